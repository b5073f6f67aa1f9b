import PyProof.Rows.All
import Wide.All
import OpenK.AllK
import Wide.FinOn
import Lean
import PyProof.EqAt
import PyProof.EqKinds
import PyProof.TupleCall
import KE.KLam
import PyProof.ZipIter
import PyProof.WalksEnum
import PyProof.WalkInts
import PyProof.SeqI3
import PyProof.Rows.SeqMore
import PyProof.Rows.SortWalk
import PyProof.Draws
import PyProof.EnumMake
import PyProof.DictIter
import KE.KSortTup
import PyProof.Rows.SeqMore2
import PyProof.Rows.RuleIs
import PyProof.Rows.SetFrom
import PyProof.WalksMore
import PyProof.MinMaxWalk
import OpenK.KMore
import PyProof.Rows.SortRuns
import PyProof.Rows.SortRunsK
import KE.KDictSum
import PySem.Challenge.RW_tiefold_k21_whole_knots_and_hues
-- CHANGE: your row's module here,as the last of these rows
set_option genSizeOfSpec false
set_option bootstrap.genMatcherCode false
set_option Elab.async false
set_option linter.all false
set_option maxRecDepth 100000
namespace L2
open PySem PySem.Spec PyProof.Rows
noncomputable abbrev Key:=Sum Int Str
noncomputable def Zgq:Key→Value→Bool
 | .inl k,v=>Value.isInt k v
 | .inr x,v=>Value.isStrOf x v
noncomputable def keyH (w:World):Key→Int
 | .inl k=>hashInt k
 | .inr x=>hashStr w x
theorem ZbF:∀{k:Key} {v:Value},Zgq k v=true→(∃i t,k=Sum.inl i∧v=Value.int i t)∨(∃x t,k=Sum.inr x∧v=Value.str x t)
 | .inl i,v,h=>by
  obtain ⟨t,e⟩:=Value.isInt_shape (k:=i) (v:=v) h
  exact .inl ⟨i,t,rfl,e⟩
 | .inr x,v,h=>by
  obtain ⟨t,e⟩:=Value.isStrOf_shape (x:=x) (v:=v) h
  exact .inr ⟨x,t,rfl,e⟩
theorem ZnE (i:Int) (t:Tok):Zgq (.inl i) (.int i t)=true:=by simp [Zgq,Value.isInt]
theorem ZnD (x:Str) (t:Tok):Zgq (.inr x) (.str x t)=true:=by simp [Zgq,Value.isStrOf]
theorem ZrN (a b:Int):decide ((Sum.inl a:Key)=Sum.inl b)=(a==b):=by
 by_cases e:a=b
 ·subst e;simp
 ·have h:¬(Sum.inl a:Key)=Sum.inl b:=fun q=>e (Sum.inl.inj q)
  rw [decide_eq_false h]
  exact (beq_eq_false_iff_ne.mpr e).symm
theorem ZrK (a b:Str):decide ((Sum.inr a:Key)=Sum.inr b)=decide (a=b):=by
 by_cases e:a=b
 ·subst e;simp
 ·have h:¬(Sum.inr a:Key)=Sum.inr b:=fun q=>e (Sum.inr.inj q)
  rw [decide_eq_false h,decide_eq_false e]
theorem ZrM (a:Int) (b:Str):decide ((Sum.inl a:Key)=Sum.inr b)=false:=decide_eq_false (fun q=>nomatch q)
theorem ZrL (a:Str) (b:Int):decide ((Sum.inr a:Key)=Sum.inl b)=false:=decide_eq_false (fun q=>nomatch q)
noncomputable def Zbe (prog:Program) (w:World):PySem.KeyKind prog w Key where
 is:=Zgq
 hash:=keyH w
 inj:=fun v a b ha hb=>by
  rcases ZbF ha with ⟨i,t,rfl,rfl⟩ | ⟨x,t,rfl,rfl⟩
  ·rcases ZbF hb with ⟨j,u,rfl,e⟩ | ⟨y,u,rfl,e⟩
   ·injection e with e1 _;rw [e1]
   ·exact nomatch e
  ·rcases ZbF hb with ⟨j,u,rfl,e⟩ | ⟨y,u,rfl,e⟩
   ·exact nomatch e
   ·injection e with e1 _;rw [e1]
 byValue:=fun k v h=>by
  rcases ZbF h with ⟨i,t,rfl,rfl⟩ | ⟨x,t,rfl,rfl⟩ <;> rfl
 pyHash:=fun hv h=>by
  rcases ZbF hv with ⟨i,t,rfl,rfl⟩ | ⟨x,t,rfl,rfl⟩
  ·exact wpAny_pyHash_int h
  ·exact wpAny_pyHash_str h
 eqBool:=fun hu hv h=>by
  rcases ZbF hu with ⟨i,t,rfl,rfl⟩ | ⟨x,t,rfl,rfl⟩
  ·rcases ZbF hv with ⟨j,u,rfl,rfl⟩ | ⟨y,u,rfl,rfl⟩
   ·rw [ZrN] at h;exact wpAny_eqBool_int h
   ·rw [ZrM] at h;exact SeqAt.EqAt.int_str i t y u _ _ _ _ h
  ·rcases ZbF hv with ⟨j,u,rfl,rfl⟩ | ⟨y,u,rfl,rfl⟩
   ·rw [ZrL] at h;exact SeqAt.EqAt.str_int x t j u _ _ _ _ h
   ·rw [ZrK] at h;exact wpAny_eqBool_str h
 «strs»:=fun k x t v h=>by
  rcases ZbF h with ⟨i,u,rfl,e⟩ | ⟨y,u,rfl,e⟩
  ·exact nomatch e
  ·injection e with e1 _
   subst e1
   cases v <;> rfl
theorem ZkQ (prog:Program) (w:World) (i:Int) (t:Tok):(Zbe prog w).is (.inl i) (.int i t)=true:=ZnE i t
theorem ZkP (prog:Program) (w:World) (x:Str) (t:Tok):(Zbe prog w).is (.inr x) (.str x t)=true:=ZnD x t
end L2
namespace L2
open PySem PySem.Spec PyProof.Rows
inductive V where
 | non | bl (b:Bool) | int (i:Int) | str (x:Str) | byt (b:Array UInt8) | flt (b:UInt64) | ref (a:Addr) | ty (n:String)
 deriving DecidableEq
noncomputable def RelV:V→Value→Prop
 | .non,u=>u=Value.none
 | .bl b,u=>u=Value.bool b
 | .int i,u=>∃t,u=Value.int i t
 | .str x,u=>∃t,u=Value.str x t
 | .byt b,u=>∃t,u=Value.bytes b t
 | .flt b,u=>∃t,u=Value.float b t
 | .ref a,u=>u=Value.ref a
 | .ty n,u=>u=Value.type n
noncomputable abbrev Vals:List V→List Value→Prop:=Paired RelV
theorem Vals.length {xs:List V} {us:List Value} (r:Vals xs us):xs.length=us.length:=Paired.length r
theorem Vals.get:∀{xs:List V} {us:List Value} {i:Nat} {x:V},Vals xs us→xs[i]?=some x→∃u,us[i]?=some u∧RelV x u
 | _,_,_,_,.nil,e=>by simp at e
 | _,_,0,_,.cons r _,e=>by simp at e;subst e;exact ⟨_,rfl,r⟩
 | _,_,i+1,x,.cons _ t,e=>by
  obtain ⟨u,h1,h2⟩:=Vals.get (i:=i) (x:=x) t (by simpa using e)
  exact ⟨u,by simpa using h1,h2⟩
theorem Vals.set {x:V} {u:Value} (r:RelV x u):∀{xs:List V} {us:List Value} (i:Nat),Vals xs us→Vals (xs.set i x) (us.set i u)
 | _,_,_,.nil=>.nil
 | _,_,0,.cons _ t=>.cons r t
 | _,_,i+1,.cons q t=>.cons q (Vals.set r i t)
theorem Vals.append:∀{xs ys:List V} {us ws:List Value},Vals xs us→Vals ys ws→Vals (xs++ys) (us++ws)
 | _,_,_,_,.nil,s=>s
 | _,_,_,_,.cons r t,s=>.cons r (Vals.append t s)
noncomputable def RelO:Option V→Option Value→Prop
 | some v,some u=>RelV v u
 | none,none=>True
 | _,_=>False
noncomputable def KV {κ:Type}:List (κ×V)→List (κ×Value)→Prop:=Paired fun (p:κ×V) (q:κ×Value)=>p.1=q.1∧RelV p.2 q.2
noncomputable def kV:Key→V
 | .inl i=>.int i
 | .inr x=>.str x
inductive HO where
 | lst (xs:List V)
 | tup (xs:List V)
 | dK (kvs:List (Key×V)) | dT (kvs:List (List Key×V))
 | set (S:Int→Bool) (n:Nat)
 | ins (C dx:Addr) (fs:List (Str×V))
 | own (x:Addr)
 | xd (fs:List (Str×V))
 | met (f x:Addr)
 | rng (lo hi:Int)
 | frz (o:Obj) (u:HO)
 | tbl (ps:Array Value)
 | ext (φ:Heap→Prop)
noncomputable abbrev Hp:=Addr→Option HO
noncomputable def upd (H:Hp) (a:Addr) (o:HO):Hp:=fun b=>if b=a then some o else H b
theorem Zaq {H:Hp} {a:Addr} {o:HO}:upd H a o a=some o:=by unfold upd;rw [if_pos rfl]
theorem Zaj {H:Hp} {a b:Addr} {o:HO} (h:b≠a):upd H a o b=H b:=by unfold upd;rw [if_neg h]
theorem ZhZ {H:Hp} {a:Addr} {o u:HO}:upd (upd H a o) a u=upd H a u:=by
 funext b;unfold upd;split <;> rfl
theorem Zpz {H:Hp} {a b:Addr} {o u:HO} (h:H a=some o) (h':H b=some u) (d:o≠u):a≠b:=by
 intro e;subst e;rw [h] at h';exact d (Option.some.inj h')
theorem Zas {H:Hp} {a b:Addr} {o:HO} (h:H a=some o) (h':H b=none):a≠b:=by
 intro e;subst e;rw [h] at h';cases h'
section
variable (P:Program) (w:World)
noncomputable def Za9 (H:Hp) (h:Heap) (a:Addr):HO→Prop
 | .lst xs=>xs.length≤sizeLine∧∃(its:List Value) (n:Nat),Vals xs its∧h.get? a=some { cls:=.type "list",data:=.seq its.toArray n }
 | .tup xs=>xs.length≤sizeLine∧∃its:List Value,Vals xs its∧IsTup h a its.toArray
 | .dK kvs=>kvs.length≤sizeLine∧(a==sysModules)=false∧∃vs,KV kvs vs∧h.DictOf (Zbe P w) a vs
 | .dT kvs=>kvs.length≤sizeLine∧(a==sysModules)=false∧∃xs:List (List Key×Addr×Value),
   Paired (fun (p:List Key×V) (q:List Key×Addr×Value)=>p.1=q.1∧H q.2.1=some (.tup (p.1.map kV))∧RelV p.2 q.2.2) kvs xs∧
   ∃o es ep,h.get? a=some o∧o.ExactDict∧o.data=.dict es ep∧es.toList=xs.map (entryOfKey (tupleKind (Zbe P w)))∧(xs.map (·.1)).Nodup
 | .set S n=>h.SetOf (intKind P w) a S n
 | .ins C dx fs=>H dx=some (.own a)∧fs.length≤1000∧dx≠a∧h.get? a=some (PySem.W.instObj C dx)∧
   ∃mA,h.Ns1 dx mA∧(∀f,RelO (fs.lookup f) (mA f))∧PySem.Within mA (fs.map (·.1))
 | .own _=>∃o,h.get? a=some o
 | .xd fs=>∃mA,h.Ns1 a mA∧∀f,RelO (fs.lookup f) (mA f)
 | .rng lo hi=>∃t u v,h.get? a=some { cls:=.type "range",data:=.fields #[.int lo t,.int hi u,.int 1 v] }
 | .frz o u=>h.get? a=some o∧Za9 H h a u
 | .tbl ps=>h.get? a=some { cls:=.none,data:=.fields ps }
 | .met f x=>h.get? a=some (PySem.W.methodObj (.ref f) (.ref x))
 | .ext φ=>φ h∧(∃o,h.get? a=some o)∧∀h1 h2:Heap,φ h1→(∀o,h1.get? a=some o→h2.get? a=some o)→φ h2
noncomputable def HOk (H:Hp) (h:Heap):Prop:=∀a o,H a=some o→Za9 P w H h a o
end
section
variable {P:Program} {w:World} {H H':Hp} {h h':Heap} {a:Addr} {o:HO}
theorem Za9.lt (x:Za9 P w H h a o):a<h.objs.size:=by
 cases o with
 | lst xs=>obtain ⟨_,_,_,_,e⟩:=x;exact Heap.lt_size e
 | tup xs=>obtain ⟨_,_,_,p⟩:=x;exact p.lt
 | dK kvs=>obtain ⟨_,_,_,_,o,_,_,e,_⟩:=x;exact Heap.lt_size e
 | dT kvs=>obtain ⟨_,_,_,_,o,_,_,e,_⟩:=x;exact Heap.lt_size e
 | set S n=>obtain ⟨o,_,_,_,e,_⟩:=x;exact Heap.lt_size e
 | ins C dx fs=>obtain ⟨_,_,_,e,_⟩:=x;exact Heap.lt_size e
 | own y=>obtain ⟨_,e⟩:=x;exact Heap.lt_size e
 | xd fs=>obtain ⟨_,⟨_,_,_,e,_⟩,_⟩:=x;exact Heap.lt_size e
 | rng lo hi=>obtain ⟨_,_,_,e⟩:=x;exact Heap.lt_size e
 | frz ob u=>obtain ⟨e,_⟩:=x;exact Heap.lt_size e
 | tbl ps=>exact Heap.lt_size (show h.get? a=some _ from x)
 | met f y=>exact Heap.lt_size (show h.get? a=some _ from x)
 | ext φ=>obtain ⟨_,⟨_,e⟩,_⟩:=x;exact Heap.lt_size e
theorem Paired.mapP {α β:Type} {F G:α→β→Prop}:∀{l₁:List α} {l₂:List β},Paired F l₁ l₂→(∀a b,F a b→G a b)→Paired G l₁ l₂
 | _,_,.nil,_=>.nil
 | _,_,.cons r t,f=>.cons (f _ _ r) (Paired.mapP t f)
theorem Za9.stay (x:Za9 P w H h a o) (k:∀b u,(b=a∨H b=some (.own a))→h.get? b=some u→h'.get? b=some u)
  (ho:∀b,H b=some (.own a)→H' b=some (.own a)) (ht:∀b xs,H b=some (.tup xs)→H' b=some (.tup xs)):Za9 P w H' h' a o:=by
 induction o with
 | lst xs=>obtain ⟨z,its,n,r,e⟩:=x;exact ⟨z,its,n,r,k _ _ (.inl rfl) e⟩
 | tup xs=>obtain ⟨z,its,r,ob,e,c⟩:=x;exact ⟨z,its,r,ob,k _ _ (.inl rfl) e,c⟩
 | dK kvs=>obtain ⟨z,y,vs,r,ob,es,ep,e,c⟩:=x;exact ⟨z,y,vs,r,ob,es,ep,k _ _ (.inl rfl) e,c⟩
 | dT kvs=>
  obtain ⟨z,y,xs,r,ob,es,ep,e,c⟩:=x
  exact ⟨z,y,xs,Paired.mapP r fun p q z=>⟨z.1,ht _ _ z.2.1,z.2.2⟩,ob,es,ep,k _ _ (.inl rfl) e,c⟩
 | set S n=>obtain ⟨ob,es,ep,t,e,c⟩:=x;exact ⟨ob,es,ep,t,k _ _ (.inl rfl) e,c⟩
 | ins C dx fs=>
  obtain ⟨d,z,ne,e,mA,⟨od,es,ep,e2,c⟩,r⟩:=x
  exact ⟨ho _ d,z,ne,k _ _ (.inl rfl) e,mA,⟨od,es,ep,k _ _ (.inr d) e2,c⟩,r⟩
 | own y=>obtain ⟨ob,e⟩:=x;exact ⟨ob,k _ _ (.inl rfl) e⟩
 | xd fs=>obtain ⟨mA,⟨od,es,ep,e,c⟩,r⟩:=x;exact ⟨mA,⟨od,es,ep,k _ _ (.inl rfl) e,c⟩,r⟩
 | rng lo hi=>obtain ⟨t,u,v,e⟩:=x;exact ⟨t,u,v,k _ _ (.inl rfl) e⟩
 | frz ob u ih=>obtain ⟨e,q⟩:=x;exact ⟨k _ _ (.inl rfl) e,ih q⟩
 | tbl ps=>
  have e:h.get? a=some { cls:=.none,data:=.fields ps }:=x
  show h'.get? a=some { cls:=.none,data:=.fields ps }
  exact k a _ (.inl rfl) e
 | met f y=>
  have e:h.get? a=some (PySem.W.methodObj (.ref f) (.ref y)):=x
  show h'.get? a=some (PySem.W.methodObj (.ref f) (.ref y))
  exact k a _ (.inl rfl) e
 | ext φ=>obtain ⟨p,⟨o,e⟩,st⟩:=x;exact ⟨st _ _ p fun o q=>k _ _ (.inl rfl) q,⟨o,k _ _ (.inl rfl) e⟩,st⟩
theorem HOk.lt (x:HOk P w H h) (e:H a=some o):a<h.objs.size:=(x a o e).lt
theorem HOk.fresh (x:HOk P w H h) (e:h.objs.size≤a):H a=none:=by
 cases q:H a with
 | none=>rfl
 | some u=>exact absurd (Nat.lt_of_lt_of_le (x.lt q) e) (Nat.lt_irrefl _)
theorem HOk.kept (x:HOk P w H h) (k:∀b u,h.get? b=some u→h'.get? b=some u):HOk P w H h':=fun a o e=>
 (x a o e).stay (fun b u _ q=>k b u q) (fun _ q=>q) fun _ _ q=>q
theorem HOk.laid (x:HOk P w H h) (k:∀b u,h.get? b=some u→h'.get? b=some u) (hp:h.objs.size≤a) (new:Za9 P w (upd H a o) h' a o):HOk P w (upd H a o) h':=fun b u e=>by
 have hn:=x.fresh hp
 by_cases hb:b=a
 ·subst hb;rw [Zaq] at e;cases e;exact new
 ·rw [Zaj hb] at e
  exact (x b u e).stay (fun c v _ q=>k c v q) (fun c q=>by rw [Zaj (Zas q hn)];exact q) fun c xs q=>by rw [Zaj (Zas q hn)];exact q
end
noncomputable def Rd (H:Hp) (a:Addr) (u:HO):Prop:=H a=some u∨∃o,H a=some (.frz o u)
theorem Rd.of {H:Hp} {a:Addr} {u:HO} (h:H a=some u):Rd H a u:=.inl h
theorem Rd.ok {P:Program} {w:World} {H:Hp} {h:Heap} {a:Addr} {u:HO} (r:Rd H a u) (x:HOk P w H h):Za9 P w H h a u:=by
 rcases r with r | ⟨o,r⟩
 ·exact x a u r
 ·obtain ⟨_,q⟩:=x a _ r
  exact q
noncomputable def Mut:Option HO→Prop
 | some (.lst _)=>True
 | some (.dK _)=>True
 | some (.dT _)=>True
 | some (.set _ _)=>True
 | some (.ins _ _ _)=>True
 | some (.ext _)=>True
 | _=>False
section
variable {P:Program} {w:World} {H:Hp} {h h':Heap} {x e:Addr} {o':HO}
theorem HOk.write (ok:HOk P w H h) (mu:Mut (H x)) (he:e=x∨H e=some (.own x)) (k:∀b u,b≠e→h.get? b=some u→h'.get? b=some u) (heo:∃u,h'.get? e=some u)
  (new:Za9 P w (upd H x o') h' x o'):HOk P w (upd H x o') h':=fun b u q=>by
 have nown:∀c y,H c=some (.own y)→c≠x:=fun c y r z=>by subst z;rw [r] at mu;exact mu
 have ntup:∀c xs,H c=some (.tup xs)→c≠x:=fun c xs r z=>by subst z;rw [r] at mu;exact mu
 by_cases hb:b=x
 ·subst hb;rw [Zaq] at q;cases q;exact new
 ·rw [Zaj hb] at q
  by_cases hbe:b=e
  ·have q':H b=some (.own x):=by
    rcases he with z | z
    ·exact absurd (hbe.trans z) hb
    ·rw [hbe];exact z
   rw [q] at q';cases q'
   obtain ⟨v,hv⟩:=heo
   exact ⟨v,by rw [hbe];exact hv⟩
  ·refine (ok b u q).stay (fun c v hc r=>k c v ?_ r) (fun c r=>by rw [Zaj (nown c b r)];exact r) fun c xs r=>by rw [Zaj (ntup c xs r)];exact r
   rcases hc with rfl | hc
   ·exact hbe
   ·rintro rfl
    rcases he with z | z
    ·exact nown c b hc z
    ·rw [hc] at z;cases z;exact hb rfl
end
structure Un (fs ex:List Addr) (H H':Hp) (h h':Heap):Prop where
 keep:∀b o,h.get? b=some o→H b=none→b∉fs→b∉ex→h'.get? b=some o
 slot:∀b o,h.get? b=some o→H b=none→b∈fs→b∉ex→∃sl,h'.get? b=some { o with slots:=sl }
 free:∀b o,h.get? b=some o→H b=none→b∉ex→H' b=none
 there:∀b o,h.get? b=some o→b∉ex→∃o',h'.get? b=some o'
 tups:∀b xs,H b=some (.tup xs)→H' b=some (.tup xs)
 frzs:∀b o u,H b=some (.frz o u)→H' b=some (.frz o u)
 tbls:∀b ps,H b=some (.tbl ps)→∃more,H' b=some (.tbl (ps++more))
section
variable {fs fs' ex ex':List Addr} {H H1 H2:Hp} {h h1 h2 h':Heap} {a x e:Addr} {o:HO}
theorem Un.any (u:Un fs ex H H1 h h1) {b:Addr} {ob:Obj} (q:h.get? b=some ob) (n:H b=none) (hx:b∉ex):∃sl,h1.get? b=some { ob with slots:=sl }:=by
 by_cases hb:b∈fs
 ·exact u.slot b ob q n hb hx
 ·exact ⟨ob.slots,u.keep b ob q n hb hx⟩
theorem Un.kept (k:∀b u,h.get? b=some u→h'.get? b=some u):Un fs ex H H h h':=
 ⟨fun b ob q _ _ _=>k b ob q,fun b ob q _ _ _=>⟨ob.slots,k b ob q⟩,fun _ _ _ n _=>n,fun b ob q _=>⟨ob,k b ob q⟩,fun _ _ q=>q,fun _ _ _ q=>q,fun _ ps q=>⟨#[],by rw [q];simp⟩⟩
theorem Un.refl:Un fs ex H H h h:=Un.kept fun _ _ q=>q
theorem Un.laid (k:∀b u,h.get? b=some u→h'.get? b=some u) (hp:h.objs.size≤a) (hn:H a=none):Un fs ex H (upd H a o) h h' where
 keep:=fun b u q _ _ _=>k b u q
 slot:=fun b u q _ _ _=>⟨u.slots,k b u q⟩
 free:=fun b u q n _=>by rw [Zaj (Nat.ne_of_lt (Nat.lt_of_lt_of_le (Heap.lt_size q) hp))];exact n
 there:=fun b u q _=>⟨u,k b u q⟩
 tups:=fun b xs q=>by rw [Zaj (Zas q hn)];exact q
 frzs:=fun b u xs q=>by rw [Zaj (Zas q hn)];exact q
 tbls:=fun b ps q=>⟨#[],by rw [Zaj (Zas q hn),q];simp⟩
theorem Un.write (mu:Mut (H x)) (he:e=x∨H e=some (.own x)) (k:∀b u,b≠e→h.get? b=some u→h'.get? b=some u) (heo:∃u,h'.get? e=some u):Un fs ex H (upd H x o) h h':=by
 have hx:∀b,H b=none→b≠x:=fun b n z=>by subst z;rw [n] at mu;exact mu
 have hb:∀b,H b=none→b≠e:=fun b n z=>by
  subst z
  rcases he with r | r
  ·exact hx b n r
  ·rw [n] at r;cases r
 have hm:∀b u,H b=some u→¬Mut (some u)→b≠x:=fun b u q nm z=>by subst z;rw [q] at mu;exact nm mu
 refine ⟨fun b u q n _ _=>k b u (hb b n) q,fun b u q n _ _=>⟨u.slots,k b u (hb b n) q⟩,fun b u q n _=>by rw [Zaj (hx b n)];exact n,fun b u q _=>?_,
  fun b xs q=>by rw [Zaj (hm b _ q fun z=>z)];exact q,fun b u xs q=>by rw [Zaj (hm b _ q fun z=>z)];exact q,fun b ps q=>⟨#[],by rw [Zaj (hm b _ q fun z=>z),q];simp⟩⟩
 by_cases hbe:b=e
 ·subst hbe;exact heo
 ·exact ⟨u,k b u hbe q⟩
end
noncomputable def trk (h:Heap) (H:Hp):List Addr:=(List.range h.objs.size).filter fun a=>(H a).isSome
noncomputable def hidT (h:Heap) (H:Hp):Heap:=PySem.W.hideAll h (trk h H)
theorem ZnQ (h:Heap) (H:Hp):(hidT h H).objs.size=h.objs.size:=PySem.W.hideAll_size _ _
theorem Zpa {h:Heap} {H:Hp} {b:Addr} {o:Obj} (e:h.get? b=some o) (n:H b=none):(hidT h H).get? b=some o:=
 PySem.W.hideAll_get _ e fun hm=>by
  have q:(H b).isSome=true:=(List.mem_filter.mp hm).2
  rw [n] at q;simp at q
theorem Zqx {h:Heap} {H:Hp} {b:Addr} {o:Obj} (e:(hidT h H).get? b=some o):h.get? b=some o∧H b=none:=by
 have e':h.get? b=some o:=PySem.W.of_hideAll (trk h H) e
 refine ⟨e',?_⟩
 cases q:H b with
 | none=>rfl
 | some x=>
  have hm:b∈trk h H:=List.mem_filter.mpr ⟨List.mem_range.mpr (Heap.lt_size e'),by simp [q]⟩
  have z:(hidT h H).get? b=none:=PySem.W.hideAll_none (trk h H) hm
  rw [z] at e;cases e
end L2
namespace L2
open PySem PySem.Spec PyProof.Rows
structure Mod (K:PySem.W.Frag) (mg:Str→Option Value) (base:Heap):Prop where
 kin:K.In base
 glob:base.Ns mainGlobals mg
 blt:∃mb,base.Ns builtinsNs mb∧∀x:Str,x≠"__name__"→mb x=bootBuiltins x
 nolimit:base.NoLimit
structure Cx where
 prog:Program
 w:World
 K:PySem.W.Frag
 mg:Str→Option Value
 base:Heap
 A:Around
 N:List Str
 s₀:Shared
 H₀:Hp
 env:Env
 outer:List Env
 stack:List Env
 ex:List Addr
 fn:Str→Bool
 calm:Bool
 pn:List (Addr×Obj)
 xe:Value→Shared→Prop
noncomputable def frs (l:List Env):List Addr:=l.filterMap (·.frame)
noncomputable abbrev Cx.fs (X:Cx):List Addr:=frs X.outer
noncomputable def Vis (sc:Scope) (x:Str):Prop:=sc.names.lookup x=some .local∨sc.names.lookup x=some .cell∨sc.names.lookup x=some .free
noncomputable def Loc (sc:Scope) (x:Str):Prop:=sc.names.lookup x=some .local∨sc.names.lookup x=some .cell
noncomputable def Look (env:Env) (h:Heap) (m:Str→Option Value) (x:Str) (u:Value):Prop:=
 (env.kindOf x=some .local∧m x=some u)∨((env.kindOf x=some .cell∨env.kindOf x=some .free)∧∃c,env.cells.lookup x=some c∧h.IsCell c (some u))
structure Cx.Ok (X:Cx):Prop where
 mod:Mod X.K X.mg X.base
 kind:X.env.scope.kind=.function
 glob:X.env.globals=mainGlobals
 blt:X.env.builtins=builtinsNs
 above:X.s₀.heap.objs.size≤X.env.locals
 inj:∀x y c,X.env.cells.lookup x=some c→X.env.cells.lookup y=some c→x=y
 has:∀x,(X.env.kindOf x=some .cell∨X.env.kindOf x=some .free)→∃c,X.env.cells.lookup x=some c
 cab:∀x c,X.fn x=true→X.env.cells.lookup x=some c→X.s₀.heap.objs.size≤c
 hd:X.calm=true→X.A.handled=none
 frames:X.A.frames=some X.stack
 stk:X.stack=X.outer∨(X.stack=X.env::X.outer∧X.env.frame=some X.env.locals)
 exf:∀b∈X.ex,b≠X.env.locals∧∀x c,X.env.cells.lookup x=some c→c≠b
 bs:∀b o,X.base.get? b=some o→X.s₀.heap.get? b=some o∧X.H₀ b=none
 bsz:X.base.objs.size≤X.s₀.heap.objs.size
 noex:∀b o,X.base.get? b=some o→b∉X.ex
 exfs:∀b∈X.ex,b∉X.fs
 funs:X.s₀.heap.FunFrames X.base X.outer
 frf:∀b∈X.fs,X.H₀ b=none
structure Inv (X:Cx) (pins:List (Addr×Obj)) (σ:List (Option V)) (H:Hp) (s:Shared):Prop where
 ok:X.Ok
 os:s.os=X.s₀.os
 bare:AllBare s.gens
 base:Un X.fs X.ex X.H₀ H X.s₀.heap s.heap
 loc:∃m,s.heap.Ns X.env.locals m∧∀(i:Nat) (x:Str) (v:V),X.N[i]?=some x→σ[i]?=some (some v)→Vis X.env.scope x→∃u,RelV v u∧Look X.env s.heap m x u
 cell:∀x c,X.env.cells.lookup x=some c→∃v,s.heap.IsCell c v
 free:H X.env.locals=none
 freeC:∀x c,X.env.cells.lookup x=some c→H c=none
 pin:∀p∈X.pn++pins,s.heap.get? p.1=some p.2∧H p.1=none∧p.1≠X.env.locals∧p.1∉X.fs∧∀v,p.2.data≠.cell v
 hok:HOk X.prog X.w H s.heap
 len:σ.length=X.N.length
section
variable {X:Cx} {pins:List (Addr×Obj)} {σ:List (Option V)} {H H':Hp} {s:Shared} {h':Heap}
theorem Cx.Ok.nofr (ok:X.Ok) {b:Addr} {o:Obj} (e:X.base.get? b=some o):b∉X.fs:=fun hb=>by
 have:=(ok.funs.mem hb).1
 rw [e] at this;cases this
theorem Inv.bs (I:Inv X pins σ H s):∀b o,X.base.get? b=some o→s.heap.get? b=some o∧H b=none:=fun b o e=>
 ⟨I.base.keep b o (I.ok.bs b o e).1 (I.ok.bs b o e).2 (I.ok.nofr e) (I.ok.noex b o e),I.base.free b o (I.ok.bs b o e).1 (I.ok.bs b o e).2 (I.ok.noex b o e)⟩
theorem Inv.bk (I:Inv X pins σ H s):∀b o,X.base.get? b=some o→s.heap.get? b=some o:=fun b o e=>(I.bs b o e).1
theorem Inv.mod (I:Inv X pins σ H s):Mod X.K X.mg X.base:=I.ok.mod
theorem Inv.kIn (I:Inv X pins σ H s):X.K.In s.heap:=I.ok.mod.kin.keeps I.bk
theorem Inv.lt (I:Inv X pins σ H s):X.env.locals<s.heap.objs.size:=let ⟨_,hn,_⟩:=I.loc;hn.lt
theorem Inv.sz (I:Inv X pins σ H s):X.s₀.heap.objs.size≤s.heap.objs.size:=Nat.le_trans I.ok.above (Nat.le_of_lt I.lt)
theorem Inv.nofs (I:Inv X pins σ H s) {a:Addr} (h:s.heap.objs.size≤a):a∉X.fs:=fun hb=>by
 obtain ⟨_,o,ho,_⟩:=I.ok.funs.mem hb
 exact absurd (Nat.lt_of_lt_of_le (Heap.lt_size ho) (Nat.le_trans I.sz h)) (Nat.lt_irrefl _)
theorem Inv.cne (I:Inv X pins σ H s):∀x c,X.env.cells.lookup x=some c→c≠X.env.locals:=fun x c e z=>by
 obtain ⟨v,o,ho,hd⟩:=I.cell x c e
 obtain ⟨m,⟨o',es,ep,ho',hd',_⟩,_⟩:=I.loc
 rw [z,ho'] at ho;cases ho;rw [hd'] at hd;cases hd
theorem Inv.funs (I:Inv X pins σ H s):s.heap.FunFrames X.base X.outer:=by
 have all:∀(l:List Env),(∀b∈frs l,b∈X.fs)→X.s₀.heap.FunFrames X.base l→s.heap.FunFrames X.base l:=by
  intro l
  induction l with
  | nil=>intro _ _;trivial
  | cons env r ih=>
   intro hs hl
   obtain ⟨hk,⟨L,o,hf,hn,ho,hd⟩,hr⟩:=hl
   have hL:L∈X.fs:=hs L (by unfold frs;rw [List.filterMap_cons,hf];exact List.mem_cons_self)
   obtain ⟨sl,e⟩:=I.base.slot L o ho (I.ok.frf L hL) hL fun z=>I.ok.exfs L z hL
   exact ⟨hk,⟨L,_,hf,hn,e,hd⟩,ih (fun b hb=>hs b (by unfold frs;rw [List.filterMap_cons,hf];exact List.mem_cons_of_mem _ hb)) hr⟩
 exact all X.outer (fun _ hb=>hb) I.ok.funs
theorem Inv.stack (I:Inv X pins σ H s):s.heap.FunFrames X.base X.stack:=by
 rcases I.ok.stk with e | ⟨e,hf⟩
 ·rw [e];exact I.funs
 ·rw [e]
  obtain ⟨m,hn,_⟩:=I.loc
  refine .cons (by rw [I.ok.kind];decide) hf hn ?_ I.funs
  exact Heap.get?_none_of_le (Nat.le_trans I.ok.bsz I.ok.above)
theorem Inv.stkSub (I:Inv X pins σ H s):∀b∈frs X.stack,b∈X.env.locals::X.fs:=fun b hb=>by
 rcases I.ok.stk with e | ⟨e,hf⟩
 ·rw [e] at hb;exact List.mem_cons_of_mem _ hb
 ·rw [e] at hb
  unfold frs at hb
  rw [List.filterMap_cons,hf] at hb
  exact hb
theorem Inv.stkFree (I:Inv X pins σ H s):∀b∈frs X.stack,H b=none:=fun b hb=>by
 rcases List.mem_cons.mp (I.stkSub b hb) with e | hb
 ·rw [e];exact I.free
 ·obtain ⟨_,o,ho,_⟩:=I.ok.funs.mem hb
  exact I.base.free b o ho (I.ok.frf b hb) fun z=>I.ok.exfs b z hb
theorem Inv.step {g':Array GenState} {t':Nat} {d':Drawn} {ch:List Addr} (I:Inv X pins σ H s)
  (hch:∀b∈ch,(b∈X.ex∨X.s₀.heap.objs.size≤b)∧b≠X.env.locals∧(∀x c,X.env.cells.lookup x=some c→c≠b)∧∀p∈X.pn++pins,p.1≠b)
  (keep:∀b o,b≠X.env.locals→b∉X.fs→b∉ch→s.heap.get? b=some o→H b=none→h'.get? b=some o)
  (slot:∀b o,b≠X.env.locals→b∈X.fs→b∉ch→s.heap.get? b=some o→H b=none→∃sl,h'.get? b=some { o with slots:=sl }) (free:∀b o,b∉ch→s.heap.get? b=some o→H b=none→H' b=none)
  (there:∀b o,b∉ch→s.heap.get? b=some o→∃o',h'.get? b=some o')
  (tups:∀b xs,H b=some (.tup xs)→H' b=some (.tup xs)) (frzs:∀b o u,H b=some (.frz o u)→H' b=some (.frz o u)) (tbls:∀b ps,H b=some (.tbl ps)→∃more,H' b=some (.tbl (ps++more)))
  (ns:∀m,s.heap.Ns X.env.locals m→h'.Ns X.env.locals m) (hok:HOk X.prog X.w H' h') (hg:AllBare g') :
  Inv X pins σ H' { s with heap:=h',gens:=g',drawn:=d',toks:=t' }:=by
 have neL:∀b o,X.s₀.heap.get? b=some o→b≠X.env.locals:=fun b o e=>Nat.ne_of_lt (Nat.lt_of_lt_of_le (Heap.lt_size e) I.ok.above)
 have neC:∀b o,X.s₀.heap.get? b=some o→b∉X.ex→b∉ch:=fun b o e hx hb=>by
  rcases (hch b hb).1 with z | z
  ·exact hx z
  ·exact absurd (Nat.lt_of_lt_of_le (Heap.lt_size e) z) (Nat.lt_irrefl _)
 have cellK:∀x c,X.env.cells.lookup x=some c→∀v,s.heap.IsCell c v→h'.IsCell c v:=fun x c e v ⟨o,ho,hd⟩=>by
  have nch:c∉ch:=fun z=>(hch c z).2.2.1 x c e rfl
  by_cases hc:c∈X.fs
  ·obtain ⟨sl,q⟩:=slot c o (I.cne x c e) hc nch ho (I.freeC x c e)
   exact ⟨_,q,hd⟩
  ·exact ⟨o,keep c o (I.cne x c e) hc nch ho (I.freeC x c e),hd⟩
 refine ⟨I.ok,I.os,hg,⟨fun b o e n hb hx=>?_,fun b o e n hb hx=>?_,fun b o e n hx=>?_,fun b o e hx=>?_,fun b xs e=>tups b xs (I.base.tups b xs e),fun b o xs e=>frzs b o xs (I.base.frzs b o xs e),fun b ps e=>?_⟩,?_,fun x c e=>?_,?_,fun x c e=>?_,fun p hp=>?_,hok,I.len⟩
 ·exact keep b o (neL b o e) hb (neC b o e hx) (I.base.keep b o e n hb hx) (I.base.free b o e n hx)
 ·obtain ⟨sl,e1⟩:=I.base.slot b o e n hb hx
  obtain ⟨sl',e2⟩:=slot b _ (neL b o e) hb (neC b o e hx) e1 (I.base.free b o e n hx)
  exact ⟨sl',e2⟩
 ·obtain ⟨o',e1⟩:=I.base.there b o e hx
  exact free b o' (neC b o e hx) e1 (I.base.free b o e n hx)
 ·obtain ⟨o',e1⟩:=I.base.there b o e hx
  exact there b o' (neC b o e hx) e1
 ·obtain ⟨m1,e1⟩:=I.base.tbls b ps e
  obtain ⟨m2,e2⟩:=tbls b _ e1
  exact ⟨m1++m2,by rw [e2,Array.append_assoc]⟩
 ·obtain ⟨m,hn,hl⟩:=I.loc
  refine ⟨m,ns m hn,fun i x v e1 e2 e3=>?_⟩
  obtain ⟨u,r,l⟩:=hl i x v e1 e2 e3
  refine ⟨u,r,?_⟩
  rcases l with l | ⟨k,c,e,z⟩
  ·exact .inl l
  ·exact .inr ⟨k,c,e,cellK x c e _ z⟩
 ·obtain ⟨v,z⟩:=I.cell x c e
  exact ⟨v,cellK x c e v z⟩
 ·obtain ⟨m,⟨o,_,_,ho,_⟩,_⟩:=I.loc
  exact free _ o (fun z=>(hch _ z).2.1 rfl) ho I.free
 ·obtain ⟨v,o,ho,hd⟩:=I.cell x c e
  exact free c o (fun z=>(hch c z).2.2.1 x c e rfl) ho (I.freeC x c e)
 ·obtain ⟨e,n,ne,nf,d⟩:=I.pin p hp
  have nch:p.1∉ch:=fun z=>(hch p.1 z).2.2.2 p hp rfl
  exact ⟨keep p.1 p.2 ne nf nch e n,free p.1 p.2 nch e n,ne,nf,d⟩
theorem Inv.un {t':Nat} (I:Inv X pins σ H s) (u:Un X.fs [] H H' s.heap h') (hok:HOk X.prog X.w H' h'):Inv X pins σ H' { s with heap:=h',toks:=t' }:=by
 obtain ⟨m,⟨o,es,ep,ho,r⟩,_⟩:=id I.loc
 obtain ⟨sl,hL⟩:=u.any ho I.free (by simp)
 exact I.step (g':=s.gens) (d':=s.drawn) (ch:=[]) (fun _ z=>nomatch z) (fun b o _ hb _ e n=>u.keep b o e n hb (by simp)) (fun b o _ hb _ e n=>u.slot b o e n hb (by simp)) (fun b o _ e n=>u.free b o e n (by simp)) (fun b o _ e=>u.there b o e (by simp)) u.tups u.frzs u.tbls (fun m' hm=>by
  obtain ⟨o',es',ep',ho',r'⟩:=hm
  rw [ho] at ho';cases ho'
  exact ⟨_,es',ep',hL,r'⟩) hok I.bare
theorem Inv.call {g':Array GenState} {t':Nat} {d':Drawn} {ch:List Addr} (I:Inv X pins σ H s) (u:Un (frs X.stack) ch H H' s.heap h') (hok:HOk X.prog X.w H' h') (hg:AllBare g')
  (hch:∀b∈ch,(b∈X.ex∨X.s₀.heap.objs.size≤b)∧b≠X.env.locals∧(∀x c,X.env.cells.lookup x=some c→c≠b)∧∀p∈X.pn++pins,p.1≠b) :
  Inv X pins σ H' { s with heap:=h',gens:=g',drawn:=d',toks:=t' }:=by
 obtain ⟨m,⟨o,es,ep,ho,r⟩,_⟩:=id I.loc
 obtain ⟨sl,hL⟩:=u.any ho I.free fun z=>(hch _ z).2.1 rfl
 exact I.step (ch:=ch) hch (fun b o hL hb hc e n=>u.keep b o e n (fun z=>(List.mem_cons.mp (I.stkSub b z)).elim hL hb) hc) (fun b o _ _ hc e n=>u.any e n hc) (fun b o hc e n=>u.free b o e n hc) (fun b o hc e=>u.there b o e hc) u.tups u.frzs u.tbls (fun m' hm=>by
  obtain ⟨o',es',ep',ho',r'⟩:=hm
  rw [ho] at ho';cases ho'
  exact ⟨_,es',ep',hL,r'⟩) hok hg
theorem Inv.turned {t':Nat} {it:Addr} (I:Inv X pins σ H s) (k:∀b o,b≠it→s.heap.get? b=some o→h'.get? b=some o) (hn:H it=none) (hL:it≠X.env.locals)
  (h1:it∈X.ex∨X.s₀.heap.objs.size≤it) (h2:∀x c,X.env.cells.lookup x=some c→c≠it) (h3:∀p∈X.pn++pins,p.1≠it):Inv X pins σ H { s with heap:=h',toks:=t' }:=by
 have nit:∀b u,H b=some u→b≠it:=fun b u e z=>by rw [z,hn] at e;cases e
 refine I.step (g':=s.gens) (d':=s.drawn) (ch:=[it]) (fun b hb=>?_) (fun b o _ _ hc e _=>k b o (fun z=>hc (by simp [z])) e) (fun b o _ _ hc e _=>⟨o.slots,k b o (fun z=>hc (by simp [z])) e⟩) (fun _ _ _ _ n=>n)
  (fun b o hc e=>⟨o,k b o (fun z=>hc (by simp [z])) e⟩) (fun _ _ e=>e) (fun _ _ _ e=>e) (fun b ps e=>⟨#[],by rw [e];simp⟩) (fun m hm=>?_) (fun b u e=>?_) I.bare
 ·have e:b=it:=by simpa using hb
  subst e
  exact ⟨h1,hL,h2,h3⟩
 ·obtain ⟨o,es,ep,ho,r⟩:=hm
  exact ⟨o,es,ep,k _ o (Ne.symm hL) ho,r⟩
 ·refine (I.hok b u e).stay (fun c v hc q=>k c v ?_ q) (fun _ q=>q) fun _ _ q=>q
  rcases hc with z | z
  ·rw [z];exact nit b u e
  ·exact nit c _ z
theorem Inv.tok (I:Inv X pins σ H s) (t:Nat):Inv X pins σ H { s with toks:=t }:=I.un (h':=s.heap) (t':=t) Un.refl I.hok
theorem Inv.kept {t':Nat} (I:Inv X pins σ H s) (k:∀b u,s.heap.get? b=some u→h'.get? b=some u):Inv X pins σ H { s with heap:=h',toks:=t' }:=I.un (Un.kept k) (I.hok.kept k)
theorem Inv.laid {a:Addr} {o:HO} {t':Nat} (I:Inv X pins σ H s) (k:∀b u,s.heap.get? b=some u→h'.get? b=some u) (hp:s.heap.objs.size≤a) (new:Za9 X.prog X.w (upd H a o) h' a o) :
  Inv X pins σ (upd H a o) { s with heap:=h',toks:=t' }:=I.un (Un.laid k hp (I.hok.fresh hp)) (I.hok.laid k hp new)
theorem Inv.write {x e:Addr} {o:HO} {t':Nat} (I:Inv X pins σ H s) (mu:Mut (H x)) (he:e=x∨H e=some (.own x)) (k:∀b u,b≠e→s.heap.get? b=some u→h'.get? b=some u) (heo:∃u,h'.get? e=some u)
  (new:Za9 X.prog X.w (upd H x o) h' x o):Inv X pins σ (upd H x o) { s with heap:=h',toks:=t' }:=I.un (Un.write mu he k heo) (I.hok.write mu he k heo new)
theorem Inv.pins_of {pins':List (Addr×Obj)} (I:Inv X pins σ H s) (h:∀p∈pins',s.heap.get? p.1=some p.2∧H p.1=none∧p.1≠X.env.locals∧p.1∉X.fs∧∀v,p.2.data≠.cell v):Inv X pins' σ H s:=
 ⟨I.ok,I.os,I.bare,I.base,I.loc,I.cell,I.free,I.freeC,fun p hp=>(List.mem_append.mp hp).elim (fun z=>I.pin p (List.mem_append_left _ z)) (h p),I.hok,I.len⟩
theorem ZjQ {N:List Str} (hN:N.Nodup) {i j:Nat} {x:Str} (a:N[i]?=some x) (b:N[j]?=some x):i=j:=by
 obtain ⟨h1,e1⟩:=List.getElem?_eq_some_iff.mp a
 obtain ⟨h2,e2⟩:=List.getElem?_eq_some_iff.mp b
 exact (List.getElem_inj hN).mp (e1.trans e2.symm)
theorem ZmS {M:Model} {A:Around} {E:Value→Shared→Prop} {i:Nat} {x:Str} {v:V} {u:Value} {Q:Unit→Shared→Prop} (I:Inv X pins σ H s) (hN:X.N.Nodup) (hi:X.N[i]?=some x) (hx:Loc X.env.scope x) (r:RelV v u)
  (h:∀s',Inv X pins (σ.set i (some v)) H s'→(∃a,Heap.SameBut a s.heap s'.heap∧(a=X.env.locals∨X.env.cells.lookup x=some a))→Q () s') (hf:X.fn x=true∨X.env.scope.names.lookup x=some .local:=by first | exact .inl rfl | exact .inr rfl | assumption):wpAny M A (storeName X.env x u) Q E s:=by
 obtain ⟨m,hn,hl⟩:=id I.loc
 have hcls:(X.env.scope.kind == .class||(X.env.scope.kind == .module&&X.env.locals != X.env.globals))=false:=by rw [I.ok.kind];rfl
 have hiσ:i < σ.length:=by rw [I.len];exact (List.getElem?_eq_some_iff.mp hi).1
 have cne:=I.cne
 have tracked:∀{a:Addr} {h':Heap},(∃o,s.heap.get? a=some o∧H a=none)→Heap.SameBut a s.heap h'→HOk X.prog X.w H h':=fun {a h'} ha hs b ob e=>by
  obtain ⟨_,_,hfree⟩:=ha
  refine (I.hok b ob e).stay (fun c w' hc q=>(hs.2 c ?_).trans q) (fun _ q=>q) fun _ _ q=>q
  rintro rfl
  rcases hc with rfl | hc
  ·rw [hfree] at e;cases e
  ·rw [hfree] at hc;cases hc
 rcases hx with hk | hk
 ·refine wpAny_storeName_local hk hn (fun h' hn' hs=>?_) hcls
  obtain ⟨oL,_,_,hoL,_⟩:=id hn
  refine h _ ⟨I.ok,I.os,I.bare,⟨fun b o e n hb hx=>?_,fun b o e n hb hx=>?_,I.base.free,fun b o e hx=>?_,I.base.tups,I.base.frzs,I.base.tbls⟩,⟨_,hn',fun j y v' e1 e2 e3=>?_⟩,fun y c e=>?_,I.free,I.freeC,fun p hp=>?_,tracked ⟨oL,hoL,I.free⟩ hs,by simpa using I.len⟩ ⟨_,hs,.inl rfl⟩
  ·exact (hs.2 b (Nat.ne_of_lt (Nat.lt_of_lt_of_le (Heap.lt_size e) I.ok.above))).trans (I.base.keep b o e n hb hx)
  ·obtain ⟨sl,e1⟩:=I.base.slot b o e n hb hx
   exact ⟨sl,(hs.2 b (Nat.ne_of_lt (Nat.lt_of_lt_of_le (Heap.lt_size e) I.ok.above))).trans e1⟩
  ·obtain ⟨o',e1⟩:=I.base.there b o e hx
   exact ⟨o',(hs.2 b (Nat.ne_of_lt (Nat.lt_of_lt_of_le (Heap.lt_size e) I.ok.above))).trans e1⟩
  ·by_cases hj:j=i
   ·subst hj
    rw [hi] at e1;cases e1
    rw [List.getElem?_set_self hiσ] at e2
    cases e2
    exact ⟨u,r,.inl ⟨hk,by simp⟩⟩
   ·rw [List.getElem?_set_ne (Ne.symm hj)] at e2
    obtain ⟨u',r',q⟩:=hl j y v' e1 e2 e3
    refine ⟨u',r',?_⟩
    rcases q with ⟨k,e⟩ | ⟨k,c,e,z⟩
    ·refine .inl ⟨k,?_⟩
     have:y≠x:=fun e=>hj (ZjQ hN e1 (e▸hi))
     simp [this,e]
    ·exact .inr ⟨k,c,e,z.sameBut hs (cne y c e)⟩
  ·obtain ⟨w',z⟩:=I.cell y c e
   exact ⟨w',z.sameBut hs (cne y c e)⟩
  ·obtain ⟨e,n,ne,nf,d⟩:=I.pin p hp
   exact ⟨(hs.2 p.1 ne).trans e,n,ne,nf,d⟩
 ·have hfn:X.fn x=true:=by
   rcases hf with z | z
   ·exact z
   ·rw [z] at hk;cases hk
  obtain ⟨c,hc⟩:=I.ok.has x (.inl hk)
  obtain ⟨w',z⟩:=I.cell x c hc
  refine wpAny_storeName_cell I.ok.kind hk hc z (fun h' hc' hs=>?_)
  obtain ⟨oc,hoc,hocd⟩:=id z
  refine h { s with heap:=h' } ⟨I.ok,I.os,I.bare,⟨fun b o e n hb hx=>?_,fun b o e n hb hx=>?_,I.base.free,fun b o e hx=>?_,I.base.tups,I.base.frzs,I.base.tbls⟩,⟨m,hn.sameBut hs (Ne.symm (cne x c hc)),fun j y v' e1 e2 e3=>?_⟩,fun y c' e=>?_,I.free,I.freeC,fun p hp=>?_,tracked ⟨oc,hoc,I.freeC x c hc⟩ hs,by simpa using I.len⟩ ⟨c,hs,.inr hc⟩
  ·exact (hs.2 b (Nat.ne_of_lt (Nat.lt_of_lt_of_le (Heap.lt_size e) (I.ok.cab x c hfn hc)))).trans (I.base.keep b o e n hb hx)
  ·obtain ⟨sl,e1⟩:=I.base.slot b o e n hb hx
   exact ⟨sl,(hs.2 b (Nat.ne_of_lt (Nat.lt_of_lt_of_le (Heap.lt_size e) (I.ok.cab x c hfn hc)))).trans e1⟩
  ·obtain ⟨o',e1⟩:=I.base.there b o e hx
   exact ⟨o',(hs.2 b (Nat.ne_of_lt (Nat.lt_of_lt_of_le (Heap.lt_size e) (I.ok.cab x c hfn hc)))).trans e1⟩
  ·by_cases hj:j=i
   ·subst hj
    rw [hi] at e1;cases e1
    rw [List.getElem?_set_self hiσ] at e2
    cases e2
    exact ⟨u,r,.inr ⟨.inl hk,c,hc,hc'⟩⟩
   ·rw [List.getElem?_set_ne (Ne.symm hj)] at e2
    obtain ⟨u',r',q⟩:=hl j y v' e1 e2 e3
    refine ⟨u',r',?_⟩
    rcases q with q | ⟨k,c',e,z'⟩
    ·exact .inl q
    ·refine .inr ⟨k,c',e,z'.sameBut hs ?_⟩
     rintro rfl
     exact hj (ZjQ hN e1 (I.ok.inj _ _ _ e hc▸hi))
  ·by_cases hcc:c'=c
   ·subst hcc;exact ⟨_,hc'⟩
   ·obtain ⟨w2,z2⟩:=I.cell y c' e
    exact ⟨w2,z2.sameBut hs hcc⟩
  ·obtain ⟨e,n,ne,nf,d⟩:=I.pin p hp
   refine ⟨(hs.2 p.1 ?_).trans e,n,ne,nf,d⟩
   intro q
   rw [q,hoc] at e
   have q':oc=p.2:=Option.some.inj e
   exact d w' (by rw [←q'];exact hocd)
theorem ZgU {M:Model} {A:Around} {E:Value→Shared→Prop} {i:Nat} {x:Str} {v:V} {u:Value} {Q:Unit→Shared→Prop} (I:Inv X pins σ H s) (hN:X.N.Nodup) (hi:X.N[i]?=some x) (hx:Loc X.env.scope x) (r:RelV v u)
  (h:∀s',Inv X pins (σ.set i (some v)) H s'→Q () s') (hf:X.fn x=true∨X.env.scope.names.lookup x=some .local:=by first | exact .inl rfl | exact .inr rfl | assumption):wpAny M A (storeName X.env x u) Q E s:=
 ZmS I hN hi hx r (fun s' I' _=>h s' I') hf
theorem Inv.call' {s':Shared} {ch:List Addr} (I:Inv X pins σ H s) (ho:s'.os=s.os) (u:Un (frs X.stack) ch H H' s.heap s'.heap) (hok:HOk X.prog X.w H' s'.heap) (hg:AllBare s'.gens)
  (hch:∀b∈ch,(b∈X.ex∨X.s₀.heap.objs.size≤b)∧b≠X.env.locals∧(∀x c,X.env.cells.lookup x=some c→c≠b)∧∀p∈X.pn++pins,p.1≠b):Inv X pins σ H' s':=by
 obtain ⟨h',g',d',t',o'⟩:=s'
 have e:o'=s.os:=ho
 subst e
 exact I.call (g':=g') (t':=t') (d':=d') u hok hg hch
end
noncomputable abbrev XK:=Value→Option Addr→Hp→Prop
noncomputable abbrev St:=List (Option V)
noncomputable abbrev VK:=V→Hp→Prop
noncomputable abbrev TE:=St→Hp→VK→Prop
noncomputable abbrev TT:=St→Hp→(Bool→Hp→Prop)→Prop
noncomputable abbrev TA:=St→Hp→(List V→Hp→Prop)→Prop
structure Ends where
 nx:St→Hp→Prop
 rt:VK
 bk:St→Hp→Prop:=fun _ _=>False
 ct:St→Hp→Prop:=fun _ _=>False
noncomputable abbrev TS:=Ends→St→Hp→Prop
noncomputable def EP (X:Cx) (pins:List (Addr×Obj)) (σ:St) (Q:VK) (u:Value) (s':Shared):Prop:=∃v H',Inv X pins σ H' s'∧RelV v u∧Q v H'
noncomputable def TP (X:Cx) (pins:List (Addr×Obj)) (σ:St) (Q:Bool→Hp→Prop) (b:Bool) (s':Shared):Prop:=∃H',Inv X pins σ H' s'∧Q b H'
noncomputable def AP (X:Cx) (pins:List (Addr×Obj)) (σ:St) (Q:List V→Hp→Prop) (us:List Value) (s':Shared):Prop:=∃vs H',Inv X pins σ H' s'∧Vals vs us∧Q vs H'
noncomputable def SP (X:Cx) (pins:List (Addr×Obj)) (D:Ends) (f:Flow) (s':Shared):Prop:=
 match f with
 | .next=>∃σ' H',Inv X pins σ' H' s'∧D.nx σ' H'
 | .brk=>∃σ' H',Inv X pins σ' H' s'∧D.bk σ' H'
 | .cont=>∃σ' H',Inv X pins σ' H' s'∧D.ct σ' H'
 | .ret u=>∃v σ' H',Inv X pins σ' H' s'∧RelV v u∧D.rt v H'
noncomputable def PE (X:Cx) (e:Expr) (t:TE):Prop:=
 ∀(pins:List (Addr×Obj)) (s:Shared) (σ:St) (H:Hp) (Q:VK),Inv X pins σ H s→t σ H Q→wpAny (model X.prog X.w) X.A (eval e X.env) (EP X pins σ Q) X.xe s
noncomputable def PT (X:Cx) (e:Expr) (t:TT):Prop:=
 ∀(pins:List (Addr×Obj)) (s:Shared) (σ:St) (H:Hp) (Q:Bool→Hp→Prop),Inv X pins σ H s→t σ H Q→wpAny (model X.prog X.w) X.A (isTrue e X.env (eval e X.env)) (TP X pins σ Q) X.xe s
noncomputable def PW (X:Cx) (e:Expr) (t:TT):Prop:=
 ∀(whole:Sem Value) (pins:List (Addr×Obj)) (s:Shared) (σ:St) (H:Hp) (Q:Bool→Hp→Prop),Inv X pins σ H s→t σ H Q→wpAny (model X.prog X.w) X.A (isTrue e X.env whole) (TP X pins σ Q) X.xe s
theorem PW.pt {X:Cx} {e:Expr} {t:TT} (h:PW X e t):PT X e t:=h _
noncomputable def PA (X:Cx) (es:List Expr) (t:TA):Prop:=
 ∀(pos:Pos) (pins:List (Addr×Obj)) (s:Shared) (σ:St) (H:Hp) (Q:List V→Hp→Prop),Inv X pins σ H s→t σ H Q→wpAny (model X.prog X.w) X.A (spliced (backTo pos (starEach es X.env))) (AP X pins σ Q) X.xe s
noncomputable def PS (X:Cx) (st:Stmt) (t:TS):Prop:=
 ∀(pins:List (Addr×Obj)) (s:Shared) (σ:St) (H:Hp) (D:Ends),Inv X pins σ H s→t D σ H→wpAny (model X.prog X.w) X.A (exec st X.env) (SP X pins D) X.xe s
noncomputable def PSs (X:Cx) (st:List Stmt) (t:TS):Prop:=
 ∀(pins:List (Addr×Obj)) (s:Shared) (σ:St) (H:Hp) (D:Ends),Inv X pins σ H s→t D σ H→wpAny (model X.prog X.w) X.A (execs st X.env) (SP X pins D) X.xe s
theorem thn {α:Type} {t:Sem α} {Q Q':α→Shared→Prop} {M:Model} {A:Around} {E:Value→Shared→Prop} {s:Shared} (h:wpAny M A t Q E s) (hQ:∀a s,Q a s→Q' a s):wpAny M A t Q' E s:=wpAny_mono h hQ fun _ _ x=>x
end L2
namespace L2
open PySem PySem.Spec PyProof.Rows
section
variable {X:Cx}
noncomputable def tVar (i:Nat):TE:=fun σ H Q=>∃v,σ[i]?=some (some v)∧Q v H
noncomputable def tC (v:V):TE:=fun _ H Q=>Q v H
theorem Zrh {i:Nat} {x:Str} {pos:Pos} (hN:X.N[i]?=some x) (hv:Vis X.env.scope x) (hd:(x==("__debug__" : Str))=false:=by decide) (hcd:(x==("__classdict__" : Str))=false:=by decide):PE X (.Name x pos) (tVar i):=by
 intro pins s σ H Q I h
 obtain ⟨v,e,h⟩:=h
 obtain ⟨m,hn,hl⟩:=I.loc
 obtain ⟨u,r,l⟩:=hl i x v hN e hv
 have fin:EP X pins σ Q u s:=⟨v,H,I,r,h⟩
 rcases l with ⟨hk,hm⟩ | ⟨hk,c,hc,hcell⟩
 ·exact wpAny_Name (wpAny_loadName_local I.ok.kind hk hn hm fin) hd
 ·rcases hk with hk | hk
  ·exact wpAny_Name (wpAny_loadName_cell I.ok.kind hk hc hcell fin) hd
  ·exact wpAny_Name (wpAny_loadName_free I.ok.kind hk hc hcell fin hcd) hd
theorem Zbb {i j pos}:PE X (.Constant (.int i) j pos) (tC (.int i)):=fun _ _ _ H _ I h=>wpAny_Constant_int ⟨.int i,H,I.tok _,⟨_,rfl⟩,h⟩
theorem Zsl {b j pos}:PE X (.Constant (.bool b) j pos) (tC (.bl b)):=fun _ _ _ H _ I h=>Constant_bool ⟨.bl b,H,I,rfl,h⟩
theorem Zrl {j pos}:PE X (.Constant .none j pos) (tC .non):=fun _ _ _ H _ I h=>Constant_none ⟨.non,H,I,rfl,h⟩
theorem ZbJ {x j pos}:PE X (.Constant (.str x) j pos) (tC (.str x)):=fun _ _ _ H _ I h=>Calls.Constant_str ⟨.str x,H,I.tok _,⟨_,rfl⟩,h⟩
noncomputable def Gl (X:Cx) (x:Str):Prop:=X.env.kindOf x=some .globalImplicit
theorem Zlw {E:Value→Shared→Prop} {pins:List (Addr×Obj)} {s:Shared} {σ:St} {H:Hp} {x:Str} {u:Value} {pos:Pos} {Q:Value→Shared→Prop} (I:Inv X pins σ H s) (hg:Gl X x) (hm:X.mg x=some u) (h:Q u s)
  (hd:(x==("__debug__" : Str))=false:=by decide):wpAny (model X.prog X.w) X.A (eval (.Name x pos) X.env) Q E s:=
 Calls.Name_function_global I.ok.kind hg (Calls.loadGlobal_global (by rw [I.ok.glob];exact I.mod.glob.keeps I.bk) hm h) hd
theorem Zep {E:Value→Shared→Prop} {pins:List (Addr×Obj)} {s:Shared} {σ:St} {H:Hp} {x:Str} {u:Value} {pos:Pos} {Q:Value→Shared→Prop} (I:Inv X pins σ H s) (hg:Gl X x) (hm:X.mg x=none) (hv:bootBuiltins x=some u) (h:Q u s)
  (hn:x≠"__name__":=by decide) (hd:(x==("__debug__" : Str))=false:=by decide):wpAny (model X.prog X.w) X.A (eval (.Name x pos) X.env) Q E s:=by
 obtain ⟨mb,h1,h2⟩:=I.mod.blt
 exact Calls.Name_function_global I.ok.kind hg (Calls.loadGlobal_builtin (by rw [I.ok.glob];exact I.mod.glob.keeps I.bk) hm (by rw [I.ok.blt];exact h1.keeps I.bk) ((h2 x hn).trans hv) h) hd
theorem Zqc {x:Str} {v:V} {u:Value} {pos:Pos} (hg:Gl X x) (hm:X.mg x=none) (hv:bootBuiltins x=some u) (r:RelV v u) (hn:x≠"__name__":=by decide) (hd:(x==("__debug__" : Str))=false:=by decide):PE X (.Name x pos) (tC v):=
 fun _ _ _ H _ I h=>Zep I hg hm hv ⟨v,H,I,r,h⟩ hn hd
variable {a b:Expr} {ta tb:TE} {pos:Pos}
noncomputable def tB (t:TE):TT:=fun σ H Q=>t σ H fun x H1=>∃c,x=.bl c∧Q c H1
theorem Zra {e:Expr} {t:TE} (h:PE X e t) (he:∀whole,isTrue e X.env whole=(do let v←whole;standAt e.pos;holding [v] (truthy v)):=by intro _;rfl):PT X e (tB t):=by
 intro pins s σ H Q I hw
 refine isTrue_plain (thn (h pins s σ H _ I hw) fun v s1 ⟨x,H1,I1,r1,q1⟩=>?_) (he _)
 obtain ⟨d,rfl,q⟩:=q1
 cases r1
 exact wpAny_truthy_bool ⟨H1,I1,q⟩
variable {tA tB':TT} {rest:List Expr}
noncomputable def tAnd (t u:TT):TT:=fun σ H Q=>t σ H fun c H1=>if c=true then u σ H1 Q else Q false H1
noncomputable def tOr (t u:TT):TT:=fun σ H Q=>t σ H fun c H1=>if c=true then Q true H1 else u σ H1 Q
noncomputable def tNot (t:TT):TT:=fun σ H Q=>t σ H fun c H1=>Q (!c) H1
theorem Zlh (ha:PT X a tA):PW X (.BoolOp .And [a] pos) tA:=by
 intro wh pins s σ H Q I h
 refine isTrue_and (thn (ha pins s σ H Q I h) fun c s1 e=>?_)
 cases c with
 | true=>exact isTrue_and_nil e
 | false=>exact e
theorem Zq9 (ha:PT X a tA):PW X (.BoolOp .Or [a] pos) tA:=by
 intro wh pins s σ H Q I h
 refine isTrue_or (thn (ha pins s σ H Q I h) fun c s1 e=>?_)
 cases c with
 | false=>exact isTrue_or_nil e
 | true=>exact e
theorem Zm0 (ha:PT X a tA) (hb:PW X (.BoolOp .And (b::rest) pos) tB'):PW X (.BoolOp .And (a::b::rest) pos) (tAnd tA tB'):=by
 intro wh pins s σ H Q I h
 refine isTrue_and (thn (ha pins s σ H _ I h) fun c s1 ⟨H1,I1,q1⟩=>?_)
 cases c with
 | true=>exact hb wh pins s1 σ H1 Q I1 q1
 | false=>exact ⟨H1,I1,q1⟩
theorem Zsg (ha:PT X a tA) (hb:PW X (.BoolOp .Or (b::rest) pos) tB'):PW X (.BoolOp .Or (a::b::rest) pos) (tOr tA tB'):=by
 intro wh pins s σ H Q I h
 refine isTrue_or (thn (ha pins s σ H _ I h) fun c s1 ⟨H1,I1,q1⟩=>?_)
 cases c with
 | true=>exact ⟨H1,I1,q1⟩
 | false=>exact hb wh pins s1 σ H1 Q I1 q1
theorem Zrb (ha:PT X a tA):PT X (.UnaryOp .Not a pos) (tNot tA):=by
 intro pins s σ H Q I h
 exact isTrue_not (ha pins s σ H (fun c H1=>Q (!c) H1) I h)
noncomputable def Zsc (ta tb:TE):TE:=fun σ H Q=>ta σ H fun x H1=>∃c,x=.bl c∧if c=true then tb σ H1 Q else Q (.bl false) H1
noncomputable def Zsb (ta:TE):TE:=fun σ H Q=>ta σ H fun x H1=>∃c,x=.bl c∧Q (.bl (!c)) H1
theorem Zrj {op} {t:TE} (h:PE X a t):PE X (.BoolOp op [a] pos) t:=fun pins s σ H Q I hw=>BoolOp_one (h pins s σ H Q I hw)
theorem Zro (ha:PE X a ta) (hb:PE X (.BoolOp .And (b::rest) pos) tb):PE X (.BoolOp .And (a::b::rest) pos) (Zsc ta tb):=by
 intro pins s σ H Q I h
 refine BoolOp_and (thn (ha pins s σ H _ I h) fun v s1 ⟨x,H1,I1,r1,q1⟩=>?_)
 obtain ⟨c,rfl,q1⟩:=q1
 cases r1
 refine wpAny_truthy_bool ?_
 cases c with
 | true=>exact hb pins s1 σ H1 Q I1 q1
 | false=>exact ⟨.bl false,H1,I1,rfl,q1⟩
theorem Zrk (ha:PE X a ta):PE X (.UnaryOp .Not a pos) (Zsb ta):=by
 intro pins s σ H Q I h
 refine UnaryOp_ (thn (ha pins s σ H _ I h) fun v s1 ⟨x,H1,I1,r1,q1⟩=>?_)
 obtain ⟨c,rfl,q1⟩:=q1
 cases r1
 exact not_of (wpAny_truthy_bool ⟨.bl (!c),H1,I1,rfl,q1⟩)
noncomputable def tIf (t:TT) (ta tb:TE):TE:=fun σ H Q=>t σ H fun c H1=>if c=true then ta σ H1 Q else tb σ H1 Q
theorem Zox {c:Expr} (hc:PT X c tA) (ha:PE X a ta) (hb:PE X b tb):PE X (.IfExp c a b pos) (tIf tA ta tb):=by
 intro pins s σ H Q I h
 refine wpAny_IfExp (thn (hc pins s σ H _ I h) fun d s1 ⟨H1,I1,q1⟩=>?_)
 cases d with
 | true=>exact ha pins s1 σ H1 Q I1 q1
 | false=>exact hb pins s1 σ H1 Q I1 q1
end
end L2
namespace L2
open PySem PySem.Spec PyProof.Rows
noncomputable def SqL (K:PySem.W.Frag) (H:Hp) (a:Addr) (xs:List V):Prop:=
 Rd H a (.lst xs)∨
  ∃(o:Obj) (its:Array Value) (n:Nat),K.lookup a=some o∧o.cls=.type "list"∧o.dict=none∧o.data=.seq its n∧its.size≤sizeLine∧Vals xs its.toList
noncomputable def SqT (K:PySem.W.Frag) (H:Hp) (a:Addr) (xs:List V):Prop:=
 Rd H a (.tup xs)∨
  ∃(o:Obj) (its:Array Value) (n:Nat),K.lookup a=some o∧o.cls=.type "tuple"∧o.data=.seq its n∧its.size≤sizeLine∧Vals xs its.toList
noncomputable def absV:Value→Option V
 | .none=>some .non
 | .bool b=>some (.bl b)
 | .int i _=>some (.int i)
 | .str x _=>some (.str x)
 | .bytes b _=>some (.byt b)
 | .float b _=>some (.flt b)
 | .ref a=>some (.ref a)
 | .type n=>some (.ty n)
 | _=>none
theorem RelV.abs {x:V} {u:Value} (r:RelV x u):absV u=some x:=by
 cases x with
 | non=>cases r;rfl
 | bl _=>cases r;rfl
 | int _=>obtain ⟨t,rfl⟩:=r;rfl
 | str _=>obtain ⟨t,rfl⟩:=r;rfl
 | byt _=>obtain ⟨t,rfl⟩:=r;rfl
 | flt _=>obtain ⟨t,rfl⟩:=r;rfl
 | ref _=>cases r;rfl
 | ty _=>cases r;rfl
theorem RelV.inj {x y:V} {u:Value} (r:RelV x u) (q:RelV y u):x=y:=Option.some.inj (r.abs.symm.trans q.abs)
theorem Vals.inj:∀{xs ys:List V} {us:List Value},Vals xs us→Vals ys us→xs=ys
 | _,_,_,.nil,.nil=>rfl
 | _,_,_,.cons r t,.cons r' t'=>by rw [r.inj r',Vals.inj t t']
section
variable {X:Cx} {pins:List (Addr×Obj)} {σ:St} {H:Hp} {s:Shared} {a:Addr} {xs ys:List V}
theorem SqL.of {K:PySem.W.Frag} (h:H a=some (.lst xs)):SqL K H a xs:=.inl (.inl h)
theorem SqT.of {K:PySem.W.Frag} (h:H a=some (.tup xs)):SqT K H a xs:=.inl (.inl h)
theorem Inv.list (I:Inv X pins σ H s) (h:SqL X.K H a xs):∃its:List Value,Vals xs its∧PlainL s.heap a its.toArray∧xs.length≤sizeLine:=by
 rcases h with h | ⟨o,its,n,hk,hc,hd,hs,hz,r⟩
 ·obtain ⟨z,its,n,r,e⟩:=h.ok I.hok
  exact ⟨its,r,⟨_,n,e,rfl,rfl,rfl⟩,z⟩
 ·refine ⟨its.toList,r,⟨o,n,I.kIn a o hk,hc,hd,by simpa using hs⟩,?_⟩
  have e:=r.length
  simp only [Array.length_toList] at e
  omega
theorem Inv.tuple (I:Inv X pins σ H s) (h:SqT X.K H a xs):∃its:List Value,Vals xs its∧IsTup s.heap a its.toArray∧xs.length≤sizeLine:=by
 rcases h with h | ⟨o,its,n,hk,hc,hs,hz,r⟩
 ·obtain ⟨z,its,r,p⟩:=h.ok I.hok
  exact ⟨its,r,p,z⟩
 ·refine ⟨its.toList,r,⟨o,I.kIn a o hk,hc,n,by simpa using hs⟩,?_⟩
  have e:=r.length
  simp only [Array.length_toList] at e
  omega
theorem Inv.list_inj (I:Inv X pins σ H s) (h:SqL X.K H a xs) (h':SqL X.K H a ys):xs=ys:=by
 obtain ⟨its,r,⟨o,n,e,_,_,d⟩,_⟩:=I.list h
 obtain ⟨its',r',⟨o',n',e',_,_,d'⟩,_⟩:=I.list h'
 rw [e] at e';cases e'
 rw [d] at d'
 injection d' with d1 _
 have:its=its':=by simpa using congrArg Array.toList d1
 subst this
 exact r.inj r'
theorem Inv.tuple_inj (I:Inv X pins σ H s) (h:SqT X.K H a xs) (h':SqT X.K H a ys):xs=ys:=by
 obtain ⟨its,r,⟨o,e,_,n,d⟩,_⟩:=I.tuple h
 obtain ⟨its',r',⟨o',e',_,n',d'⟩,_⟩:=I.tuple h'
 rw [e] at e';cases e'
 rw [d] at d'
 injection d' with d1 _
 have:its=its':=by simpa using congrArg Array.toList d1
 subst this
 exact r.inj r'
end
noncomputable abbrev Cx.wish (X:Cx) (E:Value→Shared→Prop):Cx:={ X with xe:=E }
noncomputable abbrev Cx.nox (X:Cx):Cx:=X.wish fun _ _=>False
theorem Cx.Ok.wish {X:Cx} (ok:X.Ok) (E:Value→Shared→Prop):(X.wish E).Ok:=
 ⟨ok.mod,ok.kind,ok.glob,ok.blt,ok.above,ok.inj,ok.has,ok.cab,ok.hd,ok.frames,ok.stk,ok.exf,ok.bs,ok.bsz,ok.noex,ok.exfs,ok.funs,ok.frf⟩
theorem Cx.Ok.unwish {X:Cx} {E:Value→Shared→Prop} (ok:(X.wish E).Ok):X.Ok:=
 ⟨ok.mod,ok.kind,ok.glob,ok.blt,ok.above,ok.inj,ok.has,ok.cab,ok.hd,ok.frames,ok.stk,ok.exf,ok.bs,ok.bsz,ok.noex,ok.exfs,ok.funs,ok.frf⟩
section
variable {X:Cx} {pins:List (Addr×Obj)} {σ:St} {H:Hp} {s:Shared} {E:Value→Shared→Prop}
theorem Inv.wish (I:Inv X pins σ H s) (E:Value→Shared→Prop):Inv (X.wish E) pins σ H s:=⟨I.ok.wish E,I.os,I.bare,I.base,I.loc,I.cell,I.free,I.freeC,I.pin,I.hok,I.len⟩
theorem Inv.unwish (I:Inv (X.wish E) pins σ H s):Inv X pins σ H s:=⟨I.ok.unwish,I.os,I.bare,I.base,I.loc,I.cell,I.free,I.freeC,I.pin,I.hok,I.len⟩
theorem SP.unwish {D:Ends} {f:Flow} {s':Shared} (h:SP (X.wish E) pins D f s'):SP X pins D f s':=by
 cases f with
 | next=>obtain ⟨σ',H',I,q⟩:=h;exact ⟨σ',H',I.unwish,q⟩
 | brk=>obtain ⟨σ',H',I,q⟩:=h;exact ⟨σ',H',I.unwish,q⟩
 | cont=>obtain ⟨σ',H',I,q⟩:=h;exact ⟨σ',H',I.unwish,q⟩
 | ret u=>obtain ⟨v,σ',H',I,r,q⟩:=h;exact ⟨v,σ',H',I.unwish,r,q⟩
theorem PE.nox {e:Expr} {t:TE} (h:PE X.nox e t):PE X e t:=fun pins s σ H Q I hw=>
 wpAny_mono (h pins s σ H Q (I.wish _) hw) (fun _ _ ⟨v,H',I',r,q⟩=>⟨v,H',I'.unwish,r,q⟩) fun _ _ z=>False.elim z
theorem PSs.nox {st:List Stmt} {t:TS} (h:PSs X.nox st t):PSs X st t:=fun pins s σ H D I hw=>
 wpAny_mono (h pins s σ H D (I.wish _) hw) (fun _ _ q=>q.unwish) fun _ _ z=>False.elim z
end
section
variable {X:Cx} {st:Stmt} {rest:List Stmt} {t u:TS} {e:Expr} {te:TE} {pos:Pos}
noncomputable def ZlS:TS:=fun D σ H=>D.nx σ H
noncomputable def tSeq (t u:TS):TS:=fun D σ H=>t { D with nx:=u D } σ H
theorem Zh1:PSs X [] ZlS:=fun _ _ σ H _ I h=>wpAny_execs_nil ⟨σ,H,I,h⟩
theorem ZbP (h1:PS X st t) (h2:PSs X rest u):PSs X (st::rest) (tSeq t u):=by
 intro pins s σ H D I h
 refine wpAny_execs_cons (thn (h1 pins s σ H { D with nx:=u D } I h) fun f s1 q=>?_)
 cases f with
 | next=>
  obtain ⟨σ',H',I',q⟩:=q
  exact h2 pins s1 σ' H' D I' q
 | ret v=>exact q
 | brk=>exact q
 | cont=>exact q
theorem Zd9 (h1:PS X st t):PSs X [st] t:=by
 intro pins s σ H D I h
 refine wpAny_execs_cons (thn (h1 pins s σ H D I h) fun f s1 q=>?_)
 cases f with
 | next=>exact wpAny_execs_nil q
 | ret v=>exact q
 | brk=>exact q
 | cont=>exact q
theorem Inv.quiet {pins:List (Addr×Obj)} {σ:St} {H:Hp} {s:Shared} (I:Inv X pins σ H s):interactive X.env=false:=by simp [interactive,I.ok.kind]
noncomputable def Zhf (te:TE):TS:=fun D σ H=>te σ H fun _ H1=>D.nx σ H1
theorem Zlj (he:PE X e te) (hs:swapsWith e none pos.line X.env=pure false:=by rfl):PS X (.Expr e pos) (Zhf te):=by
 intro pins s σ H D I h
 exact wpAny_Expr_any (thn (he pins s σ H _ I h) fun v s1 ⟨x,H1,I1,r1,q1⟩=>⟨σ,H1,I1,q1⟩) I.quiet hs
noncomputable def tRet (te:TE):TS:=fun D σ H=>te σ H D.rt
theorem ZeS (he:PE X e te):PS X (.Return (some e) pos) (tRet te):=by
 intro pins s σ H D I h
 exact wpAny_Return_some (thn (he pins s σ H _ I h) fun v s1 ⟨x,H1,I1,r1,q1⟩=>⟨x,σ,H1,I1,r1,q1⟩)
noncomputable def tIfS (c:TT) (t u:TS):TS:=fun D σ H=>c σ H fun b H1=>if b=true then t D σ H1 else u D σ H1
theorem ZlX {c:Expr} {a b:List Stmt} {tc:TT} (hc:PT X c tc) (ha:PSs X a t) (hb:PSs X b u):PS X (.If c a b pos) (tIfS tc t u):=by
 intro pins s σ H D I h
 refine wpAny_If (thn (hc pins s σ H _ I h) fun d s1 ⟨H1,I1,q1⟩=>?_)
 cases d with
 | true=>exact ha pins s1 σ H1 D I1 q1
 | false=>exact hb pins s1 σ H1 D I1 q1
end
noncomputable abbrev TG:=V→St→Hp→(St→Hp→Prop)→Prop
noncomputable abbrev TGs:=List V→St→Hp→(St→Hp→Prop)→Prop
noncomputable def PG (X:Cx) (target:Expr) (t:TG):Prop:=
 ∀(pins:List (Addr×Obj)) (s:Shared) (σ:St) (H:Hp) (v:V) (u:Value) (Q:St→Hp→Prop),Inv X pins σ H s→RelV v u→t v σ H Q→
  wpAny (model X.prog X.w) X.A (assign target X.env u) (fun _ s'=>∃σ' H',Inv X pins σ' H' s'∧Q σ' H') X.xe s
noncomputable def PGs (X:Cx) (ts:List Expr) (t:TGs):Prop:=
 ∀(pins:List (Addr×Obj)) (s:Shared) (σ:St) (H:Hp) (vs:List V) (us:List Value) (Q:St→Hp→Prop),Inv X pins σ H s→Vals vs us→t vs σ H Q→
  wpAny (model X.prog X.w) X.A (assignInOrder ((assignEach ts X.env).map (·.2)) us) (fun _ s'=>∃σ' H',Inv X pins σ' H' s'∧Q σ' H') X.xe s
noncomputable abbrev TSet:=V→V→V→Hp→(Hp→Prop)→Prop
noncomputable def PSet (X:Cx) (t:TSet):Prop:=
 ∀(pins:List (Addr×Obj)) (s:Shared) (σ:St) (H:Hp) (o i v:V) (ov iv u:Value) (Q:Hp→Prop),Inv X pins σ H s→RelV o ov→RelV i iv→RelV v u→t o i v H Q→
  wpAny (model X.prog X.w) X.A (setItem ov iv u) (fun _ s'=>∃H',Inv X pins σ H' s'∧Q H') X.xe s
noncomputable abbrev TIp:=V→V→Hp→VK→Prop
noncomputable def PIp (X:Cx) (op:Operator) (t:TIp):Prop:=
 ∀(pins:List (Addr×Obj)) (s:Shared) (σ:St) (H:Hp) (x y:V) (v u:Value) (Q:VK),Inv X pins σ H s→RelV x v→RelV y u→t x y H Q→
  wpAny (model X.prog X.w) X.A (inplaceOp op v u) (EP X pins σ Q) X.xe s
section
variable {X:Cx} {pos:Pos}
noncomputable def ZcB (i:Nat):TG:=fun v σ H Q=>Q (σ.set i (some v)) H
theorem ZcU {i:Nat} {x:Str} (hN:X.N.Nodup) (hi:X.N[i]?=some x) (hx:Loc X.env.scope x) (hf:X.fn x=true∨X.env.scope.names.lookup x=some .local:=by first | exact .inl rfl | exact .inr rfl | assumption):PG X (.Name x pos) (ZcB i):=by
 intro pins s σ H v u Q I r h
 exact wpAny_assign_Name (ZgU I hN hi hx r (fun s' I'=>⟨_,H,I',h⟩) hf)
noncomputable def gNil:TGs:=fun vs σ H Q=>vs=[]∧Q σ H
noncomputable def Zmo (t:TG) (u:TGs):TGs:=fun vs σ H Q=>∃v r,vs=v::r∧t v σ H fun σ' H'=>u r σ' H' Q
theorem Zlm:PGs X [] gNil:=by
 intro pins s σ H vs us Q I r h
 obtain ⟨e,h⟩:=h
 subst e
 cases r
 exact assignInOrder_nil ⟨σ,H,I,h⟩
theorem Zfi {e:Expr} {es:List Expr} {t:TG} {u:TGs} (h1:PG X e t) (h2:PGs X es u)
  (hs:(assignEach (e::es) X.env).map (·.2)=assign e X.env::(assignEach es X.env).map (·.2):=by rfl):PGs X (e::es) (Zmo t u):=by
 intro pins s σ H vs us Q I r h
 obtain ⟨v,vr,e1,h⟩:=h
 subst e1
 cases r with
 | cons r rr=>
  rw [hs]
  refine assignInOrder_cons (thn (h1 pins s σ H _ _ _ I r h) fun _ s1 ⟨σ1,H1,I1,q1⟩=>?_)
  exact h2 pins s1 σ1 H1 _ _ Q I1 rr q1
noncomputable def gTup (K:PySem.W.Frag) (n:Nat) (t:TGs):TG:=fun v σ H Q=>∃a xs,v=.ref a∧SqT K H a xs∧xs.length=n∧t xs σ H Q
theorem Zrf {es:List Expr} {k:Nat} {t:TGs} {n:Nat} (hc:X.calm=true) (h:PGs X es t)
  (hn:(assignEach es X.env).length=n:=by rfl) (hst:(assignEach es X.env).findIdx? (·.1)=none:=by rfl):PG X (.Tuple es k pos) (gTup X.K n t):=by
 intro pins s σ H v u Q I r hw
 obtain ⟨a,xs,e1,hq,hl,hw⟩:=hw
 subst e1
 cases r
 obtain ⟨its,rv,ht,hz⟩:=I.tuple hq
 refine assign_Tuple_tuple (I.ok.hd hc) ht (by simp [hn,←hl,rv.length]) hst fun h' hx=>?_
 have I1:Inv X pins σ H { s with heap:=h' }:=I.kept (t':=s.toks) fun b o e=>hx b o (Nat.ne_of_lt (Heap.lt_size e)) e
 exact h pins _ σ H xs _ Q I1 (by simpa using rv) hw
noncomputable def gSub (to ti:TE) (t:TSet):TG:=fun v σ H Q=>to σ H fun o H1=>ti σ H1 fun i H2=>t o i v H2 fun H3=>Q σ H3
theorem Zrg {o i:Expr} {to ti:TE} {t:TSet} (ho:PE X o to) (hi:PE X i ti) (hs:PSet X t)
  (ha:∀v,assign (.Subscript o i pos) X.env v=(do
   let ov←holding [v] (eval o X.env)
   let iv←holding [v,ov] (eval i X.env)
   standAt pos
   holding [v,ov,iv] (setItem ov iv v)
   release [v,ov,iv] []):=by intro _;rfl):PG X (.Subscript o i pos) (gSub to ti t):=by
 intro pins s σ H v u Q I r h
 rw [ha]
 refine wpAny_bind (wpAny_holding (thn (ho pins s σ H _ I h) fun ov s1 ⟨x,H1,I1,r1,q1⟩=>?_))
 refine wpAny_bind (wpAny_holding (thn (hi pins s1 σ H1 _ I1 q1) fun iv s2 ⟨y,H2,I2,r2,q2⟩=>?_))
 refine wpAny_bind (wpAny_standAt (wpAny_bind (wpAny_holding (thn (hs pins s2 σ H2 x y v ov iv u _ I2 r1 r2 r q2) fun _ s3 ⟨H3,I3,q3⟩=>?_))))
 exact wpAny_release ⟨σ,H3,I3,q3⟩
noncomputable def tAsg (te:TE) (g:TG):TS:=fun D σ H=>te σ H fun x H1=>g x σ H1 D.nx
theorem Zm5 {tg e:Expr} {te:TE} {g:TG} (he:PE X e te) (hg:PG X tg g) (hs:swapsWithSole [tg] e pos.line X.env=pure false:=by rfl) (hw:swappedStores [tg] e X.env=pure none:=by rfl)
  (h1:(assignEach [tg] X.env).map (·.2)=[assign tg X.env]:=by rfl):PS X (.Assign [tg] e pos) (tAsg te g):=by
 intro pins s σ H D I h
 refine wpAny_Assign_stores (thn (he pins s σ H _ I h) fun v s1 ⟨x,H1,I1,r1,q1⟩=>?_) hs hw
 rw [h1]
 exact thn (hg pins s1 σ H1 x v _ I1 r1 q1) fun _ s2 q=>q
theorem ZdQ {i:Nat} {x:Str} {e:Expr} {te:TE} {pos':Pos} (hN:X.N.Nodup) (hi:X.N[i]?=some x) (hx:Loc X.env.scope x) (he:PE X e te) (hs:swapsWith e (some (.Name x pos')) pos.line X.env=pure false:=by rfl) (hf:X.fn x=true∨X.env.scope.names.lookup x=some .local:=by first | exact .inl rfl | exact .inr rfl | assumption) :
  PS X (.Assign [.Name x pos'] e pos) (tAsg te (ZcB i)):=by
 intro pins s σ H D I h
 refine wpAny_Assign_Name (thn (he pins s σ H _ I h) fun v s1 ⟨y,H1,I1,r1,q1⟩=>?_) hs
 exact ZgU I1 hN hi hx r1 (fun s2 I2=>⟨_,H1,I2,q1⟩) hf
noncomputable def tAug (i:Nat) (te:TE) (ti:TIp):TS:=fun D σ H=>∃x,σ[i]?=some (some x)∧te σ H fun y H1=>ti x y H1 fun z H2=>D.nx (σ.set i (some z)) H2
theorem Zrc {i:Nat} {x:Str} {e:Expr} {te:TE} {op:Operator} {ti:TIp} {pos':Pos} (hN:X.N.Nodup) (hi:X.N[i]?=some x) (hx:Loc X.env.scope x) (he:PE X e te) (ho:PIp X op ti) (hf:X.fn x=true∨X.env.scope.names.lookup x=some .local:=by first | exact .inl rfl | exact .inr rfl | assumption) :
  PS X (.AugAssign (.Name x pos') op e pos) (tAug i te ti):=by
 intro pins s σ H D I h
 obtain ⟨v,e1,h⟩:=h
 obtain ⟨m,hn,hl⟩:=I.loc
 have vis:Vis X.env.scope x:=by rcases hx with k | k;exact .inl k;exact .inr (.inl k)
 obtain ⟨u,r,l⟩:=hl i x v hi e1 vis
 refine wpAny_AugAssign_Name ?_
 have go:wpAny (model X.prog X.w) X.A (eval e X.env) (fun w s₂=>wpAny (model X.prog X.w) X.A (inplaceOp op u w) (fun r s₃=>wpAny (model X.prog X.w) X.A (storeName X.env x r) (fun _=>SP X pins D .next) X.xe s₃) X.xe s₂) X.xe s:=by
  refine thn (he pins s σ H _ I h) fun w s1 ⟨y,H1,I1,r1,q1⟩=>?_
  refine thn (ho pins s1 σ H1 v y u w _ I1 r r1 q1) fun z s2 ⟨zv,H2,I2,r2,q2⟩=>?_
  exact ZgU I2 hN hi hx r2 (fun s3 I3=>⟨_,H2,I3,q2⟩) hf
 rcases l with ⟨hk,hm⟩ | ⟨hk,c,hc,hcell⟩
 ·exact wpAny_loadName_local I.ok.kind hk hn hm go
 ·rcases hk with hk | hk
  ·exact wpAny_loadName_cell I.ok.kind hk hc hcell go
  ·rcases hx with k | k
   ·have:X.env.scope.names.lookup x=some .free:=hk
    rw [k] at this;cases this
   ·have:X.env.scope.names.lookup x=some .free:=hk
    rw [k] at this;cases this
noncomputable def ipI (f:Int→Int→Int):TIp:=fun x y H Q=>∃i j,x=.int i∧y=.int j∧Q (.int (f i j)) H
theorem ZrP:PIp X .Add (ipI fun i j=>i+j):=by
 intro pins s σ H x y v u Q I r1 r2 h
 obtain ⟨i,j,e1,e2,q⟩:=h
 subst e1;subst e2
 obtain ⟨t,rfl⟩:=r1
 obtain ⟨t',rfl⟩:=r2
 exact iadd_int ⟨.int _,H,I.tok _,⟨_,rfl⟩,q⟩
end
section
variable {X:Cx} {pos:Pos}
noncomputable def Zq2 (c:TT) (tb:TS):TS:=fun D σ H=>∃W:Nat→St→Hp→Prop,(∃m,W m σ H)∧∀m σ H,W m σ H→
 c σ H fun b H1=>if b=true then ∃N:St→Hp→Prop,(∀σ' H',N σ' H'→∃m',m'<m∧W m' σ' H')∧tb { D with nx:=N,ct:=N,bk:=D.nx } σ H1 else D.nx σ H1
theorem Zov {c:Expr} {body:List Stmt} {tc:TT} {tb:TS} (hp:PassesOwn (model X.prog X.w) X.A X.env X.xe) (hc:PT X c tc) (hb:PSs X body tb):PS X (.While c body [] pos) (Zq2 tc tb):=by
 intro pins s σ H D I h
 obtain ⟨W,⟨m0,w0⟩,turn⟩:=h
 refine wpAny_While (codeAny_whileLoop (fun n s'=>∃σ' H',Inv X pins σ' H' s'∧W n σ' H') ?_ m0 ⟨σ,H,I,w0⟩)
 rintro n s1 ⟨σ1,H1,I1,w1⟩
 refine wpAny_passesOwn hp (thn (hc pins s1 σ1 H1 _ I1 (turn n σ1 H1 w1)) fun b s2 ⟨H2,I2,q2⟩=>?_)
 cases b with
 | true=>
  obtain ⟨N,hN,q2⟩:=q2
  rw [if_pos rfl]
  refine wpAny_passesOwn hp (thn (hb pins s2 σ1 H2 _ I2 q2) fun f s3 q3=>?_)
  cases f with
  | next=>
   obtain ⟨σ3,H3,I3,n3⟩:=q3
   obtain ⟨m',hm,w3⟩:=hN σ3 H3 n3
   exact ⟨m',hm,σ3,H3,I3,w3⟩
  | cont=>
   obtain ⟨σ3,H3,I3,n3⟩:=q3
   obtain ⟨m',hm,w3⟩:=hN σ3 H3 n3
   exact ⟨m',hm,σ3,H3,I3,w3⟩
  | brk=>exact q3
  | ret v=>exact q3
 | false=>
  rw [if_neg Bool.false_ne_true]
  exact wpAny_execs_nil ⟨σ1,H2,I2,q2⟩
end
structure It where
 go:Nat→Hp→Prop
 yld:Nat→Hp→V→Hp→Prop
 stop:Nat→Hp→Prop
noncomputable def FpOk (X:Cx) (pins:List (Addr×Obj)) (H:Hp) (b:Addr):Prop:=
 H b=none∧b≠X.env.locals∧b∉X.fs∧(b∈X.ex∨X.s₀.heap.objs.size≤b)∧(∀x c,X.env.cells.lookup x=some c→c≠b)∧∀p∈X.pn++pins,p.1≠b
theorem Inv.fpOk {X:Cx} {pins:List (Addr×Obj)} {σ:St} {H H':Hp} {s:Shared} {b:Addr} (I:Inv X pins σ H s) (hb:s.heap.objs.size≤b) (hn:H' b=none):FpOk X pins H' b:=by
 refine ⟨hn,Nat.ne_of_gt (Nat.lt_of_lt_of_le I.lt hb),I.nofs hb,.inr (Nat.le_trans I.sz hb),fun x c e z=>?_,fun p hp z=>?_⟩
 ·obtain ⟨v,q⟩:=I.cell x c e
  exact absurd (Nat.lt_of_lt_of_le q.lt (by rw [z];exact hb)) (Nat.lt_irrefl _)
 ·exact absurd (Nat.lt_of_lt_of_le (Heap.lt_size (I.pin p hp).1) (by rw [z];exact hb)) (Nat.lt_irrefl _)
structure Turn (P:Program) (w:World) (K:PySem.W.Frag) (tg:Expr) (J:It) (fp:List Addr) (it:Addr) (tn:Nat→Heap→Prop):Prop where
 mem:it∈fp
 obj:∀i h,tn i h→∀b∈fp,∃o,h.get? b=some o∧∀v,o.data≠.cell v
 keep:∀i h h',tn i h→(∀b∈fp,∀o,h.get? b=some o→h'.get? b=some o)→tn i h'
 item:∀(X:Cx),X.prog=P→X.w=w→X.K=K→X.calm=true→∀(i:Nat) (pins:List (Addr×Obj)) (s:Shared) (σ:St) (H:Hp) (E:Value→Shared→Prop),Inv X pins σ H s→(∀b∈fp,FpOk X pins H b)→tn i s.heap→J.go i H→
  wpAny (model P w) X.A (pyNext (.ref it)) (fun r s1=>∃u,r=some u∧
   wpAny (model P w) X.A (letOwnedTupleGo tg (.ref it) u) (fun _ s2=>∃x H',Inv X pins σ H' s2∧RelV x u∧J.yld i H x H'∧tn (i+1) s2.heap∧∀b∈fp,H' b=none) E s1) E s
 done:∀(X:Cx),X.prog=P→X.w=w→X.K=K→X.calm=true→∀(i:Nat) (pins:List (Addr×Obj)) (s:Shared) (σ:St) (H:Hp) (E:Value→Shared→Prop),Inv X pins σ H s→(∀b∈fp,FpOk X pins H b)→tn i s.heap→J.stop i H→
  wpAny (model P w) X.A (pyNext (.ref it)) (fun r s1=>r=none∧Inv X pins σ H s1) E s
 self:∀(A:Around) (i:Nat) (s:Shared) (Q:Value→Shared→Prop) (E:Value→Shared→Prop),tn i s.heap→Q (.ref it) s→wpAny (model P w) A (pyIter (.ref it)) Q E s
noncomputable abbrev TI:=St→Hp→(It→Hp→Prop)→Prop
noncomputable def PIE (X:Cx) (pins:List (Addr×Obj)) (σ:St) (tg:Expr) (R:It→Hp→Prop) (itv:Value) (s2:Shared):Prop:=
 ∃(it:Addr) (fp:List Addr) (tn:Nat→Heap→Prop) (J:It) (H':Hp),itv=.ref it∧Inv X pins σ H' s2∧Turn X.prog X.w X.K tg J fp it tn∧tn 0 s2.heap∧(∀b∈fp,FpOk X pins H' b)∧R J H'
noncomputable def PI (X:Cx) (tg iter:Expr) (wi:TI):Prop:=
 ∀(pins:List (Addr×Obj)) (s:Shared) (σ:St) (H:Hp) (R:It→Hp→Prop),Inv X pins σ H s→wi σ H R→
  wpAny (model X.prog X.w) X.A (eval iter X.env) (fun v s1=>wpAny (model X.prog X.w) X.A (pyIter v) (PIE X pins σ tg R) X.xe s1) X.xe s
theorem Zmh {M : Model} {A : Around} {E : Value → Shared → Prop} {s : Shared} {tg : Expr} {it : Addr} {u : Value} {o : Obj} {n : String} {vs : Array Value} {Q : Unit → Shared → Prop} (ho : s.heap.get? it = some o) (hc : o.cls = .type n) (hd : o.data = .fields vs)
    (hn : ["enumerate", "zip", "dict_itemiterator", "dict_reverseitemiterator", "odict_iterator", "itertools.zip_longest", "itertools.pairwise"].contains n = false) (hQ : Q () s) : wpAny M A (letOwnedTupleGo tg (.ref it) u) Q E s := by
  unfold letOwnedTupleGo
  cases tg <;> first
    | exact wpAny_pure hQ
    | (cases u <;> first
        | exact wpAny_pure hQ
        | (refine wpAny_bind (wpAny_load ho ?_)
           rw [hc, hd]
           show wpAny M A (if (["enumerate", "zip", "dict_itemiterator", "dict_reverseitemiterator", "odict_iterator", "itertools.zip_longest", "itertools.pairwise"].contains n && vs[0]? == some (rawInt _)) = true then _ else _) Q E s
           rw [if_neg (by intro h; rw [hn, Bool.false_and] at h; cases h)]
           exact wpAny_pure hQ))
noncomputable def Itl (K:PySem.W.Frag) (a:Addr):It:=
 ⟨fun i H=>∃xs x,SqL K H a xs∧xs[i]?=some x,fun i H x H'=>H'=H∧∀xs,SqL K H a xs→xs[i]?=some x,fun i H=>∃xs,SqL K H a xs∧xs.length≤i⟩
noncomputable def Itt (K:PySem.W.Frag) (a:Addr):It:=
 ⟨fun i H=>∃xs x,SqT K H a xs∧xs[i]?=some x,fun i H x H'=>H'=H∧∀xs,SqT K H a xs→xs[i]?=some x,fun i H=>∃xs,SqT K H a xs∧xs.length≤i⟩
noncomputable def Itr (lo:Int) (n:Nat):It:=⟨fun i _=>i<n,fun i H x H'=>H'=H∧x=.int (lo+i),fun i _=>n≤i⟩
theorem ZmM {P:Program} {w:World} {K:PySem.W.Frag} {tg:Expr} (a it:Addr):Turn P w K tg (Itl K a) [it] it (fun i h=>h.IsListIter it a i) where
 mem:=by simp
 obj:=fun i h st b hb=>by
  have e:b=it:=by simpa using hb
  subst e
  obtain ⟨o,e,c,d⟩:=st
  exact ⟨o,e,fun v z=>by rw [d] at z;cases z⟩
 keep:=fun i h h' st k=>st.at fun o e=>k it (by simp) o e
 item:=by
  intro X hP hw hK hc i pins s σ H E I hf st hg
  subst hP hw hK
  obtain ⟨xs,x,hq,hx⟩:=hg
  obtain ⟨its,rv,p,hz⟩:=I.list hq
  obtain ⟨u,hu,ru⟩:=rv.get hx
  obtain ⟨f0,f1,f2,f3,f4,f5⟩:=hf it (by simp)
  refine wpAny_pyNext_list_item st p.isList (x:=u) (by simpa using hu) fun h' st' sb=>?_
  have I1:Inv X pins σ H { s with heap:=h' }:=I.turned (t':=s.toks) (fun b o hb e=>(sb.2 b hb).trans e) f0 f1 f3 f4 f5
  obtain ⟨o,e,c,d⟩:=id st'
  exact ⟨u,rfl,Zmh (s:={ s with heap:=h' }) e c d (by decide) ⟨x,H,I1,ru,⟨rfl,fun ys hy=>by rw [I.list_inj hy hq];exact hx⟩,st',fun b hb=>(hf b hb).1⟩⟩
 done:=by
  intro X hP hw hK hc i pins s σ H E I hf st hg
  subst hP hw hK
  obtain ⟨xs,hq,hx⟩:=hg
  obtain ⟨its,rv,p,hz⟩:=I.list hq
  obtain ⟨f0,f1,f2,f3,f4,f5⟩:=hf it (by simp)
  have hl:=rv.length
  exact wpAny_pyNext_list_end (I.ok.hd hc) st p.isList (by simp;omega) fun h' eb=>⟨rfl,I.turned (t':=s.toks) (fun b o hb e=>eb b o hb e) f0 f1 f3 f4 f5⟩
 self:=fun _ _ _ _ _ st h=>wpAny_pyIter_listiter st h
theorem ZlL {P:Program} {w:World} {K:PySem.W.Frag} {tg:Expr} (a it:Addr):Turn P w K tg (Itt K a) [it] it (fun i h=>h.IsTupleIter it a i) where
 mem:=by simp
 obj:=fun i h st b hb=>by
  have e:b=it:=by simpa using hb
  subst e
  obtain ⟨o,e,c,d⟩:=st
  exact ⟨o,e,fun v z=>by rw [d] at z;cases z⟩
 keep:=fun i h h' st k=>st.at fun o e=>k it (by simp) o e
 item:=by
  intro X hP hw hK hc i pins s σ H E I hf st hg
  subst hP hw hK
  obtain ⟨xs,x,hq,hx⟩:=hg
  obtain ⟨its,rv,p,hz⟩:=I.tuple hq
  obtain ⟨u,hu,ru⟩:=rv.get hx
  obtain ⟨f0,f1,f2,f3,f4,f5⟩:=hf it (by simp)
  refine wpAny_pyNext_tuple_item st (show s.heap.IsTuple a its.toArray from p) (x:=u) (by simpa using hu) fun h' st' sb=>?_
  have I1:Inv X pins σ H { s with heap:=h' }:=I.turned (t':=s.toks) (fun b o hb e=>(sb.2 b hb).trans e) f0 f1 f3 f4 f5
  obtain ⟨o,e,c,d⟩:=id st'
  exact ⟨u,rfl,Zmh (s:={ s with heap:=h' }) e c d (by decide) ⟨x,H,I1,ru,⟨rfl,fun ys hy=>by rw [I.tuple_inj hy hq];exact hx⟩,st',fun b hb=>(hf b hb).1⟩⟩
 done:=by
  intro X hP hw hK hc i pins s σ H E I hf st hg
  subst hP hw hK
  obtain ⟨xs,hq,hx⟩:=hg
  obtain ⟨its,rv,p,hz⟩:=I.tuple hq
  obtain ⟨f0,f1,f2,f3,f4,f5⟩:=hf it (by simp)
  have hl:=rv.length
  exact wpAny_pyNext_tuple_end (I.ok.hd hc) st (show s.heap.IsTuple a its.toArray from p) (by simp;omega) fun h' eb=>⟨rfl,I.turned (t':=s.toks) (fun b o hb e=>eb b o hb e) f0 f1 f3 f4 f5⟩
 self:=fun _ _ _ _ _ st h=>wpAny_pyIter_tupleiter st h
theorem ZlM {P:Program} {w:World} {K:PySem.W.Frag} {tg:Expr} (it:Addr) (lo:Int) (n:Nat):Turn P w K tg (Itr lo n) [it] it (fun i h=>IsRangeIter h it (lo+(i:Nat)*1) ((n:Int)-(i:Nat)) 1) where
 mem:=by simp
 obj:=fun i h st b hb=>by
  have e:b=it:=by simpa using hb
  subst e
  exact ⟨_,st,fun v z=>by
   have z':Data.fields _=Data.cell v:=z
   cases z'⟩
 keep:=fun i h h' st k=>k it (by simp) _ st
 item:=by
  intro X hP hw hK hc i pins s σ H E I hf st hg
  subst hP hw hK
  obtain ⟨f0,f1,f2,f3,f4,f5⟩:=hf it (by simp)
  have W:=Walks.range (prog:=X.prog) (w:=X.w) (I.ok.hd hc) it lo 1 n
  refine W.item i s _ _ hg st fun v h' tk hv st' kk=>?_
  obtain ⟨t,rfl⟩:=hv
  have I1:Inv X pins σ H { s with heap:=h',toks:=tk }:=I.turned (fun b o hb e=>kk b o (by simpa using hb) e) f0 f1 f3 f4 f5
  refine ⟨_,rfl,Zmh (s:={ s with heap:=h',toks:=tk }) (n:="range_iterator") st' rfl rfl (by decide) ⟨.int (lo+i),H,I1,⟨t,?_⟩,⟨rfl,rfl⟩,st',fun b hb=>(hf b hb).1⟩⟩
  rw [Int.mul_one]
 done:=by
  intro X hP hw hK hc i pins s σ H E I hf st hg
  subst hP hw hK
  obtain ⟨f0,f1,f2,f3,f4,f5⟩:=hf it (by simp)
  exact wpAny_pyNext_range_end (I.ok.hd hc) st (by have:n≤i:=hg;omega) fun h' eb=>⟨rfl,I.turned (t':=s.toks) (fun b o hb e=>eb b o hb e) f0 f1 f3 f4 f5⟩
 self:=fun _ _ _ _ _ st h=>wpAny_pyIter_rangeiter st h
end L2
namespace L2
open PySem PySem.Spec PyProof.Rows
section
variable {X:Cx} {tg:Expr}
noncomputable def Zmg (K:PySem.W.Frag) (tl:TE):TI:=fun σ H R=>tl σ H fun x H1=>∃a,x=.ref a∧(∃xs,SqL K H1 a xs)∧R (Itl K a) H1
noncomputable def iTup (K:PySem.W.Frag) (tl:TE):TI:=fun σ H R=>tl σ H fun x H1=>∃a,x=.ref a∧(∃xs,SqT K H1 a xs)∧R (Itt K a) H1
theorem Zh2 {l:Expr} {tl:TE} (hl:PE X l tl):PI X tg l (Zmg X.K tl):=by
 intro pins s σ H R I h
 refine thn (hl pins s σ H _ I h) fun v s1 ⟨x,H1,I1,r1,q1⟩=>?_
 obtain ⟨a,e,⟨xs,hq⟩,q⟩:=q1
 subst e
 cases r1
 obtain ⟨its,rv,p,hz⟩:=I1.list hq
 refine wpAny_pyIter_list p.isList ?_
 refine ⟨s1.heap.objs.size,[s1.heap.objs.size],_,_,H1,rfl,I1.kept (t':=s1.toks) fun b o e=>Heap.get?_push_of_some _ e,ZmM a _,⟨_,Heap.get?_push_size _ rfl,rfl,rfl⟩,fun b hb=>?_,q⟩
 have e:b=s1.heap.objs.size:=by simpa using hb
 subst e
 exact I1.fpOk (Nat.le_refl _) (I1.hok.fresh (Nat.le_refl _))
theorem Zre {l:Expr} {tl:TE} (hl:PE X l tl):PI X tg l (iTup X.K tl):=by
 intro pins s σ H R I h
 refine thn (hl pins s σ H _ I h) fun v s1 ⟨x,H1,I1,r1,q1⟩=>?_
 obtain ⟨a,e,⟨xs,hq⟩,q⟩:=q1
 subst e
 cases r1
 obtain ⟨its,rv,p,hz⟩:=I1.tuple hq
 refine wpAny_pyIter_tuple (show s1.heap.IsTuple a its.toArray from p) ?_
 refine ⟨s1.heap.objs.size,[s1.heap.objs.size],_,_,H1,rfl,I1.kept (t':=s1.toks) fun b o e=>Heap.get?_push_of_some _ e,ZlL a _,⟨_,Heap.get?_push_size _ rfl,rfl,rfl⟩,fun b hb=>?_,q⟩
 have e:b=s1.heap.objs.size:=by simpa using hb
 subst e
 exact I1.fpOk (Nat.le_refl _) (I1.hok.fresh (Nat.le_refl _))
theorem Zjx {pins:List (Addr×Obj)} {σ:St} {H:Hp} {s:Shared} {R:It→Hp→Prop} {E:Value→Shared→Prop} {lo hi:Int} {t u v:Tok} {tk:Nat} (I:Inv X pins σ H s) (h1:-(2 ^ 62)≤lo) (h2:lo<2 ^ 62) (h3:-(2 ^ 62)≤hi) (h4:hi<2 ^ 62)
  (q:R (Itr lo (hi-lo).toNat) H):wpAny (model X.prog X.w) X.A (pyIter (.ref s.heap.objs.size)) (PIE X pins σ tg R) E { s with heap:=s.heap.push { cls:=.type "range",data:=.fields #[.int lo t,.int hi u,.int 1 v] },toks:=tk }:=by
 refine wpAny_pyIter_range (IsRange.new ..) (small_one h1 h2 h3 h4) ?_
 have I1:Inv X pins σ H { s with heap:=s.heap.push { cls:=.type "range",data:=.fields #[.int lo t,.int hi u,.int 1 v] },toks:=tk }:=I.kept fun b o e=>Heap.get?_push_of_some _ e
 refine ⟨(s.heap.push { cls:=.type "range",data:=.fields #[.int lo t,.int hi u,.int 1 v] }).objs.size,[(s.heap.push { cls:=.type "range",data:=.fields #[.int lo t,.int hi u,.int 1 v] }).objs.size],_,_,H,rfl,
  I1.kept (t':=tk) fun b o e=>Heap.get?_push_of_some _ e,ZlM _ lo (hi-lo).toNat,?_,fun b hb=>?_,q⟩
 ·have e1:lo+((0:Nat):Int)*1=lo:=by simp
  have e2:(((hi-lo).toNat:Nat):Int)-((0:Nat):Int)=Builtin.Range.rangeSize lo hi 1:=by rw [rangeSize_one];split <;> omega
  show IsRangeIter _ _ (lo+((0:Nat):Int)*1) ((((hi-lo).toNat:Nat):Int)-((0:Nat):Int)) 1
  rw [e1,e2]
  exact Heap.get?_push_size _ rfl
 ·have e:b=(s.heap.push { cls:=.type "range",data:=.fields #[.int lo t,.int hi u,.int 1 v] }).objs.size:=by simpa using hb
  subst e
  exact I1.fpOk (Nat.le_refl _) (I1.hok.fresh (Nat.le_refl _))
noncomputable def ZpB (ta:TA):TI:=fun σ H R=>ta σ H fun vs H1=>∃j:Int,vs=[.int j]∧-(2 ^ 62)≤j∧j<2 ^ 62∧R (Itr 0 j.toNat) H1
noncomputable def Zso (ta:TA):TI:=fun σ H R=>ta σ H fun vs H1=>∃i j:Int,vs=[.int i,.int j]∧(-(2 ^ 62)≤i∧i<2 ^ 62∧-(2 ^ 62)≤j∧j<2 ^ 62)∧R (Itr i (j-i).toNat) H1
theorem ZfM {a:Expr} {ta:TA} {p pos:Pos} (hg:Gl X "range") (hm:X.mg "range" = none) (ha:PA X [a] ta) (hs:starEach [a] X.env=[(false,eval a X.env)]:=by rfl):PI X tg (.Call (.Name "range" p) [a] [] pos) (ZpB ta):=by
 intro pins s σ H R I h
 refine Call_ (Zep I hg hm boot_range (PyProof.Rows.callWith_type1 (thn (ha pos pins s σ H _ I h) fun us s1 ⟨vs,H1,I1,r1,q1⟩=>?_) hs rfl))
 obtain ⟨j,e,q1,q2,q⟩:=q1
 subst e
 cases r1 with
 | cons r rr=>
  cases rr
  obtain ⟨t,rfl⟩:=r
  exact call_range_1 (Zjx I1 (by omega) (by omega) q1 q2 (by simpa using q))
theorem Zm9 {a b:Expr} {ta:TA} {p pos:Pos} (hg:Gl X "range") (hm:X.mg "range" = none) (ha:PA X [a,b] ta) (hs:starEach [a,b] X.env=[(false,eval a X.env),(false,eval b X.env)]:=by rfl) (hs2:starEach [b] X.env=[(false,eval b X.env)]:=by rfl) :
  PI X tg (.Call (.Name "range" p) [a,b] [] pos) (Zso ta):=by
 intro pins s σ H R I h
 refine Call_ (Zep I hg hm boot_range (PyProof.Rows.callWith_type1 (thn (ha pos pins s σ H _ I h) fun us s1 ⟨vs,H1,I1,r1,q1⟩=>?_) (by rw [hs,hs2]) (by rw [hs2];rfl)))
 obtain ⟨i,j,e,⟨q1,q2,q3,q4⟩,q⟩:=q1
 subst e
 cases r1 with
 | cons r rr=>
  cases rr with
  | cons r' rr=>
   cases rr
   obtain ⟨t,rfl⟩:=r
   obtain ⟨t',rfl⟩:=r'
   exact call_range_2 (Zjx I1 q1 q2 q3 q4 q)
noncomputable def tFor (wi:TI) (g:TG) (tb:TS):TS:=fun D σ H=>wi σ H fun J H1=>∃W:Nat→Nat→St→Hp→Prop,(∃m,W 0 m σ H1)∧∀i m σ H,W i m σ H→
 (J.stop i H∧D.nx σ H)∨(J.go i H∧∃N:St→Hp→Prop,(∀σ' H',N σ' H'→∃m',m'<m∧W (i+1) m' σ' H')∧∀x H',J.yld i H x H'→g x σ H' fun σ2 H2=>tb { D with nx:=N,ct:=N,bk:=D.nx } σ2 H2)
noncomputable def ZfL (fp:List Addr) (h:Heap):List (Addr×Obj):=fp.filterMap fun b=>(h.get? b).map fun o=>(b,o)
theorem ZcY {fp:List Addr} {h:Heap} {b:Addr} {o:Obj} (hb:b∈fp) (e:h.get? b=some o):(b,o)∈ZfL fp h:=List.mem_filterMap.mpr ⟨b,hb,by rw [e];rfl⟩
theorem Znk {fp:List Addr} {h:Heap} {p:Addr×Obj} (hp:p∈ZfL fp h):p.1∈fp∧h.get? p.1=some p.2:=by
 obtain ⟨b,hb,e⟩:=List.mem_filterMap.mp hp
 cases q:h.get? b with
 | none=>rw [q] at e;cases e
 | some o=>
  rw [q] at e
  have e':(b,o)=p:=Option.some.inj e
  subst e'
  exact ⟨hb,q⟩
theorem Inv.pinned {pins:List (Addr×Obj)} {σ:St} {H:Hp} {s:Shared} {fp:List Addr} (I:Inv X pins σ H s) (hf:∀b∈fp,FpOk X pins H b) (ho:∀b∈fp,∃o,s.heap.get? b=some o∧∀v,o.data≠.cell v):Inv X (pins++ZfL fp s.heap) σ H s:=
 I.pins_of fun p hp=>(List.mem_append.mp hp).elim (fun z=>I.pin p (List.mem_append_right _ z)) fun z=>by
  obtain ⟨hb,e⟩:=Znk z
  obtain ⟨f0,f1,f2,_⟩:=hf p.1 hb
  obtain ⟨o,e',d⟩:=ho p.1 hb
  rw [e] at e';cases e'
  exact ⟨e,f0,f1,f2,d⟩
theorem Inv.unpinned {pins pl:List (Addr×Obj)} {σ:St} {H:Hp} {s:Shared} (I:Inv X (pins++pl) σ H s):Inv X pins σ H s:=I.pins_of fun p hp=>I.pin p (List.mem_append_right _ (List.mem_append_left _ hp))
theorem Zm4 {iter:Expr} {body:List Stmt} {wi:TI} {g:TG} {tb:TS} {pos:Pos} (hp:PassesOwn (model X.prog X.w) X.A X.env X.xe) (hc:X.calm=true) (hi:PI X tg iter wi) (hg:PG X tg g) (hb:PSs X body tb)
  (hs:∀x,foldedSetIterable iter X.env x=pure x:=by intro _;rfl):PS X (.For tg iter body [] pos) (tFor wi g tb):=by
 intro pins s σ H D I h
 refine wpAny_For (thn (hi pins s σ H _ I h) fun v s1 h1=>thn h1 fun itv s2 h2=>?_) hs
 obtain ⟨it,fp,tn,J,H2,e,I2,T,st2,f2,W,⟨m0,w0⟩,turn⟩:=h2
 subst e
 -- what stays true of the iterator's objects through the loop
 have stat:∀{H':Hp},(∀b∈fp,H' b=none)→∀b∈fp,FpOk X pins H' b:=fun hn b hb=>⟨hn b hb,(f2 b hb).2⟩
 refine codeAny_forLoop_any (fun n s'=>∃i σ' H',Inv X pins σ' H' s'∧tn i s'.heap∧(∀b∈fp,H' b=none)∧W i n σ' H') ?_ m0 ⟨0,σ,H2,I2,st2,fun b hb=>(f2 b hb).1,w0⟩
 rintro n s3 ⟨i,σ3,H3,I3,st3,fr3,w3⟩
 rcases turn i n σ3 H3 w3 with ⟨stop,qn⟩ | ⟨go,N,hN,step⟩
 ·refine wpAny_passesOwn hp (thn (T.done X rfl rfl rfl hc i pins s3 σ3 H3 X.xe I3 (stat fr3) st3 stop) fun r s4 ⟨hr,I4⟩=>?_)
  subst hr
  exact wpAny_execs_nil ⟨σ3,H3,I4,qn⟩
 ·refine wpAny_passesOwn hp (thn (T.item X rfl rfl rfl hc i pins s3 σ3 H3 X.xe I3 (stat fr3) st3 go) fun r s4 ⟨u,hr,h4⟩=>?_)
  subst hr
  refine wpAny_passesOwn hp (thn h4 fun _ s5 ⟨x,H5,I5,r5,y5,st5,fr5⟩=>?_)
  have I5':=I5.pinned (stat fr5) (T.obj _ _ st5)
  refine wpAny_passesOwn hp (thn (hg _ s5 σ3 H5 x u _ I5' r5 (step x H5 y5)) fun _ s6 ⟨σ6,H6,I6,q6⟩=>?_)
  refine wpAny_passesOwn hp (thn (hb _ s6 σ6 H6 _ I6 q6) fun f s7 q7=>?_)
  have again:∀{σ7:St} {H7:Hp},Inv X (pins++ZfL fp s5.heap) σ7 H7 s7→N σ7 H7→∃m,m<n∧∃i σ' H',Inv X pins σ' H' s7∧tn i s7.heap∧(∀b∈fp,H' b=none)∧W i m σ' H':=fun {σ7 H7} I7 n7=>by
   obtain ⟨m',hm,w7⟩:=hN σ7 H7 n7
   refine ⟨m',hm,i+1,σ7,H7,I7.unpinned,T.keep _ _ _ st5 fun b hb o e=>(I7.pin (b,o) (List.mem_append_right _ (List.mem_append_right _ (ZcY hb e)))).1,fun b hb=>?_,w7⟩
   obtain ⟨o,e,d⟩:=T.obj _ _ st5 b hb
   exact (I7.pin (b,o) (List.mem_append_right _ (List.mem_append_right _ (ZcY hb e)))).2.1
  cases f with
  | next=>obtain ⟨σ7,H7,I7,n7⟩:=q7;exact again I7 n7
  | cont=>obtain ⟨σ7,H7,I7,n7⟩:=q7;exact again I7 n7
  | brk=>obtain ⟨σ7,H7,I7,q7⟩:=q7;exact ⟨σ7,H7,I7.unpinned,q7⟩
  | ret v=>obtain ⟨x7,σ7,H7,I7,r7,q7⟩:=q7;exact ⟨x7,σ7,H7,I7.unpinned,r7,q7⟩
end
end L2
namespace L2
open PySem PySem.Spec PyProof.Rows
noncomputable abbrev R2:=V→V→Hp→VK→Prop
noncomputable def OpR (X:Cx) (f:Value→Value→Sem Value) (r:R2):Prop:=
 ∀(pins:List (Addr×Obj)) (s:Shared) (σ:St) (H:Hp) (x y:V) (v u:Value) (Q:VK),Inv X pins σ H s→RelV x v→RelV y u→r x y H Q→
  wpAny (model X.prog X.w) X.A (f v u) (EP X pins σ Q) X.xe s
noncomputable def UnR (X:Cx) (f:Value→Sem Value) (r:V→Hp→VK→Prop):Prop:=
 ∀(pins:List (Addr×Obj)) (s:Shared) (σ:St) (H:Hp) (x:V) (v:Value) (Q:VK),Inv X pins σ H s→RelV x v→r x H Q→
  wpAny (model X.prog X.w) X.A (f v) (EP X pins σ Q) X.xe s
noncomputable def ZbH (X:Cx) (f:Value) (r:List V→Hp→VK→Prop):Prop:=
 ∀(pins:List (Addr×Obj)) (s:Shared) (σ:St) (H:Hp) (xs:List V) (us:List Value) (Q:VK),Inv X pins σ H s→Vals xs us→r xs H Q→
  wpAny (model X.prog X.w) X.A (call f us) (EP X pins σ Q) X.xe s
noncomputable def tOp (r:R2) (ta tb:TE):TE:=fun σ H Q=>ta σ H fun x H1=>tb σ H1 fun y H2=>r x y H2 Q
noncomputable def tUn (r:V→Hp→VK→Prop) (ta:TE):TE:=fun σ H Q=>ta σ H fun x H1=>r x H1 Q
noncomputable def rI (C:Int→Int→Prop) (g:Int→Int→V):R2:=fun x y H Q=>∃i j,x=.int i∧y=.int j∧C i j∧Q (g i j) H
noncomputable def rI0 (g:Int→Int→V):R2:=fun x y H Q=>∃i j,x=.int i∧y=.int j∧Q (g i j) H
noncomputable def rU (g:Int→V):V→Hp→VK→Prop:=fun x H Q=>∃i,x=.int i∧Q (g i) H
section
variable {X:Cx} {a b c:Expr} {ta tb tc:TE} {pos:Pos}
theorem binT (ha:PE X a ta) (hb:PE X b tb) {pins:List (Addr×Obj)} {s:Shared} {σ:St} {H:Hp} {R:V→V→Hp→Prop} (I:Inv X pins σ H s)
  (h:ta σ H fun x H1=>tb σ H1 fun y H2=>R x y H2) {Q:Value→Shared→Prop} {f:Value→Value→Sem Value}
  (hf:∀v u s2 x y H2,Inv X pins σ H2 s2→RelV x v→RelV y u→R x y H2→wpAny (model X.prog X.w) X.A (f v u) Q X.xe s2) :
  wpAny (model X.prog X.w) X.A (eval a X.env) (fun v s₁=>wpAny (model X.prog X.w) X.A (eval b X.env) (fun u s₂=>wpAny (model X.prog X.w) X.A (f v u) Q X.xe s₂) X.xe s₁) X.xe s:=by
 refine thn (ha pins s σ H _ I h) fun v s1 ⟨x,H1,I1,r1,q1⟩=>?_
 refine thn (hb pins s1 σ H1 _ I1 q1) fun u s2 ⟨y,H2,I2,r2,q2⟩=>?_
 exact hf v u s2 x y H2 I2 r1 r2 q2
theorem Zbu {op:Operator} {r:R2} (ho:OpR X (binaryOp op) r) (ha:PE X a ta) (hb:PE X b tb):PE X (.BinOp a op b pos) (tOp r ta tb):=by
 intro pins s σ H Q I h
 exact wpAny_BinOp (binT ha hb I h fun v u s2 x y H2 I2 rx ry q=>ho pins s2 σ H2 x y v u Q I2 rx ry q)
theorem Zsk {op:UnaryOp} {r:V→Hp→VK→Prop} (ho:UnR X (unaryOp op) r) (ha:PE X a ta):PE X (.UnaryOp op a pos) (tUn r ta):=by
 intro pins s σ H Q I h
 exact UnaryOp_ (thn (ha pins s σ H _ I h) fun v s1 ⟨x,H1,I1,r1,q1⟩=>ho pins s1 σ H1 x v Q I1 r1 q1)
theorem opI {f:Value→Value→Sem Value} {C:Int→Int→Prop} {g:Int→Int→Int}
  (rule:∀(i j:Int) (t u:Tok) (s:Shared) (Q:Value→Shared→Prop) (E:Value→Shared→Prop),C i j→Q (.int (g i j) s.toks) { s with toks:=s.toks+1 }→wpAny (model X.prog X.w) X.A (f (.int i t) (.int j u)) Q E s) :
  OpR X f (rI C fun i j=>.int (g i j)):=by
 intro pins s σ H x y v u Q I rx ry h
 obtain ⟨i,j,rfl,rfl,hc,q⟩:=h
 obtain ⟨t,rfl⟩:=rx
 obtain ⟨t',rfl⟩:=ry
 exact rule i j t t' s _ _ hc ⟨.int (g i j),H,I.tok _,⟨_,rfl⟩,q⟩
theorem opI0 {f:Value→Value→Sem Value} {g:Int→Int→Int}
  (rule:∀(i j:Int) (t u:Tok) (s:Shared) (Q:Value→Shared→Prop) (E:Value→Shared→Prop),Q (.int (g i j) s.toks) { s with toks:=s.toks+1 }→wpAny (model X.prog X.w) X.A (f (.int i t) (.int j u)) Q E s) :
  OpR X f (rI0 fun i j=>.int (g i j)):=by
 intro pins s σ H x y v u Q I rx ry h
 obtain ⟨i,j,rfl,rfl,q⟩:=h
 obtain ⟨t,rfl⟩:=rx
 obtain ⟨t',rfl⟩:=ry
 exact rule i j t t' s _ _ ⟨.int (g i j),H,I.tok _,⟨_,rfl⟩,q⟩
theorem opB0 {f:Value→Value→Sem Value} {g:Int→Int→Bool}
  (rule:∀(i j:Int) (t u:Tok) (s:Shared) (Q:Value→Shared→Prop) (E:Value→Shared→Prop),Q (.bool (g i j)) s→wpAny (model X.prog X.w) X.A (f (.int i t) (.int j u)) Q E s) :
  OpR X f (rI0 fun i j=>.bl (g i j)):=by
 intro pins s σ H x y v u Q I rx ry h
 obtain ⟨i,j,rfl,rfl,q⟩:=h
 obtain ⟨t,rfl⟩:=rx
 obtain ⟨t',rfl⟩:=ry
 exact rule i j t t' s _ _ ⟨.bl (g i j),H,I,rfl,q⟩
noncomputable def CDiv (i j:Int):Prop:=0<j∧j<1073741824
noncomputable def CPow (i j:Int):Prop:=0≤j∧j≤1000000∧i.natAbs<2 ^ 64
noncomputable def CMul (i j:Int):Prop:=(-(2 ^ 64)<i∧i<2 ^ 64)∨(-(2 ^ 64)<j∧j<2 ^ 64)
theorem CMul.ok {i j:Int} (h:CMul i j):IntMulOk i j:=by
 rcases h with ⟨h1,h2⟩ | ⟨h1,h2⟩
 ·exact .of_left (intBits_le_64 h1 h2)
 ·exact .of_right (intBits_le_64 h1 h2)
theorem ZdT:OpR X (binaryOp .Add) (rI0 fun i j=>.int (i+j)):=opI0 fun _ _ _ _ _ _ _ q=>add_int q
theorem Zrs:OpR X (binaryOp .Sub) (rI0 fun i j=>.int (i-j)):=opI0 fun _ _ _ _ _ _ _ q=>sub_int q
theorem Zem:OpR X (binaryOp .Mult) (rI CMul fun i j=>.int (i*j)):=opI fun _ _ _ _ _ _ _ hc q=>mul_int q hc.ok
theorem Zlr:OpR X (binaryOp .FloorDiv) (rI CDiv fun i j=>.int (i / j)):=opI fun i j _ _ _ _ _ hc q=>by
 have h1:(0:Int)<j:=hc.1
 have h2:j<1073741824:=hc.2
 exact floordiv_int (by omega) (by rw [Int.fdiv_eq_ediv_of_nonneg i (by omega)];exact q) (.inl (PyProof.noPylong_small (by omega)))
theorem ZdS:OpR X (binaryOp .Mod) (rI (fun _ j=>0<j) fun i j=>.int (i % j)):=opI fun i j _ _ _ _ _ hc q=>by
 have h1:(0:Int)<j:=hc
 exact mod_int' (by omega) (by rw [Int.fmod_eq_emod_of_nonneg i (by omega)];exact q)
theorem Zru:OpR X (binaryOp .Pow) (rI CPow fun i j=>.int (i ^ j.toNat)):=opI fun _ _ _ _ _ _ _ hc q=>pow_int_small hc.1 hc.2.1 hc.2.2 q
theorem unI {f:Value→Sem Value} {g:Int→Int}
  (rule:∀(i:Int) (t:Tok) (s:Shared) (Q:Value→Shared→Prop) (E:Value→Shared→Prop),Q (.int (g i) s.toks) { s with toks:=s.toks+1 }→wpAny (model X.prog X.w) X.A (f (.int i t)) Q E s) :
  UnR X f (rU fun i=>.int (g i)):=by
 intro pins s σ H x v Q I rx h
 obtain ⟨i,rfl,q⟩:=h
 obtain ⟨t,rfl⟩:=rx
 exact rule i t s _ _ ⟨.int (g i),H,I.tok _,⟨_,rfl⟩,q⟩
theorem ZqZ:UnR X (unaryOp .USub) (rU fun i=>.int (-i)):=unI fun _ _ _ _ _ q=>neg_int q
end
section
variable {X:Cx} {a b c:Expr} {ta tb tc:TE} {pos:Pos}
theorem Zkh {pins:List (Addr×Obj)} {σ:St} {H:Hp} {s:Shared} {Q:VK} {k k':Bool} (I:Inv X pins σ H s) (q:Q (.bl k) H) (e:k=k'):EP X pins σ Q (.bool k') s:=by
 subst e
 exact ⟨.bl k,H,I,rfl,q⟩
theorem Zpx:OpR X (compareOp .Lt) (rI0 fun i j=>.bl (decide (i<j))):=opB0 fun _ _ _ _ _ _ _ q=>lt_int q
theorem Zsn:OpR X (compareOp .LtE) (rI0 fun i j=>.bl (decide (i≤j))):=opB0 fun _ _ _ _ _ _ _ q=>le_int q
theorem Zl7:OpR X (compareOp .Gt) (rI0 fun i j=>.bl (decide (j<i))):=opB0 fun _ _ _ _ _ _ _ q=>gt_int q
theorem Zpy:OpR X (compareOp .GtE) (rI0 fun i j=>.bl (decide (j≤i))):=opB0 fun _ _ _ _ _ _ _ q=>ge_int q
theorem Zrx:OpR X (compareOp .Is) (fun x y H Q=>y=.non∧Q (.bl (decide (x=.non))) H):=by
 intro pins s σ H x y v u Q I rx ry h
 obtain ⟨rfl,q⟩:=h
 cases ry
 refine is_none_gen (Zkh I q ?_)
 cases x <;> first
  | (cases rx;rfl)
  | (obtain ⟨t,rfl⟩:=rx;rfl)
theorem Zqn:OpR X (compareOp .IsNot) (fun x y H Q=>y=.non∧Q (.bl (!decide (x=.non))) H):=by
 intro pins s σ H x y v u Q I rx ry h
 obtain ⟨rfl,q⟩:=h
 cases ry
 refine isnot_none_gen (Zkh I q ?_)
 cases x <;> first
  | (cases rx;rfl)
  | (obtain ⟨t,rfl⟩:=rx;rfl)
theorem OpR.or {f:Value→Value→Sem Value} {r r':R2} (h:OpR X f r) (h':OpR X f r'):OpR X f (fun x y H Q=>r x y H Q∨r' x y H Q):=by
 intro pins s σ H x y v u Q I rx ry q
 rcases q with q | q
 ·exact h pins s σ H x y v u Q I rx ry q
 ·exact h' pins s σ H x y v u Q I rx ry q
theorem ZeY (b:Expr) {op:CmpOp} (h:op≠.In:=by decide) (h2:op≠.NotIn:=by decide):behindInMarks op b=false:=by
 have e1:(op==CmpOp.In)=false:=by cases op <;> first | rfl | exact absurd rfl h
 have e2:(op==CmpOp.NotIn)=false:=by cases op <;> first | rfl | exact absurd rfl h2
 cases b <;> simp [behindInMarks,e1,e2]
theorem Zqb {op:CmpOp} {r:R2} (ho:OpR X (compareOp op) r) (ha:PE X a ta) (hb:PE X b tb) (hm:behindInMarks op b=false):PE X (.Compare a [op] [b] pos) (tOp r ta tb):=by
 intro pins s σ H Q I h
 exact wpAny_Compare1 (binT ha hb I h fun v u s2 x y H2 I2 rx ry q=>ho pins s2 σ H2 x y v u Q I2 rx ry q) hm
noncomputable def Zhe (t:TE):TT:=fun σ H Q=>t σ H fun x H'=>∃k,x=.bl k∧Q k H'
theorem ZeR {op:CmpOp} {r:R2} (ho:OpR X (compareOp op) r) (ha:PE X a ta) (hb:PE X b tb) (hm:behindInMarks op b=false):PT X (.Compare a [op] [b] pos) (Zhe (tOp r ta tb)):=by
 intro pins s σ H Q I h
 refine wpAny_isTrue_Compare1 (thn (ha pins s σ H _ I h) fun v s1 ⟨x,H1,I1,r1,q1⟩=>thn (hb pins s1 σ H1 _ I1 q1) fun u s2 ⟨y,H2,I2,r2,q2⟩=>
  thn (ho pins s2 σ H2 x y v u _ I2 r1 r2 q2) fun c s3 ⟨z,H3,I3,r3,k,e,q3⟩=>?_) hm
 subst e
 cases r3
 exact wpAny_truthy_bool ⟨H3,I3,q3⟩
theorem Zf1:(sizeLine:Nat)<2 ^ 63:=by rw [sizeLine_eq];decide
theorem Zb8 {x:V} {us:List Value} (r:Vals [x] us):∃u,us=[u]∧RelV x u:=by
 cases r with
 | cons r1 r2=>cases r2;exact ⟨_,rfl,r1⟩
theorem ZlK {x y:V} {us:List Value} (r:Vals [x,y] us):∃u w',us=[u,w']∧RelV x u∧RelV y w':=by
 cases r with
 | cons r1 r2=>
  cases r2 with
  | cons r3 r4=>cases r4;exact ⟨_,_,rfl,r1,r3⟩
theorem Zoc (hc:X.calm=true):ZbH X (.builtin "max") (fun xs H Q=>∃i j,xs=[.int i,.int j]∧Q (.int (if j > i then j else i)) H):=by
 intro pins s σ H xs us Q I r h
 obtain ⟨i,j,rfl,q⟩:=h
 obtain ⟨u,w',rfl,⟨t,rfl⟩,⟨t',rfl⟩⟩:=ZlK r
 refine max_two_ints (I.ok.hd hc) fun h' tk k=>⟨_,H,I.kept k,?_,q⟩
 by_cases hj:j > i
 ·rw [if_pos hj,if_pos hj];exact ⟨_,rfl⟩
 ·rw [if_neg hj,if_neg hj];exact ⟨_,rfl⟩
theorem Zoa (hc:X.calm=true):ZbH X (.builtin "min") (fun xs H Q=>∃i j,xs=[.int i,.int j]∧Q (.int (if j<i then j else i)) H):=by
 intro pins s σ H xs us Q I r h
 obtain ⟨i,j,rfl,q⟩:=h
 obtain ⟨u,w',rfl,⟨t,rfl⟩,⟨t',rfl⟩⟩:=ZlK r
 refine min_two_ints (I.ok.hd hc) fun h' tk k=>⟨_,H,I.kept k,?_,q⟩
 by_cases hj:j<i
 ·rw [if_pos hj,if_pos hj];exact ⟨_,rfl⟩
 ·rw [if_neg hj,if_neg hj];exact ⟨_,rfl⟩
end
end L2
namespace L2
open PySem PySem.Spec PyProof.Rows
structure ObjM (h:Heap) (x dx C:Addr) (mA:Str→Option Value):Prop where
 obj:h.get? x=some (PySem.W.instObj C dx)
 ns:h.Ns1 dx mA
 ne:dx≠x
theorem Znu {h:Heap} {dx:Addr} {mA:Str→Option Value} (n:h.Ns1 dx mA):∃od,h.get? dx=some od∧∀name,PySem.W.lookIn name od=some (mA name):=by
 obtain ⟨o,es,ep,ho,hd,hk,_,hm⟩:=n
 refine ⟨o,ho,fun name=>?_⟩
 have e:=hm name
 unfold nsFind findBy at e
 rw [←Array.find?_toList] at e
 unfold PySem.W.lookIn
 rw [hd]
 dsimp only
 split
 ·rename_i y q
  rw [q] at e
  exact congrArg some e
 ·rename_i q
  rw [q] at e
  have a:es.toList.any (·.refKey)=false:=by
   rw [List.any_eq_false]
   intro y hy
   obtain ⟨z,t,hkey⟩:=hk y (Array.mem_toList_iff.mp hy)
   simp [DictEntry.refKey,hkey]
  have a':¬es.toList.any (·.refKey)=true:=by rw [a];exact Bool.false_ne_true
  rw [if_neg a']
  exact congrArg some e
theorem ObjM.look {h:Heap} {x dx C:Addr} {mA:Str→Option Value} (I:ObjM h x dx C mA):∃od,PySem.W.InstAt h x (PySem.W.instObj C dx) C (some od)∧∀name,PySem.W.lookIn name od=some (mA name):=
 let ⟨od,ho,hl⟩:=Znu I.ns
 ⟨od,⟨I.obj,rfl,rfl,ho⟩,hl⟩
section
variable {prog:Program} {w:World} {A:Around} {E:Value→Shared→Prop} {s:Shared} {K:PySem.W.Frag} {x dx C f:Addr} {mA:Str→Option Value} {name:Str} {v:Value}
end
theorem RelO.some_of {v:V} {o:Option Value} (r:RelO (some v) o):∃u,o=some u∧RelV v u:=by
 cases o with
 | none=>exact (show False from r).elim
 | some u=>exact ⟨u,rfl,r⟩
section
variable {P:Program} {w:World} {H H':Hp} {h h':Heap} {a C dx:Addr} {fs fs':List (Str×V)}
theorem ZqK (hok:HOk P w H h) (e:H a=some (.ins C dx fs)):∃mA,ObjM h a dx C mA∧(∀f,RelO (fs.lookup f) (mA f))∧PySem.Within mA (fs.map (·.1))∧fs.length≤1000∧H dx=some (.own a):=by
 obtain ⟨d,z,ne,ob,mA,n,r,q⟩:=(show Za9 P w H h a (.ins C dx fs) from hok a _ e)
 exact ⟨mA,⟨ob,n,ne⟩,r,q,z,d⟩
end
structure Cls (K:PySem.W.Frag) (C:Addr):Prop where
 pg:PySem.W.plainGet K C Str.empty=true
 hd:PySem.W.hasDictIn K C=true
 po:PySem.W.plainOver K C=true
 sa:PySem.W.findIn K (.ref C) "__setattr__" = some (some (.builtin "object.__setattr__"))
theorem Cls.get {K:PySem.W.Frag} {C:Addr} (c:Cls K C) (f:Str):PySem.W.plainGet K C f=true:=c.pg
section
variable {X:Cx} {pins:List (Addr×Obj)} {σ:St} {H:Hp} {s:Shared} {a C dx:Addr} {fs:List (Str×V)} {f:Str} {v:V} {A:Around} {E:Value→Shared→Prop}
end
section
variable {X:Cx} {o e value:Expr} {f:Str} {pos pos' tpos:Pos} {ta tv:TE}
end
section
variable {X:Cx} {pins:List (Addr×Obj)} {σ:St} {H:Hp} {s:Shared} {A:Around} {E:Value→Shared→Prop} {Q:Value→Shared→Prop} {c:Value} {b:Bool}
inductive TyOf (K:PySem.W.Frag) (H:Hp):V→Value→Prop where
 | non:TyOf K H .non (.type "NoneType")
 | bl (x:Bool):TyOf K H (.bl x) (.type "bool")
 | int (i:Int):TyOf K H (.int i) (.type "int")
 | str (x:Str):TyOf K H (.str x) (.type "str")
 | flt (x:UInt64):TyOf K H (.flt x) (.type "float")
 | lst {a:Addr} {xs:List V} (e:H a=some (.lst xs)):TyOf K H (.ref a) (.type "list")
 | frz {a:Addr} {o:Obj} {xs:List V} (e:H a=some (.frz o (.lst xs))):TyOf K H (.ref a) (.type "list")
 | tup {a:Addr} {xs:List V} (e:H a=some (.tup xs)):TyOf K H (.ref a) (.type "tuple")
 | dK {a:Addr} {kvs:List (Key×V)} (e:H a=some (.dK kvs)):TyOf K H (.ref a) (.type "dict")
 | dT {a:Addr} {kvs:List (List Key×V)} (e:H a=some (.dT kvs)):TyOf K H (.ref a) (.type "dict")
 | ins {a C dx:Addr} {fs:List (Str×V)} (e:H a=some (.ins C dx fs)) (cl:Cls K C) (ha:PySem.W.findIn K (.ref C) "__class__" = some (some (.builtin "object.__class__")))
   (hn:PySem.W.specialIn K (.builtin "object.__class__") "__get__" = some (some (.builtin "getset_descriptor.__get__"))) (htk:PySem.W.takesIn K (.builtin "object.__class__")=some true)
   (hm:PySem.W.mroIn K C (.type "object")=some true):TyOf K H (.ref a) (.ref C)
theorem ZnF {x:V} {u t:Value} (I:Inv X pins σ H s) (rx:RelV x u) (ty:TyOf X.K H x t) (e:PySem.W.kitOne X.K t c=some b) (h:∀tk,Q (.bool b) { s with toks:=tk }) :
  wpAny (model X.prog X.w) A (call (.builtin "isinstance") [u,c]) Q E s:=by
 cases ty with
 | non=>cases (show u=Value.none from rx);exact PySem.W.kia_one PySem.W.kitx_none I.kIn True.intro e (fun z=>nomatch z) h
 | bl y=>cases (show u=Value.bool y from rx);exact PySem.W.kia_one PySem.W.kitx_bool I.kIn True.intro e (fun z=>nomatch z) h
 | int i=>obtain ⟨t,q⟩:=(show ∃t,u=Value.int i t from rx);cases q;exact PySem.W.kia_one PySem.W.kitx_int I.kIn True.intro e (fun z=>nomatch z) h
 | str y=>obtain ⟨t,q⟩:=(show ∃t,u=Value.str y t from rx);cases q;exact PySem.W.kia_one PySem.W.kitx_str I.kIn True.intro e (fun z=>nomatch z) h
 | flt y=>obtain ⟨t,q⟩:=(show ∃t,u=Value.float y t from rx);cases q;exact PySem.W.kia_one PySem.W.kitx_float I.kIn True.intro e (fun z=>nomatch z) h
 | @lst a xs ea=>
  cases (show u=Value.ref a from rx)
  obtain ⟨_,_,n,_,h1⟩:=(show Za9 X.prog X.w H s.heap a (.lst xs) from I.hok a _ ea)
  exact PySem.W.kia_one PySem.W.kitx_list I.kIn ⟨_,h1,rfl⟩ e (fun z=>nomatch z) h
 | @frz a ob xs ea=>
  cases (show u=Value.ref a from rx)
  obtain ⟨_,_,_,n,_,h1⟩:=(show Za9 X.prog X.w H s.heap a (.frz ob (.lst xs)) from I.hok a _ ea)
  exact PySem.W.kia_one PySem.W.kitx_list I.kIn ⟨_,h1,rfl⟩ e (fun z=>nomatch z) h
 | @tup a xs ea=>
  cases (show u=Value.ref a from rx)
  obtain ⟨_,_,_,p⟩:=(show Za9 X.prog X.w H s.heap a (.tup xs) from I.hok a _ ea)
  obtain ⟨o,h1,h2,_⟩:=p
  exact PySem.W.kia_one PySem.W.kitx_tuple I.kIn ⟨o,h1,h2⟩ e (fun z=>nomatch z) h
 | @dK a kvs ea=>
  cases (show u=Value.ref a from rx)
  obtain ⟨_,_,vs,_,p⟩:=(show Za9 X.prog X.w H s.heap a (.dK kvs) from I.hok a _ ea)
  obtain ⟨o,es,ep,h1,h2,_⟩:=p
  exact PySem.W.kia_one PySem.W.kitx_dict I.kIn ⟨o,h1,h2.1⟩ e (fun z=>nomatch z) h
 | @dT a kvs ea=>
  cases (show u=Value.ref a from rx)
  obtain ⟨_,_,xs,_,o,es,ep,h1,h2,_⟩:=(show Za9 X.prog X.w H s.heap a (.dT kvs) from I.hok a _ ea)
  exact PySem.W.kia_one PySem.W.kitx_dict I.kIn ⟨o,h1,h2.1⟩ e (fun z=>nomatch z) h
 | @ins a C dx fs ea cl ha hn htk hm=>
  cases (show u=Value.ref a from rx)
  obtain ⟨mA,O,_⟩:=ZqK I.hok ea
  obtain ⟨od,J,_⟩:=O.look
  exact PySem.W.kia_one (PySem.W.kitx_own (cl.get _) cl.hd ha hn htk hm) I.kIn J e (fun z=>nomatch z) h
end
end L2
namespace L2
open PySem PySem.Spec PyProof.Rows
structure Room (k:Nat) (A:Around):Prop where
 hd:A.handled=none
 dp:A.depth+3*k+5<recursionLimit
 un:A.units+16*k+200<cLine
 gd:A.guards=some []
theorem Room.mono {j k:Nat} {A:Around} (r:Room k A) (h:j≤k):Room j A:=⟨r.hd,by have:=r.dp;omega,by have:=r.un;omega,r.gd⟩
theorem Room.deeper {k:Nat} {A:Around} (r:Room (k+1) A) (env:Env):Room k (A.deeper env):=
 ⟨r.hd,by have:=r.dp;show A.depth+1+3*k+5<_;omega,by have:=r.un;show A.units+3+16*k+200<_;omega,r.gd⟩
theorem Room.depth {k:Nat} {A:Around} (r:Room k A):A.depth<recursionLimit:=by have:=r.dp;omega
theorem Room.units {k:Nat} {A:Around} (r:Room k A):A.units+64<cLine:=by have:=r.un;omega
theorem Room.units0 {k:Nat} {A:Around} (r:Room k A):A.units<cLine:=by have:=r.un;omega
noncomputable def tNil:TA:=fun _ H Q=>Q [] H
noncomputable def Zcg (ta:TE) (tr:TA):TA:=fun σ H Q=>ta σ H fun x H1=>tr σ H1 fun xs H2=>Q (x::xs) H2
section
variable {X:Cx} {e:Expr} {es:List Expr} {te:TE} {t:TA} {pos:Pos}
theorem Zbg:PA X [] tNil:=fun _ _ _ _ H Q I h=>Calls.spliced_nil ⟨[],H,I,.nil,h⟩
theorem Za0 (ha:PE X e te) (hr:PA X es t) (hs:starEach (e::es) X.env=(false,eval e X.env)::starEach es X.env:=by rfl):PA X (e::es) (Zcg te t):=by
 intro pos pins s σ H Q I h
 rw [hs]
 show wpAny _ _ (spliced ((false,eval e X.env)::backTo pos (starEach es X.env))) _ _ s
 refine Calls.spliced_cons (thn (ha pins s σ H _ I h) fun u s1 ⟨x,H1,I1,r1,q1⟩=>?_)
 exact thn (hr pos pins s1 σ H1 _ I1 q1) fun us s2 ⟨xs,H2,I2,r2,q2⟩=>⟨x::xs,H2,I2,.cons r1 r2,q2⟩
noncomputable def tTup (t:TA):TE:=fun σ H Q=>t σ H fun xs H1=>xs.length≤sizeLine∧∀p,H1 p=none→Q (.ref p) (upd H1 p (.tup xs))
noncomputable def tLst (t:TA):TE:=fun σ H Q=>t σ H fun xs H1=>xs.length≤sizeLine∧∀p,H1 p=none→Q (.ref p) (upd H1 p (.lst xs))
theorem Zri {x1} (h:PA X es t):PE X (.Tuple es x1 pos) (tTup t):=by
 intro pins s σ H Q I hq
 refine wpAny_Tuple_spliced (thn (h pos pins s σ H _ I hq) fun us s1 ⟨xs,H1,I1,r,z,q⟩=>⟨by rw [←r.length];exact z,?_⟩)
 have hf:H1 s1.heap.objs.size=none:=I1.hok.fresh (Nat.le_refl _)
 refine ⟨.ref s1.heap.objs.size,upd H1 s1.heap.objs.size (.tup xs),I1.laid (t':=s1.toks) (fun b u e=>Heap.get?_push_of_some _ e) (Nat.le_refl _) ?_,rfl,q _ hf⟩
 exact ⟨z,us,r,⟨_,Heap.get?_push_size _ rfl,rfl,_,rfl⟩⟩
theorem Zrm (h:PA X es t):PE X (.List es pos) (tLst t):=by
 intro pins s σ H Q I hq
 refine wpAny_List_spliced (thn (h pos pins s σ H _ I hq) fun us s1 ⟨xs,H1,I1,r,z,q⟩=>⟨by rw [←r.length];exact z,?_⟩)
 have hf:H1 s1.heap.objs.size=none:=I1.hok.fresh (Nat.le_refl _)
 refine ⟨.ref s1.heap.objs.size,upd H1 s1.heap.objs.size (.lst xs),I1.laid (t':=s1.toks) (fun b u e=>Heap.get?_push_of_some _ e) (Nat.le_refl _) ?_,rfl,q _ hf⟩
 exact ⟨z,us,0,r,Heap.get?_push_size _ rfl⟩
end
noncomputable abbrev Sp:=List V→Hp→VK→XK→Prop
noncomputable abbrev CXT:=List Env→Hp→Shared→XK→Value→Shared→Prop
structure Env0 (P:Program) (w:World) (K:PySem.W.Frag) (mg:Str→Option Value) (base:Heap) (A:Around) (outer:List Env) (s:Shared) (H:Hp):Prop where
 frames:A.frames=some outer
 mod:Mod K mg base
 bs:∀b o,base.get? b=some o→s.heap.get? b=some o∧H b=none
 bsz:base.objs.size≤s.heap.objs.size
 funs:s.heap.FunFrames base outer
 frf:∀b∈frs outer,H b=none
 hok:HOk P w H s.heap
 bare:AllBare s.gens
noncomputable def CE (outer:List Env) (P:Program) (w:World) (H:Hp) (s:Shared) (Q:VK) (u:Value) (s':Shared):Prop:=
 ∃v H',s'.os=s.os∧AllBare s'.gens∧Un (frs outer) [] H H' s.heap s'.heap∧HOk P w H' s'.heap∧RelV v u∧Q v H'
noncomputable def CR (CX:CXT) (outer:List Env) (P:Program) (w:World) (H:Hp) (s:Shared) (Q:VK) (E:XK) (r:Result) (s':Shared):Prop:=
 match r with
 | .ok (.ret u)=>CE outer P w H s Q u s'
 | .ok _=>False
 | .error e=>CX outer H s E e s'
structure FnOk (P:Program) (w:World) (K:PySem.W.Frag) (mg:Str→Option Value) (base:Heap) (CX:CXT) (k:Nat) (f:Addr) (fd:FuncData) (ps:List Str) (sp:Sp):Prop where
 len:∀vs H Q E,sp vs H Q E→vs.length=ps.length
 run:∀(A:Around) (outer:List Env) (s:Shared) (H:Hp) (args:Args) (us:List Value) (vs:List V) (Q:VK) (E:XK),Room k A→Env0 P w K mg base A outer s H→BindsTo s fd args (ps.zip us)→Vals vs us→sp vs H Q E→
  codeAny (model P w) A (.call (.ref f) args) (CR CX outer P w H s Q E) s
theorem FnOk.mono {P:Program} {w:World} {K:PySem.W.Frag} {mg:Str→Option Value} {base:Heap} {CX:CXT} {j k:Nat} {f:Addr} {fd:FuncData} {ps:List Str} {sp:Sp} (F:FnOk P w K mg base CX j f fd ps sp) (h:j≤k) :
  FnOk P w K mg base CX k f fd ps sp:=⟨F.len,fun A outer s H args us vs Q E hr=>F.run A outer s H args us vs Q E (hr.mono h)⟩
theorem FnOk.imp {P:Program} {w:World} {K:PySem.W.Frag} {mg:Str→Option Value} {base:Heap} {CX:CXT} {k:Nat} {f:Addr} {fd:FuncData} {ps:List Str} {sp sp':Sp} (F:FnOk P w K mg base CX k f fd ps sp)
  (h:∀vs H Q E,sp' vs H Q E→sp vs H Q E):FnOk P w K mg base CX k f fd ps sp':=
 ⟨fun vs H Q E q=>F.len vs H Q E (h _ _ _ _ q),fun A outer s H args us vs Q E hr he hb hv hs=>F.run A outer s H args us vs Q E hr he hb hv (h _ _ _ _ hs)⟩
section
variable {X:Cx} {pins:List (Addr×Obj)} {σ:St} {H:Hp} {s s':Shared}
theorem Inv.env0 (I:Inv X pins σ H s):Env0 X.prog X.w X.K X.mg X.base X.A X.stack s H:=
 ⟨I.ok.frames,I.ok.mod,I.bs,Nat.le_trans I.ok.bsz I.sz,I.stack,I.stkFree,I.hok,I.bare⟩
theorem Inv.after {Q:VK} {u:Value} (I:Inv X pins σ H s) (h:CE X.stack X.prog X.w H s Q u s'):EP X pins σ Q u s':=by
 obtain ⟨v,H',os,bare,un,hok,r,q⟩:=h
 obtain ⟨hh,g,d,t,os'⟩:=s'
 obtain rfl:os'=s.os:=os
 exact ⟨v,H',I.call (h':=hh) (g':=g) (d':=d) (t':=t) (ch:=[]) un hok bare (fun b z=>absurd z (by simp)),r,q⟩
end
noncomputable def Zpr (sp:Sp) (dvs:List V) (E:XK) (t:TA):TE:=fun σ H Q=>t σ H fun vs H1=>sp (vs++dvs) H1 Q E
noncomputable def ZcE (K:PySem.W.Frag) (fd:FuncData) (ps:List Str) (ds:List Value):Prop:=
 ∀(s:Shared) (us:List Value),K.In s.heap→(us++ds).length=ps.length→BindsTo s fd ⟨us,[]⟩ (ps.zip (us++ds))
theorem ZcE.all {K:PySem.W.Frag} {fd:FuncData} {ps:List Str} (h:∀us:List Value,us.length=ps.length→bindArgs fd ⟨us,[]⟩=pure (ps.zip us)):ZcE K fd ps []:=fun s us _ hl=>by
 rw [List.append_nil] at hl ⊢
 exact .of_eq (h us hl)
noncomputable def ZhU (CX:CXT) (X:Cx) (E:XK):Prop:=∀(pins:List (Addr×Obj)) (σ:St) (H:Hp) (s:Shared) (e:Value) (s':Shared),Inv X pins σ H s→CX X.stack H s E e s'→X.xe e s'
section
variable {X:Cx} {CX:CXT} {k:Nat} {f C:Addr} {fd:FuncData} {ps:List Str} {sp:Sp} {dvs:List V} {ds:List Value} {E:XK} {x m:Str} {p pos apos:Pos} {e o:Expr} {es:List Expr} {ta:TE} {t:TA}
theorem ZmX {pins:List (Addr×Obj)} {σ:St} {H:Hp} {s:Shared} {Q:VK} {us:List Value} {vs:List V} (F:FnOk X.prog X.w X.K X.mg X.base CX k f fd ps sp) (hr:Room k X.A) (hb:ZcE X.K fd ps ds) (hd:Vals dvs ds) (hx:ZhU CX X E)
  (I:Inv X pins σ H s) (r:Vals vs us) (h:sp (vs++dvs) H Q E):wpAny (model X.prog X.w) X.A (call (.ref f) us) (EP X pins σ Q) X.xe s:=by
 have r2:Vals (vs++dvs) (us++ds):=r.append hd
 have hl:(us++ds).length=ps.length:=by rw [←r2.length];exact F.len _ _ _ _ h
 refine wpAny_call (codeAny_mono (F.run X.A X.stack s H ⟨us,[]⟩ (us++ds) (vs++dvs) Q E hr I.env0 (hb s us I.kIn hl) r2 h) fun r s' hq=>?_)
 cases r with
 | error e=>exact hx pins σ H s e s' I hq
 | ok fl=>
  cases fl with
  | ret u=>exact I.after hq
  | next=>exact False.elim hq
  | brk=>exact False.elim hq
  | cont=>exact False.elim hq
theorem Zh3 (F:FnOk X.prog X.w X.K X.mg X.base CX k f fd ps sp) (hr:Room k X.A) (hg:Gl X x) (hm:X.mg x=some (.ref f)) (hk:PySem.W.keepIn X.K (.ref f)=true) (hb:ZcE X.K fd ps ds) (hd:Vals dvs ds) (hx:ZhU CX X E)
  (ha:PA X (e::es) t) (hdb:(x==("__debug__" : Str))=false:=by decide) (he:starEach (e::es) X.env=(false,eval e X.env)::starEach es X.env:=by rfl) (hpl:(backTo pos (starEach es X.env)).any (·.1)=false:=by rfl) :
  PE X (.Call (.Name x p) (e::es) [] pos) (Zpr sp dvs E t):=by
 intro pins s σ H Q I h
 refine wpAny_Call_Name_kw (Zlw I hg hm ?_ hdb)
 refine PySem.W.callWith_K (h₀:=X.base) I.ok.mod.kin hk (thn (ha pos pins s σ H _ I h) fun us s1 ⟨vs,H1,I1,r,q⟩=>⟨I1.kIn,?_⟩) he hpl
 exact ZmX F hr hb hd hx I1 r q
end
noncomputable def PK (X:Cx) (kws:List Keyword) (t:TA):Prop:=
 ∀(pos:Pos) (pins:List (Addr×Obj)) (s:Shared) (σ:St) (H:Hp) (Q:List V→Hp→Prop),Inv X pins σ H s→t σ H Q→wpAny (model X.prog X.w) X.A (evalAll ((backToKw pos (keywordEach kws X.env)).map (·.2))) (AP X pins σ Q) X.xe s
section
variable {X:Cx} {CX:CXT} {k:Nat} {f C:Addr} {fd:FuncData} {ps ks:List Str} {sp:Sp} {E:XK} {x m:Str} {p pos apos kpos:Pos} {e o:Expr} {es:List Expr} {kws:List Keyword} {te ta:TE} {t tk:TA} {nm:Option Str}
theorem Zrd:PK X [] tNil:=fun _ _ _ _ H Q I h=>wpAny_evalAll_nil ⟨[],H,I,.nil,h⟩
theorem Zp5 (ha:PE X e te) (hr:PK X kws t):PK X (⟨nm,e,kpos⟩::kws) (Zcg te t):=by
 intro pos pins s σ H Q I h
 show wpAny _ _ (evalAll ((do let v←eval e X.env;standAt pos;pure v)::(backToKw pos (keywordEach kws X.env)).map (·.2))) _ _ s
 refine wpAny_evalAll_cons (wpAny_bind (thn (ha pins s σ H _ I h) fun u s1 ⟨x,H1,I1,r1,q1⟩=>wpAny_bind (wpAny_standAt (wpAny_pure ?_))))
 exact thn (hr pos pins s1 σ H1 _ I1 q1) fun us s2 ⟨xs,H2,I2,r2,q2⟩=>⟨x::xs,H2,I2,.cons r1 r2,q2⟩
variable {g:List Value→List Value→List Value} {gV:List V→List V→List V}
end
structure FnScope (N P:List Str) (sc:Scope):Prop where
 kind:sc.kind=.function
 co:sc.isCoroutine=false
 gen:sc.isGenerator=false
 nd:N.Nodup
 pre:N.take P.length=P
 par:∀x∈P,sc.names.lookup x=some .local∨sc.names.lookup x=some .cell
 nofree:∀y∈sc.names,y.2≠.free
theorem ZiM {kindOf:Str→Option NameKind} {x:Str}:∀{binds:List (Str×Value)} {m:Str→Option Value},(∀v,(x,v)∉binds)→bindL kindOf binds m x=m x
 | [],_,_=>rfl
 | (n,v)::r,m,h=>by
  unfold bindL
  rw [ZiM fun w hw=>h w (List.mem_cons_of_mem _ hw)]
  split
  ·have:x≠n:=by rintro rfl;exact h v List.mem_cons_self
   simp [this]
  ·rfl
theorem ZiO {kindOf:Str→Option NameKind} {x:Str}:∀{binds:List (Str×Value)} {m:Str→Option Value},(∀v,(x,v)∉binds)→bindC kindOf binds m x=m x
 | [],_,_=>rfl
 | (n,v)::r,m,h=>by
  unfold bindC
  rw [ZiO fun w hw=>h w (List.mem_cons_of_mem _ hw)]
  split
  ·rfl
  ·have:x≠n:=by rintro rfl;exact h v List.mem_cons_self
   simp [this]
theorem ZiN {kindOf:Str→Option NameKind} {x:Str} {v:Value}:∀{P:List Str} {vs:List Value} {i:Nat} {m:Str→Option Value},P.Nodup→P[i]?=some x→vs[i]?=some v→kindOf x=some .local→
  bindL kindOf (P.zip vs) m x=some v
 | [],_,_,_,_,h,_,_=>by simp at h
 | _::_,[],_,_,_,_,h,_=>by simp at h
 | p::P,w::vs,0,m,nd,h1,h2,hk=>by
  simp at h1 h2;subst h1;subst h2
  show bindL kindOf ((p,w)::P.zip vs) m p=_
  unfold bindL
  rw [ZiM fun v hv=>(List.nodup_cons.mp nd).1 (List.of_mem_zip hv).1,if_pos hk]
  simp
 | p::P,w::vs,i+1,m,nd,h1,h2,hk=>by
  show bindL kindOf ((p,w)::P.zip vs) m x=_
  unfold bindL
  exact ZiN (i:=i) (List.nodup_cons.mp nd).2 (by simpa using h1) (by simpa using h2) hk
theorem ZiP {kindOf:Str→Option NameKind} {x:Str} {v:Value}:∀{P:List Str} {vs:List Value} {i:Nat} {m:Str→Option Value},P.Nodup→P[i]?=some x→vs[i]?=some v→kindOf x≠some .local→
  bindC kindOf (P.zip vs) m x=some v
 | [],_,_,_,_,h,_,_=>by simp at h
 | _::_,[],_,_,_,_,h,_=>by simp at h
 | p::P,w::vs,0,m,nd,h1,h2,hk=>by
  simp at h1 h2;subst h1;subst h2
  show bindC kindOf ((p,w)::P.zip vs) m p=_
  unfold bindC
  rw [ZiO fun v hv=>(List.nodup_cons.mp nd).1 (List.of_mem_zip hv).1,if_neg hk]
  simp
 | p::P,w::vs,i+1,m,nd,h1,h2,hk=>by
  show bindC kindOf ((p,w)::P.zip vs) m x=_
  unfold bindC
  exact ZiP (i:=i) (List.nodup_cons.mp nd).2 (by simpa using h1) (by simpa using h2) hk
noncomputable def start (N:List Str) (vs:List V):St:=vs.map some++List.replicate (N.length-vs.length) none
noncomputable def cxOf (CX:CXT) (P:Program) (w:World) (K:PySem.W.Frag) (mg:Str→Option Value) (base:Heap) (N:List Str) (qual:Str) (scope:Scope) (f:Addr) (cd:Value) (A:Around) (outer:List Env) (s:Shared) (H:Hp) (E:XK):Cx where
 prog:=P
 w:=w
 K:=K
 mg:=mg
 base:=base
 A:=A.deeper (envOfC qual scope s.heap.objs.size f cd)
 N:=N
 s₀:=s
 H₀:=H
 env:=envOfC qual scope s.heap.objs.size f cd
 outer:=outer
 stack:=envOfC qual scope s.heap.objs.size f cd::outer
 ex:=[]
 calm:=true
 fn:=fun _=>true
 pn:=[]
 xe:=fun e s'=>wpAny (model P w) (A.deeper (envOfC qual scope s.heap.objs.size f cd)) (leaving (envOfC qual scope s.heap.objs.size f cd) e) (fun _ s''=>CX outer H s E e s'') (fun e' s''=>CX outer H s E e' s'') s'
theorem Zko {sc:Scope} {n:Nat} {x:Str} (h:sc.names.lookup x=some .cell):∃c,(cellsFrom n sc.names []).lookup x=some c:=by
 have q:=PySem.W.cellsFrom_some sc.names n [] (.inl h)
 exact Option.isSome_iff_exists.mp q
theorem ZnI {CX:CXT} {P:Program} {w:World} {K:PySem.W.Frag} {mg:Str→Option Value} {base:Heap} {N ps:List Str} {qual:Str} {scope:Scope} {f:Addr} {cd:Value} {A:Around} {outer:List Env} {s s1:Shared} {H:Hp} {E:XK} {us:List Value} {vs:List V}
  (S:FnScope N ps scope) (hd:A.handled=none) (e0:Env0 P w K mg base A outer s H) (hl:vs.length=ps.length) (r:Vals vs us)
  (x:InCallC s s.heap.objs.size (bindL (envOfC qual scope s.heap.objs.size f cd).kindOf (ps.zip us) fun _=>none) (cellsFrom (s.heap.objs.size+1) scope.names []) (bindC (envOfC qual scope s.heap.objs.size f cd).kindOf (ps.zip us) fun _=>none) s1) :
  Inv (cxOf CX P w K mg base N qual scope f cd A outer s H E) [] (start N vs) H s1:=by
 have hpl:ps.length≤N.length:=by have:=congrArg List.length S.pre;rw [List.length_take] at this;omega
 obtain ⟨h1,tk,rfl,hk⟩:=x.done
 have noA:∀b:Addr,b∉(cxOf CX P w K mg base N qual scope f cd A outer s H E).ex:=fun b z=>absurd (show b∈([]:List Addr) from z) (by simp)
 refine ⟨⟨e0.mod,S.kind,rfl,rfl,Nat.le_refl _,fun y z c h1 h2=>?_,fun y hy=>?_,fun y c _ h=>?_,fun _=>hd,Around.frames_deeper e0.frames,.inr ⟨rfl,rfl⟩,fun b z=>absurd z (noA b),e0.bs,e0.bsz,fun b _ _=>noA b,fun b z=>absurd z (noA b),e0.funs,e0.frf⟩,
  rfl,e0.bare,Un.kept hk,⟨_,x.toInCall.ns,fun i y v h1 h2 h3=>?_⟩,fun y c h=>⟨_,x.cell y c h⟩,e0.hok.fresh (Nat.le_refl _),fun y c h=>?_,fun p hp=>absurd (show p∈([]:List (Addr×Obj)) from hp) (by simp),e0.hok.kept hk,?_⟩
 ·exact name_of_addr x.apart (PySem.mem_of_lookup h1) (PySem.mem_of_lookup h2)
 ·have hy:scope.names.lookup y=some .cell∨scope.names.lookup y=some .free:=hy
  rcases hy with hy | hy
  ·exact Zko hy
  ·exact absurd rfl (S.nofree _ (PySem.mem_of_lookup hy))
 ·exact Nat.le_of_lt (x.above y c (PySem.mem_of_lookup h))
 ·have hi:i<vs.length:=by
   unfold start at h2
   by_cases hi:i<vs.length
   ·exact hi
   ·rw [List.getElem?_append_right (by simpa using hi)] at h2
    rw [List.getElem?_replicate] at h2
    split at h2 <;> cases h2
  have ha:vs[i]?=some v:=by
   unfold start at h2
   rw [List.getElem?_append_left (by simpa using hi),List.getElem?_map] at h2
   cases e:vs[i]? with
   | none=>rw [e] at h2;cases h2
   | some a=>rw [e] at h2;cases h2;rfl
  obtain ⟨u,hu,rv⟩:=r.get ha
  have hp:ps[i]?=some y:=by
   rw [←S.pre,List.getElem?_take_of_lt (by omega)];exact h1
  have ndP:ps.Nodup:=by rw [←S.pre];exact S.nd.sublist (List.take_sublist _ _)
  refine ⟨u,rv,?_⟩
  rcases S.par y (List.mem_of_getElem? hp) with k | k
  ·exact .inl ⟨k,ZiN ndP hp hu k⟩
  ·obtain ⟨c,e⟩:=Zko (n:=s.heap.objs.size+1) k
   refine .inr ⟨.inl k,c,e,?_⟩
   have q:=x.cell y c e
   rw [ZiP ndP hp hu (by show scope.names.lookup y≠_;rw [k];decide)] at q
   exact q
 ·exact e0.hok.fresh (Nat.le_of_lt (x.above y c (PySem.mem_of_lookup h)))
 ·unfold start
  show _=N.length
  rw [List.length_append,List.length_map,List.length_replicate]
  omega
theorem ZpG {CX:CXT} {P:Program} {w:World} {K:PySem.W.Frag} {mg:Str→Option Value} {base:Heap} {k:Nat} {f:Addr} {name qual:Str} {params:Arguments} {body:List Stmt} {scope:Scope} {dV kV doc pm cdv ct oc:Value} {an od:Option Addr}
  {osl:Array (Option Value)} {N ps:List Str} {sp:Sp} (lk:K.lookup f=some ⟨oc,od,.func (PySem.W.fnOf name qual params body scope dV kV doc pm an cdv ct),osl⟩) (hcd:PySem.W.codeIn K cdv qual=true) (S:FnScope N ps scope)
  (len:∀vs H Q E,sp vs H Q E→vs.length=ps.length)
  (hbody:∀(A:Around) (outer:List Env) (s:Shared) (H:Hp) (vs:List V) (Q:VK) (E:XK),Room k (A.deeper (envOfC qual scope s.heap.objs.size f cdv))→sp vs H Q E→
   ∃t,PSs (cxOf CX P w K mg base N qual scope f cdv A outer s H E) body t∧t { nx:=fun _ H'=>Q .non H',rt:=Q } (start N vs) H) :
  FnOk P w K mg base CX (k+1) f (PySem.W.fnOf name qual params body scope dV kV doc pm an cdv ct) ps sp:=by
 refine ⟨len,fun A outer s H args us vs Q E hr e0 hb r hsp=>?_⟩
 have hl:=len _ _ _ _ hsp
 have KX:K.In s.heap:=e0.mod.kin.keeps fun b o e=>(e0.bs b o e).1
 have lim:s.heap.NoLimit:=e0.mod.nolimit.keeps fun b o e=>(e0.bs b o e).1
 have hkind:∀y∈ps.zip us,scope.names.lookup y.1=some .local∨(scope.names.lookup y.1=some .cell∧((cellsFrom (s.heap.objs.size+1) scope.names []).lookup y.1).isSome=true):=fun ⟨n,v⟩ hy=>by
  rcases S.par n (List.of_mem_zip hy).1 with q | q
  ·exact .inl q
  ·exact .inr ⟨q,PySem.W.cellsFrom_some _ _ _ (.inl q)⟩
 refine codeAny_call_function hr.depth (KX _ _ lk) rfl S.co S.gen rfl (PySem.W.codeRec_of KX hcd) (hb _ _ _ _ ?_)
 refine wpAny_newFunctionEnv_cells S.kind hkind fun env he s1 x=>?_
 subst he
 refine ⟨lim.keeps x.toInCall.keep,codeAny_func ?_⟩
 obtain ⟨t,ht,hq⟩:=hbody A outer s H vs Q E (hr.deeper _) hsp
 have I:Inv (cxOf CX P w K mg base N qual scope f cdv A outer s H E) [] (start N vs) H s1:=ZnI S hr.hd e0 hl r x
 refine wpAny_mono (ht [] s1 (start N vs) H _ I hq) (fun fl s' hs=>?_) fun e s' hs=>hs
 have fin:∀{σ':St} {H':Hp} {v:V} {u:Value},Inv (cxOf CX P w K mg base N qual scope f cdv A outer s H E) [] σ' H' s'→RelV v u→Q v H'→CE outer P w H s Q u s':=
  fun {σ' H' v u} J rv q=>⟨v,H',J.os,J.bare,J.base,J.hok,rv,q⟩
 cases fl with
 | ret u=>
  obtain ⟨v,σ',H',J,rv,q⟩:=hs
  exact fin J rv q
 | next=>
  obtain ⟨σ',H',J,q⟩:=hs
  exact fin (v:=V.non) (u:=Value.none) J rfl q
 | brk=>
  obtain ⟨_,_,_,q⟩:=hs
  exact False.elim q
 | cont=>
  obtain ⟨_,_,_,q⟩:=hs
  exact False.elim q
end L2
namespace L2
open PySem PySem.Spec PyProof.Rows
section
variable {X:Cx} {x:Str} {p pos:Pos} {e:Expr} {es:List Expr} {t:TA} {id T:String} {r:List V→Hp→VK→Prop}
noncomputable def tCB (r:List V→Hp→VK→Prop) (t:TA):TE:=fun σ H Q=>t σ H fun vs H1=>r vs H1 Q
theorem ZdC (hc:ZbH X (.builtin id) r) (hg:Gl X x) (hm:X.mg x=none) (hv:bootBuiltins x=some (.builtin id)) (ha:PA X (e::es) t) (hn:x≠"__name__":=by decide) (hdb:(x==("__debug__" : Str))=false:=by decide)
  (he:starEach (e::es) X.env=(false,eval e X.env)::starEach es X.env:=by rfl) (hpl:(backTo pos (starEach es X.env)).any (·.1)=false:=by rfl):PE X (.Call (.Name x p) (e::es) [] pos) (tCB r t):=by
 intro pins s σ H Q I h
 refine wpAny_Call_Name_kw (Zep I hg hm hv ?_ hn hdb)
 exact PyProof.Rows.callWith_builtin1 (thn (ha pos pins s σ H _ I h) fun us s1 ⟨vs,H1,I1,r1,q1⟩=>hc pins s1 σ H1 vs us Q I1 r1 q1) he hpl
theorem ZeB (hc:ZbH X (.type T) r) (hg:Gl X x) (hm:X.mg x=none) (hv:bootBuiltins x=some (.type T)) (ha:PA X (e::es) t) (hn:x≠"__name__":=by decide) (hdb:(x==("__debug__" : Str))=false:=by decide)
  (he:starEach (e::es) X.env=(false,eval e X.env)::starEach es X.env:=by rfl) (hpl:(backTo pos (starEach es X.env)).any (·.1)=false:=by rfl):PE X (.Call (.Name x p) (e::es) [] pos) (tCB r t):=by
 intro pins s σ H Q I h
 refine wpAny_Call_Name_kw (Zep I hg hm hv ?_ hn hdb)
 exact PyProof.Rows.callWith_type1 (thn (ha pos pins s σ H _ I h) fun us s1 ⟨vs,H1,I1,r1,q1⟩=>hc pins s1 σ H1 vs us Q I1 r1 q1) he hpl
end
end L2
namespace HT
open PySem PyProof.Rows
noncomputable def lexLt:List Int→List Int→Bool
 | [],[]=>false
 | [],_::_=>true
 | _::_,[]=>false
 | x::xs,y::ys=>if x=y then lexLt xs ys else decide (x<y)
theorem Zmd (x y:Int) (xs ys:List Int):lexLt (x::xs) (y::ys)=if x=y then lexLt xs ys else decide (x<y):=rfl
theorem ZiX:lexLt [] []=false:=rfl
theorem Zia (y:Int) (ys:List Int):lexLt [] (y::ys)=true:=rfl
theorem Zib (x:Int) (xs:List Int):lexLt (x::xs) []=false:=rfl
theorem Zpd (A:Around) (s:Shared) (a:Int) (t:Tok) (c:Int) (u:Tok):∃e,SeqAt.EqAt A s (.int a t) (.int c u) e∧(e=true↔a=c):=
 ⟨(a==c),SeqAt.EqAt.int_int a t c u,by simp⟩
theorem Zot (A:Around) (s:Shared) (a:Int) (t:Tok) (c:Int) (u:Tok) (prog:Program) (w:World) (E:Value→Shared→Prop) (Q:Value→Shared→Prop) (h:Q (.bool (decide (a<c))) s) :
  wpAny (model prog w) A (richCompare .Lt (.int a t) (.int c u)) Q E s:=
 (PyProof.Rows.lt_int h:wpAny (model prog w) A (compareOp .Lt (.int a t) (.int c u)) Q E s)
section
open PySem.SeqAt
open PySem.AutoSeq1 (wpAny_loadPart')
open PySem.MeetsSeq PySem.MeetsSeq2 PySem.MeetsSeq3
theorem ZiR (l b:Addr) (items items2:Array Value) (n n2:Nat) (dd dd2:Option Addr) (sl sl2:Array (Option Value)) (ns ms:List Int) (hi:IntsAre items.toList ns) (hj:IntsAre items2.toList ms) :
  Meets (Builtin.«tuple.__lt__» ⟨[.ref l,.ref b],[]⟩)
   (fun _ R s=>s.heap.get? l=some { cls:=.type "tuple",dict:=dd,data:=.seq items n,slots:=sl }∧s.heap.get? b=some { cls:=.type "tuple",dict:=dd2,data:=.seq items2 n2,slots:=sl2 }∧
    R (.ok (.ret (.bool (lexLt ns ms)))) s):=
 .of_wp fun prog w A R s h=>by
  obtain ⟨hp,g,d,tk,os⟩:=s;obtain ⟨hl,hb,h⟩:=h
  have f2:=AutoSeq1.sub_tuple_tuple
  have z1:items.size=ns.length:=by rw [←hi.length];simp
  have z2:items2.size=ms.length:=by rw [←hj.length];simp
  wp_walk using wpAny_loadPart' hl,wpAny_loadPart' hb,wpAny_forIn_list _ (fun rest b s'=>b.1=none∧s'=⟨hp,g,d,tk,os⟩∧∃(vs ws:List Value) (ns' ms':List Int),rest=vs.zip ws∧
   IntsAre vs ns'∧IntsAre ws ms'∧ns'.length+items2.size=ms'.length+items.size∧R (.ok (.ret (.bool (lexLt ns' ms')))) ⟨hp,g,d,tk,os⟩) _
  case turn=>
   rintro ⟨y,x⟩ rest b s' ⟨hb',rfl,vs,ws,ns',ms',hz,hvi,hwi,hlen,hR⟩
   cases hvi with
   | nil=>rw [List.zip_nil_left] at hz;cases hz
   | cons a t hvi'=>
    cases hwi with
    | nil=>rw [List.zip_nil_right] at hz;cases hz
    | cons c u hwi'=>
     rw [List.zip_cons_cons] at hz
     injection hz with hyx hrest
     injection hyx with hy hx
     subst hy hx
     rw [Zmd] at hR
     simp only [List.length_cons] at hlen
     obtain ⟨e,he,hiff⟩:=Zpd A.in1 ⟨hp,g,d,tk,os⟩ a t c u
     refine wpAny_bind (he prog w _ _ ?_)
     cases e with
     | true=>
      rw [if_pos (hiff.mp rfl)] at hR
      wp_walk
      exact ⟨rfl,rfl,_,_,_,_,hrest,hvi',hwi',by omega,hR⟩
     | false=>
      rw [if_neg (fun q=>absurd (hiff.mpr q) Bool.false_ne_true)] at hR
      have hri:=Zot A.in1 ⟨hp,g,d,tk,os⟩ a t c u prog w
      wp_walk using hri
      exact ⟨_,rfl,by simpa using hR⟩
  case fin=>
   rintro ⟨b1,b2⟩ s' ⟨hb',rfl,vs,ws,ns',ms',hz,hvi,hwi,hlen,hR⟩
   simp only at hb'
   subst hb'
   have hv:lexLt ns' ms'=decide (items.size<items2.size):=by
    cases hvi with
    | nil=>
     cases hwi with
     | nil=>
      simp only [List.length_nil] at hlen
      rw [ZiX]
      exact (decide_eq_false (by omega)).symm
     | cons c u hw=>
      simp only [List.length_nil,List.length_cons] at hlen
      rw [Zia]
      exact (decide_eq_true (by omega)).symm
    | cons a t hv=>
     cases hwi with
     | nil=>
      simp only [List.length_nil,List.length_cons] at hlen
      rw [Zib]
      exact (decide_eq_false (by omega)).symm
     | cons c u hw=>
      rw [List.zip_cons_cons] at hz
      cases hz
   rw [hv] at hR
   wp_walk
   exact ⟨_,rfl,by simpa [Builtin.Tuple.tupleCompareSizes] using hR⟩
  case h=>
   exact ⟨rfl,rfl,items.toList,items2.toList,ns,ms,rfl,hi,hj,by omega,h⟩
end
section
variable {prog:Program} {w:World} {A:Around} {E:Value→Shared→Prop} {s:Shared}
theorem lt_tupInts {l b:Addr} {items items2:Array Value} {ns ms:List Int} {Q:Value→Shared→Prop} (hl:IsTup s.heap l items) (hb:IsTup s.heap b items2) (hi:IntsAre items.toList ns) (hj:IntsAre items2.toList ms)
  (hu:A.units<cLine) (h:Q (.bool (lexLt ns ms)) s):wpAny (model prog w) A (compareOp .Lt (.ref l) (.ref b)) Q E s:=by
 obtain ⟨⟨cls,dd,data,sl⟩,ho,hc,n,hd⟩:=id hl
 obtain ⟨⟨cls2,dd2,data2,sl2⟩,ho2,hc2,n2,hd2⟩:=id hb
 simp only at hc hd hc2 hd2
 subst hc hd hc2 hd2
 exact richCompare_meets_room (op:=.Lt) ⟨_,ho,rfl⟩ ⟨_,ho2,rfl⟩ PySem.F.slot_tuple_lt PySem.F.entry_tuple_lt (PySem.F.args_tuple_lt_2 _ _) (ZiR l b items items2 n n2 dd dd2 sl sl2 ns ms hi hj)
  ⟨ho,ho2,show Value.bool (lexLt ns ms)≠Value.notImplemented∧Q (.bool (lexLt ns ms)) s from ⟨(fun x=>nomatch x),h⟩⟩ hu
theorem cat_tup {t b:Addr} {vs ws:List Value} {Q:Value→Shared→Prop} (ht:IsTup s.heap t vs.toArray) (hb:IsTup s.heap b ws.toArray) (hv:vs≠[])
  (h1:ws=[]→Q (.ref t) s) (h2:ws≠[]→Q (.ref s.heap.objs.size) { s with heap:=s.heap.push { cls:=.type "tuple",data:=.seq (vs++ws).toArray } })
  (hsz:vs.length+ws.length≤sizeLine):wpAny (model prog w) A (binaryOp .Add (.ref t) (.ref b)) Q E s:=by
 obtain ⟨⟨cls,dd,data,sl⟩,ho,hc,n,hd⟩:=id ht
 obtain ⟨⟨cls2,dd2,data2,sl2⟩,ho2,hc2,n2,hd2⟩:=id hb
 simp only at hc hd hc2 hd2
 subst hc hd hc2 hd2
 have e:vs.toArray++ws.toArray=(vs++ws).toArray:=by simp
 by_cases hw:ws=[]
 ·exact concat_meets ⟨_,ho,rfl⟩ ⟨_,ho2,rfl⟩ noFill_tuple_add seq_tuple_add PySem.F.slot_tuple_add PySem.F.entry_tuple_add (PySem.F.args_tuple_add_2 _ _)
   (tuple_addW1 t b vs.toArray ws.toArray n n2 dd dd2 sl sl2 (by simpa using hv) (by simp [hw])) ⟨ho,ho2,h1 hw⟩
 ·refine concat_meets ⟨_,ho,rfl⟩ ⟨_,ho2,rfl⟩ noFill_tuple_add seq_tuple_add PySem.F.slot_tuple_add PySem.F.entry_tuple_add (PySem.F.args_tuple_add_2 _ _)
   (tuple_addW2 t b vs.toArray ws.toArray n n2 dd dd2 sl sl2 (by simpa using hv) (by simpa using hw) (by rw [List.size_toArray,List.size_toArray];exact hsz)) ⟨ho,ho2,?_⟩
  rw [e]
  exact h2 hw
end
end HT
namespace L2
open PySem PySem.Spec PyProof.Rows
theorem Zbr {ns:List Int}:∀{us:List Value},Vals (ns.map V.int) us→IntsAre us ns:=by
 induction ns with
 | nil=>intro us r;rw [List.map_nil] at r;cases r;exact .nil
 | cons n ns ih=>
  intro us r
  rw [List.map_cons] at r
  cases r with
  | cons r1 r2=>
   obtain ⟨t,e⟩:=r1
   subst e
   exact .cons n t (ih r2)
section
variable {X:Cx} {e:Expr} {te:TE} {lo hi:Option Expr} {tl th:TO} {pos p2:Pos}
noncomputable def rLtT (K:PySem.W.Frag):R2:=fun x y H Q=>∃a b ns ms,x=.ref a∧y=.ref b∧SqT K H a (ns.map V.int)∧SqT K H b (ms.map V.int)∧Q (.bl (HT.lexLt ns ms)) H
theorem Zrw (hu:X.A.units<cLine):OpR X (compareOp .Lt) (rLtT X.K):=by
 intro pins s σ H x y v u Q I rx ry h
 obtain ⟨a,b,ns,ms,rfl,rfl,ha,hb,q⟩:=h
 cases rx
 cases ry
 obtain ⟨its,r1,p1,_⟩:=I.tuple ha
 obtain ⟨its2,r2,p2,_⟩:=I.tuple hb
 have i1:IntsAre its.toArray.toList ns:=Zbr r1
 have i2:IntsAre its2.toArray.toList ms:=Zbr r2
 exact HT.lt_tupInts p1 p2 i1 i2 hu ⟨.bl (HT.lexLt ns ms),H,I,rfl,q⟩
noncomputable def Zsf (K:PySem.W.Frag):R2:=fun x y H Q=>∃a b xs ys,x=.ref a∧y=.ref b∧SqT K H a xs∧SqT K H b ys∧xs≠[]∧xs.length+ys.length≤sizeLine∧
 (ys=[]→Q (.ref a) H)∧(ys≠[]→∀p,H p=none→Q (.ref p) (upd H p (.tup (xs++ys))))
theorem Vals.nil_iff {xs:List V} {us:List Value} (r:Vals xs us):us=[]↔xs=[]:=by
 cases r with
 | nil=>simp
 | cons _ _=>simp
theorem Zqp:OpR X (binaryOp .Add) (Zsf X.K):=by
 intro pins s σ H x y v u Q I rx ry h
 obtain ⟨a,b,xs,ys,rfl,rfl,ha,hb,hx,hz,q1,q2⟩:=h
 cases rx
 cases ry
 obtain ⟨its,r1,p1,_⟩:=I.tuple ha
 obtain ⟨its2,r2,p2,_⟩:=I.tuple hb
 refine HT.cat_tup p1 p2 (fun z=>hx (r1.nil_iff.mp z)) (fun z=>⟨.ref a,H,I,rfl,q1 (r2.nil_iff.mp z)⟩) (fun z=>?_) (by rw [←r1.length,←r2.length];exact hz)
 refine ⟨.ref s.heap.objs.size,_,I.laid (t':=s.toks) (o:=.tup (xs++ys)) (fun b ob q=>Heap.get?_push_of_some _ q) (Nat.le_refl _) ?_,rfl,q2 (fun w=>z (r2.nil_iff.mpr w)) _ (I.hok.fresh (Nat.le_refl _))⟩
 exact ⟨by rw [List.length_append];exact hz,_,r1.append r2,IsTup.new _ _⟩
end
end L2
namespace L2
open PySem PySem.Spec PyProof.Rows
noncomputable def ixN (n:Nat) (i:Int):Option Nat:=if 0≤i then (if i<n then some i.toNat else none) else if -(n:Int)≤i then some (i+n).toNat else none
noncomputable def atI {α:Type} (xs:List α) (i:Int):Option α:=(ixN xs.length i).bind fun j=>xs[j]?
theorem Zly {n:Nat} {i:Int} {j:Nat} (h:ixN n i=some j):seqIndex? i n=some j∧j<n∧-(n:Int)≤i∧i<n:=by
 unfold ixN at h
 by_cases h0:0≤i
 ·rw [if_pos h0] at h
  by_cases h1:i<n
  ·rw [if_pos h1] at h
   have e:i.toNat=j:=Option.some.inj h
   exact ⟨by rw [seqIndex_of h0 h1,e],by omega,by omega,h1⟩
  ·rw [if_neg h1] at h;cases h
 ·rw [if_neg h0] at h
  by_cases h1:-(n:Int)≤i
  ·rw [if_pos h1] at h
   have e:(i+n).toNat=j:=Option.some.inj h
   exact ⟨by rw [seqIndex_neg (by omega) h1,e],by omega,h1,by omega⟩
  ·rw [if_neg h1] at h;cases h
theorem ZlF {α:Type} {xs:List α} {i:Int} {v:α} (h:atI xs i=some v):∃j,seqIndex? i xs.length=some j∧xs[j]?=some v∧j<xs.length∧-(xs.length:Int)≤i∧i<xs.length:=by
 unfold atI at h
 cases e:ixN xs.length i with
 | none=>rw [e] at h;cases h
 | some j=>
  rw [e] at h
  obtain ⟨h1,h2,h3,h4⟩:=Zly e
  exact ⟨j,h1,h,h2,h3,h4⟩
theorem Zb6 {α:Type} {xs:List α} {j:Nat} {v:α} (h:xs[j]?=some v):atI xs (j:Int)=some v:=by
 have hj:j<xs.length:=(List.getElem?_eq_some_iff.mp h).1
 have e:ixN xs.length (j:Int)=some j:=by
  unfold ixN
  rw [if_pos (by omega),if_pos (by omega)];simp
 unfold atI;rw [e];exact h
noncomputable def ZlI (b:Expr):Prop:=∀o i,subscripted b false o i=operate [o,i] (getItem o i)
noncomputable def IxR (X:Cx) (r:R2):Prop:=
 ∀(value slice:Expr) (pins:List (Addr×Obj)) (s:Shared) (σ:St) (H:Hp) (x y:V) (v u:Value) (Q:VK),Inv X pins σ H s→RelV x v→RelV y u→r x y H Q→
  subscripted slice false v u=operate [v,u] (getItem v u)→wpAny (model X.prog X.w) X.A (subscriptTail value slice v u) (EP X pins σ Q) X.xe s
noncomputable def MtR (X:Cx) (id:String) (r:V→List V→Hp→VK→Prop):Prop:=
 ∀(pins:List (Addr×Obj)) (s:Shared) (σ:St) (H:Hp) (x:V) (xs:List V) (v:Value) (us:List Value) (Q:VK),Inv X pins σ H s→RelV x v→Vals xs us→r x xs H Q→
  wpAny (model X.prog X.w) X.A (call (.builtin id) (v::us)) (EP X pins σ Q) X.xe s
section
variable {X:Cx} {a b:Expr} {ta tb:TE} {pos:Pos}
theorem IxR.or {r r':R2} (h:IxR X r) (h':IxR X r'):IxR X (fun x y H Q=>r x y H Q∨r' x y H Q):=by
 intro value slice pins s σ H x y v u Q I rx ry q hs
 rcases q with q | q
 ·exact h value slice pins s σ H x y v u Q I rx ry q hs
 ·exact h' value slice pins s σ H x y v u Q I rx ry q hs
theorem Zi8 {r:R2} (hr:IxR X r) (ha:PE X a ta) (hb:PE X b tb) (hs:ZlI b):PE X (.Subscript a b pos) (tOp r ta tb):=by
 intro pins s σ H Q I h
 exact Subscript_ (binT ha hb I h fun v u s2 x y H2 I2 rx ry q=>hr a b pins s2 σ H2 x y v u Q I2 rx ry q (hs _ _))
noncomputable def rIxL (K:PySem.W.Frag):R2:=fun x y H Q=>∃p xs i v,x=.ref p∧y=.int i∧SqL K H p xs∧atI xs i=some v∧Q v H
noncomputable def rIxT (K:PySem.W.Frag):R2:=fun x y H Q=>∃p xs i v,x=.ref p∧y=.int i∧SqT K H p xs∧atI xs i=some v∧Q v H
theorem Zgr:IxR X (rIxL X.K):=by
 intro value slice pins s σ H x y v u Q I rx ry h hs
 obtain ⟨p,xs,i,z,rfl,rfl,hq,he,q⟩:=h
 cases rx
 obtain ⟨t,rfl⟩:=ry
 obtain ⟨its,r,pl,hz⟩:=I.list hq
 obtain ⟨j,h1,h2,h3,h4,h5⟩:=ZlF he
 obtain ⟨w,ew,rw'⟩:=r.get h2
 have hl:=r.length
 have hn:=Zf1
 have fin:EP X pins σ Q w s:=⟨z,H,I,rw',q⟩
 by_cases h0:0≤i
 ·have hj:i.toNat=j:=by
   rw [seqIndex_of h0 h5] at h1
   exact Option.some.inj h1
  exact item_listR pl.isList h0 (by omega) (by rw [hj];simpa using ew) fin hs
 ·have hj:(i+(its.toArray.size:Int)).toNat=j:=by
   rw [seqIndex_neg (by omega) h4] at h1
   rw [List.size_toArray,←hl]
   exact Option.some.inj h1
  exact subscriptTail_builtinR (x:=w) pl.isList.typeIs slot_list_getitem.lookup
   (wpAny_getItem_list_neg (Q:=fun r s'=>r=w∧EP X pins σ Q r s') pl.isList (by omega) (by rw [List.size_toArray] <;> omega) (by omega) (by rw [hj];simpa using ew) ⟨rfl,fin⟩) hs
theorem ZrO:IxR X (rIxT X.K):=by
 intro value slice pins s σ H x y v u Q I rx ry h hs
 obtain ⟨p,xs,i,z,rfl,rfl,hq,he,q⟩:=h
 cases rx
 obtain ⟨t,rfl⟩:=ry
 obtain ⟨its,r,pl,hz⟩:=I.tuple hq
 obtain ⟨j,h1,h2,h3,h4,h5⟩:=ZlF he
 obtain ⟨w,ew,rw'⟩:=r.get h2
 have hl:=r.length
 have hn:=Zf1
 have fin:EP X pins σ Q w s:=⟨z,H,I,rw',q⟩
 exact subscriptTail_builtinR (x:=w) pl.typeIs slot_tuple_getitem.lookup
  (getItem_tuple (j:=j) (Q:=fun r s'=>r=w∧EP X pins σ Q r s') pl (by omega) (by omega) (by rw [List.size_toArray,←hl];exact h1) (by simpa using ew) ⟨rfl,fin⟩) hs
theorem Zmc (its:List Value) (n j:Nat) (u:Value):Obj.mapSeq (·.setIfInBounds j u) { cls:=.type "list",data:=.seq its.toArray n } = { cls:=.type "list",data:=.seq (its.set j u).toArray n }:=by
 simp [Obj.mapSeq]
theorem Inv.lst {pins:List (Addr×Obj)} {σ:St} {H:Hp} {s:Shared} {p:Addr} {xs:List V} (I:Inv X pins σ H s) (h:H p=some (.lst xs)) :
  ∃(its:List Value) (n:Nat),Vals xs its∧s.heap.get? p=some { cls:=.type "list",data:=.seq its.toArray n }∧xs.length≤sizeLine:=by
 obtain ⟨z,its,n,r,e⟩:=I.hok p _ h
 exact ⟨its,n,r,e,z⟩
theorem Inv.lstUpd {pins:List (Addr×Obj)} {σ:St} {H:Hp} {s:Shared} {p:Addr} {xs ys:List V} {its its':List Value} {n n':Nat} {f:Obj→Obj} (I:Inv X pins σ H s) (h:H p=some (.lst xs))
  (ho:s.heap.get? p=some { cls:=.type "list",data:=.seq its.toArray n }) (hf:f { cls:=.type "list",data:=.seq its.toArray n } = { cls:=.type "list",data:=.seq its'.toArray n' }) (r:Vals ys its') (hz:ys.length≤sizeLine) (t:Nat) :
  Inv X pins σ (upd H p (.lst ys)) { s with heap:=s.heap.update p f,toks:=t }:=by
 have e:(s.heap.update p f).get? p=some { cls:=.type "list",data:=.seq its'.toArray n' }:=by
  rw [Heap.get?_update_self f ho (by rw [hf] <;> rfl),hf]
 refine I.write (x:=p) (e:=p) (by rw [h];trivial) (.inl rfl) (fun b u hb q=>(Heap.get?_update_other _ _ (Ne.symm hb)).trans q) ⟨_,e⟩ ?_
 exact ⟨hz,its',n',r,e⟩
noncomputable def Zpv:V→V→V→Hp→(Hp→Prop)→Prop:=fun o i v H Q=>∃p xs k j,o=.ref p∧i=.int k∧H p=some (.lst xs)∧ixN xs.length k=some j∧Q (upd H p (.lst (xs.set j v)))
theorem Zos:PSet X Zpv:=by
 intro pins s σ H o i v ov iv u Q I ro ri rv h
 obtain ⟨p,xs,k,j,rfl,rfl,hp,hj,q⟩:=h
 cases ro
 obtain ⟨t,rfl⟩:=ri
 obtain ⟨its,n,r,ho,hz⟩:=I.lst hp
 obtain ⟨h1,h2,h3,h4⟩:=Zly hj
 have hl:=r.length
 have hn:=Zf1
 have I':Inv X pins σ (upd H p (.lst (xs.set j v))) { s with heap:=s.heap.update p (Obj.mapSeq (·.setIfInBounds j u)) }:=
  I.lstUpd hp ho (Zmc its n j u) (r.set rv j) (by rw [List.length_set];exact hz) s.toks
 by_cases h0:0≤k
 ·have hk:k.toNat=j:=by
   rw [seqIndex_of h0 h4] at h1
   exact Option.some.inj h1
  exact PySem.W.ki_setAt ho h0 (by omega) (by rw [List.size_toArray,←hl];exact h4) (by rw [hk];exact ⟨_,I',q⟩)
 ·have hk:(k+(its.toArray.size:Int)).toNat=j:=by
   rw [seqIndex_neg (by omega) h3] at h1
   rw [List.size_toArray,←hl]
   exact Option.some.inj h1
  exact PySem.W.ki_setBack ho (by omega) (by rw [List.size_toArray,←hl];exact h3) (by omega) (by rw [hk];exact ⟨_,I',q⟩)
theorem Zdw:ZbH X (.builtin "len") (fun xs H Q=>∃p ys,xs=[.ref p]∧(SqL X.K H p ys∨SqT X.K H p ys)∧Q (.int ys.length) H):=by
 intro pins s σ H xs us Q I r h
 obtain ⟨p,ys,rfl,hq,q⟩:=h
 obtain ⟨u,rfl,rx⟩:=Zb8 r
 cases rx
 have hn:=Zf1
 rcases hq with hq | hq
 ·obtain ⟨its,r',pl,hz⟩:=I.list hq
  have hlen:=r'.length
  exact Calls.call_len_list pl.isList (by simp only [List.size_toArray] <;> omega) ⟨.int ys.length,H,I.tok _,⟨s.toks+1,by rw [List.size_toArray,hlen]⟩,q⟩
 ·obtain ⟨its,r',pl,hz⟩:=I.tuple hq
  have hlen:=r'.length
  exact len_tuple pl (by simp only [List.size_toArray] <;> omega) ⟨.int ys.length,H,I.tok _,⟨s.toks+1,by rw [List.size_toArray,hlen]⟩,q⟩
theorem Zi4:ZbH X (.type "tuple") (fun xs H Q=>∃p ys,xs=[.ref p]∧((SqL X.K H p ys∧∀l,H l=none→Q (.ref l) (upd H l (.tup ys)))∨(SqT X.K H p ys∧Q (.ref p) H))):=by
 intro pins s σ H xs us Q I r h
 obtain ⟨p,ys,rfl,h⟩:=h
 obtain ⟨u,rfl,rx⟩:=Zb8 r
 cases rx
 rcases h with ⟨hq,q⟩ | ⟨hq,q⟩
 ·obtain ⟨its,r',pl,hz⟩:=I.list hq
  have hlen:=r'.length
  refine call_tuple_list pl.isList (fun h' kp=>?_) (by simp only [List.size_toArray] <;> omega)
  have I1:Inv X pins σ H { s with heap:=h' }:=I.kept (t':=s.toks) kp
  have I2:Inv X pins σ (upd H h'.objs.size (.tup ys)) { s with heap:=h'.push { cls:=.type "tuple",data:=.seq its.toArray } }:=
   I1.laid (t':=s.toks) (fun b o e=>Heap.get?_push_of_some _ e) (Nat.le_refl _) (show Za9 X.prog X.w _ _ _ (.tup ys) from ⟨hz,its,r',IsTup.new _ _⟩)
  exact ⟨.ref h'.objs.size,_,I2,rfl,q _ (I1.hok.fresh (Nat.le_refl _))⟩
 ·obtain ⟨its,r',pl,hz⟩:=I.tuple hq
  exact call_tuple_same pl ⟨.ref p,H,I,rfl,q⟩
noncomputable def tyV (K:PySem.W.Frag) (T:String) (x:V) (H:Hp):Prop:=match x with
 | .str _=>T = "str"
 | .int _=>T = "int"
 | .ref p=>(T = "list"∧∃xs,SqL K H p xs)∨(T = "tuple"∧∃o,K.lookup p=some o∧o.cls=.type "tuple"∧o.dict=none)∨
   (T = "dict"∧((∃kvs,H p=some (.dK kvs))∨∃kvs,H p=some (.dT kvs)))∨(T = "set"∧∃S n,H p=some (.set S n))
 | _=>False
theorem Zq0 {pins:List (Addr×Obj)} {σ:St} {H:Hp} {s:Shared} {T:String} {x:V} {v:Value} (I:Inv X pins σ H s) (r:RelV x v) (ty:tyV X.K T x H) :
  s.TypeIs v T∧∀a,v=.ref a→∃ob,s.heap.get? a=some ob∧ob.dict=none:=by
 cases x with
 | str z=>
  obtain ⟨t,rfl⟩:=r
  cases (show T = "str" from ty)
  exact ⟨typeIs_str s z t,fun _ e=>nomatch e⟩
 | int i=>
  obtain ⟨t,rfl⟩:=r
  cases (show T = "int" from ty)
  exact ⟨typeIs_int s i t,fun _ e=>nomatch e⟩
 | ref p=>
  cases r
  rcases ty with ⟨rfl,xs,hq⟩ | ⟨rfl,o,hk,hc,hd⟩ | ⟨rfl,hk⟩ | ⟨rfl,S,n,hk⟩
  ·obtain ⟨its,_,pl,_⟩:=I.list hq
   refine ⟨pl.isList.typeIs,fun a e=>?_⟩
   cases e
   obtain ⟨o,n,e,c,hd,_⟩:=pl
   exact ⟨o,e,hd⟩
  ·refine ⟨⟨o,I.kIn p o hk,hc⟩,fun a e=>?_⟩
   cases e
   exact ⟨o,I.kIn _ o hk,hd⟩
  ·have z:∃o,s.heap.get? p=some o∧o.ExactDict:=by
    rcases hk with ⟨kvs,hk⟩ | ⟨kvs,hk⟩
    ·obtain ⟨_,_,_,_,o,_,_,e,ex,_⟩:=I.hok p _ hk
     exact ⟨o,e,ex⟩
    ·obtain ⟨_,_,_,_,o,_,_,e,ex,_⟩:=I.hok p _ hk
     exact ⟨o,e,ex⟩
   obtain ⟨o,e,ex⟩:=z
   refine ⟨⟨o,e,ex.1⟩,fun a e2=>?_⟩
   cases e2
   exact ⟨o,e,ex.2.1⟩
  ·obtain ⟨o,_,_,_,e,ex,_⟩:=I.hok p _ hk
   refine ⟨⟨o,e,ex.1⟩,fun a e2=>?_⟩
   cases e2
   exact ⟨o,e,ex.2.1⟩
 | _=>exact False.elim ty
noncomputable def tBM (K:PySem.W.Frag) (T:String) (r:V→List V→Hp→VK→Prop) (to:TE) (t:TA):TE:=fun σ H Q=>to σ H fun x H1=>tyV K T x H1∧t σ H1 fun xs H2=>r x xs H2 Q
variable {o e:Expr} {es:List Expr} {to:TE} {t:TA} {name:Str} {apos cpos:Pos} {T id:String} {r:V→List V→Hp→VK→Prop}
theorem Zi9 (pa:PlainAttrs T) (slot:Slot T name id) (hty:typeOf (.builtin id)=pure (.type "method_descriptor")) (hm:MtR X id r) (ho:PE X o to) (ha:PA X (e::es) t)
  (hbase:attributeBase o name X.env (eval o X.env)=eval o X.env:=by rfl)
  (hfew:((backTo cpos (starEach (e::es) X.env)).all (fun x=>!x.1)&&(backToKw cpos (keywordEach [] X.env)).all (fun x=>x.1.isSome)
   && decide ((e::es).length+([]:List Keyword).length+(if ([]:List Keyword).isEmpty then 0 else 1)<30))=true:=by rfl)
  (hline:(apos.endLine==cpos.line)=true:=by rfl) (hs:starEach (e::es) X.env=(false,eval e X.env)::starEach es X.env:=by rfl) (hplain:(backTo cpos (starEach es X.env)).any (·.1)=false:=by rfl) :
  PE X (.Call (.Attribute o name apos) (e::es) [] cpos) (tBM X.K T r to t):=by
 intro pins s σ H Q I h
 refine wpAny_Call_method_late hbase hfew hline rfl (thn (ho pins s σ H _ I h) fun v s1 ⟨x,H1,I1,r1,ty,q1⟩=>?_)
 obtain ⟨h1,h2⟩:=Zq0 I1 r1 ty
 refine ⟨T,id,pa,slot,hty,h1,h2,?_⟩
 have hA:=ha cpos pins s1 σ H1 _ I1 q1
 rw [hs] at hA ⊢
 refine Calls.callWith_builtin (by show (false||(backTo cpos (starEach es X.env)).any (·.1))=false;rw [hplain] <;> rfl) (Calls.evalArgs_plain ?_)
 exact thn hA fun us s2 ⟨vs,H2,I2,r2,q2⟩=>hm pins s2 σ H2 x vs v us Q I2 r1 r2 q2
end
end L2
namespace L2
open PySem PySem.Spec PyProof.Rows
noncomputable def MtM (X:Cx) (id:String) (r:V→List V→Hp→VK→Prop):Prop:=
 ∀(pins:List (Addr×Obj)) (s:Shared) (σ:St) (H:Hp) (x:V) (xs:List V) (v:Value) (us:List Value) (Q:VK),Inv X pins σ H s→RelV x v→Vals xs us→r x xs H Q→
  wpAny (model X.prog X.w) X.A (call (.builtin id) (v::us)) (EP X pins σ Q) X.xe s
theorem Vals.one:∀{x:V} {us:List Value},Vals [x] us→∃u,us=[u]∧RelV x u
 | _,_,.cons r .nil=>⟨_,rfl,r⟩
theorem Vals.two:∀{x y:V} {us:List Value},Vals [x,y] us→∃u v,us=[u,v]∧RelV x u∧RelV y v
 | _,_,_,.cons r (.cons q .nil)=>⟨_,_,rfl,r,q⟩
theorem Vals.eraseIdx:∀{xs:List V} {us:List Value} (i:Nat),Vals xs us→Vals (xs.eraseIdx i) (us.eraseIdx i)
 | _,_,_,.nil=>.nil
 | _,_,0,.cons _ t=>t
 | _,_,i+1,.cons r t=>.cons r (Vals.eraseIdx i t)
theorem Vals.rep {xs:List V} {us:List Value} (h:Vals xs us):∀k:Nat,Vals (List.replicate k xs).flatten (List.replicate k us).flatten
 | 0=>.nil
 | k+1=>by
  rw [List.replicate_succ,List.replicate_succ,List.flatten_cons,List.flatten_cons]
  exact Vals.append h (Vals.rep h k)
theorem ZiB {α:Type}:∀(l:List α) (i:Nat),(l.eraseIdx i).length≤l.length
 | [],_=>Nat.le_refl _
 | _::_,0=>Nat.le_succ _
 | _::r,i+1=>Nat.succ_le_succ (ZiB r i)
theorem Zf9 (its:List Value):∀(k:Nat) (acc:List Value),
  List.foldl (fun x1 x2=>x1++x2) acc.toArray (List.replicate k its.toArray)=(acc++(List.replicate k its).flatten).toArray
 | 0,acc=>by simp
 | k+1,acc=>by
  have e:acc.toArray++its.toArray=(acc++its).toArray:=by simp
  have e2:(acc++its)++(List.replicate k its).flatten=acc++(List.replicate (k+1) its).flatten:=by
   rw [List.replicate_succ,List.flatten_cons,List.append_assoc]
  rw [←e2,←Zf9 its k (acc++its),←e,List.replicate_succ,List.foldl_cons]
section
variable {X:Cx} {pins:List (Addr×Obj)} {σ:St} {H:Hp} {s:Shared} {l b:Addr} {xs ys zs:List V}
theorem Inv.lset {its its':List Value} {n:Nat} {f:Array Value→Array Value} {t':Nat} (I:Inv X pins σ H s) (hH:H l=some (.lst xs))
  (e:s.heap.get? l=some { cls:=.type "list",data:=.seq its.toArray n }) (hf:f its.toArray=its'.toArray) (hv:Vals ys its') (hz:ys.length≤sizeLine) :
  Inv X pins σ (upd H l (.lst ys)) { s with heap:=s.heap.update l (Obj.mapSeq f),toks:=t' }:=by
 have q:=PySem.IsL.update e f
 rw [hf] at q
 refine I.write (x:=l) (e:=l) (by rw [hH];exact trivial) (.inl rfl) (fun b' u hb hu=>(Heap.get?_update_other s.heap (Obj.mapSeq f) (Ne.symm hb)).trans hu) ⟨_,q⟩ ?_
 exact ⟨hz,its',_,hv,q⟩
theorem Inv.lnew {its:List Value} {t':Nat} (I:Inv X pins σ H s) (hv:Vals ys its) (hz:ys.length≤sizeLine) :
  Inv X pins σ (upd H s.heap.objs.size (.lst ys)) { s with heap:=s.heap.push { cls:=.type "list",data:=.seq its.toArray },toks:=t' }:=
 I.laid (fun _ _ q=>Heap.get?_push_of_some _ q) (Nat.le_refl _) ⟨hz,its,0,hv,Heap.get?_push_size _ rfl⟩
theorem Inv.fresh (I:Inv X pins σ H s):H s.heap.objs.size=none:=I.hok.fresh (Nat.le_refl _)
theorem Inv.lstM (I:Inv X pins σ H s) (hH:H l=some (.lst xs)):xs.length≤sizeLine∧∃(its:List Value) (n:Nat),Vals xs its∧xs.length=its.length∧s.heap.get? l=some { cls:=.type "list",data:=.seq its.toArray n }:=by
 obtain ⟨z,its,n,r,e⟩:=I.hok l _ hH
 exact ⟨z,its,n,r,r.length,e⟩
theorem ZoS {n:Nat} (h:n≤sizeLine):Builtin.List.listTooLong n=false:=by
 unfold Builtin.List.listTooLong
 exact decide_eq_false (by omega)
end
section
variable {X:Cx}
noncomputable def Zgl:V→List V→Hp→VK→Prop:=fun x vs H Q=>∃l xs y,x=.ref l∧vs=[y]∧H l=some (.lst xs)∧xs.length<sizeLine∧Q .non (upd H l (.lst (xs ++ [y])))
theorem Ziw:MtM X "list.append" Zgl:=by
 intro pins s σ H x vs v us Q I rx rv h
 obtain ⟨l,xs,y,rfl,rfl,hH,hz,q⟩:=h
 cases rx
 obtain ⟨u,rfl,ru⟩:=rv.one
 obtain ⟨z,its,n,r,hl,e⟩:=I.lstM hH
 refine call_meets F.slot_list_append ⟨_,e,rfl⟩ F.entry_list_append (F.args_list_append_2 _ _) (PySem.list_append l its.toArray n u (by rw [List.size_toArray];omega)) ⟨e,?_⟩
 refine ⟨.non,_,I.lset (its':=its ++ [u]) hH e (by simp) (r.append (.cons ru .nil)) ?_,rfl,q⟩
 rw [List.length_append,List.length_singleton]
 omega
noncomputable def Zjy:V→List V→Hp→VK→Prop:=fun x vs H Q=>∃l xs i k y,x=.ref l∧vs=[.int i]∧H l=some (.lst xs)∧-(2 ^ 63)≤i∧i<2 ^ 63∧seqIndex? i xs.length=some k∧xs[k]?=some y∧Q y (upd H l (.lst (xs.eraseIdx k)))
theorem ZjU:MtM X "list.pop" Zjy:=by
 intro pins s σ H x vs v us Q I rx rv h
 obtain ⟨l,xs,i,k,y,rfl,rfl,hH,h1,h2,hk,hy,q⟩:=h
 cases rx
 obtain ⟨u,rfl,ru⟩:=rv.one
 obtain ⟨t,rfl⟩:=ru
 obtain ⟨z,its,n,r,hl,e⟩:=I.lstM hH
 obtain ⟨w,hw,rw'⟩:=r.get hy
 refine call_meets F.slot_list_pop ⟨_,e,rfl⟩ F.entry_list_pop (F.args_list_pop_2 _ _)
  (MeetsSeq.list_pop_at l its.toArray n i t k w (fitsIndex_both h1 h2) (by rw [List.size_toArray,←hl];exact hk) (by rw [←Array.getElem?_toList];exact hw) (by rw [List.size_toArray];omega)) ⟨e,?_⟩
 refine ⟨y,_,I.lset (its':=its.eraseIdx k) hH e ?_ (r.eraseIdx k) ?_,rw',q⟩
 ·show its.toArray.eraseIdxIfInBounds k=(its.eraseIdx k).toArray
  rw [List.eraseIdxIfInBounds_toArray]
 ·have:=ZiB xs k
  omega
noncomputable def rCat:R2:=fun x y H Q=>∃l b xs zs,x=.ref l∧y=.ref b∧H l=some (.lst xs)∧H b=some (.lst zs)∧xs.length+zs.length≤sizeLine∧∀p,H p=none→Q (.ref p) (upd H p (.lst (xs++zs)))
theorem ZrB:OpR X (binaryOp .Add) rCat:=by
 intro pins s σ H x y v u Q I rx ry h
 obtain ⟨l,b,xs,zs,rfl,rfl,hH,hB,hz,q⟩:=h
 cases rx
 cases ry
 obtain ⟨z,its,n,r,hl,e⟩:=I.lstM hH
 obtain ⟨z2,its2,n2,r2,hl2,e2⟩:=I.lstM hB
 refine PySem.P.add_list e e2 ?_ (by rw [List.size_toArray,List.size_toArray];omega)
 have ea:its.toArray++its2.toArray=(its++its2).toArray:=by simp
 rw [ea]
 exact ⟨.ref _,_,I.lnew (t':=s.toks) (r.append r2) (by rw [List.length_append];omega),rfl,q _ I.fresh⟩
noncomputable def rRep:R2:=fun x y H Q=>∃l k xs,x=.ref l∧y=.int k∧H l=some (.lst xs)∧-(2 ^ 63)≤k∧k<2 ^ 63∧xs.length*k.toNat≤sizeLine∧
 ∀p,H p=none→Q (.ref p) (upd H p (.lst (List.replicate k.toNat xs).flatten))
theorem Zic {α:Type} (xs:List α) (k:Nat):(List.replicate k xs).flatten.length=k*xs.length:=by
 induction k with
 | zero=>simp
 | succ k ih=>rw [List.replicate_succ,List.flatten_cons,List.length_append,ih,Nat.succ_mul,Nat.add_comm]
theorem Zrt:OpR X (binaryOp .Mult) rRep:=by
 intro pins s σ H x y v u Q I rx ry h
 obtain ⟨l,k,xs,rfl,rfl,hH,h1,h2,hz,q⟩:=h
 cases rx
 obtain ⟨t,rfl⟩:=ry
 obtain ⟨z,its,n,r,hl,e⟩:=I.lstM hH
 have hlen:its.toArray.size*k.toNat≤sizeLine:=by rw [List.size_toArray,←hl];exact hz
 have hcap:¬its.toArray.size*k.toNat > (2 ^ 63-1) / 8:=by
  have:(sizeLine:Nat)≤(2 ^ 63-1) / 8:=by decide
  omega
 have hfit:¬(!Builtin.List.listFitsIndex k)=true:=by
  rw [fitsIndex_both h1 h2]
  exact Bool.false_ne_true
 have hlong:¬Builtin.List.listTooLong (its.toArray.size*k.toNat)=true:=by
  rw [ZoS hlen]
  exact Bool.false_ne_true
 have hnew:List.foldl (fun x1 x2=>x1++x2) #[] (List.replicate (if its.toArray.isEmpty=true then 0 else k.toNat) its.toArray)=(List.replicate k.toNat its).flatten.toArray:=by
  have f0:∀m:Nat,List.foldl (fun x1 x2=>x1++x2) #[] (List.replicate m its.toArray)=(List.replicate m its).flatten.toArray:=fun m=>by
   have:=Zf9 its m []
   rw [List.nil_append] at this
   exact this
  rw [f0]
  cases its with
  | nil=>simp
  | cons a r'=>rw [if_neg (by simp)]
 refine wpAny_binaryOp_repeat_ref (T:="list") (U:="int") (by decide) ⟨_,e,rfl⟩ (fun s'=>typeIs_int s' k t) noFill_list_mul F.fills_int_mul F.slot_int_rmul repeat_list F.slot_int_index.lookup
  (call_meets F.slot_int_rmul (typeIs_int s k t) F.entry_int_rmul (F.args_int_rmul_2 _ _) (int___rmul___int_list k t l its.toArray n)
   ⟨e,rfl,⟨_,e,rfl⟩,call_meets F.slot_list_mul ⟨_,e,rfl⟩ F.entry_list_mul (F.args_list_mul_2 _ _) (AutoListH.list___mul___list_int_3 l its.toArray n k t hfit hcap hlong) ⟨e,?_⟩⟩)
 rw [hnew]
 exact ⟨.ref _,_,I.lnew (t':=s.toks) (r.rep k.toNat) (by rw [Zic,Nat.mul_comm];exact hz),rfl,q _ I.fresh⟩
end
section
variable {prog:Program} {w:World} {A:Around} {E:Value→Shared→Prop} {s:Shared}
end
section
variable {X:Cx}
end
end L2
namespace L2
open PySem PySem.Spec PyProof.Rows
section
variable {κ:Type} [DecidableEq κ]
noncomputable def valV (kvs:List (κ×V)) (k:κ):Option V:=(kvs.find? fun kv=>decide (kv.1=k)).map (·.2)
noncomputable def putK (kvs:List (κ×V)) (k:κ) (v:V):List (κ×V):=
 if (kvs.any fun kv=>decide (kv.1=k))=true then kvs.map (fun kv=>if kv.1=k then (kv.1,v) else kv) else kvs ++ [(k,v)]
theorem Zbk {p:κ×V} {r:List (κ×V)} {k:κ} (e:p.1=k):valV (p::r) k=some p.2:=by simp [valV,List.find?_cons,e]
theorem Zbl {p:κ×V} {r:List (κ×V)} {k:κ} (e:¬p.1=k):valV (p::r) k=valV r k:=by simp [valV,List.find?_cons,e]
theorem Zec (k:κ):∀kvs:List (κ×V),(kvs.any fun kv=>decide (kv.1=k))=(valV kvs k).isSome
 | []=>rfl
 | p::r=>by
  rw [List.any_cons]
  by_cases e:p.1=k
  ·simp only [Zbk e,decide_eq_true e,Bool.true_or,Option.isSome_some]
  ·rw [Zbl e,decide_eq_false e,Bool.false_or];exact Zec k r
theorem Zji (k j:κ) (y:V):∀kvs:List (κ×V),valV (kvs.map fun kv=>if kv.1=k then (kv.1,y) else kv) j=(valV kvs j).map fun x=>if j=k then y else x
 | []=>rfl
 | p::r=>by
  have ih:=Zji k j y r
  rw [List.map_cons]
  by_cases h:p.1=k
  ·rw [if_pos h]
   by_cases e:p.1=j
   ·rw [Zbk (p:=(p.1,y)) e,Zbk e,Option.map_some,if_pos (e.symm.trans h)]
   ·rw [Zbl (p:=(p.1,y)) e,Zbl e,ih]
  ·rw [if_neg h]
   by_cases e:p.1=j
   ·rw [Zbk (p:=p) e,Zbk e,Option.map_some,if_neg (fun z=>h (e.trans z))]
   ·rw [Zbl (p:=p) e,Zbl e,ih]
theorem Zik (k j:κ) (y:V):∀kvs:List (κ×V),valV kvs k=none→valV (kvs ++ [(k,y)]) j=if j=k then some y else valV kvs j
 | [],_=>by
  by_cases e:k=j
  ·rw [if_pos e.symm];exact Zbk (p:=(k,y)) e
  ·rw [if_neg (fun z=>e z.symm)];exact Zbl (p:=(k,y)) e
 | p::r,hn=>by
  rw [List.cons_append]
  have hk:¬p.1=k:=fun z=>by rw [Zbk z] at hn;cases hn
  rw [Zbl hk] at hn
  have ih:=Zik k j y r hn
  by_cases e:p.1=j
  ·rw [Zbk e,Zbk e,if_neg (fun z=>hk (e.trans z))]
  ·rw [Zbl e,Zbl e,ih]
theorem Zjh (kvs:List (κ×V)) (k j:κ) (y:V):valV (putK kvs k y) j=if j=k then some y else valV kvs j:=by
 unfold putK
 by_cases a:(kvs.any fun kv=>decide (kv.1=k))=true
 ·rw [if_pos a,Zji]
  rw [Zec] at a
  by_cases e:j=k
  ·obtain ⟨x,hx⟩:=Option.isSome_iff_exists.mp a
   rw [if_pos e,e,hx,Option.map_some,if_pos rfl]
  ·rw [if_neg e]
   cases valV kvs j with
   | none=>rfl
   | some x=>rw [Option.map_some,if_neg e]
 ·rw [if_neg a]
  refine Zik k j y kvs ?_
  rw [Zec] at a
  cases q:valV kvs k with
  | none=>rfl
  | some x=>rw [q] at a;exact (a rfl).elim
theorem Zce (kvs:List (κ×V)) (k:κ) (v:V):(putK kvs k v).length≤kvs.length+1:=by
 unfold putK
 split
 ·rw [List.length_map];omega
 ·rw [List.length_append,List.length_cons,List.length_nil];omega
theorem Zjz {kvs:List (κ×V)} {k:κ} (v:V) (h:valV kvs k=none):putK kvs k v=kvs ++ [(k,v)]:=by
 unfold putK
 rw [Zec,h]
 exact if_neg (by decide)
theorem RelO.isSome_eq {o:Option V} {u:Option Value} (r:RelO o u):o.isSome=u.isSome:=by
 cases o with
 | none=>cases u with
  | none=>rfl
  | some _=>exact (show False from r).elim
 | some _=>cases u with
  | none=>exact (show False from r).elim
  | some _=>rfl
theorem RelO.getD {o:Option V} {u:Option Value} {d:V} {d':Value} (r:RelO o u) (rd:RelV d d'):RelV (o.getD d) (u.getD d'):=by
 cases o with
 | none=>cases u with
  | none=>exact rd
  | some _=>exact (show False from r).elim
 | some _=>cases u with
  | none=>exact (show False from r).elim
  | some _=>exact r
theorem KV.val {kvs:List (κ×V)} {vs:List (κ×Value)} (r:KV kvs vs) (k:κ):RelO (valV kvs k) (valueAt vs k):=by
 unfold KV at r
 induction r with
 | nil=>exact True.intro
 | @cons p q ps qs h t ih=>
  obtain ⟨h1,h2⟩:=h
  by_cases e:p.1=k
  ·have e':q.1=k:=h1.symm.trans e
   have b:valueAt (q::qs) k=some q.2:=by simp [valueAt,List.find?_cons,e']
   rw [Zbk e,b];exact h2
  ·have e':¬q.1=k:=fun z=>e (h1.trans z)
   have b:valueAt (q::qs) k=valueAt qs k:=by simp [valueAt,List.find?_cons,e']
   rw [Zbl e,b];exact ih
theorem KV.any {kvs:List (κ×V)} {vs:List (κ×Value)} (r:KV kvs vs) (k:κ):(kvs.any fun kv=>decide (kv.1=k))=vs.any fun kv=>decide (kv.1=k):=by
 unfold KV at r
 induction r with
 | nil=>rfl
 | cons h t ih=>rw [List.any_cons,List.any_cons,ih,h.1]
theorem KV.repl {kvs:List (κ×V)} {vs:List (κ×Value)} (r:KV kvs vs) (k:κ) {y:V} {u:Value} (ry:RelV y u) :
  KV (kvs.map fun kv=>if kv.1=k then (kv.1,y) else kv) (vs.map fun kv=>if kv.1=k then (kv.1,u) else kv):=by
 unfold KV at r ⊢
 induction r with
 | nil=>exact .nil
 | @cons p q ps qs h t ih=>
  rw [List.map_cons,List.map_cons]
  refine .cons ?_ ih
  obtain ⟨h1,h2⟩:=h
  by_cases e:p.1=k
  ·rw [if_pos e,if_pos (h1.symm.trans e)];exact ⟨h1,ry⟩
  ·rw [if_neg e,if_neg (fun z=>e (h1.trans z))];exact ⟨h1,h2⟩
theorem KV.put {kvs:List (κ×V)} {vs:List (κ×Value)} (r:KV kvs vs) (k:κ) {y:V} {u:Value} (ry:RelV y u):KV (putK kvs k y) (stored vs k u):=by
 unfold putK stored
 rw [r.any k]
 by_cases e:(vs.any fun kv=>decide (kv.1=k))=true
 ·rw [if_pos e,if_pos e];exact r.repl k ry
 ·rw [if_neg e,if_neg e];exact Paired.snoc r ⟨rfl,ry⟩
theorem KV.length {kvs:List (κ×V)} {vs:List (κ×Value)} (r:KV kvs vs):kvs.length=vs.length:=Paired.length r
end
theorem ZeD {P:Program} {w:World} {k:Key} {u:Value} (r:RelV (kV k) u):(Zbe P w).is k u=true:=by
 cases k with
 | inl i=>obtain ⟨t,e⟩:=(show ∃t,u=Value.int i t from r);subst e;exact ZkQ P w i t
 | inr x=>obtain ⟨t,e⟩:=(show ∃t,u=Value.str x t from r);subst e;exact ZkP P w x t
theorem ZiD {P:Program} {w:World}:∀{ks:List Key} {us:List Value},Vals (ks.map kV) us→ItemsAre (Zbe P w) ks us
 | [],_,r=>by rw [List.map_nil] at r;cases r;exact .nil
 | k::ks,_,r=>by
  rw [List.map_cons] at r
  cases r with
  | cons h t=>exact .cons (ZeD h) (ZiD t)
noncomputable abbrev KT (H:Hp):List (List Key×V)→List (List Key×Addr×Value)→Prop:=Paired fun p q=>p.1=q.1∧H q.2.1=some (.tup (p.1.map kV))∧RelV p.2 q.2.2
theorem KT.val {H:Hp} {kvs:List (List Key×V)} {xs:List (List Key×Addr×Value)} (r:KT H kvs xs) (k:List Key):RelO (valV kvs k) ((atKey xs k).map (·.2)):=by
 induction r with
 | nil=>exact True.intro
 | @cons p q ps qs h t ih=>
  obtain ⟨h1,_,h2⟩:=h
  by_cases e:p.1=k
  ·have e':q.1=k:=h1.symm.trans e
   have b:atKey (q::qs) k=some q.2:=by simp [atKey,List.find?_cons,e']
   rw [Zbk e,b];exact h2
  ·have e':¬q.1=k:=fun z=>e (h1.trans z)
   have b:atKey (q::qs) k=atKey qs k:=by simp [atKey,List.find?_cons,e']
   rw [Zbl e,b];exact ih
theorem KT.repl {H:Hp} {kvs:List (List Key×V)} {xs:List (List Key×Addr×Value)} (r:KT H kvs xs) (k:List Key) {y:V} {u:Value} (ry:RelV y u) :
  KT H (kvs.map fun kv=>if kv.1=k then (kv.1,y) else kv) (xs.map (putAt k u)):=by
 induction r with
 | nil=>exact .nil
 | @cons p q ps qs h t ih=>
  rw [List.map_cons,List.map_cons]
  refine .cons ?_ ih
  obtain ⟨h1,h2,h3⟩:=h
  unfold putAt
  by_cases e:p.1=k
  ·rw [if_pos e,if_pos (h1.symm.trans e)];exact ⟨h1,h2,ry⟩
  ·rw [if_neg e,if_neg (fun z=>e (h1.trans z))];exact ⟨h1,h2,h3⟩
theorem KT.put {H:Hp} {kvs:List (List Key×V)} {xs:List (List Key×Addr×Value)} (r:KT H kvs xs) (k:List Key) {b:Addr} {y:V} {u:Value} (hb:H b=some (.tup (k.map kV))) (ry:RelV y u) :
  KT H (putK kvs k y) (storedH xs k b u):=by
 have e:(kvs.any fun kv=>decide (kv.1=k))=(atKey xs k).isSome:=by
  rw [Zec,(r.val k).isSome_eq,Option.isSome_map]
 unfold putK storedH
 rw [e]
 by_cases q:(atKey xs k).isSome=true
 ·rw [if_pos q,if_pos q];exact r.repl k ry
 ·rw [if_neg q,if_neg q];exact Paired.snoc r ⟨rfl,hb,ry⟩
theorem KT.keeps {H H':Hp} {kvs:List (List Key×V)} {xs:List (List Key×Addr×Value)} (r:KT H kvs xs) (ht:∀b ys,H b=some (.tup ys)→H' b=some (.tup ys)):KT H' kvs xs:=
 Paired.mapP r fun _ _ z=>⟨z.1,ht _ _ z.2.1,z.2.2⟩
section
variable {P:Program} {w:World} {H:Hp} {h:Heap} {a:Addr}
theorem Zpu {u:HO} (ok:HOk P w H h) (e:Rd H a u):Za9 P w H h a u:=e.ok ok
theorem Zd6 {kvs:List (Key×V)} (ok:HOk P w H h) (e:Rd H a (.dK kvs)):kvs.length≤sizeLine∧(a==sysModules)=false∧∃vs,KV kvs vs∧h.DictOf (Zbe P w) a vs:=
 show Za9 P w H h a (.dK kvs) from Zpu ok e
theorem Zmr {kvs:List (Key×V)} (ok:HOk P w H h) (e:H a=some (.dK kvs)):kvs.length≤sizeLine∧(a==sysModules)=false∧∃vs,KV kvs vs∧h.DictOf (Zbe P w) a vs:=Zd6 ok (.inl e)
theorem Zeq {ks:List Key} (ok:HOk P w H h) (e:H a=some (.tup (ks.map kV))):(tupleKind (Zbe P w)).is h ks a:=by
 obtain ⟨_,its,r,o,h1,h2,n,h3⟩:=(show Za9 P w H h a (.tup (ks.map kV)) from ok a _ e)
 exact ⟨o,its.toArray,n,h1,h2,h3,by simpa using ZiD r⟩
theorem Zfr {kvs:List (List Key×V)} (ok:HOk P w H h) (e:Rd H a (.dT kvs)):kvs.length≤sizeLine∧(a==sysModules)=false∧
  ∃xs,KT H kvs xs∧h.DictOfH (tupleKind (Zbe P w)) a xs:=by
 obtain ⟨z,y,xs,r,o,es,ep,h1,h2,h3,h4,h5⟩:=(show Za9 P w H h a (.dT kvs) from Zpu ok e)
 refine ⟨z,y,xs,r,o,es,ep,h1,h2,h3,h4,fun x hx=>?_,h5⟩
 have all:∀{l:List (List Key×V)} {m:List (List Key×Addr×Value)},KT H l m→∀x∈m,(tupleKind (Zbe P w)).is h x.1 x.2.1:=by
  intro l m q
  induction q with
  | nil=>intro x hx;exact nomatch hx
  | @cons p q ps qs hq t ih=>
   intro x hx
   rcases List.mem_cons.mp hx with e | hx
   ·subst e
    exact Zeq ok (by rw [←hq.1];exact hq.2.1)
   ·exact ih x hx
 exact all r x hx
theorem ZpH {kvs:List (List Key×V)} (ok:HOk P w H h) (e:H a=some (.dT kvs)):kvs.length≤sizeLine∧(a==sysModules)=false∧
  ∃xs,KT H kvs xs∧h.DictOfH (tupleKind (Zbe P w)) a xs:=Zfr ok (.inl e)
end
noncomputable def DGet (H:Hp) (a:Addr) (y:V) (r:Option V):Prop:=
 (∃kvs k,Rd H a (.dK kvs)∧y=kV k∧r=valV kvs k)∨∃kvs k b,Rd H a (.dT kvs)∧y=.ref b∧H b=some (.tup (k.map kV))∧r=valV kvs k
noncomputable def DPut (H:Hp) (a:Addr) (y v:V) (H':Hp):Prop:=
 (∃kvs k,H a=some (.dK kvs)∧y=kV k∧kvs.length<sizeLine∧H'=upd H a (.dK (putK kvs k v)))∨
 ∃kvs k b,H a=some (.dT kvs)∧y=.ref b∧H b=some (.tup (k.map kV))∧kvs.length<sizeLine∧H'=upd H a (.dT (putK kvs k v))
theorem DGet.k {H:Hp} {a:Addr} {kvs:List (Key×V)} {k:Key} (e:H a=some (.dK kvs)):DGet H a (kV k) (valV kvs k):=.inl ⟨kvs,k,.inl e,rfl,rfl⟩
theorem DGet.t {H:Hp} {a b:Addr} {kvs:List (List Key×V)} {k:List Key} (e:H a=some (.dT kvs)) (eb:H b=some (.tup (k.map kV))):DGet H a (.ref b) (valV kvs k):=.inr ⟨kvs,k,b,.inl e,rfl,eb,rfl⟩
theorem DPut.k {H:Hp} {a:Addr} {kvs:List (Key×V)} {k:Key} {v:V} (e:H a=some (.dK kvs)) (hl:kvs.length<sizeLine):DPut H a (kV k) v (upd H a (.dK (putK kvs k v))):=.inl ⟨kvs,k,e,rfl,hl,rfl⟩
theorem DPut.t {H:Hp} {a b:Addr} {kvs:List (List Key×V)} {k:List Key} {v:V} (e:H a=some (.dT kvs)) (eb:H b=some (.tup (k.map kV))) (hl:kvs.length<sizeLine) :
  DPut H a (.ref b) v (upd H a (.dT (putK kvs k v))):=.inr ⟨kvs,k,b,e,rfl,eb,hl,rfl⟩
section
variable {X:Cx} {pins:List (Addr×Obj)} {σ:St} {H:Hp} {s:Shared} {a:Addr} {y v:V} {u r:Value} {o:Option V} {A:Around} {E:Value→Shared→Prop}
theorem Inv.big (I:Inv X pins σ H s):sysModules<s.heap.objs.size:=by
 have h:mainGlobals<s.heap.objs.size:=(I.mod.glob.keeps I.bk).lt
 exact Nat.lt_trans (by decide) h
theorem ZnX {Q:Value→Shared→Prop} (hu:A.units+1<cLine) (I:Inv X pins σ H s) (g:DGet H a y (some v)) (ry:RelV y u) (h:∀w' s',Inv X pins σ H s'→RelV v w'→Q w' s') :
  wpAny (model X.prog X.w) A (getItem (.ref a) u) Q E s:=by
 rcases g with ⟨kvs,k,e,ey,l⟩ | ⟨kvs,k,b,e,ey,eb,l⟩
 ·subst ey
  obtain ⟨z,hd,vs,rel,dd⟩:=Zd6 I.hok e
  obtain ⟨w',hw,rw'⟩:=RelO.some_of (v:=v) (o:=valueAt vs k) (by rw [l];exact rel.val k)
  exact wpAny_getItem_of (ZeD ry) dd.mapOf hw (h w' _ (I.tok _) rw')
 ·subst ey
  cases (show u=Value.ref b from ry)
  obtain ⟨z,hd,xs,rel,dd⟩:=Zfr I.hok e
  obtain ⟨w',hw,rw'⟩:=RelO.some_of (v:=v) (o:=(atKey xs k).map (·.2)) (by rw [l];exact rel.val k)
  obtain ⟨p,hp,hp2⟩:=Option.map_eq_some_iff.mp hw
  refine wpAny_getItem_heap (tupleKind_room_in1 hu) (Zeq I.hok eb) dd hp ?_
  rw [hp2]
  exact h w' _ (I.tok _) rw'
theorem d_in {Q:Value→Shared→Prop} (hu:A.units+1<cLine) (I:Inv X pins σ H s) (g:DGet H a y o) (ry:RelV y u) (h:∀s',Inv X pins σ H s'→Q (.bool o.isSome) s') :
  wpAny (model X.prog X.w) A (compareOp .In u (.ref a)) Q E s:=by
 rcases g with ⟨kvs,k,e,ey,l⟩ | ⟨kvs,k,b,e,ey,eb,l⟩
 ·subst ey
  obtain ⟨z,hd,vs,rel,dd⟩:=Zd6 I.hok e
  refine wpAny_in_of (ZeD ry) hd dd.mapOf ?_
  rw [←(rel.val k).isSome_eq,←l]
  exact h _ (I.tok _)
 ·subst ey
  cases (show u=Value.ref b from ry)
  obtain ⟨z,hd,xs,rel,dd⟩:=Zfr I.hok e
  refine wpAny_in_heap (tupleKind_room_in1 hu) (Zeq I.hok eb) hd dd ?_
  have q:=(rel.val k).isSome_eq
  rw [Option.isSome_map] at q
  rw [←q,←l]
  exact h _ (I.tok _)
theorem ZqU {Q:Value→Shared→Prop} (hu:A.units+1<cLine) (I:Inv X pins σ H s) (g:DGet H a y o) (ry:RelV y u) (h:∀s',Inv X pins σ H s'→Q (.bool (!o.isSome)) s') :
  wpAny (model X.prog X.w) A (compareOp .NotIn u (.ref a)) Q E s:=by
 rcases g with ⟨kvs,k,e,ey,l⟩ | ⟨kvs,k,b,e,ey,eb,l⟩
 ·subst ey
  obtain ⟨z,hd,vs,rel,dd⟩:=Zd6 I.hok e
  refine wpAny_notIn_of (ZeD ry) hd dd.mapOf ?_
  rw [←(rel.val k).isSome_eq,←l]
  exact h _ (I.tok _)
 ·subst ey
  cases (show u=Value.ref b from ry)
  obtain ⟨z,hd,xs,rel,dd⟩:=Zfr I.hok e
  refine wpAny_notIn_heap (tupleKind_room_in1 hu) (Zeq I.hok eb) hd dd ?_
  have q:=(rel.val k).isSome_eq
  rw [Option.isSome_map] at q
  rw [←q,←l]
  exact h _ (I.tok _)
theorem Ze6 {h':Heap} {t':Nat} {ob:HO} (I:Inv X pins σ H s) (mu:Mut (H a)) (hs:Heap.SameBut a s.heap h') (he:∃q,h'.get? a=some q) (new:Za9 X.prog X.w (upd H a ob) h' a ob) :
  Inv X pins σ (upd H a ob) { s with heap:=h',toks:=t' }:=
 I.write (x:=a) (e:=a) mu (.inl rfl) (fun b q hb z=>(hs.2 b hb).trans z) he new
theorem Zkk {P:Program} {w:World} {H':Hp} {h':Heap} {kvs:List (Key×V)} {vs:List (Key×Value)} (z:kvs.length≤sizeLine) (hd:(a==sysModules)=false) (rel:KV kvs vs) (dd:h'.DictOf (Zbe P w) a vs) :
  Za9 P w H' h' a (.dK kvs):=⟨z,hd,vs,rel,dd⟩
theorem ZnW {H':Hp} {Q:Unit→Shared→Prop} (hu:A.units+1<cLine) (I:Inv X pins σ H s) (g:DPut H a y v H') (ry:RelV y u) (rv:RelV v r) (h:∀s',Inv X pins σ H' s'→Q () s') :
  wpAny (model X.prog X.w) A (setItem (.ref a) u r) Q E s:=by
 rcases g with ⟨kvs,k,e,ey,l,eH⟩ | ⟨kvs,k,b,e,ey,eb,l,eH⟩
 ·subst ey eH
  obtain ⟨z,hd,vs,rel,dd⟩:=Zmr I.hok e
  have hz:vs.length≤sizeLine:=by rw [←rel.length];exact z
  have hl:(putK kvs k v).length≤sizeLine:=by have:=Zce kvs k v;omega
  refine wpAny_setItem_pairs (hsz:=hz) (ZeD ry) dd fun h' dd' hs=>h _ ?_
  have he:∃q,h'.get? a=some q:=let ⟨q,_,_,hq,_⟩:=dd';⟨q,hq⟩
  exact Ze6 I (by rw [e];exact True.intro) hs he (Zkk hl hd (rel.put k rv) dd')
 ·subst ey eH
  cases (show u=Value.ref b from ry)
  obtain ⟨z,hd,xs,rel,dd⟩:=ZpH I.hok e
  have hz:xs.length≤sizeLine:=by rw [←Paired.length rel];exact z
  have hl:(putK kvs k v).length≤sizeLine:=by have:=Zce kvs k v;omega
  refine wpAny_setItem_heap (hsz:=hz) (tupleKind_room_in1 hu) (Zeq I.hok eb) dd fun h' dd' hs=>h _ ?_
  obtain ⟨q,es,ep,hq,h2,h3,h4,_,h5⟩:=dd'
  refine Ze6 I (by rw [e];exact True.intro) hs ⟨q,hq⟩ ⟨hl,hd,_,(rel.put k eb rv).keeps fun c ys ec=>?_,q,es,ep,hq,h2,h3,h4,h5⟩
  rw [Zaj (Zpz ec e (fun z=>nomatch z))]
  exact ec
end
section
variable {X:Cx} {pins:List (Addr×Obj)} {σ:St} {H:Hp} {s:Shared} {a:Addr} {kvs:List (Key×V)} {k:Key} {u:Value} {A:Around} {E:Value→Shared→Prop}
end
noncomputable def NoSl (i:Expr):Prop:=∀ov iv,subscripted i false ov iv=operate [ov,iv] (getItem ov iv)
theorem ZpV {prog:Program} {w:World} {A:Around} {E:Value→Shared→Prop} {s:Shared} {env:Env} {value slice:Expr} {pos:Pos} {T id:String} {Q:Value→Shared→Prop}
  (hl:typeLookup (.type T) "__getitem__" = pure (some (.builtin id))) (hs:NoSl slice)
  (h:wpAny (model prog w) A (eval value env) (fun o s₁=>wpAny (model prog w) A (eval slice env) (fun i s₂=>s₂.TypeIs o T∧wpAny (model prog w) A (getItem o i) Q E s₂) E s₁) E s) :
  wpAny (model prog w) A (eval (.Subscript value slice pos) env) Q E s:=by
 refine Subscript_ (wpAny_mono h (fun o s₁ h₁=>wpAny_mono h₁ (fun i s₂ h₂=>?_) fun _ _ x=>x) fun _ _ x=>x)
 obtain ⟨hT,h₂⟩:=h₂
 unfold subscriptTail
 refine wpAny_bind ?_
 rw [getitemInPython_of_ne hT.not_modules]
 refine wpAny_bind (wpAny_specialOf hT hl ?_)
 have fin:wpAny (model prog w) A (subscripted slice false o i) (fun r s₃=>wpAny (model prog w) A (letTemporaryGo value o r >>= fun _=>pure r) Q E s₃) E s₂:=by
  rw [hs o i]
  exact wpAny_operating (wpAny_mono h₂ (fun r s₃ h₃=>wpAny_bind (wpAny_letTemporaryGo (wpAny_pure h₃))) fun _ _ x=>x)
 first
  | exact wpAny_pure (wpAny_bind fin)
  | exact wpAny_bind (wpAny_pure (wpAny_bind fin))
  | exact wpAny_bind fin
theorem Zk0 {X:Cx} {pins:List (Addr×Obj)} {σ:St} {H:Hp} {s:Shared} {a:Addr} {y:V} {o:Option V} (I:Inv X pins σ H s) (g:DGet H a y o):s.TypeIs (.ref a) "dict":=by
 rcases g with ⟨kvs,k,e,_,_⟩ | ⟨kvs,k,b,e,_,_,_⟩
 ·obtain ⟨_,_,vs,_,dd⟩:=Zd6 I.hok e
  exact dd.typeIs
 ·obtain ⟨_,_,xs,_,dd⟩:=Zfr I.hok e
  exact dd.typeIs
noncomputable def Zi7 (td ty:TE):TE:=fun σ H Q=>td σ H fun x H1=>ty σ H1 fun y H2=>∃a v,x=.ref a∧DGet H2 a y (some v)∧Q v H2
noncomputable def Zpt (td ty tv:TE):TS:=fun D σ H=>tv σ H fun v H1=>td σ H1 fun x H2=>ty σ H2 fun y H3=>∃a H4,x=.ref a∧DPut H3 a y v H4∧D.nx σ H4
section
variable {X:Cx} {o i e value:Expr} {pos pos' tpos:Pos} {td ty tv:TE}
theorem Zb0 (hu:X.A.units+1<cLine) (ho:PE X o td) (hi:PE X i ty) (hs:NoSl i):PE X (.Subscript o i pos) (Zi7 td ty):=by
 intro pins s σ H Q I h
 refine ZpV PySem.F.slot_dict_getitem.lookup hs (thn (ho pins s σ H _ I h) fun u s1 ⟨x,H1,I1,rx,q1⟩=>thn (hi pins s1 σ H1 _ I1 q1) fun iv s2 ⟨y,H2,I2,ry,a,v,ex,g,q2⟩=>?_)
 subst ex
 obtain rfl:u=Value.ref a:=rx
 exact ⟨Zk0 I2 g,ZnX hu I2 g ry fun w' s3 I3 rw'=>⟨v,H2,I3,rw',q2⟩⟩
theorem Zlk (hu:X.A.units+1<cLine) (ho:PE X o td) (hi:PE X i ty) (hv:PE X value tv) (hs:swapsWith value (some (.Subscript o i pos')) pos.line X.env=pure false) :
  PS X (.Assign [.Subscript o i pos'] value pos) (Zpt td ty tv):=by
 intro pins s σ H D I h
 refine wpAny_Assign_Subscript (thn (hv pins s σ H _ I h) fun r s1 ⟨v,H1,I1,rv,q1⟩=>thn (ho pins s1 σ H1 _ I1 q1) fun u s2 ⟨x,H2,I2,rx,q2⟩=>thn (hi pins s2 σ H2 _ I2 q2) fun iv s3 ⟨y,H3,I3,ry,a,H4,ex,g,q3⟩=>?_) hs
 subst ex
 obtain rfl:u=Value.ref a:=rx
 exact ZnW hu I3 g ry rv fun s4 I4=>⟨σ,H4,I4,q3⟩
end
theorem Zg3 {P:Program} {w:World} {H:Hp} (h:Heap) (hb:sysModules<h.objs.size):Za9 P w H (h.push { cls:=.type "dict",data:=.dict #[] }) h.objs.size (.dK []):=
 ⟨Nat.zero_le _,beq_eq_false_iff_ne.mpr (Ne.symm (Nat.ne_of_lt hb)),[],.nil,Heap.DictOf.new h⟩
theorem Zpe {P:Program} {w:World} {H:Hp} (h:Heap) (hb:sysModules<h.objs.size):Za9 P w H (h.push { cls:=.type "dict",data:=.dict #[] }) h.objs.size (.dT []):=
 ⟨Nat.zero_le _,beq_eq_false_iff_ne.mpr (Ne.symm (Nat.ne_of_lt hb)),[],.nil,_,#[],0,Heap.get?_push_size _ rfl,⟨rfl,rfl,rfl⟩,rfl,rfl,List.nodup_nil⟩
noncomputable def Zq3:TE:=fun _ H Q=>∀p,H p=none→Q (.ref p) (upd H p (.dK []))
section
variable {X:Cx} {pos:Pos}
theorem Zoy:PE X (.Dict [] [] pos) Zq3:=fun pins s σ H Q I h=>
 wpAny_Dict_empty ⟨.ref s.heap.objs.size,_,I.laid (a:=s.heap.objs.size) (o:=.dK []) (t':=s.toks) (fun _ _ q=>Heap.get?_push_of_some _ q) (Nat.le_refl _) (Zg3 s.heap I.big),rfl,h _ (I.hok.fresh (Nat.le_refl _))⟩
end
noncomputable def Zjo:List (TE×TE)→St→Hp→(List (V×V)→Hp→Prop)→Prop
 | [],_,H,Q=>Q [] H
 | (tk,tv)::r,σ,H,Q=>tk σ H fun x H1=>tv σ H1 fun y H2=>Zjo r σ H2 fun ps H3=>Q ((x,y)::ps) H3
noncomputable abbrev VV:List (V×V)→List (Value×Value)→Prop:=Paired fun p q=>RelV p.1 q.1∧RelV p.2 q.2
noncomputable def PPs (X:Cx) (pos:Pos) (keys:List (Option Expr)) (values:List Expr) (trs:List (TE×TE)):Prop:=
 ∀(pins:List (Addr×Obj)) (s:Shared) (σ:St) (H:Hp) (Q:List (V×V)→Hp→Prop),Inv X pins σ H s→Zjo trs σ H Q→
  wpAny (model X.prog X.w) X.A (evalPairs (pairTrees keys values X.env pos)) (fun vs s'=>∃ps H',Inv X pins σ H' s'∧VV ps vs∧Q ps H') X.xe s
theorem Zp4 {X:Cx} {pos:Pos}:PPs X pos [] [] []:=fun pins s σ H Q I h=>pairTrees_nil_walk ⟨[],H,I,.nil,h⟩
theorem ZgV {X:Cx} {pos:Pos} {k v:Expr} {ks:List (Option Expr)} {vs:List Expr} {tk tv:TE} {trs:List (TE×TE)} (hk:PE X k tk) (hv:PE X v tv) (hr:PPs X pos ks vs trs) :
  PPs X pos (some k::ks) (v::vs) ((tk,tv)::trs):=fun pins s σ H Q I h=>
 pairTrees_cons_walk (thn (hk pins s σ H _ I h) fun u s1 ⟨x,H1,I1,rx,q1⟩=>thn (hv pins s1 σ H1 _ I1 q1) fun w2 s2 ⟨y,H2,I2,ry,q2⟩=>
  thn (hr pins s2 σ H2 _ I2 q2) fun ws s3 ⟨ps,H3,I3,rel,q3⟩=>⟨(x,y)::ps,H3,I3,.cons ⟨rx,ry⟩ rel,q3⟩)
noncomputable def ZdU (kvs more:List (Key×V)):List (Key×V):=more.foldl (fun acc kv=>putK acc kv.1 kv.2) kvs
theorem KV.merge:∀{more:List (Key×V)} {rs:List (Key×Value)} {kvs:List (Key×V)} {vs:List (Key×Value)},KV more rs→KV kvs vs→KV (ZdU kvs more) (merged vs rs):=by
 intro more rs kvs vs r
 unfold KV at r
 induction r generalizing kvs vs with
 | nil=>intro q;exact q
 | @cons p q ps qs h t ih=>
  intro r0
  have e:KV (putK kvs p.1 p.2) (stored vs q.1 q.2):=by
   have:=r0.put p.1 h.2
   rw [←h.1];exact this
  exact ih e
theorem ZfA:∀(more kvs:List (Key×V)),(ZdU kvs more).length≤kvs.length+more.length
 | [],kvs=>by show kvs.length≤kvs.length+0;omega
 | p::r,kvs=>by
  have h1:=ZfA r (putK kvs p.1 p.2)
  have h2:=Zce kvs p.1 p.2
  show (ZdU (putK kvs p.1 p.2) r).length≤_
  rw [List.length_cons];omega
theorem ZhQ {P:Program} {w:World}:∀{kvs:List (Key×V)} {ws:List (Value×Value)},VV (kvs.map fun kv=>(kV kv.1,kv.2)) ws→∃rs,Carries (Zbe P w) ws rs∧KV kvs rs
 | [],_,r=>by rw [List.map_nil] at r;cases r;exact ⟨[],True.intro,.nil⟩
 | p::kvs,_,r=>by
  rw [List.map_cons] at r
  cases r with
  | @cons a b as bs h t=>
   obtain ⟨rs,c,q⟩:=ZhQ (P:=P) (w:=w) t
   obtain ⟨b1,b2⟩:=b
   exact ⟨(p.1,b2)::rs,⟨ZeD h.1,rfl,c⟩,.cons ⟨rfl,h.2⟩ q⟩
noncomputable def Zpq (trs:List (TE×TE)):TE:=fun σ H Q=>∀p,H p=none→Zjo trs σ (upd H p (.dK [])) fun ps H2=>H2 p=some (.dK [])∧∃kvs:List (Key×V),ps=kvs.map (fun kv=>(kV kv.1,kv.2))∧kvs.length≤15∧Q (.ref p) (upd H2 p (.dK (ZdU [] kvs)))
theorem Zqa {X:Cx} {pos:Pos} {keys:List (Option Expr)} {values:List Expr} {trs:List (TE×TE)} (h:PPs X pos keys values trs) (hall:keys.all (·.isSome)=true) (hl:keys.length=values.length) (h0:keys≠[])
  (h15:keys.length≤15):PE X (.Dict keys values pos) (Zpq trs):=by
 intro pins s σ H Q I q
 have hn:=I.hok.fresh (Nat.le_refl s.heap.objs.size)
 have I1:=I.laid (a:=s.heap.objs.size) (o:=.dK []) (h':=s.heap.push { cls:=.type "dict",data:=.dict #[] }) (t':=s.toks) (fun _ _ q=>Heap.get?_push_of_some _ q) (Nat.le_refl _) (Zg3 s.heap I.big)
 refine wpAny_Dict_walk (knd:=Zbe X.prog X.w) hall hl h0 h15 (thn (h pins _ σ _ _ I1 (q _ hn)) fun ws s2 ⟨ps,H2,I2,rel,e,kvs,ep,lk,q2⟩=>?_)
 subst ep
 obtain ⟨rs,c,rk⟩:=ZhQ (P:=X.prog) (w:=X.w) rel
 obtain ⟨z,hd,vs0,r0,dd⟩:=Zmr I2.hok e
 cases r0
 refine ⟨rs,c,dd,fun h' dd' hs=>⟨.ref s.heap.objs.size,_,?_,rfl,q2⟩⟩
 have hz:(ZdU [] kvs).length≤sizeLine:=by
  have h1:=ZfA kvs []
  rw [List.length_nil] at h1
  rw [sizeLine_eq];omega
 have he:∃q,h'.get? s.heap.objs.size=some q:=let ⟨q,_,_,hq,_⟩:=dd';⟨q,hq⟩
 exact Ze6 I2 (by rw [e];exact True.intro) hs he (Zkk hz hd (rk.merge .nil) dd')
structure M2 (X:Cx) (o:Expr) (m:Str) (apos:Pos) (e f:Expr) (cpos:Pos):Prop where
 base:attributeBase o m X.env (eval o X.env)=eval o X.env
 few:((backTo cpos (starEach [e,f] X.env)).all (fun x=>!x.1)&&(backToKw cpos (keywordEach [] X.env)).all (fun x=>x.1.isSome)
  && decide (([e,f]:List Expr).length+([]:List Keyword).length+(if ([]:List Keyword).isEmpty then 0 else 1)<30))=true
 line:(apos.endLine==cpos.line)=true
 trees:backTo cpos (starEach [e,f] X.env)=[(false,eval e X.env),(false,eval f X.env)]
noncomputable def IsD (H:Hp) (a:Addr):Prop:=(∃kvs,Rd H a (.dK kvs))∨∃kvs,Rd H a (.dT kvs)
theorem ZnH {X:Cx} {pins:List (Addr×Obj)} {σ:St} {H:Hp} {s:Shared} {a:Addr} (I:Inv X pins σ H s) (d:IsD H a) :
  s.TypeIs (.ref a) "dict"∧(∀b,Value.ref a=.ref b→∃ob,s.heap.get? b=some ob∧ob.dict=none)∧(a==sysModules)=false:=by
 rcases d with ⟨kvs,e⟩ | ⟨kvs,e⟩
 ·obtain ⟨_,hd,vs,_,dd⟩:=Zd6 I.hok e
  refine ⟨dd.typeIs,fun b q=>?_,hd⟩
  cases q
  obtain ⟨ob,_,_,h1,h2,_⟩:=dd
  exact ⟨ob,h1,h2.2.1⟩
 ·obtain ⟨_,hd,xs,_,dd⟩:=Zfr I.hok e
  refine ⟨dd.typeIs,fun b q=>?_,hd⟩
  cases q
  obtain ⟨ob,_,_,h1,h2,_⟩:=dd
  exact ⟨ob,h1,h2.2.1⟩
section
variable {X:Cx} {pins:List (Addr×Obj)} {σ:St} {H:Hp} {s:Shared} {a:Addr} {y d:V} {u r:Value} {o:Option V} {A:Around} {E:Value→Shared→Prop}
theorem Zr0 {Q:Value→Shared→Prop} (hu:A.units+1<cLine) (I:Inv X pins σ H s) (g:DGet H a y o) (ry:RelV y u) (rd:RelV d r) (h:∀w' s',Inv X pins σ H s'→RelV (o.getD d) w'→Q w' s') :
  wpAny (model X.prog X.w) A (call (.builtin "dict.get") [.ref a,u,r]) Q E s:=by
 rcases g with ⟨kvs,k,e,ey,l⟩ | ⟨kvs,k,b,e,ey,eb,l⟩
 ·subst ey
  obtain ⟨z,hd,vs,rel,dd⟩:=Zd6 I.hok e
  refine call_meetsIn PySem.F.slot_dict_get dd.typeIs PySem.F.entry_dict_get (PySem.F.args_dict_get_3 _ _ _) (meets_dict_get_default (Zbe X.prog X.w) a (ZeD ry) hd r) ⟨_,dd.mapOf,h _ _ (I.tok _) ?_⟩
  rw [l]
  exact (rel.val k).getD rd
 ·subst ey
  cases (show u=Value.ref b from ry)
  obtain ⟨z,hd,xs,rel,dd⟩:=Zfr I.hok e
  refine call_meetsIn PySem.F.slot_dict_get dd.typeIs PySem.F.entry_dict_get (PySem.F.args_dict_get_3 _ _ _) (meetsH_dict_get_default (tupleKind (Zbe X.prog X.w)) a b hd r) ⟨tupleKind_room_in1 hu,k,xs,Zeq I.hok eb,dd,h _ _ (I.tok _) ?_⟩
  rw [l]
  exact (rel.val k).getD rd
end
noncomputable def Zq4 (td ty tx:TE):TE:=fun σ H Q=>td σ H fun x H1=>∃a,x=.ref a∧IsD H1 a∧ty σ H1 fun y H2=>tx σ H2 fun z H3=>∃o,DGet H3 a y o∧Q (o.getD z) H3
section
variable {X:Cx} {o e f:Expr} {apos cpos:Pos} {td ty tx:TE}
theorem Zoz (hu:X.A.units+1<cLine) (ho:PE X o td) (he:PE X e ty) (hf:PE X f tx) (m:M2 X o "get" apos e f cpos):PE X (.Call (.Attribute o "get" apos) [e,f] [] cpos) (Zq4 td ty tx):=by
 intro pins s σ H Q I h
 refine wpAny_Call_method m.base m.few m.line PySem.F.plainAttrs_dict PySem.F.slot_dict_get PySem.F.type_dict_get (thn (ho pins s σ H _ I h) fun u s1 ⟨x,H1,I1,rx,a,ex,d,q1⟩=>?_)
 subst ex
 obtain rfl:u=Value.ref a:=rx
 obtain ⟨t1,t2,_⟩:=ZnH I1 d
 refine ⟨t1,t2,?_⟩
 rw [m.trees]
 refine Calls.callWith_builtin rfl (Calls.evalArgs_plain (Calls.spliced_cons (thn (he pins s1 σ H1 _ I1 q1) fun iv s2 ⟨y,H2,I2,ry,q2⟩=>
  Calls.spliced_cons (thn (hf pins s2 σ H2 _ I2 q2) fun fv s3 ⟨z,H3,I3,rz,ov,g,q3⟩=>Calls.spliced_nil ?_))))
 exact Zr0 hu I3 g ry rz fun w' s4 I4 rw'=>⟨_,H3,I4,rw',q3⟩
end
section
variable {X:Cx} {pins:List (Addr×Obj)} {σ:St} {H:Hp} {s:Shared} {a:Addr} {kvs:List (Key×V)} {A:Around} {E:Value→Shared→Prop}
end
section
variable {X:Cx} {pins:List (Addr×Obj)} {σ:St} {H:Hp} {s:Shared} {a:Addr} {y:V} {u:Value} {A:Around} {E:Value→Shared→Prop}
end
end L2
namespace Att
open PySem PySem.W PySem.Calls PyProof.Rows
theorem Zhy {P:Params} {h:Heap}:∀(ns:List Int) (vs:List Value),WellAll P h vs (ns.map WData.int)→IntsAre vs ns:=by
 intro ns
 induction ns with
 | nil=>
  intro vs w
  rw [List.map_nil] at w
  cases w
  exact .nil
 | cons n ns ih=>
  intro vs w
  rw [List.map_cons] at w
  cases w with
  | cons a b=>
   cases a
   exact .cons _ _ (ih _ b)
theorem ZmW {l:OpenLaw} {n:Nat} (hn:l.most=some n) {P:Params} {h:Heap} {args:List WData} {vals:List Value}
  (hpre:l.row.toRowW.claim.pre args=true) (hwl:WellAll P h vals args) :
  ∃a vs ns,vals=[Value.ref a]∧args=[WData.list (ns.map WData.int)]∧h.get? a=some { cls:=.type "list",data:=.seq vs.toArray }∧IntsAre vs ns∧ns.length≤n:=by
 have hsh:WShape.hasAll [] args [.list .int]=true:=(pre_splitW hpre).1
 have hc:l.pre.holds [] { args:=args }=true:=(pre_splitW hpre).2
 obtain ⟨d,r,rfl,h1,h2⟩:=hasAllW_cons hsh
 obtain rfl:=hasAllW_nil h2
 obtain ⟨xs,rfl,h3⟩:=hasW_list h1
 obtain ⟨ns,rfl⟩:=items_int h3
 have hlen:ns.length≤n:=by
  unfold OpenLaw.pre at hc
  have h4:(WTm.not (.lt (.lit (.int (n:Int))) (.len (.arg 0)))).holds [] { args:=[.list (ns.map .int)] }=true:=by
   have h4:=(holds_andW hc).1
   rw [hn] at h4
   exact h4
  have h5:=condW_of h4 (w_not (w_lt w_lit (w_len_list (w_arg rfl))))
  rw [List.length_map] at h5
  refine Nat.le_of_not_lt fun q=>?_
  have q':(n:Int)<((ns.length:Nat):Int):=by omega
  first
   | (rw [decide_eq_true q'] at h5;exact absurd h5 (by decide))
   | (simp at h5;omega)
 cases hwl with
 | cons w1 w2=>
  cases w2
  cases w1 with
  | list ho hall=>exact ⟨_,_,ns,rfl,rfl,ho,Zhy ns _ hall,hlen⟩
theorem Zm7 (l:OpenLaw) (args:List WData):l.row.toRowW.claim.post args (.bool true) args=true:=
 postW_of (r:=l.row.toRowW) (X:=(true==true))
  (show WShape.has [] (.bool true) .bool=true by first | rfl | decide | simp [WShape.has,WShape.arms,WShape.armsAll])
  (show (WTm.eq .res (.lit (.bool true))).value [] { args:=args,res:=some (.bool true),after:=args }=some (.bool (true==true)) from w_eq_bool (w_res rfl) w_lit) rfl
theorem attach_call {l:OpenLaw} {n:Nat} {q:Program} {loose:List Str} {XP:(Str→Option Value)→Heap→Prop} {YP:World→Heap→Prop} {d:DefRec}
  (hn:l.most=some n) (hdf:d.params.defaults=[])
  (call:∀(w:World) (s₀ s₁:Shared) (mg mb:Str→Option Value) (fa:Addr) (o:Obj) (pm cd doc:Value) (a:Addr) (vs:List Value) (ns:List Int),
   Ground q loose [] XP w s₀ mg mb s₁.heap→YP w s₁.heap→
   s₁.heap.get? fa=some o→o.data=.func (docDef d.name d.params d.body d.scope pm cd doc)→s₁.heap.CodeRec cd d.name→mg d.name=some (.ref fa)→
   s₁.heap.get? a=some { cls:=.type "list",data:=.seq vs.toArray }→IntsAre vs ns→ns.length≤n→s₁.gens = #[]→
   codeAny (model l.prog w) callerA (.call (.ref fa) ⟨[.ref a],[]⟩) (fun r s'=>r=.ok (.ret (.bool true))∧OldK s₁.heap s'.heap∧s'.os=s₁.os∧AllBare s'.gens) s₁) :
  WalkO q loose XP YP l.row.toRowW d [] (fun f vs=>PySem.call f vs):=by
 intro w s₀ s₁ mg mb G Y fa o pm cd doc dV kV ho hd hcd hD hmg hg args vals as hpre hlay hrd hwl hlo
 obtain rfl:dV=.none:=Dflts.none hD hdf
 obtain rfl:kV=.none:=Dflts.noKw hD
 obtain ⟨a,vs,ns,rfl,rfl,hobj,hints,hlen⟩:=ZmW hn hpre hwl
 refine enter_call (codeAny_mono (call w s₀ s₁ mg mb fa o pm cd doc a vs ns G Y ho (fd_plain hd) hcd hmg hobj hints hlen hg) fun r s' hq=>?_)
 obtain ⟨rfl,h2,h3,h4⟩:=hq
 exact ⟨.inl ⟨.bool true,.bool true,[],rfl,fun _=>rfl,.bool true,Zm7 l _,fun _=>⟨List.Pairwise.nil,fun _ hm=>(nomatch hm)⟩⟩,h2,h3,h4⟩
section
variable {prog:Program} {w:World} {A:Around} {E:Value→Shared→Prop} {s:Shared} {K:Frag}
end
end Att
namespace L2
open PySem PySem.Spec PyProof.Rows
theorem Zij:∀{vs:List Value} {ns:List Int},IntsAre vs ns→Vals (ns.map V.int) vs
 | _,_,.nil=>.nil
 | _,_,.cons n t h=>.cons ⟨t,rfl⟩ (Zij h)
end L2
namespace L2
open PySem PySem.Spec PyProof.Rows
end L2
namespace L2
open PySem PySem.Spec PyProof.Rows
noncomputable def Zcu (s:Stmt):Arguments:=match s with
 | .FunctionDef _ a _ _ _ _ _ _ _ _=>a
 | _=>{ posonlyargs:=[],args:=[],vararg:=none,kwonlyargs:=[],kw_defaults:=[],kwarg:=none,defaults:=[] }
noncomputable def Zb5 (s:Stmt):List Stmt:=match s with
 | .FunctionDef _ _ b _ _ _ _ _ _ _=>b
 | _=>[]
noncomputable def Zak (s:Stmt):Scope:=match s with
 | .FunctionDef _ _ _ _ _ _ sc _ _ _=>sc
 | _=>{ kind:=.function,names:=[],isGenerator:=false,isCoroutine:=false }
noncomputable abbrev CX0:CXT:=fun _ _ _ _ _ _=>False
noncomputable abbrev E0:XK:=fun _ _ _=>False
theorem Zja {X:Cx}:ZhU CX0 X E0:=fun _ _ _ _ _ _ _ h=>h.elim
structure Fun (K:PySem.W.Frag) (x qual:Str) (st:Stmt) (f:Addr) (fd:FuncData):Prop where
 ex:∃(oc:Value) (od:Option Addr) (kV doc pm:Value) (an:Option Addr) (cdv ct:Value) (osl:Array (Option Value)),
  fd=PySem.W.fnOf x qual (Zcu st) (Zb5 st) (Zak st) .none kV doc pm an cdv ct∧K.lookup f=some ⟨oc,od,.func fd,osl⟩∧PySem.W.codeIn K cdv qual=true
 kp:PySem.W.keepIn K (.ref f)=true
section
variable {P:Program} {w:World} {K:PySem.W.Frag} {mg:Str→Option Value} {base:Heap}
theorem Fun.ok {x qual:Str} {st:Stmt} {f:Addr} {fd:FuncData} {N ps:List Str} {k:Nat} {sp:Sp} (F:Fun K x qual st f fd) (S:FnScope N ps (Zak st)) (len:∀vs H Q E,sp vs H Q E→vs.length=ps.length)
  (hbody:∀(cdv:Value) (A:Around) (outer:List Env) (s:Shared) (H:Hp) (vs:List V) (Q:VK) (E:XK),Room k (A.deeper (envOfC qual (Zak st) s.heap.objs.size f cdv))→sp vs H Q E→
   ∃t,PSs (cxOf CX0 P w K mg base N qual (Zak st) f cdv A outer s H E).nox (Zb5 st) t∧t { nx:=fun _ H'=>Q .non H',rt:=Q } (start N vs) H):FnOk P w K mg base CX0 (k+1) f fd ps sp:=by
 obtain ⟨oc,od,kV,doc,pm,an,cdv,ct,osl,rfl,lk,hcd⟩:=F.ex
 refine ZpG lk hcd S len fun A outer s H vs Q E hr hsp=>?_
 obtain ⟨t,h,q⟩:=hbody cdv A outer s H vs Q E hr hsp
 exact ⟨t,h.nox,q⟩
theorem Fun.binds {x qual:Str} {st:Stmt} {f:Addr} {fd:FuncData} {ps:List Str} (F:Fun K x qual st f fd)
  (h:∀(kV doc pm:Value) (an:Option Addr) (cdv ct:Value) (us:List Value),us.length=ps.length→bindArgs (PySem.W.fnOf x qual (Zcu st) (Zb5 st) (Zak st) .none kV doc pm an cdv ct) ⟨us,[]⟩=pure (ps.zip us)):ZcE K fd ps []:=by
 obtain ⟨oc,od,kV,doc,pm,an,cdv,ct,osl,rfl,lk,hcd⟩:=F.ex
 exact .all (h kV doc pm an cdv ct)
theorem ZrW {x qual:Str} {st:Stmt} {f:Addr} {oc:Value} {od an:Option Addr} {osl:Array (Option Value)} {kV doc pm cdv ct:Value} (l:K.lookup f=some ⟨oc,od,.func (PySem.W.fnOf x qual (Zcu st) (Zb5 st) (Zak st) .none kV doc pm an cdv ct),osl⟩)
  (c:PySem.W.codeIn K cdv qual=true) (k:PySem.W.keepIn K (.ref f)=true):Fun K x qual st f (PySem.W.fnOf x qual (Zcu st) (Zb5 st) (Zak st) .none kV doc pm an cdv ct):=⟨⟨oc,od,kV,doc,pm,an,cdv,ct,osl,rfl,l,c⟩,k⟩
end
theorem hu_of {A:Around} {k:Nat} (hr:Room k A):A.units+1<cLine:=Nat.lt_of_le_of_lt (Nat.add_le_add_left (by decide:1≤64) _) hr.units
section
variable {X:Cx}
theorem pv (i:Nat) {x:Str} {pos:Pos} (hN:X.N[i]?=some x:=by rfl) (hv:Vis X.env.scope x:=by first | exact Or.inl rfl | exact Or.inr (Or.inl rfl) | exact Or.inr (Or.inr rfl)) (hd:(x==("__debug__" : Str))=false:=by decide)
  (hcd:(x==("__classdict__" : Str))=false:=by decide):PE X (.Name x pos) (tVar i):=Zrh hN hv hd hcd
end
theorem iteF {A B:Prop} (h:B):if false=true then A else B:=by
 rw [if_neg Bool.false_ne_true]
 exact h
theorem iteT {A B:Prop} (h:A):if true=true then A else B:=by
 rw [if_pos rfl]
 exact h
section
variable {X:Cx}
end
section
variable {κ:Type} [DecidableEq κ]
end
end L2
namespace L2
open PySem PySem.Spec PyProof.Rows
theorem Zk2 {prog:Program} {w:World} {A:Around} {R:Result→Shared→Prop} {s:Shared} {elt target iter:Expr} {ifs:List Expr} {scope:Scope} {pos:Pos} {it acc:Value} {env:Env} (I:Nat→Shared→Prop)
  (turn:∀n s,I n s→wpAny (model prog w) A (pyNext it) (fun r s₁=>match r with
   | none=>R (.ok .next) s₁
   | some v=>wpAny (model prog w) A (letOwnedTupleGo target it v) (fun _ s₁'=>wpAny (model prog w) A (assign target env v) (fun _ s₂=>
     wpAny (model prog w) A (forIn ifs true fun c r=>if r=true then do let ok←isTrue c env (eval c env);pure (ForInStep.yield ok) else pure (ForInStep.yield r)) (fun ok s₃=>
      if ok=true then wpAny (model prog w) A (eval elt env) (fun x s₄=>
       wpAny (model prog w) A (call (.builtin "list.append") [acc,x]) (fun _ s₅=>∃m,m<n∧I m s₅) (notedBy (model prog w) A env fun e s'=>R (.error e) s') s₄) (notedBy (model prog w) A env fun e s'=>R (.error e) s') s₃
      else ∃m,m<n∧I m s₃) (notedBy (model prog w) A env fun e s'=>R (.error e) s') s₂) (notedBy (model prog w) A env fun e s'=>R (.error e) s') s₁') (notedBy (model prog w) A env fun e s'=>R (.error e) s') s₁) (notedBy (model prog w) A env fun e s'=>R (.error e) s') s)
  (n:Nat) (h:I n s) :
  codeAny (model prog w) A (.compLoop (.ListComp elt [⟨target,iter,ifs,0⟩] scope pos) 0 it acc env) R s:=by
 refine codeAny_loop rfl I (fun n s hI=>?_) n h
 show wpAny _ A ((compTurn (.ListComp elt [⟨target,iter,ifs,0⟩] scope pos) 0 it acc env).onRaise (fun x=>do noteFrame x env;theTreesLotGoes x)) _ _ s
 refine wpAny_noted ?_
 rw [compTurn_list]
 refine wpAny_bind (wpAny_standAt (wpAny_bind (wpAny_mono (turn n s hI) (fun r s₁ h₁=>?_) fun _ _ h'=>h')))
 cases r with
 | none=>exact wpAny_pure h₁
 | some v=>
  refine wpAny_bind (wpAny_mono h₁ (fun _ s₁' h₁'=>?_) fun _ _ h'=>h')
  refine wpAny_bind (wpAny_mono h₁' (fun _ s₂ h₂=>wpAny_bind (wpAny_mono h₂ (fun ok s₃ h₃=>?_) fun _ _ h'=>h')) fun _ _ h'=>h')
  cases ok with
  | false=>exact wpAny_pure ⟨rfl,h₃⟩
  | true=>
   exact wpAny_bind (wpAny_bind (wpAny_mono h₃ (fun x s₄ h₄=>wpAny_bind (wpAny_mono h₄ (fun _ s₅ h₅=>wpAny_pure (wpAny_pure ⟨rfl,h₅⟩)) fun _ _ h'=>h')) fun _ _ h'=>h'))
noncomputable def blk (X:Cx) (pins:List (Addr×Obj)) (N':List Str) (scope:Scope) (cl:List (Str×Addr)) (C:Addr) (s:Shared) (H:Hp) (fp:List Addr):Cx where
 prog:=X.prog
 w:=X.w
 K:=X.K
 mg:=X.mg
 base:=X.base
 A:=X.A
 N:=N'
 s₀:=s
 H₀:=H
 env:=compEnvC scope cl C X.env
 outer:=X.stack
 stack:=X.stack
 ex:=fp
 fn:=fun _=>false
 calm:=X.calm
 pn:=X.pn++pins
 xe:=fun _ _=>False
noncomputable def PIfs (X:Cx) (ifs:List Expr) (t:TT):Prop:=
 ∀(pins:List (Addr×Obj)) (s:Shared) (σ:St) (H:Hp) (Q:Bool→Hp→Prop),Inv X pins σ H s→t σ H Q→
  wpAny (model X.prog X.w) X.A (forIn ifs true fun c r=>if r=true then do let ok←isTrue c X.env (eval c X.env);pure (ForInStep.yield ok) else pure (ForInStep.yield r)) (TP X pins σ Q) X.xe s
noncomputable def Zi6:TT:=fun _ H Q=>Q true H
theorem ZjB {X:Cx}:PIfs X [] Zi6:=fun _ _ _ H _ I h=>wpAny_pure ⟨H,I,h⟩
theorem ZjA {X:Cx} {c:Expr} {t:TT} (h:PT X c t):PIfs X [c] t:=fun pins s σ H Q I hq=>wpAny_tests_one (h pins s σ H Q I hq)
structure BlkOk (X:Cx) (N':List Str) (src:List (Option Nat)) (scope:Scope) (cl:List (Str×Addr)):Prop where
 clos:closureFor scope X.env=pure cl
 nocell:∀y∈scope.names,y.2≠.cell
 kind:scope.kind=.function
 names:∀y∈scope.names,y.2=.local→scope.names.lookup y.1=some .local
 len:src.length=N'.length
 cells:∀x c,cl.lookup x=some c→X.env.cells.lookup x=some c
 has:∀x,((relabel scope X.env).names.lookup x=some .cell∨(relabel scope X.env).names.lookup x=some .free)→∃c,cl.lookup x=some c
 from_:∀(i j:Nat) x,src[i]?=some (some j)→N'[i]?=some x→X.N[j]?=some x∧(X.env.kindOf x=some .cell∨X.env.kindOf x=some .free)∧((relabel scope X.env).names.lookup x=some .cell∨(relabel scope X.env).names.lookup x=some .free)
noncomputable def ZdN (src:List (Option Nat)) (σ:St):St:=src.map fun o=>o.bind fun j=>(σ[j]?).bind id
theorem ZqW {X:Cx} {pins:List (Addr×Obj)} {σ:St} {H:Hp} {s s1:Shared} {N':List Str} {src:List (Option Nat)} {scope:Scope} {cl:List (Str×Addr)} {C:Addr} {fp:List Addr} {m:Str→Option Value}
  (B:BlkOk X N' src scope cl) (I:Inv X pins σ H s) (hf:∀b∈fp,FpOk X pins H b) (hC:s.heap.objs.size≤C) (hCf:∀b∈fp,b≠C)
  (hs:s1.os=s.os) (hg:s1.gens=s.gens) (hk:∀b o,s.heap.get? b=some o→s1.heap.get? b=some o) (hn:s1.heap.Ns C m):Inv (blk X pins N' scope cl C s H fp) [] (ZdN src σ) H s1:=by
 have noC:∀b o,s.heap.get? b=some o→b≠C:=fun b o e=>Nat.ne_of_lt (Nat.lt_of_lt_of_le (Heap.lt_size e) hC)
 refine ⟨⟨I.ok.mod,B.kind,I.ok.glob,I.ok.blt,hC,fun x y c h1 h2=>I.ok.inj x y c (B.cells _ _ h1) (B.cells _ _ h2),fun x hx=>B.has x hx,fun x c hf _=>(by cases hf),I.ok.hd,I.ok.frames,.inl rfl,fun b hb=>?_,I.bs,Nat.le_trans I.ok.bsz I.sz,fun b o e hb=>?_,fun b hb z=>?_,I.stack,I.stkFree⟩,
  hs,by rw [hg];exact I.bare,Un.kept hk,⟨m,hn,fun i x v h1 h2 h3=>?_⟩,fun x c e=>?_,I.hok.fresh hC,fun x c e=>I.freeC x c (B.cells _ _ e),fun p hp=>?_,I.hok.kept hk,?_⟩
 ·obtain ⟨f0,f1,f2,f3,f4,f5⟩:=hf b hb
  exact ⟨hCf b hb,fun x c e=>f4 x c (B.cells _ _ e)⟩
 ·obtain ⟨f0,f1,f2,f3,f4,f5⟩:=hf b hb
  rcases f3 with z | z
  ·exact I.ok.noex b o e z
  ·exact absurd (Nat.lt_of_lt_of_le (Heap.lt_size (I.ok.bs b o e).1) z) (Nat.lt_irrefl _)
 ·obtain ⟨f0,f1,f2,f3,f4,f5⟩:=hf b hb
  rcases List.mem_cons.mp (I.stkSub b z) with e | e
  ·exact f1 e
  ·exact f2 e
 ·have h2':(ZdN src σ)[i]?=some (some v):=h2
  unfold ZdN at h2'
  rw [List.getElem?_map] at h2'
  cases e:src[i]? with
  | none=>rw [e] at h2';cases h2'
  | some o=>
   rw [e] at h2'
   cases o with
   | none=>simp at h2'
   | some j=>
    obtain ⟨q1,q2,q3⟩:=B.from_ i j x e h1
    have hj:σ[j]?=some (some v):=by
     simp only [Option.map_some,Option.bind_some,Option.some.injEq] at h2'
     cases e2:σ[j]? with
     | none=>rw [e2] at h2';cases h2'
     | some o2=>rw [e2] at h2';simp at h2';rw [h2']
    obtain ⟨mm,hnn,hl⟩:=I.loc
    have vis:Vis X.env.scope x:=by
     rcases q2 with z | z
     ·exact .inr (.inl z)
     ·exact .inr (.inr z)
    obtain ⟨u,r,l⟩:=hl j x v q1 hj vis
    refine ⟨u,r,?_⟩
    rcases l with ⟨k,_⟩ | ⟨_,c,ec,z⟩
    ·rcases q2 with z | z <;> rw [z] at k <;> cases k
    ·obtain ⟨c',ec'⟩:=B.has x q3
     have ee:c'=c:=by
      have:=B.cells _ _ ec'
      rw [ec] at this
      exact (Option.some.inj this).symm
     subst ee
     obtain ⟨o,ho,hd⟩:=z
     exact .inr ⟨q3,c',ec',o,hk _ _ ho,hd⟩
 ·obtain ⟨v,o,ho,hd⟩:=I.cell x c (B.cells _ _ e)
  exact ⟨v,o,hk _ _ ho,hd⟩
 ·have hp':p∈X.pn++pins:=by simpa [blk] using hp
  obtain ⟨e,n,ne,nf,d⟩:=I.pin p hp'
  refine ⟨hk _ _ e,n,noC _ _ e,fun z=>?_,d⟩
  rcases List.mem_cons.mp (I.stkSub p.1 z) with q | q
  ·exact ne q
  ·exact nf q
 ·show (ZdN src σ).length=N'.length
  unfold ZdN
  rw [List.length_map,B.len]
noncomputable def Zgj (src:List (Option Nat)) (wi:TI) (g:TG) (tt:TT) (te:TE):TE:=fun σ H Q=>wi σ H fun J H1=>∀p,H1 p=none→
 ∃W:Nat→Nat→St→Hp→Prop,(∃m,W 0 m (ZdN src σ) (upd H1 p (.lst [])))∧∀i m σ2 H2,W i m σ2 H2→
  (J.stop i H2∧Q (.ref p) H2)∨(J.go i H2∧∀x H3,J.yld i H2 x H3→g x σ2 H3 fun σ4 H4=>tt σ4 H4 fun ok H5=>
   if ok=true then te σ4 H5 fun y H6=>∃xs,H6 p=some (.lst xs)∧xs.length<sizeLine∧∃m',m'<m∧W (i+1) m' σ4 (upd H6 p (.lst (xs ++ [y])))
   else ∃m',m'<m∧W (i+1) m' σ4 H5)
theorem ZiK {X:Cx} {elt tg iter:Expr} {ifs:List Expr} {scope:Scope} {pos:Pos} {N':List Str} {src:List (Option Nat)} {cl:List (Str×Addr)} {g:TG} {tt:TT} {te:TE}
  {pins:List (Addr×Obj)} {σ:St} {H2:Hp} {s₂:Shared} {it:Addr} {fp:List Addr} {tn:Nat→Heap→Prop} {J:It} {Qp:Addr→Hp→Prop} {RR:Value→Addr→Result→Shared→Prop} {E:Value→Shared→Prop}
  (hc:X.calm=true) (B:BlkOk X N' src scope cl)
  (hg:∀pins C s H fp,PG (blk X pins N' scope cl C s H fp) tg g) (ht:∀pins C s H fp,PIfs (blk X pins N' scope cl C s H fp) ifs tt) (he:∀pins C s H fp,PE (blk X pins N' scope cl C s H fp) elt te)
  (I2:Inv X pins σ H2 s₂) (T:Turn X.prog X.w X.K tg J fp it tn) (st2:tn 0 s₂.heap) (f2:∀b∈fp,FpOk X pins H2 b)
  (q2:∀p,H2 p=none→∃W:Nat→Nat→St→Hp→Prop,(∃m,W 0 m (ZdN src σ) (upd H2 p (.lst [])))∧∀i m σ2 H2,W i m σ2 H2→
   (J.stop i H2∧Qp p H2)∨(J.go i H2∧∀x H3,J.yld i H2 x H3→g x σ2 H3 fun σ4 H4=>tt σ4 H4 fun ok H5=>
    if ok=true then te σ4 H5 fun y H6=>∃xs,H6 p=some (.lst xs)∧xs.length<sizeLine∧∃m',m'<m∧W (i+1) m' σ4 (upd H6 p (.lst (xs ++ [y])))
    else ∃m',m'<m∧W (i+1) m' σ4 H5))
  (hfin:∀p C s6 H5 mm,Inv X pins σ H5 s6→s6.heap.Ns C mm→FpOk X pins H5 C→Qp p H5→RR (.ref p) C (.ok .next) s6) :
  wpAny (model X.prog X.w) X.A (newList []) (fun acc s₃=>wpAny (model X.prog X.w) X.A (newFunctionEnv scope X.env.globals cl [] X.env.qual none .none (some X.env)) (fun cenv s₄=>
   codeAny (model X.prog X.w) X.A (.compStart (.ListComp elt [⟨tg,iter,ifs,0⟩] scope pos) 0 (.ref it) acc { cenv with scope:=relabel scope X.env }) (RR acc cenv.locals) s₄) E s₃) E s₂:=by
 have fpold:∀b∈fp,b<s₂.heap.objs.size:=fun b hb=>by
  obtain ⟨o,e,_⟩:=T.obj _ _ st2 b hb
  exact Heap.lt_size e
 have q2:=q2 s₂.heap.objs.size (I2.hok.fresh (Nat.le_refl _))
 obtain ⟨W,⟨m0,w0⟩,turn⟩:=q2
 -- the new list
 refine wpAny_newObj_type ?_
 have I3:Inv X pins σ (upd H2 s₂.heap.objs.size (.lst [])) { s₂ with heap:=s₂.heap.push { cls:=.type "list",dict:=none,data:=.seq ([]:List Value).toArray } }:=
  I2.lnew (t':=s₂.toks) (ys:=[]) .nil (Nat.zero_le _)
 have st3:tn 0 (s₂.heap.push { cls:=.type "list",dict:=none,data:=.seq ([]:List Value).toArray }):=T.keep _ _ _ st2 fun b _ o e=>Heap.get?_push_of_some _ e
 have f3:∀b∈fp,FpOk X pins (upd H2 s₂.heap.objs.size (.lst [])) b:=fun b hb=>by
  obtain ⟨f0,f1⟩:=f2 b hb
  exact ⟨by rw [Zaj (Nat.ne_of_lt (fpold b hb))];exact f0,f1⟩
 generalize hs3:({ s₂ with heap:=s₂.heap.push { cls:=.type "list",dict:=none,data:=.seq ([]:List Value).toArray } }:Shared)=s₃ at I3
 have st3':tn 0 s₃.heap:=by rw [←hs3];exact st3
 have lt3:s₂.heap.objs.size<s₃.heap.objs.size:=by rw [←hs3];show _<(Heap.push _ _).objs.size;rw [Heap.size_push];exact Nat.lt_succ_self _
 refine wpAny_newFunctionEnv B.nocell (by intro y hy;simp at hy) (fun h₁ hns₁ hsb₁=>?_) B.kind
 have kp1:∀b o,s₃.heap.get? b=some o→h₁.get? b=some o:=fun b o e=>hsb₁.extBut b o (Nat.ne_of_lt (Heap.lt_size e)) (Heap.get?_push_of_some _ e)
 have I4:=ZqW (s1:={ s₃ with heap:=h₁,toks:=s₃.toks+([]:List (Str×Value)).length }) (C:=s₃.heap.objs.size) B I3 f3 (Nat.le_refl _) (fun b hb=>Nat.ne_of_lt (Nat.lt_trans (fpold b hb) lt3)) rfl rfl kp1 hns₁
 have st4:tn 0 h₁:=T.keep _ _ _ st3' fun b _ o e=>kp1 b o e
 show codeAny (model X.prog X.w) X.A (.compStart (.ListComp elt [⟨tg,iter,ifs,0⟩] scope pos) 0 (.ref it) (.ref s₂.heap.objs.size) (compEnvC scope cl s₃.heap.objs.size X.env)) (RR (.ref s₂.heap.objs.size) s₃.heap.objs.size) _
 generalize hs4:({ s₃ with heap:=h₁,toks:=s₃.toks+([]:List (Str×Value)).length }:Shared)=s₄ at I4
 have st4':tn 0 s₄.heap:=by rw [←hs4];exact st4
 have blkX:∀{b:Addr} {H':Hp},b∈fp→H' b=none→FpOk (blk X pins N' scope cl s₃.heap.objs.size s₃ (upd H2 s₂.heap.objs.size (.lst [])) fp) [] H' b:=fun {b H'} hb hn=>by
  obtain ⟨f0,f1,f2',f3',f4',f5'⟩:=f3 b hb
  refine ⟨hn,Nat.ne_of_lt (Nat.lt_trans (fpold b hb) lt3),fun z=>?_,.inl hb,fun x c e=>f4' x c (B.cells _ _ e),fun p hp=>?_⟩
  ·rcases List.mem_cons.mp (I3.stkSub b z) with e | e
   ·exact f1 e
   ·exact f2' e
  ·exact f5' p (by simpa [blk] using hp)
 have loop:codeAny (model X.prog X.w) X.A (.compLoop (.ListComp elt [⟨tg,iter,ifs,0⟩] scope pos) 0 (.ref it) (.ref s₂.heap.objs.size) (compEnvC scope cl s₃.heap.objs.size X.env)) (RR (.ref s₂.heap.objs.size) s₃.heap.objs.size) s₄:=by
  refine Zk2 (fun n s'=>∃i σ' H',Inv (blk X pins N' scope cl s₃.heap.objs.size s₃ (upd H2 s₂.heap.objs.size (.lst [])) fp) [] σ' H' s'∧tn i s'.heap∧(∀b∈fp,H' b=none)∧W i n σ' H') ?_ m0 ⟨0,_,_,I4,st4',fun b hb=>(f3 b hb).1,w0⟩
  rintro n s5 ⟨i,σ5,H5,I5,st5,fr5,w5⟩
  rcases turn i n σ5 H5 w5 with ⟨stop,qn⟩ | ⟨go,step⟩
  ·refine wpAny_mono (T.done (blk X pins N' scope cl s₃.heap.objs.size s₃ (upd H2 s₂.heap.objs.size (.lst [])) fp) rfl rfl rfl hc i [] s5 σ5 H5 (fun _ _=>False) I5 (fun b hb=>blkX hb (fr5 b hb)) st5 stop) (fun r s6 ⟨hr,I6⟩=>?_) fun _ _ f=>f.elim
   subst hr
   obtain ⟨mm,hnn,_⟩:=id I6.loc
   have nC:H5 s₃.heap.objs.size=none:=I6.free
   have J1:Inv X pins σ H5 s6:=by
    refine I3.call' (ch:=fp) I6.os I6.base I6.hok I6.bare fun b hb=>?_
    obtain ⟨f0,f1,f2',f3',f4',f5'⟩:=f3 b hb
    exact ⟨f3',f1,f4',f5'⟩
   exact hfin _ _ s6 H5 mm J1 hnn (I3.fpOk (Nat.le_refl _) nC) qn
  ·refine wpAny_mono (T.item (blk X pins N' scope cl s₃.heap.objs.size s₃ (upd H2 s₂.heap.objs.size (.lst [])) fp) rfl rfl rfl hc i [] s5 σ5 H5 (fun _ _=>False) I5 (fun b hb=>blkX hb (fr5 b hb)) st5 go) (fun r s6 ⟨u,hr,h6⟩=>?_) fun _ _ f=>f.elim
   subst hr
   refine wpAny_mono h6 (fun _ s7 ⟨x,H7,I7,r7,y7,st7,fr7⟩=>?_) fun _ _ f=>f.elim
   have I7':=I7.pinned (fun b hb=>blkX hb (fr7 b hb)) (T.obj _ _ st7)
   refine wpAny_mono (hg _ _ _ _ _ _ s7 σ5 H7 x u _ I7' r7 (step x H7 y7)) (fun _ s8 ⟨σ8,H8,I8,q8⟩=>?_) fun _ _ f=>f.elim
   refine wpAny_mono (ht _ _ _ _ _ _ s8 σ8 H8 _ I8 q8) (fun ok s9 ⟨H9,I9,q9⟩=>?_) fun _ _ f=>f.elim
   have again:∀{σ7:St} {H7:Hp} {sz:Shared},Inv (blk X pins N' scope cl s₃.heap.objs.size s₃ (upd H2 s₂.heap.objs.size (.lst [])) fp) ([]++ZfL fp s7.heap) σ7 H7 sz→(∃m',m'<n∧W (i+1) m' σ7 H7)→
     ∃m,m<n∧∃i σ' H',Inv (blk X pins N' scope cl s₃.heap.objs.size s₃ (upd H2 s₂.heap.objs.size (.lst [])) fp) [] σ' H' sz∧tn i sz.heap∧(∀b∈fp,H' b=none)∧W i m σ' H':=fun {σ7 H7 sz} Iz ⟨m',hm,wz⟩=>by
    refine ⟨m',hm,i+1,σ7,H7,Iz.unpinned,T.keep _ _ _ st7 fun b hb o e=>(Iz.pin (b,o) (List.mem_append_right _ (List.mem_append_right _ (ZcY hb e)))).1,fun b hb=>?_,wz⟩
    obtain ⟨o,e,d⟩:=T.obj _ _ st7 b hb
    exact (Iz.pin (b,o) (List.mem_append_right _ (List.mem_append_right _ (ZcY hb e)))).2.1
   cases ok with
   | false=>
    show ∃m,m<n∧_
    exact again I9 (by simpa using q9)
   | true=>
    have q9':te σ8 H9 fun y H6=>∃xs,H6 s₂.heap.objs.size=some (.lst xs)∧xs.length<sizeLine∧∃m',m'<n∧W (i+1) m' σ8 (upd H6 s₂.heap.objs.size (.lst (xs ++ [y]))):=by simpa using q9
    show wpAny _ _ _ _ _ _
    refine wpAny_mono (he _ _ _ _ _ _ s9 σ8 H9 _ I9 q9') (fun y sA ⟨yv,HA,IA,rA,xs,eA,zA,mA⟩=>?_) fun _ _ f=>f.elim
    refine wpAny_mono (Ziw (X:=blk X pins N' scope cl s₃.heap.objs.size s₃ (upd H2 s₂.heap.objs.size (.lst [])) fp) _ sA σ8 HA (.ref s₂.heap.objs.size) [yv] (.ref s₂.heap.objs.size) [y] (fun _ HB=>HB=upd HA s₂.heap.objs.size (.lst (xs ++ [yv]))) IA rfl (.cons rA .nil) ⟨_,xs,yv,rfl,rfl,eA,zA,rfl⟩) (fun _ sB ⟨_,HB,IB,_,eB⟩=>?_) fun _ _ f=>f.elim
    subst eB
    exact again IB mA
 exact codeAny_compStart_list loop (T.self _ 0 _ _ _ st4' loop)
theorem Zln {X:Cx} {elt tg iter:Expr} {ifs:List Expr} {scope:Scope} {pos:Pos} {N':List Str} {src:List (Option Nat)} {cl:List (Str×Addr)} {wi:TI} {g:TG} {tt:TT} {te:TE}
  (hc:X.calm=true) (B:BlkOk X N' src scope cl) (hi:PI X tg iter wi)
  (hg:∀pins C s H fp,PG (blk X pins N' scope cl C s H fp) tg g) (ht:∀pins C s H fp,PIfs (blk X pins N' scope cl C s H fp) ifs tt) (he:∀pins C s H fp,PE (blk X pins N' scope cl C s H fp) elt te)
  (hs:∀x,foldedSetIterable iter X.env x=pure x:=by intro _;rfl):PE X (.ListComp elt [⟨tg,iter,ifs,0⟩] scope pos) (Zgj src wi g tt te):=by
 intro pins s σ H Q I h
 rw [eval_ListComp]
 refine wpAny_comprehension_free (use:=none) rfl hs B.clos B.kind B.names (wpAny_mono (hi pins s σ H _ I h) (fun xv s₁ h₁=>wpAny_mono h₁ (fun it s₂ h₂=>?_) fun _ _ e=>e) fun _ _ e=>e)
 obtain ⟨it,fp,tn,J,H2,e,I2,T,st2,f2,q2⟩:=h₂
 subst e
 refine ZiK (RR:=fun acc C=>compPost (model X.prog X.w) X.A X.xe none (EP X pins σ Q) acc C) (Qp:=fun p H=>Q (.ref p) H) hc B hg ht he I2 T st2 f2 q2 ?_
 intro p C s6 H5 mm J1 hnn fC qn
 refine ⟨mm,hnn,fun h' sb=>?_⟩
 obtain ⟨c0,c1,c2,c3,c4,c5⟩:=fC
 exact ⟨.ref p,H5,J1.turned (t':=s6.toks) (it:=C) (fun b o hb e=>(sb.2 b hb).trans e) c0 c1 c3 c4 c5,rfl,qn⟩
theorem Zp3 {X:Cx} {elt tg iter:Expr} {ifs:List Expr} {scope:Scope} {pos pos' spos:Pos} {N':List Str} {src:List (Option Nat)} {cl:List (Str×Addr)} {wi:TI} {g:TG} {tt:TT} {te:TE} {i:Nat} {x:Str}
  (hN:X.N.Nodup) (hi':X.N[i]?=some x) (hx:Loc X.env.scope x)
  (hc:X.calm=true) (B:BlkOk X N' src scope cl) (hi:PI X tg iter wi)
  (hg:∀pins C s H fp,PG (blk X pins N' scope cl C s H fp) tg g) (ht:∀pins C s H fp,PIfs (blk X pins N' scope cl C s H fp) ifs tt) (he:∀pins C s H fp,PE (blk X pins N' scope cl C s H fp) elt te)
  (hsw:swapsWith (.ListComp elt [⟨tg,iter,ifs,0⟩] scope pos) (some (.Name x pos')) spos.line X.env=pure true:=by rfl)
  (hs:∀x,foldedSetIterable iter X.env x=pure x:=by intro _;rfl)
  (hf:X.fn x=true∨X.env.scope.names.lookup x=some .local:=by first | exact .inl rfl | exact .inr rfl | assumption) :
  PS X (.Assign [.Name x pos'] (.ListComp elt [⟨tg,iter,ifs,0⟩] scope pos) spos) (fun D σ H=>Zgj src wi g tt te σ H fun y H1=>D.nx (σ.set i (some y)) H1):=by
 intro pins s σ H D I h
 rw [exec_Assign_Name_used _ _ _ _ hsw]
 refine wpAny_bind (wpAny_standAt (wpAny_bind ?_))
 show wpAny _ _ (do let _←comprehension (.ListComp elt [⟨tg,iter,ifs,0⟩] scope pos) scope X.env _ (newList []) false (eval iter X.env) (some (assign (.Name x pos') X.env))) _ _ s
 refine wpAny_bind (wpAny_mono (wpAny_comprehension_free (use:=some (assign (.Name x pos') X.env)) (Q:=fun _ s'=>SP X pins D .next s') rfl hs B.clos B.kind B.names
  (wpAny_mono (hi pins s σ H _ I h) (fun xv s₁ h₁=>wpAny_mono h₁ (fun it s₂ h₂=>?_) fun _ _ e=>e) fun _ _ e=>e)) (fun _ s' hq=>wpAny_pure (wpAny_pure hq)) fun _ _ e=>e)
 obtain ⟨it,fp,tn,J,H2,e,I2,T,st2,f2,q2⟩:=h₂
 subst e
 refine ZiK (RR:=fun acc C=>compPost (model X.prog X.w) X.A X.xe (some (assign (.Name x pos') X.env)) (fun _ s'=>SP X pins D .next s') acc C) (Qp:=fun p H=>D.nx (σ.set i (some (.ref p))) H) hc B hg ht he I2 T st2 f2 q2 ?_
 intro p C s6 H5 mm J1 hnn fC qn
 obtain ⟨oC,es,ep,hoC,hdC,hrC⟩:=id hnn
 have fC':∀b∈[C],FpOk X pins H5 b:=by
  intro b hb
  have e:b=C:=by simpa using hb
  rw [e]
  exact fC
 have oC':∀b∈[C],∃o,s6.heap.get? b=some o∧∀v,o.data≠.cell v:=by
  intro b hb
  have e:b=C:=by simpa using hb
  rw [e]
  exact ⟨oC,hoC,fun v z=>by rw [hdC] at z;cases z⟩
 have J2:=J1.pinned (fp:=[C]) fC' oC'
 show wpAny _ _ (assign (.Name x pos') X.env (.ref p)) _ _ _
 refine wpAny_mono (ZcU (X:=X) (pos:=pos') hN hi' hx hf _ s6 σ H5 (.ref p) (.ref p) (fun σ' H'=>σ'=σ.set i (some (.ref p))∧H'=H5) J2 rfl ⟨rfl,rfl⟩) (fun _ s7 ⟨σ7,H7,I7,e7,e7'⟩=>?_) fun _ _ e=>e
 subst e7 e7'
 have pC:=I7.pin (C,oC) (List.mem_append_right _ (List.mem_append_right _ (ZcY (by simp) hoC)))
 refine ⟨mm,⟨oC,es,ep,pC.1,hdC,hrC⟩,fun h' sb=>?_⟩
 obtain ⟨c0,c1,c2,c3,c4,c5⟩:=fC
 exact ⟨_,_,(I7.unpinned).turned (t':=s7.toks) (it:=C) (fun b o hb e=>(sb.2 b hb).trans e) c0 c1 c3 c4 c5,qn⟩
end L2
namespace TF
open PySem PySem.Spec PyProof.Rows L2
inductive D where
 | non | bl (b:Bool) | int (i:Int) | str (x:Str) | tup (xs:List D) | lst (xs:List D)
 | dk (kvs:List (Key×V)) | dt (kvs:List (List Key×V)) | du (kvs:List (List Key×V)) | df (kvs:List (Key×V)) | pen | ty (n:String) | clo (t:Nat) (caps:List D)
noncomputable abbrev St:=L2.St
noncomputable abbrev Pn:=List Int×List Int
noncomputable abbrev M (α:Type):=Pn→Option (α×Pn)
noncomputable abbrev Rho:=List (Option D)
noncomputable def mret {α:Type} (a:α):M α:=fun s=>some (a,s)
noncomputable def Zan {α β:Type} (m:M α) (k:α→M β):M β:=fun s=>match m s with | none=>none | some p=>k p.1 p.2
noncomputable def Zau {α:Type}:M α:=fun _=>none
noncomputable def mOf {α:Type} (o:Option α):M α:=fun s=>match o with | none=>none | some a=>some (a,s)
theorem Zah {α β:Type} {m:M α} {k:α→M β} {s s':Pn} {b:β} (h:Zan m k s=some (b,s')):∃a s1,m s=some (a,s1)∧k a s1=some (b,s'):=by
 unfold Zan at h
 cases e:m s with
 | none=>rw [e] at h;cases h
 | some p=>rw [e] at h;exact ⟨p.1,p.2,rfl,h⟩
theorem Zao {α:Type} {a b:α} {s s':Pn} (h:mret a s=some (b,s')):b=a∧s'=s:=by
 unfold mret at h
 cases h
 exact ⟨rfl,rfl⟩
theorem ZbE {α:Type} {o:Option α} {b:α} {s s':Pn} (h:mOf o s=some (b,s')):o=some b∧s'=s:=by
 unfold mOf at h
 cases e:o with
 | none=>rw [e] at h;cases h
 | some a=>rw [e] at h;cases h;exact ⟨rfl,rfl⟩
structure Gh where
 fp:Addr→Prop
 rd:Addr→Prop
 pen:V
 st:Pn→Hp→Prop
 mono:∀s H H',st s H→(∀b o,rd b→H b=some o→H' b=some o)→(∀b φ,H b=some (.ext φ)→H' b=some (.ext φ))→st s H'
 sub:∀b,fp b→rd b
 dom:∀s H b,st s H→rd b→∃o,H b=some o
 ntp:∀s H b vs,st s H→fp b→H b≠some (.tup vs)
 clo:Nat→V→List V→Prop:=fun _ _ _=>False
mutual
noncomputable def Rep (G:Gh) (H:Hp):D→V→Prop
 | .non,v=>v=.non
 | .bl b,v=>v=.bl b
 | .int i,v=>v=.int i
 | .str x,v=>v=.str x
 | .tup ds,v=>∃a vs,v=.ref a∧¬G.fp a∧H a=some (.tup vs)∧RepL G H ds vs
 | .lst ds,v=>∃a vs,v=.ref a∧¬G.fp a∧H a=some (.lst vs)∧RepL G H ds vs
 | .dk kvs,v=>∃a,v=.ref a∧¬G.fp a∧H a=some (.dK kvs)
 | .dt kvs,v=>∃a o,v=.ref a∧¬G.fp a∧H a=some (.frz o (.dT kvs))
 | .du kvs,v=>∃a,v=.ref a∧¬G.fp a∧H a=some (.dT kvs)
 | .df kvs,v=>∃a o,v=.ref a∧¬G.fp a∧H a=some (.frz o (.dK kvs))
 | .pen,v=>v=G.pen
 | .ty n,v=>v=.ty n
 | .clo t ds,v=>∃vs,G.clo t v vs∧RepL G H ds vs
noncomputable def RepL (G:Gh) (H:Hp):List D→List V→Prop
 | [],vs=>vs=[]
 | d::ds,vs=>∃v r,vs=v::r∧Rep G H d v∧RepL G H ds r
end
noncomputable def Ext (G:Gh) (H H':Hp):Prop:=∀b o,¬G.fp b→H b=some o→H' b=some o
theorem Ext.refl (G:Gh) (H:Hp):Ext G H H:=fun _ _ _ e=>e
theorem Ext.trans {G:Gh} {H H1 H2:Hp} (a:Ext G H H1) (b:Ext G H1 H2):Ext G H H2:=fun c o n e=>b c o n (a c o n e)
mutual
theorem Rep.ext {G:Gh} {H H':Hp} (e:Ext G H H'):∀{d:D} {v:V},Rep G H d v→Rep G H' d v
 | .non,_,h=>h
 | .bl _,_,h=>h
 | .int _,_,h=>h
 | .str _,_,h=>h
 | .tup ds,v,h=>by
  unfold Rep at h ⊢
  obtain ⟨a,vs,e1,n,e2,r⟩:=h
  exact ⟨a,vs,e1,n,e _ _ n e2,RepL.ext e r⟩
 | .lst ds,v,h=>by
  unfold Rep at h ⊢
  obtain ⟨a,vs,e1,n,e2,r⟩:=h
  exact ⟨a,vs,e1,n,e _ _ n e2,RepL.ext e r⟩
 | .dk kvs,v,h=>by
  unfold Rep at h ⊢
  obtain ⟨a,e1,n,e2⟩:=h
  exact ⟨a,e1,n,e _ _ n e2⟩
 | .dt kvs,v,h=>by
  unfold Rep at h ⊢
  obtain ⟨a,o,e1,n,e2⟩:=h
  exact ⟨a,o,e1,n,e _ _ n e2⟩
 | .df kvs,v,h=>by
  unfold Rep at h ⊢
  obtain ⟨a,o,e1,n,e2⟩:=h
  exact ⟨a,o,e1,n,e _ _ n e2⟩
 | .du kvs,v,h=>by
  unfold Rep at h ⊢
  obtain ⟨a,e1,n,e2⟩:=h
  exact ⟨a,e1,n,e _ _ n e2⟩
 | .pen,_,h=>h
 | .ty _,_,h=>h
 | .clo t ds,v,h=>by
  unfold Rep at h ⊢
  obtain ⟨vs,c,r⟩:=h
  exact ⟨vs,c,RepL.ext e r⟩
theorem RepL.ext {G:Gh} {H H':Hp} (e:Ext G H H'):∀{ds:List D} {vs:List V},RepL G H ds vs→RepL G H' ds vs
 | [],_,h=>h
 | d::ds,vs,h=>by
  unfold RepL at h ⊢
  obtain ⟨v,r,e1,r1,r2⟩:=h
  exact ⟨v,r,e1,Rep.ext e r1,RepL.ext e r2⟩
end
section
variable {G:Gh} {H:Hp}
theorem Rep.tup_iff {ds:List D} {v:V}:Rep G H (.tup ds) v↔∃a vs,v=.ref a∧¬G.fp a∧H a=some (.tup vs)∧RepL G H ds vs:=by unfold Rep;exact Iff.rfl
theorem Rep.lst_iff {ds:List D} {v:V}:Rep G H (.lst ds) v↔∃a vs,v=.ref a∧¬G.fp a∧H a=some (.lst vs)∧RepL G H ds vs:=by unfold Rep;exact Iff.rfl
theorem Rep.dk_iff {kvs:List (Key×V)} {v:V}:Rep G H (.dk kvs) v↔∃a,v=.ref a∧¬G.fp a∧H a=some (.dK kvs):=by unfold Rep;exact Iff.rfl
theorem Rep.dt_iff {kvs:List (List Key×V)} {v:V}:Rep G H (.dt kvs) v↔∃a o,v=.ref a∧¬G.fp a∧H a=some (.frz o (.dT kvs)):=by unfold Rep;exact Iff.rfl
theorem Rep.du_iff {kvs:List (List Key×V)} {v:V}:Rep G H (.du kvs) v↔∃a,v=.ref a∧¬G.fp a∧H a=some (.dT kvs):=by unfold Rep;exact Iff.rfl
theorem Rep.df_iff {kvs:List (Key×V)} {v:V}:Rep G H (.df kvs) v↔∃a o,v=.ref a∧¬G.fp a∧H a=some (.frz o (.dK kvs)):=by unfold Rep;exact Iff.rfl
theorem Rep.int_iff {i:Int} {v:V}:Rep G H (.int i) v↔v=.int i:=by unfold Rep;exact Iff.rfl
theorem Rep.bl_iff {b:Bool} {v:V}:Rep G H (.bl b) v↔v=.bl b:=by unfold Rep;exact Iff.rfl
theorem Rep.str_iff {b:Str} {v:V}:Rep G H (.str b) v↔v=.str b:=by unfold Rep;exact Iff.rfl
theorem Rep.non_iff {v:V}:Rep G H .non v↔v=.non:=by unfold Rep;exact Iff.rfl
theorem Rep.pen_iff {v:V}:Rep G H .pen v↔v=G.pen:=by unfold Rep;exact Iff.rfl
theorem Rep.ty_iff {n:String} {v:V}:Rep G H (.ty n) v↔v=.ty n:=by unfold Rep;exact Iff.rfl
theorem Rep.clo_iff {t:Nat} {ds:List D} {v:V}:Rep G H (.clo t ds) v↔∃vs,G.clo t v vs∧RepL G H ds vs:=by unfold Rep;exact Iff.rfl
theorem RepL.nil_iff {vs:List V}:RepL G H [] vs↔vs=[]:=by unfold RepL;exact Iff.rfl
theorem RepL.cons_iff {d:D} {ds:List D} {vs:List V}:RepL G H (d::ds) vs↔∃v r,vs=v::r∧Rep G H d v∧RepL G H ds r:=by
 constructor
 ·intro h;unfold RepL at h;exact h
 ·intro h;unfold RepL;exact h
theorem RepL.length:∀{ds:List D} {vs:List V},RepL G H ds vs→ds.length=vs.length
 | [],vs,h=>by rw [RepL.nil_iff.mp h];rfl
 | d::ds,vs,h=>by
  obtain ⟨v,r,rfl,_,h2⟩:=RepL.cons_iff.mp h
  simp [RepL.length h2]
theorem RepL.get:∀{ds:List D} {vs:List V} {i:Nat} {d:D},RepL G H ds vs→ds[i]?=some d→∃v,vs[i]?=some v∧Rep G H d v
 | [],_,_,_,_,e=>by simp at e
 | d::ds,vs,0,d',h,e=>by
  obtain ⟨v,r,rfl,h1,_⟩:=RepL.cons_iff.mp h
  simp at e;subst e
  exact ⟨v,rfl,h1⟩
 | d::ds,vs,i+1,d',h,e=>by
  obtain ⟨v,r,rfl,_,h2⟩:=RepL.cons_iff.mp h
  obtain ⟨u,e1,e2⟩:=RepL.get h2 (i:=i) (d:=d') (by simpa using e)
  exact ⟨u,by simpa using e1,e2⟩
theorem RepL.append:∀{ds es:List D} {vs us:List V},RepL G H ds vs→RepL G H es us→RepL G H (ds++es) (vs++us)
 | [],es,vs,us,h,h'=>by rw [RepL.nil_iff.mp h];exact h'
 | d::ds,es,vs,us,h,h'=>by
  obtain ⟨v,r,rfl,h1,h2⟩:=RepL.cons_iff.mp h
  exact RepL.cons_iff.mpr ⟨v,r++us,rfl,h1,RepL.append h2 h'⟩
theorem RepL.one {d:D} {v:V} (h:Rep G H d v):RepL G H [d] [v]:=RepL.cons_iff.mpr ⟨v,[],rfl,h,RepL.nil_iff.mpr rfl⟩
theorem RepL.cons {d:D} {v:V} {ds:List D} {vs:List V} (h:Rep G H d v) (h2:RepL G H ds vs):RepL G H (d::ds) (v::vs):=RepL.cons_iff.mpr ⟨v,vs,rfl,h,h2⟩
end
noncomputable def Nt (o:Option HO):Prop:=∃u,o=some u∧∀vs,u≠.tup vs
theorem Nt.no {o:Option HO} (h:Nt o) (e:o=none):False:=by
 obtain ⟨u,q,_⟩:=h
 rw [e] at q;cases q
structure Gr (G:Gh) (Hf H Hf' H':Hp):Prop where
 hh:Ext G H H'
 ff:Ext G Hf Hf'
 fh:Ext G Hf' H'
 nw:∀b,¬G.fp b→Hf b=none→Nt (H b)→Hf' b=none
theorem Gr.refl {G:Gh} {Hf H:Hp} (e:Ext G Hf H):Gr G Hf H Hf H:=⟨.refl _ _,.refl _ _,e,fun _ _ h _=>h⟩
theorem Gr.trans {G:Gh} {Hf H Hf1 H1 Hf2 H2:Hp} (a:Gr G Hf H Hf1 H1) (b:Gr G Hf1 H1 Hf2 H2):Gr G Hf H Hf2 H2:=
 ⟨a.hh.trans b.hh,a.ff.trans b.ff,b.fh,fun c n h1 h2=>b.nw c n (a.nw c n h1 h2) (let ⟨u,e,nt⟩:=h2;⟨u,a.hh c u n e,nt⟩)⟩
theorem Gr.new {G:Gh} {Hf H:Hp} {p:Addr} {o:HO} (e:Ext G Hf H) (hp:H p=none) (nf:¬G.fp p):Gr G Hf H (upd Hf p o) (upd H p o) where
 hh:=fun b u n q=>by rw [Zaj (Zas q hp)];exact q
 ff:=fun b u n q=>by rw [Zaj (Zas (e b u n q) hp)];exact q
 fh:=fun b u n q=>by
  by_cases hb:b=p
  ·subst hb;rw [Zaq] at q ⊢;exact q
  ·rw [Zaj hb] at q ⊢;exact e b u n q
 nw:=fun b n h1 h2=>by
  by_cases hb:b=p
  ·subst hb;exact (h2.no hp).elim
  ·rw [Zaj hb];exact h1
theorem Gh.nofp {G:Gh} {s:Pn} {H:Hp} {p:Addr} (h:G.st s H) (hp:H p=none):¬G.fp p:=fun f=>by
 obtain ⟨o,e⟩:=G.dom s H p h (G.sub p f)
 rw [hp] at e;cases e
theorem Gh.nord {G:Gh} {s:Pn} {H:Hp} {p:Addr} (h:G.st s H) (hp:H p=none):¬G.rd p:=fun f=>by
 obtain ⟨o,e⟩:=G.dom s H p h f
 rw [hp] at e;cases e
theorem Gh.grow {G:Gh} {s:Pn} {H:Hp} {p:Addr} {o:HO} (h:G.st s H) (hp:H p=none):G.st s (upd H p o):=G.mono s H _ h (fun b u _ q=>by
 rw [Zaj (Zas q hp)];exact q) fun b φ q=>by
 rw [Zaj (Zas q hp)];exact q
noncomputable def Zfp:D→Prop
 | .lst _=>True
 | .dk _=>True
 | .dt _=>True
 | .du _=>True
 | _=>False
noncomputable def ZaG (G:Gh) (H Hf':Hp) (d:D) (v:V):Prop:=∀a,v=.ref a→Zfp d→H a=none∧∀ds,d=.lst ds→∃vs Hm,Hf' a=some (.lst vs)∧Hm a=none∧Ext G Hm Hf'∧RepL G Hm ds vs
theorem ZaG.old {G:Gh} {H H' Hf':Hp} {d:D} {v:V} (e:Ext G H H') (r:∀a,v=.ref a→Zfp d→¬G.fp a) (h:ZaG G H' Hf' d v):ZaG G H Hf' d v:=fun a ea m=>by
 refine ⟨?_,(h a ea m).2⟩
 cases q:H a with
 | none=>rfl
 | some o=>
  have:=e a o (r a ea m) q
  rw [(h a ea m).1] at this;cases this
theorem Rep.nofp {G:Gh} {H:Hp} {d:D} {v:V} (r:Rep G H d v):∀a,v=.ref a→Zfp d→¬G.fp a:=fun a e m=>by
 cases d with
 | lst ds=>obtain ⟨b,vs,e1,n,_⟩:=Rep.lst_iff.mp r;rw [e] at e1;cases e1;exact n
 | dk ds=>obtain ⟨b,e1,n,_⟩:=Rep.dk_iff.mp r;rw [e] at e1;cases e1;exact n
 | dt ds=>obtain ⟨b,_,e1,n,_⟩:=Rep.dt_iff.mp r;rw [e] at e1;cases e1;exact n
 | du ds=>obtain ⟨b,e1,n,_⟩:=Rep.du_iff.mp r;rw [e] at e1;cases e1;exact n
 | _=>exact m.elim
noncomputable def EnvR (G:Gh) (H:Hp) (σ:St) (ρ:Rho):Prop:=∀(i:Nat) (d:D),ρ[i]?=some (some d)→∃v,σ[i]?=some (some v)∧Rep G H d v
theorem EnvR.ext {G:Gh} {H H':Hp} {σ:St} {ρ:Rho} (h:EnvR G H σ ρ) (e:Ext G H H'):EnvR G H' σ ρ:=fun i d q=>let ⟨v,a,b⟩:=h i d q;⟨v,a,b.ext e⟩
noncomputable def PD (X:Cx) (G:Gh) (fr:Bool) (e:Expr) (f:Rho→M D):Prop:=
 ∃t,PE X e t∧∀(σ:St) (Hf H:Hp) (ρ:Rho) (s:Pn) (d:D) (s':Pn) (Q:VK),Ext G Hf H→EnvR G Hf σ ρ→G.st s H→f ρ s=some (d,s')→
  (∀v Hf' H',Gr G Hf H Hf' H'→G.st s' H'→Rep G Hf' d v→(fr=true→ZaG G H Hf' d v)→Q v H')→t σ H Q
noncomputable def PDT (X:Cx) (G:Gh) (e:Expr) (f:Rho→M Bool):Prop:=
 ∃t,PT X e t∧∀(σ:St) (Hf H:Hp) (ρ:Rho) (s:Pn) (b:Bool) (s':Pn) (Q:Bool→Hp→Prop),Ext G Hf H→EnvR G Hf σ ρ→G.st s H→f ρ s=some (b,s')→
  (∀Hf' H',Gr G Hf H Hf' H'→G.st s' H'→Q b H')→t σ H Q
noncomputable def PDA (X:Cx) (G:Gh) (es:List Expr) (f:Rho→M (List D)):Prop:=
 ∃t,PA X es t∧∀(σ:St) (Hf H:Hp) (ρ:Rho) (s:Pn) (ds:List D) (s':Pn) (Q:List V→Hp→Prop),Ext G Hf H→EnvR G Hf σ ρ→G.st s H→f ρ s=some (ds,s')→
  (∀vs Hf' H',Gr G Hf H Hf' H'→G.st s' H'→RepL G Hf' ds vs→Q vs H')→t σ H Q
section
variable {X:Cx} {G:Gh}
theorem PD.weak {e:Expr} {f:Rho→M D} {fr:Bool} (h:PD X G fr e f):PD X G false e f:=by
 obtain ⟨t,p,q⟩:=h
 exact ⟨t,p,fun σ Hf H ρ s d s' Q e1 e2 e3 e4 k=>q σ Hf H ρ s d s' Q e1 e2 e3 e4 fun v Hf' H' g1 g2 g3 _=>k v Hf' H' g1 g2 g3 (fun z=>by cases z)⟩
noncomputable def dVar (i:Nat):Rho→M D:=fun ρ=>mOf ((ρ[i]?).bind id)
noncomputable def dC (d:D):Rho→M D:=fun _=>mret d
theorem Zab (i:Nat) {x:Str} {pos:Pos} (h:PE X (.Name x pos) (tVar i)):PD X G false (.Name x pos) (dVar i):=by
 refine ⟨_,h,fun σ Hf H ρ s d s' Q e1 e2 e3 e4 k=>?_⟩
 obtain ⟨e,rfl⟩:=ZbE e4
 have e':ρ[i]?=some (some d):=by
  cases q:ρ[i]? with
  | none=>rw [q] at e;cases e
  | some o=>rw [q] at e;simp at e;rw [e]
 obtain ⟨v,h1,h2⟩:=e2 i d e'
 exact ⟨v,h1,k v Hf H (.refl e1) e3 h2 (fun z=>by cases z)⟩
theorem ZaG.scal {H Hf':Hp} {d:D} {v:V} (h:Zfp d→False):ZaG G H Hf' d v:=fun _ _ m=>(h m).elim
theorem Zaw {i:Int} {j pos}:PD X G true (.Constant (.int i) j pos) (dC (.int i)):=by
 refine ⟨_,Zbb,fun σ Hf H ρ s d s' Q e1 e2 e3 e4 k=>?_⟩
 obtain ⟨rfl,rfl⟩:=Zao e4
 exact k _ Hf H (.refl e1) e3 (Rep.int_iff.mpr rfl) fun _=>.scal fun z=>z
theorem Zb4 {b:Bool} {j pos}:PD X G true (.Constant (.bool b) j pos) (dC (.bl b)):=by
 refine ⟨_,Zsl,fun σ Hf H ρ s d s' Q e1 e2 e3 e4 k=>?_⟩
 obtain ⟨rfl,rfl⟩:=Zao e4
 exact k _ Hf H (.refl e1) e3 (Rep.bl_iff.mpr rfl) fun _=>.scal fun z=>z
theorem ZjH {j pos}:PD X G true (.Constant .none j pos) (dC .non):=by
 refine ⟨_,Zrl,fun σ Hf H ρ s d s' Q e1 e2 e3 e4 k=>?_⟩
 obtain ⟨rfl,rfl⟩:=Zao e4
 exact k _ Hf H (.refl e1) e3 (Rep.non_iff.mpr rfl) fun _=>.scal fun z=>z
theorem ZfN {x:Str} {j pos}:PD X G true (.Constant (.str x) j pos) (dC (.str x)):=by
 refine ⟨_,ZbJ,fun σ Hf H ρ s d s' Q e1 e2 e3 e4 k=>?_⟩
 obtain ⟨rfl,rfl⟩:=Zao e4
 exact k _ Hf H (.refl e1) e3 (Rep.str_iff.mpr rfl) fun _=>.scal fun z=>z
noncomputable def dNil:Rho→M (List D):=fun _=>mret []
noncomputable def Zaa (f:Rho→M D) (g:Rho→M (List D)):Rho→M (List D):=fun ρ=>Zan (f ρ) fun d=>Zan (g ρ) fun ds=>mret (d::ds)
theorem Zag:PDA X G [] dNil:=by
 refine ⟨_,Zbg,fun σ Hf H ρ s d s' Q e1 e2 e3 e4 k=>?_⟩
 obtain ⟨rfl,rfl⟩:=Zao e4
 exact k _ Hf H (.refl e1) e3 (RepL.nil_iff.mpr rfl)
theorem Zac {e:Expr} {es:List Expr} {f:Rho→M D} {g:Rho→M (List D)} {fr:Bool} (h:PD X G fr e f) (hr:PDA X G es g) (hs:starEach (e::es) X.env=(false,eval e X.env)::starEach es X.env:=by rfl):PDA X G (e::es) (Zaa f g):=by
 obtain ⟨t,p,q⟩:=h
 obtain ⟨u,p2,q2⟩:=hr
 refine ⟨_,Za0 p p2 hs,fun σ Hf H ρ s ds s' Q e1 e2 e3 e4 k=>?_⟩
 obtain ⟨d,s1,a1,a2⟩:=Zah e4
 obtain ⟨r,s2,a3,a4⟩:=Zah a2
 obtain ⟨rfl,rfl⟩:=Zao a4
 refine q σ Hf H ρ s d s1 _ e1 e2 e3 a1 fun v Hf1 H1 g1 st1 r1 _=>?_
 refine q2 σ Hf1 H1 ρ s1 r _ _ g1.fh (e2.ext g1.ff) st1 a3 fun vs Hf2 H2 g2 st2 r2=>?_
 exact k _ Hf2 H2 (g1.trans g2) st2 (RepL.cons (r1.ext g2.ff) r2)
noncomputable def dTup (f:Rho→M (List D)):Rho→M D:=fun ρ=>Zan (f ρ) fun ds=>if ds.length≤sizeLine then mret (.tup ds) else Zau
noncomputable def dLst (f:Rho→M (List D)):Rho→M D:=fun ρ=>Zan (f ρ) fun ds=>if ds.length≤sizeLine then mret (.lst ds) else Zau
theorem Za4 {α:Type} {c:Prop} [Decidable c] {a:M α} {s s':Pn} {b:α} (h:(if c then a else Zau) s=some (b,s')):c∧a s=some (b,s'):=by
 split at h
 ·rename_i hc;exact ⟨hc,h⟩
 ·cases h
theorem ZaG.mk {Hf H:Hp} {p:Addr} {vs:List V} {ds:List D} (e:Ext G Hf H) (hp:H p=none) (nf:¬G.fp p) (r:RepL G Hf ds vs):ZaG G H (upd Hf p (.lst vs)) (.lst ds) (.ref p):=fun a ea _=>by
 cases ea
 refine ⟨hp,fun ds' ed=>?_⟩
 cases ed
 have hf:Hf p=none:=by
  cases q:Hf p with
  | none=>rfl
  | some o=>rw [e p o nf q] at hp;cases hp
 exact ⟨vs,Hf,Zaq,hf,fun b o n q=>by rw [Zaj (Zas q hf)];exact q,r⟩
theorem Zbx {es:List Expr} {f:Rho→M (List D)} {x1:Nat} {pos:Pos} (h:PDA X G es f):PD X G true (.Tuple es x1 pos) (dTup f):=by
 obtain ⟨t,p,q⟩:=h
 refine ⟨_,Zri p,fun σ Hf H ρ s d s' Q e1 e2 e3 e4 k=>?_⟩
 obtain ⟨ds,s1,a1,a2⟩:=Zah e4
 obtain ⟨hl,a3⟩:=Za4 a2
 obtain ⟨rfl,rfl⟩:=Zao a3
 refine q σ Hf H ρ s ds s' _ e1 e2 e3 a1 fun vs Hf1 H1 g1 st1 r1=>⟨by rw [←r1.length];exact hl,fun p hp=>?_⟩
 have nf:=Gh.nofp st1 hp
 have g2:=Gr.new (o:=.tup vs) g1.fh hp nf
 exact k (.ref p) _ _ (g1.trans g2) (Gh.grow st1 hp) (Rep.tup_iff.mpr ⟨p,vs,rfl,nf,Zaq,r1.ext g2.ff⟩) fun _=>.scal fun z=>z
theorem ZeX {es:List Expr} {f:Rho→M (List D)} {pos:Pos} (h:PDA X G es f):PD X G true (.List es pos) (dLst f):=by
 obtain ⟨t,p,q⟩:=h
 refine ⟨_,Zrm p,fun σ Hf H ρ s d s' Q e1 e2 e3 e4 k=>?_⟩
 obtain ⟨ds,s1,a1,a2⟩:=Zah e4
 obtain ⟨hl,a3⟩:=Za4 a2
 obtain ⟨rfl,rfl⟩:=Zao a3
 refine q σ Hf H ρ s ds s' _ e1 e2 e3 a1 fun vs Hf1 H1 g1 st1 r1=>⟨by rw [←r1.length];exact hl,fun p hp=>?_⟩
 have nf:=Gh.nofp st1 hp
 have g2:=Gr.new (o:=.lst vs) g1.fh hp nf
 refine k (.ref p) _ _ (g1.trans g2) (Gh.grow st1 hp) (Rep.lst_iff.mpr ⟨p,vs,rfl,nf,Zaq,r1.ext g2.ff⟩) fun _=>ZaG.old g1.hh (fun a ea _=>by cases ea;exact nf) (ZaG.mk g1.fh hp nf r1)
noncomputable def OpD (X:Cx) (G:Gh) (f:Value→Value→Sem Value) (g:D→D→Option D):Prop:=
 ∃r,OpR X f r∧∀(Hf H:Hp) (s:Pn) (x y:V) (d e c:D) (Q:VK),Ext G Hf H→G.st s H→Rep G Hf d x→Rep G Hf e y→g d e=some c→
  (∀v Hf' H',Gr G Hf H Hf' H'→G.st s H'→Rep G Hf' c v→ZaG G H Hf' c v→Q v H')→r x y H Q
noncomputable def dOp (g:D→D→Option D) (a b:Rho→M D):Rho→M D:=fun ρ=>Zan (a ρ) fun d=>Zan (b ρ) fun e=>mOf (g d e)
theorem op2D {fa fb:Rho→M D} {g:D→D→Option D} {ta tb:TE} {r:R2}
  (qa:∀(σ:St) (Hf H:Hp) (ρ:Rho) (s:Pn) (d:D) (s':Pn) (Q:VK),Ext G Hf H→EnvR G Hf σ ρ→G.st s H→fa ρ s=some (d,s')→(∀v Hf' H',Gr G Hf H Hf' H'→G.st s' H'→Rep G Hf' d v→Q v H')→ta σ H Q)
  (qb:∀(σ:St) (Hf H:Hp) (ρ:Rho) (s:Pn) (d:D) (s':Pn) (Q:VK),Ext G Hf H→EnvR G Hf σ ρ→G.st s H→fb ρ s=some (d,s')→(∀v Hf' H',Gr G Hf H Hf' H'→G.st s' H'→Rep G Hf' d v→Q v H')→tb σ H Q)
  (qo:∀(Hf H:Hp) (s:Pn) (x y:V) (d e c:D) (Q:VK),Ext G Hf H→G.st s H→Rep G Hf d x→Rep G Hf e y→g d e=some c→(∀v Hf' H',Gr G Hf H Hf' H'→G.st s H'→Rep G Hf' c v→ZaG G H Hf' c v→Q v H')→r x y H Q)
  (σ:St) (Hf H:Hp) (ρ:Rho) (s:Pn) (d:D) (s':Pn) (Q:VK) (e1:Ext G Hf H) (e2:EnvR G Hf σ ρ) (e3:G.st s H) (e4:dOp g fa fb ρ s=some (d,s'))
  (k:∀v Hf' H',Gr G Hf H Hf' H'→G.st s' H'→Rep G Hf' d v→ZaG G H Hf' d v→Q v H'):tOp r ta tb σ H Q:=by
 obtain ⟨da,s1,a1,a2⟩:=Zah e4
 obtain ⟨db,s2,a3,a4⟩:=Zah a2
 obtain ⟨a5,rfl⟩:=ZbE a4
 refine qa σ Hf H ρ s da s1 _ e1 e2 e3 a1 fun x Hf1 H1 g1 st1 r1=>?_
 refine qb σ Hf1 H1 ρ s1 db _ _ g1.fh (e2.ext g1.ff) st1 a3 fun y Hf2 H2 g2 st2 r2=>?_
 refine qo Hf2 H2 _ x y da db d Q g2.fh st2 (r1.ext g2.ff) r2 a5 fun v Hf3 H3 g3 st3 r3 fz=>?_
 exact k v Hf3 H3 ((g1.trans g2).trans g3) st3 r3 (ZaG.old (g1.hh.trans g2.hh) r3.nofp fz)
theorem PD.drop {e:Expr} {f:Rho→M D} {fr:Bool} (h:PD X G fr e f):∃t,PE X e t∧∀(σ:St) (Hf H:Hp) (ρ:Rho) (s:Pn) (d:D) (s':Pn) (Q:VK),Ext G Hf H→EnvR G Hf σ ρ→G.st s H→f ρ s=some (d,s')→
  (∀v Hf' H',Gr G Hf H Hf' H'→G.st s' H'→Rep G Hf' d v→Q v H')→t σ H Q:=by
 obtain ⟨t,p,q⟩:=h
 exact ⟨t,p,fun σ Hf H ρ s d s' Q a b c d' k=>q σ Hf H ρ s d s' Q a b c d' fun v Hf' H' g1 g2 g3 _=>k v Hf' H' g1 g2 g3⟩
theorem Zca {a b:Expr} {op:Operator} {pos:Pos} {fa fb:Rho→M D} {g:D→D→Option D} {r1 r2:Bool} (ho:OpD X G (binaryOp op) g) (ha:PD X G r1 a fa) (hb:PD X G r2 b fb):PD X G true (.BinOp a op b pos) (dOp g fa fb):=by
 obtain ⟨r,po,qo⟩:=ho
 obtain ⟨ta,pa,qa⟩:=ha.drop
 obtain ⟨tb,pb,qb⟩:=hb.drop
 exact ⟨_,Zbu po pa pb,fun σ Hf H ρ s d s' Q e1 e2 e3 e4 k=>op2D qa qb qo σ Hf H ρ s d s' Q e1 e2 e3 e4 fun v Hf' H' g1 g2 g3 fz=>k v Hf' H' g1 g2 g3 fun _=>fz⟩
theorem Zcp {a b:Expr} {op:CmpOp} {pos:Pos} {fa fb:Rho→M D} {g:D→D→Option D} {r1 r2:Bool} (ho:OpD X G (compareOp op) g) (ha:PD X G r1 a fa) (hb:PD X G r2 b fb)
  (hm:behindInMarks op b=false:=by first | exact ZeY _ | with_unfolding_all rfl):PD X G true (.Compare a [op] [b] pos) (dOp g fa fb):=by
 obtain ⟨r,po,qo⟩:=ho
 obtain ⟨ta,pa,qa⟩:=ha.drop
 obtain ⟨tb,pb,qb⟩:=hb.drop
 exact ⟨_,Zqb po pa pb hm,fun σ Hf H ρ s d s' Q e1 e2 e3 e4 k=>op2D qa qb qo σ Hf H ρ s d s' Q e1 e2 e3 e4 fun v Hf' H' g1 g2 g3 fz=>k v Hf' H' g1 g2 g3 fun _=>fz⟩
noncomputable def asB (f:Rho→M D):Rho→M Bool:=fun ρ=>Zan (f ρ) fun d=>match d with | .bl b=>mret b | _=>Zau
theorem Zkv {f:Rho→M D} {ρ:Rho} {s s':Pn} {b:Bool} (h:asB f ρ s=some (b,s')):f ρ s=some (.bl b,s'):=by
 obtain ⟨d,s1,a1,a2⟩:=Zah h
 cases d with
 | bl c=>obtain ⟨rfl,rfl⟩:=Zao a2;exact a1
 | _=>cases a2
theorem ZaZ {a b:Expr} {op:CmpOp} {pos:Pos} {fa fb:Rho→M D} {g:D→D→Option D} {r1 r2:Bool} (ho:OpD X G (compareOp op) g) (ha:PD X G r1 a fa) (hb:PD X G r2 b fb)
  (hm:behindInMarks op b=false:=by first | exact ZeY _ | with_unfolding_all rfl):PDT X G (.Compare a [op] [b] pos) (asB (dOp g fa fb)):=by
 obtain ⟨r,po,qo⟩:=ho
 obtain ⟨ta,pa,qa⟩:=ha.drop
 obtain ⟨tb,pb,qb⟩:=hb.drop
 refine ⟨_,ZeR po pa pb hm,fun σ Hf H ρ s c s' Q e1 e2 e3 e4 k=>?_⟩
 exact op2D qa qb qo σ Hf H ρ s (.bl c) s' _ e1 e2 e3 (Zkv e4) fun v Hf' H' g1 g2 g3 fz=>⟨c,Rep.bl_iff.mp g3,k Hf' H' g1 g2⟩
theorem Zcs {e:Expr} {f:Rho→M D} {fr:Bool} (h:PD X G fr e f) (he:∀whole,isTrue e X.env whole=(do let v←whole;standAt e.pos;holding [v] (truthy v)):=by intro _;rfl):PDT X G e (asB f):=by
 obtain ⟨t,p,q⟩:=h
 refine ⟨_,Zra p he,fun σ Hf H ρ s c s' Q e1 e2 e3 e4 k=>?_⟩
 exact q σ Hf H ρ s (.bl c) s' _ e1 e2 e3 (Zkv e4) fun v Hf' H' g1 g2 g3 fz=>⟨c,Rep.bl_iff.mp g3,k Hf' H' g1 g2⟩
noncomputable def bNot (f:Rho→M Bool):Rho→M Bool:=fun ρ=>Zan (f ρ) fun b=>mret (!b)
theorem ZeW {a:Expr} {pos:Pos} {f:Rho→M Bool} (h:PDT X G a f):PDT X G (.UnaryOp .Not a pos) (bNot f):=by
 obtain ⟨t,p,q⟩:=h
 refine ⟨_,Zrb p,fun σ Hf H ρ s c s' Q e1 e2 e3 e4 k=>?_⟩
 obtain ⟨b,s1,a1,a2⟩:=Zah e4
 obtain ⟨rfl,rfl⟩:=Zao a2
 exact q σ Hf H ρ s b s' _ e1 e2 e3 a1 fun Hf' H' g1 g2=>k Hf' H' g1 g2
noncomputable def bAnd (f g:Rho→M Bool):Rho→M Bool:=fun ρ=>Zan (f ρ) fun b=>if b=true then g ρ else mret false
noncomputable def bOr (f g:Rho→M Bool):Rho→M Bool:=fun ρ=>Zan (f ρ) fun b=>if b=true then mret true else g ρ
noncomputable def PDW (X:Cx) (G:Gh) (e:Expr) (f:Rho→M Bool):Prop:=
 ∃t,PW X e t∧∀(σ:St) (Hf H:Hp) (ρ:Rho) (s:Pn) (b:Bool) (s':Pn) (Q:Bool→Hp→Prop),Ext G Hf H→EnvR G Hf σ ρ→G.st s H→f ρ s=some (b,s')→
  (∀Hf' H',Gr G Hf H Hf' H'→G.st s' H'→Q b H')→t σ H Q
theorem PDW.pt {e:Expr} {f:Rho→M Bool} (h:PDW X G e f):PDT X G e f:=by
 obtain ⟨t,p,q⟩:=h
 exact ⟨t,p.pt,q⟩
theorem ZoC {a:Expr} {pos:Pos} {f:Rho→M Bool} (h:PDT X G a f):PDW X G (.BoolOp .And [a] pos) f:=by
 obtain ⟨t,p,q⟩:=h
 exact ⟨t,Zlh p,q⟩
theorem ZeU {a:Expr} {pos:Pos} {f:Rho→M Bool} (h:PDT X G a f):PDW X G (.BoolOp .Or [a] pos) f:=by
 obtain ⟨t,p,q⟩:=h
 exact ⟨t,Zq9 p,q⟩
theorem Zqd {a b:Expr} {rest:List Expr} {pos:Pos} {f g:Rho→M Bool} (h:PDT X G a f) (h2:PDW X G (.BoolOp .And (b::rest) pos) g):PDW X G (.BoolOp .And (a::b::rest) pos) (bAnd f g):=by
 obtain ⟨t,p,q⟩:=h
 obtain ⟨u,p2,q2⟩:=h2
 refine ⟨_,Zm0 p p2,fun σ Hf H ρ s c s' Q e1 e2 e3 e4 k=>?_⟩
 obtain ⟨b,s1,a1,a2⟩:=Zah e4
 refine q σ Hf H ρ s b s1 _ e1 e2 e3 a1 fun Hf1 H1 g1 st1=>?_
 cases b with
 | true=>exact q2 σ Hf1 H1 ρ s1 c s' _ g1.fh (e2.ext g1.ff) st1 a2 fun Hf2 H2 g2 st2=>k Hf2 H2 (g1.trans g2) st2
 | false=>obtain ⟨rfl,rfl⟩:=Zao a2;exact k Hf1 H1 g1 st1
theorem ZeV {a b:Expr} {rest:List Expr} {pos:Pos} {f g:Rho→M Bool} (h:PDT X G a f) (h2:PDW X G (.BoolOp .Or (b::rest) pos) g):PDW X G (.BoolOp .Or (a::b::rest) pos) (bOr f g):=by
 obtain ⟨t,p,q⟩:=h
 obtain ⟨u,p2,q2⟩:=h2
 refine ⟨_,Zsg p p2,fun σ Hf H ρ s c s' Q e1 e2 e3 e4 k=>?_⟩
 obtain ⟨b,s1,a1,a2⟩:=Zah e4
 refine q σ Hf H ρ s b s1 _ e1 e2 e3 a1 fun Hf1 H1 g1 st1=>?_
 cases b with
 | true=>obtain ⟨rfl,rfl⟩:=Zao a2;exact k Hf1 H1 g1 st1
 | false=>exact q2 σ Hf1 H1 ρ s1 c s' _ g1.fh (e2.ext g1.ff) st1 a2 fun Hf2 H2 g2 st2=>k Hf2 H2 (g1.trans g2) st2
noncomputable def vAnd (f g:Rho→M D):Rho→M D:=fun ρ=>Zan (f ρ) fun d=>match d with | .bl true=>g ρ | .bl false=>mret (.bl false) | _=>Zau
noncomputable def vOr (f g:Rho→M D):Rho→M D:=fun ρ=>Zan (f ρ) fun d=>match d with | .bl true=>mret (.bl true) | .bl false=>g ρ | _=>Zau
noncomputable def vNot (f:Rho→M D):Rho→M D:=fun ρ=>Zan (f ρ) fun d=>match d with | .bl b=>mret (.bl (!b)) | _=>Zau
theorem ZfO {op} {a:Expr} {pos:Pos} {fr:Bool} {f:Rho→M D} (h:PD X G fr a f):PD X G false (.BoolOp op [a] pos) f:=by
 obtain ⟨t,p,q⟩:=h.weak
 exact ⟨t,Zrj p,q⟩
theorem Zel {a b:Expr} {rest:List Expr} {pos:Pos} {r1 r2:Bool} {f g:Rho→M D} (h:PD X G r1 a f) (h2:PD X G r2 (.BoolOp .And (b::rest) pos) g):PD X G false (.BoolOp .And (a::b::rest) pos) (vAnd f g):=by
 obtain ⟨t,p,q⟩:=h.drop
 obtain ⟨u,p2,q2⟩:=h2.drop
 refine ⟨_,Zro p p2,fun σ Hf H ρ s c s' Q e1 e2 e3 e4 k=>?_⟩
 obtain ⟨d,s1,a1,a2⟩:=Zah e4
 refine q σ Hf H ρ s d s1 _ e1 e2 e3 a1 fun v Hf1 H1 g1 st1 r1=>?_
 cases d with
 | bl b=>
  cases b with
  | true=>exact ⟨true,Rep.bl_iff.mp r1,iteT (q2 σ Hf1 H1 ρ s1 c s' _ g1.fh (e2.ext g1.ff) st1 a2 fun v Hf2 H2 g2 st2 r2=>k v Hf2 H2 (g1.trans g2) st2 r2 (fun z=>by cases z))⟩
  | false=>obtain ⟨rfl,rfl⟩:=Zao a2;exact ⟨false,Rep.bl_iff.mp r1,iteF (k _ Hf1 H1 g1 st1 (Rep.bl_iff.mpr rfl) (fun z=>by cases z))⟩
 | _=>cases a2
theorem Znd {a:Expr} {pos:Pos} {r1:Bool} {f:Rho→M D} (h:PD X G r1 a f):PD X G true (.UnaryOp .Not a pos) (vNot f):=by
 obtain ⟨t,p,q⟩:=h.drop
 refine ⟨_,Zrk p,fun σ Hf H ρ s c s' Q e1 e2 e3 e4 k=>?_⟩
 obtain ⟨d,s1,a1,a2⟩:=Zah e4
 refine q σ Hf H ρ s d s1 _ e1 e2 e3 a1 fun v Hf1 H1 g1 st1 r1=>?_
 cases d with
 | bl b=>obtain ⟨rfl,rfl⟩:=Zao a2;exact ⟨b,Rep.bl_iff.mp r1,k _ Hf1 H1 g1 st1 (Rep.bl_iff.mpr rfl) fun _=>.scal fun z=>z⟩
 | _=>cases a2
noncomputable def dIf (c:Rho→M Bool) (f g:Rho→M D):Rho→M D:=fun ρ=>Zan (c ρ) fun b=>if b=true then f ρ else g ρ
theorem Zsm {c a b:Expr} {pos:Pos} {r1 r2:Bool} {fc:Rho→M Bool} {f g:Rho→M D} (hc:PDT X G c fc) (ha:PD X G r1 a f) (hb:PD X G r2 b g):PD X G false (.IfExp c a b pos) (dIf fc f g):=by
 obtain ⟨tc,pc,qc⟩:=hc
 obtain ⟨ta,pa,qa⟩:=ha.drop
 obtain ⟨tb,pb,qb⟩:=hb.drop
 refine ⟨_,Zox pc pa pb,fun σ Hf H ρ s d s' Q e1 e2 e3 e4 k=>?_⟩
 obtain ⟨b,s1,a1,a2⟩:=Zah e4
 refine qc σ Hf H ρ s b s1 _ e1 e2 e3 a1 fun Hf1 H1 g1 st1=>?_
 cases b with
 | true=>exact iteT (qa σ Hf1 H1 ρ s1 d s' _ g1.fh (e2.ext g1.ff) st1 a2 fun v Hf2 H2 g2 st2 r2=>k v Hf2 H2 (g1.trans g2) st2 r2 (fun z=>by cases z))
 | false=>exact iteF (qb σ Hf1 H1 ρ s1 d s' _ g1.fh (e2.ext g1.ff) st1 a2 fun v Hf2 H2 g2 st2 r2=>k v Hf2 H2 (g1.trans g2) st2 r2 (fun z=>by cases z))
noncomputable def Zcj (X:Cx) (G:Gh) (f:Value) (g:List D→Option D):Prop:=
 ∃r,ZbH X f r∧∀(Hf H:Hp) (s:Pn) (xs:List V) (ds:List D) (c:D) (Q:VK),Ext G Hf H→G.st s H→RepL G Hf ds xs→g ds=some c→
  (∀v Hf' H',Gr G Hf H Hf' H'→G.st s H'→Rep G Hf' c v→ZaG G H Hf' c v→Q v H')→r xs H Q
noncomputable def Zay (g:List D→Option D) (fs:Rho→M (List D)):Rho→M D:=fun ρ=>Zan (fs ρ) fun ds=>mOf (g ds)
theorem ZaK {id:String} {x:Str} {p pos:Pos} {e:Expr} {es:List Expr} {g:List D→Option D} {fs:Rho→M (List D)} (hc:Zcj X G (.builtin id) g) (hg:Gl X x) (hm:X.mg x=none) (hv:bootBuiltins x=some (.builtin id)) (ha:PDA X G (e::es) fs)
  (hn:x≠"__name__":=by decide) (hdb:(x==("__debug__" : Str))=false:=by decide)
  (he:starEach (e::es) X.env=(false,eval e X.env)::starEach es X.env:=by rfl) (hpl:(backTo pos (starEach es X.env)).any (·.1)=false:=by rfl):PD X G true (.Call (.Name x p) (e::es) [] pos) (Zay g fs):=by
 obtain ⟨r,pr,qr⟩:=hc
 obtain ⟨t,pa,qa⟩:=ha
 refine ⟨_,ZdC pr hg hm hv pa hn hdb he hpl,fun σ Hf H ρ s d s' Q e1 e2 e3 e4 k=>?_⟩
 obtain ⟨ds,s1,a1,a2⟩:=Zah e4
 obtain ⟨a3,rfl⟩:=ZbE a2
 refine qa σ Hf H ρ s ds _ _ e1 e2 e3 a1 fun vs Hf1 H1 g1 st1 r1=>?_
 exact qr Hf1 H1 _ vs ds d Q g1.fh st1 r1 a3 fun v Hf2 H2 g2 st2 r2 fz=>k v Hf2 H2 (g1.trans g2) st2 r2 fun _=>ZaG.old g1.hh r2.nofp fz
theorem ZcM {T:String} {x:Str} {p pos:Pos} {e:Expr} {es:List Expr} {g:List D→Option D} {fs:Rho→M (List D)} (hc:Zcj X G (.type T) g) (hg:Gl X x) (hm:X.mg x=none) (hv:bootBuiltins x=some (.type T)) (ha:PDA X G (e::es) fs)
  (hn:x≠"__name__":=by decide) (hdb:(x==("__debug__" : Str))=false:=by decide)
  (he:starEach (e::es) X.env=(false,eval e X.env)::starEach es X.env:=by rfl) (hpl:(backTo pos (starEach es X.env)).any (·.1)=false:=by rfl):PD X G true (.Call (.Name x p) (e::es) [] pos) (Zay g fs):=by
 obtain ⟨r,pr,qr⟩:=hc
 obtain ⟨t,pa,qa⟩:=ha
 refine ⟨_,ZeB pr hg hm hv pa hn hdb he hpl,fun σ Hf H ρ s d s' Q e1 e2 e3 e4 k=>?_⟩
 obtain ⟨ds,s1,a1,a2⟩:=Zah e4
 obtain ⟨a3,rfl⟩:=ZbE a2
 refine qa σ Hf H ρ s ds _ _ e1 e2 e3 a1 fun vs Hf1 H1 g1 st1 r1=>?_
 exact qr Hf1 H1 _ vs ds d Q g1.fh st1 r1 a3 fun v Hf2 H2 g2 st2 r2 fz=>k v Hf2 H2 (g1.trans g2) st2 r2 fun _=>ZaG.old g1.hh r2.nofp fz
noncomputable def IxD (X:Cx) (G:Gh) (g:D→D→Option D):Prop:=
 ∃r,IxR X r∧∀(Hf H:Hp) (s:Pn) (x y:V) (d e c:D) (Q:VK),Ext G Hf H→G.st s H→Rep G Hf d x→Rep G Hf e y→g d e=some c→
  (∀v,Rep G Hf c v→Q v H)→r x y H Q
theorem Zaz {a b:Expr} {pos:Pos} {fa fb:Rho→M D} {g:D→D→Option D} {r1 r2:Bool} (ho:IxD X G g) (ha:PD X G r1 a fa) (hb:PD X G r2 b fb) (hs:ZlI b:=by intro _ _;rfl):PD X G false (.Subscript a b pos) (dOp g fa fb):=by
 obtain ⟨r,po,qo⟩:=ho
 obtain ⟨ta,pa,qa⟩:=ha.drop
 obtain ⟨tb,pb,qb⟩:=hb.drop
 refine ⟨_,Zi8 po pa pb hs,fun σ Hf H ρ s d s' Q e1 e2 e3 e4 k=>?_⟩
 obtain ⟨da,s1,a1,a2⟩:=Zah e4
 obtain ⟨db,s2,a3,a4⟩:=Zah a2
 obtain ⟨a5,rfl⟩:=ZbE a4
 refine qa σ Hf H ρ s da s1 _ e1 e2 e3 a1 fun x Hf1 H1 g1 st1 r1=>?_
 refine qb σ Hf1 H1 ρ s1 db _ _ g1.fh (e2.ext g1.ff) st1 a3 fun y Hf2 H2 g2 st2 r2=>?_
 exact qo Hf2 H2 _ x y da db d Q g2.fh st2 (r1.ext g2.ff) r2 a5 fun v r3=>k v Hf2 H2 (g1.trans g2) st2 r3 (fun z=>by cases z)
noncomputable def spD (n:Nat) (fr:Bool) (GG:Gh→Prop) (F:List D→M D):Sp:=fun vs H Q _=>∃(G:Gh) (Hf:Hp) (ds:List D) (s:Pn) (d:D) (s':Pn),GG G∧vs.length=n∧Ext G Hf H∧RepL G Hf ds vs∧G.st s H∧F ds s=some (d,s')∧
 ∀v Hf' H',Gr G Hf H Hf' H'→G.st s' H'→Rep G Hf' d v→(fr=true→ZaG G H Hf' d v)→Q v H'
noncomputable def dFn (F:List D→M D) (fs:Rho→M (List D)):Rho→M D:=fun ρ=>Zan (fs ρ) F
theorem Zqh {CX:CXT} {k:Nat} {f:Addr} {fd:FuncData} {ps:List Str} {n:Nat} {fr:Bool} {GG:Gh→Prop} {F:List D→M D} {E:XK} {x:Str} {p pos:Pos} {e:Expr} {es:List Expr} {fs:Rho→M (List D)}
  (FN:FnOk X.prog X.w X.K X.mg X.base CX k f fd ps (spD n fr GG F)) (hG:GG G) (hr:Room k X.A) (hg:Gl X x) (hm:X.mg x=some (.ref f)) (hk:PySem.W.keepIn X.K (.ref f)=true) (hb:ZcE X.K fd ps []) (hx:ZhU CX X E)
  (ha:PDA X G (e::es) fs) (hlen:(e::es).length=n:=by rfl) (hal:∀ρ s ds s',fs ρ s=some (ds,s')→ds.length=(e::es).length)
  (hdb:(x==("__debug__" : Str))=false:=by decide) (he:starEach (e::es) X.env=(false,eval e X.env)::starEach es X.env:=by rfl) (hpl:(backTo pos (starEach es X.env)).any (·.1)=false:=by rfl) :
  PD X G fr (.Call (.Name x p) (e::es) [] pos) (dFn F fs):=by
 obtain ⟨t,pa,qa⟩:=ha
 refine ⟨_,Zh3 FN hr hg hm hk hb .nil hx pa hdb he hpl,fun σ Hf H ρ s d s' Q e1 e2 e3 e4 k=>?_⟩
 obtain ⟨ds,s1,a1,a2⟩:=Zah e4
 refine qa σ Hf H ρ s ds _ _ e1 e2 e3 a1 fun vs Hf1 H1 g1 st1 r1=>?_
 refine ⟨G,Hf1,ds,s1,d,s',hG,by rw [List.append_nil,←r1.length,hal _ _ _ _ a1];exact hlen,g1.fh,by rw [List.append_nil];exact r1,st1,a2,fun v Hf2 H2 g2 st2 r2 fz=>?_⟩
 exact k v Hf2 H2 (g1.trans g2) st2 r2 fun z=>ZaG.old g1.hh r2.nofp (fz z)
theorem Zad {f:Rho→M D} {g:Rho→M (List D)} {n:Nat} (h:∀ρ s ds s',g ρ s=some (ds,s')→ds.length=n):∀ρ s ds s',Zaa f g ρ s=some (ds,s')→ds.length=n+1:=fun ρ s ds s' q=>by
 obtain ⟨d,s1,a1,a2⟩:=Zah q
 obtain ⟨r,s2,a3,a4⟩:=Zah a2
 obtain ⟨rfl,rfl⟩:=Zao a4
 simp [h _ _ _ _ a3]
theorem Zar:∀ρ s ds s',dNil ρ s=some (ds,s')→ds.length=0:=fun ρ s ds s' q=>by
 obtain ⟨rfl,rfl⟩:=Zao q
 rfl
end
mutual
noncomputable def Zci:D→Bool
 | .tup ds=>ZeZ ds
 | .lst _=>false
 | .dk _=>false
 | .dt _=>false
 | .du _=>false
 | .df _=>false
 | .clo _ _=>false
 | _=>true
noncomputable def ZeZ:List D→Bool
 | []=>true
 | d::ds=>Zci d&&ZeZ ds
end
mutual
theorem Rep.only {G:Gh} {H H':Hp} (e:∀b vs,¬G.fp b→H b=some (.tup vs)→H' b=some (.tup vs)):∀{d:D} {v:V},Zci d=true→Rep G H d v→Rep G H' d v
 | .non,_,_,h=>h
 | .bl _,_,_,h=>h
 | .int _,_,_,h=>h
 | .str _,_,_,h=>h
 | .tup ds,v,n,h=>by
  obtain ⟨a,vs,e1,nf,e2,r⟩:=Rep.tup_iff.mp h
  exact Rep.tup_iff.mpr ⟨a,vs,e1,nf,e _ _ nf e2,RepL.only e (by simpa [Zci] using n) r⟩
 | .lst ds,v,n,h=>by simp [Zci] at n
 | .dk kvs,v,n,h=>by simp [Zci] at n
 | .dt kvs,v,n,h=>by simp [Zci] at n
 | .du kvs,v,n,h=>by simp [Zci] at n
 | .df kvs,v,n,h=>by simp [Zci] at n
 | .pen,_,_,h=>h
 | .ty _,_,_,h=>h
 | .clo _ _,v,n,h=>by simp [Zci] at n
theorem RepL.only {G:Gh} {H H':Hp} (e:∀b vs,¬G.fp b→H b=some (.tup vs)→H' b=some (.tup vs)):∀{ds:List D} {vs:List V},ZeZ ds=true→RepL G H ds vs→RepL G H' ds vs
 | [],_,_,h=>h
 | d::ds,vs,n,h=>by
  obtain ⟨v,r,e1,r1,r2⟩:=RepL.cons_iff.mp h
  have n':Zci d=true∧ZeZ ds=true:=by simpa [ZeZ] using n
  exact RepL.cons_iff.mpr ⟨v,r,e1,Rep.only e n'.1 r1,RepL.only e n'.2 r2⟩
end
noncomputable def Zdx (G:Gh) (Hf H:Hp) (a:Addr):D→Prop
 | .lst ds=>∃vs,H a=some (.lst vs)∧RepL G Hf ds vs
 | .dk kvs=>H a=some (.dK kvs)
 | .dt kvs=>∃o,H a=some (.frz o (.dT kvs))
 | .du kvs=>H a=some (.dT kvs)
 | _=>False
theorem Zdx.there {G:Gh} {Hf H:Hp} {a:Addr} {d:D} (h:Zdx G Hf H a d):∃o,H a=some o∧∀vs,o≠.tup vs:=by
 cases d with
 | lst ds=>obtain ⟨vs,e,_⟩:=h;exact ⟨_,e,fun _ z=>by cases z⟩
 | dk kvs=>exact ⟨_,h,fun _ z=>by cases z⟩
 | dt kvs=>obtain ⟨o,h⟩:=h;exact ⟨_,h,fun _ z=>by cases z⟩
 | du kvs=>exact ⟨_,h,fun _ z=>by cases z⟩
 | _=>exact h.elim
theorem Zdx.keep {G:Gh} {Hf H Hf' H':Hp} {a:Addr} {d:D} (h:Zdx G Hf H a d) (e:Ext G Hf Hf') (ha:∀o,H a=some o→H' a=some o):Zdx G Hf' H' a d:=by
 cases d with
 | lst ds=>obtain ⟨vs,q,r⟩:=h;exact ⟨vs,ha _ q,r.ext e⟩
 | dk kvs=>exact ha _ h
 | dt kvs=>obtain ⟨o,h⟩:=h;exact ⟨o,ha _ h⟩
 | du kvs=>exact ha _ h
 | _=>exact h.elim
theorem Zdx.rep {G:Gh} {Hf H Hf':Hp} {a:Addr} {d:D} (h:Zdx G Hf H a d) (nf:¬G.fp a) (e:Ext G Hf Hf') (ha:∀o,H a=some o→Hf' a=some o):Rep G Hf' d (.ref a):=by
 cases d with
 | lst ds=>obtain ⟨vs,q,r⟩:=h;exact Rep.lst_iff.mpr ⟨a,vs,rfl,nf,ha _ q,r.ext e⟩
 | dk kvs=>exact Rep.dk_iff.mpr ⟨a,rfl,nf,ha _ h⟩
 | dt kvs=>obtain ⟨o,h⟩:=h;exact Rep.dt_iff.mpr ⟨a,o,rfl,nf,ha _ h⟩
 | du kvs=>exact Rep.du_iff.mpr ⟨a,rfl,nf,ha _ h⟩
 | _=>exact h.elim
structure Jf (G:Gh) (own:List Nat) (kn Hf0 H0:Hp) (σ:St) (Hf H:Hp) (ρ:Rho):Prop where
 len:σ.length=ρ.length
 kn:Ext G kn Hf
 gr:Gr G Hf0 H0 Hf H
 fz:∀(i:Nat) (d:D),i∉own→ρ[i]?=some (some d)→∃v,σ[i]?=some (some v)∧Rep G Hf d v
 ow:∀(i:Nat) (d:D),i∈own→ρ[i]?=some (some d)→∃a,σ[i]?=some (some (.ref a))∧¬G.rd a∧Hf a=none∧H0 a=none∧Zdx G Hf H a d
 ne:∀(i j:Nat) (a:Addr) (di dj:D),i∈own→j∈own→i≠j→ρ[i]?=some (some di)→ρ[j]?=some (some dj)→σ[i]?=some (some (.ref a))→σ[j]?=some (some (.ref a))→False
noncomputable def J (G:Gh) (own:List Nat) (kn Hf0 H0:Hp) (σ:St) (H:Hp) (ρ:Rho):Prop:=∃Hf,Jf G own kn Hf0 H0 σ Hf H ρ
noncomputable def hide (own:List Nat) (ρ:Rho):Rho:=ρ.mapIdx fun i o=>if i∈own then none else o
theorem Zka (ρ:Rho):hide [] ρ=ρ:=by
 unfold hide
 apply List.ext_getElem?
 intro i
 simp
theorem Zo9 {own:List Nat} {ρ:Rho} {i:Nat} {d:D} (h:(hide own ρ)[i]?=some (some d)):i∉own∧ρ[i]?=some (some d):=by
 unfold hide at h
 rw [List.getElem?_mapIdx] at h
 cases e:ρ[i]? with
 | none=>rw [e] at h;cases h
 | some o=>
  rw [e] at h
  simp only [Option.map_some,Option.some.injEq] at h
  split at h
  ·cases h
  ·rename_i hn;exact ⟨hn,by rw [h]⟩
section
variable {X:Cx} {G:Gh} {own:List Nat} {kn Hf0 H0 Hf H:Hp} {σ:St} {ρ:Rho}
theorem Jf.envA (j:Jf G own kn Hf0 H0 σ Hf H ρ):EnvR G Hf σ (hide own ρ):=fun i d e=>by
 obtain ⟨n,q⟩:=Zo9 e
 exact j.fz i d n q
theorem Gh.sub' {G:Gh} {a:Addr} (h:¬G.rd a):¬G.fp a:=fun z=>h (G.sub a z)
theorem Jf.grow {Hf' H':Hp} (j:Jf G own kn Hf0 H0 σ Hf H ρ) (g:Gr G Hf H Hf' H'):Jf G own kn Hf0 H0 σ Hf' H' ρ where
 len:=j.len
 kn:=j.kn.trans g.ff
 gr:=j.gr.trans g
 fz:=fun i d n e=>let ⟨v,a,b⟩:=j.fz i d n e;⟨v,a,b.ext g.ff⟩
 ow:=fun i d m e=>by
  obtain ⟨a,h1,h2,h3,h4,h5⟩:=j.ow i d m e
  have nf:=Gh.sub' h2
  refine ⟨a,h1,h2,?_,h4,h5.keep g.ff fun o q=>g.hh a o nf q⟩
  exact g.nw a nf h3 h5.there
 ne:=j.ne
noncomputable def wide (Hf0 H0 H:Hp):Hp:=fun b=>open Classical in if Hf0 b=none∧Nt (H0 b) then none else H b
theorem Zdh {Hf0 H0 H:Hp}:Ext G (wide Hf0 H0 H) H:=fun b o _ e=>by
 unfold wide at e
 split at e
 ·cases e
 ·exact e
theorem Jf.wideF (j:Jf G own kn Hf0 H0 σ Hf H ρ):Ext G Hf (wide Hf0 H0 H):=fun b o n e=>by
 unfold wide
 split
 ·rename_i h
  rw [j.gr.nw b n h.1 h.2] at e;cases e
 ·exact j.gr.fh b o n e
theorem Jf.envB (j:Jf G own kn Hf0 H0 σ Hf H ρ):EnvR G (wide Hf0 H0 H) σ ρ:=fun i d e=>by
 by_cases m:i∈own
 ·obtain ⟨a,h1,h2,h3,h4,h5⟩:=j.ow i d m e
  refine ⟨_,h1,h5.rep (Gh.sub' h2) j.wideF fun o q=>?_⟩
  unfold wide
  rw [if_neg (fun z=>z.2.no h4)]
  exact q
 ·obtain ⟨v,h1,h2⟩:=j.fz i d m e
  exact ⟨v,h1,h2.ext j.wideF⟩
theorem Jf.grW {Hf' H':Hp} (j:Jf G own kn Hf0 H0 σ Hf H ρ) (g:Gr G (wide Hf0 H0 H) H Hf' H'):Gr G Hf0 H0 Hf' H' where
 hh:=j.gr.hh.trans g.hh
 ff:=fun b o n e=>g.ff b o n (j.wideF b o n (j.gr.ff b o n e))
 fh:=g.fh
 nw:=fun b n h1 h2=>g.nw b n (by unfold wide;rw [if_pos ⟨h1,h2⟩]) (let ⟨u,e,nt⟩:=h2;⟨u,j.gr.hh b u n e,nt⟩)
noncomputable def okB:D→Bool
 | .lst ds=>ZeZ ds
 | .dk _=>true
 | .dt _=>true
 | .du _=>true
 | _=>false
theorem Zqw {d:D} (h:okB d=true):Zfp d:=by
 cases d <;> first | trivial | (simp [okB] at h)
theorem Jf.growB {Hf' H':Hp} (j:Jf G own kn Hf0 H0 σ Hf H ρ) (g:Gr G (wide Hf0 H0 H) H Hf' H') :
  ∃Hf'',Jf G own kn Hf0 H0 σ Hf'' H' ρ∧Ext G Hf Hf''∧(∀d v,Zci d=true→Rep G Hf' d v→Rep G Hf'' d v)∧∀d v,okB d=true→ZaG G H Hf' d v→Rep G Hf' d v→Rep G Hf'' d v∧ZaG G H Hf'' d v:=by
 classical
 -- the owned addresses are left out again
 let OA:Addr→Prop:=fun b=>∃i d,i∈own∧ρ[i]?=some (some d)∧σ[i]?=some (some (.ref b))
 have oaH:∀b,OA b→Hf b=none∧¬G.rd b∧∃o,H b=some o∧∀vs,o≠.tup vs:=fun b ⟨i,d,m,e,q⟩=>by
  obtain ⟨a,h1,h2,h3,h4,h5⟩:=j.ow i d m e
  rw [q] at h1;cases h1
  exact ⟨h3,h2,h5.there⟩
 have W:=j.grW g
 refine ⟨fun b=>if OA b then none else Hf' b,?_⟩
 have fF:Ext G Hf (fun b=>if OA b then none else Hf' b):=fun b o n e=>by
  have:¬OA b:=fun z=>by rw [(oaH b z).1] at e;cases e
  show (if OA b then none else Hf' b)=_
  rw [if_neg this]
  exact g.ff b o n (j.wideF b o n e)
 have Fh:Ext G (fun b=>if OA b then none else Hf' b) H':=fun b o n e=>by
  have e':(if OA b then none else Hf' b)=some o:=e
  split at e'
  ·cases e'
  ·exact g.fh b o n e'
 have tupK:∀b vs,¬G.fp b→Hf' b=some (.tup vs)→(if OA b then none else Hf' b)=some (.tup vs):=fun b vs nf e=>by
  have:¬OA b:=fun z=>by
   obtain ⟨_,_,o,q,nt⟩:=oaH b z
   have q1:=g.hh b o nf q
   have q2:=g.fh b _ nf e
   rw [q1] at q2
   exact nt vs (Option.some.inj q2)
  rw [if_neg this]
  exact e
 have frK:∀a,H a=none→¬OA a:=fun a e z=>by
  obtain ⟨_,_,o,q,nt⟩:=oaH a z
  rw [e] at q;cases q
 refine ⟨⟨j.len,j.kn.trans fF,⟨W.hh,j.gr.ff.trans fF,Fh,fun b n h1 h2=>?_⟩,fun i d n e=>?_,fun i d m e=>?_,j.ne⟩,fF,fun d v n r=>Rep.only tupK n r,fun d v ok fr r=>?_⟩
 ·show (if OA b then none else Hf' b)=none
  split
  ·rfl
  ·exact W.nw b n h1 h2
 ·obtain ⟨v,a,b⟩:=j.fz i d n e
  exact ⟨v,a,b.ext fF⟩
 ·obtain ⟨a,h1,h2,h3,h4,h5⟩:=j.ow i d m e
  refine ⟨a,h1,h2,?_,h4,h5.keep fF fun o q=>g.hh a o (Gh.sub' h2) q⟩
  show (if OA a then none else Hf' a)=none
  rw [if_pos ⟨i,d,m,e,h1⟩]
 ·cases d with
  | lst ds=>
   obtain ⟨a,vs,e,n,q,r'⟩:=Rep.lst_iff.mp r
   have na:=frK a (fr a e trivial).1
   have ea:(if OA a then none else Hf' a)=some (.lst vs):=by rw [if_neg na];exact q
   refine ⟨Rep.lst_iff.mpr ⟨a,vs,e,n,ea,RepL.only tupK ok r'⟩,fun b eb m=>?_⟩
   rw [e] at eb;cases eb
   refine ⟨(fr a e trivial).1,fun ds' ed=>?_⟩
   cases ed
   refine ⟨vs,fun b=>if b=a then none else if OA b then none else Hf' b,ea,if_pos rfl,fun b o nb eb=>?_,?_⟩
   ·have eb':(if b=a then none else if OA b then none else Hf' b)=some o:=eb
    split at eb'
    ·cases eb'
    ·exact eb'
   ·refine RepL.only (fun b ws nb eb=>?_) ok r'
    have hba:b≠a:=fun z=>by rw [z,q] at eb;cases eb
    show (if b=a then none else if OA b then none else Hf' b)=_
    rw [if_neg hba]
    exact tupK b ws nb eb
  | dk ds=>
   obtain ⟨a,e,n,q⟩:=Rep.dk_iff.mp r
   have na:=frK a (fr a e trivial).1
   refine ⟨Rep.dk_iff.mpr ⟨a,e,n,?_⟩,fun b eb m=>⟨(fr b eb m).1,fun ds' ed=>by cases ed⟩⟩
   show (if OA a then none else Hf' a)=_
   rw [if_neg na];exact q
  | dt ds=>
   obtain ⟨a,o,e,n,q⟩:=Rep.dt_iff.mp r
   have na:=frK a (fr a e trivial).1
   refine ⟨Rep.dt_iff.mpr ⟨a,o,e,n,?_⟩,fun b eb m=>⟨(fr b eb m).1,fun ds' ed=>by cases ed⟩⟩
   show (if OA a then none else Hf' a)=_
   rw [if_neg na];exact q
  | du ds=>
   obtain ⟨a,e,n,q⟩:=Rep.du_iff.mp r
   have na:=frK a (fr a e trivial).1
   refine ⟨Rep.du_iff.mpr ⟨a,e,n,?_⟩,fun b eb m=>⟨(fr b eb m).1,fun ds' ed=>by cases ed⟩⟩
   show (if OA a then none else Hf' a)=_
   rw [if_neg na];exact q
  | _=>exact absurd (Zqw ok) (fun z=>z)
theorem Jf.set {i:Nat} {d:D} {v:V} {own':List Nat} (j:Jf G own kn Hf0 H0 σ Hf H ρ) (ho:∀k,k∈own'→k≠i∧k∈own) (hk:∀k,k∈own→k≠i→k∈own') (r:Rep G Hf d v):Jf G own' kn Hf0 H0 (σ.set i (some v)) Hf H (ρ.set i (some d)) where
 len:=by simp [j.len]
 kn:=j.kn
 gr:=j.gr
 fz:=fun k c n e=>by
  by_cases h:i=k
  ·subst h
   have hl:i < ρ.length:=by
    have:=(List.getElem?_eq_some_iff.mp e).1
    simpa using this
   rw [List.getElem?_set_self hl] at e
   cases e
   exact ⟨v,List.getElem?_set_self (by rw [j.len];exact hl),r⟩
  ·rw [List.getElem?_set_ne h] at e ⊢
   exact j.fz k c (fun z=>n (hk k z (Ne.symm h))) e
 ow:=fun k c m e=>by
  have h:i≠k:=Ne.symm (ho k m).1
  rw [List.getElem?_set_ne h] at e ⊢
  exact j.ow k c (ho k m).2 e
 ne:=fun k l a dk dl mk ml n ek el sk sl=>by
  have h:i≠k:=Ne.symm (ho k mk).1
  have h':i≠l:=Ne.symm (ho l ml).1
  rw [List.getElem?_set_ne h] at ek sk
  rw [List.getElem?_set_ne h'] at el sl
  exact j.ne k l a dk dl (ho k mk).2 (ho l ml).2 n ek el sk sl
noncomputable def Zf4:D→Bool
 | .lst _=>true
 | .dk _=>true
 | .dt _=>true
 | .du _=>true
 | _=>false
theorem Zme {d:D} (h:Zf4 d=true):Zfp d:=by
 cases d <;> first | trivial | (simp [Zf4] at h)
theorem Jf.setOwn {i:Nat} {d:D} {v:V} {Hb Hq:Hp} {s:Pn} {own':List Nat} (j0:Jf G own kn Hf0 H0 σ Hq Hb ρ) (j:Jf G own kn Hf0 H0 σ Hf H ρ) (ho:∀k,k∈own'↔k=i∨k∈own) (st:G.st s Hb) (hb:Ext G Hb H) (hq:Ext G Hq Hf)
  (r:Rep G Hf d v) (fr:ZaG G Hb Hf d v) (ok:Zf4 d=true):∃Hf',Jf G own' kn Hf0 H0 (σ.set i (some v)) Hf' H (ρ.set i (some d)):=by
 classical
 have mu:=Zme ok
 obtain ⟨a,ea,nfa⟩:∃a,v=.ref a∧¬G.fp a:=by
  cases d with
  | lst ds=>obtain ⟨a,vs,e,n,_⟩:=Rep.lst_iff.mp r;exact ⟨a,e,n⟩
  | dk ds=>obtain ⟨a,e,n,_⟩:=Rep.dk_iff.mp r;exact ⟨a,e,n⟩
  | dt ds=>obtain ⟨a,_,e,n,_⟩:=Rep.dt_iff.mp r;exact ⟨a,e,n⟩
  | du ds=>obtain ⟨a,e,n,_⟩:=Rep.du_iff.mp r;exact ⟨a,e,n⟩
  | _=>exact mu.elim
 subst ea
 have fra:Hb a=none:=(fr a rfl mu).1
 have hqa:Hq a=none:=by
  cases e:Hq a with
  | none=>rfl
  | some o=>rw [j0.gr.fh a o nfa e] at fra;cases fra
 have h0a:H0 a=none:=by
  cases e:H0 a with
  | none=>rfl
  | some o=>rw [j0.gr.hh a o nfa e] at fra;cases fra
 have qF:Ext G Hq (fun b=>if b=a then none else Hf b):=fun b o n e=>by
  have:b≠a:=fun z=>by rw [z,hqa] at e;cases e
  show (if b=a then none else Hf b)=_
  rw [if_neg this];exact hq b o n e
 have oldA:∀k c,k∈own→ρ[k]?=some (some c)→σ[k]?≠some (some (.ref a)):=fun k c m e z=>by
  obtain ⟨b,h1,_,_,_,h5⟩:=j0.ow k c m e
  rw [z] at h1;cases h1
  obtain ⟨o,q,_⟩:=h5.there
  rw [fra] at q;cases q
 refine ⟨fun b=>if b=a then none else Hf b,by simp [j.len],j0.kn.trans qF,⟨j.gr.hh,j0.gr.ff.trans qF,fun b o n e=>?_,fun b n h1 h2=>?_⟩,fun k c n e=>?_,fun k c m e=>?_,fun k l b dk dl mk ml n ek el sk sl=>?_⟩
 ·have e':(if b=a then none else Hf b)=some o:=e
  split at e'
  ·cases e'
  ·exact j.gr.fh b o n e'
 ·show (if b=a then none else Hf b)=none
  split
  ·rfl
  ·exact j.gr.nw b n h1 h2
 ·have h:i≠k:=fun z=>n ((ho k).mpr (.inl z.symm))
  rw [List.getElem?_set_ne h] at e ⊢
  obtain ⟨v,q1,q2⟩:=j0.fz k c (fun z=>n ((ho k).mpr (.inr z))) e
  exact ⟨v,q1,q2.ext qF⟩
 ·by_cases h:i=k
  ·subst h
   have hl:i < ρ.length:=by
    have:=(List.getElem?_eq_some_iff.mp e).1
    simpa using this
   rw [List.getElem?_set_self hl] at e
   cases e
   refine ⟨a,List.getElem?_set_self (by rw [j.len];exact hl),Gh.nord st fra,by show (if a=a then none else Hf a)=none;rw [if_pos rfl],h0a,?_⟩
   cases d with
   | lst ds=>
    obtain ⟨a',vs,e',n',q',r'⟩:=Rep.lst_iff.mp r
    cases e'
    obtain ⟨ws,Hm,f1,f2,f3,f4⟩:=(fr a rfl mu).2 ds rfl
    rw [q'] at f1;cases f1
    refine ⟨vs,j.gr.fh a _ n' q',f4.ext fun b o nb eb=>?_⟩
    have:b≠a:=fun z=>by rw [z,f2] at eb;cases eb
    show (if b=a then none else Hf b)=_
    rw [if_neg this];exact f3 b o nb eb
   | dk ds=>obtain ⟨a',e',n',q'⟩:=Rep.dk_iff.mp r;cases e';exact j.gr.fh a _ n' q'
   | dt ds=>obtain ⟨a',o',e',n',q'⟩:=Rep.dt_iff.mp r;cases e';exact ⟨o',j.gr.fh a _ n' q'⟩
   | du ds=>obtain ⟨a',e',n',q'⟩:=Rep.du_iff.mp r;cases e';exact j.gr.fh a _ n' q'
   | _=>exact mu.elim
  ·have m':k∈own:=((ho k).mp m).resolve_left (Ne.symm h)
   rw [List.getElem?_set_ne h] at e ⊢
   obtain ⟨b,h1,h2,h3,h4,h5⟩:=j0.ow k c m' e
   obtain ⟨b',g1,g2,g3,g4,g5⟩:=j.ow k c m' e
   rw [h1] at g1;cases g1
   refine ⟨b,h1,h2,?_,h4,h5.keep qF fun o q=>hb b o (Gh.sub' h2) q⟩
   show (if b=a then none else Hf b)=none
   split
   ·rfl
   ·exact g3
 ·by_cases hk:i=k
  ·subst hk
   have h':i≠l:=n
   have hl:i < σ.length:=by
    have:=(List.getElem?_eq_some_iff.mp sk).1
    simpa using this
   rw [List.getElem?_set_self hl] at sk
   cases sk
   rw [List.getElem?_set_ne h'] at el sl
   exact oldA l dl (((ho l).mp ml).resolve_left (Ne.symm h')) el sl
  ·by_cases hl':i=l
   ·subst hl'
    have hl:i < σ.length:=by
     have:=(List.getElem?_eq_some_iff.mp sl).1
     simpa using this
    rw [List.getElem?_set_self hl] at sl
    cases sl
    rw [List.getElem?_set_ne hk] at ek sk
    exact oldA k dk (((ho k).mp mk).resolve_left (Ne.symm hk)) ek sk
   ·rw [List.getElem?_set_ne hk] at ek sk
    rw [List.getElem?_set_ne hl'] at el sl
    exact j.ne k l b dk dl (((ho k).mp mk).resolve_left (Ne.symm hk)) (((ho l).mp ml).resolve_left (Ne.symm hl')) n ek el sk sl
theorem Jf.freeze {own':List Nat} (j:Jf G own kn Hf0 H0 σ Hf H ρ) (ho:∀k,k∈own'→k∈own):∃Hf',Jf G own' kn Hf0 H0 σ Hf' H ρ:=by
 classical
 let OA:Addr→Prop:=fun b=>∃i d,i∈own∧i∉own'∧ρ[i]?=some (some d)∧σ[i]?=some (some (.ref b))
 have oaH:∀b,OA b→Hf b=none∧H0 b=none:=fun b ⟨i,d,m,_,e,q⟩=>by
  obtain ⟨a,h1,h2,h3,h4,h5⟩:=j.ow i d m e
  rw [q] at h1;cases h1
  exact ⟨h3,h4⟩
 have fF:Ext G Hf (fun b=>if OA b then H b else Hf b):=fun b o n e=>by
  have:¬OA b:=fun z=>by rw [(oaH b z).1] at e;cases e
  show (if OA b then H b else Hf b)=_
  rw [if_neg this];exact e
 refine ⟨fun b=>if OA b then H b else Hf b,j.len,j.kn.trans fF,⟨j.gr.hh,j.gr.ff.trans fF,fun b o n e=>?_,fun b n h1 h2=>?_⟩,fun k c n e=>?_,fun k c m e=>?_,fun k l b dk dl mk ml=>j.ne k l b dk dl (ho k mk) (ho l ml)⟩
 ·have e':(if OA b then H b else Hf b)=some o:=e
  split at e'
  ·exact e'
  ·exact j.gr.fh b o n e'
 ·have:¬OA b:=fun z=>h2.no (oaH b z).2
  show (if OA b then H b else Hf b)=none
  rw [if_neg this];exact j.gr.nw b n h1 h2
 ·by_cases m:k∈own
  ·obtain ⟨a,h1,h2,h3,h4,h5⟩:=j.ow k c m e
   refine ⟨_,h1,h5.rep (Gh.sub' h2) fF fun o q=>?_⟩
   show (if OA a then H a else Hf a)=_
   rw [if_pos ⟨k,c,m,n,e,h1⟩];exact q
  ·obtain ⟨v,h1,h2⟩:=j.fz k c m e
   exact ⟨v,h1,h2.ext fF⟩
 ·obtain ⟨a,h1,h2,h3,h4,h5⟩:=j.ow k c (ho k m) e
  refine ⟨a,h1,h2,?_,h4,h5.keep fF fun o q=>q⟩
  have:¬OA a:=fun ⟨i,d,mi,ni,ei,qi⟩=>j.ne i k a d c mi (ho k m) (fun z=>ni (z▸m)) ei e qi h1
  show (if OA a then H a else Hf a)=none
  rw [if_neg this];exact h3
end
theorem Jf.setF {G:Gh} {own:List Nat} {kn Hf0 H0 Hf H:Hp} {σ:St} {ρ:Rho} {i:Nat} {d:D} {v:V} (j:Jf G own kn Hf0 H0 σ Hf H ρ) (hi:i∉own) (r:Rep G Hf d v):Jf G own kn Hf0 H0 (σ.set i (some v)) Hf H (ρ.set i (some d)):=
 j.set (own':=own) (fun k m=>⟨fun z=>hi (by rw [←z];exact m),m⟩) (fun k m _=>m) r
noncomputable def Yld (G:Gh) (fr:Bool) (t:TE) (f:Rho→M D):Prop:=
 ∀(σ:St) (Hf H:Hp) (ρ:Rho) (s:Pn) (d:D) (s':Pn) (Q:VK),Ext G Hf H→EnvR G Hf σ ρ→G.st s H→f ρ s=some (d,s')→
  (∀v Hf' H',Gr G Hf H Hf' H'→G.st s' H'→Rep G Hf' d v→(fr=true→ZaG G H Hf' d v)→Q v H')→t σ H Q
noncomputable def YldJ (G:Gh) (own:List Nat) (fr:Bool) (t:TE) (f:Rho→M D):Prop:=
 ∀(kn Hf0 H0:Hp) (σ:St) (Hf H:Hp) (ρ:Rho) (s:Pn) (d:D) (s':Pn) (Q:VK),Jf G own kn Hf0 H0 σ Hf H ρ→G.st s H→f ρ s=some (d,s')→
  (∀v Hf' H',Jf G own kn Hf0 H0 σ Hf' H' ρ→Ext G Hf Hf'→Ext G H H'→G.st s' H'→Rep G Hf' d v→(fr=true→ZaG G H Hf' d v)→Q v H')→t σ H Q
section
variable {X:Cx} {G:Gh} {own:List Nat} {fr:Bool} {t:TE} {f:Rho→M D}
theorem Yld.a (h:Yld G fr t f):YldJ G own fr t (fun ρ=>f (hide own ρ)):=fun kn Hf0 H0 σ Hf H ρ s d s' Q j st e k=>
 h σ Hf H (hide own ρ) s d s' Q j.gr.fh j.envA st e fun v Hf' H' g st' r fz=>k v Hf' H' (j.grow g) g.ff g.hh st' r fz
theorem Yld.n (h:Yld G fr t f):YldJ G [] fr t f:=fun kn Hf0 H0 σ Hf H ρ s d s' Q j st e k=>
 h.a kn Hf0 H0 σ Hf H ρ s d s' Q j st (by show f (hide [] ρ) s=_;rw [Zka];exact e) k
theorem Znl {d:D} (h:Zci d=true):¬Zfp d:=by
 cases d <;> first | exact (fun z=>z) | (simp [Zci] at h)
noncomputable def chk (fr:Bool) (f:Rho→M D):Rho→M D:=fun ρ=>Zan (f ρ) fun d=>if (Zci d||(fr&&okB d))=true then mret d else Zau
theorem Zn2 {fr:Bool} {f:Rho→M D} {ρ:Rho} {s s':Pn} {d:D} (h:f ρ s=some (d,s')) (c:(Zci d||(fr&&okB d))=true):chk fr f ρ s=some (d,s'):=by
 unfold chk Zan
 rw [h]
 show (if (Zci d||(fr&&okB d))=true then mret d else Zau) s'=_
 rw [if_pos c]
 rfl
theorem Yld.b (h:Yld G fr t f):YldJ G own fr t (chk fr f):=fun kn Hf0 H0 σ Hf H ρ s d s' Q j st e k=>by
 obtain ⟨d1,s1,a1,a2⟩:=Zah e
 obtain ⟨c,a3⟩:=Za4 a2
 obtain ⟨rfl,rfl⟩:=Zao a3
 refine h σ _ H ρ s d s' Q Zdh j.envB st a1 fun v Hf' H' g st' r fz=>?_
 obtain ⟨F,j',fF,q1,q2⟩:=j.growB g
 rcases Bool.or_eq_true_iff.mp c with c | c
 ·exact k v F H' j' fF g.hh st' (q1 d v c r) fun z a ea m=>absurd m (Znl c)
 ·obtain ⟨c1,c2⟩:=Bool.and_eq_true_iff.mp c
  obtain ⟨x1,x2⟩:=q2 d v c2 (fz c1) r
  exact k v F H' j' fF g.hh st' x1 fun _=>x2
inductive Out where
 | nx (ρ:Rho) | rt (d:D) | bk (ρ:Rho) | ct (ρ:Rho)
noncomputable def Post (G:Gh) (ob own':List Nat) (kn Hf0 H0:Hp) (fr:Bool) (out:Out) (s':Pn) (E:Ends):Prop:=match out with
 | .nx ρ=>∀σ H,J G own' kn Hf0 H0 σ H ρ→G.st s' H→E.nx σ H
 | .bk ρ=>∀σ H,J G ob kn Hf0 H0 σ H ρ→G.st s' H→E.bk σ H
 | .ct ρ=>∀σ H,J G ob kn Hf0 H0 σ H ρ→G.st s' H→E.ct σ H
 | .rt d=>∀v Hf' H',Gr G Hf0 H0 Hf' H'→G.st s' H'→Rep G Hf' d v→(fr=true→ZaG G H0 Hf' d v)→E.rt v H'
noncomputable def Dos (G:Gh) (ob own own':List Nat) (fr:Bool) (t:TS) (g:Rho→M Out):Prop:=
 ∀(kn Hf0 H0:Hp) (σ:St) (H:Hp) (ρ:Rho) (s:Pn) (out:Out) (s':Pn) (E:Ends),J G own kn Hf0 H0 σ H ρ→G.st s H→g ρ s=some (out,s')→Post G ob own' kn Hf0 H0 fr out s' E→t E σ H
noncomputable def PDS (X:Cx) (G:Gh) (ob own own':List Nat) (fr:Bool) (st:Stmt) (g:Rho→M Out):Prop:=∃t,PS X st t∧Dos G ob own own' fr t g
noncomputable def PDSs (X:Cx) (G:Gh) (ob own own':List Nat) (fr:Bool) (sts:List Stmt) (g:Rho→M Out):Prop:=∃t,PSs X sts t∧Dos G ob own own' fr t g
variable {ob own' own2:List Nat}
noncomputable def Zap:Rho→M Out:=fun ρ=>mret (.nx ρ)
noncomputable def sSeq (g1 g2:Rho→M Out):Rho→M Out:=fun ρ=>Zan (g1 ρ) fun o=>match o with | .nx ρ'=>g2 ρ' | .rt d=>mret (.rt d) | .bk ρ'=>mret (.bk ρ') | .ct ρ'=>mret (.ct ρ')
theorem Zal (hs:∀k,k∈own'→k∈own:=by decide):PDSs X G ob own own' fr [] Zap:=⟨_,Zh1,fun kn Hf0 H0 σ H ρ s out s' E ⟨Hf,j⟩ st e p=>by
 obtain ⟨rfl,rfl⟩:=Zao e
 exact p σ H (j.freeze hs) st⟩
theorem Zaf {st:Stmt} {sts:List Stmt} {g1 g2:Rho→M Out} (h:PDS X G ob own own2 fr st g1) (h2:PDSs X G ob own2 own' fr sts g2):PDSs X G ob own own' fr (st::sts) (sSeq g1 g2):=by
 obtain ⟨t,p,q⟩:=h
 obtain ⟨u,p2,q2⟩:=h2
 refine ⟨_,ZbP p p2,fun kn Hf0 H0 σ H ρ s out s' E j st e po=>?_⟩
 obtain ⟨o,s1,a1,a2⟩:=Zah e
 refine q kn Hf0 H0 σ H ρ s o s1 _ j st a1 ?_
 cases o with
 | nx ρ1=>exact fun σ1 H1 j1 st1=>q2 kn Hf0 H0 σ1 H1 ρ1 s1 out s' E j1 st1 a2 po
 | rt d=>obtain ⟨rfl,rfl⟩:=Zao a2;exact po
 | bk ρ1=>obtain ⟨rfl,rfl⟩:=Zao a2;exact po
 | ct ρ1=>obtain ⟨rfl,rfl⟩:=Zao a2;exact po
noncomputable def sRet (f:Rho→M D):Rho→M Out:=fun ρ=>Zan (f ρ) fun d=>mret (.rt d)
theorem Zax {e:Expr} {pos:Pos} (h:PD X G fr e f):PDS X G ob own own' fr (.Return (some e) pos) (sRet f):=by
 obtain ⟨t,p,q⟩:=h
 refine ⟨_,ZeS p,fun kn Hf0 H0 σ H ρ s out s' E ⟨Hf,j⟩ st e po=>?_⟩
 obtain ⟨d,s1,a1,a2⟩:=Zah e
 obtain ⟨rfl,rfl⟩:=Zao a2
 exact q σ _ H ρ s d s' _ Zdh j.envB st a1 fun v Hf' H' g st' r fz=>po v Hf' H' (j.grW g) st' r fun z=>ZaG.old j.gr.hh r.nofp (fz z)
theorem ZlZ {i:Nat} {x:Str} {pos pos':Pos} (hi:i∈own) (h:PE X (.Name x pos') (tVar i)):PDS X G ob own own' true (.Return (some (.Name x pos')) pos) (sRet (dVar i)):=by
 refine ⟨_,ZeS h,fun kn Hf0 H0 σ H ρ s out s' E ⟨Hf,j⟩ st e po=>?_⟩
 obtain ⟨d,s1,a1,a2⟩:=Zah e
 obtain ⟨rfl,rfl⟩:=Zao a2
 obtain ⟨e1,rfl⟩:=ZbE a1
 have e':ρ[i]?=some (some d):=by
  cases q:ρ[i]? with
  | none=>rw [q] at e1;cases e1
  | some o=>rw [q] at e1;simp at e1;rw [e1]
 obtain ⟨v,h1,h2⟩:=j.envB i d e'
 obtain ⟨a,g1,g2,g3,g4,g5⟩:=j.ow i d hi e'
 rw [g1] at h1;cases h1
 refine ⟨_,g1,po (.ref a) _ H (j.grW (.refl Zdh)) st h2 fun _ b eb _=>?_⟩
 cases eb
 refine ⟨g4,fun ds ed=>?_⟩
 subst ed
 obtain ⟨vs,q1,q2⟩:=g5
 refine ⟨vs,Hf,?_,g3,j.wideF,q2⟩
 unfold wide
 rw [if_neg (fun z=>z.2.no g4)]
 exact q1
noncomputable def sIf (c:Rho→M Bool) (g1 g2:Rho→M Out):Rho→M Out:=fun ρ=>Zan (c ρ) fun b=>if b=true then g1 ρ else g2 ρ
theorem ZbB {c:Expr} {a b:List Stmt} {pos:Pos} {fc:Rho→M Bool} {g1 g2:Rho→M Out} (hc:PDT X G c fc) (ha:PDSs X G ob own own' fr a g1) (hb:PDSs X G ob own own' fr b g2):PDS X G ob own own' fr (.If c a b pos) (sIf fc g1 g2):=by
 obtain ⟨tc,pc,qc⟩:=hc
 obtain ⟨ta,pa,qa⟩:=ha
 obtain ⟨tb,pb,qb⟩:=hb
 refine ⟨_,ZlX pc pa pb,fun kn Hf0 H0 σ H ρ s out s' E ⟨Hf,j⟩ st e po=>?_⟩
 obtain ⟨b,s1,a1,a2⟩:=Zah e
 refine qc σ _ H ρ s b s1 _ Zdh j.envB st a1 fun Hf' H' g st'=>?_
 obtain ⟨F,j',fF,q1,q2⟩:=j.growB g
 cases b with
 | true=>exact iteT (qa kn Hf0 H0 σ H' ρ s1 out s' E ⟨F,j'⟩ st' a2 po)
 | false=>exact iteF (qb kn Hf0 H0 σ H' ρ s1 out s' E ⟨F,j'⟩ st' a2 po)
noncomputable def PAsg (X:Cx) (G:Gh) (fr:Bool) (i:Nat) (st:Stmt) (f:Rho→M D):Prop:=∃te,PS X st (fun E σ H=>te σ H fun y H1=>E.nx (σ.set i (some y)) H1)∧Yld G fr te f
theorem ZaN {i:Nat} {x:Str} {e:Expr} {pos pos':Pos} (hN:X.N.Nodup) (hi:X.N[i]?=some x) (hx:Loc X.env.scope x) (he:PD X G fr e f) (hs:swapsWith e (some (.Name x pos')) pos.line X.env=pure false:=by rfl)
  (hf:X.fn x=true∨X.env.scope.names.lookup x=some .local:=by first | exact .inl rfl | exact .inr rfl | assumption):PAsg X G fr i (.Assign [.Name x pos'] e pos) f:=by
 obtain ⟨t,p,q⟩:=he
 exact ⟨t,ZdQ hN hi hx p hs hf,q⟩
noncomputable def sSet (i:Nat) (f:Rho→M D):Rho→M Out:=fun ρ=>Zan (f ρ) fun d=>mret (.nx (ρ.set i (some d)))
theorem ZjD {i:Nat} {st:Stmt} {te:TE} (hp:PS X st (fun E σ H=>te σ H fun y H1=>E.nx (σ.set i (some y)) H1)) (hy:YldJ G own fr te f) (hi:i∉own) {fr':Bool}:PDS X G ob own own fr' st (sSet i f):=
 ⟨_,hp,fun kn Hf0 H0 σ H ρ s out s' E ⟨Hf,j⟩ st e po=>by
  obtain ⟨d,s1,a1,a2⟩:=Zah e
  obtain ⟨rfl,rfl⟩:=Zao a2
  exact hy kn Hf0 H0 σ Hf H ρ s d s' _ j st a1 fun v Hf' H' j' e1 e2 st' r fz=>po _ H' ⟨Hf',j'.setF hi r⟩ st'⟩
theorem ZaM {i:Nat} {st:Stmt} {fr':Bool} (h:PAsg X G fr i st f):PDS X G ob [] [] fr' st (sSet i f):=let ⟨_,p,q⟩:=h;ZjD p q.n (by simp)
theorem ZjE {i:Nat} {st:Stmt} {fr':Bool} (h:PAsg X G fr i st f) (hi:i∉own:=by decide):PDS X G ob own own fr' st (sSet i (fun ρ=>f (hide own ρ))):=let ⟨_,p,q⟩:=h;ZjD p q.a hi
noncomputable def sOwn (i:Nat) (f:Rho→M D):Rho→M Out:=fun ρ=>Zan (f ρ) fun d=>if Zf4 d=true then mret (.nx (ρ.set i (some d))) else Zau
theorem ZoF {i:Nat} {st:Stmt} {te:TE} (hp:PS X st (fun E σ H=>te σ H fun y H1=>E.nx (σ.set i (some y)) H1)) (hy:YldJ G own true te f) (ho:∀k,k∈own'↔k=i∨k∈own) {fr':Bool}:PDS X G ob own own' fr' st (sOwn i f):=
 ⟨_,hp,fun kn Hf0 H0 σ H ρ s out s' E ⟨Hf,j⟩ st e po=>by
  obtain ⟨d,s1,a1,a2⟩:=Zah e
  obtain ⟨ok,a3⟩:=Za4 a2
  obtain ⟨rfl,rfl⟩:=Zao a3
  exact hy kn Hf0 H0 σ Hf H ρ s d s' _ j st a1 fun v Hf' H' j' e1 e2 st' r fz=>po _ H' (j.setOwn j' ho st e2 e1 r (fz rfl) ok) st'⟩
theorem Zfj {i:Nat} {st:Stmt} {fr':Bool} (h:PAsg X G true i st f):PDS X G ob [] [i] fr' st (sOwn i f):=let ⟨_,p,q⟩:=h;ZoF p q.n (by intro k;simp)
inductive Sets (G:Gh) (Hf:Hp) (ok:Nat→Prop):St→Rho→St→Rho→Prop
 | nil {σ ρ}:Sets G Hf ok σ ρ σ ρ
 | cons {σ ρ σ' ρ'} {i:Nat} {d:D} {v:V}:ok i→Rep G Hf d v→Sets G Hf ok (σ.set i (some v)) (ρ.set i (some d)) σ' ρ'→Sets G Hf ok σ ρ σ' ρ'
noncomputable def PDG (X:Cx) (G:Gh) (tg:Expr) (ok:Nat→Prop) (τ:D→Rho→Option Rho):Prop:=
 ∃g,PG X tg g∧∀(x:V) (σ:St) (Hf H:Hp) (d:D) (ρ ρ':Rho) (Q:St→Hp→Prop),Ext G Hf H→Rep G Hf d x→τ d ρ=some ρ'→(∀σ',Sets G Hf ok σ ρ σ' ρ'→Q σ' H)→g x σ H Q
noncomputable def gOne (i:Nat):D→Rho→Option Rho:=fun d ρ=>some (ρ.set i (some d))
theorem ZaF {i:Nat} {x:Str} {pos:Pos} {ok:Nat→Prop} (hN:X.N.Nodup) (hi:X.N[i]?=some x) (hx:Loc X.env.scope x) (oi:ok i) (hf:X.fn x=true∨X.env.scope.names.lookup x=some .local:=by first | exact .inl rfl | exact .inr rfl | assumption):PDG X G (.Name x pos) ok (gOne i):=
 ⟨_,ZcU hN hi hx hf,fun x σ Hf H d ρ ρ' Q e r q k=>by
  cases q
  exact k _ (.cons oi r .nil)⟩
noncomputable def Zjd (i j:Nat):D→Rho→Option Rho:=fun d ρ=>match d with | .tup [a,b]=>some ((ρ.set i (some a)).set j (some b)) | _=>none
theorem ZjG {i j:Nat} {x y:Str} {pos px py:Pos} {k:Nat} {ok:Nat→Prop} (hc:X.calm=true) (hN:X.N.Nodup) (hi:X.N[i]?=some x) (hj:X.N[j]?=some y) (hx:Loc X.env.scope x) (hy:Loc X.env.scope y) (oi:ok i) (oj:ok j)
  (hfx:X.fn x=true∨X.env.scope.names.lookup x=some .local:=by first | exact .inl rfl | exact .inr rfl | assumption) (hfy:X.fn y=true∨X.env.scope.names.lookup y=some .local:=by first | exact .inl rfl | exact .inr rfl | assumption)
  (hn:(assignEach [.Name x px,.Name y py] X.env).length=2:=by rfl) (hst:(assignEach [.Name x px,.Name y py] X.env).findIdx? (·.1)=none:=by rfl)
  (hp:PGs X [.Name x px,.Name y py] (Zmo (ZcB i) (Zmo (ZcB j) gNil))):PDG X G (.Tuple [.Name x px,.Name y py] k pos) ok (Zjd i j):=
 ⟨_,Zrf hc hp hn hst,fun x σ Hf H d ρ ρ' Q e r q k=>by
  match d,q,r with
  | .tup [a,b],q,r=>
   cases q
   obtain ⟨ad,vs,rfl,n,h,rl⟩:=Rep.tup_iff.mp r
   obtain ⟨v1,r1,rfl,q1,q2⟩:=RepL.cons_iff.mp rl
   obtain ⟨v2,r2,rfl,q3,q4⟩:=RepL.cons_iff.mp q2
   have:=RepL.nil_iff.mp q4
   subst this
   exact ⟨ad,_,rfl,SqT.of (e _ _ n h),rfl,v1,_,rfl,v2,_,rfl,rfl,k _ (.cons oi q1 (.cons oj q3 .nil))⟩⟩
theorem Sets.jf {kn Hf0 H0 Hf H:Hp} {σ σ':St} {ρ ρ':Rho} (h:Sets G Hf (fun i=>i∉own) σ ρ σ' ρ'):Jf G own kn Hf0 H0 σ Hf H ρ→Jf G own kn Hf0 H0 σ' Hf H ρ':=by
 induction h with
 | nil=>exact fun j=>j
 | cons o r _ ih=>exact fun j=>ih (j.setF o r)
noncomputable def ItOk (G:Gh) (J:It) (Hf':Hp) (ds:List D):Prop:=
 ∀(i:Nat) (Hf2 H2:Hp) (s:Pn),Ext G Hf' Hf2→Ext G Hf2 H2→G.st s H2→
  (∀d,ds[i]?=some d→J.go i H2∧∀x H3,J.yld i H2 x H3→∃Hf3,Gr G Hf2 H2 Hf3 H3∧G.st s H3∧Rep G Hf3 d x)∧(i=ds.length→J.stop i H2)
noncomputable def PDI (X:Cx) (G:Gh) (tg iter:Expr) (f:Rho→M (List D)):Prop:=
 ∃wi,PI X tg iter wi∧∀(σ:St) (Hf H:Hp) (ρ:Rho) (s:Pn) (ds:List D) (s':Pn) (R:It→Hp→Prop),Ext G Hf H→EnvR G Hf σ ρ→G.st s H→f ρ s=some (ds,s')→
  (∀J Hf' H',Gr G Hf H Hf' H'→G.st s' H'→ItOk G J Hf' ds→R J H')→wi σ H R
theorem ItOk.range {lo:Int} {n:Nat} {Hf:Hp} {ds:List D} (e:ds=(List.range n).map fun (i:Nat)=>D.int (lo+i)):ItOk G (Itr lo n) Hf ds:=fun i Hf2 H2 s e1 e2 st=>by
 subst e
 refine ⟨fun d q=>?_,fun q=>by show n≤i;rw [q];simp⟩
 have hi:i<n:=by
  have:=(List.getElem?_eq_some_iff.mp q).1
  simpa using this
 have hd:d=.int (lo+i):=by
  rw [List.getElem?_map,List.getElem?_range hi] at q
  simp at q;exact q.symm
 subst hd
 refine ⟨hi,fun x H3 y=>?_⟩
 obtain ⟨y1,y2⟩:=y
 subst y1 y2
 exact ⟨Hf2,.refl e2,st,Rep.int_iff.mpr rfl⟩
theorem ItOk.list {K:PySem.W.Frag} {a:Addr} {vs:List V} {Hf:Hp} {ds:List D} (nf:¬G.fp a) (h:Hf a=some (.lst vs)) (r:RepL G Hf ds vs):ItOk G (Itl K a) Hf ds:=fun i Hf2 H2 s e1 e2 st=>by
 have h2:SqL K H2 a vs:=SqL.of (e2 _ _ nf (e1 _ _ nf h))
 refine ⟨fun d q=>?_,fun q=>⟨vs,h2,by rw [q,r.length];exact Nat.le_refl _⟩⟩
 obtain ⟨v,q1,q2⟩:=r.get q
 refine ⟨⟨vs,v,h2,q1⟩,fun x H3 ⟨y1,y2⟩=>?_⟩
 subst y1
 have e:=y2 vs h2
 rw [q1] at e;cases e
 exact ⟨Hf2,.refl e2,st,q2.ext e1⟩
theorem ItOk.tup {K:PySem.W.Frag} {a:Addr} {vs:List V} {Hf:Hp} {ds:List D} (nf:¬G.fp a) (h:Hf a=some (.tup vs)) (r:RepL G Hf ds vs):ItOk G (Itt K a) Hf ds:=fun i Hf2 H2 s e1 e2 st=>by
 have h2:SqT K H2 a vs:=SqT.of (e2 _ _ nf (e1 _ _ nf h))
 refine ⟨fun d q=>?_,fun q=>⟨vs,h2,by rw [q,r.length];exact Nat.le_refl _⟩⟩
 obtain ⟨v,q1,q2⟩:=r.get q
 refine ⟨⟨vs,v,h2,q1⟩,fun x H3 ⟨y1,y2⟩=>?_⟩
 subst y1
 have e:=y2 vs h2
 rw [q1] at e;cases e
 exact ⟨Hf2,.refl e2,st,q2.ext e1⟩
noncomputable def ZaI (lo:Int) (n:Nat):List D:=(List.range n).map fun (i:Nat)=>D.int (lo+i)
noncomputable def Za1 (f:Rho→M D):Rho→M (List D):=fun ρ=>Zan (f ρ) fun d=>match d with | .int j=>if -(2 ^ 62)≤j∧j<2 ^ 62 then mret (ZaI 0 j.toNat) else Zau | _=>Zau
theorem ZcV {tg a:Expr} {p pos:Pos} {r1:Bool} (hg:Gl X "range") (hm:X.mg "range" = none) (ha:PD X G r1 a f) (hs:starEach [a] X.env=[(false,eval a X.env)]:=by rfl):PDI X G tg (.Call (.Name "range" p) [a] [] pos) (Za1 f):=by
 obtain ⟨t,pa,qa⟩:=ha.drop
 refine ⟨_,ZfM hg hm (Za0 pa Zbg (by rw [hs];rfl)) hs,fun σ Hf H ρ s ds s' R e1 e2 e3 e4 k=>?_⟩
 obtain ⟨d,s1,a1,a2⟩:=Zah e4
 cases d with
 | int j=>
  obtain ⟨c,a3⟩:=Za4 a2
  obtain ⟨rfl,rfl⟩:=Zao a3
  refine qa σ Hf H ρ s _ _ _ e1 e2 e3 a1 fun v Hf1 H1 g st r=>?_
  rw [Rep.int_iff.mp r]
  exact ⟨j,rfl,c.1,c.2,k _ Hf1 H1 g st (.range rfl)⟩
 | _=>cases a2
noncomputable def Ze3 (f g:Rho→M D):Rho→M (List D):=fun ρ=>Zan (f ρ) fun d=>Zan (g ρ) fun e=>match d,e with | .int i,.int j=>if -(2 ^ 62)≤i∧i<2 ^ 62∧-(2 ^ 62)≤j∧j<2 ^ 62 then mret (ZaI i (j-i).toNat) else Zau | _,_=>Zau
noncomputable def ZaS (f:Rho→M D):Rho→M (List D):=fun ρ=>Zan (f ρ) fun d=>match d with | .lst ds=>mret ds | _=>Zau
noncomputable def Zde (f:Rho→M D):Rho→M (List D):=fun ρ=>Zan (f ρ) fun d=>match d with | .tup ds=>mret ds | _=>Zau
theorem Zbw {tg l:Expr} {r1:Bool} (hl:PD X G r1 l f):PDI X G tg l (ZaS f):=by
 obtain ⟨t,pa,qa⟩:=hl.drop
 refine ⟨_,Zh2 pa,fun σ Hf H ρ s ds s' R e1 e2 e3 e4 k=>?_⟩
 obtain ⟨d,s1,a1,a2⟩:=Zah e4
 cases d with
 | lst es=>
  obtain ⟨rfl,rfl⟩:=Zao a2
  refine qa σ Hf H ρ s _ _ _ e1 e2 e3 a1 fun v Hf1 H1 g st r=>?_
  obtain ⟨a,vs,rfl,nf,h,rl⟩:=Rep.lst_iff.mp r
  exact ⟨a,rfl,⟨vs,SqL.of (g.fh _ _ nf h)⟩,k _ Hf1 H1 g st (.list nf h rl)⟩
 | _=>cases a2
theorem Zh4 {tg l:Expr} {r1:Bool} (hl:PD X G r1 l f):PDI X G tg l (Zde f):=by
 obtain ⟨t,pa,qa⟩:=hl.drop
 refine ⟨_,Zre pa,fun σ Hf H ρ s ds s' R e1 e2 e3 e4 k=>?_⟩
 obtain ⟨d,s1,a1,a2⟩:=Zah e4
 cases d with
 | tup es=>
  obtain ⟨rfl,rfl⟩:=Zao a2
  refine qa σ Hf H ρ s _ _ _ e1 e2 e3 a1 fun v Hf1 H1 g st r=>?_
  obtain ⟨a,vs,rfl,nf,h,rl⟩:=Rep.tup_iff.mp r
  exact ⟨a,rfl,⟨vs,SqT.of (g.fh _ _ nf h)⟩,k _ Hf1 H1 g st (.tup nf h rl)⟩
 | _=>cases a2
noncomputable def mFor (τ:D→Rho→Option Rho) (body:Rho→M Out):List D→Rho→M Out
 | [],ρ=>mret (.nx ρ)
 | d::ds,ρ=>Zan (mOf (τ d ρ)) fun ρ1=>Zan (body ρ1) fun o=>match o with | .nx ρ2=>mFor τ body ds ρ2 | .ct ρ2=>mFor τ body ds ρ2 | .bk ρ2=>mret (.nx ρ2) | .rt d=>mret (.rt d)
noncomputable def sFor (fi:Rho→M (List D)) (τ:D→Rho→Option Rho) (body:Rho→M Out):Rho→M Out:=fun ρ=>Zan (fi ρ) fun ds=>mFor τ body ds ρ
noncomputable def PDIJ (X:Cx) (G:Gh) (own:List Nat) (tg iter:Expr) (f:Rho→M (List D)):Prop:=
 ∃wi,PI X tg iter wi∧∀(kn Hf0 H0:Hp) (σ:St) (Hf H:Hp) (ρ:Rho) (s:Pn) (ds:List D) (s':Pn) (R:It→Hp→Prop),Jf G own kn Hf0 H0 σ Hf H ρ→G.st s H→f ρ s=some (ds,s')→
  (∀J Hf' H',Jf G own kn Hf0 H0 σ Hf' H' ρ→Ext G Hf Hf'→G.st s' H'→ItOk G J Hf' ds→R J H')→wi σ H R
theorem PDI.a {tg iter:Expr} {fi:Rho→M (List D)} (h:PDI X G tg iter fi):PDIJ X G own tg iter (fun ρ=>fi (hide own ρ)):=by
 obtain ⟨wi,p,q⟩:=h
 exact ⟨wi,p,fun kn Hf0 H0 σ Hf H ρ s ds s' R j st e k=>q σ Hf H _ s ds s' R j.gr.fh j.envA st e fun J Hf' H' g st' it=>k J Hf' H' (j.grow g) g.ff st' it⟩
theorem Zcd {tg a:Expr} {p pos:Pos} {r1:Bool} (hg:Gl X "range") (hm:X.mg "range" = none) (ha:PD X G r1 a f) (hs:starEach [a] X.env=[(false,eval a X.env)]:=by rfl):PDIJ X G own tg (.Call (.Name "range" p) [a] [] pos) (Za1 f):=by
 obtain ⟨t,pa,qa⟩:=ha.drop
 refine ⟨_,ZfM hg hm (Za0 pa Zbg (by rw [hs];rfl)) hs,fun kn Hf0 H0 σ Hf H ρ s ds s' R j st e4 k=>?_⟩
 obtain ⟨d,s1,a1,a2⟩:=Zah e4
 cases d with
 | int i=>
  obtain ⟨c,a3⟩:=Za4 a2
  obtain ⟨rfl,rfl⟩:=Zao a3
  refine qa σ _ H ρ s _ _ _ Zdh j.envB st a1 fun v Hf1 H1 g st r=>?_
  obtain ⟨F,j',fF,q1,q2⟩:=j.growB g
  rw [Rep.int_iff.mp r]
  exact ⟨i,rfl,c.1,c.2,k _ F H1 j' fF st (.range rfl)⟩
 | _=>cases a2
theorem ZgQ {tg a b:Expr} {p pos:Pos} {r1 r2:Bool} {f2:Rho→M D} (hg:Gl X "range") (hm:X.mg "range" = none) (ha:PD X G r1 a f) (hb:PD X G r2 b f2)
  (hs:starEach [a,b] X.env=[(false,eval a X.env),(false,eval b X.env)]:=by rfl) (hs2:starEach [b] X.env=[(false,eval b X.env)]:=by rfl):PDIJ X G own tg (.Call (.Name "range" p) [a,b] [] pos) (Ze3 f f2):=by
 obtain ⟨t,pa,qa⟩:=ha.drop
 obtain ⟨u,pb,qb⟩:=hb.drop
 refine ⟨_,Zm9 hg hm (Za0 pa (Za0 pb Zbg (by rw [hs2];rfl)) (by rw [hs,hs2])) hs hs2,fun kn Hf0 H0 σ Hf H ρ s ds s' R j st e4 k=>?_⟩
 obtain ⟨d,s1,a1,a2⟩:=Zah e4
 obtain ⟨d2,s2,a3,a4⟩:=Zah a2
 match d,d2,a4,a1,a3 with
 | .int i,.int l,a4,a1,a3=>
  obtain ⟨c,a5⟩:=Za4 a4
  obtain ⟨rfl,rfl⟩:=Zao a5
  refine qa σ _ H ρ s _ _ _ Zdh j.envB st a1 fun v Hf1 H1 g st r=>?_
  refine qb σ Hf1 H1 ρ s1 _ _ _ g.fh (j.envB.ext g.ff) st a3 fun v2 Hf2 H2 g2 st2 r2=>?_
  obtain ⟨F,j',fF,q1,q2⟩:=j.growB (g.trans g2)
  rw [Rep.int_iff.mp r,Rep.int_iff.mp r2]
  exact ⟨i,l,rfl,c,k _ F H2 j' fF st2 (.range rfl)⟩
theorem Jf.weak {kn kn' Hf0 H0 Hf H:Hp} {σ:St} {ρ:Rho} (j:Jf G own kn' Hf0 H0 σ Hf H ρ) (e:Ext G kn kn'):Jf G own kn Hf0 H0 σ Hf H ρ:=⟨j.len,e.trans j.kn,j.gr,j.fz,j.ow,j.ne⟩
theorem Zct {tg iter:Expr} {body:List Stmt} {pos:Pos} {fi:Rho→M (List D)} {τ:D→Rho→Option Rho} {g:Rho→M Out} (hp:PassesOwn (model X.prog X.w) X.A X.env X.xe) (hc:X.calm=true) (hi:PDIJ X G own tg iter fi) (hg:PDG X G tg (fun i=>i∉own) τ) (hb:PDSs X G own own own fr body g)
  (hs:∀x,foldedSetIterable iter X.env x=pure x:=by intro _;rfl):PDS X G ob own own fr (.For tg iter body [] pos) (sFor fi τ g):=by
 obtain ⟨wi,pi,qi⟩:=hi
 obtain ⟨gt,pg,qg⟩:=hg
 obtain ⟨tb,pb,qb⟩:=hb
 refine ⟨_,Zm4 hp hc pi pg pb hs,fun kn Hf0 H0 σ H ρ s out s' E ⟨Hf,j⟩ st e po=>?_⟩
 obtain ⟨ds,s1,a1,a2⟩:=Zah e
 refine qi kn Hf0 H0 σ Hf H ρ s ds s1 _ j st a1 fun Jt Hf1 H1 j1 e1 st1 it=>?_
 refine ⟨fun i m σ2 H2=>∃ρ2 s2,J G own Hf1 Hf0 H0 σ2 H2 ρ2∧G.st s2 H2∧mFor τ g (ds.drop i) ρ2 s2=some (out,s')∧i≤ds.length∧m=ds.length-i,⟨_,ρ,s1,⟨Hf1,⟨j1.len,.refl _ _,j1.gr,j1.fz,j1.ow,j1.ne⟩⟩,st1,a2,Nat.zero_le _,rfl⟩,?_⟩
 rintro i m σ2 H2 ⟨ρ2,s2,⟨Hf2,j2⟩,st2,eq2,hle,rfl⟩
 obtain ⟨i1,i2⟩:=it i Hf2 H2 s2 j2.kn j2.gr.fh st2
 by_cases hlt:i<ds.length
 ·have hd:ds.drop i=ds[i]::ds.drop (i+1):=List.drop_eq_getElem_cons hlt
  rw [hd] at eq2
  obtain ⟨ρ3,s3,b1,b2⟩:=Zah eq2
  obtain ⟨b1',e3⟩:=ZbE b1
  subst e3
  obtain ⟨o,s4,b3,b4⟩:=Zah b2
  obtain ⟨go,yl⟩:=i1 ds[i] (by simp [hlt])
  refine .inr ⟨go,fun σ' H'=>∃ρ5 s5,J G own Hf1 Hf0 H0 σ' H' ρ5∧G.st s5 H'∧mFor τ g (ds.drop (i+1)) ρ5 s5=some (out,s'),fun σ' H' ⟨ρ5,s5,j5,st5,q5⟩=>⟨_,by omega,ρ5,s5,j5,st5,q5,hlt,rfl⟩,fun x H3 y3=>?_⟩
  obtain ⟨Hf3,g3,st3,r3⟩:=yl x H3 y3
  have j3:=j2.grow g3
  refine qg x σ2 Hf3 H3 ds[i] ρ2 ρ3 _ g3.fh r3 b1' fun σ3 sets=>?_
  have j4:=sets.jf j3
  refine qb Hf1 Hf0 H0 σ3 H3 ρ3 s3 o s4 _ ⟨Hf3,j4⟩ st3 b3 ?_
  cases o with
  | nx ρ5=>exact fun σ5 H5 j5 st5=>⟨ρ5,s4,j5,st5,b4⟩
  | ct ρ5=>exact fun σ5 H5 j5 st5=>⟨ρ5,s4,j5,st5,b4⟩
  | bk ρ5=>
   obtain ⟨rfl,rfl⟩:=Zao b4
   exact fun σ5 H5 ⟨Hf5,j5⟩ st5=>po σ5 H5 ⟨Hf5,j5.weak (j.kn.trans e1)⟩ st5
  | rt d=>
   obtain ⟨rfl,rfl⟩:=Zao b4
   exact po
 ·have hd:ds.drop i=[]:=List.drop_eq_nil_iff.mpr (by omega)
  rw [hd] at eq2
  obtain ⟨rfl,rfl⟩:=Zao eq2
  exact .inl ⟨i2 (by omega),po σ2 H2 ⟨Hf2,j2.weak (j.kn.trans e1)⟩ st2⟩
end
noncomputable def runB (n k:Nat) (g:Rho→M Out):List D→M D:=fun ds=>if ds.length=k then Zan (g (ds.map some++List.replicate (n-k) none)) fun o=>match o with | .rt d=>mret d | .nx _=>mret .non | _=>Zau else Zau
theorem fnD {P:Program} {w:World} {K:PySem.W.Frag} {mg:Str→Option Value} {base:Heap} {x qual:Str} {st:Stmt} {f:Addr} {fd:FuncData} {N ps:List Str} {k:Nat} {own:List Nat} {fr:Bool} {GG:Gh→Prop} {g:Rho→M Out}
  (F:Fun K x qual st f fd) (S:FnScope N ps (Zak st))
  (hb:∀(cdv:Value) (A:Around) (outer:List Env) (s:Shared) (H:Hp) (E:XK),Room k (A.deeper (envOfC qual (Zak st) s.heap.objs.size f cdv))→∀G,GG G→PDSs (cxOf CX0 P w K mg base N qual (Zak st) f cdv A outer s H E).nox G [] [] own fr (Zb5 st) g) :
  FnOk P w K mg base CX0 (k+1) f fd ps (spD ps.length fr GG (runB N.length ps.length g)):=by
 refine F.ok S (fun vs H Q E h=>?_) fun cdv A outer s H vs Q E hr h=>?_
 ·obtain ⟨G,Hf,ds,pn,d,pn',_,e,_⟩:=h
  exact e
 ·obtain ⟨G,Hf,ds,pn,d,pn',hG,el,e1,r,st',eF,k'⟩:=h
  obtain ⟨t,p,q⟩:=hb cdv A outer s H E hr G hG
  refine ⟨t,p,?_⟩
  obtain ⟨hl,a0⟩:=Za4 eF
  obtain ⟨o,s1,a1,a2⟩:=Zah a0
  have hpl:ps.length≤N.length:=by have:=congrArg List.length S.pre;rw [List.length_take] at this;omega
  have j0:Jf G [] Hf Hf H (L2.start N vs) Hf H (ds.map some++List.replicate (N.length-ps.length) none):=by
   refine ⟨?_,.refl _ _,.refl e1,fun i d n e=>?_,fun i d m e=>?_,fun i j a di dj mi mj n e=>?_⟩
   ·unfold L2.start;simp;omega
   ·have hi:i<ds.length:=by
     by_cases hi:i<ds.length
     ·exact hi
     ·rw [List.getElem?_append_right (by simpa using hi),List.getElem?_replicate] at e
      split at e <;> cases e
    have e':ds[i]?=some d:=by
     rw [List.getElem?_append_left (by simpa using hi),List.getElem?_map] at e
     cases q:ds[i]? with
     | none=>rw [q] at e;cases e
     | some c=>rw [q] at e;simp at e;rw [e]
    obtain ⟨v,h1,h2⟩:=r.get e'
    refine ⟨v,?_,h2⟩
    unfold L2.start
    rw [List.getElem?_append_left (by simp;rw [←r.length];exact hi),List.getElem?_map,h1]
    rfl
   ·exact absurd m (by simp)
   ·exact absurd mi (by simp)
  refine q Hf Hf H (L2.start N vs) H _ pn o s1 _ ⟨Hf,j0⟩ st' a1 ?_
  cases o with
  | rt c=>
   obtain ⟨rfl,rfl⟩:=Zao a2
   exact fun v Hf' H' g' st2 r2 fz=>k' v Hf' H' g' st2 r2 fz
  | nx ρ'=>
   obtain ⟨rfl,rfl⟩:=Zao a2
   exact fun σ' H' ⟨Hf',j'⟩ st2=>k' .non Hf' H' j'.gr st2 (Rep.non_iff.mpr rfl) fun _=>.scal fun z=>z
  | bk ρ'=>cases a2
  | ct ρ'=>cases a2
noncomputable def tOf (G:Gh) (fr:Bool) (f:Rho→M D):TE:=fun σ H Q=>∃(Hf:Hp) (ρ:Rho) (s:Pn) (d:D) (s':Pn),Ext G Hf H∧EnvR G Hf σ ρ∧G.st s H∧f ρ s=some (d,s')∧
 ∀v Hf' H',Gr G Hf H Hf' H'→G.st s' H'→Rep G Hf' d v→(fr=true→ZaG G H Hf' d v)→Q v H'
noncomputable def tOfT (G:Gh) (f:Rho→M Bool):TT:=fun σ H Q=>∃(Hf:Hp) (ρ:Rho) (s:Pn) (b:Bool) (s':Pn),Ext G Hf H∧EnvR G Hf σ ρ∧G.st s H∧f ρ s=some (b,s')∧
 ∀Hf' H',Gr G Hf H Hf' H'→G.st s' H'→Q b H'
noncomputable def gOf (G:Gh) (ok:Nat→Prop) (τ:D→Rho→Option Rho):TG:=fun x σ H Q=>∃(Hf:Hp) (d:D) (ρ ρ':Rho),Ext G Hf H∧Rep G Hf d x∧τ d ρ=some ρ'∧∀σ',Sets G Hf ok σ ρ σ' ρ'→Q σ' H
section
variable {X:Cx} {G:Gh} {own:List Nat} {fr:Bool} {f:Rho→M D}
theorem PD.canon {e:Expr} (h:PD X G fr e f):PE X e (tOf G fr f):=by
 obtain ⟨t,p,q⟩:=h
 exact fun pins s σ H Q I ⟨Hf,ρ,pn,d,pn',a1,a2,a3,a4,k⟩=>p pins s σ H Q I (q σ Hf H ρ pn d pn' Q a1 a2 a3 a4 k)
theorem PDT.canon {e:Expr} {f:Rho→M Bool} (h:PDT X G e f):PT X e (tOfT G f):=by
 obtain ⟨t,p,q⟩:=h
 exact fun pins s σ H Q I ⟨Hf,ρ,pn,d,pn',a1,a2,a3,a4,k⟩=>p pins s σ H Q I (q σ Hf H ρ pn d pn' Q a1 a2 a3 a4 k)
theorem PDG.canon {tg:Expr} {ok:Nat→Prop} {τ:D→Rho→Option Rho} (h:PDG X G tg ok τ):PG X tg (gOf G ok τ):=by
 obtain ⟨t,p,q⟩:=h
 exact fun pins s σ H v u Q I r ⟨Hf,d,ρ,ρ',a1,a2,a3,k⟩=>p pins s σ H v u Q I r (q v σ Hf H d ρ ρ' Q a1 a2 a3 k)
noncomputable def Zb1 (src:List (Option Nat)) (ρ:Rho):Rho:=src.map fun o=>o.bind fun j=>(ρ[j]?).bind id
theorem ZmE {Hf:Hp} {σ:St} {ρ:Rho} {src:List (Option Nat)} (h:EnvR G Hf σ ρ):EnvR G Hf (ZdN src σ) (Zb1 src ρ):=fun i d e=>by
 unfold Zb1 at e
 rw [List.getElem?_map] at e
 cases q:src[i]? with
 | none=>rw [q] at e;cases e
 | some o=>
  rw [q] at e
  cases o with
  | none=>simp at e
  | some j=>
   simp only [Option.map_some,Option.bind_some,Option.some.injEq] at e
   have hj:ρ[j]?=some (some d):=by
    cases e2:ρ[j]? with
    | none=>rw [e2] at e;cases e
    | some o2=>rw [e2] at e;simp at e;rw [e]
   obtain ⟨v,h1,h2⟩:=h j d hj
   refine ⟨v,?_,h2⟩
   unfold ZdN
   rw [List.getElem?_map,q]
   simp [h1]
theorem Sets.len {Hf:Hp} {ok:Nat→Prop} {σ σ':St} {ρ ρ':Rho} (h:Sets G Hf ok σ ρ σ' ρ'):(σ.length=ρ.length→σ'.length=ρ'.length)∧σ'.length=σ.length:=by
 induction h with
 | nil=>exact ⟨fun e=>e,rfl⟩
 | cons _ _ _ ih=>exact ⟨fun e=>ih.1 (by simp [e]),ih.2.trans (by simp)⟩
theorem Sets.env {Hf:Hp} {ok:Nat→Prop} {σ σ':St} {ρ ρ':Rho} (h:Sets G Hf ok σ ρ σ' ρ'):σ.length=ρ.length→EnvR G Hf σ ρ→EnvR G Hf σ' ρ':=by
 induction h with
 | nil=>exact fun _ e=>e
 | @cons σ ρ σ' ρ' i d v o r _ ih=>
  intro hl he
  refine ih (by simp [hl]) fun k c e=>?_
  by_cases h:i=k
  ·subst h
   have hk:i < ρ.length:=by
    have:=(List.getElem?_eq_some_iff.mp e).1
    simpa using this
   rw [List.getElem?_set_self hk] at e
   cases e
   exact ⟨v,List.getElem?_set_self (by rw [hl];exact hk),r⟩
  ·rw [List.getElem?_set_ne h] at e ⊢
   exact he k c e
theorem Sets.envOld {Hf:Hp} {ok:Nat→Prop} {σ σ':St} {ρ ρ' ρ0:Rho} (h:Sets G Hf ok σ ρ σ' ρ') (h0:∀i d,ok i→ρ0[i]?≠some (some d)):EnvR G Hf σ ρ0→EnvR G Hf σ' ρ0:=by
 induction h with
 | nil=>exact fun e=>e
 | @cons σ ρ σ' ρ' i d v o r _ ih=>
  intro he
  refine ih fun k c e=>?_
  have hne:i≠k:=fun z=>h0 k c (z▸o) e
  rw [List.getElem?_set_ne hne]
  exact he k c e
noncomputable def Zfn (τ:D→Rho→Option Rho) (ft:Rho→M Bool) (fe:Rho→M D) (ρ:Rho):List D→M (List D)
 | []=>mret []
 | d::ds=>Zan (mOf (τ d ρ)) fun ρ1=>Zan (ft ρ1) fun b=>if b=true then Zan (fe ρ1) fun c=>Zan (Zfn τ ft fe ρ ds) fun r=>mret (c::r) else Zfn τ ft fe ρ ds
noncomputable def ZaP (src:List (Option Nat)) (fi:Rho→M (List D)) (τ:D→Rho→Option Rho) (ft:Rho→M Bool) (fe:Rho→M D):Rho→M D:=fun ρ=>
 Zan (fi ρ) fun ds=>if ds.length≤sizeLine then Zan (Zfn τ ft fe (Zb1 src ρ) ds) fun r=>mret (.lst r) else Zau
noncomputable def Za2:Rho→M Bool:=fun _=>mret true
theorem Zkn {src:List (Option Nat)} {wi:TI} {fi:Rho→M (List D)} {τ:D→Rho→Option Rho} {ft:Rho→M Bool} {fe:Rho→M D} {r1:Bool}
  (qi:∀(σ:St) (Hf H:Hp) (ρ:Rho) (s:Pn) (ds:List D) (s':Pn) (R:It→Hp→Prop),Ext G Hf H→EnvR G Hf σ ρ→G.st s H→fi ρ s=some (ds,s')→
   (∀J Hf' H',Gr G Hf H Hf' H'→G.st s' H'→ItOk G J Hf' ds→R J H')→wi σ H R) :
  Yld G true (Zgj src wi (gOf G (fun i=>src[i]?=some none) τ) (tOfT G ft) (tOf G r1 fe)) (ZaP src fi τ ft fe):=by
 intro σ Hf H ρ s d s' Q e1 e2 e3 e4 k
 obtain ⟨ds,s1,a1,a2⟩:=Zah e4
 obtain ⟨hz,a3⟩:=Za4 a2
 obtain ⟨r,s2,a4,a5⟩:=Zah a3
 obtain ⟨rfl,rfl⟩:=Zao a5
 refine qi σ Hf H ρ s ds s1 _ e1 e2 e3 a1 fun Jt Hf1 H1 g1 st1 it=>?_
 intro p hp
 have nrp:=Gh.nord st1 hp
 have nfp:=Gh.sub' nrp
 have hf1p:Hf1 p=none:=by
  cases e:Hf1 p with
  | none=>rfl
  | some o=>rw [g1.fh p o nfp e] at hp;cases hp
 have h0:∀(i:Nat) (d:D),src[i]?=some none→(Zb1 src ρ)[i]?≠some (some d):=fun i d e q=>by
  unfold Zb1 at q
  rw [List.getElem?_map,e] at q
  simp at q
 refine ⟨fun i m σ2 H2=>∃(Hf2:Hp) (s2:Pn) (vs:List V) (acc rest:List D),i≤ds.length∧m=ds.length-i∧Gr G Hf1 H1 Hf2 H2∧EnvR G Hf2 σ2 (Zb1 src ρ)∧σ2.length=(Zb1 src ρ).length∧G.st s2 H2∧Hf2 p=none∧H2 p=some (.lst vs)∧RepL G Hf2 acc vs∧acc.length≤i∧
  Zfn τ ft fe (Zb1 src ρ) (ds.drop i) s2=some (rest,s')∧acc++rest=r,⟨_,Hf1,s1,[],[],r,Nat.zero_le _,rfl,?_,?_,?_,Gh.grow st1 hp,hf1p,Zaq,RepL.nil_iff.mpr rfl,Nat.le_refl _,a4,rfl⟩,?_⟩
 ·refine ⟨fun b o n e=>?_,.refl _ _,fun b o n e=>?_,fun b n h1 h2=>h1⟩
  ·rw [Zaj (Zas e hp)];exact e
  ·rw [Zaj (Zas e hf1p)];exact g1.fh b o n e
 ·exact ZmE (e2.ext g1.ff)
 ·unfold ZdN Zb1;simp
 ·rintro i m σ2 H2 ⟨Hf2,sz,vs,acc,rest,hle,rfl,g2,env2,len2,st2,hfp2,hp2,racc,hacc,eq2,hr⟩
  obtain ⟨i1,i2⟩:=it i Hf2 H2 sz g2.ff g2.fh st2
  by_cases hlt:i<ds.length
  ·have hd:ds.drop i=ds[i]::ds.drop (i+1):=List.drop_eq_getElem_cons hlt
   rw [hd] at eq2
   obtain ⟨ρ3,s3,b1,b2⟩:=Zah eq2
   obtain ⟨b1',e3'⟩:=ZbE b1
   subst e3'
   obtain ⟨bo,s4,b3,b4⟩:=Zah b2
   obtain ⟨go,yl⟩:=i1 ds[i] (by simp [hlt])
   refine .inr ⟨go,fun x H3 y3=>?_⟩
   obtain ⟨Hf3,g3,st3,r3⟩:=yl x H3 y3
   refine ⟨Hf3,ds[i],Zb1 src ρ,ρ3,g3.fh,r3,b1',fun σ4 sets=>?_⟩
   have env2':=env2.ext g3.ff
   have env4:=sets.env len2 env2'
   have env4':=sets.envOld h0 env2'
   refine ⟨Hf3,ρ3,s3,bo,s4,g3.fh,env4,st3,b3,fun Hf5 H5 g5 st5=>?_⟩
   have g25:=g3.trans g5
   have hfp5:Hf5 p=none:=g25.nw p nfp hfp2 ⟨_,hp2,fun _ z=>by cases z⟩
   have hp5:H5 p=some (.lst vs):=g25.hh p _ nfp hp2
   cases bo with
   | false=>
    refine iteF ⟨ds.length-(i+1),by omega,Hf5,s4,vs,acc,rest,hlt,rfl,g2.trans g25,env4'.ext g5.ff,by rw [←len2];exact sets.len.2,st5,hfp5,hp5,racc.ext g25.ff,by omega,?_,hr⟩
    exact b4
   | true=>
    have b4':Zan (fe ρ3) (fun c=>Zan (Zfn τ ft fe (Zb1 src ρ) (ds.drop (i+1))) fun r=>mret (c::r)) s4=some (rest,s'):=b4
    obtain ⟨c,s6,b5,b6⟩:=Zah b4'
    obtain ⟨rr,s7,b7,b8⟩:=Zah b6
    obtain ⟨rfl,rfl⟩:=Zao b8
    refine iteT ⟨Hf5,ρ3,s4,c,s6,g5.fh,env4.ext g5.ff,st5,b5,fun v Hf6 H6 g6 st6 r6 _=>?_⟩
    have hfp6:Hf6 p=none:=g6.nw p nfp hfp5 ⟨_,hp5,fun _ z=>by cases z⟩
    have hp6:H6 p=some (.lst vs):=g6.hh p _ nfp hp5
    have hl:vs.length<sizeLine:=by rw [←racc.length];omega
    refine ⟨vs,hp6,hl,ds.length-(i+1),by omega,Hf6,s6,vs ++ [v],acc ++ [c],rr,hlt,rfl,?_,(env4'.ext g5.ff).ext g6.ff,by rw [←len2];exact sets.len.2,?_,hfp6,Zaq,(racc.ext (g25.ff.trans g6.ff)).append (.one r6),by simp;omega,b7,by rw [←hr];simp⟩
    ·have gg:=(g2.trans g25).trans g6
     refine ⟨fun b o n e=>?_,gg.ff,fun b o n e=>?_,gg.nw⟩
     ·rw [Zaj (Zas e hp)];exact gg.hh b o n e
     ·rw [Zaj (Zas e hfp6)];exact gg.fh b o n e
    ·refine G.mono _ _ _ st6 (fun b o rb e=>?_) fun b φ e=>?_
     ·have:b≠p:=fun z=>nrp (z▸rb)
      rw [Zaj this];exact e
     ·have:b≠p:=fun z=>by rw [z,hp6] at e;cases e
      rw [Zaj this];exact e
  ·have hd:ds.drop i=[]:=List.drop_eq_nil_iff.mpr (by omega)
   rw [hd] at eq2
   obtain ⟨rfl,rfl⟩:=Zao eq2
   refine .inl ⟨i2 (by omega),?_⟩
   rw [List.append_nil] at hr
   subst hr
   refine k (.ref p) (upd Hf2 p (.lst vs)) H2 (g1.trans ⟨g2.hh,fun b o n e=>?_,fun b o n e=>?_,fun b n h1 h2=>?_⟩) st2 (Rep.lst_iff.mpr ⟨p,vs,rfl,nfp,Zaq,racc.ext fun b o n e=>?_⟩) fun _ a ea _=>?_
   ·rw [Zaj (Zas (g2.ff b o n e) hfp2)];exact g2.ff b o n e
   ·by_cases hb:b=p
    ·subst hb;rw [Zaq] at e;rw [hp2];exact e
    ·rw [Zaj hb] at e;exact g2.fh b o n e
   ·have:b≠p:=fun z=>h2.no (z▸hp)
    rw [Zaj this];exact g2.nw b n h1 h2
   ·rw [Zaj (Zas e hfp2)];exact e
   ·cases ea
    refine ⟨?_,fun ds' ed=>?_⟩
    ·cases q:H p with
     | none=>rfl
     | some o=>rw [g1.hh p o nfp q] at hp;cases hp
    ·cases ed
     exact ⟨vs,Hf2,Zaq,hfp2,fun b o n e=>by rw [Zaj (Zas e hfp2)];exact e,racc⟩
theorem ZcT:PIfs X [] (tOfT G Za2):=fun pins s σ H Q I ⟨Hf,ρ,pn,b,pn',a1,a2,a3,a4,k⟩=>by
 obtain ⟨rfl,rfl⟩:=Zao a4
 exact ZjB pins s σ H Q I (k Hf H (.refl a1) a3)
theorem Zd5 {c:Expr} {ft:Rho→M Bool} (h:PDT X G c ft):PIfs X [c] (tOfT G ft):=ZjA h.canon
theorem Jf.put {kn Hf0 H0 Hf H:Hp} {σ:St} {ρ:Rho} {i:Nat} {a:Addr} {d d':D} {o':HO} (j:Jf G own kn Hf0 H0 σ Hf H ρ) (hi:i∈own) (e:ρ[i]?=some (some d)) (sa:σ[i]?=some (some (.ref a)))
  (new:Zdx G Hf (upd H a o') a d'):Jf G own kn Hf0 H0 σ Hf (upd H a o') (ρ.set i (some d')):=by
 obtain ⟨a',h1,h2,h3,h4,h5⟩:=j.ow i d hi e
 rw [sa] at h1;cases h1
 have il:i < ρ.length:=(List.getElem?_eq_some_iff.mp e).1
 refine ⟨by simp [j.len],j.kn,⟨fun b o n q=>?_,j.gr.ff,fun b o n q=>?_,j.gr.nw⟩,fun k c n q=>?_,fun k c m q=>?_,fun k l b dk dl mk ml n ek el sk sl=>?_⟩
 ·rw [Zaj (Zas q h4)];exact j.gr.hh b o n q
 ·rw [Zaj (Zas q h3)];exact j.gr.fh b o n q
 ·have hne:i≠k:=fun z=>n (z▸hi)
  rw [List.getElem?_set_ne hne] at q
  exact j.fz k c n q
 ·by_cases hk:i=k
  ·subst hk
   rw [List.getElem?_set_self il] at q
   cases q
   exact ⟨a,sa,h2,h3,h4,new⟩
  ·rw [List.getElem?_set_ne hk] at q
   obtain ⟨b,g1,g2,g3,g4,g5⟩:=j.ow k c m q
   have hab:b≠a:=fun z=>j.ne i k a d c hi m hk e q sa (z▸g1)
   exact ⟨b,g1,g2,g3,g4,g5.keep (.refl _ _) fun o z=>by rw [Zaj hab];exact z⟩
 ·have ek':∃d,ρ[k]?=some (some d):=by
   by_cases hk:i=k
   ·exact ⟨d,hk▸e⟩
   ·rw [List.getElem?_set_ne hk] at ek;exact ⟨_,ek⟩
  have el':∃d,ρ[l]?=some (some d):=by
   by_cases hl:i=l
   ·exact ⟨d,hl▸e⟩
   ·rw [List.getElem?_set_ne hl] at el;exact ⟨_,el⟩
  obtain ⟨_,ek'⟩:=ek'
  obtain ⟨_,el'⟩:=el'
  exact j.ne k l b _ _ mk ml n ek' el' sk sl
theorem Zlp {kn Hf0 H0 Hf H:Hp} {σ:St} {ρ:Rho} {i:Nat} {ds:List D} (j:Jf G own kn Hf0 H0 σ Hf H ρ) (hi:i∈own) (e:ρ[i]?=some (some (.lst ds))) :
  ∃a vs,σ[i]?=some (some (.ref a))∧¬G.rd a∧H a=some (.lst vs)∧RepL G Hf ds vs:=by
 obtain ⟨a,h1,h2,h3,h4,vs,h5,h6⟩:=j.ow i _ hi e
 exact ⟨a,vs,h1,h2,h5,h6⟩
theorem Zig {ρ:Rho} {i:Nat} {d:D} (h:(ρ[i]?).bind id=some d):ρ[i]?=some (some d):=by
 cases q:ρ[i]? with
 | none=>rw [q] at h;cases h
 | some o=>rw [q] at h;simp at h;rw [h]
theorem Gh.other {s:Pn} {H:Hp} {a:Addr} {o:HO} (st:G.st s H) (h:¬G.rd a)
  (hx:∀φ,H a≠some (.ext φ):=by intro φ z;first | (have z2:=z.symm.trans (by assumption:_=some (L2.HO.lst _));cases z2) | (have z2:=z.symm.trans (by assumption:_=some (L2.HO.dK _));cases z2) | (have z2:=z.symm.trans (by assumption:_=some (L2.HO.dT _));cases z2)):G.st s (upd H a o):=G.mono _ _ _ st (fun b u rb e=>by
 have:b≠a:=fun z=>h (z▸rb)
 rw [Zaj this];exact e) fun b φ e=>by
 have:b≠a:=fun z=>hx φ (z▸e)
 rw [Zaj this];exact e
noncomputable def sApp (i:Nat) (f:Rho→M D):Rho→M Out:=fun ρ=>Zan (f ρ) fun d=>match (ρ[i]?).bind id with
 | some (.lst ds)=>if ds.length<sizeLine then mret (.nx (ρ.set i (some (.lst (ds ++ [d]))))) else Zau
 | _=>Zau
theorem ZqY {i:Nat} {ob:List Nat} {te:TE} {r1:Bool} (hi:i∈own) (hy:YldJ G own r1 te f) :
  Dos G ob own own fr (Zhf (tBM X.K "list" Zgl (tVar i) (Zcg te tNil))) (sApp i f):=fun kn Hf0 H0 σ H ρ s out s' E ⟨Hf,j⟩ st e po=>by
 obtain ⟨d,s1,a1,a2⟩:=Zah e
 cases hb:(ρ[i]?).bind id with
 | none=>rw [hb] at a2;cases a2
 | some c=>
  rw [hb] at a2
  cases c with
  | lst ds=>
   have a2':(if ds.length<sizeLine then mret (.nx (ρ.set i (some (.lst (ds ++ [d]))))) else Zau) s1=some (out,s'):=a2
   obtain ⟨c2,a3⟩:=Za4 a2'
   obtain ⟨rfl,rfl⟩:=Zao a3
   have ei:=Zig hb
   obtain ⟨a,vs,h1,h2,h3,h4⟩:=Zlp j hi ei
   refine ⟨_,h1,.inl ⟨rfl,vs,SqL.of h3⟩,?_⟩
   refine hy kn Hf0 H0 σ Hf H ρ s d s' _ j st a1 fun v Hf' H' j' e1 e2 st' r fz=>?_
   obtain ⟨a',vs',h1',h2',h3',h4'⟩:=Zlp j' hi ei
   rw [h1] at h1';cases h1'
   refine ⟨a,vs',v,rfl,rfl,h3',by rw [←h4'.length];exact c2,?_⟩
   exact po σ _ ⟨Hf',j'.put hi ei h1 ⟨vs' ++ [v],Zaq,h4'.append (.one r)⟩⟩ (Gh.other st' h2)
  | _=>cases a2
theorem Ziq {i:Nat} {x:Str} {e:Expr} {pos p1 p2 p3:Pos} {te:TE} (hv:PE X (.Name x p1) (tVar i)) (p:PE X e te)
  (hbase:attributeBase (.Name x p1) "append" X.env (eval (.Name x p1) X.env)=eval (.Name x p1) X.env:=by rfl)
  (hfew:((backTo p3 (starEach [e] X.env)).all (fun x=>!x.1)&&(backToKw p3 (keywordEach [] X.env)).all (fun x=>x.1.isSome)
   && decide ([e].length+([]:List Keyword).length+(if ([]:List Keyword).isEmpty then 0 else 1)<30))=true:=by rfl)
  (hline:(p2.endLine==p3.line)=true:=by rfl) (hs:starEach [e] X.env=(false,eval e X.env)::starEach [] X.env:=by rfl)
  (hsw:swapsWith (.Call (.Attribute (.Name x p1) "append" p2) [e] [] p3) none pos.line X.env=pure false:=by rfl) :
  PS X (.Expr (.Call (.Attribute (.Name x p1) "append" p2) [e] [] p3) pos) (Zhf (tBM X.K "list" Zgl (tVar i) (Zcg te tNil))):=
 Zlj (Zi9 PySem.F.plainAttrs_list PySem.F.slot_list_append PySem.F.type_list_append Ziw hv (Za0 p Zbg hs) hbase hfew hline hs rfl) hsw
section
variable {i:Nat} {x:Str} {e:Expr} {pos p1 p2 p3:Pos} {r1:Bool} {ob:List Nat} {st:Stmt}
theorem ZjF (hi:i∈own) (he:PD X G r1 e f) (hp:∀te,PE X e te→PS X st (Zhf (tBM X.K "list" Zgl (tVar i) (Zcg te tNil)))):PDS X G ob own own fr st (sApp i (fun ρ=>f (hide own ρ))):=by
 obtain ⟨t,p,q⟩:=he
 exact ⟨_,hp t p,ZqY hi (Yld.a q)⟩
end
end
section
variable {X:Cx} {G:Gh}
noncomputable def dI (C:Int→Int→Bool) (g:Int→Int→D):D→D→Option D
 | .int i,.int j=>if C i j=true then some (g i j) else none
 | _,_=>none
theorem Zif {C:Int→Int→Bool} {g:Int→Int→D} {d e c:D} (h:dI C g d e=some c):∃i j,d=.int i∧e=.int j∧C i j=true∧c=g i j:=by
 match d,e,h with
 | .int i,.int j,h=>
  have h':(if C i j=true then some (g i j) else none)=some c:=h
  split at h'
  ·rename_i hc;cases h';exact ⟨i,j,rfl,rfl,hc,rfl⟩
  ·cases h'
theorem Zpw {f:Value→Value→Sem Value} {C:Int→Int→Prop} {Cb:Int→Int→Bool} {g:Int→Int→Int} (h:OpR X f (rI C fun i j=>.int (g i j))) (hc:∀i j,Cb i j=true→C i j):OpD X G f (dI Cb fun i j=>.int (g i j)):=
 ⟨_,h,fun Hf H s x y d e c Q e1 st rx ry q k=>by
  obtain ⟨i,j,rfl,rfl,hcb,rfl⟩:=Zif q
  exact ⟨i,j,Rep.int_iff.mp rx,Rep.int_iff.mp ry,hc i j hcb,k _ Hf H (.refl e1) st (Rep.int_iff.mpr rfl) (.scal fun z=>z)⟩⟩
theorem Zrq {f:Value→Value→Sem Value} {g:Int→Int→Int} (h:OpR X f (rI0 fun i j=>.int (g i j))):OpD X G f (dI (fun _ _=>true) fun i j=>.int (g i j)):=
 ⟨_,h,fun Hf H s x y d e c Q e1 st rx ry q k=>by
  obtain ⟨i,j,rfl,rfl,hcb,rfl⟩:=Zif q
  exact ⟨i,j,Rep.int_iff.mp rx,Rep.int_iff.mp ry,k _ Hf H (.refl e1) st (Rep.int_iff.mpr rfl) (.scal fun z=>z)⟩⟩
theorem ZjM {f:Value→Value→Sem Value} {g:Int→Int→Bool} (h:OpR X f (rI0 fun i j=>.bl (g i j))):OpD X G f (dI (fun _ _=>true) fun i j=>.bl (g i j)):=
 ⟨_,h,fun Hf H s x y d e c Q e1 st rx ry q k=>by
  obtain ⟨i,j,rfl,rfl,hcb,rfl⟩:=Zif q
  exact ⟨i,j,Rep.int_iff.mp rx,Rep.int_iff.mp ry,k _ Hf H (.refl e1) st (Rep.bl_iff.mpr rfl) (.scal fun z=>z)⟩⟩
noncomputable def dSub:=dI (fun _ _=>true) fun i j=>.int (i-j)
noncomputable def ZmC (i j:Int):Bool:=(decide (-(2 ^ 64)<i)&&decide (i<2 ^ 64))||(decide (-(2 ^ 64)<j)&&decide (j<2 ^ 64))
noncomputable def dMul:=dI ZmC fun i j=>.int (i*j)
noncomputable def dMod:=dI (fun _ j=>decide (0<j)) fun i j=>.int (i % j)
theorem Zgm:OpD X G (binaryOp .Sub) dSub:=Zrq Zrs
theorem Zqk:OpD X G (binaryOp .Mult) dMul:=Zpw Zem fun i j h=>by
 simp only [ZmC,Bool.or_eq_true,Bool.and_eq_true,decide_eq_true_eq] at h
 exact h
theorem Zlq:OpD X G (binaryOp .Mod) dMod:=Zpw ZdS fun i j h=>by simpa using h
noncomputable def dLe:=dI (fun _ _=>true) fun i j=>.bl (decide (i≤j))
noncomputable def dGt:=dI (fun _ _=>true) fun i j=>.bl (decide (j<i))
noncomputable def dGe:=dI (fun _ _=>true) fun i j=>.bl (decide (j≤i))
theorem Zht:OpD X G (compareOp .LtE) dLe:=ZjM Zsn
theorem ZjL:OpD X G (compareOp .Gt) dGt:=ZjM Zl7
theorem Zrr:OpD X G (compareOp .GtE) dGe:=ZjM Zpy
noncomputable def Zat:List D→Option (List Int)
 | []=>some []
 | .int i::ds=>(Zat ds).map (i :: ·)
 | _::_=>none
theorem Zbt:∀{ds:List D} {ns:List Int},Zat ds=some ns→ds=ns.map D.int
 | [],ns,h=>by simp [Zat] at h;subst h;rfl
 | .int i::ds,ns,h=>by
  cases e:Zat ds with
  | none=>simp [Zat,e] at h
  | some ms=>simp [Zat,e] at h;subst h;simp [Zbt e]
 | .non::_,_,h=>by simp [Zat] at h
 | .bl _::_,_,h=>by simp [Zat] at h
 | .str _::_,_,h=>by simp [Zat] at h
 | .tup _::_,_,h=>by simp [Zat] at h
 | .lst _::_,_,h=>by simp [Zat] at h
 | .dk _::_,_,h=>by simp [Zat] at h
 | .dt _::_,_,h=>by simp [Zat] at h
 | .du _::_,_,h=>by simp [Zat] at h
 | .df _::_,_,h=>by simp [Zat] at h
 | .pen::_,_,h=>by simp [Zat] at h
 | .ty _::_,_,h=>by simp [Zat] at h
theorem Zdr (ns:List Int):Zat (ns.map D.int)=some ns:=by
 induction ns with
 | nil=>rfl
 | cons n ns ih=>simp [Zat,ih]
theorem RepL.ints {H:Hp}:∀{ns:List Int} {vs:List V},RepL G H (ns.map D.int) vs→vs=ns.map V.int
 | [],vs,h=>RepL.nil_iff.mp h
 | n::ns,vs,h=>by
  obtain ⟨v,r,rfl,h1,h2⟩:=RepL.cons_iff.mp h
  rw [Rep.int_iff.mp h1,RepL.ints h2]
  rfl
noncomputable def dLt:D→D→Option D
 | .int i,.int j=>some (.bl (decide (i<j)))
 | .tup a,.tup b=>match Zat a,Zat b with | some ns,some ms=>some (.bl (HT.lexLt ns ms)) | _,_=>none
 | _,_=>none
theorem Zhs (hu:X.A.units<cLine):OpD X G (compareOp .Lt) dLt:=
 ⟨_,Zpx.or (Zrw hu),fun Hf H s x y d e c Q e1 st rx ry q k=>by
  match d,e,q,rx,ry with
  | .int i,.int j,q,rx,ry=>
   cases q
   exact .inl ⟨i,j,Rep.int_iff.mp rx,Rep.int_iff.mp ry,k _ Hf H (.refl e1) st (Rep.bl_iff.mpr rfl) (.scal fun z=>z)⟩
  | .tup a,.tup b,q,rx,ry=>
   have q:(match Zat a,Zat b with | some ns,some ms=>some (D.bl (HT.lexLt ns ms)) | _,_=>none)=some c:=q
   cases ea:Zat a with
   | none=>rw [ea] at q;simp at q
   | some ns=>
    cases eb:Zat b with
    | none=>rw [ea,eb] at q;simp at q
    | some ms=>
     rw [ea,eb] at q
     cases q
     rw [Zbt ea] at rx
     rw [Zbt eb] at ry
     obtain ⟨p,vs,rfl,np,hp,rp⟩:=Rep.tup_iff.mp rx
     obtain ⟨p2,vs2,rfl,np2,hp2,rp2⟩:=Rep.tup_iff.mp ry
     rw [RepL.ints rp] at hp
     rw [RepL.ints rp2] at hp2
     exact .inr ⟨p,p2,ns,ms,rfl,rfl,SqT.of (e1 _ _ np hp),SqT.of (e1 _ _ np2 hp2),k _ Hf H (.refl e1) st (Rep.bl_iff.mpr rfl) (.scal fun z=>z)⟩⟩
theorem Zqq:OpR X (binaryOp .Add) (fun x y H Q=>∃a b ys,x=.ref a∧y=.ref b∧SqT X.K H a []∧SqT X.K H b ys∧Q (.ref b) H):=by
 intro pins s σ H x y v u Q I rx ry h
 obtain ⟨a,b,ys,rfl,rfl,ha,hb,q⟩:=h
 cases rx
 cases ry
 obtain ⟨its,r1,p1,_⟩:=I.tuple ha
 obtain ⟨its2,r2,p2,_⟩:=I.tuple hb
 have e0:its=[]:=by cases r1;rfl
 subst e0
 obtain ⟨⟨cls,dd,data,sl⟩,ho,hc,n,hd⟩:=id p1
 obtain ⟨⟨cls2,dd2,data2,sl2⟩,ho2,hc2,n2,hd2⟩:=id p2
 simp only at hc hd hc2 hd2
 subst hc hd hc2 hd2
 exact concat_meets ⟨_,ho,rfl⟩ ⟨_,ho2,rfl⟩ noFill_tuple_add seq_tuple_add PySem.F.slot_tuple_add PySem.F.entry_tuple_add (PySem.F.args_tuple_add_2 _ _)
   (tuple_addW0 a b ([]:List Value).toArray its2.toArray n n2 dd dd2 sl sl2 rfl) ⟨ho,ho2,⟨.ref b,H,I,rfl,q⟩⟩
noncomputable def dAdd:D→D→Option D
 | .int i,.int j=>some (.int (i+j))
 | .tup a,.tup b=>if a.length+b.length≤sizeLine then some (.tup (a++b)) else none
 | .lst a,.lst b=>if a.length+b.length≤sizeLine then some (.lst (a++b)) else none
 | _,_=>none
theorem ZcX:OpD X G (binaryOp .Add) dAdd:=
 ⟨_,ZdT.or (ZrB.or (Zqp.or Zqq)),fun Hf H s x y d e c Q e1 st rx ry q k=>by
  match d,e,q,rx,ry with
  | .int i,.int j,q,rx,ry=>
   cases q
   exact .inl ⟨i,j,Rep.int_iff.mp rx,Rep.int_iff.mp ry,k _ Hf H (.refl e1) st (Rep.int_iff.mpr rfl) (.scal fun z=>z)⟩
  | .lst a,.lst b,q,rx,ry=>
   have q:(if a.length+b.length≤sizeLine then some (D.lst (a++b)) else none)=some c:=q
   split at q
   ·rename_i hz
    cases q
    obtain ⟨p,vs,rfl,np,hp,rp⟩:=Rep.lst_iff.mp rx
    obtain ⟨p2,vs2,rfl,np2,hp2,rp2⟩:=Rep.lst_iff.mp ry
    refine .inr (.inl ⟨p,p2,vs,vs2,rfl,rfl,e1 _ _ np hp,e1 _ _ np2 hp2,by rw [←rp.length,←rp2.length];exact hz,fun l hl=>?_⟩)
    have nf:=Gh.nofp st hl
    have g2:=Gr.new (o:=.lst (vs++vs2)) e1 hl nf
    have rr:=rp.append rp2
    exact k (.ref l) _ _ g2 (Gh.grow st hl) (Rep.lst_iff.mpr ⟨l,_,rfl,nf,Zaq,rr.ext g2.ff⟩) (ZaG.mk e1 hl nf rr)
   ·cases q
  | .tup a,.tup b,q,rx,ry=>
   have q:(if a.length+b.length≤sizeLine then some (D.tup (a++b)) else none)=some c:=q
   split at q
   ·rename_i hz
    cases q
    obtain ⟨p,vs,rfl,np,hp,rp⟩:=Rep.tup_iff.mp rx
    obtain ⟨p2,vs2,rfl,np2,hp2,rp2⟩:=Rep.tup_iff.mp ry
    by_cases hv:vs=[]
    ·subst hv
     have ea:a=[]:=List.length_eq_zero_iff.mp (by rw [rp.length];rfl)
     subst ea
     exact .inr (.inr (.inr ⟨p,p2,vs2,rfl,rfl,SqT.of (e1 _ _ np hp),SqT.of (e1 _ _ np2 hp2),k _ Hf H (.refl e1) st ry (.scal fun z=>z)⟩))
    ·refine .inr (.inr (.inl ⟨p,p2,vs,vs2,rfl,rfl,SqT.of (e1 _ _ np hp),SqT.of (e1 _ _ np2 hp2),hv,by rw [←rp.length,←rp2.length];exact hz,fun z=>?_,fun _ l hl=>?_⟩))
     ·subst z
      have eb:b=[]:=List.length_eq_zero_iff.mp (by rw [rp2.length];rfl)
      subst eb
      rw [List.append_nil] at k
      exact k _ Hf H (.refl e1) st rx (.scal fun z=>z)
     ·have nf:=Gh.nofp st hl
      have g2:=Gr.new (o:=.tup (vs++vs2)) e1 hl nf
      exact k (.ref l) _ _ g2 (Gh.grow st hl) (Rep.tup_iff.mpr ⟨l,_,rfl,nf,Zaq,(rp.append rp2).ext g2.ff⟩) (.scal fun z=>z)
   ·cases q⟩
noncomputable def dIx:D→D→Option D
 | .lst ds,.int i=>atI ds i
 | .tup ds,.int i=>atI ds i
 | _,_=>none
theorem ZlE {Hf:Hp} {ds:List D} {vs:List V} {i:Int} {c:D} (r:RepL G Hf ds vs) (h:atI ds i=some c):∃v,atI vs i=some v∧Rep G Hf c v:=by
 unfold atI at h ⊢
 rw [←r.length]
 cases e:ixN ds.length i with
 | none=>rw [e] at h;cases h
 | some j=>
  rw [e] at h
  obtain ⟨v,h1,h2⟩:=r.get (i:=j) (d:=c) h
  exact ⟨v,h1,h2⟩
theorem ixd:IxD X G dIx:=
 ⟨_,Zgr.or ZrO,fun Hf H s x y d e c Q e1 st rx ry q k=>by
  match d,e,q,rx,ry with
  | .lst ds,.int i,q,rx,ry=>
   obtain ⟨p,vs,rfl,np,hp,rp⟩:=Rep.lst_iff.mp rx
   obtain ⟨v,h1,h2⟩:=ZlE rp q
   exact .inl ⟨p,vs,i,v,rfl,Rep.int_iff.mp ry,SqL.of (e1 _ _ np hp),h1,k v h2⟩
  | .tup ds,.int i,q,rx,ry=>
   obtain ⟨p,vs,rfl,np,hp,rp⟩:=Rep.tup_iff.mp rx
   obtain ⟨v,h1,h2⟩:=ZlE rp q
   exact .inr ⟨p,vs,i,v,rfl,Rep.int_iff.mp ry,SqT.of (e1 _ _ np hp),h1,k v h2⟩⟩
theorem RepL.one_inv {H:Hp} {d:D} {xs:List V} (h:RepL G H [d] xs):∃v,xs=[v]∧Rep G H d v:=by
 obtain ⟨v,r,rfl,h1,h2⟩:=RepL.cons_iff.mp h
 rw [RepL.nil_iff.mp h2]
 exact ⟨v,rfl,h1⟩
theorem RepL.two_inv {H:Hp} {d e:D} {xs:List V} (h:RepL G H [d,e] xs):∃v w,xs=[v,w]∧Rep G H d v∧Rep G H e w:=by
 obtain ⟨v,r,rfl,h1,h2⟩:=RepL.cons_iff.mp h
 obtain ⟨w,rfl,h3⟩:=RepL.one_inv h2
 exact ⟨v,w,rfl,h1,h3⟩
noncomputable def dLen:List D→Option D
 | [.lst ds]=>some (.int ds.length)
 | [.tup ds]=>some (.int ds.length)
 | _=>none
theorem Zbs:Zcj X G (.builtin "len") dLen:=
 ⟨_,Zdw,fun Hf H s xs ds c Q e1 st r q k=>by
  match ds,q,r with
  | [.lst es],q,r=>
   cases q
   obtain ⟨v,rfl,rv⟩:=RepL.one_inv r
   obtain ⟨p,vs,rfl,np,hp,rp⟩:=Rep.lst_iff.mp rv
   exact ⟨p,vs,rfl,.inl (SqL.of (e1 _ _ np hp)),k _ Hf H (.refl e1) st (Rep.int_iff.mpr (by rw [rp.length])) (.scal fun z=>z)⟩
  | [.tup es],q,r=>
   cases q
   obtain ⟨v,rfl,rv⟩:=RepL.one_inv r
   obtain ⟨p,vs,rfl,np,hp,rp⟩:=Rep.tup_iff.mp rv
   exact ⟨p,vs,rfl,.inr (SqT.of (e1 _ _ np hp)),k _ Hf H (.refl e1) st (Rep.int_iff.mpr (by rw [rp.length])) (.scal fun z=>z)⟩⟩
noncomputable def Zet:List D→Option D
 | [.lst ds]=>some (.tup ds)
 | [.tup ds]=>some (.tup ds)
 | _=>none
theorem ZcR:Zcj X G (.type "tuple") Zet:=
 ⟨_,Zi4,fun Hf H s xs ds c Q e1 st r q k=>by
  match ds,q,r with
  | [.lst es],q,r=>
   cases q
   obtain ⟨v,rfl,rv⟩:=RepL.one_inv r
   obtain ⟨p,vs,rfl,np,hp,rp⟩:=Rep.lst_iff.mp rv
   refine ⟨p,vs,rfl,.inl ⟨SqL.of (e1 _ _ np hp),fun l hl=>?_⟩⟩
   have nf:=Gh.nofp st hl
   have g2:=Gr.new (o:=.tup vs) e1 hl nf
   exact k (.ref l) _ _ g2 (Gh.grow st hl) (Rep.tup_iff.mpr ⟨l,_,rfl,nf,Zaq,rp.ext g2.ff⟩) (.scal fun z=>z)
  | [.tup es],q,r=>
   cases q
   obtain ⟨v,rfl,rv⟩:=RepL.one_inv r
   obtain ⟨p,vs,rfl,np,hp,rp⟩:=Rep.tup_iff.mp rv
   exact ⟨p,vs,rfl,.inr ⟨SqT.of (e1 _ _ np hp),k _ Hf H (.refl e1) st rv (.scal fun z=>z)⟩⟩⟩
noncomputable def Zgx:List D→Option D
 | [.int i,.int j]=>some (.int (if j > i then j else i))
 | _=>none
noncomputable def Zd8:List D→Option D
 | [.int i,.int j]=>some (.int (if j<i then j else i))
 | _=>none
theorem ZhR (hc:X.calm=true):Zcj X G (.builtin "max") Zgx:=
 ⟨_,Zoc hc,fun Hf H s xs ds c Q e1 st r q k=>by
  match ds,q,r with
  | [.int i,.int j],q,r=>
   cases q
   obtain ⟨v,w,rfl,rv,rw'⟩:=RepL.two_inv r
   rw [Rep.int_iff.mp rv,Rep.int_iff.mp rw']
   exact ⟨i,j,rfl,k _ Hf H (.refl e1) st (Rep.int_iff.mpr rfl) (.scal fun z=>z)⟩⟩
theorem Zft (hc:X.calm=true):Zcj X G (.builtin "min") Zd8:=
 ⟨_,Zoa hc,fun Hf H s xs ds c Q e1 st r q k=>by
  match ds,q,r with
  | [.int i,.int j],q,r=>
   cases q
   obtain ⟨v,w,rfl,rv,rw'⟩:=RepL.two_inv r
   rw [Rep.int_iff.mp rv,Rep.int_iff.mp rw']
   exact ⟨i,j,rfl,k _ Hf H (.refl e1) st (Rep.int_iff.mpr rfl) (.scal fun z=>z)⟩⟩
noncomputable def Za7:List D→Option (List Bool)
 | []=>some []
 | .bl b::ds=>(Za7 ds).map (b :: ·)
 | _::_=>none
theorem ZhT:∀{ds:List D} {ns:List Bool},Za7 ds=some ns→ds=ns.map D.bl
 | [],ns,h=>by simp [Za7] at h;subst h;rfl
 | .bl i::ds,ns,h=>by
  cases e:Za7 ds with
  | none=>simp [Za7,e] at h
  | some ms=>simp [Za7,e] at h;subst h;simp [ZhT e]
 | .non::_,_,h=>by simp [Za7] at h
 | .int _::_,_,h=>by simp [Za7] at h
 | .str _::_,_,h=>by simp [Za7] at h
 | .tup _::_,_,h=>by simp [Za7] at h
 | .lst _::_,_,h=>by simp [Za7] at h
 | .dk _::_,_,h=>by simp [Za7] at h
 | .dt _::_,_,h=>by simp [Za7] at h
 | .du _::_,_,h=>by simp [Za7] at h
 | .df _::_,_,h=>by simp [Za7] at h
 | .pen::_,_,h=>by simp [Za7] at h
 | .ty _::_,_,h=>by simp [Za7] at h
theorem Zk5 (ns:List Bool):Za7 (ns.map D.bl)=some ns:=by
 induction ns with
 | nil=>rfl
 | cons n ns ih=>simp [Za7,ih]
theorem RepL.bools {H:Hp}:∀{ns:List Bool} {vs:List V},RepL G H (ns.map D.bl) vs→vs=ns.map V.bl
 | [],vs,h=>RepL.nil_iff.mp h
 | n::ns,vs,h=>by
  obtain ⟨v,r,rfl,h1,h2⟩:=RepL.cons_iff.mp h
  rw [Rep.bl_iff.mp h1,RepL.bools h2]
  rfl
theorem Zha:∀{bs:List Bool} {us:List Value},Vals (bs.map V.bl) us→us=bs.map Value.bool
 | [],_,.nil=>rfl
 | b::bs,_,.cons r t=>by
  cases (show _=Value.bool b from r)
  rw [Zha t]
  rfl
theorem ZlJ {hc:X.calm=true} {pins:List (Addr×Obj)} {s:Shared} {σ:St} {H:Hp} {p:Addr} {bs:List Bool} {Q:Value→Shared→Prop} {E:Value→Shared→Prop} (fin:Bool) (I:Inv X pins σ H s) (h:H p=some (.lst (bs.map V.bl)))
  (fn:(Nat→Bool)→List Nat→Bool) (hq:∀s',Inv X pins σ H s'→Q (.bool (fn (fun i=>bs.getD i false) (List.range bs.length))) s') :
  wpAny (model X.prog X.w) X.A.in1 (pyIter (.ref p)) (fun it s₂=>∃I fp wr n P St tr,it=.ref I∧Walks X.prog X.w X.A.in1 I fp wr n P St∧St 0 s₂.heap∧TruthOf X.prog X.w X.A.in1 P tr∧
   ∀h' tk,(∀b o,b∉wr→s₂.heap.get? b=some o→h'.get? b=some o)→Q (.bool (fn tr (List.range n))) { s₂ with heap:=h',toks:=tk }) E s:=by
 obtain ⟨its,rv,pl,hz⟩:=I.list (SqL.of h)
 have eu:=Zha rv
 subst eu
 refine wpAny_pyIter_list pl.isList ?_
 have hne:p≠s.heap.objs.size:=Nat.ne_of_lt (by
  obtain ⟨o,ho,_⟩:=pl.isList
  exact Heap.lt_size ho)
 refine ⟨s.heap.objs.size,_,_,_,_,_,fun i=>bs.getD i false,rfl,Walks.list (A:=X.A.in1) (I.ok.hd hc) s.heap.objs.size p hne _,⟨⟨_,Heap.get?_push_size _ rfl,rfl,rfl⟩,pl.isList.at fun o e=>Heap.get?_push_of_some _ e⟩,?_,?_⟩
 ·intro i v s' Q' E' hP hQ'
  have hv:v=.bool (bs.getD i false):=by
   have e:(bs.map Value.bool).toArray[i]?=some v:=hP
   rw [List.getElem?_toArray,List.getElem?_map] at e
   cases q:bs[i]? with
   | none=>rw [q] at e;cases e
   | some b=>rw [q] at e;cases e;simp [List.getD,q]
  subst hv
  exact wpAny_truthy_bool hQ'
 ·intro h' tk hk
  have:(List.map Value.bool bs).toArray.size=bs.length:=by simp
  rw [this]
  have I1:Inv X pins σ H { s with heap:=s.heap.push { cls:=.type "list_iterator",data:=.fields #[.ref p,.int 0 0] } }:=I.kept (t':=s.toks) fun b o e=>Heap.get?_push_of_some _ e
  refine hq _ (I.kept (t':=tk) fun b o e=>hk b o ?_ (Heap.get?_push_of_some _ e))
  have:=Nat.ne_of_lt (Heap.lt_size e)
  simpa using this
theorem Zpl (bs:List Bool):(List.range bs.length).all (fun i=>bs.getD i false)=bs.all id:=by
 induction bs with
 | nil=>rfl
 | cons b bs ih=>
  rw [List.length_cons,List.range_succ_eq_map,List.all_cons,List.all_map]
  show (b&&(List.range bs.length).all fun i=>bs.getD i false)=_
  rw [ih];rfl
theorem Zoe (hc:X.calm=true):ZbH X (.builtin "all") (fun xs H Q=>∃(p:Addr) (bs:List Bool),xs=[.ref p]∧H p=some (.lst (bs.map V.bl))∧Q (.bl (bs.all id)) H):=by
 intro pins s σ H xs us Q I r h
 obtain ⟨p,bs,rfl,hp,q⟩:=h
 obtain ⟨u,rfl,ru⟩:=Zb8 r
 cases ru
 refine call_all_walk (ZlJ (hc:=hc) true I hp (fun t l=>l.all t) fun s' I'=>⟨.bl (bs.all id),H,I',?_,q⟩)
 show Value.bool _=_
 rw [Zpl]
noncomputable def dAll:List D→Option D
 | [.lst ds]=>(Za7 ds).map fun bs=>.bl (bs.all id)
 | _=>none
theorem ZiL (hc:X.calm=true):Zcj X G (.builtin "all") dAll:=
 ⟨_,Zoe hc,fun Hf H s xs ds c Q e1 st r q k=>by
  match ds,q,r with
  | [.lst es],q,r=>
   obtain ⟨v,rfl,rv⟩:=RepL.one_inv r
   obtain ⟨p,vs,rfl,np,hp,rp⟩:=Rep.lst_iff.mp rv
   cases e:Za7 es with
   | none=>simp [dAll,e] at q
   | some bs=>
    simp [dAll,e] at q
    subst q
    rw [ZhT e] at rp
    rw [RepL.bools rp] at hp
    exact ⟨p,bs,rfl,e1 _ _ np hp,k _ Hf H (.refl e1) st (Rep.bl_iff.mpr rfl) (.scal fun z=>z)⟩⟩
theorem Zl0 {x:Str} {n:String} {pos:Pos} (hg:Gl X x) (hm:X.mg x=none) (hv:bootBuiltins x=some (.type n)) (hn:x≠"__name__":=by decide) (hd:(x==("__debug__" : Str))=false:=by decide):PD X G true (.Name x pos) (dC (.ty n)):=by
 refine ⟨_,Zqc (v:=.ty n) hg hm hv rfl hn hd,fun σ Hf H ρ s d s' Q e1 e2 e3 e4 k=>?_⟩
 obtain ⟨rfl,rfl⟩:=Zao e4
 exact k _ Hf H (.refl e1) e3 (Rep.ty_iff.mpr rfl) fun _=>.scal fun z=>z
noncomputable def Zhc:D→Option String
 | .non=>some "NoneType"
 | .bl _=>some "bool"
 | .int _=>some "int"
 | .str _=>some "str"
 | .tup _=>some "tuple"
 | .lst _=>some "list"
 | .dk _=>some "dict"
 | .dt _=>none
 | .du _=>none
 | .df _=>none
 | _=>none
noncomputable def Zhx:List String:=["int","bool","str","tuple","list","dict"]
noncomputable def dIsi:List D→Option D
 | [d,.ty T]=>match Zhc d with
  | some n=>if Zhx.contains T then some (.bl (n==T||(n == "bool" && T == "int"))) else none
  | none=>none
 | _=>none
theorem ZqG (K:PySem.W.Frag):∀n∈["NoneType","bool","int","str","tuple","list","dict"],∀T∈Zhx,PySem.W.kitOne K (.type n) (.type T)=some (n==T||(n == "bool" && T == "int")):=by
 intro n hn T hT
 simp only [Zhx,List.mem_cons,List.not_mem_nil,or_false] at hn hT
 rcases hn with rfl | rfl | rfl | rfl | rfl | rfl | rfl <;> rcases hT with rfl | rfl | rfl | rfl | rfl | rfl <;> rfl
theorem ZmL {Hf H:Hp} {d:D} {v:V} {n:String} (e1:Ext G Hf H) (r:Rep G Hf d v) (h:Zhc d=some n):TyOf X.K H v (.type n)∧n∈["NoneType","bool","int","str","tuple","list","dict"]:=by
 cases d with
 | non=>cases h;rw [Rep.non_iff.mp r];exact ⟨.non,by decide⟩
 | bl b=>cases h;rw [Rep.bl_iff.mp r];exact ⟨.bl b,by decide⟩
 | int b=>cases h;rw [Rep.int_iff.mp r];exact ⟨.int b,by decide⟩
 | str b=>cases h;rw [Rep.str_iff.mp r];exact ⟨.str b,by decide⟩
 | tup ds=>cases h;obtain ⟨p,vs,rfl,np,hp,rp⟩:=Rep.tup_iff.mp r;exact ⟨.tup (e1 _ _ np hp),by decide⟩
 | lst ds=>cases h;obtain ⟨p,vs,rfl,np,hp,rp⟩:=Rep.lst_iff.mp r;exact ⟨.lst (e1 _ _ np hp),by decide⟩
 | dk ds=>cases h;obtain ⟨p,rfl,np,hp⟩:=Rep.dk_iff.mp r;exact ⟨.dK (e1 _ _ np hp),by decide⟩
 | dt ds=>cases h
 | du ds=>cases h
 | df ds=>cases h
 | pen=>cases h
 | ty _=>cases h
 | clo _ _=>cases h
theorem Zod:ZbH X (.builtin "isinstance") (fun xs H Q=>∃x n T,xs=[x,.ty T]∧TyOf X.K H x (.type n)∧n∈["NoneType","bool","int","str","tuple","list","dict"]∧T∈Zhx∧Q (.bl (n==T||(n == "bool" && T == "int"))) H):=by
 intro pins s σ H xs us Q I r h
 obtain ⟨x,n,T,rfl,ty,hn,hT,q⟩:=h
 obtain ⟨u,w',rfl,ru,rw'⟩:=ZlK r
 cases (show w'=Value.type T from rw')
 exact ZnF I ru ty (ZqG X.K n hn T hT) fun tk=>⟨.bl _,H,I.tok tk,rfl,q⟩
theorem Zgd:Zcj X G (.builtin "isinstance") dIsi:=
 ⟨_,Zod,fun Hf H s xs ds c Q e1 st r q k=>by
  match ds,q,r with
  | [d,.ty T],q,r=>
   obtain ⟨v,w,rfl,rv,rw'⟩:=RepL.two_inv r
   rw [Rep.ty_iff.mp rw']
   have q:(match Zhc d with | some n=>if Zhx.contains T then some (D.bl (n==T||(n == "bool" && T == "int"))) else none | none=>none)=some c:=q
   cases e:Zhc d with
   | none=>rw [e] at q;cases q
   | some n=>
    rw [e] at q
    simp only at q
    split at q
    ·rename_i hk
     cases q
     obtain ⟨t1,t2⟩:=ZmL (X:=X) e1 rv e
     exact ⟨v,n,T,rfl,t1,t2,by simpa using hk,k _ Hf H (.refl e1) st (Rep.bl_iff.mpr rfl) (.scal fun z=>z)⟩
    ·cases q⟩
end
mutual
noncomputable def Zai:D→Bool
 | .non=>true
 | .bl _=>true
 | .int _=>true
 | .str _=>true
 | .tup ds=>ZaU ds
 | .lst ds=>ZaU ds
 | _=>false
noncomputable def ZaU:List D→Bool
 | []=>true
 | d::ds=>Zai d&&ZaU ds
end
mutual
noncomputable def dep:D→Nat
 | .tup ds=>deps ds+1
 | .lst ds=>deps ds+1
 | _=>0
noncomputable def deps:List D→Nat
 | []=>0
 | d::ds=>max (dep d) (deps ds)
end
theorem Zea:∀{ds:List D} {d:D},d∈ds→dep d≤deps ds
 | e::ds,d,h=>by
  rcases List.mem_cons.mp h with rfl | h
  ·simp only [deps];omega
  ·have:=Zea h
   simp only [deps];omega
theorem ZcL:∀{ds:List D} {d:D},ZaU ds=true→d∈ds→Zai d=true
 | e::ds,d,n,h=>by
  have n':Zai e=true∧ZaU ds=true:=by simpa [ZaU] using n
  rcases List.mem_cons.mp h with rfl | h
  ·exact n'.1
  ·exact ZcL n'.2 h
mutual
noncomputable def dEq:D→D→Bool
 | .non,.non=>true
 | .bl a,.bl b=>a==b
 | .bl a,.int i=>(if a then 1 else 0)==i
 | .int i,.bl b=>i==(if b then 1 else 0)
 | .int i,.int j=>i==j
 | .str x,.str y=>x==y
 | .tup a,.tup b=>dEqs a b
 | .lst a,.lst b=>dEqs a b
 | _,_=>false
noncomputable def dEqs:List D→List D→Bool
 | [],[]=>true
 | a::as,b::bs=>dEq a b&&dEqs as bs
 | _,_=>false
end
mutual
theorem Zg6:∀d:D,Zai d=true→dEq d d=true
 | .non,_=>by simp [dEq]
 | .bl _,_=>by simp [dEq]
 | .int _,_=>by simp [dEq]
 | .str _,_=>by simp [dEq]
 | .tup ds,h=>by simp only [dEq];exact Zgb ds (by simpa [Zai] using h)
 | .lst ds,h=>by simp only [dEq];exact Zgb ds (by simpa [Zai] using h)
 | .dk _,h=>by simp [Zai] at h
 | .dt _,h=>by simp [Zai] at h
 | .du _,h=>by simp [Zai] at h
 | .df _,h=>by simp [Zai] at h
 | .pen,h=>by simp [Zai] at h
 | .ty _,h=>by simp [Zai] at h
 | .clo _ _,h=>by simp [Zai] at h
theorem Zgb:∀ds:List D,ZaU ds=true→dEqs ds ds=true
 | [],_=>by simp [dEqs]
 | d::ds,h=>by
  have n':Zai d=true∧ZaU ds=true:=by simpa [ZaU] using h
  simp only [dEqs,Zg6 d n'.1,Zgb ds n'.2,Bool.and_self]
end
theorem Zg5:∀{a b:List D},dEqs a b=true→a.length=b.length
 | [],[],_=>rfl
 | a::as,b::bs,h=>by
  have:dEq a b=true∧dEqs as bs=true:=by simpa [dEqs] using h
  simp [Zg5 this.2]
 | [],_::_,h=>by simp [dEqs] at h
 | _::_,[],h=>by simp [dEqs] at h
theorem Zfs:∀(a b:List D),a.length=b.length→(List.range a.length).all (fun j=>dEq (a.getD j .non) (b.getD j .non))=dEqs a b
 | [],[],_=>rfl
 | a::as,b::bs,h=>by
  have h':as.length=bs.length:=by simpa using h
  rw [List.length_cons,List.range_succ_eq_map,List.all_cons,List.all_map,dEqs,←Zfs as bs h']
  rfl
 | [],_::_,h=>by simp at h
 | _::_,[],h=>by simp at h
theorem Zk1:∀(a b:List D),((List.range (min a.length b.length)).all (fun j=>dEq (a.getD j .non) (b.getD j .non))&&a.length==b.length)=dEqs a b:=fun a b=>by
 by_cases h:a.length=b.length
 ·rw [←Zfs a b h,h];simp
 ·have:dEqs a b=false:=by
   cases e:dEqs a b with
   | false=>rfl
   | true=>exact absurd (Zg5 e) h
  rw [this];simp [h]
mutual
theorem Rep.inj {G:Gh} {H:Hp}:∀{d e:D} {v:V},Zai d=true→Zai e=true→Rep G H d v→Rep G H e v→d=e
 | .non,e,v,_,pe,h,h'=>by
  rw [Rep.non_iff.mp h] at h'
  cases e <;> first | rfl | (simp [Zai] at pe;done) | (simp [Rep] at h')
 | .bl b,e,v,_,pe,h,h'=>by
  rw [Rep.bl_iff.mp h] at h'
  cases e <;> first | (simp [Zai] at pe;done) | (simp [Rep] at h';rw [h']) | (simp [Rep] at h')
 | .int b,e,v,_,pe,h,h'=>by
  rw [Rep.int_iff.mp h] at h'
  cases e <;> first | (simp [Zai] at pe;done) | (simp [Rep] at h';rw [h']) | (simp [Rep] at h')
 | .str b,e,v,_,pe,h,h'=>by
  rw [Rep.str_iff.mp h] at h'
  cases e <;> first | (simp [Zai] at pe;done) | (simp [Rep] at h';rw [h']) | (simp [Rep] at h')
 | .tup ds,e,v,pd,pe,h,h'=>by
  obtain ⟨a,vs,rfl,n,q,r⟩:=Rep.tup_iff.mp h
  cases e with
  | tup es=>
   obtain ⟨a',vs',e',n',q',r'⟩:=Rep.tup_iff.mp h'
   cases e'
   rw [q] at q';cases q'
   rw [RepL.inj (by simpa [Zai] using pd) (by simpa [Zai] using pe) r r']
  | lst es=>
   obtain ⟨a',vs',e',n',q',r'⟩:=Rep.lst_iff.mp h'
   cases e'
   rw [q] at q';cases q'
  | _=>first | (simp [Rep] at h';done) | (simp [Zai] at pe;done)
 | .lst ds,e,v,pd,pe,h,h'=>by
  obtain ⟨a,vs,rfl,n,q,r⟩:=Rep.lst_iff.mp h
  cases e with
  | lst es=>
   obtain ⟨a',vs',e',n',q',r'⟩:=Rep.lst_iff.mp h'
   cases e'
   rw [q] at q';cases q'
   rw [RepL.inj (by simpa [Zai] using pd) (by simpa [Zai] using pe) r r']
  | tup es=>
   obtain ⟨a',vs',e',n',q',r'⟩:=Rep.tup_iff.mp h'
   cases e'
   rw [q] at q';cases q'
  | _=>first | (simp [Rep] at h';done) | (simp [Zai] at pe;done)
 | .dk _,_,_,pd,_,_,_=>by simp [Zai] at pd
 | .dt _,_,_,pd,_,_,_=>by simp [Zai] at pd
 | .du _,_,_,pd,_,_,_=>by simp [Zai] at pd
 | .df _,_,_,pd,_,_,_=>by simp [Zai] at pd
 | .pen,_,_,pd,_,_,_=>by simp [Zai] at pd
 | .ty _,_,_,pd,_,_,_=>by simp [Zai] at pd
 | .clo _ _,_,_,pd,_,_,_=>by simp [Zai] at pd
theorem RepL.inj {G:Gh} {H:Hp}:∀{ds es:List D} {vs:List V},ZaU ds=true→ZaU es=true→RepL G H ds vs→RepL G H es vs→ds=es
 | [],es,vs,_,pe,h,h'=>by
  rw [RepL.nil_iff.mp h] at h'
  cases es with
  | nil=>rfl
  | cons e es=>obtain ⟨v,r,e1,_⟩:=RepL.cons_iff.mp h';cases e1
 | d::ds,es,vs,pd,pe,h,h'=>by
  obtain ⟨v,r,rfl,r1,r2⟩:=RepL.cons_iff.mp h
  have pd':Zai d=true∧ZaU ds=true:=by simpa [ZaU] using pd
  cases es with
  | nil=>have:=RepL.nil_iff.mp h';cases this
  | cons e es=>
   obtain ⟨v',r',e1,r1',r2'⟩:=RepL.cons_iff.mp h'
   cases e1
   have pe':Zai e=true∧ZaU es=true:=by simpa [ZaU] using pe
   rw [Rep.inj pd'.1 pe'.1 r1 r1',RepL.inj pd'.2 pe'.2 r2 r2']
end
section
variable {X:Cx} {G:Gh} {pins:List (Addr×Obj)} {σ:St} {Hf H:Hp} {s:Shared}
theorem ZdV (A:Around):A.in1.units=A.units+1:=rfl
theorem Zgs {ds:List D} {vs:List V} {us:List Value} (r:RepL G Hf ds vs) (rv:Vals vs us) {j:Nat} (h:j<us.toArray.size):∃v,Rep G Hf (ds.getD j .non) v∧RelV v us.toArray[j]∧ds.getD j .non∈ds:=by
 have hl:j<ds.length:=by rw [r.length,rv.length];simpa using h
 have e:ds[j]?=some (ds.getD j .non):=by simp [List.getD,hl]
 obtain ⟨v,h1,h2⟩:=r.get e
 obtain ⟨u,h3,h4⟩:=rv.get h1
 refine ⟨v,h2,?_,?_⟩
 ·have:us.toArray[j]=u:=by
   have h':j<us.length:=by simpa using h
   have q:us[j]?=some us[j]:=by simp [h']
   rw [h3] at q
   simpa using (Option.some.inj q).symm
  rw [this];exact h4
 ·simp [List.getD,hl]
theorem Zmq (I:Inv X pins σ H s) (e1:Ext G Hf H):∀(n:Nat) (A:Around) (d e:D) (x y:V) (u v:Value),dep d≤n→dep e≤n→A.units+n+1<cLine→Zai d=true→Zai e=true→Rep G Hf d x→Rep G Hf e y→RelV x u→RelV y v→
  SeqAt.EqAt A s u v (dEq d e)∧SeqAt.RcAt A s u v (dEq d e)∧SeqAt.RcNeAt A s u v (!dEq d e):=by
 intro n
 induction n with
 | zero=>
  intro A d e x y u v hd he hu pd pe rd re ru rv
  have hu':A.units<cLine:=by omega
  cases d with
  | tup ds=>simp [dep] at hd
  | lst ds=>simp [dep] at hd
  | dk _=>simp [Zai] at pd
  | dt _=>simp [Zai] at pd
  | du _=>simp [Zai] at pd
  | df _=>simp [Zai] at pd
  | pen=>simp [Zai] at pd
  | ty _=>simp [Zai] at pd
  | clo _ _=>simp [Zai] at pd
  | non=>
   rw [Rep.non_iff.mp rd] at ru
   cases (show u=Value.none from ru)
   cases e with
   | tup ds=>simp [dep] at he
   | lst ds=>simp [dep] at he
   | dk _=>simp [Zai] at pe
   | dt _=>simp [Zai] at pe
   | du _=>simp [Zai] at pe
   | df _=>simp [Zai] at pe
   | pen=>simp [Zai] at pe
   | ty _=>simp [Zai] at pe
   | clo _ _=>simp [Zai] at pe
   | non=>rw [Rep.non_iff.mp re] at rv;cases (show v=Value.none from rv);simp only [dEq];exact ⟨.same _,.none_none,.none_none⟩
   | bl b=>rw [Rep.bl_iff.mp re] at rv;cases (show v=Value.bool b from rv);simp only [dEq];exact ⟨.none_bool b,.none_bool b,.none_bool b⟩
   | int b=>rw [Rep.int_iff.mp re] at rv;obtain ⟨t,rfl⟩:=rv;simp only [dEq];exact ⟨.none_int b t,.none_int b t,.none_int b t⟩
   | str b=>rw [Rep.str_iff.mp re] at rv;obtain ⟨t,rfl⟩:=rv;simp only [dEq];exact ⟨.none_str b t,.none_str b t,.none_str b t⟩
  | bl a=>
   rw [Rep.bl_iff.mp rd] at ru
   cases (show u=Value.bool a from ru)
   cases e with
   | tup ds=>simp [dep] at he
   | lst ds=>simp [dep] at he
   | dk _=>simp [Zai] at pe
   | dt _=>simp [Zai] at pe
   | du _=>simp [Zai] at pe
   | df _=>simp [Zai] at pe
   | pen=>simp [Zai] at pe
   | ty _=>simp [Zai] at pe
   | clo _ _=>simp [Zai] at pe
   | non=>rw [Rep.non_iff.mp re] at rv;cases (show v=Value.none from rv);simp only [dEq];exact ⟨.bool_none a,.bool_none a,.bool_none a⟩
   | bl b=>rw [Rep.bl_iff.mp re] at rv;cases (show v=Value.bool b from rv);simp only [dEq];exact ⟨.bool_bool a b,.bool_bool a b,.bool_bool a b⟩
   | int b=>rw [Rep.int_iff.mp re] at rv;obtain ⟨t,rfl⟩:=rv;simp only [dEq];exact ⟨.bool_int a b t,.bool_int a b t,.bool_int a b t⟩
   | str b=>rw [Rep.str_iff.mp re] at rv;obtain ⟨t,rfl⟩:=rv;simp only [dEq];exact ⟨.bool_str a b t,.bool_str a b t,.bool_str a b t⟩
  | int a=>
   rw [Rep.int_iff.mp rd] at ru
   obtain ⟨ta,rfl⟩:=ru
   cases e with
   | tup ds=>simp [dep] at he
   | lst ds=>simp [dep] at he
   | dk _=>simp [Zai] at pe
   | dt _=>simp [Zai] at pe
   | du _=>simp [Zai] at pe
   | df _=>simp [Zai] at pe
   | pen=>simp [Zai] at pe
   | ty _=>simp [Zai] at pe
   | clo _ _=>simp [Zai] at pe
   | non=>rw [Rep.non_iff.mp re] at rv;cases (show v=Value.none from rv);simp only [dEq];exact ⟨.int_none a ta,.int_none a ta,.int_none a ta⟩
   | bl b=>rw [Rep.bl_iff.mp re] at rv;cases (show v=Value.bool b from rv);simp only [dEq];exact ⟨.int_bool a ta b,.int_bool a ta b,.int_bool a ta b⟩
   | int b=>rw [Rep.int_iff.mp re] at rv;obtain ⟨t,rfl⟩:=rv;simp only [dEq];exact ⟨.int_int a ta b t,.int_int a ta b t,.int_int a ta b t⟩
   | str b=>rw [Rep.str_iff.mp re] at rv;obtain ⟨t,rfl⟩:=rv;simp only [dEq];exact ⟨.int_str a ta b t,.int_str a ta b t,.int_str a ta b t⟩
  | str a=>
   rw [Rep.str_iff.mp rd] at ru
   obtain ⟨ta,rfl⟩:=ru
   cases e with
   | tup ds=>simp [dep] at he
   | lst ds=>simp [dep] at he
   | dk _=>simp [Zai] at pe
   | dt _=>simp [Zai] at pe
   | du _=>simp [Zai] at pe
   | df _=>simp [Zai] at pe
   | pen=>simp [Zai] at pe
   | ty _=>simp [Zai] at pe
   | clo _ _=>simp [Zai] at pe
   | non=>rw [Rep.non_iff.mp re] at rv;cases (show v=Value.none from rv);simp only [dEq];exact ⟨.str_none a ta,.str_none a ta,.str_none a ta⟩
   | bl b=>rw [Rep.bl_iff.mp re] at rv;cases (show v=Value.bool b from rv);simp only [dEq];exact ⟨.str_bool a ta b,.str_bool a ta b,.str_bool a ta b⟩
   | int b=>rw [Rep.int_iff.mp re] at rv;obtain ⟨t,rfl⟩:=rv;simp only [dEq];exact ⟨.str_int a ta b t,.str_int a ta b t,.str_int a ta b t⟩
   | str b=>rw [Rep.str_iff.mp re] at rv;obtain ⟨t,rfl⟩:=rv;simp only [dEq];exact ⟨.str_str a ta b t,.str_str a ta b t,.str_str a ta b t⟩
 | succ n ih=>
  intro A d e x y u v hd he hu pd pe rd re ru rv
  have hu':A.units<cLine:=by omega
  by_cases hs:dep d≤n∧dep e≤n
  ·exact ih A d e x y u v hs.1 hs.2 (by omega) pd pe rd re ru rv
  -- two refs
  have same:∀{l b:Addr},x=.ref l→y=.ref b→l=b→dEq d e=true:=fun ex ey el=>by
   subst ex ey el
   have:=Rep.inj pd pe rd re
   subst this
   exact Zg6 d pd
  cases d with
  | dk _=>simp [Zai] at pd
  | dt _=>simp [Zai] at pd
  | du _=>simp [Zai] at pd
  | df _=>simp [Zai] at pd
  | pen=>simp [Zai] at pd
  | ty _=>simp [Zai] at pd
  | clo _ _=>simp [Zai] at pd
  | tup ds=>
   obtain ⟨l,vs,rfl,nl,hl,rl⟩:=Rep.tup_iff.mp rd
   cases (show u=Value.ref l from ru)
   obtain ⟨its,rits,pits,_⟩:=I.tuple (SqT.of (K:=X.K) (e1 _ _ nl hl))
   have il:s.heap.IsTuple l its.toArray:=pits
   cases e with
   | dk _=>simp [Zai] at pe
   | dt _=>simp [Zai] at pe
   | du _=>simp [Zai] at pe
   | df _=>simp [Zai] at pe
   | pen=>simp [Zai] at pe
   | ty _=>simp [Zai] at pe
   | clo _ _=>simp [Zai] at pe
   | non=>rw [Rep.non_iff.mp re] at rv;cases (show v=Value.none from rv);simp only [dEq];exact ⟨.tuple_none il hu',.tuple_none il hu',.tuple_none il hu'⟩
   | bl b=>rw [Rep.bl_iff.mp re] at rv;cases (show v=Value.bool b from rv);simp only [dEq];exact ⟨.tuple_bool b il hu',.tuple_bool b il hu',.tuple_bool b il hu'⟩
   | int b=>rw [Rep.int_iff.mp re] at rv;obtain ⟨t,rfl⟩:=rv;simp only [dEq];exact ⟨.tuple_int b t il hu',.tuple_int b t il hu',.tuple_int b t il hu'⟩
   | str b=>rw [Rep.str_iff.mp re] at rv;obtain ⟨t,rfl⟩:=rv;simp only [dEq];exact ⟨.tuple_str b t il hu',.tuple_str b t il hu',.tuple_str b t il hu'⟩
   | lst es=>
    obtain ⟨b,ws,rfl,nb,hb,rb⟩:=Rep.lst_iff.mp re
    cases (show v=Value.ref b from rv)
    obtain ⟨its2,rits2,pits2,_⟩:=I.list (SqL.of (K:=X.K) (e1 _ _ nb hb))
    simp only [dEq];exact ⟨.tuple_list il pits2.isList hu',.tuple_list il pits2.isList hu',.tuple_list il pits2.isList hu'⟩
   | tup es=>
    obtain ⟨b,ws,rfl,nb,hb,rb⟩:=Rep.tup_iff.mp re
    cases (show v=Value.ref b from rv)
    obtain ⟨its2,rits2,pits2,_⟩:=I.tuple (SqT.of (K:=X.K) (e1 _ _ nb hb))
    have ib:s.heap.IsTuple b its2.toArray:=pits2
    have hit:∀j (h1:j<its.toArray.size) (h2:j<its2.toArray.size),SeqAt.EqAt A.in1 s its.toArray[j] its2.toArray[j] ((fun j=>dEq (ds.getD j .non) (es.getD j .non)) j):=fun j h1 h2=>by
     obtain ⟨v1,a1,a2,a3⟩:=Zgs rl rits h1
     obtain ⟨v2,b1,b2,b3⟩:=Zgs rb rits2 h2
     exact (ih A.in1 _ _ v1 v2 _ _ (Nat.le_trans (Zea a3) (by simp [dep] at hd;omega)) (Nat.le_trans (Zea b3) (by simp [dep] at he;omega)) (by rw [ZdV];omega)
      (ZcL (by simpa [Zai] using pd) a3) (ZcL (by simpa [Zai] using pe) b3) a1 b1 a2 b2).1
    have sz1:its.toArray.size=ds.length:=by rw [rl.length,rits.length];simp
    have sz2:its2.toArray.size=es.length:=by rw [rb.length,rits2.length];simp
    have rc:=SeqAt.RcAt.tuples (e:=fun j=>dEq (ds.getD j .non) (es.getD j .non)) il ib hu' hit
    have rn:=SeqAt.RcNeAt.tuples (e:=fun j=>dEq (ds.getD j .non) (es.getD j .non)) il ib hu' hit
    rw [sz1,sz2,Zk1] at rc rn
    simp only [dEq]
    refine ⟨?_,rc,rn⟩
    by_cases hlb:l=b
    ·have q:=same rfl rfl hlb
     simp only [dEq] at q
     subst hlb
     rw [q];exact .same _
    ·exact .of_refs hlb rc
  | lst ds=>
   obtain ⟨l,vs,rfl,nl,hl,rl⟩:=Rep.lst_iff.mp rd
   cases (show u=Value.ref l from ru)
   obtain ⟨its,rits,pits,_⟩:=I.list (SqL.of (K:=X.K) (e1 _ _ nl hl))
   have il:=pits.isList
   cases e with
   | dk _=>simp [Zai] at pe
   | dt _=>simp [Zai] at pe
   | du _=>simp [Zai] at pe
   | df _=>simp [Zai] at pe
   | pen=>simp [Zai] at pe
   | ty _=>simp [Zai] at pe
   | clo _ _=>simp [Zai] at pe
   | non=>rw [Rep.non_iff.mp re] at rv;cases (show v=Value.none from rv);simp only [dEq];exact ⟨.list_none il hu',.list_none il hu',.list_none il hu'⟩
   | bl b=>rw [Rep.bl_iff.mp re] at rv;cases (show v=Value.bool b from rv);simp only [dEq];exact ⟨.list_bool b il hu',.list_bool b il hu',.list_bool b il hu'⟩
   | int b=>rw [Rep.int_iff.mp re] at rv;obtain ⟨t,rfl⟩:=rv;simp only [dEq];exact ⟨.list_int b t il hu',.list_int b t il hu',.list_int b t il hu'⟩
   | str b=>rw [Rep.str_iff.mp re] at rv;obtain ⟨t,rfl⟩:=rv;simp only [dEq];exact ⟨.list_str b t il hu',.list_str b t il hu',.list_str b t il hu'⟩
   | tup es=>
    obtain ⟨b,ws,rfl,nb,hb,rb⟩:=Rep.tup_iff.mp re
    cases (show v=Value.ref b from rv)
    obtain ⟨its2,rits2,pits2,_⟩:=I.tuple (SqT.of (K:=X.K) (e1 _ _ nb hb))
    have ib:s.heap.IsTuple b its2.toArray:=pits2
    simp only [dEq];exact ⟨.list_tuple il ib hu',.list_tuple il ib hu',.list_tuple il ib hu'⟩
   | lst es=>
    obtain ⟨b,ws,rfl,nb,hb,rb⟩:=Rep.lst_iff.mp re
    cases (show v=Value.ref b from rv)
    obtain ⟨its2,rits2,pits2,_⟩:=I.list (SqL.of (K:=X.K) (e1 _ _ nb hb))
    have ib:=pits2.isList
    have hit:∀j (h1:j<its.toArray.size) (h2:j<its2.toArray.size),SeqAt.EqAt A.in1 s its.toArray[j] its2.toArray[j] ((fun j=>dEq (ds.getD j .non) (es.getD j .non)) j):=fun j h1 h2=>by
     obtain ⟨v1,a1,a2,a3⟩:=Zgs rl rits h1
     obtain ⟨v2,b1,b2,b3⟩:=Zgs rb rits2 h2
     exact (ih A.in1 _ _ v1 v2 _ _ (Nat.le_trans (Zea a3) (by simp [dep] at hd;omega)) (Nat.le_trans (Zea b3) (by simp [dep] at he;omega)) (by rw [ZdV];omega)
      (ZcL (by simpa [Zai] using pd) a3) (ZcL (by simpa [Zai] using pe) b3) a1 b1 a2 b2).1
    have sz1:its.toArray.size=ds.length:=by rw [rl.length,rits.length];simp
    have sz2:its2.toArray.size=es.length:=by rw [rb.length,rits2.length];simp
    have key:SeqAt.RcAt A s (.ref l) (.ref b) (dEqs ds es)∧SeqAt.RcNeAt A s (.ref l) (.ref b) (!dEqs ds es):=by
     by_cases hsz:ds.length=es.length
     ·have rc:=SeqAt.RcAt.lists (e:=fun j=>dEq (ds.getD j .non) (es.getD j .non)) il ib (by rw [sz1,sz2];exact hsz) hu' hit
      have rn:=SeqAt.RcNeAt.lists (e:=fun j=>dEq (ds.getD j .non) (es.getD j .non)) il ib (by rw [sz1,sz2];exact hsz) hu' hit
      rw [sz1,Zfs ds es hsz] at rc rn
      exact ⟨rc,rn⟩
     ·have hne:(its.toArray.size != its2.toArray.size)=true:=by rw [sz1,sz2];simpa using hsz
      have hf:dEqs ds es=false:=by
       cases e:dEqs ds es with
       | false=>rfl
       | true=>exact absurd (Zg5 e) hsz
      rw [hf]
      exact ⟨.lists_lengths il ib hne hu',.lists_lengths il ib hne hu'⟩
    simp only [dEq]
    refine ⟨?_,key.1,key.2⟩
    by_cases hlb:l=b
    ·have q:=same rfl rfl hlb
     simp only [dEq] at q
     subst hlb
     rw [q];exact .same _
    ·exact .of_refs hlb key.1
  | non=>
   rw [Rep.non_iff.mp rd] at ru
   cases (show u=Value.none from ru)
   cases e with
   | tup es=>
    obtain ⟨b,ws,rfl,nb,hb,rb⟩:=Rep.tup_iff.mp re
    cases (show v=Value.ref b from rv)
    obtain ⟨its2,rits2,pits2,_⟩:=I.tuple (SqT.of (K:=X.K) (e1 _ _ nb hb))
    have ib:s.heap.IsTuple b its2.toArray:=pits2
    simp only [dEq];exact ⟨.none_tuple ib hu',.none_tuple ib hu',.none_tuple ib hu'⟩
   | lst es=>
    obtain ⟨b,ws,rfl,nb,hb,rb⟩:=Rep.lst_iff.mp re
    cases (show v=Value.ref b from rv)
    obtain ⟨its2,rits2,pits2,_⟩:=I.list (SqL.of (K:=X.K) (e1 _ _ nb hb))
    have ib:=pits2.isList
    simp only [dEq];exact ⟨.none_list ib hu',.none_list ib hu',.none_list ib hu'⟩
   | _=>simp [dep] at hs
  | bl a=>
   rw [Rep.bl_iff.mp rd] at ru
   cases (show u=Value.bool a from ru)
   cases e with
   | tup es=>
    obtain ⟨b,ws,rfl,nb,hb,rb⟩:=Rep.tup_iff.mp re
    cases (show v=Value.ref b from rv)
    obtain ⟨its2,rits2,pits2,_⟩:=I.tuple (SqT.of (K:=X.K) (e1 _ _ nb hb))
    have ib:s.heap.IsTuple b its2.toArray:=pits2
    simp only [dEq];exact ⟨.bool_tuple a ib hu',.bool_tuple a ib hu',.bool_tuple a ib hu'⟩
   | lst es=>
    obtain ⟨b,ws,rfl,nb,hb,rb⟩:=Rep.lst_iff.mp re
    cases (show v=Value.ref b from rv)
    obtain ⟨its2,rits2,pits2,_⟩:=I.list (SqL.of (K:=X.K) (e1 _ _ nb hb))
    have ib:=pits2.isList
    simp only [dEq];exact ⟨.bool_list a ib hu',.bool_list a ib hu',.bool_list a ib hu'⟩
   | _=>simp [dep] at hs
  | int a=>
   rw [Rep.int_iff.mp rd] at ru
   obtain ⟨ta,rfl⟩:=ru
   cases e with
   | tup es=>
    obtain ⟨b,ws,rfl,nb,hb,rb⟩:=Rep.tup_iff.mp re
    cases (show v=Value.ref b from rv)
    obtain ⟨its2,rits2,pits2,_⟩:=I.tuple (SqT.of (K:=X.K) (e1 _ _ nb hb))
    have ib:s.heap.IsTuple b its2.toArray:=pits2
    simp only [dEq];exact ⟨.int_tuple a ta ib hu',.int_tuple a ta ib hu',.int_tuple a ta ib hu'⟩
   | lst es=>
    obtain ⟨b,ws,rfl,nb,hb,rb⟩:=Rep.lst_iff.mp re
    cases (show v=Value.ref b from rv)
    obtain ⟨its2,rits2,pits2,_⟩:=I.list (SqL.of (K:=X.K) (e1 _ _ nb hb))
    have ib:=pits2.isList
    simp only [dEq];exact ⟨.int_list a ta ib hu',.int_list a ta ib hu',.int_list a ta ib hu'⟩
   | _=>simp [dep] at hs
  | str a=>
   rw [Rep.str_iff.mp rd] at ru
   obtain ⟨ta,rfl⟩:=ru
   cases e with
   | tup es=>
    obtain ⟨b,ws,rfl,nb,hb,rb⟩:=Rep.tup_iff.mp re
    cases (show v=Value.ref b from rv)
    obtain ⟨its2,rits2,pits2,_⟩:=I.tuple (SqT.of (K:=X.K) (e1 _ _ nb hb))
    have ib:s.heap.IsTuple b its2.toArray:=pits2
    simp only [dEq];exact ⟨.str_tuple a ta ib hu',.str_tuple a ta ib hu',.str_tuple a ta ib hu'⟩
   | lst es=>
    obtain ⟨b,ws,rfl,nb,hb,rb⟩:=Rep.lst_iff.mp re
    cases (show v=Value.ref b from rv)
    obtain ⟨its2,rits2,pits2,_⟩:=I.list (SqL.of (K:=X.K) (e1 _ _ nb hb))
    have ib:=pits2.isList
    simp only [dEq];exact ⟨.str_list a ta ib hu',.str_list a ta ib hu',.str_list a ta ib hu'⟩
   | _=>simp [dep] at hs
end
section
variable {X:Cx} {G:Gh}
noncomputable def okEq (d e:D):Bool:=Zai d&&Zai e&&decide (dep d≤60)&&decide (dep e≤60)
theorem Ziu {d e:D} (h:okEq d e=true):Zai d=true∧Zai e=true∧dep d≤60∧dep e≤60:=by
 simp only [okEq,Bool.and_eq_true,decide_eq_true_eq] at h
 exact ⟨h.1.1.1,h.1.1.2,h.1.2,h.2⟩
noncomputable def dEqO (d e:D):Option D:=if okEq d e=true then some (.bl (dEq d e)) else none
noncomputable def dNeO (d e:D):Option D:=if okEq d e=true then some (.bl (!dEq d e)) else none
noncomputable def rEqD (G:Gh) (neg:Bool):R2:=fun x y H Q=>∃Hf d e,Ext G Hf H∧okEq d e=true∧Rep G Hf d x∧Rep G Hf e y∧Q (.bl (if neg then !dEq d e else dEq d e)) H
theorem Zrz (hu:X.A.units+64<cLine):OpR X (compareOp .Eq) (rEqD G false):=by
 intro pins s σ H x y v u Q I rx ry h
 obtain ⟨Hf,d,e,e1,ok,rd,re,q⟩:=h
 obtain ⟨o1,o2,o3,o4⟩:=Ziu ok
 exact (Zmq I e1 60 X.A d e x y v u o3 o4 (by omega) o1 o2 rd re rx ry).2.1 _ _ _ _ ⟨.bl (dEq d e),H,I,rfl,q⟩
theorem Zrv (hu:X.A.units+64<cLine):OpR X (compareOp .NotEq) (rEqD G true):=by
 intro pins s σ H x y v u Q I rx ry h
 obtain ⟨Hf,d,e,e1,ok,rd,re,q⟩:=h
 obtain ⟨o1,o2,o3,o4⟩:=Ziu ok
 exact (Zmq I e1 60 X.A d e x y v u o3 o4 (by omega) o1 o2 rd re rx ry).2.2 _ _ _ _ ⟨.bl (!dEq d e),H,I,rfl,q⟩
theorem ZfR (hu:X.A.units+64<cLine):OpD X G (compareOp .Eq) dEqO:=
 ⟨_,Zrz (G:=G) hu,fun Hf H s x y d e c Q e1 st rx ry q k=>by
  unfold dEqO at q
  split at q
  ·rename_i ok
   cases q
   exact ⟨Hf,d,e,e1,ok,rx,ry,k _ Hf H (.refl e1) st (Rep.bl_iff.mpr rfl) (.scal fun z=>z)⟩
  ·cases q⟩
theorem ZdR (hu:X.A.units+64<cLine):OpD X G (compareOp .NotEq) dNeO:=
 ⟨_,Zrv (G:=G) hu,fun Hf H s x y d e c Q e1 st rx ry q k=>by
  unfold dNeO at q
  split at q
  ·rename_i ok
   cases q
   exact ⟨Hf,d,e,e1,ok,rx,ry,k _ Hf H (.refl e1) st (Rep.bl_iff.mpr rfl) (.scal fun z=>z)⟩
  ·cases q⟩
noncomputable def okIn (x:D) (ds:List D):Bool:=Zai x&&ZaU ds&&decide (dep x≤60)&&decide (deps ds≤60)
noncomputable def inD (x:D) (ds:List D):Bool:=ds.any fun d=>dEq d x
theorem Znj {x:D} {ds:List D} (h:okIn x ds=true):Zai x=true∧ZaU ds=true∧dep x≤60∧deps ds≤60:=by
 simp only [okIn,Bool.and_eq_true,decide_eq_true_eq] at h
 exact ⟨h.1.1.1,h.1.1.2,h.1.2,h.2⟩
open Classical in
noncomputable def ansU (G:Gh) (Hf:Hp) (x:D) (u:Value):Bool:=if h:∃d v,Zai d=true∧Rep G Hf d v∧RelV v u then dEq h.choose x else false
theorem ZlH {Hf:Hp} {x d:D} {v:V} {u:Value} (pd:Zai d=true) (r:Rep G Hf d v) (ru:RelV v u):ansU G Hf x u=dEq d x:=by
 have h:∃d v,Zai d=true∧Rep G Hf d v∧RelV v u:=⟨d,v,pd,r,ru⟩
 unfold ansU
 rw [dif_pos h]
 obtain ⟨v',p',r',ru'⟩:=h.choose_spec
 have ev:v'=v:=RelV.inj ru' ru
 subst ev
 rw [Rep.inj p' pd r' r]
theorem Zkw {Hf:Hp} {x:D}:∀{ds:List D} {vs:List V} {us:List Value},ZaU ds=true→RepL G Hf ds vs→Vals vs us→us.any (ansU G Hf x)=inD x ds
 | [],vs,us,_,r,rv=>by
  rw [RepL.nil_iff.mp r] at rv
  cases rv
  rfl
 | d::ds,vs,us,p,r,rv=>by
  obtain ⟨v,rr,rfl,r1,r2⟩:=RepL.cons_iff.mp r
  have p':Zai d=true∧ZaU ds=true:=by simpa [ZaU] using p
  cases rv with
  | cons a b=>
   rw [List.any_cons,ZlH p'.1 r1 a,Zkw p'.2 r2 b]
   rfl
theorem ZjX {Hf:Hp}:∀{ds:List D} {vs:List V} {us:List Value} {u:Value},RepL G Hf ds vs→Vals vs us→u∈us→∃d v,d∈ds∧Rep G Hf d v∧RelV v u
 | [],vs,us,u,r,rv,m=>by
  rw [RepL.nil_iff.mp r] at rv
  cases rv
  simp at m
 | d::ds,vs,us,u,r,rv,m=>by
  obtain ⟨v,rr,rfl,r1,r2⟩:=RepL.cons_iff.mp r
  cases rv with
  | cons a b=>
   rcases List.mem_cons.mp m with e | m
   ·subst e;exact ⟨d,v,by simp,r1,a⟩
   ·obtain ⟨d',v',m',h1,h2⟩:=ZjX r2 b m
    exact ⟨d',v',by simp [m'],h1,h2⟩
noncomputable def rInD (G:Gh) (neg:Bool):R2:=fun x y H Q=>∃Hf d ds,Ext G Hf H∧okIn d ds=true∧Rep G Hf d x∧(Rep G Hf (.lst ds) y∨Rep G Hf (.tup ds) y)∧Q (.bl (if neg then !inD d ds else inD d ds)) H
theorem Zgt {pins:List (Addr×Obj)} {s:Shared} {σ:St} {Hf H:Hp} {d:D} {ds:List D} {x:V} {v:Value} {vs:List V} {its:List Value} (hu:X.A.units+64<cLine) (I:Inv X pins σ H s) (e1:Ext G Hf H) (ok:okIn d ds=true) (rd:Rep G Hf d x) (rx:RelV x v)
  (rl:RepL G Hf ds vs) (rv:Vals vs its):(∀y,y∈its.toArray→SeqAt.EqAt X.A.in1 s y v (ansU G Hf d y))∧its.toArray.any (ansU G Hf d)=inD d ds:=by
 obtain ⟨o1,o2,o3,o4⟩:=Znj ok
 refine ⟨fun y hy=>?_,?_⟩
 ·obtain ⟨c,w,m,h1,h2⟩:=ZjX rl rv (by simpa using hy)
  rw [ZlH (ZcL o2 m) h1 h2]
  exact (Zmq I e1 60 X.A.in1 c d w x y v (Nat.le_trans (Zea m) o4) o3 (by rw [ZdV];omega) (ZcL o2 m) o1 h1 rd h2 rx).1
 ·rw [show its.toArray.any (ansU G Hf d)=its.any (ansU G Hf d) by simp,Zkw o2 rl rv]
theorem Zry (hu:X.A.units+64<cLine):OpR X (compareOp .In) (rInD G false):=by
 intro pins s σ H x y v u Q I rx ry h
 obtain ⟨Hf,d,ds,e1,ok,rd,hl,q⟩:=h
 rcases hl with hl | hl
 ·obtain ⟨p,vs,rfl,np,hp,rp⟩:=Rep.lst_iff.mp hl
  cases (show u=Value.ref p from ry)
  obtain ⟨its,rv,pl,hz⟩:=I.list (SqL.of (K:=X.K) (e1 _ _ np hp))
  obtain ⟨c1,c2⟩:=Zgt hu I e1 ok rd rx rp rv
  refine SeqAt.in_listAt _ pl.isList c1 ⟨.bl _,H,I,rfl,?_⟩
  rw [c2];exact q
 ·obtain ⟨p,vs,rfl,np,hp,rp⟩:=Rep.tup_iff.mp hl
  cases (show u=Value.ref p from ry)
  obtain ⟨its,rv,pl,hz⟩:=I.tuple (SqT.of (K:=X.K) (e1 _ _ np hp))
  obtain ⟨c1,c2⟩:=Zgt hu I e1 ok rd rx rp rv
  refine SeqAt.in_tupleAt _ pl c1 ⟨.bl _,H,I,rfl,?_⟩
  rw [c2];exact q
theorem Zng (hu:X.A.units+64<cLine):OpR X (compareOp .NotIn) (rInD G true):=by
 intro pins s σ H x y v u Q I rx ry h
 obtain ⟨Hf,d,ds,e1,ok,rd,hl,q⟩:=h
 rcases hl with hl | hl
 ·obtain ⟨p,vs,rfl,np,hp,rp⟩:=Rep.lst_iff.mp hl
  cases (show u=Value.ref p from ry)
  obtain ⟨its,rv,pl,hz⟩:=I.list (SqL.of (K:=X.K) (e1 _ _ np hp))
  obtain ⟨c1,c2⟩:=Zgt hu I e1 ok rd rx rp rv
  refine SeqAt.notIn_listAt _ pl.isList c1 ⟨.bl _,H,I,rfl,?_⟩
  rw [c2];exact q
 ·obtain ⟨p,vs,rfl,np,hp,rp⟩:=Rep.tup_iff.mp hl
  cases (show u=Value.ref p from ry)
  obtain ⟨its,rv,pl,hz⟩:=I.tuple (SqT.of (K:=X.K) (e1 _ _ np hp))
  obtain ⟨c1,c2⟩:=Zgt hu I e1 ok rd rx rp rv
  refine SeqAt.notIn_tupleAt _ pl c1 ⟨.bl _,H,I,rfl,?_⟩
  rw [c2];exact q
end
theorem ZnC:typeLookup (.type "list") "keys" = pure none:=by rw [typeLookup_type,builtinLookup_eq_fast];kernel_rfl
theorem Zd0:entryFor table "dict.update.loop" = some Builtin.«dict.update.loop»:=entryFor_of_tree (by kernel_rfl)
theorem Zch:plainId "dict.update.loop" = true:=by decide +kernel
set_option maxHeartbeats 4000000 in
theorem Zf7 {prog:Program} {w:World} {A:Around} {E:Value→Shared→Prop} {s:Shared} {a:Addr} {o:Obj} {xs:Array Value} {k:Nat} {Q:Option Value→Shared→Prop}
  (hx:s.heap.get? a=some o) (hc:o.cls=.type "list") (hdat:o.data=.seq xs k) (hd:o.dict=none) (hA:A.handled=none)
  (h:∀h' tk,(∀b o,s.heap.get? b=some o→h'.get? b=some o)→Q none { s with heap:=h',toks:=tk }) :
  wpAny (model prog w) A (getAttr? (.ref a) "keys") Q E s:=by
 have hmiss:=ZnC
 have hname:(["__module__","__name__","__qualname__","__doc__","__annotations__"]:List Str).contains ("keys" : Str)=false:=by decide +kernel
 have hsz:("keys" : Str).length+100≤sizeLine:=by decide +kernel
 obtain ⟨c,dct,dat,sl⟩:=o
 simp only at hc hdat hd
 subst hc hdat hd
 obtain ⟨hp,g,d,tk,os⟩:=s
 have hT:∀tk',(⟨hp,g,d,tk',os⟩:Shared).TypeIs (.ref a) "list":=fun _=>⟨_,hx,rfl⟩
 have f1:=sub_AttributeError
 have f3:=F.slot_list_getattribute.lookup
 have f4:=F.slot_list_getattribute.bind (.ref a)
 have f5:=am_list_getattr_none
 unfold getAttr? getAttrBy?
 refine wpAny_bind ?_
 refine wpAny_mkText ?_
 refine wpAny_bind (wpAny_attempt ?_)
 unfold getAttrBy
 repeat (any_goals (first | assumption | exact hT _ | ((with_reducible show wpAny _ _ (call (Value.builtin "list.__getattribute__") _ _) _ _ _);refine call_meets F.slot_list_getattribute (hT _) am_entry_list_getattribute (F.args_list_getattribute_2 _ _) (meets_getattribute_miss_list a xs k sl "keys" _ hmiss hname hsz) ⟨hx,hA,fun h' tk' e hx'=>?_⟩) | wp_step))
 obtain ⟨t',u',he⟩:=hx'.there
 have hTe:∀tk',(⟨h',g,d,tk',os⟩:Shared).TypeIs (.ref e) "AttributeError":=fun _=>⟨_,he,rfl⟩
 have fin:∀tk',wpAny (model prog w) A (do
   let b←isInstance (.ref e) (.type "AttributeError")
   if b=true then pure none else throw (.ref e)) Q E ⟨h',g,d,tk',os⟩:=fun tk'=>by
  refine wpAny_bind (wpAny_isInstance (hTe _) f1 ?_)
  simp only [if_true]
  exact wpAny_pure (h h' tk' hx'.of.keeps)
 show wpAny _ _ (getattributeRaised _ _ _ _ _ _ _) _ _ _
 unfold getattributeRaised
 repeat (any_goals (first | assumption | exact fin _ | wp_step))
section
variable {X:Cx} {pins:List (Addr×Obj)} {σ:St} {H:Hp} {s:Shared} {A:Around} {E:Value→Shared→Prop} {a:Addr} {y v:V} {u r:Value}
theorem ZnY {H':Hp} {Q:Unit→Shared→Prop} (hu:A.units<cLine) (I:Inv X pins σ H s) (g:DPut H a y v H') (ry:RelV y u) (rv:RelV v r) (h:∀s',Inv X pins σ H' s'→Q () s') :
  wpAny (model X.prog X.w) A (dictSet a u r) Q E s:=by
 rcases g with ⟨kvs,k,e,ey,l,eH⟩ | ⟨kvs,k,b,e,ey,eb,l,eH⟩
 ·subst ey eH
  obtain ⟨z,hd,vs,rel,dd⟩:=Zmr I.hok e
  have hz:vs.length≤sizeLine:=by rw [←rel.length];exact z
  have hl:(putK kvs k v).length≤sizeLine:=by have:=Zce kvs k v;omega
  refine wpAny_dictSet_pairs (hsz:=hz) (ZeD ry) dd fun h' dd' hs=>h _ ?_
  have he:∃q,h'.get? a=some q:=let ⟨q,_,_,hq,_⟩:=dd';⟨q,hq⟩
  exact Ze6 I (by rw [e];exact True.intro) hs he (Zkk hl hd (rel.put k rv) dd')
 ·subst ey eH
  cases (show u=Value.ref b from ry)
  obtain ⟨z,hd,xs,rel,dd⟩:=ZpH I.hok e
  have hz:xs.length≤sizeLine:=by rw [←Paired.length rel];exact z
  have hl:(putK kvs k v).length≤sizeLine:=by have:=Zce kvs k v;omega
  refine wpAny_dictSet_heap (hsz:=hz) (knd:=tupleKind (Zbe X.prog X.w)) hu (Zeq I.hok eb) dd fun h' dd' hs=>h _ ?_
  obtain ⟨q,es,ep,hq,h2,h3,h4,_,h5⟩:=dd'
  refine Ze6 I (by rw [e];exact True.intro) hs ⟨q,hq⟩ ⟨hl,hd,_,(rel.put k eb rv).keeps fun c ys ec=>?_,q,es,ep,hq,h2,h3,h4,h5⟩
  rw [Zaj (Zpz ec e (fun z=>nomatch z))]
  exact ec
end
section
variable {X:Cx} {pins:List (Addr×Obj)} {σ:St}
inductive Puts (d:Addr):Hp→List V→Hp→Prop
 | nil {H:Hp}:Puts d H [] H
 | cons {H H1 H2:Hp} {b:Addr} {k v:V} {r:List V}:H b=some (.tup [k,v])→DPut H d k v H1→Puts d H1 r H2→Puts d H (.ref b::r) H2
theorem Zom {d l it:Addr} {vs:List V} {E:Value→Shared→Prop} {Q:Shared→Prop} {H':Hp} {A:Around} (hA:A.handled=none) (hu:A.units+1<cLine)
  (hQ:∀s',Inv X pins σ H' s'→Q s') (hfp:∀Hx:Hp,Hx it=none→FpOk X pins Hx it) :
  ∀(k i:Nat) (s:Shared) (H:Hp),vs.length-i=k→i≤vs.length→Inv X pins σ H s→H it=none→s.heap.IsListIter it l i→H l=some (.lst vs)→l≠d→(∀Hx Hy y v,DPut Hx d y v Hy→Hx l=some (.lst vs)→Hy l=some (.lst vs))→Puts d H (vs.drop i) H'→
   codeAny (model X.prog X.w) A (.builtin "dict.update.loop" ⟨[.ref d,.ref it,rawInt i,.none],[]⟩) (wants (fun r s₂=>r=.none∧Q s₂) E) s:=by
 intro k
 induction k with
 | zero=>
  intro i s H hk hi I hit st hl hne hkeep hp
  have hil:i=vs.length:=by omega
  obtain ⟨its,rv,pl,hz⟩:=I.list (SqL.of (K:=X.K) hl)
  refine codeAny_builtin Zd0 ?_
  rw [Around.under_plainId Zch _]
  show wpAny _ A.in1 (pyNext (.ref it) >>= _) _ _ s
  obtain ⟨f0,f1,f2,f3,f4,f5⟩:=hfp H hit
  have hlen:=rv.length
  refine wpAny_bind (wpAny_pyNext_list_end (A:=A.in1) hA st pl.isList (by simp;omega) fun h' eb=>?_)
  have I2:Inv X pins σ H { s with heap:=h' }:=I.turned (t':=s.toks) (fun b o hb e=>eb b o hb e) f0 f1 f3 f4 f5
  have e0:vs.drop i=[]:=by rw [hil];simp
  rw [e0] at hp
  cases hp
  show wpAny _ _ (Builtin.Dict.addKeywords d [] >>= _) _ _ _
  refine wpAny_bind (wpAny_pure ?_)
  exact wpAny_pure ⟨rfl,hQ _ I2⟩
 | succ k ih=>
  intro i s H hk hi I hit st hl hne hkeep hp
  have hlt:i<vs.length:=by omega
  obtain ⟨its,rv,pl,hz⟩:=I.list (SqL.of (K:=X.K) hl)
  have hlen:=rv.length
  refine codeAny_builtin Zd0 ?_
  rw [Around.under_plainId Zch _]
  show wpAny _ A.in1 (pyNext (.ref it) >>= _) _ _ s
  obtain ⟨f0,f1,f2,f3,f4,f5⟩:=hfp H hit
  have hd:vs.drop i=vs[i]::vs.drop (i+1):=List.drop_eq_getElem_cons hlt
  rw [hd] at hp
  generalize hvi:vs[i]=x at hp
  generalize hrest:vs.drop (i+1)=rest at hp
  cases hp with
  | @cons _ H1 _ b k0 v0 _ hb hput hrec=>
   have gx:vs[i]?=some (.ref b):=by rw [List.getElem?_eq_getElem hlt,hvi]
   obtain ⟨u,hu1,ru⟩:=rv.get gx
   cases (show u=Value.ref b from ru)
   refine wpAny_bind (wpAny_pyNext_list_item (A:=A.in1) st pl.isList (x:=.ref b) (by simpa using hu1) fun h' st' sb=>?_)
   have I1:Inv X pins σ H { s with heap:=h' }:=I.turned (t':=s.toks) (fun c o hc e=>(sb.2 c hc).trans e) f0 f1 f3 f4 f5
   obtain ⟨its2,rv2,pt,_⟩:=I1.tuple (SqT.of (K:=X.K) hb)
   obtain ⟨ku,vu,e2,rk,rvv⟩:=rv2.two
   subst e2
   obtain ⟨o,ho,hoc,n,hod⟩:=id pt
   show wpAny _ _ (holding [Value.ref b] _ >>= _) _ _ _
   refine wpAny_bind (wpAny_holding ?_)
   refine wpAny_bind (wpAny_tryCatch ?_)
   unfold Builtin.Dict.pairItems
   refine wpAny_bind (wpAny_typeOf (T:="tuple") ⟨o,ho,hoc⟩ ?_)
   rw [if_pos (by decide)]
   refine wpAny_bind (wpAny_seqItems ho hod ?_)
   refine wpAny_pure ?_
   show wpAny _ _ (holding [ku,vu] (dictSet d ku vu)) _ _ _
   refine wpAny_holding ?_
   obtain ⟨oi,hoi,ci,di⟩:=id st'
   have Ip:=I1.pinned (fp:=[it]) (fun c hc=>by
    have e:c=it:=by simpa using hc
    subst e
    exact hfp H hit) (fun c hc=>by
    have e:c=it:=by simpa using hc
    subst e
    exact ⟨oi,hoi,fun w z=>by rw [di] at z;cases z⟩)
   refine ZnY (by rw [ZdV];exact hu) Ip hput rk rvv fun s2 I2=>?_
   have pit:=I2.pin (it,oi) (List.mem_append_right _ (List.mem_append_right _ (ZcY (by simp) hoi)))
   have ec:((i:Int)+1)=((i+1:Nat):Int):=by push_cast;rfl
   show wpAny _ _ (again (.builtin "dict.update.loop" ⟨[.ref d,.ref it,rawInt ((i:Int)+1),.none],[]⟩)) _ _ _
   rw [ec]
   refine wpAny_pure ⟨plainId_quiet Zch _,?_⟩
   refine ih (i+1) s2 H1 (by omega) hlt I2.unpinned pit.2.1 ⟨oi,pit.1,ci,di⟩ (hkeep _ _ _ _ hput hl) hne hkeep ?_
   rw [hrest]
   exact hrec
theorem ZhS (hc:X.calm=true) (hu:X.A.units+64<cLine) (tk:Bool):ZbH X (.type "dict") (fun xs H Q=>∃l vs,xs=[.ref l]∧H l=some (.lst vs)∧∀p,H p=none→∃H',Puts p (upd H p (if tk then .dT [] else .dK [])) vs H'∧Q (.ref p) H'):=by
 intro pins s σ H xs us Q I r h
 obtain ⟨l,vs,rfl,hl,q⟩:=h
 obtain ⟨u,rfl,ru⟩:=Zb8 r
 cases (show u=Value.ref l from ru)
 obtain ⟨H',puts,q'⟩:=q s.heap.objs.size (I.hok.fresh (Nat.le_refl _))
 have hA:=I.ok.hd hc
 refine callType_codes (Q₁:=fun obj s₁=>obj=.ref s.heap.objs.size∧s₁ = { s with heap:=s.heap.push { cls:=.type "dict",data:=.dict #[] } }) F.kt_called_dict (F.kt_typeCall_dict_1 _) F.entry_dict_init (kt_code_dict_new _ ⟨rfl,rfl⟩) ?_
 rintro obj s₁ ⟨rfl,rfl⟩
 have hbig:=I.big
 have I1:Inv X pins σ (upd H s.heap.objs.size (if tk then .dT [] else .dK [])) { s with heap:=s.heap.push { cls:=.type "dict",data:=.dict #[] } }:=
  I.laid (t':=s.toks) (fun b o e=>Heap.get?_push_of_some _ e) (Nat.le_refl _) (by
   cases tk
   ·exact Zg3 s.heap hbig
   ·exact Zpe s.heap hbig)
 have hnew:(s.heap.push { cls:=.type "dict",data:=.dict #[] }).get? s.heap.objs.size=some { cls:=.type "dict",data:=.dict #[] }:=Heap.get?_push_size _ rfl
 have hTd:({ s with heap:=s.heap.push { cls:=.type "dict",data:=.dict #[] } }:Shared).TypeIs (.ref s.heap.objs.size) "dict":=⟨_,hnew,rfl⟩
 have hld:l≠s.heap.objs.size:=Zas hl (I.hok.fresh (Nat.le_refl _))
 have hl1:(upd H s.heap.objs.size (if tk then HO.dT [] else HO.dK [])) l=some (.lst vs):=by rw [Zaj hld];exact hl
 obtain ⟨zz,its,n,rits,hlo⟩:=(show Za9 X.prog X.w _ _ l (.lst vs) from I1.hok l _ hl1)
 refine ⟨hTd,F.args_dict_init_2 _ _,?_⟩
 unfold Builtin.«dict.__init__»
 refine wpAny_bind ?_
 unfold Builtin.Dict.selfAndRest
 refine wpAny_bind (wpAny_notOrdered_dict hTd ?_)
 show wpAny _ _ (pure (s.heap.objs.size,[Value.ref l])) _ _ _
 refine wpAny_pure ?_
 show wpAny _ _ (Builtin.Dict.updateFrom "dict.__init__" s.heap.objs.size (.ref l) [] .none) _ _ _
 unfold Builtin.Dict.updateFrom
 have hTl:({ s with heap:=s.heap.push { cls:=.type "dict",data:=.dict #[] } }:Shared).TypeIs (.ref l) "list":=⟨_,hlo,rfl⟩
 refine wpAny_bind (wpAny_typeOf hTl ?_)
 rw [if_pos (by decide)]
 refine wpAny_bind (Zf7 hlo rfl rfl rfl hA fun h2 tk2 kp2=>?_)
 simp only [Option.isNone_none,if_true]
 refine wpAny_bind (wpAny_rule ?_)
 have I2:Inv X pins σ (upd H s.heap.objs.size (if tk then .dT [] else .dK [])) { s with heap:=h2,toks:=tk2 }:=I1.kept kp2
 obtain ⟨its',rv',pl',hz'⟩:=I2.list (SqL.of (K:=X.K) hl1)
 refine wpAny_bind (wpAny_pyIter_list pl'.isList ?_)
 refine wpAny_pure ⟨plainId_quiet Zch _,?_⟩
 have I3:Inv X pins σ (upd H s.heap.objs.size (if tk then .dT [] else .dK [])) { s with heap:=h2.push { cls:=.type "list_iterator",data:=.fields #[.ref l,.int 0 0] },toks:=tk2 }:=I2.kept (t':=tk2) fun b o e=>Heap.get?_push_of_some _ e
 have hfresh:(upd H s.heap.objs.size (if tk then HO.dT [] else HO.dK [])) h2.objs.size=none:=I2.hok.fresh (Nat.le_refl _)
 have hst:(h2.push { cls:=.type "list_iterator",data:=.fields #[.ref l,.int 0 0] }).IsListIter h2.objs.size l 0:=⟨_,Heap.get?_push_size _ rfl,rfl,rfl⟩
 refine Zom (l:=l) (vs:=vs) (H':=H') (A:=X.A.in1) (pins:=pins) (σ:=σ) hA (by rw [ZdV];omega) (fun s' I'=>⟨.ref s.heap.objs.size,H',I',rfl,q'⟩) (fun Hx hn=>I2.fpOk (Nat.le_refl _) hn) vs.length 0 _ _ rfl (Nat.zero_le _) I3 hfresh hst hl1 hld ?_ puts
 intro Hx Hy y v hput hxl
 rcases hput with ⟨kvs,k,e,ey,l',eH⟩ | ⟨kvs,k,b,e,ey,eb,l',eH⟩
 ·subst eH;rw [Zaj hld];exact hxl
 ·subst eH;rw [Zaj hld];exact hxl
end
section
variable {X:Cx} {G:Gh}
noncomputable def Zby:D→Option Key
 | .int i=>some (.inl i)
 | .str x=>some (.inr x)
 | _=>none
noncomputable def Zbp:List D→Option (List Key)
 | []=>some []
 | d::ds=>match Zby d,Zbp ds with | some k,some ks=>some (k::ks) | _,_=>none
noncomputable def ZcS:D→Option V
 | .int i=>some (.int i)
 | .bl b=>some (.bl b)
 | .str x=>some (.str x)
 | .non=>some .non
 | _=>none
theorem ZcP {H:Hp} {d:D} {v:V} {k:Key} (h:Zby d=some k) (r:Rep G H d v):v=kV k:=by
 cases d with
 | int i=>cases h;rw [Rep.int_iff.mp r];rfl
 | str i=>cases h;rw [Rep.str_iff.mp r];rfl
 | _=>cases h
theorem ZcZ {H:Hp}:∀{ds:List D} {vs:List V} {ks:List Key},Zbp ds=some ks→RepL G H ds vs→vs=ks.map kV
 | [],vs,ks,h,r=>by cases h;exact RepL.nil_iff.mp r
 | d::ds,vs,ks,h,r=>by
  obtain ⟨v,rr,rfl,r1,r2⟩:=RepL.cons_iff.mp r
  unfold Zbp at h
  cases e1:Zby d with
  | none=>rw [e1] at h;cases h
  | some k=>
   cases e2:Zbp ds with
   | none=>rw [e1,e2] at h;cases h
   | some ks'=>
    rw [e1,e2] at h
    cases h
    rw [ZcP e1 r1,ZcZ e2 r2]
    rfl
theorem ZfE {H:Hp} {d:D} {v w:V} (h:ZcS d=some w) (r:Rep G H d v):v=w:=by
 cases d with
 | int i=>cases h;exact Rep.int_iff.mp r
 | str i=>cases h;exact Rep.str_iff.mp r
 | bl i=>cases h;exact Rep.bl_iff.mp r
 | non=>cases h;exact Rep.non_iff.mp r
 | _=>cases h
noncomputable def Zjb:D→Option (List Key×V)
 | .tup [.tup ks,v]=>match Zbp ks,ZcS v with | some k,some w=>some (k,w) | _,_=>none
 | _=>none
noncomputable def Zl4:D→Option (Key×V)
 | .tup [k,v]=>match Zby k,ZcS v with | some k,some w=>some (k,w) | _,_=>none
 | _=>none
noncomputable def Zdo:List (List Key×V)→List D→Option (List (List Key×V))
 | acc,[]=>some acc
 | acc,d::ds=>match Zjb d with | some (k,v)=>Zdo (putK acc k v) ds | none=>none
noncomputable def Zdc:List (Key×V)→List D→Option (List (Key×V))
 | acc,[]=>some acc
 | acc,d::ds=>match Zl4 d with | some (k,v)=>Zdc (putK acc k v) ds | none=>none
theorem Zl2 {d:D} {k:List Key} {v:V} (h:Zjb d=some (k,v)):∃ks w,d=.tup [.tup ks,w]∧Zbp ks=some k∧ZcS w=some v:=by
 match d,h with
 | .tup [.tup ks,w],h=>
  have h':(match Zbp ks,ZcS w with | some k,some w=>some (k,w) | _,_=>none)=some (k,v):=h
  cases e1:Zbp ks with
  | none=>rw [e1] at h';cases h'
  | some k'=>
   cases e2:ZcS w with
   | none=>rw [e1,e2] at h';cases h'
   | some w'=>rw [e1,e2] at h';cases h';exact ⟨ks,w,rfl,e1,e2⟩
theorem Zl3 {d:D} {k:Key} {v:V} (h:Zl4 d=some (k,v)):∃ks w,d=.tup [ks,w]∧Zby ks=some k∧ZcS w=some v:=by
 match d,h with
 | .tup [ks,w],h=>
  have h':(match Zby ks,ZcS w with | some k,some w=>some (k,w) | _,_=>none)=some (k,v):=h
  cases e1:Zby ks with
  | none=>rw [e1] at h';cases h'
  | some k'=>
   cases e2:ZcS w with
   | none=>rw [e1,e2] at h';cases h'
   | some w'=>rw [e1,e2] at h';cases h';exact ⟨ks,w,rfl,e1,e2⟩
theorem Zm1 {Hf H:Hp} {p:Addr} (e1:Ext G Hf H) (hp:H p=none):∀{ds:List D} {vs:List V} {acc res:List (List Key×V)},RepL G Hf ds vs→Zdo acc ds=some res→acc.length+ds.length≤sizeLine→Puts p (upd H p (.dT acc)) vs (upd H p (.dT res))
 | [],vs,acc,res,r,h,_=>by
  rw [RepL.nil_iff.mp r]
  cases h
  exact .nil
 | d::ds,vs,acc,res,r,h,hl=>by
  obtain ⟨v,rr,rfl,r1,r2⟩:=RepL.cons_iff.mp r
  unfold Zdo at h
  cases e:Zjb d with
  | none=>rw [e] at h;cases h
  | some kv=>
   obtain ⟨k,w⟩:=kv
   rw [e] at h
   have h:Zdo (putK acc k w) ds=some res:=h
   obtain ⟨ks,wd,rfl,q1,q2⟩:=Zl2 e
   obtain ⟨b,ws,rfl,nb,hb,rb⟩:=Rep.tup_iff.mp r1
   obtain ⟨v1,v2,rfl,rk,rv⟩:=RepL.two_inv rb
   obtain ⟨c,cs,rfl,nc,hcx,rc⟩:=Rep.tup_iff.mp rk
   have ec:=ZcZ q1 rc
   subst ec
   have ev:=ZfE q2 rv
   subst ev
   have hb':=e1 _ _ nb hb
   have hc':=e1 _ _ nc hcx
   have ll:=Zce acc k v2
   have hl':acc.length+(ds.length+1)≤sizeLine:=by simpa using hl
   refine .cons (by rw [Zaj (Zas hb' hp)];exact hb') (DPut.t (k:=k) Zaq (by rw [Zaj (Zas hc' hp)];exact hc') (by omega)) ?_
   rw [ZhZ]
   exact Zm1 e1 hp r2 h (by omega)
theorem Zm2 {Hf H:Hp} {p:Addr} (e1:Ext G Hf H) (hp:H p=none):∀{ds:List D} {vs:List V} {acc res:List (Key×V)},RepL G Hf ds vs→Zdc acc ds=some res→acc.length+ds.length≤sizeLine→Puts p (upd H p (.dK acc)) vs (upd H p (.dK res))
 | [],vs,acc,res,r,h,_=>by
  rw [RepL.nil_iff.mp r]
  cases h
  exact .nil
 | d::ds,vs,acc,res,r,h,hl=>by
  obtain ⟨v,rr,rfl,r1,r2⟩:=RepL.cons_iff.mp r
  unfold Zdc at h
  cases e:Zl4 d with
  | none=>rw [e] at h;cases h
  | some kv=>
   obtain ⟨k,w⟩:=kv
   rw [e] at h
   have h:Zdc (putK acc k w) ds=some res:=h
   obtain ⟨ks,wd,rfl,q1,q2⟩:=Zl3 e
   obtain ⟨b,ws,rfl,nb,hb,rb⟩:=Rep.tup_iff.mp r1
   obtain ⟨v1,v2,rfl,rk,rv⟩:=RepL.two_inv rb
   have ek:=ZcP q1 rk
   subst ek
   have ev:=ZfE q2 rv
   subst ev
   have hb':=e1 _ _ nb hb
   have ll:=Zce acc k v2
   have hl':acc.length+(ds.length+1)≤sizeLine:=by simpa using hl
   refine .cons (by rw [Zaj (Zas hb' hp)];exact hb') (DPut.k (k:=k) Zaq (by omega)) ?_
   rw [ZhZ]
   exact Zm2 e1 hp r2 h (by omega)
noncomputable def Zn1:List D→Option D
 | [.lst ds]=>if ds.length≤sizeLine then (Zdo [] ds).map .dt else none
 | _=>none
noncomputable def ZhO:List D→Option D
 | [.lst ds]=>if ds.length≤sizeLine then (Zdc [] ds).map .dk else none
 | _=>none
theorem ZmB (hc:X.calm=true) (hu:X.A.units+64<cLine):ZbH X (.type "dict") (fun xs H Q=>∃l vs,xs=[.ref l]∧H l=some (.lst vs)∧∀p,H p=none→∃kvs,Puts p (upd H p (.dT [])) vs (upd H p (.dT kvs))∧∀o,Q (.ref p) (upd H p (.frz o (.dT kvs)))):=by
 intro pins s σ H xs us Q I r h
 obtain ⟨l,vs,ex,hl,hp⟩:=h
 refine thn (ZhS hc hu true pins s σ H xs us (fun v H'=>∃p kvs,v=.ref p∧H'=upd H p (.dT kvs)∧∀o,Q (.ref p) (upd H p (.frz o (.dT kvs)))) I r ⟨l,vs,ex,hl,fun p hn=>?_⟩) fun u s1 ⟨v,H1,I1,r1,p,kvs,ev,eH,q⟩=>?_
 ·obtain ⟨kvs,pu,q⟩:=hp p hn
  exact ⟨_,pu,p,kvs,rfl,rfl,q⟩
 ·subst ev eH
  have ok:=I1.hok p (.dT kvs) Zaq
  obtain ⟨_,_,xs',_,o,es,ep,h1,_⟩:=(show Za9 X.prog X.w _ s1.heap p (.dT kvs) from ok)
  have I2:=I1.write (x:=p) (e:=p) (o:=.frz o (.dT kvs)) (h':=s1.heap) (t':=s1.toks) (by rw [Zaq];trivial) (.inl rfl) (fun _ _ _ e=>e) ⟨o,h1⟩ ⟨h1,ok.stay (fun _ _ _ e=>e) (fun b e=>?_) fun b xs e=>?_⟩
  ·rw [ZhZ] at I2
   exact ⟨.ref p,_,I2,r1,q o⟩
  ·have:b≠p:=fun z=>by rw [z,Zaq] at e;cases e
   rw [Zaj this];exact e
  ·have:b≠p:=fun z=>by rw [z,Zaq] at e;cases e
   rw [Zaj this];exact e
theorem Zmz (hc:X.calm=true) (hu:X.A.units+64<cLine):Zcj X G (.type "dict") Zn1:=
 ⟨_,ZmB hc hu,fun Hf H s xs ds c Q e1 st r q k=>by
  match ds,q,r with
  | [.lst es],q,r=>
   have q:(if es.length≤sizeLine then (Zdo [] es).map D.dt else none)=some c:=q
   split at q
   ·rename_i hz
    cases e:Zdo [] es with
    | none=>rw [e] at q;cases q
    | some res=>
     rw [e] at q
     cases q
     obtain ⟨v,rfl,rv⟩:=RepL.one_inv r
     obtain ⟨l,vs,rfl,nl,hl,rl⟩:=Rep.lst_iff.mp rv
     refine ⟨l,vs,rfl,e1 _ _ nl hl,fun p hp=>⟨_,Zm1 e1 hp rl e (by simpa using hz),fun o=>?_⟩⟩
     have nf:=Gh.nofp st hp
     have g2:=Gr.new (o:=.frz o (.dT res)) e1 hp nf
     exact k (.ref p) _ _ g2 (Gh.grow st hp) (Rep.dt_iff.mpr ⟨p,o,rfl,nf,Zaq⟩) fun a ea _=>by cases ea;exact ⟨hp,fun ds ed=>by cases ed⟩
   ·cases q⟩
theorem ZmA (hc:X.calm=true) (hu:X.A.units+64<cLine):Zcj X G (.type "dict") ZhO:=
 ⟨_,ZhS hc hu false,fun Hf H s xs ds c Q e1 st r q k=>by
  match ds,q,r with
  | [.lst es],q,r=>
   have q:(if es.length≤sizeLine then (Zdc [] es).map D.dk else none)=some c:=q
   split at q
   ·rename_i hz
    cases e:Zdc [] es with
    | none=>rw [e] at q;cases q
    | some res=>
     rw [e] at q
     cases q
     obtain ⟨v,rfl,rv⟩:=RepL.one_inv r
     obtain ⟨l,vs,rfl,nl,hl,rl⟩:=Rep.lst_iff.mp rv
     refine ⟨l,vs,rfl,e1 _ _ nl hl,fun p hp=>⟨_,Zm2 e1 hp rl e (by simpa using hz),?_⟩⟩
     have nf:=Gh.nofp st hp
     have g2:=Gr.new (o:=.dK res) e1 hp nf
     exact k (.ref p) _ _ g2 (Gh.grow st hp) (Rep.dk_iff.mpr ⟨p,rfl,nf,Zaq⟩) fun a ea _=>by cases ea;exact ⟨hp,fun ds ed=>by cases ed⟩
   ·cases q⟩
theorem ZrA (hu:X.A.units+1<cLine):OpR X (compareOp .In) (fun x y H Q=>∃a o,y=.ref a∧DGet H a x o∧Q (.bl o.isSome) H):=by
 intro pins s σ H x y v u Q I rx ry h
 obtain ⟨a,o,rfl,g,q⟩:=h
 cases (show u=Value.ref a from ry)
 exact d_in hu I g rx fun s' I'=>⟨.bl _,H,I',rfl,q⟩
theorem Znh (hu:X.A.units+1<cLine):OpR X (compareOp .NotIn) (fun x y H Q=>∃a o,y=.ref a∧DGet H a x o∧Q (.bl (!o.isSome)) H):=by
 intro pins s σ H x y v u Q I rx ry h
 obtain ⟨a,o,rfl,g,q⟩:=h
 cases (show u=Value.ref a from ry)
 exact ZqU hu I g rx fun s' I'=>⟨.bl _,H,I',rfl,q⟩
noncomputable def dInB:D→D→Option Bool
 | x,.lst ds=>if okIn x ds=true then some (inD x ds) else none
 | x,.tup ds=>if okIn x ds=true then some (inD x ds) else none
 | .tup ks,.dt kvs=>(Zbp ks).map fun k=>(valV kvs k).isSome
 | .tup ks,.du kvs=>(Zbp ks).map fun k=>(valV kvs k).isSome
 | x,.dk kvs=>(Zby x).map fun k=>(valV kvs k).isSome
 | _,_=>none
noncomputable def dIn (x y:D):Option D:=(dInB x y).map .bl
noncomputable def Zck (x y:D):Option D:=(dInB x y).map fun b=>.bl (!b)
theorem ZiF {Hf H:Hp} {x y:V} {d e:D} {b:Bool} (e1:Ext G Hf H) (rx:Rep G Hf d x) (ry:Rep G Hf e y) (h:dInB d e=some b) :
  (∃ds,okIn d ds=true∧(Rep G Hf (.lst ds) y∨Rep G Hf (.tup ds) y)∧b=inD d ds)∨∃a o,y=.ref a∧DGet H a x o∧b=o.isSome:=by
 cases e with
 | lst ds=>
  have h:(if okIn d ds=true then some (inD d ds) else none)=some b:=by cases d <;> exact h
  split at h
  ·rename_i ok;cases h;exact .inl ⟨ds,ok,.inl ry,rfl⟩
  ·cases h
 | tup ds=>
  have h:(if okIn d ds=true then some (inD d ds) else none)=some b:=by cases d <;> exact h
  split at h
  ·rename_i ok;cases h;exact .inl ⟨ds,ok,.inr ry,rfl⟩
  ·cases h
 | dt kvs=>
  obtain ⟨a,o,rfl,na,ha⟩:=Rep.dt_iff.mp ry
  cases d with
  | tup ks=>
   have h:(Zbp ks).map (fun k=>(valV kvs k).isSome)=some b:=h
   cases q:Zbp ks with
   | none=>rw [q] at h;cases h
   | some k=>
    rw [q] at h;cases h
    obtain ⟨c,cs,rfl,nc,hcx,rc⟩:=Rep.tup_iff.mp rx
    have ec:=ZcZ q rc
    subst ec
    exact .inr ⟨a,_,rfl,.inr ⟨kvs,k,c,.inr ⟨o,e1 _ _ na ha⟩,rfl,e1 _ _ nc hcx,rfl⟩,rfl⟩
  | _=>cases h
 | du kvs=>
  obtain ⟨a,rfl,na,ha⟩:=Rep.du_iff.mp ry
  cases d with
  | tup ks=>
   have h:(Zbp ks).map (fun k=>(valV kvs k).isSome)=some b:=h
   cases q:Zbp ks with
   | none=>rw [q] at h;cases h
   | some k=>
    rw [q] at h;cases h
    obtain ⟨c,cs,rfl,nc,hcx,rc⟩:=Rep.tup_iff.mp rx
    have ec:=ZcZ q rc
    subst ec
    exact .inr ⟨a,_,rfl,DGet.t (e1 _ _ na ha) (e1 _ _ nc hcx),rfl⟩
  | _=>cases h
 | dk kvs=>
  obtain ⟨a,rfl,na,ha⟩:=Rep.dk_iff.mp ry
  have h:(Zby d).map (fun k=>(valV kvs k).isSome)=some b:=by cases d <;> exact h
  cases q:Zby d with
  | none=>rw [q] at h;cases h
  | some k=>
   rw [q] at h;cases h
   have ek:=ZcP q rx
   subst ek
   exact .inr ⟨a,_,rfl,DGet.k (e1 _ _ na ha),rfl⟩
 | _=>cases d <;> cases h
theorem Zhu (hu:X.A.units+64<cLine):OpD X G (compareOp .In) dIn:=
 ⟨_,(Zry (G:=G) hu).or (ZrA (by omega)),fun Hf H s x y d e c Q e1 st rx ry q k=>by
  unfold dIn at q
  cases h:dInB d e with
  | none=>rw [h] at q;cases q
  | some b=>
   rw [h] at q;cases q
   have kk:=k (.bl b) Hf H (.refl e1) st (Rep.bl_iff.mpr rfl) (.scal fun z=>z)
   rcases ZiF e1 rx ry h with ⟨ds,ok,hl,rfl⟩ | ⟨a,o,ey,g,rfl⟩
   ·exact .inl ⟨Hf,d,ds,e1,ok,rx,hl,kk⟩
   ·exact .inr ⟨a,o,ey,g,kk⟩⟩
theorem ZfQ (hu:X.A.units+64<cLine):OpD X G (compareOp .NotIn) Zck:=
 ⟨_,(Zng (G:=G) hu).or (Znh (by omega)),fun Hf H s x y d e c Q e1 st rx ry q k=>by
  unfold Zck at q
  cases h:dInB d e with
  | none=>rw [h] at q;cases q
  | some b=>
   rw [h] at q;cases q
   have kk:=k (.bl (!b)) Hf H (.refl e1) st (Rep.bl_iff.mpr rfl) (.scal fun z=>z)
   rcases ZiF e1 rx ry h with ⟨ds,ok,hl,rfl⟩ | ⟨a,o,ey,g,rfl⟩
   ·exact .inl ⟨Hf,d,ds,e1,ok,rx,hl,kk⟩
   ·exact .inr ⟨a,o,ey,g,kk⟩⟩
end
section
variable {X:Cx} {G:Gh} {own ob:List Nat} {fr:Bool} {f:Rho→M D}
noncomputable def Zk9 (ta:TA):TE:=fun σ H Q=>ta σ H fun vs H1=>∃j:Int,vs=[.int j]∧∀p,H1 p=none→Q (.ref p) (upd H1 p (.rng 0 j))
theorem Zir {a:Expr} {ta:TA} {p pos:Pos} (hg:Gl X "range") (hm:X.mg "range" = none) (ha:PA X [a] ta) (hs:starEach [a] X.env=[(false,eval a X.env)]:=by rfl):PE X (.Call (.Name "range" p) [a] [] pos) (Zk9 ta):=by
 intro pins s σ H Q I h
 refine Call_ (Zep I hg hm boot_range (PyProof.Rows.callWith_type1 (thn (ha pos pins s σ H _ I h) fun us s1 ⟨vs,H1,I1,r1,q1⟩=>?_) hs rfl))
 obtain ⟨j,e,q⟩:=q1
 subst e
 cases r1 with
 | cons r rr=>
  cases rr
  obtain ⟨t,rfl⟩:=r
  refine call_range_1 ⟨.ref s1.heap.objs.size,upd H1 s1.heap.objs.size (.rng 0 j),I1.laid (t':=s1.toks+1+1) (fun b o e=>Heap.get?_push_of_some _ e) (Nat.le_refl _) ?_,rfl,q _ (I1.hok.fresh (Nat.le_refl _))⟩
  exact ⟨_,_,_,Heap.get?_push_size _ rfl⟩
theorem Zg9:∀(ys:List Value) (lo:Int),(∀(j:Nat) v,ys[j]?=some v→∃t,v=.int (lo+j) t)→Vals ((List.range ys.length).map fun (i:Nat)=>V.int (lo+i)) ys
 | [],lo,_=>.nil
 | y::ys,lo,h=>by
  obtain ⟨t,e⟩:=h 0 y rfl
  rw [List.length_cons,List.range_succ_eq_map,List.map_cons,List.map_map]
  refine .cons ⟨t,by rw [e]⟩ ?_
  have q:=Zg9 ys (lo+1) fun j v hv=>by
   obtain ⟨t,e⟩:=h (j+1) v (by simpa using hv)
   exact ⟨t,by rw [e];congr 1;push_cast;omega⟩
  have ee:((fun (i:Nat)=>V.int (lo+i))∘Nat.succ)=fun (i:Nat)=>V.int (lo+1+i):=by
   funext i
   show V.int (lo+(Nat.succ i:Nat))=V.int (lo+1+i)
   congr 1;push_cast;omega
  rw [ee];exact q
theorem Zgc (hc:X.calm=true):ZbH X (.type "list") (fun xs H Q=>∃r j,xs=[.ref r]∧H r=some (.rng 0 j)∧-(2 ^ 62)≤j∧j≤2 ^ 24∧∀l,H l=none→Q (.ref l) (upd H l (.lst ((List.range j.toNat).map fun (i:Nat)=>V.int (0+i))))):=by
 intro pins s σ H xs us Q I r h
 obtain ⟨rr,j,rfl,hr,h1,h2,q⟩:=h
 obtain ⟨u,rfl,ru⟩:=Zb8 r
 cases (show u=Value.ref rr from ru)
 obtain ⟨t,u',v',hro⟩:=(show Za9 X.prog X.w H s.heap rr (.rng 0 j) from I.hok rr _ hr)
 have hn:Builtin.Range.rangeSize 0 j 1=((j.toNat:Nat):Int):=by rw [rangeSize_one];split <;> omega
 refine call_list_range (I.ok.hd hc) (show IsRange s.heap rr 0 j 1 t u' v' from hro) (small_one (by omega) (by omega) h1 (by omega)) hn (by omega) fun h' tk acc' c' hk hS hacc=>?_
 obtain ⟨sz,hit⟩:=hacc
 have rv:=Zg9 acc'.toList 0 fun i v hv=>by
  obtain ⟨t,e⟩:=hit i v (by simpa using hv)
  exact ⟨t,by rw [e];simp⟩
 have el:acc'.toList.length=j.toNat:=by simpa using sz
 rw [el] at rv
 refine ⟨.ref s.heap.objs.size,upd H s.heap.objs.size (.lst ((List.range j.toNat).map fun (i:Nat)=>V.int (0+i))),I.laid hk (Nat.le_refl _) ?_,rfl,q _ (I.hok.fresh (Nat.le_refl _))⟩
 refine ⟨?_,acc'.toList,c',rv,?_⟩
 ·rw [List.length_map,List.length_range]
  show j.toNat≤2 ^ 24
  omega
 ·rw [Array.toArray_toList]
  exact hS
noncomputable def ZbU (f:Rho→M D):Rho→M D:=fun ρ=>Zan (f ρ) fun d=>match d with | .int j=>if -(2 ^ 62)≤j∧j≤2 ^ 24 then mret (.lst (ZaI 0 j.toNat)) else Zau | _=>Zau
theorem Zhn {Hf:Hp} (lo:Int):∀(l:List Nat),RepL G Hf (l.map fun (i:Nat)=>D.int (lo+i)) (l.map fun (i:Nat)=>V.int (lo+i))
 | []=>RepL.nil_iff.mpr rfl
 | i::l=>RepL.cons (Rep.int_iff.mpr rfl) (Zhn lo l)
theorem Zek {a:Expr} {p1 p2 pos1 pos:Pos} {r1:Bool} (hc:X.calm=true) (hg:Gl X "range") (hm:X.mg "range" = none) (hg2:Gl X "list") (hm2:X.mg "list" = none) (hv2:bootBuiltins "list" = some (.type "list")) (ha:PD X G r1 a f)
  (hs:starEach [a] X.env=[(false,eval a X.env)]:=by rfl)
  (he:starEach [.Call (.Name "range" p1) [a] [] pos1] X.env=(false,eval (.Call (.Name "range" p1) [a] [] pos1) X.env)::starEach [] X.env:=by rfl):PD X G true (.Call (.Name "list" p2) [.Call (.Name "range" p1) [a] [] pos1] [] pos) (ZbU f):=by
 obtain ⟨t,pa,qa⟩:=ha.drop
 refine ⟨_,ZeB (Zgc hc) hg2 hm2 hv2 (Za0 (Zir hg hm (Za0 pa Zbg (by rw [hs];rfl)) hs) Zbg he) (by decide) (by decide) he rfl,fun σ Hf H ρ s d s' Q e1 e2 e3 e4 k=>?_⟩
 obtain ⟨dj,s1,a1,a2⟩:=Zah e4
 cases dj with
 | int j=>
  obtain ⟨c,a3⟩:=Za4 a2
  obtain ⟨rfl,rfl⟩:=Zao a3
  refine qa σ Hf H ρ s _ _ _ e1 e2 e3 a1 fun v Hf1 H1 g st r=>?_
  rw [Rep.int_iff.mp r]
  refine ⟨j,rfl,fun p hp=>⟨p,j,rfl,Zaq,c.1,c.2,fun l hl=>?_⟩⟩
  have hlp:l≠p:=fun z=>by rw [z,Zaq] at hl;cases hl
  have hl1:H1 l=none:=by rw [Zaj hlp] at hl;exact hl
  have st2:G.st s' (upd H1 p (.rng 0 j)):=Gh.grow st hp
  have nf:=Gh.nofp st2 hl
  have fp:Hf1 p=none:=by
   cases q:Hf1 p with
   | none=>rfl
   | some o=>rw [g.fh p o (Gh.nofp st hp) q] at hp;cases hp
  have gA:Gr G Hf1 H1 Hf1 (upd H1 p (.rng 0 j)):=⟨fun b o n q=>by rw [Zaj (Zas q hp)];exact q,.refl _ _,fun b o n q=>by rw [Zaj (Zas q fp)];exact g.fh b o n q,fun b n h1 h2=>h1⟩
  have gB:=Gr.new (o:=.lst ((List.range j.toNat).map fun (i:Nat)=>V.int (0+i))) gA.fh hl nf
  have rr:RepL G Hf1 (ZaI 0 j.toNat) ((List.range j.toNat).map fun (i:Nat)=>V.int (0+i)):=Zhn 0 _
  refine k (.ref l) _ _ ((g.trans gA).trans gB) (Gh.grow st2 hl) (Rep.lst_iff.mpr ⟨l,_,rfl,nf,Zaq,rr.ext gB.ff⟩) fun _=>?_
  exact ZaG.old (g.trans gA).hh (fun a ea _=>by cases ea;exact nf) (ZaG.mk gA.fh hl nf rr)
 | _=>cases a2
end
structure BlkS (X:Cx) (XN:List Str) (NS:List (Str×NameKind)) (N':List Str) (src:List (Option Nat)) (scope:Scope):Prop where
 xn:X.N=XN
 ns:X.env.scope.names=NS
 nocell:∀y∈scope.names,y.2≠.cell
 kind:scope.kind=.function
 names:∀y∈scope.names,y.2=.local→scope.names.lookup y.1=some .local
 len:src.length=N'.length
 free:∀y∈scope.names,y.2=.free→NS.lookup y.1=some .cell∨NS.lookup y.1=some .free
 from_:(src.zip N').all (fun p=>match p.1 with | some j=>decide (XN[j]?=some p.2)&&(decide (NS.lookup p.2=some .cell)||decide (NS.lookup p.2=some .free))&&decide (scope.names.lookup p.2=some .free) | none=>true)=true
theorem ZdB {env:Env}:∀{names:List (Str×NameKind)} {x:Str},names.lookup x=some .free→
  (names.map fun (n,k)=>if (k==NameKind.free&&env.scope.kind == .function&&env.kindOf n==some .cell) then (n,NameKind.cell) else (n,k)).lookup x=some .cell∨
  (names.map fun (n,k)=>if (k==NameKind.free&&env.scope.kind == .function&&env.kindOf n==some .cell) then (n,NameKind.cell) else (n,k)).lookup x=some .free
 | [],_,h=>by simp at h
 | (n,k)::r,x,h=>by
  have ih:=@ZdB env r x
  show List.lookup x ((if (k==NameKind.free&&env.scope.kind == .function&&env.kindOf n==some .cell)=true then (n,NameKind.cell) else (n,k))::_)=_∨List.lookup x ((if (k==NameKind.free&&env.scope.kind == .function&&env.kindOf n==some .cell)=true then (n,NameKind.cell) else (n,k))::_)=_
  cases hx:x==n with
  | true=>
   simp only [List.lookup_cons,hx] at h
   cases h
   by_cases hc:(NameKind.free==NameKind.free&&env.scope.kind == .function&&env.kindOf n==some .cell)=true
   ·rw [if_pos hc];left;simp [List.lookup_cons,hx]
   ·rw [if_neg hc];right;simp [List.lookup_cons,hx]
  | false=>
   simp only [List.lookup_cons,hx] at h
   by_cases hc:(k==NameKind.free&&env.scope.kind == .function&&env.kindOf n==some .cell)=true
   ·rw [if_pos hc];simp only [List.lookup_cons,hx];exact ih h
   ·rw [if_neg hc];simp only [List.lookup_cons,hx];exact ih h
theorem Zcw {env:Env}:∀{names:List (Str×NameKind)} {x:Str} {k':NameKind},(∀y∈names,y.2≠.cell)→(k'=.cell∨k'=.free)→
  (names.map fun (n,k)=>if (k==NameKind.free&&env.scope.kind == .function&&env.kindOf n==some .cell) then (n,NameKind.cell) else (n,k)).lookup x=some k'→names.lookup x=some .free
 | [],_,_,_,_,h=>by simp at h
 | (n,k)::r,x,k',nc,hk,h=>by
  have ih:=@Zcw env r x k' (fun y hy=>nc y (List.mem_cons_of_mem _ hy)) hk
  have h:List.lookup x ((if (k==NameKind.free&&env.scope.kind == .function&&env.kindOf n==some .cell)=true then (n,NameKind.cell) else (n,k))::_)=_:=h
  cases hx:x==n with
  | true=>
   by_cases hc:(k==NameKind.free&&env.scope.kind == .function&&env.kindOf n==some .cell)=true
   ·have:k=.free:=by
     simp only [Bool.and_eq_true,beq_iff_eq] at hc
     exact hc.1.1
    subst this
    simp [List.lookup_cons,hx]
   ·rw [if_neg hc] at h
    simp only [List.lookup_cons,hx] at h ⊢
    cases h
    rcases hk with rfl | rfl
    ·exact absurd rfl (nc _ List.mem_cons_self)
    ·rfl
  | false=>
   by_cases hc:(k==NameKind.free&&env.scope.kind == .function&&env.kindOf n==some .cell)=true
   ·rw [if_pos hc] at h;simp only [List.lookup_cons,hx] at h ⊢;exact ih h
   ·rw [if_neg hc] at h;simp only [List.lookup_cons,hx] at h ⊢;exact ih h
theorem Zdv {env:Env}:∀(names:List (Str×NameKind)) (acc:List (Str×Addr)),(∀y∈names,y.2=.free→∃c,env.cells.lookup y.1=some c)→
  (∀x c,acc.lookup x=some c→env.cells.lookup x=some c)→
  ∃cl,(forIn names acc fun (p:Str×NameKind) (cs:List (Str×Addr))=>(if (p.2==NameKind.free)=true then do let a←cellOf env p.1;pure (ForInStep.yield ((p.1,a)::cs)) else pure (ForInStep.yield cs):Sem (ForInStep (List (Str×Addr)))))=pure cl∧
   (∀x c,cl.lookup x=some c→env.cells.lookup x=some c)∧(∀x c,acc.lookup x=some c→∃c',cl.lookup x=some c')∧∀y∈names,y.2=.free→∃c,cl.lookup y.1=some c
 | [],acc,_,h2=>⟨acc,by simp,h2,fun x c h=>⟨c,h⟩,fun y hy=>by simp at hy⟩
 | (n,k)::r,acc,h1,h2=>by
  by_cases hk:k=.free
  ·subst hk
   obtain ⟨c,hc⟩:=h1 (n,.free) List.mem_cons_self rfl
   have hcell:cellOf env n=pure c:=by unfold cellOf;rw [hc]
   obtain ⟨cl,q1,q2,q3,q4⟩:=Zdv (env:=env) r ((n,c)::acc) (fun y hy=>h1 y (List.mem_cons_of_mem _ hy)) fun x c' h=>by
    cases hx:x==n with
    | true=>
     simp only [List.lookup_cons,hx] at h
     cases h
     have:x=n:=by simpa using hx
     rw [this];exact hc
    | false=>simp only [List.lookup_cons,hx] at h;exact h2 x c' h
   refine ⟨cl,?_,q2,fun x c' h=>?_,fun y hy hf=>?_⟩
   ·rw [List.forIn_cons]
    simp only [beq_self_eq_true,if_true,hcell,pure_bind]
    exact q1
   ·cases hx:x==n with
    | true=>exact q3 x c (by simp [List.lookup_cons,hx])
    | false=>exact q3 x c' (by simp only [List.lookup_cons,hx];exact h)
   ·rcases List.mem_cons.mp hy with e | hy
    ·subst e;exact q3 n c (by simp [List.lookup_cons])
    ·exact q4 y hy hf
  ·obtain ⟨cl,q1,q2,q3,q4⟩:=Zdv (env:=env) r acc (fun y hy=>h1 y (List.mem_cons_of_mem _ hy)) h2
   refine ⟨cl,?_,q2,q3,fun y hy hf=>?_⟩
   ·rw [List.forIn_cons]
    have:(k==NameKind.free)=false:=by simpa using hk
    simp only [this,Bool.false_eq_true,if_false,pure_bind]
    exact q1
   ·rcases List.mem_cons.mp hy with e | hy
    ·subst e;exact absurd hf hk
    ·exact q4 y hy hf
theorem BlkS.ok {X:Cx} {XN:List Str} {NS:List (Str×NameKind)} {N':List Str} {src:List (Option Nat)} {scope:Scope} (B:BlkS X XN NS N' src scope) (ok:X.Ok):∃cl,BlkOk X N' src scope cl:=by
 have hcells:∀y∈scope.names,y.2=.free→∃c,X.env.cells.lookup y.1=some c:=fun y hy hf=>ok.has y.1 (by
  have:=B.free y hy hf
  rw [←B.ns] at this
  exact this)
 obtain ⟨cl,q1,q2,q3,q4⟩:=Zdv (env:=X.env) scope.names [] hcells (fun x c h=>by simp at h)
 refine ⟨cl,?_,B.nocell,B.kind,B.names,B.len,q2,fun x hx=>?_,fun i j x e1 e2=>?_⟩
 ·unfold closureFor
  show (forIn scope.names [] _ >>= _)=_
  rw [show (forIn scope.names ([]:List (Str×Addr)) fun (x:Str×NameKind) (r:List (Str×Addr))=>_)=_ from q1]
  rfl
 ·have hf:scope.names.lookup x=some .free:=by
   rcases hx with h | h
   ·exact Zcw B.nocell (.inl rfl) h
   ·exact Zcw B.nocell (.inr rfl) h
  exact q4 (x,.free) (PySem.mem_of_lookup hf) rfl
 ·have hm:(some j,x)∈src.zip N':=by
   have:(src.zip N')[i]?=some (some j,x):=by
    rw [List.getElem?_zip_eq_some]
    exact ⟨e1,e2⟩
   exact List.mem_of_getElem? this
  have q:=List.all_eq_true.mp B.from_ _ hm
  simp only [Bool.and_eq_true,Bool.or_eq_true,decide_eq_true_eq] at q
  obtain ⟨⟨p1,p2⟩,p3⟩:=q
  refine ⟨by rw [B.xn];exact p1,?_,ZdB p3⟩
  show X.env.scope.names.lookup x=_∨X.env.scope.names.lookup x=_
  rw [B.ns]
  exact p2
section
variable {X:Cx} {G:Gh} {elt tg iter:Expr} {ifs:List Expr} {scope:Scope} {pos pos' spos:Pos} {XN:List Str} {NS:List (Str×NameKind)} {N':List Str} {src:List (Option Nat)} {fi:Rho→M (List D)} {τ:D→Rho→Option Rho} {ft:Rho→M Bool} {fe:Rho→M D} {r1:Bool} {i:Nat} {x:Str}
theorem Zbm (hc:X.calm=true) (B:BlkS X XN NS N' src scope) (hi:PDI X G tg iter fi)
  (hg:∀cl pins C s H fp,PDG (blk X pins N' scope cl C s H fp) G tg (fun i=>src[i]?=some none) τ) (ht:∀cl pins C s H fp,PIfs (blk X pins N' scope cl C s H fp) ifs (tOfT G ft)) (he:∀cl pins C s H fp,PD (blk X pins N' scope cl C s H fp) G r1 elt fe)
  (hs:∀x,foldedSetIterable iter X.env x=pure x:=by intro _;rfl):PD X G true (.ListComp elt [⟨tg,iter,ifs,0⟩] scope pos) (ZaP src fi τ ft fe):=by
 obtain ⟨wi,pi,qi⟩:=hi
 refine ⟨_,fun pins s σ H Q I h=>?_,Zkn (r1:=r1) qi⟩
 obtain ⟨cl,B'⟩:=B.ok I.ok
 exact Zln hc B' pi (fun pins C s H fp=>(hg cl pins C s H fp).canon) (ht cl) (fun pins C s H fp=>(he cl pins C s H fp).canon) hs pins s σ H Q I h
theorem ZcW (hN:X.N.Nodup) (hi':X.N[i]?=some x) (hx:Loc X.env.scope x)
  (hc:X.calm=true) (B:BlkS X XN NS N' src scope) (hi:PDI X G tg iter fi)
  (hg:∀cl pins C s H fp,PDG (blk X pins N' scope cl C s H fp) G tg (fun i=>src[i]?=some none) τ) (ht:∀cl pins C s H fp,PIfs (blk X pins N' scope cl C s H fp) ifs (tOfT G ft)) (he:∀cl pins C s H fp,PD (blk X pins N' scope cl C s H fp) G r1 elt fe)
  (hsw:swapsWith (.ListComp elt [⟨tg,iter,ifs,0⟩] scope pos) (some (.Name x pos')) spos.line X.env=pure true:=by rfl)
  (hs:∀x,foldedSetIterable iter X.env x=pure x:=by intro _;rfl)
  (hf:X.fn x=true∨X.env.scope.names.lookup x=some .local:=by first | exact .inl rfl | exact .inr rfl | assumption) :
  PAsg X G true i (.Assign [.Name x pos'] (.ListComp elt [⟨tg,iter,ifs,0⟩] scope pos) spos) (ZaP src fi τ ft fe):=by
 obtain ⟨wi,pi,qi⟩:=hi
 refine ⟨_,fun pins s σ H D I h=>?_,Zkn (r1:=r1) qi⟩
 obtain ⟨cl,B'⟩:=B.ok I.ok
 exact Zp3 hN hi' hx hc B' pi (fun pins C s H fp=>(hg cl pins C s H fp).canon) (ht cl) (fun pins C s H fp=>(he cl pins C s H fp).canon) hsw hs hf pins s σ H D I h
end
noncomputable def Cal (P:Program) (w:World) (K:PySem.W.Frag) (mg:Str→Option Value) (base:Heap) (k:Nat) (x:Str) (n:Nat) (fr:Bool) (GG:Gh→Prop) (F:List D→M D):Prop:=
 ∃f fd ps,FnOk P w K mg base CX0 k f fd ps (spD n fr GG F)∧mg x=some (.ref f)∧PySem.W.keepIn K (.ref f)=true∧ZcE K fd ps []
theorem Cal.mono {P:Program} {w:World} {K:PySem.W.Frag} {mg:Str→Option Value} {base:Heap} {j k:Nat} {x:Str} {n:Nat} {fr:Bool} {GG:Gh→Prop} {F:List D→M D} (c:Cal P w K mg base j x n fr GG F) (h:j≤k:=by decide):Cal P w K mg base k x n fr GG F:=
 let ⟨f,fd,ps,a,b,c,d⟩:=c
 ⟨f,fd,ps,a.mono h,b,c,d⟩
theorem Zav {X:Cx} {G:Gh} {k:Nat} {x:Str} {n:Nat} {fr:Bool} {GG:Gh→Prop} {F:List D→M D} {p pos:Pos} {e:Expr} {es:List Expr} {fs:Rho→M (List D)} (c:Cal X.prog X.w X.K X.mg X.base k x n fr GG F) (hG:GG G) (hr:Room k X.A) (hg:Gl X x)
  (ha:PDA X G (e::es) fs) (hal:∀ρ s ds s',fs ρ s=some (ds,s')→ds.length=(e::es).length) (hlen:(e::es).length=n:=by rfl)
  (hdb:(x==("__debug__" : Str))=false:=by decide) (he:starEach (e::es) X.env=(false,eval e X.env)::starEach es X.env:=by rfl) (hpl:(backTo pos (starEach es X.env)).any (·.1)=false:=by rfl) :
  PD X G fr (.Call (.Name x p) (e::es) [] pos) (dFn F fs):=by
 obtain ⟨f,fd,ps,a,b,c,d⟩:=c
 exact Zqh a hG hr hg b c d Zja ha hlen hal hdb he hpl
noncomputable def hidB (h base:Heap) (as:List Addr):Heap:=PySem.W.hideAll h ((List.range h.objs.size).filter fun a=>!((base.get? a).isSome||decide (a∈as)))
theorem ZnR {h base:Heap} {as:List Addr}:(hidB h base as).objs.size=h.objs.size:=PySem.W.hideAll_size _ _
theorem Zkb {h base:Heap} {as:List Addr} {b:Addr} {o:Obj} (e:h.get? b=some o) (n:(∃u,base.get? b=some u)∨b∈as):(hidB h base as).get? b=some o:=
 PySem.W.hideAll_get _ e fun hm=>by
  have q:=(List.mem_filter.mp hm).2
  rcases n with ⟨u,n⟩ | n
  ·simp [n] at q
  ·simp [n] at q
theorem Zlt {h base:Heap} {as:List Addr} {b:Addr} {o:Obj} (e:(hidB h base as).get? b=some o):h.get? b=some o∧((∃u,base.get? b=some u)∨b∈as):=by
 have e':h.get? b=some o:=PySem.W.of_hideAll _ e
 refine ⟨e',?_⟩
 by_cases c:((base.get? b).isSome||decide (b∈as))=true
 ·rcases Bool.or_eq_true_iff.mp c with c | c
  ·exact .inl (Option.isSome_iff_exists.mp c)
  ·exact .inr (of_decide_eq_true c)
 ·have z:(hidB h base as).get? b=none:=PySem.W.hideAll_none _ (List.mem_filter.mpr ⟨List.mem_range.mpr (Heap.lt_size e'),by simpa using c⟩)
  rw [z] at e;cases e
theorem Env0.more {P:Program} {w:World} {K:PySem.W.Frag} {mg:Str→Option Value} {base:Heap} {A:Around} {outer:List Env} {s:Shared} {H:Hp} {as:List Addr} (e:Env0 P w K mg base A outer s H) (ha:∀b∈as,H b=none) (hf:∀b∈as,b∉frs outer) :
  Env0 P w K mg (hidB s.heap base as) A outer s H:=by
 have up:∀b o,base.get? b=some o→(hidB s.heap base as).get? b=some o:=fun b o q=>Zkb (e.bs b o q).1 (.inl ⟨o,q⟩)
 refine ⟨e.frames,⟨e.mod.kin.keeps up,e.mod.glob.keeps up,let ⟨mb,h1,h2⟩:=e.mod.blt;⟨mb,h1.keeps up,h2⟩,e.mod.nolimit.keeps up⟩,fun b o q=>?_,Nat.le_of_eq ZnR,?_,e.frf,e.hok,e.bare⟩
 ·obtain ⟨q1,q2⟩:=Zlt q
  refine ⟨q1,?_⟩
  rcases q2 with ⟨u,q2⟩ | q2
  ·exact (e.bs b u q2).2
  ·exact ha b q2
 ·have all:∀l:List Env,(∀b∈frs l,b∈frs outer)→s.heap.FunFrames base l→s.heap.FunFrames (hidB s.heap base as) l:=by
   intro l
   induction l with
   | nil=>intro _ _;trivial
   | cons env r ih=>
    intro hs hl
    obtain ⟨hk,⟨L,o,hf',hn,ho,hd⟩,hr⟩:=hl
    have hL:L∈frs outer:=hs L (by unfold frs;rw [List.filterMap_cons,hf'];exact List.mem_cons_self)
    refine ⟨hk,⟨L,o,hf',?_,ho,hd⟩,ih (fun b hb=>hs b (by unfold frs;rw [List.filterMap_cons,hf'];exact List.mem_cons_of_mem _ hb)) hr⟩
    cases q:(hidB s.heap base as).get? L with
    | none=>rfl
    | some u=>
     rcases (Zlt q).2 with ⟨u',q'⟩ | q'
     ·rw [hn] at q';cases q'
     ·exact absurd hL (hf L q')
  exact all outer (fun _ h=>h) e.funs
noncomputable def fnφ (p:Addr) (fd:FuncData):Heap→Prop:=fun h=>∃oc od sl,h.get? p=some ⟨oc,od,.func fd,sl⟩
noncomputable def codeφ (c:Addr) (q:Str):Heap→Prop:=fun h=>h.CodeRec (.ref c) q
theorem fnφ_at {P:Program} {w:World} {H:Hp} {h:Heap} {p:Addr} {fd:FuncData} (ok:HOk P w H h) (e:H p=some (.ext (fnφ p fd))):fnφ p fd h:=(ok p _ e).1
theorem codeφ_at {P:Program} {w:World} {H:Hp} {h:Heap} {c:Addr} {q:Str} (ok:HOk P w H h) (e:H c=some (.ext (codeφ c q))):h.CodeRec (.ref c) q:=(ok c _ e).1
structure CloScope (N ps:List Str) (sc:Scope):Prop where
 kind:sc.kind=.function
 co:sc.isCoroutine=false
 gen:sc.isGenerator=false
 nd:N.Nodup
 pre:N.take ps.length=ps
 par:∀x∈ps,sc.names.lookup x=some .local
 nocell:∀y∈sc.names,y.2≠.cell
noncomputable def cxC (CX:CXT) (P:Program) (w:World) (K:PySem.W.Frag) (mg:Str→Option Value) (base:Heap) (N:List Str) (qual:Str) (scope:Scope) (f:Addr) (cd:Value) (cl:List (Str×Addr)) (A:Around) (outer:List Env) (s:Shared) (H:Hp) (E:XK):Cx where
 prog:=P
 w:=w
 K:=K
 mg:=mg
 base:=base
 A:=A.deeper (PySem.W.envX qual scope s.heap.objs.size f cd cl)
 N:=N
 s₀:=s
 H₀:=H
 env:=PySem.W.envX qual scope s.heap.objs.size f cd cl
 outer:=outer
 stack:=PySem.W.envX qual scope s.heap.objs.size f cd cl::outer
 ex:=[]
 calm:=true
 fn:=fun _=>false
 pn:=[]
 xe:=fun e s'=>wpAny (model P w) (A.deeper (PySem.W.envX qual scope s.heap.objs.size f cd cl)) (leaving (PySem.W.envX qual scope s.heap.objs.size f cd cl) e) (fun _ s''=>CX outer H s E e s'') (fun e' s''=>CX outer H s E e' s'') s'
structure CloAt (base:Heap) (cl:List (Str×Addr)) (sc:Scope) (N ps:List Str) (cvs:List V):Prop where
 inj:∀x y c,cl.lookup x=some c→cl.lookup y=some c→x=y
 cell:∀x c,cl.lookup x=some c→∃v,base.IsCell c v
 has:∀x,sc.names.lookup x=some .free→∃c,cl.lookup x=some c
 cap:∀(i:Nat) (x:Str) (v:V),N[ps.length+i]?=some x→cvs[i]?=some v→sc.names.lookup x=some .free∧∃c u,cl.lookup x=some c∧base.IsCell c (some u)∧RelV v u
 len:N.length=ps.length+cvs.length
theorem ZfZ {α:Type}:∀{l:List (Str×α)} {x:Str} {u:α},(l.map (·.1)).Nodup→(x,u)∈l→l.lookup x=some u
 | [],_,_,_,h=>by simp at h
 | (y,w)::l,x,u,nd,h=>by
  rw [List.map_cons,List.nodup_cons] at nd
  rcases List.mem_cons.mp h with e | hm
  ·cases e;simp [List.lookup_cons]
  ·have hne:(x==y)=false:=by
    simp only [beq_eq_false_iff_ne]
    rintro rfl
    exact nd.1 (List.mem_map_of_mem (f:=(·.1)) hm)
   rw [List.lookup_cons,hne]
   exact ZfZ nd.2 hm
theorem ZgG:∀(ps:List Str) (us:List Value),((ps.zip us).map (·.1)).Sublist ps
 | [],_=>by simp
 | _::_,[]=>by simp
 | p::ps,u::us=>by simpa using ZgG ps us
theorem ZhW {ps:List Str} {us:List Value} {i:Nat} {x:Str} {u:Value} (nd:ps.Nodup) (h1:ps[i]?=some x) (h2:us[i]?=some u):(ps.zip us).reverse.lookup x=some u:=by
 refine ZfZ ?_ ?_
 ·rw [List.map_reverse]
  refine List.pairwise_reverse.mpr ?_
  exact (nd.sublist (ZgG _ _)).imp Ne.symm
 ·rw [List.mem_reverse]
  exact List.mem_of_getElem? (i:=i) (List.getElem?_zip_eq_some.mpr ⟨h1,h2⟩)
theorem ZqJ {CX:CXT} {P:Program} {w:World} {K:PySem.W.Frag} {mg:Str→Option Value} {base:Heap} {N ps:List Str} {qual:Str} {scope:Scope} {f:Addr} {cd:Value} {cl:List (Str×Addr)} {A:Around} {outer:List Env} {s:Shared} {H:Hp} {E:XK} {us:List Value} {vs cvs:List V} {h':Heap} {tk:Nat}
  (S:CloScope N ps scope) (C:CloAt base cl scope N ps cvs) (hd:A.handled=none) (e0:Env0 P w K mg base A outer s H) (hl:vs.length=ps.length) (r:Vals vs us)
  (hns:h'.Ns s.heap.objs.size (fun x=>(ps.zip us).reverse.lookup x)) (hk:∀b o,s.heap.get? b=some o→h'.get? b=some o) :
  Inv (cxC CX P w K mg base N qual scope f cd cl A outer s H E) [] (vs.map some++cvs.map some) H { s with heap:=h',toks:=tk }:=by
 have noA:∀b:Addr,b∉(cxC CX P w K mg base N qual scope f cd cl A outer s H E).ex:=fun b z=>absurd (show b∈([]:List Addr) from z) (by simp)
 have up:∀b o,base.get? b=some o→h'.get? b=some o:=fun b o q=>hk b o (e0.bs b o q).1
 have cellAt:∀x c,cl.lookup x=some c→∃v,base.IsCell c v:=C.cell
 refine ⟨⟨e0.mod,S.kind,rfl,rfl,Nat.le_refl _,fun y z c h1 h2=>C.inj y z c h1 h2,fun y hy=>?_,fun y c z _=>(by cases z),fun _=>hd,Around.frames_deeper e0.frames,.inr ⟨rfl,rfl⟩,fun b z=>absurd z (noA b),e0.bs,e0.bsz,fun b _ _=>noA b,fun b z=>absurd z (noA b),e0.funs,e0.frf⟩,
  rfl,e0.bare,Un.kept hk,⟨_,hns,fun i y v h1 h2 h3=>?_⟩,fun y c h=>?_,e0.hok.fresh (Nat.le_refl _),fun y c h=>?_,fun p hp=>absurd (show p∈([]:List (Addr×Obj)) from hp) (by simp),e0.hok.kept hk,?_⟩
 ·have hy:scope.names.lookup y=some .cell∨scope.names.lookup y=some .free:=hy
  rcases hy with hy | hy
  ·exact absurd rfl (S.nocell _ (PySem.mem_of_lookup hy))
  ·exact C.has y hy
 ·have h1:N[i]?=some y:=h1
  by_cases hi:i<vs.length
  ·have ha:vs[i]?=some v:=by
    rw [List.getElem?_append_left (by simpa using hi),List.getElem?_map] at h2
    cases e:vs[i]? with
    | none=>rw [e] at h2;cases h2
    | some a=>rw [e] at h2;cases h2;rfl
   obtain ⟨u,hu,rv⟩:=r.get ha
   have hp:ps[i]?=some y:=by
    rw [←S.pre,List.getElem?_take_of_lt (by omega)];exact h1
   have ndP:ps.Nodup:=by rw [←S.pre];exact S.nd.sublist (List.take_sublist _ _)
   exact ⟨u,rv,.inl ⟨S.par y (List.mem_of_getElem? hp),ZhW ndP hp hu⟩⟩
  ·rw [List.getElem?_append_right (by simpa using hi),List.getElem?_map,List.length_map] at h2
   have hc:cvs[i-vs.length]?=some v:=by
    cases e:cvs[i-vs.length]? with
    | none=>rw [e] at h2;cases h2
    | some a=>rw [e] at h2;cases h2;rfl
   obtain ⟨q1,c,u,q2,q3,q4⟩:=C.cap (i-vs.length) y v (by rw [show ps.length+(i-vs.length)=i by omega];exact h1) hc
   exact ⟨u,q4,.inr ⟨.inr q1,c,q2,q3.keeps up⟩⟩
 ·obtain ⟨v,q⟩:=C.cell y c h
  exact ⟨v,q.keeps up⟩
 ·obtain ⟨v,o,q,_⟩:=C.cell y c h
  exact (e0.bs c o q).2
 ·show _=N.length
  rw [C.len];simp [hl]
theorem ZqP {CX:CXT} {P:Program} {w:World} {K:PySem.W.Frag} {mg:Str→Option Value} {base:Heap} {k:Nat} {f:Addr} {name qual:Str} {params:Arguments} {body:Expr} {scope:Scope} {cl:List (Str×Addr)} {pm ct:Value} {c':Addr} {N ps:List Str} {cvs:List V} {sp:Sp}
  (S:CloScope N ps scope) (C:CloAt base cl scope N ps cvs) (len:∀vs H Q E,sp vs H Q E→vs.length=ps.length)
  (at_:∀vs H Q E,sp vs H Q E→H f=some (.ext (fnφ f (PySem.W.kla_fn name qual params body scope cl pm (.ref c') ct)))∧H c'=some (.ext (codeφ c' qual)))
  (hbody:∀(A:Around) (outer:List Env) (s:Shared) (H:Hp) (vs:List V) (Q:VK) (E:XK),Room k (A.deeper (PySem.W.envX qual scope s.heap.objs.size f (.ref c') cl))→sp vs H Q E→
   ∃t,PE (cxC CX P w K mg base N qual scope f (.ref c') cl A outer s H E) body t∧t (vs.map some++cvs.map some) H Q) :
  FnOk P w K mg base CX (k+1) f (PySem.W.kla_fn name qual params body scope cl pm (.ref c') ct) ps sp:=by
 refine ⟨len,fun A outer s H args us vs Q E hr e0 hb r hsp=>?_⟩
 have hl:=len _ _ _ _ hsp
 obtain ⟨a1,a2⟩:=at_ _ _ _ _ hsp
 obtain ⟨oc,od,sl,ho⟩:=fnφ_at e0.hok a1
 have lim:s.heap.NoLimit:=e0.mod.nolimit.keeps fun b o e=>(e0.bs b o e).1
 have hkind:∀y∈ps.zip us,scope.names.lookup y.1=some .local:=fun ⟨n,v⟩ hy=>S.par n (List.of_mem_zip hy).1
 refine PySem.W.kla_callFunE hr.depth ho rfl S.co S.gen rfl (codeφ_at e0.hok a2) (hb _ _ _ _ ?_)
 refine wpAny_newFunctionEnv S.nocell hkind (fun h' hns hsb=>?_) S.kind
 have hk:∀b o,s.heap.get? b=some o→h'.get? b=some o:=fun b o e=>hsb.extBut b o (Nat.ne_of_lt (Heap.lt_size e)) (Heap.get?_push_of_some _ e)
 refine ⟨lim.keeps hk,?_⟩
 show codeAny _ _ (.expr body (PySem.W.envX qual scope s.heap.objs.size f (.ref c') cl)) _ _
 obtain ⟨t,ht,hq⟩:=hbody A outer s H vs Q E (hr.deeper _) hsp
 refine PySem.W.kla_codeExpr (wpAny_mono (ht [] _ _ H Q (ZqJ S C hr.hd e0 hl r hns hk) hq) (fun u s' hs=>?_) fun e s' hs=>hs)
 obtain ⟨v,H',J,rv,q⟩:=hs
 exact ⟨v,H',J.os,J.bare,J.base,J.hok,rv,q⟩
structure Mk0 (X:Cx) (c P:Addr):Prop where
 code:X.env.code=.ref c
 hd:PySem.W.CodeHd X.base c P
 bm:∃bm o,X.mg "__builtins__" = some (.ref bm)∧bm≠builtinsNs∧bm≠mainGlobals∧X.base.get? bm=some o∧o.cls=.type "module"∧o.dict=some builtinsNs∧o.data=.plain
noncomputable def Slot (P:Addr) (q:Str) (lpos:Pos) (ps:Array Value) (H Hm:Hp) (c':Addr):Prop:=
 (Hm=H∧codeAmong lpos ps.toList=some (.ref c')∧H c'=some (.ext (codeφ c' q)))∨(codeAmong lpos ps.toList=none∧H c'=none∧c'≠P∧Hm=upd (upd H P (.tbl (ps ++ #[rawInt lpos.line,rawInt lpos.col,.ref c']))) c' (.ext (codeφ c' q)))
noncomputable def Zst (P:Addr) (q:Str) (lpos:Pos) (isFd:FuncData→Addr→Prop) (H:Hp) (R:Addr→Addr→FuncData→Hp→Prop):Prop:=
 ∃ps,H P=some (.tbl ps)∧TriplesOk ps.toList∧(∀cv,codeAmong lpos ps.toList=some cv→∃c',cv=.ref c'∧H c'=some (.ext (codeφ c' q)))∧
  ∀p c' fd Hm,isFd fd c'→Slot P q lpos ps H Hm c'→Hm p=none→R p c' fd (upd Hm p (.ext (fnφ p fd)))
section
variable {X:Cx} {pins:List (Addr×Obj)} {σ:St} {H:Hp} {s:Shared} {c P:Addr} {ps:Array Value}
theorem Mk0.bat (M:Mk0 X c P) (I:Inv X pins σ H s) (hP:H P=some (.tbl ps)):s.heap.BuiltinsAt X.mg P:=by
 obtain ⟨bm,o,e1,e2,e3,e4,e5⟩:=M.bm
 refine ⟨bm,o,e1,e2,e3,fun z=>?_,I.bk _ _ e4,e5⟩
 have:=(I.bs _ _ e4).2
 rw [z,hP] at this;cases this
theorem gne (I:Inv X pins σ H s) (hP:H P=some (.tbl ps)):mainGlobals≠P:=fun z=>by
 obtain ⟨o,es,ep,e,_⟩:=I.mod.glob
 have:=(I.bs _ _ e).2
 rw [z,hP] at this;cases this
theorem Zkj {P0:Program} {w:World} {H':Hp} {h:Heap} {a:Addr} {φ:Heap→Prop} (h1:φ h) (h2:∃o,h.get? a=some o) (h3:∀h1 h2:Heap,φ h1→(∀o,h1.get? a=some o→h2.get? a=some o)→φ h2):Za9 P0 w H' h a (.ext φ):=⟨h1,h2,h3⟩
theorem fnφ_keep {p:Addr} {fd:FuncData}:∀h1 h2:Heap,fnφ p fd h1→(∀o,h1.get? p=some o→h2.get? p=some o)→fnφ p fd h2:=fun h1 h2 ⟨oc,od,sl,e⟩ k=>⟨oc,od,sl,k _ e⟩
theorem codeφ_keep {p:Addr} {q:Str}:∀h1 h2:Heap,codeφ p q h1→(∀o,h1.get? p=some o→h2.get? p=some o)→codeφ p q h2:=fun h1 h2 ⟨a,o,vs,t,e,e1,r⟩ k=>by
 cases e
 exact ⟨p,o,vs,t,rfl,k _ e1,r⟩
theorem codeφ_there {p:Addr} {q:Str} {h:Heap} (x:codeφ p q h):∃o,h.get? p=some o:=by
 obtain ⟨a,o,vs,t,e,e1,r⟩:=x
 cases e
 exact ⟨o,e1⟩
theorem ZqI {h':Heap} {tk:Nat} {c':Addr} {more:Array Value} {q:Str} (I:Inv X pins σ H s) (hP:H P=some (.tbl ps)) (hx:Heap.ExtBut P s.heap h') (hge:s.heap.objs.size≤c') (hc:h'.CodeRec (.ref c') q) (ht:h'.get? P=some (PySem.W.tabObj (ps++more))) :
  Inv X pins σ (upd (upd H P (.tbl (ps++more))) c' (.ext (codeφ c' q))) { s with heap:=h',toks:=tk }∧H c'=none∧c'≠P:=by
 have hc0:H c'=none:=I.hok.fresh hge
 have hcP:c'≠P:=fun z=>by rw [z,hP] at hc0;cases hc0
 have old:∀{b:Addr} {u:HO},H b=some u→b≠c':=fun e z=>by rw [z,hc0] at e;cases e
 have get:∀{b:Addr} {u:HO},H b=some u→b≠P→upd (upd H P (.tbl (ps++more))) c' (.ext (codeφ c' q)) b=some u:=fun {b u} e n=>by rw [Zaj (old e),Zaj n];exact e
 refine ⟨I.call (g':=s.gens) (d':=s.drawn) (ch:=[]) ?_ ?_ I.bare (fun b hb=>absurd hb (by simp)),hc0,hcP⟩
 ·refine ⟨fun b o e n _ _=>hx b o (fun z=>by rw [z,hP] at n;cases n) e,fun b o e n _ _=>⟨o.slots,hx b o (fun z=>by rw [z,hP] at n;cases n) e⟩,fun b o e n _=>?_,fun b o e _=>?_,fun b xs e=>get e (fun z=>by rw [z,hP] at e;cases e),fun b o u e=>get e (fun z=>by rw [z,hP] at e;cases e),fun b ps' e=>?_⟩
  ·rw [Zaj (Nat.ne_of_lt (Nat.lt_of_lt_of_le (Heap.lt_size e) hge)),Zaj (fun z=>by rw [z,hP] at n;cases n)];exact n
  ·by_cases hb:b=P
   ·exact ⟨_,hb▸ht⟩
   ·exact ⟨o,hx b o hb e⟩
  ·by_cases hb:b=P
   ·subst hb
    rw [hP] at e;cases e
    exact ⟨more,by rw [Zaj (old hP),Zaq]⟩
   ·exact ⟨#[],by rw [get e hb];simp⟩
 ·intro a o e
  by_cases ha:a=c'
  ·subst ha
   rw [Zaq] at e;cases e
   exact Zkj hc (codeφ_there hc) codeφ_keep
  ·rw [Zaj ha] at e
   by_cases hb:a=P
   ·subst hb
    rw [Zaq] at e;cases e
    exact ht
   ·rw [Zaj hb] at e
    refine (I.hok a o e).stay (fun b u hb' r=>hx b u ?_ r) (fun b r=>get r (fun z=>by rw [z,hP] at r;cases r)) fun b xs r=>get r (fun z=>by rw [z,hP] at r;cases r)
    rcases hb' with rfl | hb'
    ·exact hb
    ·intro z;rw [z,hP] at hb';cases hb'
structure CloOf (X:Cx) (scope:Scope) (cl:List (Str×Addr)):Prop where
 of:∀x c,cl.lookup x=some c→X.env.cells.lookup x=some c
 has:∀y∈scope.names,y.2=.free→∃c,cl.lookup y.1=some c
theorem ZqV {scope:Scope} (ok:X.Ok) (hfree:∀y∈scope.names,y.2=.free→X.env.kindOf y.1=some .cell∨X.env.kindOf y.1=some .free):∃cl,closureFor scope X.env=pure cl∧CloOf X scope cl:=by
 obtain ⟨cl,q1,q2,q3,q4⟩:=Zdv (env:=X.env) scope.names [] (fun y hy hf=>ok.has y.1 (hfree y hy hf)) (fun x c h=>by simp at h)
 refine ⟨cl,?_,q2,q4⟩
 unfold closureFor
 show (forIn scope.names [] _ >>= _)=_
 rw [show (forIn scope.names ([]:List (Str×Addr)) fun (x:Str×NameKind) (r:List (Str×Addr))=>_)=_ from q1]
 rfl
theorem Zrn {params:Arguments} {body:Expr} {scope:Scope} {lpos:Pos} {q:Str} (M:Mk0 X c P) (hq:X.env.qual ++ "<lambda>" = q) (hfree:∀y∈scope.names,y.2=.free→X.env.kindOf y.1=some .cell∨X.env.kindOf y.1=some .free) (hdef:defaultsOf params X.env=([],[]):=by rfl) :
  PE X (.Lambda params body scope lpos) (fun σ H Q=>Zst P q lpos (fun fd c'=>∃cl pm ctv,CloOf X scope cl∧fd=PySem.W.kla_fn "<lambda>" q params body scope cl pm (.ref c') ctv) H fun p _ _ H'=>Q (.ref p) H'):=by
 intro pins s σ H Q I ⟨ps,hP,ht,hhit,h⟩
 obtain ⟨cl,hcl,co⟩:=ZqV I.ok hfree
 have hP':s.heap.get? P=some (PySem.W.tabObj ps):=I.hok P _ hP
 have hg:s.heap.Ns mainGlobals X.mg:=I.mod.glob.keeps I.bk
 have hb:=M.bat I hP
 refine PySem.W.kla_eval hdef ?_
 rw [hq]
 cases hc:codeAmong lpos ps.toList with
 | some cv=>
  obtain ⟨c',rfl,hc'⟩:=hhit cv hc
  refine PySem.W.kla_makeFunctionHit hcl I.ok.glob hg M.code (M.hd.keeps I.bk) hP' ht hc hb fun ctv h' tk hk hsz=>?_
  refine ⟨.ref h'.objs.size,upd H h'.objs.size (.ext (fnφ _ _)),I.laid (t':=tk) (fun b u e=>Heap.get?_push_of_some _ (hk b u e)) hsz (Zkj ⟨_,_,_,Heap.get?_push_size _ rfl⟩ ⟨_,Heap.get?_push_size _ rfl⟩ fnφ_keep),rfl,h _ c' _ H ⟨cl,_,_,co,rfl⟩ (.inl ⟨rfl,hc,hc'⟩) (I.hok.fresh hsz)⟩
 | none=>
  refine PySem.W.kla_makeFunction hcl I.ok.glob hg M.code (M.hd.keeps I.bk) hP' ht hc (gne I hP) hb fun c' ctv h' tk hx hge hlt hrec htb=>?_
  obtain ⟨I1,hc0,hcP⟩:=ZqI (tk:=tk) I hP hx hge hrec htb
  refine ⟨.ref h'.objs.size,upd _ h'.objs.size (.ext (fnφ _ _)),I1.laid (t':=tk) (fun b u e=>Heap.get?_push_of_some _ e) (Nat.le_refl _) (Zkj ⟨_,_,_,Heap.get?_push_size _ rfl⟩ ⟨_,Heap.get?_push_size _ rfl⟩ fnφ_keep),rfl,h _ c' _ _ ⟨cl,_,_,co,rfl⟩ (.inr ⟨hc,hc0,hcP,rfl⟩) (I1.hok.fresh (Nat.le_refl _))⟩
end
structure Cells (X:Cx) (σ:St) (base':Heap):Prop where
 inj:∀x y c,X.env.cells.lookup x=some c→X.env.cells.lookup y=some c→x=y
 cell:∀x c,X.env.cells.lookup x=some c→∃v,base'.IsCell c v
 has:∀x,(X.env.kindOf x=some .cell∨X.env.kindOf x=some .free)→∃c,X.env.cells.lookup x=some c
 val:∀(i:Nat) (x:Str) (v:V),X.N[i]?=some x→σ[i]?=some (some v)→X.env.kindOf x=some .cell→∃c u,X.env.cells.lookup x=some c∧base'.IsCell c (some u)∧RelV v u
section
variable {X:Cx} {pins:List (Addr×Obj)} {σ:St} {H:Hp} {s:Shared}
noncomputable def ZhP (X:Cx):List Addr:=X.env.cells.filterMap fun p=>X.env.cells.lookup p.1
theorem Zn4 {x:Str} {c:Addr} (e:X.env.cells.lookup x=some c):c∈ZhP X:=List.mem_filterMap.mpr ⟨(x,c),PySem.mem_of_lookup e,e⟩
theorem Zkp {c:Addr} (h:c∈ZhP X):∃x,X.env.cells.lookup x=some c:=by
 obtain ⟨p,_,e⟩:=List.mem_filterMap.mp h
 exact ⟨p.1,e⟩
theorem ZnJ (I:Inv X pins σ H s) (hfn:∀x,X.fn x=true):Env0 X.prog X.w X.K X.mg (hidB s.heap X.base (ZhP X)) X.A X.stack s H∧Cells X σ (hidB s.heap X.base (ZhP X)):=by
 have cellK:∀x c v,X.env.cells.lookup x=some c→s.heap.IsCell c v→(hidB s.heap X.base (ZhP X)).IsCell c v:=fun x c v e ⟨o,ho,hd⟩=>⟨o,Zkb ho (.inr (Zn4 e)),hd⟩
 refine ⟨Env0.more I.env0 (fun b hb=>?_) fun b hb hf=>?_,⟨I.ok.inj,fun x c e=>?_,I.ok.has,fun i x v h1 h2 h3=>?_⟩⟩
 ·obtain ⟨x,e⟩:=Zkp hb
  exact I.freeC x b e
 ·obtain ⟨x,e⟩:=Zkp hb
  rcases List.mem_cons.mp (I.stkSub b hf) with z | z
  ·exact I.cne x b e z
  ·obtain ⟨_,o,ho,_⟩:=I.ok.funs.mem z
   exact absurd (Nat.lt_of_lt_of_le (Heap.lt_size ho) (I.ok.cab x b (hfn x) e)) (Nat.lt_irrefl _)
 ·obtain ⟨v,q⟩:=I.cell x c e
  exact ⟨v,cellK x c v e q⟩
 ·obtain ⟨m,_,hl⟩:=I.loc
  obtain ⟨u,r,l⟩:=hl i x v h1 h2 (.inr (.inl h3))
  rcases l with ⟨hk,_⟩ | ⟨_,c,hc,hcell⟩
  ·rw [h3] at hk;cases hk
  ·exact ⟨c,u,hc,cellK x c _ hc hcell,r⟩
theorem ZoB {x:Str} {p pos:Pos} {e:Expr} {es:List Expr} {t:TA} {k:Nat} {f:Addr} {fd:FuncData} {ps:List Str} {sp:Heap→Sp} (F:∀base,FnOk X.prog X.w X.K X.mg base CX0 k f fd ps (sp base)) (hfn:∀x,X.fn x=true) (hr:Room k X.A) (hg:Gl X x) (hm:X.mg x=some (.ref f)) (hk:PySem.W.keepIn X.K (.ref f)=true) (hb:ZcE X.K fd ps [])
  (ha:PA X (e::es) t) (hdb:(x==("__debug__" : Str))=false:=by decide) (he:starEach (e::es) X.env=(false,eval e X.env)::starEach es X.env:=by rfl) (hpl:(backTo pos (starEach es X.env)).any (·.1)=false:=by rfl) :
  PE X (.Call (.Name x p) (e::es) [] pos) (fun σ H Q=>t σ H fun vs H1=>∀base',Cells X σ base'→sp base' vs H1 Q E0):=by
 intro pins s σ H Q I h
 refine wpAny_Call_Name_kw (Zlw I hg hm ?_ hdb)
 refine PySem.W.callWith_K (h₀:=X.base) I.ok.mod.kin hk (thn (ha pos pins s σ H _ I h) fun us s1 ⟨vs,H1,I1,r,q⟩=>⟨I1.kIn,?_⟩) he hpl
 obtain ⟨e0,cs⟩:=ZnJ I1 hfn
 have q':=q _ cs
 have hl:(us ++ []).length=ps.length:=by rw [List.append_nil,←r.length];exact (F _).len _ _ _ _ q'
 refine wpAny_call (codeAny_mono ((F _).run X.A X.stack s1 H1 ⟨us,[]⟩ us vs Q E0 hr e0 (by have:=hb s1 us I1.kIn hl;rw [List.append_nil] at this;exact this) r q') fun r s' hq=>?_)
 cases r with
 | error e=>exact hq.elim
 | ok fl=>
  cases fl with
  | ret u=>exact I1.after hq
  | next=>exact False.elim hq
  | brk=>exact False.elim hq
  | cont=>exact False.elim hq
theorem ZoA {x:Str} {p pos:Pos} {e:Expr} {es:List Expr} {t:TA} {k i:Nat} (hf:PE X (.Name x p) (tVar i)) (hr:Room k X.A) (ha:PA X (e::es) t)
  (he:starEach (e::es) X.env=(false,eval e X.env)::starEach es X.env:=by rfl) (hpl:(backTo pos (starEach es X.env)).any (·.1)=false:=by rfl) :
  PE X (.Call (.Name x p) (e::es) [] pos) (fun σ H Q=>∃f fd ps sp,σ[i]?=some (some (.ref f))∧ZcE X.K fd ps []∧FnOk X.prog X.w X.K X.mg X.base CX0 k f fd ps sp∧(∀h:Heap,HOk X.prog X.w H h→X.K.In h→fnφ f fd h)∧
   t σ H fun vs H1=>(∀h:Heap,HOk X.prog X.w H1 h→X.K.In h→fnφ f fd h)∧sp vs H1 Q E0):=by
 intro pins s σ H Q I ⟨f,fd,ps,sp,e,hb,F,h0,h⟩
 refine wpAny_Call_Name_kw (thn (hf pins s σ H (fun v H'=>v=.ref f∧H'=H) I ⟨_,e,rfl,rfl⟩) fun u s1 ⟨v,H1,I1,rv,ev,eH⟩=>?_)
 subst ev eH
 cases (show u=Value.ref f from rv)
 have at1:∀{pins σ H s},Inv X pins σ H s→(∀h:Heap,HOk X.prog X.w H h→X.K.In h→fnφ f fd h)→PySem.W.FnAt f s.heap:=fun I z=>by
  obtain ⟨oc,od,sl,q⟩:=z _ I.hok I.kIn
  exact ⟨oc,od,fd,sl,q⟩
 refine PySem.W.callWith_F (at1 I1 h0) (thn (ha pos pins s1 σ _ _ I1 h) fun us s2 ⟨vs,H2,I2,r,h2,q⟩=>⟨at1 I2 h2,?_⟩) he hpl
 exact ZmX F hr hb .nil Zja I2 r (by rw [List.append_nil];exact q)
end
mutual
noncomputable def Za5:D→Bool
 | .tup ds=>Zbh ds
 | .lst ds=>Zbh ds
 | .clo _ _=>false
 | _=>true
noncomputable def Zbh:List D→Bool
 | []=>true
 | d::ds=>Za5 d&&Zbh ds
end
mutual
theorem Rep.re {G G':Gh} {H:Hp} (hf:G'.fp=G.fp) (hp:G'.pen=G.pen):∀{d:D} {v:V},Za5 d=true→Rep G H d v→Rep G' H d v
 | .non,_,_,h=>Rep.non_iff.mpr (Rep.non_iff.mp h)
 | .bl _,_,_,h=>Rep.bl_iff.mpr (Rep.bl_iff.mp h)
 | .int _,_,_,h=>Rep.int_iff.mpr (Rep.int_iff.mp h)
 | .str _,_,_,h=>Rep.str_iff.mpr (Rep.str_iff.mp h)
 | .tup ds,v,n,h=>by
  obtain ⟨a,vs,e1,nf,e2,r⟩:=Rep.tup_iff.mp h
  exact Rep.tup_iff.mpr ⟨a,vs,e1,by rw [hf];exact nf,e2,RepL.re hf hp (by simpa [Za5] using n) r⟩
 | .lst ds,v,n,h=>by
  obtain ⟨a,vs,e1,nf,e2,r⟩:=Rep.lst_iff.mp h
  exact Rep.lst_iff.mpr ⟨a,vs,e1,by rw [hf];exact nf,e2,RepL.re hf hp (by simpa [Za5] using n) r⟩
 | .dk _,_,_,h=>by
  obtain ⟨a,e1,nf,e2⟩:=Rep.dk_iff.mp h
  exact Rep.dk_iff.mpr ⟨a,e1,by rw [hf];exact nf,e2⟩
 | .dt _,_,_,h=>by
  obtain ⟨a,o,e1,nf,e2⟩:=Rep.dt_iff.mp h
  exact Rep.dt_iff.mpr ⟨a,o,e1,by rw [hf];exact nf,e2⟩
 | .du _,_,_,h=>by
  obtain ⟨a,e1,nf,e2⟩:=Rep.du_iff.mp h
  exact Rep.du_iff.mpr ⟨a,e1,by rw [hf];exact nf,e2⟩
 | .df _,_,_,h=>by
  obtain ⟨a,o,e1,nf,e2⟩:=Rep.df_iff.mp h
  exact Rep.df_iff.mpr ⟨a,o,e1,by rw [hf];exact nf,e2⟩
 | .pen,_,_,h=>Rep.pen_iff.mpr ((Rep.pen_iff.mp h).trans hp.symm)
 | .ty _,_,_,h=>Rep.ty_iff.mpr (Rep.ty_iff.mp h)
 | .clo _ _,_,n,_=>by simp [Za5] at n
theorem RepL.re {G G':Gh} {H:Hp} (hf:G'.fp=G.fp) (hp:G'.pen=G.pen):∀{ds:List D} {vs:List V},Zbh ds=true→RepL G H ds vs→RepL G' H ds vs
 | [],_,_,h=>RepL.nil_iff.mpr (RepL.nil_iff.mp h)
 | d::ds,vs,n,h=>by
  obtain ⟨v,r,e,h1,h2⟩:=RepL.cons_iff.mp h
  have n':Za5 d=true∧Zbh ds=true:=by simpa [Zbh] using n
  exact RepL.cons_iff.mpr ⟨v,r,e,Rep.re hf hp n'.1 h1,RepL.re hf hp n'.2 h2⟩
end
theorem Gr.re {G G':Gh} {Hf H Hf' H':Hp} (hf:G'.fp=G.fp) (g:Gr G Hf H Hf' H'):Gr G' Hf H Hf' H':=
 ⟨fun b o n=>g.hh b o (by rw [←hf];exact n),fun b o n=>g.ff b o (by rw [←hf];exact n),fun b o n=>g.fh b o (by rw [←hf];exact n),fun b n=>g.nw b (by rw [←hf];exact n)⟩
theorem Ext.re {G G':Gh} {H H':Hp} (hf:G'.fp=G.fp) (g:Ext G H H'):Ext G' H H':=fun b o n=>g b o (by rw [←hf];exact n)
theorem ZaG.re {G G':Gh} {H Hf':Hp} {d:D} {v:V} (hf:G'.fp=G.fp) (hp:G'.pen=G.pen) (n:Za5 d=true) (h:ZaG G H Hf' d v):ZaG G' H Hf' d v:=fun a e m=>by
 obtain ⟨h1,h2⟩:=h a e m
 refine ⟨h1,fun ds ed=>?_⟩
 obtain ⟨vs,Hm,q1,q2,q3,q4⟩:=h2 ds ed
 subst ed
 exact ⟨vs,Hm,q1,q2,q3.re hf,q4.re hf hp (by simpa [Za5] using n)⟩
noncomputable def spK (n:Nat) (G:Gh) (cvs:List V) (F:List D→M D):Sp:=fun us H Q _=>∃(Hf:Hp) (ds cds:List D) (s:Pn) (d:D) (s':Pn),us.length=n∧Ext G Hf H∧RepL G Hf ds us∧RepL G Hf cds cvs∧G.st s H∧F (ds++cds) s=some (d,s')∧
 ∀v Hf' H',Gr G Hf H Hf' H'→G.st s' H'→Rep G Hf' d v→Q v H'
noncomputable def CloG (P:Program) (w:World) (K:PySem.W.Frag) (mg:Str→Option Value) (k n:Nat) (T:Nat→List D→M D) (base:Heap) (G:Gh):Prop:=
 ∀t v cvs,G.clo t v cvs→∃f fd ps,v=.ref f∧ps.length=n∧ZcE K fd ps []∧(∀s H,G.st s H→∀h:Heap,HOk P w H h→K.In h→fnφ f fd h)∧FnOk P w K mg base CX0 k f fd ps (spK n G cvs (T t))
noncomputable def dApp (T:Nat→List D→M D) (i:Nat) (fs:Rho→M (List D)):Rho→M D:=fun ρ=>Zan (dVar i ρ) fun c=>Zan (fs ρ) fun ds=>match c with | .clo t cds=>T t (ds++cds) | _=>Zau
theorem ZnZ {i:Nat} {ρ:Rho} {s s':Pn} {d:D} (h:dVar i ρ s=some (d,s')):ρ[i]?=some (some d)∧s'=s:=by
 obtain ⟨e,rfl⟩:=ZbE h
 refine ⟨?_,rfl⟩
 cases q:ρ[i]? with
 | none=>rw [q] at e;cases e
 | some o=>rw [q] at e;simp at e;rw [e]
section
variable {X:Cx} {G:Gh}
theorem ZoJ {T:Nat→List D→M D} {k n i:Nat} {x:Str} {p pos:Pos} {e:Expr} {es:List Expr} {fs:Rho→M (List D)} (hG:CloG X.prog X.w X.K X.mg k n T X.base G) (hr:Room k X.A) (hf:PE X (.Name x p) (tVar i)) (ha:PDA X G (e::es) fs)
  (hal:∀ρ s ds s',fs ρ s=some (ds,s')→ds.length=(e::es).length) (hlen:(e::es).length=n:=by rfl)
  (he:starEach (e::es) X.env=(false,eval e X.env)::starEach es X.env:=by rfl) (hpl:(backTo pos (starEach es X.env)).any (·.1)=false:=by rfl) :
  PD X G false (.Call (.Name x p) (e::es) [] pos) (dApp T i fs):=by
 obtain ⟨t,pa,qa⟩:=ha
 refine ⟨_,ZoA hf hr pa he hpl,fun σ Hf H ρ s d s' Q e1 e2 e3 e4 k=>?_⟩
 obtain ⟨c,s0,b0,b1⟩:=Zah e4
 obtain ⟨a0,rfl⟩:=ZnZ b0
 obtain ⟨ds,s1,a1,a2⟩:=Zah b1
 cases c with
 | clo t cds=>
  obtain ⟨v,hσ,r⟩:=e2 i _ a0
  obtain ⟨cvs,hc,rc⟩:=Rep.clo_iff.mp r
  obtain ⟨f,fd,ps,rfl,hl,hb,hat,F⟩:=hG t v cvs hc
  refine ⟨f,fd,ps,_,hσ,hb,F,hat _ H e3,qa σ Hf H ρ _ ds s1 _ e1 e2 e3 a1 fun vs Hf1 H1 g1 st1 r1=>⟨hat _ H1 st1,Hf1,ds,cds,s1,d,s',?_,g1.fh,r1,rc.ext g1.ff,st1,a2,fun v Hf2 H2 g2 st2 r2=>k v Hf2 H2 (g1.trans g2) st2 r2 (fun z=>by cases z)⟩⟩
  rw [←r1.length,hal _ _ _ _ a1];exact hlen
 | _=>cases a2
end
noncomputable def runE (n:Nat) (f:Rho→M D):List D→M D:=fun ds=>if ds.length=n then f (ds.map some) else Zau
theorem ZqS {G:Gh} {Hf:Hp} {ds:List D} {vs:List V} (r:RepL G Hf ds vs):EnvR G Hf (vs.map some) (ds.map some):=fun i d e=>by
 rw [List.getElem?_map] at e
 cases q:ds[i]? with
 | none=>rw [q] at e;cases e
 | some d'=>
  rw [q] at e;cases e
  obtain ⟨v,h1,h2⟩:=r.get q
  exact ⟨v,by rw [List.getElem?_map,h1];rfl,h2⟩
theorem fnKE {P:Program} {w:World} {K:PySem.W.Frag} {mg:Str→Option Value} {base:Heap} {k:Nat} {f:Addr} {name qual:Str} {params:Arguments} {body:Expr} {scope:Scope} {cl:List (Str×Addr)} {pm ct:Value} {c':Addr} {N ps:List Str} {cvs:List V} {G:Gh} {fr:Bool} {fe:Rho→M D}
  (S:CloScope N ps scope) (C:CloAt base cl scope N ps cvs) (hG:∀s H,G.st s H→H f=some (.ext (fnφ f (PySem.W.kla_fn name qual params body scope cl pm (.ref c') ct)))∧H c'=some (.ext (codeφ c' qual)))
  (hb:∀(A:Around) (outer:List Env) (s:Shared) (H:Hp) (E:XK),Room k (A.deeper (PySem.W.envX qual scope s.heap.objs.size f (.ref c') cl))→PD (cxC CX0 P w K mg base N qual scope f (.ref c') cl A outer s H E).nox G fr body fe) :
  FnOk P w K mg base CX0 (k+1) f (PySem.W.kla_fn name qual params body scope cl pm (.ref c') ct) ps (spK ps.length G cvs (runE N.length fe)):=by
 refine ZqP (cvs:=cvs) S C (fun vs H Q E ⟨_,_,_,_,_,_,h,_⟩=>h) (fun vs H Q E ⟨_,_,_,s,_,_,_,_,_,_,st,_⟩=>hG s H st) fun A outer s H vs Q E hr h=>?_
 obtain ⟨Hf,ds,cds,pn,d,pn',el,e1,r1,r2,st,eF,k'⟩:=h
 obtain ⟨t,p,q⟩:=hb A outer s H E hr
 refine ⟨t,p.nox,?_⟩
 obtain ⟨hl,a0⟩:=Za4 eF
 have env:=ZqS (r1.append r2)
 rw [List.map_append] at env
 exact q _ Hf H _ pn d pn' Q e1 env st a0 fun v Hf' H' g st' r _=>k' v Hf' H' g st' r
structure TabG (P:Addr) (q:Str) (G:Gh):Prop where
 get:∀s H,G.st s H→∃ps,H P=some (.tbl ps)∧TriplesOk ps.toList∧∀pos cv,codeAmong pos ps.toList=some cv→∃c',cv=.ref c'∧H c'=some (.ext (codeφ c' q))∧¬G.fp c'
 fp:G.fp P
 put:∀s H ps (pos:Pos) c',G.st s H→H P=some (.tbl ps)→H c'=none→codeAmong pos ps.toList=none→G.st s (upd (upd H P (.tbl (ps ++ #[rawInt pos.line,rawInt pos.col,.ref c']))) c' (.ext (codeφ c' q)))
noncomputable def cloG (G:Gh) (t:Nat) (p c':Addr) (fd:FuncData) (q:Str) (cvs:List V):Gh where
 fp:=G.fp
 rd:=G.rd
 pen:=G.pen
 st:=fun s H=>G.st s H∧H p=some (.ext (fnφ p fd))∧H c'=some (.ext (codeφ c' q))
 mono:=fun s H H' ⟨h1,h2,h3⟩ k1 k2=>⟨G.mono s H H' h1 k1 k2,k2 _ _ h2,k2 _ _ h3⟩
 sub:=G.sub
 dom:=fun s H b h=>G.dom s H b h.1
 ntp:=fun s H b vs h=>G.ntp s H b vs h.1
 clo:=fun t' v cs=>t'=t∧v=.ref p∧cs=cvs
noncomputable def CalA (P:Program) (w:World) (K:PySem.W.Frag) (mg:Str→Option Value) (k:Nat) (x:Str) (n:Nat) (fr:Bool) (GG:Heap→Gh→Prop) (F:List D→M D):Prop:=
 ∃f fd ps,(∀base,FnOk P w K mg base CX0 k f fd ps (spD n fr (GG base) F))∧mg x=some (.ref f)∧PySem.W.keepIn K (.ref f)=true∧ZcE K fd ps []
theorem CalA.mono {P:Program} {w:World} {K:PySem.W.Frag} {mg:Str→Option Value} {j k:Nat} {x:Str} {n:Nat} {fr:Bool} {GG:Heap→Gh→Prop} {F:List D→M D} (c:CalA P w K mg j x n fr GG F) (h:j≤k:=by decide):CalA P w K mg k x n fr GG F:=
 let ⟨f,fd,ps,a,b,c,d⟩:=c
 ⟨f,fd,ps,fun base=>(a base).mono h,b,c,d⟩
structure CapS (X:Cx) (XN:List Str) (NS:List (Str×NameKind)) (N ps:List Str) (cix:List Nat) (scope:Scope):Prop where
 xn:X.N=XN
 ns:X.env.scope.names=NS
 len:N.length=ps.length+cix.length
 at_:(cix.zip (N.drop ps.length)).all (fun p=>decide (XN[p.1]?=some p.2)&&decide (NS.lookup p.2=some .cell)&&decide (scope.names.lookup p.2=some .free))=true
 free:∀y∈scope.names,y.2=.free→NS.lookup y.1=some .cell∨NS.lookup y.1=some .free
theorem CapS.hfree {X:Cx} {XN:List Str} {NS:List (Str×NameKind)} {N ps:List Str} {cix:List Nat} {scope:Scope} (B:CapS X XN NS N ps cix scope):∀y∈scope.names,y.2=.free→X.env.kindOf y.1=some .cell∨X.env.kindOf y.1=some .free:=fun y hy hf=>by
 have:=B.free y hy hf
 rw [←B.ns] at this
 exact this
theorem CapS.cloAt {X:Cx} {XN:List Str} {NS:List (Str×NameKind)} {N ps:List Str} {cix:List Nat} {scope:Scope} {σ:St} {base':Heap} {cl:List (Str×Addr)} {cvs:List V} (B:CapS X XN NS N ps cix scope) (cs:Cells X σ base') (co:CloOf X scope cl) (hl:cvs.length=cix.length)
  (hv:∀(i j:Nat) (v:V),cix[i]?=some j→cvs[i]?=some v→σ[j]?=some (some v)):CloAt base' cl scope N ps cvs:=by
 refine ⟨fun x y c h1 h2=>cs.inj x y c (co.of x c h1) (co.of y c h2),fun x c h=>cs.cell x c (co.of x c h),fun x h=>co.has (x,.free) (PySem.mem_of_lookup h) rfl,fun i x v h1 h2=>?_,by rw [B.len,hl]⟩
 have hi:i<cix.length:=by rw [←hl];exact (List.getElem?_eq_some_iff.mp h2).1
 have hj:cix[i]?=some cix[i]:=List.getElem?_eq_getElem hi
 have hx:(N.drop ps.length)[i]?=some x:=by rw [List.getElem?_drop];exact h1
 have q:=List.all_eq_true.mp B.at_ (cix[i],x) (List.mem_of_getElem? (i:=i) (List.getElem?_zip_eq_some.mpr ⟨hj,hx⟩))
 simp only [Bool.and_eq_true,decide_eq_true_eq] at q
 obtain ⟨⟨q1,q2⟩,q3⟩:=q
 refine ⟨q3,?_⟩
 obtain ⟨c,u,e1,e2,e3⟩:=cs.val cix[i] x v (by rw [B.xn];exact q1) (hv i _ v hj h2) (by show X.env.scope.names.lookup x=_;rw [B.ns];exact q2)
 obtain ⟨c2,e4⟩:=co.has (x,.free) (PySem.mem_of_lookup q3) rfl
 have e5:=co.of x c2 e4
 rw [e1] at e5;cases e5
 exact ⟨c,u,e4,e2,e3⟩
noncomputable def Zgy (ρ:Rho):List Nat→Option (List D)
 | []=>some []
 | i::r=>((ρ[i]?).bind id).bind fun d=>(Zgy ρ r).map (d :: ·)
theorem Zkq {G:Gh} {Hf:Hp} {σ:St} {ρ:Rho} (e:EnvR G Hf σ ρ):∀{cix:List Nat} {cds:List D},Zgy ρ cix=some cds→∃cvs,cvs.length=cix.length∧RepL G Hf cds cvs∧∀(i j:Nat) (v:V),cix[i]?=some j→cvs[i]?=some v→σ[j]?=some (some v)
 | [],cds,h=>by cases h;exact ⟨[],rfl,RepL.nil_iff.mpr rfl,fun i j v h1=>by simp at h1⟩
 | a::r,cds,h=>by
  unfold Zgy at h
  cases q:(ρ[a]?).bind id with
  | none=>rw [q] at h;cases h
  | some d=>
   rw [q] at h
   cases q2:Zgy ρ r with
   | none=>rw [q2] at h;cases h
   | some ds=>
    rw [q2] at h;cases h
    obtain ⟨v,h1,h2⟩:=e a d (by
     cases q3:ρ[a]? with
     | none=>rw [q3] at q;cases q
     | some o=>rw [q3] at q;simp at q;rw [q])
    obtain ⟨cvs,l1,l2,l3⟩:=Zkq e q2
    refine ⟨v::cvs,by simp [l1],RepL.cons h2 l2,fun i j u e1 e2=>?_⟩
    cases i with
    | zero=>simp at e1 e2;subst e1;subst e2;exact h1
    | succ i=>exact l3 i j u (by simpa using e1) (by simpa using e2)
noncomputable def dFnC (F:List D→M D) (t:Nat) (cix:List Nat) (f:Rho→M D):Rho→M D:=fun ρ=>Zan (f ρ) fun d=>Zan (mOf (Zgy ρ cix)) fun cds=>if (Za5 d&&Zbh cds)=true then Zan (F [d,.clo t cds]) fun c=>if Za5 c=true then mret c else Zau else Zau
section
variable {X:Cx} {G:Gh} {P c:Addr} {q:Str}
theorem Zp0 {lpos:Pos} {ps:Array Value} {H Hm:Hp} {c':Addr} {s:Pn} (TG:TabG P q G) (st:G.st s H) (hP:H P=some (.tbl ps)) (sl:Slot P q lpos ps H Hm c'):G.st s Hm∧Hm c'=some (.ext (codeφ c' q))∧Ext G H Hm:=by
 rcases sl with ⟨rfl,h1,h2⟩ | ⟨h1,h2,h3,rfl⟩
 ·exact ⟨st,h2,.refl _ _⟩
 ·refine ⟨TG.put s H ps lpos c' st hP h2 h1,Zaq,fun b o n e=>?_⟩
  rw [Zaj (Zas e h2),Zaj (fun z=>n (by rw [z];exact TG.fp))]
  exact e
theorem ZqB {Hf H Hm:Hp} {p:Addr} {o:HO} (e1:Ext G Hf H) (ex:Ext G H Hm) (hp:Hm p=none):Gr G Hf H Hf (upd Hm p o):=by
 have hh:Ext G H (upd Hm p o):=fun b u n e=>by
  have:=ex b u n e
  rw [Zaj (Zas this hp)];exact this
 exact ⟨hh,.refl _ _,e1.trans hh,fun _ _ h _=>h⟩
theorem Zr3 {base':Heap} {k:Nat} {T:Nat→List D→M D} {t:Nat} {p c':Addr} {fd:FuncData} {cvs:List V} {ps:List Str} {F:List D→M D} (hb:ZcE X.K fd ps []) (hF:FnOk X.prog X.w X.K X.mg base' CX0 k p fd ps (spK ps.length (cloG G t p c' fd q cvs) cvs F)) (hT:T t=F) :
  CloG X.prog X.w X.K X.mg k ps.length T base' (cloG G t p c' fd q cvs):=by
 rintro t' v cs ⟨rfl,rfl,rfl⟩
 exact ⟨p,fd,ps,rfl,rfl,hb,fun s H st h ok _=>fnφ_at ok st.2.1,by rw [hT];exact hF⟩
variable {k kl:Nat} {x:Str} {fr frb:Bool} {F:List D→M D} {T:Nat→List D→M D} {t:Nat} {e1:Expr} {f1:Rho→M D} {r1:Bool} {params:Arguments} {scope:Scope} {lpos ppos pos:Pos} {XN N ps:List Str} {NS:List (Str×NameKind)} {cix:List Nat}
theorem ofC {t:Nat} {p c':Addr} {fd:FuncData} {cvs:List V} {H:Hp} {d:D} {v:V} (n:Za5 d=true) (r:Rep (cloG G t p c' fd q cvs) H d v):Rep G H d v:=Rep.re (G:=cloG G t p c' fd q cvs) (G':=G) rfl rfl n r
theorem toC {t:Nat} {p c':Addr} {fd:FuncData} {cvs:List V} {H:Hp} {d:D} {v:V} (n:Za5 d=true) (r:Rep G H d v):Rep (cloG G t p c' fd q cvs) H d v:=Rep.re (G:=G) (G':=cloG G t p c' fd q cvs) rfl rfl n r
theorem toCL {t:Nat} {p c':Addr} {fd:FuncData} {cvs:List V} {H:Hp} {d:List D} {v:List V} (n:Zbh d=true) (r:RepL G H d v):RepL (cloG G t p c' fd q cvs) H d v:=RepL.re (G:=G) (G':=cloG G t p c' fd q cvs) rfl rfl n r
theorem grC {t:Nat} {p c':Addr} {fd:FuncData} {cvs:List V} {Hf H Hf' H':Hp} (g:Gr (cloG G t p c' fd q cvs) Hf H Hf' H'):Gr G Hf H Hf' H':=Gr.re (G:=cloG G t p c' fd q cvs) (G':=G) rfl g
theorem frC {t:Nat} {p c':Addr} {fd:FuncData} {cvs:List V} {H Hf':Hp} {d:D} {v:V} (n:Za5 d=true) (h:ZaG (cloG G t p c' fd q cvs) H Hf' d v):ZaG G H Hf' d v:=ZaG.re (G:=cloG G t p c' fd q cvs) (G':=G) rfl rfl n h
theorem Zhr {body:Expr} {fe:Rho→M D} (M:Mk0 X c P) (TG:TabG P q G) (hW:CalA X.prog X.w X.K X.mg k x 2 fr (CloG X.prog X.w X.K X.mg (kl+1) ps.length T) F) (hfn:∀x,X.fn x=true) (hr:Room k X.A) (hg:Gl X x) (h1:PD X G r1 e1 f1)
  (hq:X.env.qual ++ "<lambda>" = q) (S:CloScope N ps scope) (B:CapS X XN NS N ps cix scope) (hT:T t=runE N.length fe)
  (hbind:∀(cl:List (Str×Addr)) (pm cd ct:Value) (us:List Value),us.length=ps.length→bindArgs (PySem.W.kla_fn "<lambda>" q params body scope cl pm cd ct) ⟨us,[]⟩=pure (ps.zip us))
  (hb:∀(base:Heap) (f c':Addr) (cl:List (Str×Addr)) (G:Gh) (A:Around) (outer:List Env) (s:Shared) (H:Hp) (E:XK),Room kl (A.deeper (PySem.W.envX q scope s.heap.objs.size f (.ref c') cl))→PD (cxC CX0 X.prog X.w X.K X.mg base N q scope f (.ref c') cl A outer s H E).nox G frb body fe)
  (hdef:defaultsOf params X.env=([],[]):=by rfl) (hdb:(x==("__debug__" : Str))=false:=by decide)
  (he:starEach [e1,.Lambda params body scope lpos] X.env=(false,eval e1 X.env)::starEach [.Lambda params body scope lpos] X.env:=by rfl) (he2:starEach [Expr.Lambda params body scope lpos] X.env=(false,eval (.Lambda params body scope lpos) X.env)::starEach [] X.env:=by rfl)
  (hpl:(backTo pos (starEach [Expr.Lambda params body scope lpos] X.env)).any (·.1)=false:=by rfl) :
  PD X G fr (.Call (.Name x ppos) [e1,.Lambda params body scope lpos] [] pos) (dFnC F t cix f1):=by
 obtain ⟨t1,p1,q1⟩:=h1.drop
 obtain ⟨f,fd0,ps0,FN,hm,hk,hbd⟩:=hW
 refine ⟨_,ZoB FN hfn hr hg hm hk hbd (Za0 p1 (Za0 (Zrn M hq B.hfree hdef) Zbg he2) he) hdb he hpl,fun σ Hf H ρ s d s' Q x1 x2 x3 x4 k=>?_⟩
 obtain ⟨d1,s1,a1,a2⟩:=Zah x4
 obtain ⟨cds,s2,b3,a4⟩:=Zah a2
 obtain ⟨a3,rfl⟩:=ZbE b3
 obtain ⟨hn,a5⟩:=Za4 a4
 obtain ⟨cc,s3,a6,a7⟩:=Zah a5
 obtain ⟨hn2,a8⟩:=Za4 a7
 obtain ⟨rfl,rfl⟩:=Zao a8
 obtain ⟨hn0,hn1⟩:=Bool.and_eq_true_iff.mp hn
 refine q1 σ Hf H ρ s d1 _ _ x1 x2 x3 a1 fun v1 Hf1 H1 g1 st1 rv1=>?_
 obtain ⟨tp,hP,htr,hhit⟩:=TG.get _ H1 st1
 refine ⟨tp,hP,htr,fun cv h=>let ⟨c',z1,z2,_⟩:=hhit lpos cv h;⟨c',z1,z2⟩,fun p c' fd Hm ⟨cl,pm,ctv,co,efd⟩ sl hp=>?_⟩
 subst efd
 obtain ⟨stm,hc',ex⟩:=Zp0 TG st1 hP sl
 have gr:=ZqB (o:=.ext (fnφ p (PySem.W.kla_fn "<lambda>" q params body scope cl pm (.ref c') ctv))) g1.fh ex hp
 have hcp:c'≠p:=fun z=>by rw [z,hp] at hc';cases hc'
 obtain ⟨cvs,l1,l2,l3⟩:=Zkq (x2.ext g1.ff) a3
 intro base' cs
 have C:CloAt base' cl scope N ps cvs:=B.cloAt cs co l1 l3
 refine ⟨cloG G t p c' (PySem.W.kla_fn "<lambda>" q params body scope cl pm (.ref c') ctv) q cvs,Hf1,[d1,.clo t cds],_,d,_,Zr3 (X:=X) (.all (hbind cl pm (.ref c') ctv)) (fnKE S C (fun s H st=>st.2) fun A outer s H E hr=>hb base' p c' cl _ A outer s H E hr) hT,rfl,gr.fh,?_,⟨Gh.grow stm hp,Zaq,by rw [Zaj hcp];exact hc'⟩,a6,fun v Hf3 H3 g3 st3 r3 fz=>?_⟩
 ·refine .cons (toC hn0 rv1) (.one (Rep.clo_iff.mpr ⟨cvs,⟨rfl,rfl,rfl⟩,toCL hn1 l2⟩))
 ·have g3':Gr G Hf1 _ Hf3 H3:=grC g3
  have gg:=(g1.trans gr).trans g3'
  have rr:Rep G Hf3 d v:=ofC hn2 r3
  refine k v Hf3 H3 gg st3.1 rr fun z=>?_
  exact ZaG.old (g1.hh.trans gr.hh) rr.nofp (frC hn2 (fz z))
end
theorem boot_len:bootBuiltins "len" = some (.builtin "len"):=by decide +kernel
theorem boot_isinstance:bootBuiltins "isinstance" = some (.builtin "isinstance"):=by decide +kernel
theorem boot_all:bootBuiltins "all" = some (.builtin "all"):=by decide +kernel
theorem boot_max:bootBuiltins "max" = some (.builtin "max"):=by decide +kernel
theorem boot_min:bootBuiltins "min" = some (.builtin "min"):=by decide +kernel
theorem boot_set:bootBuiltins "set" = some (.type "set"):=by decide +kernel
theorem boot_sorted:bootBuiltins "sorted" = some (.builtin "sorted"):=by decide +kernel
theorem boot_tuple:bootBuiltins "tuple" = some (.type "tuple"):=by decide +kernel
theorem boot_list:bootBuiltins "list" = some (.type "list"):=by decide +kernel
theorem boot_int:bootBuiltins "int" = some (.type "int"):=by decide +kernel
theorem boot_bool:bootBuiltins "bool" = some (.type "bool"):=by decide +kernel
theorem boot_dict:bootBuiltins "dict" = some (.type "dict"):=by decide +kernel
noncomputable abbrev AnyG:Gh→Prop:=fun _=>True
noncomputable def ZpJ (G:Gh) (ob own own':List Nat) (fr:Bool) (g:Rho→M Out):TS:=fun E σ H=>∃kn Hf0 H0 ρ s out s',J G own kn Hf0 H0 σ H ρ∧G.st s H∧g ρ s=some (out,s')∧Post G ob own' kn Hf0 H0 fr out s' E
end TF
namespace TF
open PySem L2
noncomputable def Ok {α:Type} (m:M α) (s:Pn) (Q:α→Pn→Prop):Prop:=∃a s',m s=some (a,s')∧Q a s'
theorem Ok.bind {α β:Type} {m:M α} {k:α→M β} {s:Pn} {Q:β→Pn→Prop} (h:Ok m s fun a s1=>Ok (k a) s1 Q):Ok (Zan m k) s Q:=by
 obtain ⟨a,s1,e,b,s2,e2,q⟩:=h
 exact ⟨b,s2,by unfold Zan;rw [e];exact e2,q⟩
theorem Ok.ret {α:Type} {a:α} {s:Pn} {Q:α→Pn→Prop} (h:Q a s):Ok (mret a) s Q:=⟨a,s,rfl,h⟩
theorem Ok.eq {α:Type} {m:M α} {s s':Pn} {a:α} {Q:α→Pn→Prop} (e:m s=some (a,s')) (h:Q a s'):Ok m s Q:=⟨a,s',e,h⟩
theorem Ok.mono {α:Type} {m:M α} {s:Pn} {Q Q':α→Pn→Prop} (h:Ok m s Q) (k:∀a s',Q a s'→Q' a s'):Ok m s Q':=let ⟨a,s',e,q⟩:=h;⟨a,s',e,k a s' q⟩
theorem Ok.of {α:Type} {o:Option α} {a:α} {s:Pn} {Q:α→Pn→Prop} (e:o=some a) (h:Q a s):Ok (mOf o) s Q:=⟨a,s,by unfold mOf;rw [e],h⟩
theorem Ok.ite {α:Type} {c:Prop} [Decidable c] {m:M α} {s:Pn} {Q:α→Pn→Prop} (hc:c) (h:Ok m s Q):Ok (if c then m else Zau) s Q:=by rw [if_pos hc];exact h
section
variable {ρ:Rho} {s:Pn} {Q:Out→Pn→Prop} {f:Rho→M D} {g1 g2:Rho→M Out}
theorem Ok.seq (h:Ok (g1 ρ) s fun o s1=>match o with | .nx ρ'=>Ok (g2 ρ') s1 Q | .rt d=>Q (.rt d) s1 | .bk ρ'=>Q (.bk ρ') s1 | .ct ρ'=>Q (.ct ρ') s1):Ok (sSeq g1 g2 ρ) s Q:=by
 refine Ok.bind (h.mono fun o s1 q=>?_)
 cases o with
 | nx ρ'=>exact q
 | rt d=>exact .ret q
 | bk ρ'=>exact .ret q
 | ct ρ'=>exact .ret q
theorem Ok.next (h:Q (.nx ρ) s):Ok (Zap ρ) s Q:=.ret h
theorem Ok.sset {i:Nat} (h:Ok (f ρ) s fun d s1=>Q (.nx (ρ.set i (some d))) s1):Ok (sSet i f ρ) s Q:=.bind (h.mono fun _ _ q=>.ret q)
theorem Ok.sown {i:Nat} (h:Ok (f ρ) s fun d s1=>Zf4 d=true∧Q (.nx (ρ.set i (some d))) s1):Ok (sOwn i f ρ) s Q:=.bind (h.mono fun _ _ q=>.ite q.1 (.ret q.2))
theorem Ok.sret (h:Ok (f ρ) s fun d s1=>Q (.rt d) s1):Ok (sRet f ρ) s Q:=.bind (h.mono fun _ _ q=>.ret q)
theorem Ok.sif {c:Rho→M Bool} (h:Ok (c ρ) s fun b s1=>if b=true then Ok (g1 ρ) s1 Q else Ok (g2 ρ) s1 Q):Ok (sIf c g1 g2 ρ) s Q:=by
 refine .bind (h.mono fun b s1 q=>?_)
 cases b with
 | true=>simpa using q
 | false=>simpa using q
theorem Ok.sapp {i:Nat} {ds:List D} (hi:(ρ[i]?).bind id=some (.lst ds)) (hl:ds.length<sizeLine) (h:Ok (f ρ) s fun d s1=>Q (.nx (ρ.set i (some (.lst (ds ++ [d]))))) s1):Ok (sApp i f ρ) s Q:=by
 refine .bind (h.mono fun d s1 q=>?_)
 simp only [hi]
 exact .ite hl (.ret q)
theorem Ok.loop {τ:D→Rho→Option Rho} {body:Rho→M Out} (I:Nat→Rho→Pn→Prop):∀(ds:List D) (k:Nat) (ρ:Rho) (s:Pn),I k ρ s→
  (∀i d ρ s,ds[i]?=some d→I (k+i) ρ s→∃ρ1,τ d ρ=some ρ1∧Ok (body ρ1) s fun o s'=>∃ρ',o=.nx ρ'∧I (k+i+1) ρ' s')→Ok (mFor τ body ds ρ) s fun o s'=>∃ρ',o=.nx ρ'∧I (k+ds.length) ρ' s'
 | [],k,ρ,s,h0,_=>.ret ⟨ρ,rfl,h0⟩
 | d::ds,k,ρ,s,h0,h=>by
  obtain ⟨ρ1,e1,ok⟩:=h 0 d ρ s rfl h0
  refine Ok.bind (.of e1 (.bind (ok.mono fun o s' q=>?_)))
  obtain ⟨ρ',rfl,q⟩:=q
  refine (Ok.loop I ds (k+1) ρ' s' q fun i d' ρ2 s2 e2 q2=>?_).mono fun o s2 q2=>?_
  ·have:=h (i+1) d' ρ2 s2 (by simpa using e2) (by rw [show k+(i+1)=k+1+i by omega];exact q2)
   rw [show k+(i+1)+1=k+1+i+1 by omega] at this
   exact this
  ·rw [show k+(d::ds).length=k+1+ds.length by simp;omega]
   exact q2
theorem Ok.sfor {fi:Rho→M (List D)} {τ:D→Rho→Option Rho} {body:Rho→M Out} (I:Nat→Rho→Pn→Prop) (h:Ok (fi ρ) s fun ds s1=>I 0 ρ s1∧(∀i d ρ s,ds[i]?=some d→I i ρ s→∃ρ1,τ d ρ=some ρ1∧Ok (body ρ1) s fun o s'=>∃ρ',o=.nx ρ'∧I (i+1) ρ' s')∧
  ∀ρ' s',I ds.length ρ' s'→Q (.nx ρ') s'):Ok (sFor fi τ body ρ) s Q:=by
 refine .bind (h.mono fun ds s1 q=>?_)
 obtain ⟨q0,q1,q2⟩:=q
 refine (Ok.loop I ds 0 ρ s1 q0 fun i d ρ s e=>?_).mono fun o s' q=>?_
 ·rw [Nat.zero_add];exact q1 i d ρ s e
 ·obtain ⟨ρ',rfl,q⟩:=q
  rw [Nat.zero_add] at q
  exact q2 ρ' s' q
end
section
variable {ρ ρ':Rho} {s s1 s2:Pn} {f f2:Rho→M D} {g1 g2:Rho→M Out} {d e c:D} {r:Option (Out×Pn)}
theorem Za3 {n k:Nat} {g:Rho→M Out} {ds:List D} (hl:ds.length=k) (h:g (ds.map some++List.replicate (n-k) none) s=some (.rt d,s1)):runB n k g ds s=some (d,s1):=by
 unfold runB
 rw [if_pos hl]
 unfold Zan
 rw [h]
 rfl
theorem ZaY (h:f ρ s=some (d,s1)):sRet f ρ s=some (.rt d,s1):=by unfold sRet Zan;rw [h];rfl
theorem ZaD (h:g1 ρ s=some (.rt d,s1)):sSeq g1 g2 ρ s=some (.rt d,s1):=by unfold sSeq Zan;rw [h];rfl
theorem ZaX (h:g1 ρ s=some (.nx ρ',s1)) (h2:g2 ρ' s1=r):sSeq g1 g2 ρ s=r:=by unfold sSeq Zan;rw [h];exact h2
theorem ZbD {i:Nat} (h:f ρ s=some (d,s1)):sSet i f ρ s=some (.nx (ρ.set i (some d)),s1):=by unfold sSet Zan;rw [h];rfl
theorem Zam {g:D→D→Option D} (h1:f ρ s=some (d,s1)) (h2:f2 ρ s1=some (e,s2)) (h:g d e=some c):dOp g f f2 ρ s=some (c,s2):=by
 unfold dOp Zan;rw [h1];simp only;rw [h2];simp only;unfold mOf;rw [h]
theorem ZaO {g:List D→Option D} {fs:Rho→M (List D)} {ds:List D} (h1:fs ρ s=some (ds,s1)) (h:g ds=some c):Zay g fs ρ s=some (c,s1):=by
 unfold Zay Zan;rw [h1];simp only;unfold mOf;rw [h]
theorem ZaL {F:List D→M D} {fs:Rho→M (List D)} {ds:List D} {q:Option (D×Pn)} (h1:fs ρ s=some (ds,s1)) (h:F ds s1=q):dFn F fs ρ s=q:=by
 unfold dFn Zan;rw [h1];exact h
theorem Zae {fs:Rho→M (List D)} {ds:List D} (h1:f ρ s=some (d,s1)) (h2:fs ρ s1=some (ds,s2)):Zaa f fs ρ s=some (d::ds,s2):=by
 unfold Zaa Zan;rw [h1];simp only;rw [h2];rfl
theorem ZbR {fs:Rho→M (List D)} {ds:List D} (h1:fs ρ s=some (ds,s1)) (hl:ds.length≤sizeLine):dTup fs ρ s=some (.tup ds,s1):=by
 unfold dTup Zan;rw [h1];simp only;rw [if_pos hl];rfl
theorem ZfY {fs:Rho→M (List D)} {ds:List D} (h1:fs ρ s=some (ds,s1)) (hl:ds.length≤sizeLine):dLst fs ρ s=some (.lst ds,s1):=by
 unfold dLst Zan;rw [h1];simp only;rw [if_pos hl];rfl
theorem ZaQ {b:Bool} (h:f ρ s=some (.bl b,s1)):asB f ρ s=some (b,s1):=by unfold asB Zan;rw [h];rfl
theorem Zlu {fb:Rho→M Bool} {b:Bool} (h:fb ρ s=some (b,s1)):bNot fb ρ s=some (!b,s1):=by unfold bNot Zan;rw [h];rfl
end
theorem ZiJ {τ:D→Rho→Option Rho} {ft:Rho→M Bool} {fe:Rho→M D} {ρ:Rho} {s:Pn} (r:D→Rho) (b:D→Bool) (c:D→D):∀(ds:List D),(∀d∈ds,τ d ρ=some (r d)∧ft (r d) s=some (b d,s)∧(b d=true→fe (r d) s=some (c d,s)))→
  Zfn τ ft fe ρ ds s=some ((ds.filter b).map c,s)
 | [],_=>rfl
 | d::ds,h=>by
  obtain ⟨h1,h2,h3⟩:=h d (by simp)
  have ih:=ZiJ r b c ds fun d' m=>h d' (by simp [m])
  unfold Zfn
  simp only [Zan,mOf,h1,h2]
  cases hb:b d with
  | true=>simp [Zan,h3 hb,ih,hb,mret]
  | false=>simp [ih,hb]
end TF
namespace TP
open PySem L2 TF
noncomputable def Zmi:Rho→M Out:=(sSeq (sOwn 1 (dLst dNil))
 (sSeq (sFor (Za1 (Zay dLen (Zaa (dVar 0) dNil))) (gOne 2)
 (sSeq (sFor (Ze3 (dOp dAdd (dVar 2) (dC (.int 1))) (Zay dLen (Zaa (dVar 0) dNil))) (gOne 3)
 (sSeq (sApp 1 (fun ρ=>(dTup (Zaa (dOp dIx (dVar 0) (dVar 2)) (Zaa (dOp dIx (dVar 0) (dVar 3)) dNil))) (hide [1] ρ)))
 Zap))
 Zap))
 (sSeq (sRet (dVar 1))
 Zap)))
noncomputable def Zc2:List D→M D:=runB 4 1 Zmi
noncomputable def ZhF:Rho→M Out:=(sSeq (sRet (dOp dIn (dTup (Zaa (Zay Zd8 (Zaa (dVar 1) (Zaa (dVar 2) dNil))) (Zaa (Zay Zgx (Zaa (dVar 1) (Zaa (dVar 2) dNil))) dNil))) (dVar 0)))
 Zap)
noncomputable def Zbj:List D→M D:=runB 3 3 ZhF
noncomputable def ZrT:Rho→M Out:=(sSeq (sRet (ZaP [none,some 0,some 1] (Za1 (dOp dIx (dVar 0) (dC (.int 0)))) (gOne 0) (asB (dFn Zbj (Zaa (dOp dIx (dVar 1) (dC (.int 1))) (Zaa (dVar 2) (Zaa (dVar 0) dNil))))) (dVar 0)))
 Zap)
noncomputable def Zdy:List D→M D:=runB 2 2 ZrT
noncomputable def ZiZ:Rho→M Out:=(sSeq (sRet (Zay Zn1 (Zaa (ZaP [none] (Zde (dOp dIx (dVar 0) (dC (.int 1)))) (gOne 0) Za2 (dTup (Zaa (dVar 0) (Zaa (dC (.bl true)) dNil)))) dNil)))
 Zap)
noncomputable def Zbi:List D→M D:=runB 1 1 ZiZ
noncomputable def Zi0:Rho→M Out:=(sSeq (sRet (vAnd (Zay dIsi (Zaa (dVar 0) (Zaa (dC (.ty "tuple")) dNil))) (dOp dEqO (Zay dLen (Zaa (dVar 0) dNil)) (dVar 1))))
 Zap)
noncomputable def Zbc:List D→M D:=runB 2 2 Zi0
noncomputable def Zmk:Rho→M Out:=(sSeq (sRet (vAnd (Zay dIsi (Zaa (dVar 0) (Zaa (dC (.ty "int")) dNil))) (vNot (Zay dIsi (Zaa (dVar 0) (Zaa (dC (.ty "bool")) dNil))))))
 Zap)
noncomputable def Zc3:List D→M D:=runB 1 1 Zmk
noncomputable def Zml:Rho→M Out:=(sSeq (sRet (vAnd (dFn Zc3 (Zaa (dVar 1) dNil)) (vAnd (dOp dLe (dC (.int 0)) (dVar 1)) (dOp dLt (dVar 1) (dVar 0)))))
 Zap)
noncomputable def ZbV:List D→M D:=runB 2 2 Zml
end TP
namespace TP
open PySem L2 TF
local macro_rules | `(tactic| walk_at "ev")=>`(tactic| simp [runB,sSeq,sRet,sSet,Zap,sIf,asB,dOp,Zay,Zaa,dNil,dTup,dLst,dVar,dC,dFn,Zan,mret,mOf,dAdd,dSub,dI,hide,Zb1,vOr,vAnd,vNot,bAnd,bOr,bNot])
noncomputable def ZaH (p:Nat×Nat):D:=.tup [.int p.1,.int p.2]
noncomputable def webD (n:Nat) (ties:List (Nat×Nat)):D:=.tup [.int n,.tup (ties.map ZaH)]
noncomputable def tied (ties:List (Nat×Nat)) (a b:Nat):Bool:=decide ((min a b,max a b)∈ties)
theorem ZrE (a b:Nat):(if (b:Int) > a then (b:Int) else a)=((max a b:Nat):Int):=by split <;> omega
theorem Zfw {α:Type} (x:α) (xs:List α):atI (x::xs) 0=some x:=Zb6 (j:=0) rfl
theorem Zfv {α:Type} (x y:α) (xs:List α):atI (x::y::xs) 1=some y:=Zb6 (j:=1) rfl
theorem two_le:2≤sizeLine:=by decide
theorem Zma (a b:Nat):D.tup [.int (if b<a then (b:Int) else a),.int (if a<b then (b:Int) else a)]=ZaH (min a b,max a b):=by
 unfold ZaH
 congr 2
 ·congr 1;split <;> omega
 ·congr 2;split <;> omega
theorem Zbf {src:List (Option Nat)} {fi:Rho→M (List D)} {τ:D→Rho→Option Rho} {ft:Rho→M Bool} {fe:Rho→M D} {ρ:Rho} {s:Pn} {ds:List D} (r:D→Rho) (b:D→Bool) (c:D→D) (hi:fi ρ s=some (ds,s)) (hl:ds.length≤sizeLine)
  (h:∀d∈ds,τ d (Zb1 src ρ)=some (r d)∧ft (r d) s=some (b d,s)∧(b d=true→fe (r d) s=some (c d,s))):ZaP src fi τ ft fe ρ s=some (.lst ((ds.filter b).map c),s):=by
 unfold ZaP
 simp only [Zan,hi,hl,if_true,ZiJ r b c ds h,mret]
theorem ZmV (n:Nat) (h:n≤100000):-(2 ^ 62)≤(n:Int)∧(n:Int)<2 ^ 62:=by omega
theorem ZaA:sizeLine=16777216:=by decide
theorem Zbz {f:Rho→M D} {ρ:Rho} {s:Pn} {n:Nat} (h:f ρ s=some (.int n,s)) (hn:n≤100000):Za1 f ρ s=some (ZaI 0 n,s):=by
 unfold Za1
 simp only [Zan,h]
 show (if -(2 ^ 62)≤(n:Int)∧(n:Int)<2 ^ 62 then mret (ZaI 0 (n:Int).toNat) else Zau) s=_
 rw [if_pos (ZmV n hn)]
 rfl
theorem ZiI {f g:Rho→M D} {ρ:Rho} {s:Pn} {a n:Nat} (h:f ρ s=some (.int a,s)) (h2:g ρ s=some (.int n,s)) (ha:a≤100000) (hn:n≤100000):Ze3 f g ρ s=some (ZaI a (n-a),s):=by
 unfold Ze3
 simp only [Zan,h,h2]
 show (if -(2 ^ 62)≤(a:Int)∧(a:Int)<2 ^ 62∧-(2 ^ 62)≤(n:Int)∧(n:Int)<2 ^ 62 then mret (ZaI a ((n:Int)-a).toNat) else Zau) s=_
 rw [if_pos (by omega),show ((n:Int)-(a:Int)).toNat=n-a by omega]
 rfl
theorem Za8 (lo:Int) (n:Nat):(ZaI lo n).length=n:=by simp [ZaI]
theorem Zd7 {lo n i:Nat} {d:D} (h:(ZaI lo n)[i]?=some d):i<n∧d=.int ((lo+i:Nat):Int):=by
 have hi:i<n:=by
  have:=(List.getElem?_eq_some_iff.mp h).1
  simpa [ZaI] using this
 refine ⟨hi,?_⟩
 unfold ZaI at h
 rw [List.getElem?_map,List.getElem?_range hi] at h
 simp at h
 rw [←h];simp
theorem Zdu {n:Nat} {d:D} (h:d∈ZaI 0 n):∃i:Nat,i<n∧d=.int (i:Int):=by
 unfold ZaI at h
 obtain ⟨i,hi,e⟩:=List.mem_map.mp h
 exact ⟨i,by simpa using hi,by rw [←e];simp⟩
theorem Zc1 (n:Nat):ZaI 0 n=(List.range n).map fun (i:Nat)=>D.int (i:Int):=by
 unfold ZaI
 simp
noncomputable def nat0:D→Nat
 | .int i=>i.toNat
 | _=>0
theorem ZgT (n:Nat) (p:Nat→Bool):((ZaI 0 n).filter fun d=>p (nat0 d)).map (fun d=>d)=((List.range n).filter p).map fun (i:Nat)=>D.int (i:Int):=by
 rw [Zc1,List.filter_map]
 simp only [List.map_id']
 congr 1
end TP
namespace TP
open PySem L2 TF
theorem Ok.toEq {α:Type} {m:M α} {s s':Pn} {a:α} (h:Ok m s fun b t=>b=a∧t=s'):m s=some (a,s'):=by
 obtain ⟨b,t,e,rfl,rfl⟩:=h
 exact e
theorem Zlg {n:Nat} (hn:n≤100000):(ZaI 0 n).length≤sizeLine:=by rw [Za8,ZaA];omega
noncomputable def SeqD (row:D) (ds:List D):Prop:=row=.lst ds∨row=.tup ds
theorem SeqD.len {row:D} {ds:List D} (h:SeqD row ds):dLen [row]=some (.int ds.length):=by
 rcases h with rfl | rfl <;> rfl
theorem SeqD.ix {row:D} {ds:List D} (h:SeqD row ds) {i:Nat} (hi:i<ds.length):dIx row (.int (i:Int))=some (ds.getD i .non):=by
 have e:ds[i]?=some (ds.getD i .non):=by simp [List.getD,hi]
 rcases h with rfl | rfl <;> exact Zb6 e
noncomputable def preP (n i:Nat):List (Nat×Nat):=(List.range i).flatMap fun a=>(List.range (n-(a+1))).map fun k=>(a,a+1+k)
noncomputable def allP (n:Nat):List (Nat×Nat):=preP n n
theorem ZfK (n i:Nat):preP n (i+1)=preP n i++(List.range (n-(i+1))).map fun k=>(i,i+1+k):=by
 unfold preP
 rw [List.range_succ,List.flatMap_append]
 simp
theorem Zfh (n:Nat):∀i,(preP n i).length≤i*n
 | 0=>by simp [preP]
 | i+1=>by
  have:=Zfh n i
  rw [ZfK,List.length_append,List.length_map,List.length_range]
  have e:(i+1)*n=i*n+n:=Nat.succ_mul i n
  omega
noncomputable def prD (ds:List D) (p:Nat×Nat):D:=.tup [ds.getD p.1 .non,ds.getD p.2 .non]
theorem ZlG (n i j:Nat) (hn:n≤1000) (hi:i<n) (hj:j≤n):(preP n i).length+j<sizeLine:=by
 have h1:=Zfh n i
 have h2:i*n≤1000*1000:=Nat.mul_le_mul (by omega) hn
 rw [ZaA];omega
theorem ZkF (row:D) (ds:List D) (h:SeqD row ds) (hn:ds.length≤1000) (s:Pn):Zc2 [row] s=some (.lst ((allP ds.length).map (prD ds)),s):=by
 refine Za3 rfl (Ok.toEq ?_)
 refine Ok.seq (.sown (.eq (a:=.lst []) rfl ⟨rfl,?_⟩))
 show Ok _ s _
 refine Ok.seq (.sfor (fun i ρ s'=>s=s'∧∃o2 o3,ρ=[some row,some (.lst ((preP ds.length i).map (prD ds))),o2,o3]) (.eq (Zbz (ZaO (Zae rfl rfl) h.len) (by omega)) ⟨⟨rfl,none,none,rfl⟩,fun i d ρ s' hd hI=>?_,fun ρ' s' hI=>?_⟩))
 ·obtain ⟨rfl,o2,o3,rfl⟩:=hI
  obtain ⟨hi,rfl⟩:=Zd7 hd
  refine ⟨_,rfl,?_⟩
  refine Ok.seq (.sfor (fun j ρ s'=>s=s'∧∃o3,ρ=[some row,some (.lst ((preP ds.length i).map (prD ds)++(List.range j).map fun k=>prD ds (i,i+1+k))),some (.int ((0+i:Nat):Int)),o3]) (.eq (ZiI (a:=i+1) (Zam (d:=.int ((0+i:Nat):Int)) (e:=.int 1) (c:=.int ((i+1:Nat):Int)) rfl rfl (by simp [dAdd])) (ZaO (Zae rfl rfl) h.len) (by omega) (by omega)) ⟨⟨rfl,o3,by simp⟩,fun j d ρ s' hd hJ=>?_,fun ρ' s' hJ=>?_⟩))
  ·obtain ⟨rfl,o3,rfl⟩:=hJ
   obtain ⟨hj,rfl⟩:=Zd7 hd
   refine ⟨_,rfl,?_⟩
   refine Ok.seq (.sapp (ds:=(preP ds.length i).map (prD ds)++(List.range j).map fun k=>prD ds (i,i+1+k)) rfl (by simp only [List.length_append,List.length_map,List.length_range];exact ZlG _ _ _ hn hi (by omega)) (.eq (ZbR (Zae (Zam (d:=row) (e:=.int ((0+i:Nat):Int)) rfl rfl (by rw [Nat.zero_add];exact h.ix hi)) (Zae (Zam (d:=row) (e:=.int ((i+1+j:Nat):Int)) rfl rfl (h.ix (by omega))) rfl)) two_le) ?_))
   refine Ok.next ⟨_,rfl,rfl,some (.int ((i+1+j:Nat):Int)),?_⟩
   rw [List.range_succ,List.map_append,←List.append_assoc]
   rfl
  ·obtain ⟨rfl,o3',rfl⟩:=hJ
   refine Ok.next ⟨_,rfl,rfl,some (.int ((0+i:Nat):Int)),o3',?_⟩
   rw [ZfK,List.map_append,List.map_map,Za8]
   rfl
 ·obtain ⟨rfl,o2,o3,rfl⟩:=hI
  refine Ok.seq (.sret (.eq rfl ⟨?_,rfl⟩))
  rw [Za8];rfl
end TP
namespace TP
open PySem L2 TF
noncomputable def keyP (p:Nat×Nat):List Key:=[.inl (p.1:Int),.inl (p.2:Int)]
theorem Zo4 {p q:Nat×Nat} (h:keyP p=keyP q):p=q:=by
 simp only [keyP,List.cons.injEq,Sum.inl.injEq,and_true] at h
 obtain ⟨a,b⟩:=p
 obtain ⟨c,d⟩:=q
 simp only at h
 have h1:a=c:=by omega
 have h2:b=d:=by omega
 rw [h1,h2]
noncomputable def kvT (acc:List (List Key×V)) (ties:List (Nat×Nat)):List (List Key×V):=ties.foldl (fun acc p=>putK acc (keyP p) (.bl true)) acc
theorem Zqi (p:Nat×Nat):Zjb (.tup [ZaH p,.bl true])=some (keyP p,.bl true):=rfl
theorem Zip:∀(ties:List (Nat×Nat)) (acc:List (List Key×V)),Zdo acc (ties.map fun p=>D.tup [ZaH p,.bl true])=some (kvT acc ties)
 | [],acc=>rfl
 | t::ts,acc=>by
  rw [List.map_cons]
  unfold Zdo
  rw [Zqi]
  exact Zip ts _
theorem Zj3 (p:Nat×Nat):∀(ties:List (Nat×Nat)) (acc:List (List Key×V)),(valV (kvT acc ties) (keyP p)).isSome=(decide (p∈ties)||(valV acc (keyP p)).isSome)
 | [],acc=>by simp [kvT]
 | t::ts,acc=>by
  have ih:=Zj3 p ts (putK acc (keyP t) (.bl true))
  have e:kvT acc (t::ts)=kvT (putK acc (keyP t) (.bl true)) ts:=rfl
  rw [e,ih,Zjh]
  by_cases h:p=t
  ·subst h;simp
  ·have hk:¬keyP p=keyP t:=fun z=>h (Zo4 z)
   rw [if_neg hk]
   simp [h]
theorem Ziy (n:Nat) (ties:List (Nat×Nat)) (s:Pn) (hl:ties.length≤100000):Zbi [webD n ties] s=some (.dt (kvT [] ties),s):=by
 have hc:ZaP [none] (Zde (dOp dIx (dVar 0) (dC (.int 1)))) (gOne 0) Za2 (dTup (Zaa (dVar 0) (Zaa (dC (.bl true)) dNil))) [some (webD n ties)] s=some (.lst ((ties.map ZaH).map fun d=>D.tup [d,.bl true]),s):=by
  have q:=Zbf (src:=[none]) (fi:=Zde (dOp dIx (dVar 0) (dC (.int 1)))) (τ:=gOne 0) (ft:=Za2) (fe:=dTup (Zaa (dVar 0) (Zaa (dC (.bl true)) dNil))) (ρ:=[some (webD n ties)]) (s:=s) (ds:=ties.map ZaH) (fun d=>[some d]) (fun _=>true) (fun d=>D.tup [d,.bl true])
   (by unfold Zde Zan;rw [Zam (d:=webD n ties) (e:=.int 1) (c:=.tup (ties.map ZaH)) rfl rfl (by unfold webD;exact Zfv _ _ _)];rfl) (by rw [List.length_map,ZaA];omega)
   (fun d hd=>⟨rfl,rfl,fun _=>ZbR (Zae rfl (Zae rfl rfl)) two_le⟩)
  have q2:(ties.map ZaH).filter (fun _=>true)=ties.map ZaH:=List.filter_eq_self.mpr (by simp)
  rw [q,q2]
 refine Za3 rfl (ZaD (ZaY (ZaO (Zae hc rfl) ?_)))
 rw [List.map_map]
 show (if ((ties.map ((fun d=>D.tup [d,.bl true])∘ZaH)).length≤sizeLine) then (Zdo [] _).map D.dt else none)=_
 rw [if_pos (by rw [List.length_map,ZaA];omega)]
 have e:=Zip ties []
 show (Zdo [] (ties.map fun p=>D.tup [ZaH p,.bl true])).map D.dt=_
 rw [e];rfl
theorem ZjY {n i:Nat} {p:Nat×Nat} (h:p∈preP n i):p.1<i∧p.1<p.2∧p.2<n:=by
 unfold preP at h
 obtain ⟨a,ha,h⟩:=List.mem_flatMap.mp h
 obtain ⟨k,hk,rfl⟩:=List.mem_map.mp h
 simp at ha hk
 exact ⟨ha,by simp;omega,by simp;omega⟩
theorem Zm6 {n:Nat} {p:Nat×Nat} (h:p∈allP n):prD (ZaI 0 n) p=ZaH p:=by
 obtain ⟨h1,h2,h3⟩:=ZjY h
 have g:∀i,i<n→(ZaI 0 n).getD i .non=.int (i:Int):=fun i hi=>by
  rw [Zc1]
  simp [List.getD,hi]
 unfold prD ZaH
 rw [g _ h1,g _ h3]
theorem ZkE {n:Nat} (s:Pn) (hn:n≤1000):Zc2 [.lst (ZaI 0 n)] s=some (.lst ((allP n).map ZaH),s):=by
 rw [ZkF _ _ (.inl rfl) (by rw [Za8];exact hn) s,Za8]
 congr 3
 exact List.map_congr_left fun p hp=>Zm6 hp
theorem Zf0 {f:Rho→M D} {ρ:Rho} {s:Pn} {n:Nat} (h:f ρ s=some (.int n,s)) (hn:n≤1000):ZbU f ρ s=some (.lst (ZaI 0 n),s):=by
 unfold ZbU Zan
 rw [h]
 show (if -(2 ^ 62)≤(n:Int)∧(n:Int)≤2 ^ 24 then mret (D.lst (ZaI 0 (n:Int).toNat)) else Zau) s=_
 rw [if_pos (by omega)]
 rfl
theorem Zpm (n:Nat) (hn:n≤1000):(allP n).length≤1000000:=by
 have h1:=Zfh n n
 have h2:n*n≤1000*1000:=Nat.mul_le_mul hn hn
 unfold allP
 omega
theorem Zki (l:List (Nat×Nat)) (b:D→Bool) (q:Nat×Nat→Bool) (h:∀p,b (ZaH p)=q p):((l.map ZaH).filter b).map (fun d=>d)=(l.filter q).map ZaH:=by
 rw [List.filter_map,List.map_id']
 congr 1
 exact List.filter_congr fun p _=>h p
noncomputable def nat2:D→Nat×Nat
 | .tup [a,b]=>(nat0 a,nat0 b)
 | _=>(0,0)
theorem Znn (p:Nat×Nat):nat2 (ZaH p)=p:=rfl
end TP
namespace TF
open PySem L2
theorem Ok.runB {n k:Nat} {g:Rho→M Out} {ds:List D} {s:Pn} {Q:D→Pn→Prop} (hl:ds.length=k) (h:Ok (g (ds.map some++List.replicate (n-k) none)) s fun o s'=>match o with | .rt d=>Q d s' | .nx _=>Q .non s' | _=>False):Ok (runB n k g ds) s Q:=by
 unfold TF.runB
 rw [if_pos hl]
 refine .bind (h.mono fun o s' q=>?_)
 cases o with
 | rt d=>exact .ret q
 | nx ρ=>exact .ret q
 | bk ρ=>exact q.elim
 | ct ρ=>exact q.elim
theorem Ok.fn {F:List D→M D} {fs:Rho→M (List D)} {ρ:Rho} {s s1:Pn} {ds:List D} {Q:D→Pn→Prop} (h1:fs ρ s=some (ds,s1)) (h:Ok (F ds) s1 Q):Ok (dFn F fs ρ) s Q:=by
 obtain ⟨a,s',e,q⟩:=h
 exact ⟨a,s',ZaL h1 e,q⟩
theorem Ok.op {g:D→D→Option D} {f f2:Rho→M D} {ρ:Rho} {s:Pn} {Q:D→Pn→Prop} (h:Ok (f ρ) s fun d s1=>Ok (f2 ρ) s1 fun e s2=>∃c,g d e=some c∧Q c s2):Ok (dOp g f f2 ρ) s Q:=
 .bind (h.mono fun d s1 q=>.bind (q.mono fun e s2 q=>let ⟨c,e1,q⟩:=q;.of e1 q))
end TF
namespace TP
open PySem L2 TF
theorem Zfm {n:Nat} {p:Nat×Nat}:p∈allP n↔p.1<p.2∧p.2<n:=by
 constructor
 ·intro h;exact (ZjY h).2
 ·intro ⟨h1,h2⟩
  unfold allP preP
  refine List.mem_flatMap.mpr ⟨p.1,by simp;omega,List.mem_map.mpr ⟨p.2-(p.1+1),by simp;omega,?_⟩⟩
  obtain ⟨a,b⟩:=p
  simp only at h1 h2 ⊢
  rw [show a+1+(b-(a+1))=b by omega]
theorem ZdM {n i:Nat} {d:D} (h:(ZaI 0 n)[i]?=some d):i<n∧d=.int (i:Int):=by
 have:=Zd7 (lo:=0) h
 rw [Nat.zero_add] at this
 exact this
noncomputable def IsWeb (n:Nat) (ties:List (Nat×Nat)):Prop:=ties.Sublist (allP n)
theorem IsWeb.mem {n:Nat} {ties:List (Nat×Nat)} (h:IsWeb n ties) {p:Nat×Nat} (hp:p∈ties):p.1<p.2∧p.2<n:=Zfm.mp (h.subset hp)
theorem IsWeb.len {n:Nat} {ties:List (Nat×Nat)} (h:IsWeb n ties) (hn:n≤24):ties.length≤576:=by
 have h1:=h.length_le
 have h2:=Zfh n n
 have h3:n*n≤24*24:=Nat.mul_le_mul hn hn
 unfold allP at h1
 omega
theorem IsWeb.filter {n:Nat} (f:Nat×Nat→Bool):IsWeb n ((allP n).filter f):=List.filter_sublist
theorem Zgi {ties:List (Nat×Nat)} {a b:Nat} (h:a<b):tied ties a b=decide ((a,b)∈ties):=by
 unfold tied
 rw [show min a b=a by omega,show max a b=b by omega]
theorem ZcG (ties:List (Nat×Nat)) (a b:Nat):tied ties a b=tied ties b a:=by
 unfold tied
 rw [show min a b=min b a by omega,show max a b=max b a by omega]
theorem web0 {n:Nat} {ties:List (Nat×Nat)}:dIx (webD n ties) (.int 0)=some (.int n):=by unfold webD;exact Zfw _ _
theorem web1 {n:Nat} {ties:List (Nat×Nat)}:dIx (webD n ties) (.int 1)=some (.tup (ties.map ZaH)):=by unfold webD;exact Zfv _ _ _
end TP
namespace TP
open PySem L2 TF
theorem ZpU {n i j:Nat} {l:List (Nat×Nat)} (h:l.Sublist (preP n i++(List.range j).map fun k=>(i,i+1+k))) (hn:n≤1000) (hi:i<n) (hj:j≤n):(l.map ZaH).length<sizeLine:=by
 have h1:=h.length_le
 rw [List.length_append,List.length_map,List.length_range] at h1
 have h2:=ZlG n i j hn hi hj
 rw [List.length_map];omega
end TP
namespace HT
open PySem PySem.Spec PyProof.Rows
section
variable {prog:Program} {w:World} {A:Around} {E:Value→Shared→Prop} {s:Shared}
end
end HT
namespace TF
open PySem PySem.Spec PyProof.Rows L2
section
variable {X:Cx} {G:Gh}
noncomputable def sUnp (τ:D→Rho→Option Rho) (f:Rho→M D):Rho→M Out:=fun ρ=>Zan (f ρ) fun d=>match τ d ρ with | some ρ'=>mret (.nx ρ') | none=>Zau
theorem Zqe {ob own:List Nat} {fr r1:Bool} {tg e:Expr} {pos:Pos} {τ:D→Rho→Option Rho} {f:Rho→M D} (he:PD X G r1 e f) (hg:PDG X G tg (fun i=>i∉own) τ) (hs:swapsWithSole [tg] e pos.line X.env=pure false:=by rfl) (hw:swappedStores [tg] e X.env=pure none:=by rfl)
  (h1:(assignEach [tg] X.env).map (·.2)=[assign tg X.env]:=by rfl):PDS X G ob own own fr (.Assign [tg] e pos) (sUnp τ (fun ρ=>f (hide own ρ))):=by
 obtain ⟨t,p,q⟩:=he
 obtain ⟨g,pg,qg⟩:=hg
 have hy:Yld G r1 t f:=q
 refine ⟨_,Zm5 p pg hs hw h1,fun kn Hf0 H0 σ H ρ s out s' E ⟨Hf,j⟩ st e po=>?_⟩
 obtain ⟨d,s1,a1,a2⟩:=Zah e
 refine hy.a kn Hf0 H0 σ Hf H ρ s d s1 _ j st a1 fun v Hf' H' j' e1 e2 st' r fz=>?_
 cases eq:τ d ρ with
 | none=>rw [eq] at a2;cases a2
 | some ρ'=>
  rw [eq] at a2
  obtain ⟨rfl,rfl⟩:=Zao a2
  exact qg v σ Hf' H' d ρ ρ' _ j'.gr.fh r eq fun σ' hs'=>po σ' H' ⟨Hf',hs'.jf j'⟩ st'
theorem ZoD {ob:List Nat} {fr r1:Bool} {tg e:Expr} {pos:Pos} {τ:D→Rho→Option Rho} {f:Rho→M D} (he:PD X G r1 e f) (hg:PDG X G tg (fun i=>i∉([]:List Nat)) τ) (hs:swapsWithSole [tg] e pos.line X.env=pure false:=by rfl) (hw:swappedStores [tg] e X.env=pure none:=by rfl)
  (h1:(assignEach [tg] X.env).map (·.2)=[assign tg X.env]:=by rfl):PDS X G ob [] [] fr (.Assign [tg] e pos) (sUnp τ f):=by
 have h:=Zqe (ob:=ob) (fr:=fr) he hg hs hw h1
 have e:(fun ρ=>f (hide [] ρ))=f:=by funext ρ;rw [Zka]
 rw [e] at h
 exact h
theorem Cal.none {P:Program} {w:World} {K:PySem.W.Frag} {mg:Str→Option Value} {base:Heap} {k:Nat} {x:Str} {n:Nat} {fr:Bool} {GG:Gh→Prop} {f:Addr} {fd:FuncData} {ps:List Str} (hm:mg x=some (.ref f)) (hk:PySem.W.keepIn K (.ref f)=true) (hb:ZcE K fd ps []) :
  Cal P w K mg base k x n fr GG (fun _=>Zau):=by
 refine ⟨f,fd,ps,⟨fun vs H Q E h=>?_,fun A outer s H args us vs Q E _ _ _ _ h=>?_⟩,hm,hk,hb⟩
 ·obtain ⟨G,Hf,ds,s,d,s',_,_,_,_,_,h,_⟩:=h
  cases h
 ·obtain ⟨G,Hf,ds,s,d,s',_,_,_,_,_,h,_⟩:=h
  cases h
end
end TF
namespace TF
open PySem PySem.Spec PyProof.Rows L2 PySem.SeqAt
open AutoSeq1 (wpAny_loadPart')
theorem ZlN (l:Addr) (items:Array Value) (n:Nat) (dd:Option Addr) (sl:Array (Option Value)) (x:Int) (u:Tok) (hc0:¬((x < -(2 ^ 63):Bool)||(x≥2 ^ 63:Bool))=true) (hc1:¬(items.isEmpty||x==1)=true) (hc2:¬((x≤0:Bool)||items.isEmpty)=true)
  (hc3:¬((items.size:Int)*x > (2 ^ 63-1) / 8)) (hc4:¬Builtin.Tuple.tupleTooMany ((items.size:Int)*x)=true) (hsz:(List.foldl (fun x1 x2=>x1++x2) #[] (List.replicate x.toNat items)).size≤sizeLine) :
  Meets (Builtin.«tuple.__mul__» ⟨[.ref l,.int x u],[]⟩) (fun _ R s=>s.heap.get? l=some { cls:=.type "tuple",dict:=dd,data:=.seq items n,slots:=sl }∧R (.ok (.ret (Value.ref s.heap.objs.size))) { s with heap:=s.heap.push { cls:=Value.type "tuple",data:=Data.seq (List.foldl (fun x1 x2=>x1++x2) #[] (List.replicate x.toNat items)) },toks:=s.toks }):=
 .of_wp fun prog w A R s h=>by
  obtain ⟨hp,g,d,tk,os⟩:=s;obtain ⟨hl,h⟩:=h;have f1:=AutoSeq1.idx_int;have f2:=AutoSeq1.sub_tuple_tuple;have f3:=AutoSeq1.sub_list_list;have f4:=AutoSeq1.sub_tuple_list;have f5:=AutoSeq1.sub_list_tuple;wp_walk using wpAny_loadPart' hl
  rw [if_neg hc0];wp_walk using wpAny_loadPart' hl
  rw [if_neg hc3];wp_walk using wpAny_loadPart' hl
  try (refine wpAny_ite_false (decide_eq_false (Nat.not_lt.mpr hsz)) ?_;wp_walk)
  exact ⟨_,rfl,h⟩
theorem Zdi:fillsNumberSlot (.type "tuple") "mul" = pure false:=
 PySem.fillsNumberSlot_seq (id:="tuple.__mul__") (r:=some (.builtin "tuple.__rmul__")) PySem.F.slot_tuple_mul.lookup (by decide +kernel) PySem.F.slot_tuple_rmul.lookup (by decide +kernel)
theorem Zej:seqRepeat? (.type "tuple")=pure (some (.builtin "tuple.__mul__")):=by
 unfold seqRepeat?
 rw [PySem.seqSlot_of (T:="tuple") (name:="__mul__") (id:="tuple.__mul__") PySem.F.slot_tuple_mul.lookup (by decide +kernel),PySem.seqSlot_of (T:="tuple") (name:="__rmul__") (id:="tuple.__rmul__") PySem.F.slot_tuple_rmul.lookup (by decide +kernel)]
 rfl
theorem ZdD (a:Int) (t:Tok) (l:Addr) (items:Array Value) (n:Nat) (dd:Option Addr) (sl:Array (Option Value)) :
  Meets (Builtin.«int.__rmul__» ⟨[.int a t,.ref l],[]⟩) (fun _ R s=>s.heap.get? l=some { cls:=.type "tuple",dict:=dd,data:=.seq items n,slots:=sl }∧R (.ok (.ret Value.notImplemented)) s):=
 .of_wp fun prog w A R s h=>by obtain ⟨hp,g,d,tk,os⟩:=s;obtain ⟨hl,h⟩:=h;wp_walk;exact ⟨_,rfl,h⟩
section
variable {X:Cx} {G:Gh}
noncomputable def Zse (K:PySem.W.Frag):R2:=fun x y H Q=>∃l k xs,x=.ref l∧y=.int k∧SqT K H l xs∧xs≠[]∧2≤k∧k<2 ^ 62∧xs.length*k.toNat≤sizeLine∧
 ∀p,H p=none→Q (.ref p) (upd H p (.tup (List.replicate k.toNat xs).flatten))
theorem Zqm:OpR X (binaryOp .Mult) (Zse X.K):=by
 intro pins s σ H x y v u Q I rx ry h
 obtain ⟨l,k,xs,rfl,rfl,hH,hne,h1,h2,hz,q⟩:=h
 cases rx
 obtain ⟨t,rfl⟩:=ry
 obtain ⟨its,r,p1,_⟩:=I.tuple hH
 obtain ⟨⟨cls,dd,data,sl⟩,ho,hc,n,hd⟩:=id p1
 simp only at hc hd
 subst hc hd
 have hl:=r.length
 have hsz:its.toArray.size=xs.length:=by rw [List.size_toArray];exact hl.symm
 have hne':its≠[]:=fun z=>hne (r.nil_iff.mp z)
 have hemp:its.toArray.isEmpty=false:=by cases its with | nil=>exact absurd rfl hne' | cons a b=>rfl
 have e0:((k.toNat:Nat):Int)=k:=by omega
 have hcap:((its.toArray.size:Int)*k)=((xs.length*k.toNat:Nat):Int):=by rw [hsz,Int.natCast_mul,e0]
 have sl2:(sizeLine:Nat)=16777216:=sizeLine_eq
 have hnew:List.foldl (fun x1 x2=>x1++x2) #[] (List.replicate k.toNat its.toArray)=(List.replicate k.toNat its).flatten.toArray:=by
  have:=Zf9 its k.toNat []
  rw [List.nil_append] at this
  exact this
 have hfl:(List.replicate k.toNat its).flatten.length≤sizeLine:=by rw [Zic,Nat.mul_comm,←hl];exact hz
 refine wpAny_binaryOp_repeat_ref (T:="tuple") (U:="int") (by decide) ⟨_,ho,rfl⟩ (fun s'=>typeIs_int s' k t) Zdi F.fills_int_mul F.slot_int_rmul Zej F.slot_int_index.lookup
  (call_meets F.slot_int_rmul (typeIs_int s k t) F.entry_int_rmul (F.args_int_rmul_2 _ _) (ZdD k t l its.toArray n dd sl)
   ⟨ho,rfl,⟨_,ho,rfl⟩,call_meets PySem.F.slot_tuple_mul ⟨_,ho,rfl⟩ PySem.F.entry_tuple_mul (PySem.F.args_tuple_mul_2 _ _) (ZlN l its.toArray n dd sl k t ?_ ?_ ?_ ?_ ?_ ?_) ⟨ho,?_⟩⟩)
 ·simp;omega
 ·rw [hemp];simp;omega
 ·rw [hemp];simp;omega
 ·rw [hcap];omega
 ·unfold Builtin.Tuple.tupleTooMany
  rw [hcap,decide_eq_true_eq];omega
 ·rw [hnew,List.size_toArray];exact hfl
 ·rw [hnew]
  exact ⟨.ref s.heap.objs.size,_,I.laid (t':=s.toks) (o:=.tup (List.replicate k.toNat xs).flatten) (fun b ob q=>Heap.get?_push_of_some _ q) (Nat.le_refl _) ⟨by rw [Zic,Nat.mul_comm];exact hz,_,r.rep k.toNat,IsTup.new _ _⟩,rfl,q _ (I.hok.fresh (Nat.le_refl _))⟩
theorem RepL.rep {Hf:Hp} {ds:List D} {vs:List V} (r:RepL G Hf ds vs):∀k:Nat,RepL G Hf (List.replicate k ds).flatten (List.replicate k vs).flatten
 | 0=>RepL.nil_iff.mpr rfl
 | k+1=>by
  rw [List.replicate_succ,List.replicate_succ,List.flatten_cons,List.flatten_cons]
  exact r.append (RepL.rep r k)
noncomputable def Zgw:D→D→Option D
 | .int i,.int j=>if ZmC i j=true then some (.int (i*j)) else none
 | .tup ds,.int k=>if ds≠[]∧2≤k∧k<2 ^ 62∧ds.length*k.toNat≤sizeLine then some (.tup (List.replicate k.toNat ds).flatten) else none
 | .lst ds,.int k=>if -(2 ^ 63)≤k∧k<2 ^ 63∧ds.length*k.toNat≤sizeLine then some (.lst (List.replicate k.toNat ds).flatten) else none
 | _,_=>none
theorem ZoO:OpD X G (binaryOp .Mult) Zgw:=by
 obtain ⟨r0,po,qo⟩:=Zqk (X:=X) (G:=G)
 refine ⟨_,po.or (Zqm.or Zrt),fun Hf H s x y d e c Q e1 st rx ry q k=>?_⟩
 match d,e,q,rx,ry with
 | .int i,.int j,q,rx,ry=>exact .inl (qo Hf H s x y _ _ c Q e1 st rx ry q k)
 | .tup ds,.int j,q,rx,ry=>
  have q:(if ds≠[]∧2≤j∧j<2 ^ 62∧ds.length*j.toNat≤sizeLine then some (D.tup (List.replicate j.toNat ds).flatten) else none)=some c:=q
  split at q
  ·rename_i hz
   cases q
   obtain ⟨p,vs,rfl,np,hp,rp⟩:=Rep.tup_iff.mp rx
   refine .inr (.inl ⟨p,j,vs,rfl,Rep.int_iff.mp ry,SqT.of (e1 _ _ np hp),fun z=>hz.1 (List.length_eq_zero_iff.mp (by rw [rp.length,z];rfl)),hz.2.1,hz.2.2.1,by rw [←rp.length];exact hz.2.2.2,fun l hl=>?_⟩)
   have nf:=Gh.nofp st hl
   have g2:=Gr.new (o:=.tup (List.replicate j.toNat vs).flatten) e1 hl nf
   exact k (.ref l) _ _ g2 (Gh.grow st hl) (Rep.tup_iff.mpr ⟨l,_,rfl,nf,Zaq,(rp.rep _).ext g2.ff⟩) (.scal fun z=>z)
  ·cases q
 | .lst ds,.int j,q,rx,ry=>
  have q:(if -(2 ^ 63)≤j∧j<2 ^ 63∧ds.length*j.toNat≤sizeLine then some (D.lst (List.replicate j.toNat ds).flatten) else none)=some c:=q
  split at q
  ·rename_i hz
   cases q
   obtain ⟨p,vs,rfl,np,hp,rp⟩:=Rep.lst_iff.mp rx
   refine .inr (.inr ⟨p,j,vs,rfl,Rep.int_iff.mp ry,e1 _ _ np hp,hz.1,hz.2.1,by rw [←rp.length];exact hz.2.2,fun l hl=>?_⟩)
   have nf:=Gh.nofp st hl
   have g2:=Gr.new (o:=.lst (List.replicate j.toNat vs).flatten) e1 hl nf
   exact k (.ref l) _ _ g2 (Gh.grow st hl) (Rep.lst_iff.mpr ⟨l,_,rfl,nf,Zaq,(rp.rep _).ext g2.ff⟩) (ZaG.mk e1 hl nf (rp.rep _))
  ·cases q
end
end TF
namespace TF
open PySem PySem.Spec PyProof.Rows L2
section
variable {X:Cx} {G:Gh}
theorem Zrp {i:Int} {j p pos}:PD X G true (.UnaryOp .USub (.Constant (.int i) j p) pos) (dC (.int (-i))):=by
 refine ⟨_,Zsk ZqZ Zbb,fun σ Hf H ρ s d s' Q e1 e2 e3 e4 k=>?_⟩
 obtain ⟨rfl,rfl⟩:=Zao e4
 exact ⟨i,rfl,k _ Hf H (.refl e1) e3 (Rep.int_iff.mpr rfl) fun _=>.scal fun z=>z⟩
end
end TF
namespace TF
open PySem L2
section
variable {f g:Rho→M D} {ρ:Rho} {s s1:Pn} {a b:Bool} {r:Option (D×Pn)}
theorem Zjk (h:f ρ s=some (.bl true,s1)) (h2:g ρ s1=r):vAnd f g ρ s=r:=by unfold vAnd Zan;rw [h];exact h2
theorem Zjl (h:f ρ s=some (.bl false,s1)):vAnd f g ρ s=some (.bl false,s1):=by unfold vAnd Zan;rw [h];rfl
theorem ZhX (h:f ρ s=some (.bl a,s)) (h2:a=true→g ρ s=some (.bl b,s)):vAnd f g ρ s=some (.bl (a&&b),s):=by
 cases a with
 | false=>exact Zjl h
 | true=>rw [Bool.true_and];exact Zjk h (h2 rfl)
theorem Zk7 (h:f ρ s=some (.bl a,s1)):vNot f ρ s=some (.bl (!a),s1):=by unfold vNot Zan;rw [h];rfl
end
section
variable {f g:Rho→M Bool} {ρ:Rho} {s s1:Pn} {a b:Bool} {r:Option (Bool×Pn)}
theorem Zr6 (h:f ρ s=some (false,s1)):bAnd f g ρ s=some (false,s1):=by unfold bAnd Zan;rw [h];rfl
theorem Zr5 (h:f ρ s=some (true,s1)) (h2:g ρ s1=r):bAnd f g ρ s=r:=by unfold bAnd Zan;rw [h];exact h2
theorem Zjf (h:f ρ s=some (false,s1)) (h2:g ρ s1=r):bOr f g ρ s=r:=by unfold bOr Zan;rw [h];exact h2
theorem ZqX (h:f ρ s=some (a,s)) (h2:a=true→g ρ s=some (b,s)):bAnd f g ρ s=some (a&&b,s):=by
 cases a with
 | false=>exact Zr6 h
 | true=>rw [Bool.true_and];exact Zr5 h (h2 rfl)
end
section
variable {c:Rho→M Bool} {g1 g2:Rho→M Out} {ρ:Rho} {s s1:Pn} {r:Option (Out×Pn)}
theorem Zd3 (h:c ρ s=some (true,s1)) (h2:g1 ρ s1=r):sIf c g1 g2 ρ s=r:=by unfold sIf Zan;rw [h];exact h2
theorem ZeA (h:c ρ s=some (false,s1)) (h2:g2 ρ s1=r):sIf c g1 g2 ρ s=r:=by unfold sIf Zan;rw [h];exact h2
end
section
variable {fa fb:Rho→M D} {f:D→Rho→M Bool} {g:D→D→Option D} {ρ:Rho} {s s1 s2:Pn} {d e:D} {k:Bool} {r:Option (Bool×Pn)}
end
theorem eqi (a b:Int):dEqO (.int a) (.int b)=some (.bl (a==b)):=by
 unfold dEqO
 rw [if_pos (by simp [okEq,Zai,dep])]
 simp [dEq]
theorem nei (a b:Int):dNeO (.int a) (.int b)=some (.bl (!(a==b))):=by
 unfold dNeO
 rw [if_pos (by simp [okEq,Zai,dep])]
 simp [dEq]
theorem Zp6 {ds:List D} {r:Nat} (h:r<ds.length):∃d∈ds,dIx (.lst ds) (.int (r:Int))=some d:=
 ⟨ds[r],List.getElem_mem h,Zb6 (List.getElem?_eq_getElem h)⟩
theorem ZfX {τ:D→Rho→Option Rho} {body:Rho→M Out} {d:D} {ds:List D} {ρ ρ1 ρ2:Rho} {s s1:Pn} {r:Option (Out×Pn)} (h:τ d ρ=some ρ1) (hb:body ρ1 s=some (.nx ρ2,s1)) (h2:mFor τ body ds ρ2 s1=r):mFor τ body (d::ds) ρ s=r:=by
 unfold mFor Zan mOf
 simp only [h,hb]
 exact h2
theorem Zj0 {τ:D→Rho→Option Rho} {body:Rho→M Out} {d e:D} {ds:List D} {ρ ρ1:Rho} {s s1:Pn} (h:τ d ρ=some ρ1) (hb:body ρ1 s=some (.rt e,s1)):mFor τ body (d::ds) ρ s=some (.rt e,s1):=by
 unfold mFor Zan mOf
 simp only [h,hb]
 rfl
theorem Zgk {fi:Rho→M (List D)} {τ:D→Rho→Option Rho} {body:Rho→M Out} {ds:List D} {ρ:Rho} {s s1:Pn} {r:Option (Out×Pn)} (h:fi ρ s=some (ds,s1)) (h2:mFor τ body ds ρ s1=r):sFor fi τ body ρ s=r:=by
 unfold sFor Zan;rw [h];exact h2
theorem Zlb {f:Rho→M D} {ρ:Rho} {s s1:Pn} {ds:List D} (h:f ρ s=some (.tup ds,s1)):Zde f ρ s=some (ds,s1):=by unfold Zde Zan;rw [h];rfl
theorem ZbZ {f:Rho→M D} {ρ:Rho} {s s1:Pn} {ds:List D} (h:f ρ s=some (.lst ds,s1)):ZaS f ρ s=some (ds,s1):=by unfold ZaS Zan;rw [h];rfl
end TF
namespace TP
open PySem L2 TF
noncomputable def ZdJ:D→Bool
 | .non=>true | .bl _=>true | .int _=>true | .str _=>true | .tup _=>true | .lst _=>true | _=>false
noncomputable def tupB:D→Bool | .tup _=>true | _=>false
noncomputable def intB:D→Bool | .int _=>true | .bl _=>true | _=>false
noncomputable def ZpL:D→Bool | .bl _=>true | _=>false
noncomputable def ZmH:D→Bool | .int _=>true | _=>false
theorem ZnG {d:D} (h:ZdJ d=true):dIsi [d,.ty "tuple"]=some (.bl (tupB d)):=by
 cases d <;> first | rfl | cases h
theorem ZqH {d:D} (h:ZdJ d=true):dIsi [d,.ty "int"]=some (.bl (intB d)):=by
 cases d <;> first | rfl | cases h
theorem Zo5 {d:D} (h:ZdJ d=true):dIsi [d,.ty "bool"]=some (.bl (ZpL d)):=by
 cases d <;> first | rfl | cases h
theorem ZkS {d:D} (h:ZdJ d=true) (s:Pn):Zc3 [d] s=some (.bl (ZmH d),s):=by
 refine Za3 rfl (ZaD (ZaY ?_))
 have e:ZmH d=((intB d) && !(ZpL d)):=by cases d <;> rfl
 rw [e]
 exact ZhX (ZaO (Zae rfl (Zae rfl rfl)) (ZqH h)) fun _=>Zk7 (ZaO (Zae rfl (Zae rfl rfl)) (Zo5 h))
noncomputable def Zc7 (n:Int):D→Bool | .int i=>decide (0≤i)&&decide (i<n) | _=>false
theorem Zm8 {n:Int} {d:D} (h:Zc7 n d=true):∃i,d=.int i:=by
 cases d <;> first | exact ⟨_,rfl⟩ | cases h
theorem ZkT {d:D} (h:ZdJ d=true) (n:Int) (s:Pn):ZbV [.int n,d] s=some (.bl (Zc7 n d),s):=by
 refine Za3 rfl (ZaD (ZaY ?_))
 have hw:=ZaL (ρ:=[some (D.int n),some d]) (F:=Zc3) (fs:=Zaa (dVar 1) dNil) (s:=s) (Zae rfl rfl) (ZkS h s)
 cases d with
 | int i=>exact Zjk hw (ZhX (Zam (d:=.int 0) (e:=.int i) rfl rfl rfl) fun _=>Zam (d:=.int i) (e:=.int n) rfl rfl rfl)
 | pen=>cases h
 | ty _=>cases h
 | clo _ _=>cases h
 | dk _=>cases h
 | dt _=>cases h
 | _=>exact Zjl hw
theorem ZbL {α:Type} (l:List α):l.filter (fun _=>true)=l:=List.filter_eq_self.mpr (by simp)
noncomputable def p2:D→Int×Int | .tup [.int a,.int b]=>(a,b) | _=>(0,0)
end TP
namespace TF
open PySem L2
section
variable {f:Rho→M D} {fs:Rho→M (List D)} {ρ:Rho} {s:Pn}
theorem Ok.sunp {τ:D→Rho→Option Rho} {Q:Out→Pn→Prop} (h:Ok (f ρ) s fun d s1=>∃ρ',τ d ρ=some ρ'∧Q (.nx ρ') s1):Ok (sUnp τ f ρ) s Q:=
 .bind (h.mono fun d s1 q=>by obtain ⟨ρ',e,q⟩:=q;rw [e];exact .ret q)
end
theorem ZpQ {f:Rho→M D} {ρ:Rho} {s:Pn} {x:D} (h1:f ρ s=some (x,s)):dTup (Zaa f dNil) ρ s=some (.tup [x],s):=ZbR (Zae h1 rfl) (by show 1≤sizeLine;decide)
theorem Zk8 {f g:Rho→M D} {ρ:Rho} {s:Pn} {x y:D} (h1:f ρ s=some (x,s)) (h2:g ρ s=some (y,s)):dTup (Zaa f (Zaa g dNil)) ρ s=some (.tup [x,y],s):=ZbR (Zae h1 (Zae h2 rfl)) TP.two_le
noncomputable def LT (P:D→Prop) (m:Nat) (d:D):Prop:=∃L,d=.lst L∧L.length=m∧∀x∈L,P x
theorem LT.pick {P:D→Prop} {m r:Nat} {d:D} (h:LT P m d) (hr:r<m):∃x,dIx d (.int (r:Int))=some x∧P x:=by
 obtain ⟨L,rfl,l1,p1⟩:=h
 obtain ⟨x,hx,e⟩:=Zp6 (ds:=L) (r:=r) (by omega)
 exact ⟨x,e,p1 x hx⟩
theorem LT.nil (P:D→Prop):LT P 0 (.lst []):=⟨[],rfl,rfl,by simp⟩
theorem LT.cons {P:D→Prop} {m:Nat} {x:D} {L:List D} (hx:P x) (h:LT P m (.lst L)):LT P (m+1) (.lst (x::L)):=by
 obtain ⟨L',e,l1,p1⟩:=h
 cases e
 exact ⟨x::L,rfl,by simp [l1],fun y hy=>by
  rcases List.mem_cons.mp hy with h | h
  ·rw [h];exact hx
  ·exact p1 y h⟩
end TF
namespace TF
open PySem PySem.Spec PyProof.Rows L2
noncomputable def Zbq (m t:Int) (wa:Addr):List (Key×V):=[(.inr (Str.ofString "mixed"),.int m),(.inr (Str.ofString "turn"),.int t),(.inr (Str.ofString "wide"),.ref wa)]
theorem k_mt:¬((Sum.inr (Str.ofString "mixed"):Key)=Sum.inr (Str.ofString "turn")):=by decide
theorem k_mw:¬((Sum.inr (Str.ofString "mixed"):Key)=Sum.inr (Str.ofString "wide")):=by decide
theorem k_tw:¬((Sum.inr (Str.ofString "turn"):Key)=Sum.inr (Str.ofString "wide")):=by decide
theorem Zsj (m t:Int) (wa:Addr):valV (Zbq m t wa) (.inr (Str.ofString "mixed"))=some (.int m):=Zbk rfl
theorem Zsi (m t:Int) (wa:Addr):valV (Zbq m t wa) (.inr (Str.ofString "turn"))=some (.int t):=(Zbl k_mt).trans (Zbk rfl)
theorem Zsh (m t:Int) (wa:Addr):valV (Zbq m t wa) (.inr (Str.ofString "wide"))=some (.ref wa):=(Zbl k_mw).trans ((Zbl k_tw).trans (Zbk rfl))
theorem Zp9 (m t t':Int) (wa:Addr):putK (Zbq m t wa) (.inr (Str.ofString "turn")) (.int t')=Zbq m t' wa:=by
 have h2:¬((Sum.inr (Str.ofString "wide"):Key)=Sum.inr (Str.ofString "turn")):=fun z=>k_tw z.symm
 unfold putK Zbq
 rw [if_pos (by simp)]
 have h3:¬(Str.ofString "mixed" = Str.ofString "turn"):=by decide
 have h4:¬(Str.ofString "wide" = Str.ofString "turn"):=by decide
 simp [h3,h4]
noncomputable def stD (p wa:Addr) (s:Pn) (H:Hp):Prop:=∃m t,s.1=[m,t]∧H p=some (.dK (Zbq m t wa))∧H wa=some (.lst (s.2.map V.int))∧p≠wa
noncomputable def penD (p wa:Addr):Gh where
 fp:=fun b=>b=p∨b=wa
 rd:=fun b=>b=p∨b=wa
 pen:=.ref p
 st:=stD p wa
 mono:=fun s H H' ⟨m,t,e0,e1,e2,ne⟩ k _=>⟨m,t,e0,k p _ (.inl rfl) e1,k wa _ (.inr rfl) e2,ne⟩
 sub:=fun b h=>h
 dom:=fun s H b ⟨m,t,e0,e1,e2,ne⟩ hb=>by
  rcases hb with rfl | rfl
  ·exact ⟨_,e1⟩
  ·exact ⟨_,e2⟩
 ntp:=fun s H b vs ⟨m,t,e0,e1,e2,ne⟩ hb z=>by
  rcases hb with r | r
  ·rw [r,e1] at z;cases z
  ·rw [r,e2] at z;cases z
noncomputable def PenD:Gh→Prop:=fun G=>∃p wa,G=penD p wa
noncomputable def ZpI (k:Int):List Int→List Int
 | c::r=>if c<k then r else c::r
 | []=>[]
noncomputable def Zjc (m t:Int):Int:=
 let one:=(m+7919*t*t) % 2147483629
 let two:=(one*one+40692*t+3) % 998244353
 (two*two+one) % 2147483587 / 16
noncomputable def ZdL (k m t:Int) (w:List Int):D×Pn:=match ZpI k w with
 | c::r=>(.int (c % k),([m,t],(c / k)::r))
 | []=>(.int (Zjc m (t+1) % k),([m,t+1],[]))
noncomputable def ZbT:List D→M D:=fun ds s=>match ds,s with
 | [.pen,.int k],([m,t],w)=>if 0<k∧k<1073741824∧0≤t∧t<2 ^ 60 then some (ZdL k m t w) else none
 | _,_=>none
theorem ZhI {ds:List D} {s s':Pn} {d:D} (h:ZbT ds s=some (d,s')):∃k m t w,ds=[.pen,.int k]∧s=([m,t],w)∧0<k∧k<1073741824∧0≤t∧t<2 ^ 60∧ZdL k m t w=(d,s'):=by
 unfold ZbT at h
 split at h
 ·split at h
  ·rename_i k m t w c
   exact ⟨k,m,t,w,rfl,rfl,c.1,c.2.1,c.2.2.1,c.2.2.2,Option.some.inj h⟩
  ·cases h
 ·cases h
noncomputable def okD (T:Nat) (s:Pn):Prop:=∃m t:Int,s.1=[m,t]∧0≤t∧t≤T
theorem okD.mono {T T':Nat} {s:Pn} (h:okD T s) (hT:T≤T'):okD T' s:=by
 obtain ⟨m,t,e,h1,h2⟩:=h
 exact ⟨m,t,e,h1,by omega⟩
theorem ZlB {T:Nat} {s:Pn} {k:Int} (ok:okD T s) (hT:T<1000000000) (h1:0<k) (h2:k<1073741824):∃r s',ZbT [.pen,.int k] s=some (.int r,s')∧0≤r∧r<k∧okD (T+1) s':=by
 obtain ⟨l,w⟩:=s
 obtain ⟨m,t,e,t0,tT⟩:=ok
 simp only at e
 subst e
 have hd:ZbT [.pen,.int k] ([m,t],w)=some (ZdL k m t w):=if_pos ⟨h1,h2,t0,by omega⟩
 unfold ZdL at hd
 split at hd
 ·exact ⟨_,_,hd,Int.emod_nonneg _ (by omega),Int.emod_lt_of_pos _ h1,m,t,rfl,t0,by omega⟩
 ·exact ⟨_,_,hd,Int.emod_nonneg _ (by omega),Int.emod_lt_of_pos _ h1,m,t+1,rfl,by omega,by omega⟩
theorem Ok.drawD {fs:Rho→M (List D)} {ρ:Rho} {s:Pn} {m T:Nat} {Q:D→Pn→Prop} (ok:okD T s) (hT:T<1000000000) (h1:fs ρ s=some ([.pen,.int (m:Int)],s)) (hm:0<m) (hm2:m<1073741824) (h:∀(r:Nat) s',r<m→okD (T+1) s'→Q (.int (r:Int)) s'):Ok (dFn ZbT fs ρ) s Q:=by
 obtain ⟨r,s1,e,r0,r1,ok1⟩:=ZlB ok hT (show 0<(m:Int) by omega) (show (m:Int)<1073741824 by omega)
 obtain ⟨n,rfl⟩:=Int.eq_ofNat_of_zero_le r0
 exact .fn h1 (.eq e (h n s1 (by omega) ok1))
theorem Zou {X:Cx} {GG:Gh→Prop} {ob own own':List Nat} {fr:Bool} {sts:List Stmt} {g:Rho→M Out} (h:∀G,GG G→PDSs X G ob own own' fr sts g):PSs X sts (fun E σ H=>∃G,GG G∧ZpJ G ob own own' fr g E σ H):=by
 intro pins s σ H D I ⟨G,hG,kn,Hf0,H0,ρ,pn,out,pn',j,st,e,po⟩
 obtain ⟨t,p,q⟩:=h G hG
 exact p pins s σ H D I (q kn Hf0 H0 σ H ρ pn out pn' D j st e po)
noncomputable def ZcF (ns:List Int):List Int:=ns.filter fun c=>decide (10 ^ 15≤c)
noncomputable def Zps (K:PySem.W.Frag):Sp:=fun vs H Q _=>∃(a:Addr) (ns:List Int),vs=[.ref a]∧SqL K H a (ns.map V.int)∧ns.length≤63∧
 ∀(p wa:Addr) (m:Int) (H':Hp),stD p wa ([m,0],ZcF ns) H'→(∀b u,H b=some u→H' b=some u)→H p=none→H wa=none→Q (.ref p) H'
noncomputable def tW:TE:=Zi7 (tVar 0) (tC (.str (Str.ofString "wide")))
noncomputable def tTn:TE:=Zi7 (tVar 0) (tC (.str (Str.ofString "turn")))
noncomputable def tMx:TE:=Zi7 (tVar 0) (tC (.str (Str.ofString "mixed")))
noncomputable def Zpp (K:PySem.W.Frag):TE:=tCB (fun xs H Q=>∃p ys,xs=[.ref p]∧(SqL K H p ys∨SqT K H p ys)∧Q (.int ys.length) H) (Zcg tW tNil)
noncomputable def tW0 (K:PySem.W.Frag):TE:=tOp (rIxL K) tW (tC (.int 0))
noncomputable def Zpo:TS:=tSeq (Zpt (tVar 0) (tC (.str (Str.ofString "turn"))) (tOp (rI0 fun i j=>.int (i+j)) tTn (tC (.int 1))))
 (tSeq (tAsg (tOp (rI (fun _ j=>0<j) fun i j=>.int (i % j)) (tOp (rI0 fun i j=>.int (i+j)) tMx (tOp (rI CMul fun i j=>.int (i*j)) (tOp (rI CMul fun i j=>.int (i*j)) (tC (.int 7919)) tTn) tTn)) (tC (.int 2147483629))) (ZcB 3))
 (tSeq (tAsg (tOp (rI (fun _ j=>0<j) fun i j=>.int (i % j)) (tOp (rI0 fun i j=>.int (i+j)) (tOp (rI0 fun i j=>.int (i+j)) (tOp (rI CMul fun i j=>.int (i*j)) (tVar 3) (tVar 3)) (tOp (rI CMul fun i j=>.int (i*j)) (tC (.int 40692)) tTn)) (tC (.int 3))) (tC (.int 998244353))) (ZcB 4))
 (tRet (tOp (rI (fun _ j=>0<j) fun i j=>.int (i % j)) (tOp (rI CDiv fun i j=>.int (i / j)) (tOp (rI (fun _ j=>0<j) fun i j=>.int (i % j)) (tOp (rI0 fun i j=>.int (i+j)) (tOp (rI CMul fun i j=>.int (i*j)) (tVar 4) (tVar 4)) (tVar 3)) (tC (.int 2147483587))) (tC (.int 16))) (tVar 1)))))
noncomputable def ZlR (K : PySem.W.Frag) : TS := tSeq (tIfS (Zhe (tOp (rI0 fun i j => .bl (decide (j < i))) (Zpp K) (tC (.int 0))))
    (tSeq (tAsg (tOp (rI (fun _ j => 0 < j) fun i j => .int (i % j)) (tW0 K) (tVar 1)) (ZcB 2)) (tSeq (tAsg (tOp (rI CDiv fun i j => .int (i / j)) (tW0 K) (tVar 1)) (gSub tW (tC (.int 0)) Zpv)) (tRet (tVar 2)))) ZlS) Zpo
noncomputable def ZmP (K : PySem.W.Frag) : TS := tSeq (tIfS (tAnd (Zhe (tOp (rI0 fun i j => .bl (decide (j < i))) (Zpp K) (tC (.int 0)))) (Zhe (tOp (rI0 fun i j => .bl (decide (i < j))) (tW0 K) (tVar 1))))
    (Zhf (tBM K "list" Zjy tW (Zcg (tC (.int 0)) tNil))) ZlS) (ZlR K)
theorem dg_w {H:Hp} {p wa:Addr} {m t:Int} (h:H p=some (.dK (Zbq m t wa))):DGet H p (.str (Str.ofString "wide")) (some (.ref wa)):=by have:=DGet.k (k:=.inr (Str.ofString "wide")) h;rwa [Zsh] at this
theorem dg_t {H:Hp} {p wa:Addr} {m t:Int} (h:H p=some (.dK (Zbq m t wa))):DGet H p (.str (Str.ofString "turn")) (some (.int t)):=by have:=DGet.k (k:=.inr (Str.ofString "turn")) h;rwa [Zsi] at this
theorem dg_m {H:Hp} {p wa:Addr} {m t:Int} (h:H p=some (.dK (Zbq m t wa))):DGet H p (.str (Str.ofString "mixed")) (some (.int m)):=by have:=DGet.k (k:=.inr (Str.ofString "mixed")) h;rwa [Zsj] at this
theorem dp_t {H:Hp} {p wa:Addr} {m t t':Int} (h:H p=some (.dK (Zbq m t wa))):DPut H p (.str (Str.ofString "turn")) (.int t') (upd H p (.dK (Zbq m t' wa))):=by
 have:=DPut.k (k:=.inr (Str.ofString "turn")) (v:=.int t') h (by show 3<sizeLine;decide)
 rwa [Zp9] at this
theorem ZmQ {p wa:Addr} {m x t:Int} {Q:VK} {N:St→Hp→Prop} {H:Hp} {o2:Option V} (m0:0<m) (m1:m<1073741824) (t0:0≤t) (t1:t<2 ^ 60) (hp:H p=some (.dK (Zbq x t wa)))
  (k:Q (.int (Zjc x (t+1) % m)) (upd H p (.dK (Zbq x (t+1) wa)))):Zpo { nx:=N,rt:=Q } [some (.ref p),some (.int m),o2,none,none] H:=by
 have hp2:upd H p (.dK (Zbq x (t+1) wa)) p=some (.dK (Zbq x (t+1) wa)):=Zaq
 generalize hT:t+1=T at hp2 k
 have b1:∀z:Int,0≤z % 2147483629∧z % 2147483629<2147483629:=fun z=>⟨Int.emod_nonneg _ (by decide),Int.emod_lt_of_pos _ (by decide)⟩
 have b2:∀z:Int,0≤z % 998244353∧z % 998244353<998244353:=fun z=>⟨Int.emod_nonneg _ (by decide),Int.emod_lt_of_pos _ (by decide)⟩
 refine ⟨.ref p,rfl,p,.int t,rfl,dg_t hp,t,1,rfl,rfl,.ref p,rfl,p,upd H p (.dK (Zbq x T wa)),rfl,by rw [←hT];exact dp_t hp,?_⟩
 refine ⟨.ref p,rfl,p,.int x,rfl,dg_m hp2,.ref p,rfl,p,.int T,rfl,dg_t hp2,7919,T,rfl,rfl,.inl ⟨by decide,by decide⟩,.ref p,rfl,p,.int T,rfl,dg_t hp2,7919*T,T,rfl,rfl,.inr ⟨by omega,by omega⟩,x,7919*T*T,rfl,rfl,x+7919*T*T,2147483629,rfl,rfl,(by show (0:Int)<2147483629;decide),?_⟩
 have h1:=b1 (x+7919*T*T)
 have h2:=b2 (((x+7919*T*T) % 2147483629)*((x+7919*T*T) % 2147483629)+40692*T+3)
 refine ⟨.int ((x+7919*T*T) % 2147483629),rfl,.int ((x+7919*T*T) % 2147483629),rfl,((x+7919*T*T) % 2147483629),((x+7919*T*T) % 2147483629),rfl,rfl,.inl ⟨by omega,by omega⟩,.ref p,rfl,p,.int T,rfl,dg_t hp2,40692,T,rfl,rfl,.inl ⟨by decide,by decide⟩,((x+7919*T*T) % 2147483629)*((x+7919*T*T) % 2147483629),40692*T,rfl,rfl,((x+7919*T*T) % 2147483629)*((x+7919*T*T) % 2147483629)+40692*T,3,rfl,rfl,((x+7919*T*T) % 2147483629)*((x+7919*T*T) % 2147483629)+40692*T+3,998244353,rfl,rfl,(by show (0:Int)<998244353;decide),?_⟩
 refine ⟨.int ((((x+7919*T*T) % 2147483629)*((x+7919*T*T) % 2147483629)+40692*T+3) % 998244353),rfl,.int ((((x+7919*T*T) % 2147483629)*((x+7919*T*T) % 2147483629)+40692*T+3) % 998244353),rfl,((((x+7919*T*T) % 2147483629)*((x+7919*T*T) % 2147483629)+40692*T+3) % 998244353),((((x+7919*T*T) % 2147483629)*((x+7919*T*T) % 2147483629)+40692*T+3) % 998244353),rfl,rfl,.inl ⟨by omega,by omega⟩,.int ((x+7919*T*T) % 2147483629),rfl,((((x+7919*T*T) % 2147483629)*((x+7919*T*T) % 2147483629)+40692*T+3) % 998244353)*((((x+7919*T*T) % 2147483629)*((x+7919*T*T) % 2147483629)+40692*T+3) % 998244353),((x+7919*T*T) % 2147483629),rfl,rfl,((((x+7919*T*T) % 2147483629)*((x+7919*T*T) % 2147483629)+40692*T+3) % 998244353)*((((x+7919*T*T) % 2147483629)*((x+7919*T*T) % 2147483629)+40692*T+3) % 998244353)+((x+7919*T*T) % 2147483629),2147483587,rfl,rfl,(by show (0:Int)<2147483587;decide),(((((x+7919*T*T) % 2147483629)*((x+7919*T*T) % 2147483629)+40692*T+3) % 998244353)*((((x+7919*T*T) % 2147483629)*((x+7919*T*T) % 2147483629)+40692*T+3) % 998244353)+((x+7919*T*T) % 2147483629)) % 2147483587,16,rfl,rfl,(by show (0:Int)<16∧(16:Int)<1073741824;decide),.int m,rfl,(((((x+7919*T*T) % 2147483629)*((x+7919*T*T) % 2147483629)+40692*T+3) % 998244353)*((((x+7919*T*T) % 2147483629)*((x+7919*T*T) % 2147483629)+40692*T+3) % 998244353)+((x+7919*T*T) % 2147483629)) % 2147483587 / 16,m,rfl,rfl,m0,?_⟩
 exact k
theorem ZdI (w:List Int):((w.map V.int).length:Int)=(w.length:Int):=by simp
theorem ix0 (c:Int) (r:List Int):ixN ((c::r).map V.int).length 0=some 0:=by
 unfold ixN
 rw [if_pos (by decide),if_pos (by rw [ZdI];simp)]
 rfl
theorem ZmR {K:PySem.W.Frag} {p wa:Addr} {m x t:Int} {w1:List Int} {Q:VK} {N:St→Hp→Prop} {H:Hp} (m0:0<m) (m1:m<1073741824) (t0:0≤t) (t1:t<2 ^ 60) (hp:H p=some (.dK (Zbq x t wa))) (hw:H wa=some (.lst (w1.map V.int))) (ne:p≠wa)
  (k1:∀c r,w1=c::r→Q (.int (c % m)) (upd H wa (.lst (((c / m)::r).map V.int)))) (k2:w1=[]→Q (.int (Zjc x (t+1) % m)) (upd H p (.dK (Zbq x (t+1) wa)))) :
  ZlR K { nx:=N,rt:=Q } [some (.ref p),some (.int m),none,none,none] H:=by
 refine ⟨.ref p,rfl,p,.ref wa,rfl,dg_w hp,wa,w1.map V.int,rfl,.inl (SqL.of hw),_,0,rfl,rfl,_,rfl,?_⟩
 cases w1 with
 | nil=>
  refine iteF ?_
  exact ZmQ m0 m1 t0 t1 hp (k2 rfl)
 | cons c r=>
  have e:decide ((0:Int)<(((c::r).map V.int).length:Int))=true:=by rw [decide_eq_true_eq,ZdI];simp
  rw [e]
  refine iteT ?_
  have hi:atI ((c::r).map V.int) 0=some (.int c):=Zb6 (j:=0) rfl
  refine ⟨.ref p,rfl,p,.ref wa,rfl,dg_w hp,wa,_,0,.int c,rfl,rfl,SqL.of hw,hi,.int m,rfl,c,m,rfl,rfl,m0,?_⟩
  refine ⟨.ref p,rfl,p,.ref wa,rfl,dg_w hp,wa,_,0,.int c,rfl,rfl,SqL.of hw,hi,.int m,rfl,c,m,rfl,rfl,⟨m0,m1⟩,.ref p,rfl,p,.ref wa,rfl,dg_w hp,wa,(c::r).map V.int,0,0,rfl,rfl,hw,ix0 c r,?_⟩
  exact ⟨_,rfl,k1 c r rfl⟩
theorem Zpf {K:PySem.W.Frag} {p wa:Addr} {m x t:Int} {ww:List Int} {d:D} {pn':Pn} {Q:VK} {N:St→Hp→Prop} {H:Hp} (m0:0<m) (m1:m<1073741824) (t0:0≤t) (t1:t<2 ^ 60) (eS:ZdL m x t ww=(d,pn')) (hp:H p=some (.dK (Zbq x t wa))) (hw:H wa=some (.lst (ww.map V.int))) (ne:p≠wa)
  (k:∀(i:Int) (H':Hp),d=.int i→(∀b,b≠p→b≠wa→H' b=H b)→stD p wa pn' H'→Q (.int i) H') :
  ZmP K { nx:=N,rt:=Q } [some (.ref p),some (.int m),none,none,none] H:=by
 have fin:∀(H1:Hp) (w1:List Int),w1=ZpI m ww→H1 p=some (.dK (Zbq x t wa))→H1 wa=some (.lst (w1.map V.int))→(∀b,b≠p→b≠wa→H1 b=H b)→ZlR K { nx:=N,rt:=Q } [some (.ref p),some (.int m),none,none,none] H1:=by
  intro H1 w1 e1 hp1 hw1 ag
  refine ZmR m0 m1 t0 t1 hp1 hw1 ne (fun c r ec=>?_) fun ec=>?_
  ·have:ZdL m x t ww=(.int (c % m),([x,t],(c / m)::r)):=by unfold ZdL;rw [←e1,ec]
   rw [this] at eS
   cases eS
   refine k _ _ rfl (fun b h1 h2=>by rw [Zaj h2];exact ag b h1 h2) ⟨x,t,rfl,by rw [Zaj ne];exact hp1,Zaq,ne⟩
  ·have:ZdL m x t ww=(.int (Zjc x (t+1) % m),([x,t+1],[])):=by unfold ZdL;rw [←e1,ec]
   rw [this] at eS
   cases eS
   subst ec
   refine k _ _ rfl (fun b h1 h2=>by rw [Zaj h1];exact ag b h1 h2) ⟨x,t+1,rfl,Zaq,by rw [Zaj (Ne.symm ne)];exact hw1,ne⟩
 refine ⟨.ref p,rfl,p,.ref wa,rfl,dg_w hp,wa,ww.map V.int,rfl,.inl (SqL.of hw),_,0,rfl,rfl,_,rfl,?_⟩
 cases ww with
 | nil=>
  refine iteF ?_
  refine iteF ?_
  exact fin H [] rfl hp hw fun _ _ _=>rfl
 | cons c r=>
  have e:decide ((0:Int)<(((c::r).map V.int).length:Int))=true:=by rw [decide_eq_true_eq,ZdI];simp
  rw [e]
  refine iteT ?_
  have hi:atI ((c::r).map V.int) 0=some (.int c):=Zb6 (j:=0) rfl
  refine ⟨.ref p,rfl,p,.ref wa,rfl,dg_w hp,wa,_,0,.int c,rfl,rfl,SqL.of hw,hi,.int m,rfl,c,m,rfl,rfl,_,rfl,?_⟩
  by_cases hc:c<m
  ·rw [decide_eq_true hc]
   refine iteT ?_
   refine ⟨.ref p,rfl,p,.ref wa,rfl,dg_w hp,.inl ⟨rfl,_,SqL.of hw⟩,wa,(c::r).map V.int,0,0,.int c,rfl,rfl,hw,by decide,by decide,seqIndex_of (by decide) (by rw [ZdI];simp),rfl,?_⟩
   refine fin _ r (by show r=if c<m then r else c::r;rw [if_pos hc]) (by rw [Zaj ne];exact hp) (by rw [Zaq];rfl) fun b h1 h2=>by rw [Zaj h2]
  ·rw [decide_eq_false hc]
   refine iteF ?_
   exact fin H (c::r) (by show c::r=if c<m then r else c::r;rw [if_neg hc]) hp hw fun _ _ _=>rfl
theorem ZrQ {p wa:Addr} {Hf H H':Hp} (e1:Ext (penD p wa) Hf H) (ag:∀b,b≠p→b≠wa→H' b=H b):Gr (penD p wa) Hf H Hf H':=
 have no:∀b,¬(penD p wa).fp b→b≠p∧b≠wa:=fun b n=>⟨fun z=>n (.inl z),fun z=>n (.inr z)⟩
 ⟨fun b u n q=>by rw [ag b (no b n).1 (no b n).2];exact q,.refl _ _,fun b u n q=>by rw [ag b (no b n).1 (no b n).2];exact e1 b u n q,fun b n h1 h2=>h1⟩
theorem ZnV {K:PySem.W.Frag} {vs:List V} {H:Hp} {Q:VK} {E:XK} {N:St→Hp→Prop} (h:spD 2 true PenD ZbT vs H Q E):∃p m,vs=[.ref p,.int m]∧ZmP K { nx:=N,rt:=Q } [some (.ref p),some (.int m),none,none,none] H:=by
 obtain ⟨G,Hf,ds,pn,d,pn',hG,el,e1,r,st',eF,k'⟩:=h
 obtain ⟨p,wa,rfl⟩:=hG
 obtain ⟨m,x,t,ww,rfl,rfl,m0,m1,t0,t1,eS⟩:=ZhI eF
 obtain ⟨v1,v2,rfl,r1,r2⟩:=RepL.two_inv r
 cases (Rep.pen_iff.mp r1)
 cases (Rep.int_iff.mp r2)
 obtain ⟨x',t',ea,hp,hw,ne⟩:=st'
 simp only [List.cons.injEq,and_true] at ea
 obtain ⟨rfl,rfl⟩:=ea
 refine ⟨p,m,rfl,Zpf m0 m1 t0 t1 eS hp hw ne fun i H' ed ag st=>?_⟩
 exact k' _ Hf H' (ZrQ e1 ag) st (by rw [ed];exact Rep.int_iff.mpr rfl) fun _=>.scal fun z=>by rw [ed] at z;exact z
theorem ZjC {X:Cx} {XN:List Str} {NS:List (Str×NameKind)} {elt tg iter:Expr} {ifs:List Expr} {scope:Scope} {pos:Pos} {N':List Str} {src:List (Option Nat)} {wi:TI} {g:TG} {tt:TT} {te:TE} (hc:X.calm=true) (B:BlkS X XN NS N' src scope) (hi:PI X tg iter wi)
  (hg:∀cl pins C s H fp,PG (L2.blk X pins N' scope cl C s H fp) tg g) (ht:∀cl pins C s H fp,PIfs (L2.blk X pins N' scope cl C s H fp) ifs tt) (he:∀cl pins C s H fp,PE (L2.blk X pins N' scope cl C s H fp) elt te)
  (hs:∀x,foldedSetIterable iter X.env x=pure x:=by intro _;rfl):PE X (.ListComp elt [⟨tg,iter,ifs,0⟩] scope pos) (Zgj src wi g tt te):=by
 intro pins s σ H Q I h
 obtain ⟨cl,B'⟩:=B.ok I.ok
 exact Zln hc B' hi (hg cl) (ht cl) (he cl) hs pins s σ H Q I h
noncomputable def ZlO (K:PySem.W.Frag):TE:=Zgj [none] (Zmg K (tVar 0)) (ZcB 0) (Zhe (tOp (rI0 fun i j=>.bl (decide (j≤i))) (tVar 0) (tOp (rI CPow fun i j=>.int (i ^ j.toNat)) (tC (.int 10)) (tC (.int 15))))) (tVar 0)
noncomputable def Zr8 (K:PySem.W.Frag):TS:=tSeq (tAsg (tC (.int 7)) (ZcB 1))
 (tSeq (tFor (Zmg K (tVar 0)) (ZcB 2) (tAsg (tOp (rI (fun _ j=>0<j) fun i j=>.int (i % j)) (tOp (rI0 fun i j=>.int (i+j)) (tOp (rI0 fun i j=>.int (i+j)) (tOp (rI CMul fun i j=>.int (i*j)) (tVar 1) (tC (.int 48271))) (tOp (rI (fun _ j=>0<j) fun i j=>.int (i % j)) (tVar 2) (tC (.int 1000000007)))) (tC (.int 11))) (tC (.int 2147483629))) (ZcB 1)))
 (tRet (Zpq [(tC (.str (Str.ofString "mixed")),tVar 1),(tC (.str (Str.ofString "turn")),tC (.int 0)),(tC (.str (Str.ofString "wide")),ZlO K)])))
theorem ZmT {K:PySem.W.Frag} {H:Hp} {a p:Addr} {xs:List V} {o:HO} (sq:SqL K H a xs) (hp:H p=none):SqL K (upd H p o) a xs:=by
 have hne:∀u,H a=some u→a≠p:=fun u e z=>by rw [z,hp] at e;cases e
 rcases sq with (q | ⟨o',q⟩) | q
 ·exact .inl (.inl (by rw [Zaj (hne _ q)];exact q))
 ·exact .inl (.inr ⟨o',by rw [Zaj (hne _ q)];exact q⟩)
 ·exact .inr q
theorem Zol {H:Hp} {p:Addr} {o o':HO}:upd (upd H p o) p o'=upd H p o':=by
 funext b
 by_cases h:b=p
 ·subst h;rw [Zaq,Zaq]
 ·rw [Zaj h,Zaj h,Zaj h]
theorem Znr (m t:Int) (wa:Addr):ZdU [] (Zbq m t wa)=Zbq m t wa:=by
 have h3:¬(Str.ofString "mixed" = Str.ofString "turn"):=by decide
 have h4:¬(Str.ofString "mixed" = Str.ofString "wide"):=by decide
 have h5:¬(Str.ofString "turn" = Str.ofString "wide"):=by decide
 simp [ZdU,Zbq,putK,h3,h4,h5]
theorem ZmF (ns:List Int) (i:Nat) (c:Int) (h:ns[i]?=some c):ZcF (ns.take (i+1))=ZcF (ns.take i)++(if decide (10 ^ 15≤c)=true then [c] else []):=by
 unfold ZcF
 rw [List.take_succ,h,List.filter_append]
 congr 1
 by_cases hc:(10:Int) ^ 15≤c
 ·rw [if_pos (decide_eq_true hc)]
  exact List.filter_cons_of_pos (decide_eq_true hc)
 ·rw [if_neg (by simpa using hc)]
  exact List.filter_cons_of_neg (by simpa using hc)
theorem Zow {K:PySem.W.Frag} {a:Addr} {ns:List Int} {H:Hp} {Q:VK} {o1 o2:Option V} (sq:SqL K H a (ns.map V.int)) (hl:ns.length≤63) (k:∀p,H p=none→Q (.ref p) (upd H p (.lst ((ZcF ns).map V.int)))):ZlO K [some (.ref a),o1,o2] H Q:=by
 refine ⟨.ref a,rfl,a,rfl,⟨_,sq⟩,fun p hp=>?_⟩
 refine ⟨fun i n σ2 H2=>i≤ns.length∧n=ns.length-i∧(∃o,σ2=[o])∧H2=upd H p (.lst ((ZcF (ns.take i)).map V.int)),⟨ns.length,Nat.zero_le _,by omega,⟨none,rfl⟩,rfl⟩,fun i n σ2 H2 ⟨hi,hn,⟨o,hσ⟩,hH⟩=>?_⟩
 subst hσ hH
 have sq2:SqL K (upd H p (.lst ((ZcF (ns.take i)).map V.int))) a (ns.map V.int):=ZmT sq hp
 by_cases he:i=ns.length
 ·refine .inl ⟨⟨_,sq2,by rw [List.length_map];omega⟩,?_⟩
  subst he
  rw [List.take_length]
  exact k p hp
 ·have hlt:i<ns.length:=by omega
  have gi:(ns.map V.int)[i]?=some (.int ns[i]):=by rw [List.getElem?_map,List.getElem?_eq_getElem hlt];rfl
  refine .inr ⟨⟨_,_,sq2,gi⟩,fun x H3 ⟨y1,y2⟩=>?_⟩
  subst y1
  have ex:=y2 _ sq2
  rw [gi] at ex
  cases ex
  refine ⟨.int ns[i],rfl,10,15,rfl,rfl,⟨by decide,by decide,by decide⟩,ns[i],10 ^ (15:Int).toNat,rfl,rfl,_,rfl,?_⟩
  have ew:=ZmF ns i ns[i] (List.getElem?_eq_getElem hlt)
  by_cases hc:(10:Int) ^ 15≤ns[i]
  ·have hd:decide ((10:Int) ^ (15:Int).toNat≤ns[i])=true:=decide_eq_true hc
   rw [hd]
   refine iteT ?_
   refine ⟨.int ns[i],rfl,(ZcF (ns.take i)).map V.int,Zaq,?_,n-1,by omega,by omega,by omega,⟨_,rfl⟩,?_⟩
   ·have:(ZcF (ns.take i)).length≤(ns.take i).length:=List.length_filter_le ..
    rw [List.length_map,sizeLine_eq]
    have:=List.length_take_le i ns
    omega
   ·rw [Zol,ew,if_pos (decide_eq_true hc),List.map_append]
    rfl
  ·have hd:decide ((10:Int) ^ (15:Int).toNat≤ns[i])=false:=decide_eq_false hc
   rw [hd]
   refine iteF ?_
   refine ⟨n-1,by omega,by omega,by omega,⟨_,rfl⟩,?_⟩
   rw [ew,if_neg (by simpa using hc),List.append_nil]
theorem Zp8 {K:PySem.W.Frag} {a:Addr} {ns:List Int} {H:Hp} {Q:VK} {N:St→Hp→Prop} (sq:SqL K H a (ns.map V.int)) (hl:ns.length≤63) (k:∀(p wa:Addr) (m:Int) (H':Hp),stD p wa ([m,0],ZcF ns) H'→(∀b u,H b=some u→H' b=some u)→H p=none→H wa=none→Q (.ref p) H') :
  Zr8 K { nx:=N,rt:=Q } [some (.ref a),none,none] H:=by
 refine ⟨.ref a,rfl,a,rfl,⟨_,sq⟩,?_⟩
 refine ⟨fun i n σ2 H2=>i≤ns.length∧n=ns.length-i∧(∃x o2,σ2=[some (.ref a),some (.int x),o2])∧H2=H,⟨ns.length,Nat.zero_le _,by omega,⟨7,none,rfl⟩,rfl⟩,fun i n σ2 H2 ⟨hi,hn,⟨x,o2,hσ⟩,hH⟩=>?_⟩
 subst hσ hH
 by_cases he:i=ns.length
 ·refine .inl ⟨⟨_,sq,by rw [List.length_map];omega⟩,?_⟩
  intro p hp
  refine ⟨.int x,rfl,?_⟩
  have hp2:(upd H2 p (.dK [])) p=some (.dK []):=Zaq
  show ZlO K [some (.ref a),some (.int x),o2] (upd H2 p (.dK [])) (fun y H3=>H3 p=some (.dK [])∧∃kvs:List (Key×V),[(V.str (Str.ofString "mixed"),V.int x),(V.str (Str.ofString "turn"),V.int 0),(V.str (Str.ofString "wide"),y)]=kvs.map (fun kv=>(kV kv.1,kv.2))∧kvs.length≤15∧Q (.ref p) (upd H3 p (.dK (ZdU [] kvs))))
  refine Zow (ZmT sq hp) hl fun wa hwa=>?_
  have ne:p≠wa:=fun z=>by rw [←z,Zaq] at hwa;cases hwa
  refine ⟨by rw [Zaj ne];exact hp2,Zbq x 0 wa,rfl,by show 3≤15;decide,?_⟩
  rw [Znr]
  have hwa0:H2 wa=none:=by rw [Zaj (Ne.symm ne)] at hwa;exact hwa
  exact k p wa x _ ⟨x,0,rfl,Zaq,by rw [Zaj (Ne.symm ne)];exact Zaq,ne⟩ (fun b u e=>by rw [Zaj (Zas e hp),Zaj (Zas e hwa0),Zaj (Zas e hp)];exact e) hp hwa0
 ·have hlt:i<ns.length:=by omega
  have gi:(ns.map V.int)[i]?=some (.int ns[i]):=by rw [List.getElem?_map,List.getElem?_eq_getElem hlt];rfl
  refine .inr ⟨⟨_,_,sq,gi⟩,fun σ' H'=>(∃x o2,σ'=[some (.ref a),some (.int x),o2])∧H'=H2,fun σ' H' h=>⟨n-1,by omega,by omega,by omega,h.1,h.2⟩,fun x' H' ⟨y1,y2⟩=>?_⟩
  subst y1
  have ex:=y2 _ sq
  rw [gi] at ex
  cases ex
  refine ⟨.int x,rfl,x,48271,rfl,rfl,.inr ⟨by decide,by decide⟩,.int ns[i],rfl,ns[i],1000000007,rfl,rfl,(by show (0:Int)<1000000007;decide),x*48271,ns[i] % 1000000007,rfl,rfl,x*48271+ns[i] % 1000000007,11,rfl,rfl,x*48271+ns[i] % 1000000007+11,2147483629,rfl,rfl,(by show (0:Int)<2147483629;decide),⟨_,_,rfl⟩,rfl⟩
noncomputable def inT (L:List (Addr×Str)) (b:Addr):Prop:=∃q,(b,q)∈L
noncomputable def ZpN (G0:Gh) (L:List (Addr×Str)) (P:Addr) (q:Str) (H:Hp):Prop:=∃ps,H P=some (.tbl ps)∧TriplesOk ps.toList∧∀pos cv,codeAmong pos ps.toList=some cv→∃c',cv=.ref c'∧H c'=some (.ext (codeφ c' q))∧¬G0.fp c'∧¬inT L c'
noncomputable def Ze8 (G0:Gh) (L:List (Addr×Str)):Gh where
 fp:=fun b=>G0.fp b∨inT L b
 rd:=fun b=>G0.rd b∨inT L b
 pen:=G0.pen
 st:=fun s H=>G0.st s H∧∀P q,(P,q)∈L→ZpN G0 L P q H
 mono:=fun s H H' ⟨h1,h2⟩ k1 k2=>⟨G0.mono s H H' h1 (fun b o r=>k1 b o (.inl r)) k2,fun P q m=>by
  obtain ⟨ps,e,t,h⟩:=h2 P q m
  refine ⟨ps,k1 P _ (.inr ⟨q,m⟩) e,t,fun pos cv hc=>?_⟩
  obtain ⟨c',z1,z2,z3⟩:=h pos cv hc
  exact ⟨c',z1,k2 _ _ z2,z3⟩⟩
 sub:=fun b h=>h.elim (fun z=>.inl (G0.sub b z)) .inr
 dom:=fun s H b ⟨h1,h2⟩ hb=>by
  rcases hb with z | ⟨q,m⟩
  ·exact G0.dom s H b h1 z
  ·obtain ⟨ps,e,_⟩:=h2 b q m
   exact ⟨_,e⟩
 ntp:=fun s H b vs ⟨h1,h2⟩ hb=>by
  rcases hb with z | ⟨q,m⟩
  ·exact G0.ntp s H b vs h1 z
  ·obtain ⟨ps,e,_⟩:=h2 b q m
   rw [e];intro z;cases z
theorem Zi3 {pos pos':Pos} {c:Value} (l:List Value) (h:TriplesOk l) {cv:Value} (hc:codeAmong pos' (l ++ [rawInt pos.line,rawInt pos.col,c])=some cv):codeAmong pos' l=some cv∨cv=c:=by
 fun_induction TriplesOk l with
 | case1=>
  simp only [List.nil_append,rawInt,codeAmong] at hc
  split at hc
  ·exact .inr (Option.some.inj hc).symm
  ·cases hc
 | case2 a b d e f rest ih=>
  simp only [List.cons_append,codeAmong] at hc ⊢
  split at hc
  ·rename_i h1;rw [if_pos h1];exact .inl hc
  ·rename_i h1;rw [if_neg h1];exact ih h hc
 | case3=>cases h
theorem ZkB {pos:Pos} {c:Value} (l:List Value) (h:TriplesOk l):TriplesOk (l ++ [rawInt pos.line,rawInt pos.col,c]):=by
 fun_induction TriplesOk l with
 | case1=>simp [TriplesOk,rawInt]
 | case2 a b d e f rest ih=>simp only [List.cons_append,TriplesOk];exact ih h
 | case3=>cases h
noncomputable def LOk (L:List (Addr×Str)):Prop:=∀P q q',(P,q)∈L→(P,q')∈L→q=q'
noncomputable def PenT (GG0:Gh→Prop) (L:List (Addr×Str)) (G:Gh):Prop:=∃G0,GG0 G0∧(∀b,inT L b→¬G0.rd b)∧G=Ze8 G0 L
theorem ZpT {G0:Gh} {L:List (Addr×Str)} {P:Addr} {q:Str} (lo:LOk L) (hrd:∀b,inT L b→¬G0.rd b) (m:(P,q)∈L):TabG P q (Ze8 G0 L):=by
 refine ⟨fun s H st=>?_,.inr ⟨q,m⟩,fun s H ps pos c' st hP hc hn=>?_⟩
 ·obtain ⟨ps,e,t,h⟩:=st.2 P q m
  refine ⟨ps,e,t,fun pos cv hc=>?_⟩
  obtain ⟨c',z1,z2,z3,z4⟩:=h pos cv hc
  exact ⟨c',z1,z2,fun z=>z.elim z3 z4⟩
 ·have hcP:c'≠P:=fun z=>by rw [z,hP] at hc;cases hc
  have notL:¬inT L c':=fun ⟨q',m'⟩=>by
   obtain ⟨_,e,_⟩:=st.2 c' q' m'
   rw [hc] at e;cases e
  have k2:∀b φ,H b=some (.ext φ)→upd (upd H P (.tbl (ps ++ #[rawInt pos.line,rawInt pos.col,.ref c']))) c' (.ext (codeφ c' q)) b=some (.ext φ):=fun b φ e=>by
   rw [Zaj (Zas e hc),Zaj (fun z=>by rw [z,hP] at e;cases e)];exact e
  refine ⟨G0.mono s H _ st.1 (fun b o r e=>?_) k2,fun P' q' m'=>?_⟩
  ·rw [Zaj (Zas e hc),Zaj (fun z=>hrd P ⟨q,m⟩ (by rw [←z];exact r))];exact e
  ·by_cases hb:P'=P
   ·subst hb
    have:=lo P' q q' m m'
    subst this
    obtain ⟨ps',e,t,h⟩:=st.2 P' q m
    rw [hP] at e;cases e
    refine ⟨_,by rw [Zaj (Ne.symm hcP),Zaq],?_,fun pos' cv hcv=>?_⟩
    ·rw [Array.toList_append];exact ZkB _ t
    ·rw [Array.toList_append] at hcv
     rcases Zi3 (pos:=pos) _ t hcv with z | z
     ·obtain ⟨c2,z1,z2,z3⟩:=h pos' cv z
      exact ⟨c2,z1,k2 _ _ z2,z3⟩
     ·exact ⟨c',z,Zaq,Gh.nofp st.1 hc,notL⟩
   ·obtain ⟨ps',e,t,h⟩:=st.2 P' q' m'
    refine ⟨ps',by rw [Zaj (Zas e hc),Zaj hb];exact e,t,fun pos' cv hcv=>?_⟩
    obtain ⟨c2,z1,z2,z3⟩:=h pos' cv hcv
    exact ⟨c2,z1,k2 _ _ z2,z3⟩
noncomputable def ZaJ (L:List (Addr×Str)) (G:Gh):Prop:=∀P q,(P,q)∈L→TabG P q G
theorem PenT.tabs {GG0:Gh→Prop} {L:List (Addr×Str)} {G:Gh} (lo:LOk L) (h:PenT GG0 L G):ZaJ L G:=by
 obtain ⟨G0,_,hrd,rfl⟩:=h
 exact fun P q m=>ZpT lo hrd m
mutual
theorem Rep.tr {G G':Gh} {H H':Hp} (h:∀a o,¬G.fp a→H a=some o→(∀ps,o≠.tbl ps)→¬G'.fp a∧H' a=some o) (hp:G'.pen=G.pen):∀{d:D} {v:V},Za5 d=true→Rep G H d v→Rep G' H' d v
 | .non,_,_,r=>Rep.non_iff.mpr (Rep.non_iff.mp r)
 | .bl _,_,_,r=>Rep.bl_iff.mpr (Rep.bl_iff.mp r)
 | .int _,_,_,r=>Rep.int_iff.mpr (Rep.int_iff.mp r)
 | .str _,_,_,r=>Rep.str_iff.mpr (Rep.str_iff.mp r)
 | .tup ds,v,n,r=>by
  obtain ⟨a,vs,e1,nf,e2,r⟩:=Rep.tup_iff.mp r
  obtain ⟨z1,z2⟩:=h a _ nf e2 (fun _ z=>by cases z)
  exact Rep.tup_iff.mpr ⟨a,vs,e1,z1,z2,RepL.tr h hp (by simpa [Za5] using n) r⟩
 | .lst ds,v,n,r=>by
  obtain ⟨a,vs,e1,nf,e2,r⟩:=Rep.lst_iff.mp r
  obtain ⟨z1,z2⟩:=h a _ nf e2 (fun _ z=>by cases z)
  exact Rep.lst_iff.mpr ⟨a,vs,e1,z1,z2,RepL.tr h hp (by simpa [Za5] using n) r⟩
 | .dk _,_,_,r=>by
  obtain ⟨a,e1,nf,e2⟩:=Rep.dk_iff.mp r
  obtain ⟨z1,z2⟩:=h a _ nf e2 (fun _ z=>by cases z)
  exact Rep.dk_iff.mpr ⟨a,e1,z1,z2⟩
 | .dt _,_,_,r=>by
  obtain ⟨a,o,e1,nf,e2⟩:=Rep.dt_iff.mp r
  obtain ⟨z1,z2⟩:=h a _ nf e2 (fun _ z=>by cases z)
  exact Rep.dt_iff.mpr ⟨a,o,e1,z1,z2⟩
 | .du _,_,_,r=>by
  obtain ⟨a,e1,nf,e2⟩:=Rep.du_iff.mp r
  obtain ⟨z1,z2⟩:=h a _ nf e2 (fun _ z=>by cases z)
  exact Rep.du_iff.mpr ⟨a,e1,z1,z2⟩
 | .df _,_,_,r=>by
  obtain ⟨a,o,e1,nf,e2⟩:=Rep.df_iff.mp r
  obtain ⟨z1,z2⟩:=h a _ nf e2 (fun _ z=>by cases z)
  exact Rep.df_iff.mpr ⟨a,o,e1,z1,z2⟩
 | .pen,_,_,r=>Rep.pen_iff.mpr ((Rep.pen_iff.mp r).trans hp.symm)
 | .ty _,_,_,r=>Rep.ty_iff.mpr (Rep.ty_iff.mp r)
 | .clo _ _,_,n,_=>by simp [Za5] at n
theorem RepL.tr {G G':Gh} {H H':Hp} (h:∀a o,¬G.fp a→H a=some o→(∀ps,o≠.tbl ps)→¬G'.fp a∧H' a=some o) (hp:G'.pen=G.pen):∀{ds:List D} {vs:List V},Zbh ds=true→RepL G H ds vs→RepL G' H' ds vs
 | [],_,_,r=>RepL.nil_iff.mpr (RepL.nil_iff.mp r)
 | d::ds,vs,n,r=>by
  obtain ⟨v,rr,e,h1,h2⟩:=RepL.cons_iff.mp r
  have n':Za5 d=true∧Zbh ds=true:=by simpa [Zbh] using n
  exact RepL.cons_iff.mpr ⟨v,rr,e,Rep.tr h hp n'.1 h1,RepL.tr h hp n'.2 h2⟩
end
open Classical in
noncomputable def hidL (L:List (Addr×Str)) (H H2:Hp):Hp:=fun b=>if inT L b then H2 b else H b
theorem ZqM {L:List (Addr×Str)} {H H2:Hp} {b:Addr} (h:inT L b):hidL L H H2 b=H2 b:=by unfold hidL;rw [if_pos h]
theorem ZbQ {L:List (Addr×Str)} {H H2:Hp} {b:Addr} (h:¬inT L b):hidL L H H2 b=H b:=by unfold hidL;rw [if_neg h]
theorem ZqO {P:Program} {w:World} {K:PySem.W.Frag} {mg:Str→Option Value} {base:Heap} {k:Nat} {f:Addr} {fd:FuncData} {ps:List Str} {n:Nat} {fr:Bool} {GG0:Gh→Prop} {L:List (Addr×Str)} {F:List D→M D} (FN:FnOk P w K mg base CX0 k f fd ps (spD n fr GG0 F))
  (hF:∀ds s d s',F ds s=some (d,s')→Zbh ds=true∧Za5 d=true):FnOk P w K mg base CX0 k f fd ps (spD n fr (PenT GG0 L) F):=by
 refine FN.imp fun vs H Q E h=>?_
 obtain ⟨G,Hf,ds,s,d,s',⟨G0,hG0,hrd,rfl⟩,hl,e1,r,st,eF,k⟩:=h
 obtain ⟨n1,n2⟩:=hF _ _ _ _ eF
 have nfp:∀b,inT L b→¬G0.fp b:=fun b m z=>hrd b m (G0.sub b z)
 have e1':Ext G0 (hidL L Hf fun _=>none) H:=fun b o nb q=>by
  by_cases m:inT L b
  ·rw [ZqM m] at q;cases q
  ·rw [ZbQ m] at q;exact e1 b o (fun z=>z.elim nb m) q
 refine ⟨G0,hidL L Hf fun _=>none,ds,s,d,s',hG0,hl,e1',RepL.tr (G:=Ze8 G0 L) (G':=G0) (fun a o na q _=>?_) rfl n1 r,st.1,eF,fun v Hf' H' g st' r' fz=>?_⟩
 ·have m:¬inT L a:=fun z=>na (.inr z)
  exact ⟨fun z=>na (.inl z),by rw [ZbQ m];exact q⟩
 ·have tab:∀b,inT L b→∃ps,H' b=some (.tbl ps):=fun b ⟨q,m⟩=>by
   obtain ⟨ps,e,_⟩:=st.2 b q m
   exact ⟨ps,g.hh b _ (nfp b ⟨q,m⟩) e⟩
  have out:∀a o,¬G0.fp a→Hf' a=some o→(∀ps,o≠.tbl ps)→¬inT L a:=fun a o na q no m=>by
   obtain ⟨ps,e⟩:=tab a m
   rw [g.fh a o na q] at e
   exact no ps (Option.some.inj e)
  have tr:∀a o,¬G0.fp a→Hf' a=some o→(∀ps,o≠.tbl ps)→¬(Ze8 G0 L).fp a∧hidL L Hf' Hf a=some o:=fun a o na q no=>by
   have m:=out a o na q no
   exact ⟨fun z=>z.elim na m,by rw [ZbQ m];exact q⟩
  refine k v (hidL L Hf' Hf) H' ⟨fun b o nb q=>g.hh b o (fun z=>nb (.inl z)) q,fun b o nb q=>?_,fun b o nb q=>?_,fun b nb q1 q2=>?_⟩ ⟨st',fun P q m=>?_⟩ (Rep.tr (G:=G0) (G':=Ze8 G0 L) tr rfl n2 r') fun z a ea mu=>?_
  ·have m:¬inT L b:=fun z=>nb (.inr z)
   rw [ZbQ m]
   exact g.ff b o (fun z=>nb (.inl z)) (by rw [ZbQ m];exact q)
  ·have m:¬inT L b:=fun z=>nb (.inr z)
   rw [ZbQ m] at q
   exact g.fh b o (fun z=>nb (.inl z)) q
  ·have m:¬inT L b:=fun z=>nb (.inr z)
   rw [ZbQ m]
   exact g.nw b (fun z=>nb (.inl z)) (by rw [ZbQ m];exact q1) q2
  ·obtain ⟨ps,e,t,h⟩:=st.2 P q m
   refine ⟨ps,g.hh P _ (nfp P ⟨q,m⟩) e,t,fun pos cv hc=>?_⟩
   obtain ⟨c',z1,z2,z3,z4⟩:=h pos cv hc
   exact ⟨c',z1,g.hh c' _ z3 z2,z3,z4⟩
  ·obtain ⟨h1,h2⟩:=fz z a ea mu
   refine ⟨h1,fun xs ed=>?_⟩
   obtain ⟨us,Hm,q1,q2,q3,q4⟩:=h2 xs ed
   have na:¬inT L a:=fun m=>by
    obtain ⟨q,m⟩:=m
    obtain ⟨ps,e,_⟩:=st.2 a q m
    rw [h1] at e;cases e
   refine ⟨us,hidL L Hm fun _=>none,by rw [ZbQ na];exact q1,by rw [ZbQ na];exact q2,fun b o nb q=>?_,?_⟩
   ·have m:¬inT L b:=fun z=>nb (.inr z)
    rw [ZbQ m] at q ⊢
    exact q3 b o (fun z=>nb (.inl z)) q
   ·subst ed
    refine RepL.tr (G:=G0) (G':=Ze8 G0 L) (fun b o nb q no=>?_) rfl (by simpa [Za5] using n2) q4
    have m:=out b o nb (q3 b o nb q) no
    exact ⟨fun z=>z.elim nb m,by rw [ZbQ m];exact q⟩
theorem Zkt {P:Program} {w:World} {K:PySem.W.Frag} {mg:Str→Option Value} {base:Heap} {k:Nat} {x:Str} {n:Nat} {fr:Bool} {GG0:Gh→Prop} {L:List (Addr×Str)} {F:List D→M D} (c:Cal P w K mg base k x n fr GG0 F) (hF:∀ds s d s',F ds s=some (d,s')→Zbh ds=true∧Za5 d=true):Cal P w K mg base k x n fr (PenT GG0 L) F:=
 let ⟨f,fd,ps,a,b,c,d⟩:=c
 ⟨f,fd,ps,ZqO a hF,b,c,d⟩
theorem Zpg:∀ds s d s',ZbT ds s=some (d,s')→Zbh ds=true∧Za5 d=true:=fun ds s d s' h=>by
 obtain ⟨k,m,t,w,rfl,rfl,_,_,_,_,e⟩:=ZhI h
 refine ⟨rfl,?_⟩
 unfold ZdL at e
 split at e <;> (cases e;rfl)
theorem Zpc {N ps:List Str} {own:List Nat} {fr:Bool} {G:Gh} {t:TS} {g:Rho→M Out} {vs:List V} {ds:List D} {Hf H:Hp} {pn pn':Pn} {d:D} {Q:VK} (hpl:ps.length≤N.length) (q:Dos G [] [] own fr t g) (e1:Ext G Hf H) (r:RepL G Hf ds vs) (st':G.st pn H) (eF:runB N.length ps.length g ds pn=some (d,pn'))
  (k':∀v Hf' H',Gr G Hf H Hf' H'→G.st pn' H'→Rep G Hf' d v→(fr=true→ZaG G H Hf' d v)→Q v H'):t { nx:=fun _ H'=>Q .non H',rt:=Q } (L2.start N vs) H:=by
 obtain ⟨hl,a0⟩:=Za4 eF
 obtain ⟨o,s1,a1,a2⟩:=Zah a0
 have j0:Jf G [] Hf Hf H (L2.start N vs) Hf H (ds.map some++List.replicate (N.length-ps.length) none):=by
  refine ⟨?_,.refl _ _,.refl e1,fun i d n e=>?_,fun i d m e=>absurd m (by simp),fun i j a di dj mi mj n e=>absurd mi (by simp)⟩
  ·have:=r.length
   unfold L2.start;simp;omega
  ·have hi:i<ds.length:=by
    by_cases hi:i<ds.length
    ·exact hi
    ·rw [List.getElem?_append_right (by simpa using hi),List.getElem?_replicate] at e
     split at e <;> cases e
   have e':ds[i]?=some d:=by
    rw [List.getElem?_append_left (by simpa using hi),List.getElem?_map] at e
    cases q:ds[i]? with
    | none=>rw [q] at e;cases e
    | some c=>rw [q] at e;simp at e;rw [e]
   obtain ⟨v,h1,h2⟩:=r.get e'
   refine ⟨v,?_,h2⟩
   unfold L2.start
   rw [List.getElem?_append_left (by simp;rw [←r.length];exact hi),List.getElem?_map,h1]
   rfl
 refine q Hf Hf H (L2.start N vs) H _ pn o s1 _ ⟨Hf,j0⟩ st' a1 ?_
 cases o with
 | rt c=>
  obtain ⟨rfl,rfl⟩:=Zao a2
  exact fun v Hf' H' g' st2 r2 fz=>k' v Hf' H' g' st2 r2 fz
 | nx ρ'=>
  obtain ⟨rfl,rfl⟩:=Zao a2
  exact fun σ' H' ⟨Hf',j'⟩ st2=>k' .non Hf' H' j'.gr st2 (Rep.non_iff.mpr rfl) fun _=>.scal fun z=>z
 | bk ρ'=>cases a2
 | ct ρ'=>cases a2
theorem fnDC {P:Program} {w:World} {K:PySem.W.Frag} {mg:Str→Option Value} {base:Heap} {x qual:Str} {st:Stmt} {f:Addr} {fd:FuncData} {N ps:List Str} {k:Nat} {own:List Nat} {fr:Bool} {GG:Gh→Prop} {g:Rho→M Out}
  (F:Fun K x qual st f fd) (S:FnScope N ps (Zak st))
  (hb:∀(A:Around) (outer:List Env) (s:Shared) (H:Hp) (E:XK),Room k (A.deeper (envOfC qual (Zak st) s.heap.objs.size f fd.code))→∀G,GG G→PDSs (cxOf CX0 P w K mg base N qual (Zak st) f fd.code A outer s H E).nox G [] [] own fr (Zb5 st) g) :
  FnOk P w K mg base CX0 (k+1) f fd ps (spD ps.length fr GG (runB N.length ps.length g)):=by
 obtain ⟨oc,od,kV,doc,pm,an,cdv,ct,osl,rfl,lk,hcd⟩:=F.ex
 refine ZpG lk hcd S (fun vs H Q E ⟨_,_,_,_,_,_,_,e,_⟩=>e) fun A outer s H vs Q E hr h=>?_
 obtain ⟨G,Hf,ds,pn,d,pn',hG,el,e1,r,st',eF,k'⟩:=h
 obtain ⟨t,p,q⟩:=hb A outer s H E hr G hG
 exact ⟨t,p.nox,Zpc (by have:=congrArg List.length S.pre;rw [List.length_take] at this;omega) q e1 r st' eF k'⟩
section
variable {X:Cx} {G:Gh} {P c:Addr} {q:Str} {k kl n:Nat} {x:Str} {fr frb:Bool} {F:List D→M D} {T:Nat→List D→M D} {t:Nat} {e1:Expr} {f1:Rho→M D} {r1:Bool} {params:Arguments} {scope:Scope} {lpos ppos pos:Pos} {XN N ps:List Str} {NS:List (Str×NameKind)} {cix:List Nat}
end
noncomputable def BMn (mg:Str→Option Value) (h:Heap):Prop:=∃bm o,mg "__builtins__" = some (.ref bm)∧bm≠builtinsNs∧bm≠mainGlobals∧h.get? bm=some o∧o.cls=.type "module"∧o.dict=some builtinsNs∧o.data=.plain
theorem Znw {P:Program} {w:World} {K:PySem.W.Frag} {mg mb:Str→Option Value} {CX:CXT} {k:Nat} {fa a:Addr} {fd:FuncData} {x:Str} {sp:Sp} {s₁:Shared} {vs:List Value} {ns:List Int} {tb:List (Addr×Addr)}
  (KX:K.In s₁.heap) (hns:s₁.heap.Ns mainGlobals mg) (hb:s₁.heap.Ns builtinsNs mb) (hbb:∀x:Str,x≠"__name__"→mb x=bootBuiltins x) (hlim:s₁.heap.NoLimit) (hg:s₁.gens = #[])
  (hT:∀e∈tb,PySem.W.CodeHd s₁.heap e.1 e.2∧s₁.heap.get? e.2=some (PySem.W.tabObj #[])) (hKt:PySem.W.noTabs K=true) (hbm:BMn mg s₁.heap)
  (ha:s₁.heap.get? a=some { cls:=.type "list",data:=.seq vs.toArray }) (hi:IntsAre vs ns) (hl:ns.length≤sizeLine) (hr:Room k callerA)
  (F:∀base:Heap,K.In base→base.Ns mainGlobals mg→(∀e∈tb,PySem.W.CodeHd base e.1 e.2)→BMn mg base→FnOk P w K mg base CX k fa fd [x] sp) (hbind:∀(s:Shared) (u:Value),BindsTo s fd ⟨[u],[]⟩ [(x,u)])
  (hsp:∀H:Hp,SqL K H a (ns.map V.int)→(∀e∈tb,H e.2=some (.tbl #[]))→sp [.ref a] H (fun v _=>v=.bl true) fun _ _ _=>False)
  (hCX:∀H e s',CX [] H s₁ (fun _ _ _=>False) e s'→False) :
  codeAny (model P w) callerA (.call (.ref fa) ⟨[.ref a],[]⟩) (fun r s'=>r=.ok (.ret (.bool true))∧OldK s₁.heap s'.heap∧s'.os=s₁.os∧AllBare s'.gens) s₁:=by
 have rv:=Zij hi
 have lenV:=hi.length
 have tabne:∀e∈tb,e.2≠a:=fun e he z=>by
  have:=(hT e he).2
  rw [z,ha] at this;cases this
 have noK:∀e∈tb,K.lookup e.2=none:=fun e he=>by
  cases q:K.lookup e.2 with
  | none=>rfl
  | some o=>
   have h2:=List.all_eq_true.mp hKt (e.2,o) (PySem.W.mem_of_lookupK q)
   have e1:=KX _ _ q
   rw [(hT e he).2] at e1
   cases e1
   exact absurd (show false=true from h2) Bool.false_ne_true
 have core:∀H:Hp,(∀b u,H b=some u→(b=a∧u=.frz { cls:=.type "list",data:=.seq vs.toArray } (.lst (ns.map V.int))∧K.lookup a=none)∨(u=.tbl #[]∧∃e∈tb,e.2=b))→SqL K H a (ns.map V.int)→(∀e∈tb,H e.2=some (.tbl #[]))→
   codeAny (model P w) callerA (.call (.ref fa) ⟨[.ref a],[]⟩) (fun r s'=>r=.ok (.ret (.bool true))∧OldK s₁.heap s'.heap∧s'.os=s₁.os∧AllBare s'.gens) s₁:=by
  intro H hO hS hTb
  have hok:HOk P w H s₁.heap:=fun b u e=>by
   rcases hO b u e with ⟨rfl,rfl,_⟩ | ⟨rfl,e',he,rfl⟩
   ·exact ⟨ha,by rw [List.length_map];exact hl,vs,_,rv,ha⟩
   ·exact (hT e' he).2
  have base_of:∀{b:Addr} {o:Obj},s₁.heap.get? b=some o→H b=none→(hidT s₁.heap H).get? b=some o:=fun e n=>Zpa e n
  have noA:∀{b:Addr} {o:Obj},s₁.heap.get? b=some o→(∀vs n,o.data≠.seq vs n)→(∀vs,o.data≠.fields vs∨o.cls≠.none)→H b=none:=fun {b o} e d1 d2=>by
   cases q:H b with
   | none=>rfl
   | some u=>
    rcases hO b u q with ⟨rfl,_,_⟩ | ⟨_,e',he,rfl⟩
    ·rw [ha] at e;cases e;exact absurd rfl (d1 _ _)
    ·rw [(hT e' he).2] at e;cases e
     rcases d2 #[] with z | z
     ·exact absurd rfl z
     ·exact absurd rfl z
  have nsK:∀{b:Addr} {m:Str→Option Value},s₁.heap.Ns b m→(hidT s₁.heap H).Ns b m:=fun {b m} ⟨o,es,ep,e,d,r⟩=>⟨o,es,ep,base_of e (noA e (fun _ _ z=>by rw [d] at z;cases z) fun _=>.inl fun z=>by rw [d] at z;cases z),d,r⟩
  have hKb:K.In (hidT s₁.heap H):=fun b o e=>base_of (KX b o e) (by
   cases q:H b with
   | none=>rfl
   | some u=>
    rcases hO b u q with ⟨rfl,_,z⟩ | ⟨_,e',he,rfl⟩
    ·rw [z] at e;cases e
    ·rw [noK e' he] at e;cases e)
  have hM:Mod K mg (hidT s₁.heap H):=⟨hKb,nsK hns,⟨mb,nsK hb,hbb⟩,let ⟨mc,h1,h2⟩:=hlim;⟨mc,nsK h1,h2⟩⟩
  have e0:Env0 P w K mg (hidT s₁.heap H) callerA [] s₁ H:=⟨rfl,hM,fun b o e=>Zqx e,Nat.le_of_eq (ZnQ _ _),trivial,fun b hb=>absurd (show b∈([]:List Addr) from hb) (by simp),hok,.of_eq hg⟩
  have hCd:∀e∈tb,PySem.W.CodeHd (hidT s₁.heap H) e.1 e.2:=fun e he=>by
   obtain ⟨o,vs',file,tf,flags,tg,inF,text,tt,e1,r1,r2,r3⟩:=(hT e he).1
   exact ⟨o,vs',file,tf,flags,tg,inF,text,tt,base_of e1 (noA e1 (fun _ _ z=>by rw [r2] at z;cases z) fun _=>.inr (by rw [r1];nofun)),r1,r2,r3⟩
  have hBm:BMn mg (hidT s₁.heap H):=by
   obtain ⟨bm,o,e1,e2,e3,e4,e5,e6,e7⟩:=hbm
   exact ⟨bm,o,e1,e2,e3,base_of e4 (noA e4 (fun _ _ z=>by rw [e7] at z;cases z) fun _=>.inl fun z=>by rw [e7] at z;cases z),e5,e6,e7⟩
  refine codeAny_mono ((F _ hKb (nsK hns) hCd hBm).run callerA [] s₁ H ⟨[.ref a],[]⟩ [.ref a] [.ref a] _ _ hr e0 (hbind s₁ (.ref a)) (.cons rfl .nil) (hsp H hS hTb)) fun r s' h=>?_
  cases r with
  | error e=>exact (hCX H e s' h).elim
  | ok fl=>
   cases fl with
   | next=>exact False.elim h
   | brk=>exact False.elim h
   | cont=>exact False.elim h
   | ret u=>
    obtain ⟨v,H',os,bare,un,hok',r',q⟩:=h
    have q':v=.bl true:=q
    subst q'
    obtain rfl:u=Value.bool true:=r'
    refine ⟨rfl,⟨fun b o e=>?_,fun b o e=>un.there b o e (by simp)⟩,os,bare⟩
    cases q:H b with
    | none=>exact .inl (un.keep b o e q (by intro z;exact absurd (show b∈([]:List Addr) from z) (by simp)) (by simp))
    | some u=>
     rcases hO b u q with ⟨rfl,rfl,_⟩ | ⟨rfl,e',he,rfl⟩
     ·have z2:=un.frzs b _ _ q
      obtain ⟨e1,_⟩:=hok b _ q
      obtain ⟨e2,_⟩:=hok' b _ z2
      rw [e] at e1;cases e1
      exact .inl e2
     ·obtain ⟨more,z⟩:=un.tbls _ _ q
      have z2:s'.heap.get? e'.2=some (PySem.W.tabObj (#[]++more)):=hok' _ _ z
      have e1:=(hT e' he).2
      rw [e] at e1;cases e1
      exact .inr (.inl ⟨((hT e' he).1.tab (hT e' he).2).isCodeTable,rfl,#[],more,rfl,z2⟩)
 cases hk:K.lookup a with
 | some o=>
  have e:=KX a o hk
  rw [ha] at e
  cases e
  refine core (fun b=>open Classical in if ∃e∈tb,e.2=b then some (.tbl #[]) else none) (fun b u z=>?_) (.inr ⟨_,vs.toArray,_,hk,rfl,rfl,rfl,by rw [List.size_toArray,lenV];exact hl,by simpa using rv⟩) (fun e he=>if_pos ⟨e,he,rfl⟩)
  by_cases h:∃e∈tb,e.2=b
  ·rw [if_pos h] at z;cases z;exact .inr ⟨rfl,h⟩
  ·rw [if_neg h] at z;cases z
 | none=>
  refine core (fun b=>open Classical in if ∃e∈tb,e.2=b then some (.tbl #[]) else if b=a then some (.frz { cls:=.type "list",data:=.seq vs.toArray } (.lst (ns.map V.int))) else none) (fun b u z=>?_) (.inl (.inr ⟨{ cls:=.type "list",data:=.seq vs.toArray },?_⟩)) (fun e he=>if_pos ⟨e,he,rfl⟩)
  ·by_cases h:∃e∈tb,e.2=b
   ·rw [if_pos h] at z;cases z;exact .inr ⟨rfl,h⟩
   ·rw [if_neg h] at z
    by_cases hb:b=a
    ·rw [if_pos hb] at z;cases z;exact .inl ⟨hb,rfl,hk⟩
    ·rw [if_neg hb] at z;cases z
  ·show (if ∃e∈tb,e.2=a then _ else _)=_
   rw [if_neg (fun ⟨e,he,z⟩=>tabne e he z),if_pos rfl]
theorem Zoj {l : PySem.W.OpenLaw} {n k : Nat} {q : Program} {loose : List Str} {XP : (Str → Option Value) → Heap → Prop} {YP : World → Heap → Prop} {d : DefRec} {K : Params → PySem.W.Frag} {CX : World → CXT} {sp : World → Sp} {x : Str} {tb : List (Str × Addr × Addr)}
    (hn : l.most = some n) (hn2 : n ≤ sizeLine) (hdf : d.params.defaults = []) (hr : Room k callerA)
    (hY : ∀ (w : World) (h : Heap), YP w h → (K w.params).In h)
    (hrec : ∀ e ∈ tb, ∃ d, (recsOf q).find? (fun r => r.name == e.1) = some d) (htab : ∀ w : World, ∀ e ∈ tb, PySem.W.tabIn (K w.params) e.1 = some e.2) (hno : ∀ w : World, PySem.W.noTabs (K w.params) = true)
    (F : ∀ (w : World) (mg : Str → Option Value) (fa : Addr) (h : Heap), (K w.params).In h → h.Ns mainGlobals mg → mg d.name = some (.ref fa) →
      ∃ fd : FuncData, (∀ (s : Shared) (u : Value), BindsTo s fd ⟨[u], []⟩ [(x, u)]) ∧
        ∀ base : Heap, (K w.params).In base → base.Ns mainGlobals mg → (∀ e ∈ tb, PySem.W.CodeHd base e.2.1 e.2.2) → BMn mg base → FnOk l.prog w (K w.params) mg base (CX w) k fa fd [x] (sp w))
    (hsp : ∀ (w : World) (H : Hp) (a : Addr) (ns : List Int), ns.length ≤ n → SqL (K w.params) H a (ns.map V.int) → (∀ e ∈ tb, H e.2.2 = some (.tbl #[])) → sp w [.ref a] H (fun v _ => v = .bl true) fun _ _ _ => False)
    (hCX : ∀ (w : World) (H : Hp) (s : Shared) (e : Value) (s' : Shared), CX w [] H s (fun _ _ _ => False) e s' → False) :
    PySem.W.WalkO q loose XP YP l.row.toRowW d [] (fun f vs => PySem.call f vs) := by
  refine Att.attach_call hn hdf fun w s₀ s₁ mg mb fa o pm cd doc a vs ns G Y ho hd hcd hmg hobj hints hlen hg => ?_
  have KX := hY w _ Y
  obtain ⟨fd, hb, hF⟩ := F w mg fa _ KX G.T.g hmg
  have hT : ∀ e ∈ tb.map (·.2), PySem.W.CodeHd s₁.heap e.1 e.2 ∧ s₁.heap.get? e.2 = some (PySem.W.tabObj #[]) := fun e he => by
    obtain ⟨e', he', rfl⟩ := List.mem_map.mp he
    obtain ⟨d', hd'⟩ := hrec e' he'
    exact PySem.W.tab_of G.T KX hd' (htab w e' he')
  exact Znw (tb := tb.map (·.2)) KX G.T.g G.T.b G.T.builtins G.T.nolimit hg hT (hno w) (let ⟨bm, ob, a, b, c, d, e, f⟩ := G.T.bmain; ⟨bm, ob, a, b, (fun z => by
      obtain ⟨o, es, ep, e', hd', _⟩ := G.T.g
      rw [z, e'] at c; cases c; rw [hd'] at f; cases f), c, d, e, f⟩) hobj hints (Nat.le_trans hlen hn2) hr
    (fun base h1 h2 h3 h4 => hF base h1 h2 (fun e he => h3 e.2 (List.mem_map_of_mem (f := (·.2)) he)) h4) hb (fun H hS hTb => hsp w H a ns hlen hS fun e he => hTb e.2 (List.mem_map_of_mem (f := (·.2)) he)) fun H e s' => hCX w H s₁ e s'
end TF
namespace L2
open PySem PySem.Spec PyProof.Rows
section
variable {X:Cx} {pins:List (Addr×Obj)} {σ:St} {H:Hp} {s:Shared} {h':Heap}
end
end L2
namespace TF
open PySem PySem.Spec PyProof.Rows L2
section
variable {X:Cx} {G:Gh}
end
section
variable {X:Cx} {G:Gh}
noncomputable def Zfo:D→Option Bool
 | .non=>some true
 | .pen=>none
 | .ty _=>none
 | .clo _ _=>none
 | _=>some false
noncomputable def dIsN (d e:D):Option D:=match e with | .non=>(Zfo d).map .bl | _=>none
theorem ZiE {Hf:Hp} {d:D} {v:V} {b:Bool} (h:Zfo d=some b) (r:Rep G Hf d v):decide (v=.non)=b:=by
 cases d with
 | non=>cases h;rw [Rep.non_iff.mp r];rfl
 | bl _=>cases h;rw [Rep.bl_iff.mp r];rfl
 | int _=>cases h;rw [Rep.int_iff.mp r];rfl
 | str _=>cases h;rw [Rep.str_iff.mp r];rfl
 | tup _=>cases h;obtain ⟨p,vs,rfl,_⟩:=Rep.tup_iff.mp r;rfl
 | lst _=>cases h;obtain ⟨p,vs,rfl,_⟩:=Rep.lst_iff.mp r;rfl
 | dk _=>cases h;obtain ⟨p,rfl,_⟩:=Rep.dk_iff.mp r;rfl
 | dt _=>cases h;obtain ⟨p,_,rfl,_⟩:=Rep.dt_iff.mp r;rfl
 | du _=>cases h;obtain ⟨p,rfl,_⟩:=Rep.du_iff.mp r;rfl
 | df _=>cases h;obtain ⟨p,_,rfl,_⟩:=Rep.df_iff.mp r;rfl
 | pen=>cases h
 | ty _=>cases h
 | clo _ _=>cases h
theorem Zql:OpD X G (compareOp .Is) dIsN:=
 ⟨_,Zrx,fun Hf H s x y d e c Q e1 st rx ry q k=>by
  cases e with
  | non=>
   have q:(Zfo d).map D.bl=some c:=q
   cases hb:Zfo d with
   | none=>rw [hb] at q;cases q
   | some b=>
    rw [hb] at q
    cases q
    refine ⟨Rep.non_iff.mp ry,?_⟩
    rw [ZiE hb rx]
    exact k _ Hf H (.refl e1) st (Rep.bl_iff.mpr rfl) (.scal fun z=>z)
  | _=>cases q⟩
noncomputable def maxI (n:Int) (r:List Int):Int:=r.foldl max n
theorem ZqA (r:List Int):∀n,n≤maxI n r∧∀a∈r,a≤maxI n r:=by
 induction r with
 | nil=>intro n;exact ⟨Int.le_refl _,by simp⟩
 | cons b r ih=>
  intro n
  obtain ⟨h1,h2⟩:=ih (max n b)
  refine ⟨?_,fun a ha=>?_⟩
  ·show n≤maxI (max n b) r;omega
  ·show a≤maxI (max n b) r
   rcases List.mem_cons.mp ha with rfl | ha
   ·omega
   ·exact h2 a ha
theorem Zo0 (r:List Int):∀n,maxI n r∈n::r:=by
 induction r with
 | nil=>intro n;simp [maxI]
 | cons b r ih=>
  intro n
  have h:=ih (max n b)
  show maxI (max n b) r∈n::b::r
  rcases List.mem_cons.mp h with h | h
  ·rw [h]
   rcases Int.le_total n b with z | z
   ·rw [Int.max_eq_right z];simp
   ·rw [Int.max_eq_left z];simp
  ·exact List.mem_cons_of_mem _ (List.mem_cons_of_mem _ h)
theorem max_uniq {n M:Int} {r:List Int} (h1:M∈n::r) (h2:∀a∈n::r,a≤M):M=maxI n r:=by
 obtain ⟨g1,g2⟩:=ZqA r n
 have g3:=h2 _ (Zo0 r n)
 have g4:M≤maxI n r:=by
  rcases List.mem_cons.mp h1 with h | h
  ·rw [h];exact g1
  ·exact g2 M h
 omega
noncomputable def Zje:List D→Option D
 | [.lst ds]=>match Zat ds with | some (n::r)=>some (.int (maxI n r)) | _=>none
 | _=>none
theorem Zob (hc:X.calm=true):ZbH X (.builtin "max") (fun xs H Q=>∃p n r,xs=[.ref p]∧SqL X.K H p ((n::r).map V.int)∧Q (.int (maxI n r)) H):=by
 intro pins s σ H xs us Q I r h
 obtain ⟨p,n,rr,rfl,hp,q⟩:=h
 obtain ⟨u,rfl,ru⟩:=Zb8 r
 cases ru
 obtain ⟨its,rv,pl,hz⟩:=I.list hp
 have hi:IntsAre its (n::rr):=Zbr rv
 obtain ⟨xs,e⟩:=hi.allInts.items
 have hns:n::rr=xs.toList.map (·.1):=by rw [←hi.numsOf,←nums_intItems,←e]
 have hl:=pl.isList
 rw [e] at hl
 have hsz:0<xs.size:=by
  have h3:0<(n::rr).length:=by simp
  rw [hns,List.length_map,Array.length_toList] at h3;exact h3
 refine max_intList (I.ok.hd hc) hl hsz fun v h' tk hv hk=>?_
 obtain ⟨t,rfl⟩:=intItems_at hv
 obtain ⟨h1,h2⟩:=argBest_gt (numAt xs) (xs.size-1)
 have e2:numAt xs (argBest (fun i j=>decide (numAt xs i > numAt xs j)) (xs.size-1))=maxI n rr:=by
  refine max_uniq ?_ fun a ha=>?_
  ·rw [hns,numAt_eq];exact getD_mem (by rw [List.length_map,Array.length_toList];omega)
  ·rw [hns] at ha
   obtain ⟨j,hj,rfl⟩:=mem_getD ha
   rw [List.length_map,Array.length_toList] at hj
   rw [←numAt_eq];exact h2 j (by omega)
 rw [e2]
 exact ⟨.int (maxI n rr),H,I.kept (t':=tk) hk,⟨_,rfl⟩,q⟩
theorem Zmy (hc:X.calm=true):Zcj X G (.builtin "max") Zje:=
 ⟨_,Zob hc,fun Hf H s xs ds c Q e1 st r q k=>by
  match ds,q,r with
  | [.lst es],q,r=>
   have q:(match Zat es with | some (n::r)=>some (D.int (maxI n r)) | _=>none)=some c:=q
   cases he:Zat es with
   | none=>rw [he] at q;cases q
   | some ns=>
    cases ns with
    | nil=>rw [he] at q;cases q
    | cons n rr=>
     rw [he] at q
     cases q
     obtain ⟨v,rfl,rv⟩:=RepL.one_inv r
     obtain ⟨p,vs,rfl,np,hp,rp⟩:=Rep.lst_iff.mp rv
     rw [Zbt he] at rp
     rw [RepL.ints rp] at hp
     exact ⟨p,n,rr,rfl,SqL.of (e1 _ _ np hp),k _ Hf H (.refl e1) st (Rep.int_iff.mpr rfl) (.scal fun z=>z)⟩⟩
end
theorem ZeT:∀{a b:List Int},a.Perm b→a.Pairwise (·≤·)→b.Pairwise (·≤·)→a=b
 | [],b,p,_,_=>(List.nil_perm.mp p).symm
 | x::a,[],p,_,_=>absurd p.length_eq (by simp)
 | x::a,y::b,p,ha,hb=>by
  have ha':=List.pairwise_cons.mp ha
  have hb':=List.pairwise_cons.mp hb
  have e:x=y:=by
   have h1:x∈y::b:=p.mem_iff.mp (by simp)
   have h2:y∈x::a:=p.mem_iff.mpr (by simp)
   rcases List.mem_cons.mp h1 with h1 | h1
   ·exact h1
   ·rcases List.mem_cons.mp h2 with h2 | h2
    ·exact h2.symm
    ·have:=hb'.1 x h1
     have:=ha'.1 y h2
     omega
  subst e
  rw [ZeT (List.Perm.cons_inv p) ha'.2 hb'.2]
noncomputable def Zc8 (ns:List Int):List Int:=ns.mergeSort fun a b=>decide (a≤b)
theorem Zhj (ns:List Int):(Zc8 ns).Perm ns:=List.mergeSort_perm ns _
theorem Zjq (ns:List Int):(Zc8 ns).Pairwise (·≤·):=by
 have h:=List.pairwise_mergeSort (le:=fun (a b:Int)=>decide (a≤b)) (fun a b c h1 h2=>by simp at h1 h2 ⊢;omega) (fun a b=>by simp;omega) ns
 exact h.imp fun h=>by simpa using h
theorem Zhi {a ns:List Int} (p:a.Perm ns) (h:a.Pairwise (·≤·)):a=Zc8 ns:=ZeT (p.trans (Zhj ns).symm) h (Zjq ns)
section
variable {X:Cx} {G:Gh}
theorem ZfD:∀{vs:List Value} {ns:List Int},IntsAre vs ns→Vals (ns.map V.int) vs
 | _,_,.nil=>.nil
 | _,_,.cons n t r=>.cons ⟨t,rfl⟩ (ZfD r)
theorem Zmv:ZbH X (.builtin "sorted") (fun xs H Q=>∃(p:Addr) (ns:List Int),xs=[.ref p]∧SqL X.K H p (ns.map V.int)∧ns.length<64∧∀l,H l=none→Q (.ref l) (upd H l (.lst ((Zc8 ns).map V.int)))):=by
 intro pins s σ H xs us Q I r h
 obtain ⟨p,ns,rfl,hp,h64,q⟩:=h
 obtain ⟨u,rfl,ru⟩:=Zb8 r
 cases ru
 obtain ⟨its,rv,pl,hz⟩:=I.list hp
 have hi:IntsAre its ns:=Zbr rv
 have hl:=rv.length
 rw [List.length_map] at hl
 refine sorted_ints pl.isList hi (by omega) fun out ns' a1 a2 a3=>?_
 obtain ⟨e,he⟩:=sortedAll_at s.heap its out
 have eo:out=out.toList.toArray:=by simp
 rw [eo] at he
 have en:=Zhi a2 a3
 subst en
 have hle:s.heap.objs.size≤s.heap.objs.size+1:=Nat.le_succ _
 refine ⟨.ref (s.heap.objs.size+1),_,I.laid (a:=s.heap.objs.size+1) (o:=.lst ((Zc8 ns).map V.int)) (t':=s.toks) (fun _ _=>sortedAll_old) hle ⟨?_,out.toList,e,ZfD a1,he⟩,rfl,q _ (I.hok.fresh hle)⟩
 rw [List.length_map,(Zhj ns).length_eq,sizeLine_eq]
 omega
noncomputable def Zgu:List D→Option D
 | [.lst ds]=>match Zat ds with | some ns=>if ns.length<64 then some (.lst ((Zc8 ns).map .int)) else none | none=>none
 | _=>none
theorem ZdP {Hf:Hp}:∀ns:List Int,RepL G Hf (ns.map D.int) (ns.map V.int)
 | []=>RepL.nil_iff.mpr rfl
 | n::ns=>.cons (Rep.int_iff.mpr rfl) (ZdP ns)
theorem Zks:Zcj X G (.builtin "sorted") Zgu:=
 ⟨_,Zmv,fun Hf H s xs ds c Q e1 st r q k=>by
  match ds,q,r with
  | [.lst es],q,r=>
   have q:(match Zat es with | some ns=>if ns.length<64 then some (D.lst ((Zc8 ns).map .int)) else none | none=>none)=some c:=q
   cases he:Zat es with
   | none=>rw [he] at q;cases q
   | some ns=>
    rw [he] at q
    have q:(if ns.length<64 then some (D.lst ((Zc8 ns).map .int)) else none)=some c:=q
    split at q
    ·rename_i h64
     cases q
     obtain ⟨v,rfl,rv⟩:=RepL.one_inv r
     obtain ⟨p,vs,rfl,np,hp,rp⟩:=Rep.lst_iff.mp rv
     rw [Zbt he] at rp
     rw [RepL.ints rp] at hp
     refine ⟨p,ns,rfl,SqL.of (e1 _ _ np hp),h64,fun l hl=>?_⟩
     have nf:=Gh.nofp st hl
     have g2:=Gr.new (o:=.lst ((Zc8 ns).map V.int)) e1 hl nf
     exact k (.ref l) _ _ g2 (Gh.grow st hl) (Rep.lst_iff.mpr ⟨l,_,rfl,nf,Zaq,ZdP _⟩) (ZaG.mk e1 hl nf (ZdP _))
    ·cases q⟩
end
end TF
namespace HT
open PySem PySem.Spec PyProof.Rows
section
variable {prog:Program} {w:World} {A:Around} {E:Value→Shared→Prop} {s:Shared}
end
end HT
namespace TF
open PySem PySem.Spec PyProof.Rows L2
section
variable {X:Cx} {G:Gh}
end
end TF
namespace L2
open PySem PySem.Spec PyProof.Rows
open AutoSeq1 (wpAny_loadPart')
section
variable {prog:Program} {w:World} {A:Around} {E:Value→Shared→Prop} {s:Shared}
end
end L2
namespace TF
open PySem PySem.Spec PyProof.Rows L2
section
variable {X:Cx} {G:Gh}
end
section
variable {X:Cx} {G:Gh}
end
noncomputable def Zdd:Nat→List Int→M (List Int)
 | 0,_=>mret []
 | k+1,left=>Zan (ZbT [.pen,.int (left.length:Int)]) fun d=>match d with
  | .int r=>if 0≤r then (match left[r.toNat]? with | some x=>Zan (Zdd k (left.eraseIdx r.toNat)) fun xs=>mret (x::xs) | none=>Zau) else Zau
  | _=>Zau
noncomputable def ZcA (n:Nat):List Int:=(List.range n).map fun (i:Nat)=>(i:Int)
noncomputable def ZcN:List D→M D
 | [.pen,.int n]=>if 0≤n∧n≤1000 then Zan (Zdd n.toNat (ZcA n.toNat)) fun xs=>mret (.lst (xs.map D.int)) else Zau
 | _=>Zau
theorem ZlY {k:Nat} {left:List Int} {s s':Pn} {xs:List Int} (h:Zdd (k+1) left s=some (xs,s')):∃r s1 x ys,ZbT [.pen,.int (left.length:Int)] s=some (.int r,s1)∧0≤r∧left[r.toNat]?=some x∧Zdd k (left.eraseIdx r.toNat) s1=some (ys,s')∧xs=x::ys:=by
 obtain ⟨d,s1,a1,a2⟩:=Zah h
 cases d with
 | int r=>
  obtain ⟨r0,a3⟩:=Za4 (show (if 0≤r then (match left[r.toNat]? with | some x=>Zan (Zdd k (left.eraseIdx r.toNat)) fun xs=>mret (x::xs) | none=>Zau) else Zau) s1=some (xs,s') from a2)
  cases hx:left[r.toNat]? with
  | none=>rw [hx] at a3;cases a3
  | some x=>
   rw [hx] at a3
   obtain ⟨ys,s2,a4,a5⟩:=Zah (show Zan (Zdd k (left.eraseIdx r.toNat)) (fun xs=>mret (x::xs)) s1=some (xs,s') from a3)
   obtain ⟨rfl,rfl⟩:=Zao a5
   exact ⟨r,s1,x,ys,a1,r0,hx,a4,rfl⟩
 | _=>cases a2
noncomputable def tPop (K:PySem.W.Frag) (E:XK):TE:=tBM K "list" Zjy (tVar 1) (Zcg (Zpr (spD 2 true PenD ZbT) [] E (Zcg (tVar 2) (Zcg (tCB (fun xs H Q=>∃p ys,xs=[.ref p]∧(SqL K H p ys∨SqT K H p ys)∧Q (.int ys.length) H) (Zcg (tVar 1) tNil)) tNil))) tNil)
noncomputable def tOrd (K:PySem.W.Frag) (E:XK):TE:=Zgj [none,some 2,some 0] (ZpB (Zcg (tVar 1) tNil)) (ZcB 0) Zi6 (tPop K E)
theorem Ziz {α β:Type} (f:α→β):∀(l:List α) (i:Nat),(l.eraseIdx i).map f=(l.map f).eraseIdx i
 | [],i=>by simp
 | a::l,0=>by simp
 | a::l,i+1=>by simp [Ziz f l i]
theorem Zqj {K:PySem.W.Frag} {E:XK} {p wa l:Addr} {n:Nat} {Hf H:Hp} {s s':Pn} {xs:List Int} {Q:VK} (hn:n≤1000) (e1:Ext (penD p wa) Hf H) (st:(penD p wa).st s H) (hl:H l=some (.lst ((ZcA n).map V.int))) (nl:¬(penD p wa).fp l) (hfl:Hf l=none) (he:Zdd n (ZcA n) s=some (xs,s'))
  (k:∀(q:Addr) (H':Hp),H q=none→¬(penD p wa).fp q→H' q=some (.lst (xs.map V.int))→(∀b o,¬(penD p wa).fp b→b≠l→H b=some o→H' b=some o)→(penD p wa).st s' H'→Q (.ref q) H') :
  tOrd K E [some (.ref p),some (.int (n:Int)),some (.ref l)] H Q:=by
 refine ⟨.int (n:Int),rfl,(n:Int),rfl,by omega,by omega,fun q hq=>?_⟩
 have nq:¬(penD p wa).fp q:=Gh.nofp st hq
 have nql:q≠l:=fun z=>by rw [z,hl] at hq;cases hq
 refine ⟨fun i m σ2 H2=>∃(si:Pn) (left done rest:List Int) (o:Option V),m=n-i∧i≤n∧σ2=[o,some (.ref l),some (.ref p)]∧(penD p wa).st si H2∧H2 l=some (.lst (left.map V.int))∧H2 q=some (.lst (done.map V.int))∧Zdd (n-i) left si=some (rest,s')∧done++rest=xs∧done.length=i∧left.length≤1000∧(∀b u,¬(penD p wa).fp b→b≠l→b≠q→H b=some u→H2 b=some u)∧Ext (penD p wa) Hf H2,?_,?_⟩
 ·refine ⟨n,s,ZcA n,[],xs,none,by omega,by omega,rfl,Gh.grow st hq,by rw [Zaj (Ne.symm nql)];exact hl,Zaq,by rw [Nat.sub_zero];exact he,rfl,rfl,by unfold ZcA;simp;exact hn,fun b u nb n1 n2 hb=>by rw [Zaj n2];exact hb,?_⟩
  exact fun b u nb hb=>by rw [Zaj (Zas (e1 b u nb hb) hq)];exact e1 b u nb hb
 ·rintro i m σ2 H2 ⟨si,left,done,rest,o,hm,hi,hσ,hst,hL,hD,hp,hx,hdl,hll,keep,ext⟩
  subst hσ
  have sub':H2 q≠none:=by rw [hD];exact Option.some_ne_none _
  by_cases hin:i=n
  ·refine .inl ⟨by show n≤i;omega,?_⟩
   subst hin
   rw [Nat.sub_self] at hp
   obtain ⟨rfl,rfl⟩:=Zao hp
   rw [List.append_nil] at hx
   subst hx
   exact k q H2 hq nq hD (fun b u nb n1 hb=>keep b u nb n1 (fun z=>by rw [z,hq] at hb;cases hb) hb) hst
  ·refine .inr ⟨by show i<n;omega,fun x H3 ⟨y1,y2⟩=>?_⟩
   subst y1
   obtain ⟨kk,hkk⟩:∃kk,n-i=kk+1:=⟨n-i-1,by omega⟩
   rw [hkk] at hp
   obtain ⟨r,s1,y,ys,hd,r0,hy,hp2,rfl⟩:=ZlY hp
   unfold ZcB Zi6
   have hrl:r.toNat<left.length:=(List.getElem?_eq_some_iff.mp hy).1
   refine iteT ?_
   refine ⟨.ref l,rfl,.inl ⟨rfl,_,SqL.of hL⟩,.ref p,rfl,.ref l,rfl,l,left.map V.int,rfl,.inl (SqL.of hL),?_⟩
   refine ⟨penD p wa,Hf,[.pen,.int (left.length:Int)],si,.int r,s1,⟨p,wa,rfl⟩,rfl,ext,?_,hst,hd,fun v Hf4 H4 g4 st4 r4 _=>?_⟩
   ·rw [List.append_nil,List.length_map]
    exact .cons (Rep.pen_iff.mpr rfl) (.one (Rep.int_iff.mpr rfl))
   ·rw [Rep.int_iff.mp r4]
    have hL4:H4 l=some (.lst (left.map V.int)):=g4.hh l _ nl hL
    have hD4:H4 q=some (.lst (done.map V.int)):=g4.hh q _ nq hD
    refine ⟨l,left.map V.int,r,r.toNat,.int y,rfl,rfl,hL4,by omega,by omega,seqIndex_of r0 (by rw [List.length_map];omega),by rw [List.getElem?_map,hy];rfl,?_⟩
    refine ⟨done.map V.int,by rw [Zaj nql];exact hD4,by rw [List.length_map,sizeLine_eq];omega,n-(i+1),by omega,s1,left.eraseIdx r.toNat,done ++ [y],ys,_,rfl,by omega,rfl,?_,?_,?_,?_,?_,?_,?_,?_,?_⟩
    ·exact Gh.other (Gh.other st4 nl) nq (fun φ z=>by rw [Zaj nql,hD4] at z;cases z)
    ·rw [Zaj (Ne.symm nql),Zaq]
     congr 2
     rw [Ziz]
    ·rw [Zaq,List.map_append];rfl
    ·rw [show n-(i+1)=kk by omega];exact hp2
    ·rw [List.append_assoc];exact hx
    ·rw [List.length_append,hdl];rfl
    ·rw [List.length_eraseIdx];split <;> omega
    ·intro b u nb n1 n2 hb
     rw [Zaj n2,Zaj n1]
     exact g4.hh b u nb (keep b u nb n1 n2 hb)
    ·intro b u nb hb
     have hbl:b≠l:=fun z=>by rw [z,hfl] at hb;cases hb
     have hbq:b≠q:=fun z=>by rw [z] at hb;exact absurd (e1 q u nq hb) (by rw [hq];exact fun z=>by cases z)
     rw [Zaj hbq,Zaj hbl]
     exact g4.hh b u nb (ext b u nb hb)
noncomputable def ZpR (K:PySem.W.Frag) (E:XK):TS:=tSeq (tAsg (tCB (fun xs H Q=>∃r j,xs=[.ref r]∧H r=some (.rng 0 j)∧-(2 ^ 62)≤j∧j≤2 ^ 24∧∀l,H l=none→Q (.ref l) (upd H l (.lst ((List.range j.toNat).map fun (i:Nat)=>V.int (0+i))))) (Zcg (Zk9 (Zcg (tVar 1) tNil)) tNil)) (ZcB 2)) (tRet (tOrd K E))
theorem Zl5 {K:PySem.W.Frag} {E':XK} {vs:List V} {H:Hp} {Q:VK} {E:XK} {N:St→Hp→Prop} (h:spD 2 true PenD ZcN vs H Q E):∃p m,vs=[.ref p,.int m]∧ZpR K E' { nx:=N,rt:=Q } [some (.ref p),some (.int m),none] H:=by
 obtain ⟨G,Hf,ds,pn,d,pn',hG,el,e1,r,st',eF,k'⟩:=h
 obtain ⟨p,wa,rfl⟩:=hG
 have eF0:∃(n:Nat) (xs:List Int),n≤1000∧ds=[.pen,.int (n:Int)]∧Zdd n (ZcA n) pn=some (xs,pn')∧d=.lst (xs.map D.int):=by
  unfold ZcN at eF
  split at eF
  ·rename_i m
   obtain ⟨c,a1⟩:=Za4 eF
   obtain ⟨xs,s1,a2,a3⟩:=Zah a1
   obtain ⟨rfl,rfl⟩:=Zao a3
   obtain ⟨n,rfl⟩:=Int.eq_ofNat_of_zero_le c.1
   exact ⟨n,xs,by omega,rfl,a2,rfl⟩
  ·cases eF
 obtain ⟨n,xs,hn,rfl,he,rfl⟩:=eF0
 obtain ⟨v1,v2,rfl,r1,r2⟩:=RepL.two_inv r
 cases (Rep.pen_iff.mp r1)
 cases (Rep.int_iff.mp r2)
 refine ⟨p,(n:Int),rfl,?_⟩
 refine ⟨.int (n:Int),rfl,(n:Int),rfl,fun g hg=>⟨g,(n:Int),rfl,Zaq,by omega,by omega,fun l hl=>?_⟩⟩
 have hlg:l≠g:=fun z=>by rw [z,Zaq] at hl;cases hl
 have hl1:H l=none:=by rw [Zaj hlg] at hl;exact hl
 have st2:(penD p wa).st pn (upd H g (.rng 0 (n:Int))):=Gh.grow st' hg
 have nl:¬(penD p wa).fp l:=Gh.nofp st2 hl
 have st3:(penD p wa).st pn (upd (upd H g (.rng 0 (n:Int))) l (.lst ((List.range (n:Int).toNat).map fun (i:Nat)=>V.int (0+i)))):=Gh.grow st2 hl
 have ng:¬(penD p wa).fp g:=Gh.nofp st' hg
 have fz:∀b,¬(penD p wa).fp b→H b=none→Hf b=none:=fun b nb hb=>by
  cases q:Hf b with
  | none=>rfl
  | some o=>rw [e1 b o nb q] at hb;cases hb
 have eE:Ext (penD p wa) Hf (upd (upd H g (.rng 0 (n:Int))) l (.lst ((List.range (n:Int).toNat).map fun (i:Nat)=>V.int (0+i)))):=fun b u nb hb=>by
  have h1:=e1 b u nb hb
  rw [Zaj (Zas h1 hl1),Zaj (Zas h1 hg)]
  exact h1
 have hll:(List.range (n:Int).toNat).map (fun (i:Nat)=>V.int (0+i))=(ZcA n).map V.int:=by
  unfold ZcA
  rw [List.map_map]
  show (List.range n).map _=_
  refine List.map_congr_left fun i _=>?_
  show V.int (0+(i:Int))=V.int (i:Int)
  rw [Int.zero_add]
 refine Zqj hn eE st3 (by rw [Zaq,hll]) nl (fz l nl hl1) he fun q H' hq nq hD keep stf=>?_
 have hql:q≠l:=fun z=>by rw [z,Zaq] at hq;cases hq
 have hqg:q≠g:=fun z=>by rw [z,Zaj (Ne.symm hlg),Zaq] at hq;cases hq
 have hqH:H q=none:=by rw [Zaj hql,Zaj hqg] at hq;exact hq
 have hh:Ext (penD p wa) H H':=fun b u nb hb=>by
  have n1:b≠l:=Zas hb hl1
  refine keep b u nb n1 ?_
  rw [Zaj n1,Zaj (Zas hb hg)];exact hb
 have hfq:Hf q=none:=fz q nq hqH
 have rr:RepL (penD p wa) Hf (xs.map D.int) (xs.map V.int):=ZdP xs
 refine k' (.ref q) (upd Hf q (.lst (xs.map V.int))) H' ⟨hh,fun b u nb hb=>by rw [Zaj (Zas hb hfq)];exact hb,fun b u nb hb=>?_,fun b nb h1 h2=>?_⟩ stf (Rep.lst_iff.mpr ⟨q,_,rfl,nq,Zaq,ZdP xs⟩) fun _=>fun a ea _=>?_
 ·by_cases hb2:b=q
  ·subst hb2;rw [Zaq] at hb;cases hb;exact hD
  ·rw [Zaj hb2] at hb;exact hh b u nb (e1 b u nb hb)
 ·have hbq:b≠q:=fun z=>h2.no (by rw [z];exact hqH)
  rw [Zaj hbq];exact h1
 ·cases ea
  exact ⟨hqH,fun ds' ed=>by cases ed;exact ⟨xs.map V.int,Hf,Zaq,hfq,fun b u nb hb=>by rw [Zaj (Zas hb hfq)];exact hb,rr⟩⟩
theorem ZhH:∀(l:List Int) (i:Nat) (h:i<l.length),(l[i]::l.eraseIdx i).Perm l
 | [],i,h=>absurd h (by simp)
 | a::l,0,h=>List.Perm.refl _
 | a::l,i+1,h=>by
  have hi:i<l.length:=by simpa using h
  have:=ZhH l i hi
  show (l[i]::a::l.eraseIdx i).Perm (a::l)
  exact (List.Perm.swap _ _ _).trans (List.Perm.cons a this)
theorem Zll:∀(k:Nat) (left:List Int) (T:Nat) (s:Pn),left.length=k→k≤1000→okD T s→T+k<1000000000→Ok (Zdd k left) s fun xs s'=>xs.Perm left∧okD (T+k) s'
 | 0,left,T,s,hl,_,ok,_=>by
  have:left=[]:=List.length_eq_zero_iff.mp hl
  subst this
  exact .ret ⟨List.Perm.refl _,ok⟩
 | k+1,left,T,s,hl,hk,ok,hT=>by
  obtain ⟨r,s1,e,r0,r1,ok1⟩:=ZlB (k:=(left.length:Int)) ok (by omega) (by omega) (by omega)
  have hr:r.toNat<left.length:=by omega
  have hx:left[r.toNat]?=some left[r.toNat]:=List.getElem?_eq_getElem hr
  have ih:=Zll k (left.eraseIdx r.toNat) (T+1) s1 (by rw [List.length_eraseIdx,if_pos hr];omega) (by omega) ok1 (by omega)
  refine .bind (.eq e ?_)
  show Ok (if 0≤r then (match left[r.toNat]? with | some x=>Zan (Zdd k (left.eraseIdx r.toNat)) fun xs=>mret (x::xs) | none=>Zau) else Zau) s1 _
  refine .ite r0 ?_
  rw [hx]
  refine .bind (ih.mono fun xs s' q=>.ret ⟨?_,q.2.mono (by omega)⟩)
  refine (List.Perm.cons _ q.1).trans ?_
  exact ZhH left r.toNat hr
theorem ZoM {T n:Nat} {s:Pn} (ok:okD T s) (hT:T<900000000) (hn:n≤1000):Ok (ZcN [.pen,.int (n:Int)]) s fun d s'=>okD (T+n) s'∧∃xs:List Int,d=.lst (xs.map D.int)∧xs.Perm (ZcA n):=by
 show Ok (if 0≤(n:Int)∧(n:Int)≤1000 then Zan (Zdd (n:Int).toNat (ZcA (n:Int).toNat)) fun xs=>mret (D.lst (xs.map D.int)) else Zau) s _
 refine .ite ⟨by omega,by omega⟩ (.bind ((Zll n (ZcA n) T s (by unfold ZcA;simp) hn ok (by omega)).mono fun xs s' q=>.ret ⟨q.2,xs,rfl,q.1⟩))
end TF
namespace L2
open PySem PySem.Spec PyProof.Rows
section
variable {prog:Program} {w:World} {A:Around} {E:Value→Shared→Prop} {s:Shared}
end
end L2
namespace TF
open PySem PySem.Spec PyProof.Rows L2
section
variable {X:Cx} {G:Gh}
end
end TF
namespace L2
open PySem PySem.Spec PyProof.Rows
end L2
namespace TF
open PySem PySem.Spec PyProof.Rows L2
section
variable {X:Cx} {G:Gh}
end
end TF
namespace L2
open PySem PySem.Spec PyProof.Rows
section
variable {prog:Program} {w:World} {A:Around} {E:Value→Shared→Prop} {s:Shared} {o:Obj} {es:Array DictEntry} {d it:Addr} {ep i:Nat}
end
section
variable {X:Cx} {tg:Expr}
end
end L2
namespace TF
open PySem PySem.Spec PyProof.Rows L2
section
variable {X:Cx} {G:Gh}
end
end TF
namespace L2
open PySem PySem.Spec PyProof.Rows
section
variable {prog:Program} {w:World} {A:Around} {E:Value→Shared→Prop} {s:Shared} {z TI TO i1 i2:Addr} {f1 f2:List Addr} {n1 n2 k:Nat} {P1 P2:Nat→Value→Prop} {S1 S2:Nat→Heap→Prop} {a b:Value}
end
section
variable {prog:Program} {w:World} {A:Around} {E:Value→Shared→Prop} {s:Shared}
end
end L2
namespace L2
open PySem PySem.Spec PyProof.Rows
end L2
namespace TF
open PySem PySem.Spec PyProof.Rows L2
section
variable {X:Cx} {G:Gh}
end
end TF
namespace TS
open PySem PySem.W PyProof.Rows
noncomputable def Tri {α:Type} (lt:Nat→Nat→Bool) (n:Nat):KasT α→(α→Prop)→Prop
 | .ret a,Q=>Q a
 | .ask i j k,Q=>i<n∧j<n∧Tri lt n (k (lt i j)) Q
theorem Tri.bind {α β:Type} {lt:Nat→Nat→Bool} {n:Nat} {f:α→KasT β} {Q:β→Prop}:∀{t:KasT α},Tri lt n t (fun a=>Tri lt n (f a) Q)→Tri lt n (t.bind f) Q
 | .ret _,h=>h
 | .ask i j k,h=>⟨h.1,h.2.1,Tri.bind (t:=k (lt i j)) h.2.2⟩
theorem Tri.mono {α:Type} {lt:Nat→Nat→Bool} {n:Nat} {Q R:α→Prop} (hr:∀a,Q a→R a):∀{t:KasT α},Tri lt n t Q→Tri lt n t R
 | .ret _,h=>hr _ h
 | .ask i j k,h=>⟨h.1,h.2.1,Tri.mono hr (t:=k (lt i j)) h.2.2⟩
theorem Tri.wp {α:Type} {lt:Nat→Nat→Bool} {n:Nat} {Q:α→Prop} {R:α→Shared→Prop} {s:Shared} {cmp:Nat→Nat→(Bool→Shared→Prop)→Shared→Prop} (hc:∀i j,i<n→j<n→∀C:Bool→Shared→Prop,C (lt i j) s→cmp i j C s) (hr:∀a,Q a→R a s):∀{t:KasT α},Tri lt n t Q→t.kasWp cmp R s
 | .ret _,h=>hr _ h
 | .ask i j k,h=>hc i j h.1 h.2.1 _ (Tri.wp hc hr (t:=k (lt i j)) h.2.2)
noncomputable def g (p:Array Nat) (k:Nat):Nat:=p.getD k 0
theorem g_eq {p q:Array Nat} {i j:Nat} (h:p[i]?=q[j]?):g p i=g q j:=by
 have e:∀(r:Array Nat) (k:Nat),g r k=(r[k]?).getD 0:=fun r k=>by unfold g;simp [Array.getD_eq_getD_getElem?]
 rw [e,e,h]
structure Pm (n:Nat) (p:Array Nat):Prop where
 pos:0<n
 pm:p.toList.Perm (List.range n)
section
variable {lt:Nat→Nat→Bool} {n:Nat} {p q:Array Nat}
theorem Pm.size (h:Pm n p):p.size=n:=by
 have:=h.pm.length_eq
 simpa using this
theorem Pm.of (h:Pm n p) (e:q.Perm p):Pm n q:=⟨h.pos,(Array.perm_iff_toList_perm.mp e).trans h.pm⟩
theorem Pm.bd (h:Pm n p) (k:Nat):g p k<n:=by
 unfold g
 by_cases hk:k<p.size
 ·have:p.getD k 0=p[k]:=by simp [Array.getD,hk]
  rw [this]
  have m:p[k]∈p.toList:=by simp
  have:=h.pm.mem_iff.mp m
  simpa using this
 ·have:p.getD k 0=0:=by simp [Array.getD,hk]
  rw [this];exact h.pos
theorem Pm.inj (h:Pm n p) {i j:Nat} (hi:i<n) (hj:j<n) (e:g p i=g p j):i=j:=by
 have hi':i<p.size:=by rw [h.size];exact hi
 have hj':j<p.size:=by rw [h.size];exact hj
 have nd:p.toList.Nodup:=h.pm.nodup_iff.mpr List.nodup_range
 have e1:g p i=p.toList[i]'(by simpa using hi'):=by unfold g;simp [Array.getD,hi']
 have e2:g p j=p.toList[j]'(by simpa using hj'):=by unfold g;simp [Array.getD,hj']
 rw [e1,e2] at e
 have pw:=List.pairwise_iff_getElem.mp nd
 rcases Nat.lt_trichotomy i j with z | z | z
 ·exact absurd e (pw i j (by simpa using hi') (by simpa using hj') z)
 ·exact z
 ·exact absurd e.symm (pw j i (by simpa using hj') (by simpa using hi') z)
structure Ord (lt:Nat→Nat→Bool) (n:Nat):Prop where
 tr:∀a b c,lt a b=true→lt b c=true→lt a c=true
 to:∀a b,a<n→b<n→a≠b→lt a b=false→lt b a=true
noncomputable def So (lt:Nat→Nat→Bool) (p:Array Nat) (m:Nat):Prop:=∀i j,i<j→j<m→lt (g p i) (g p j)=true
noncomputable def De (lt:Nat→Nat→Bool) (p:Array Nat) (m:Nat):Prop:=∀i j,i<j→j<m→lt (g p j) (g p i)=true
theorem Pm.to (h:Pm n p) (o:Ord lt n) {i j:Nat} (hi:i<n) (hj:j<n) (hij:i≠j) (e:lt (g p i) (g p j)=false):lt (g p j) (g p i)=true:=
 o.to _ _ (h.bd i) (h.bd j) (fun z=>hij (h.inj hi hj z)) e
theorem Zku (o:Ord lt n) (h:Pm n p):∀(f k:Nat),1≤k→k+f=n→So lt p k→Tri lt n (kas_asc p f k) (fun m=>k≤m∧m≤n∧So lt p m∧(m<n→lt (g p m) (g p (m-1))=true))
 | 0,k,h1,h2,hs=>⟨Nat.le_refl _,by omega,hs,fun z=>by omega⟩
 | f+1,k,h1,h2,hs=>by
  show g p k<n∧g p (k-1)<n∧Tri lt n (if lt (g p k) (g p (k-1))=true then .ret k else kas_asc p f (k+1)) _
  refine ⟨h.bd _,h.bd _,?_⟩
  cases e:lt (g p k) (g p (k-1)) with
  | true=>rw [if_pos rfl];exact ⟨Nat.le_refl _,by omega,hs,fun _=>e⟩
  | false=>
   rw [if_neg (by simp)]
   have e2:=h.to o (i:=k) (j:=k-1) (by omega) (by omega) (by omega) e
   refine Tri.mono (fun m ⟨a,b⟩=>⟨by omega,b⟩) (Zku o h f (k+1) (by omega) (by omega) fun i j hij hj=>?_)
   by_cases hjk:j<k
   ·exact hs i j hij hjk
   ·have:j=k:=by omega
    subst this
    by_cases hi:i=j-1
    ·subst hi;exact e2
    ·exact o.tr _ _ _ (hs i (j-1) (by omega) (by omega)) e2
theorem ZlC (o:Ord lt n) (h:Pm n p):∀(f k:Nat),1≤k→k+f=n→De lt p k→Tri lt n (kas_desc f p k 0) (fun r=>r.1=p∧r.2.2=0∧k≤r.2.1∧r.2.1≤n∧De lt p r.2.1)
 | 0,k,h1,h2,hs=>⟨rfl,rfl,Nat.le_refl _,by show k≤n;omega,hs⟩
 | f+1,k,h1,h2,hs=>by
  show g p k<n∧g p (k-1)<n∧Tri lt n (if lt (g p k) (g p (k-1))=true then (if 0 > 0 then kas_desc f (kas_rev p (k-(0+1)) k) (k+1) 0 else kas_desc f p (k+1) 0) else .ask (g p (k-1)) (g p k) fun d=>if d=true then .ret (p,k,0) else kas_desc f p (k+1) (0+1)) _
  refine ⟨h.bd _,h.bd _,?_⟩
  cases e:lt (g p k) (g p (k-1)) with
  | true=>
   rw [if_pos rfl,if_neg (by omega)]
   refine Tri.mono (fun m ⟨a,b,c,d⟩=>⟨a,b,by omega,d⟩) (ZlC o h f (k+1) (by omega) (by omega) fun i j hij hj=>?_)
   by_cases hjk:j<k
   ·exact hs i j hij hjk
   ·have:j=k:=by omega
    subst this
    by_cases hi:i=j-1
    ·subst hi;exact e
    ·exact o.tr _ _ _ e (hs i (j-1) (by omega) (by omega))
  | false=>
   rw [if_neg (by simp)]
   have e2:=h.to o (i:=k) (j:=k-1) (by omega) (by omega) (by omega) e
   refine ⟨h.bd _,h.bd _,?_⟩
   show Tri lt n (if lt (g p (k-1)) (g p k)=true then _ else _) _
   rw [e2,if_pos rfl]
   exact ⟨rfl,rfl,Nat.le_refl _,by show k≤n;omega,hs⟩
theorem ZpF (hj:q.size=n) {m:Nat} (hm:m≤n) (k:Nat):g (kas_rev q 0 m) k=if k<m then g q (m-1-k) else g q k:=by
 have e:=getElem?_mirror_all (xs:=q) (i:=0) (j:=m) (by omega) k
 unfold kas_rev
 by_cases hk:k<m
 ·rw [if_pos ⟨by omega,hk⟩] at e
  rw [if_pos hk]
  exact g_eq (by rw [e];congr 1;omega)
 ·rw [if_neg (fun z=>hk z.2)] at e
  rw [if_neg hk]
  exact g_eq e
theorem ZpS (o:Ord lt n) (h:Pm n p) {k:Nat} (h1:1≤k) (h2:k≤n) (hs:De lt p k):Tri lt n (kas_tail3 k n p) (fun r=>1≤r.1∧r.1≤n∧Pm n r.2∧So lt r.2 r.1):=by
 have h':Pm n (kas_rev p 0 k):=h.of (mirror_perm _ _ _ _)
 have hs':So lt (kas_rev p 0 k) k:=fun i j hij hj=>by
  rw [ZpF h.size h2,ZpF h.size h2,if_pos (by omega),if_pos hj]
  exact hs _ _ (by omega) (by omega)
 refine Tri.bind (Tri.mono (fun m ⟨a,b,c,_⟩=>?_) (Zku o h' (n-k) k h1 (by omega) hs'))
 exact ⟨by show 1≤m;omega,b,h',c⟩
theorem Zpj (o:Ord lt n) (h:Pm n p):Tri lt n (kas_count n p) (fun r=>1≤r.1∧r.1≤n∧Pm n r.2∧So lt r.2 r.1):=by
 have hn:=h.pos
 refine Tri.bind (Tri.mono (fun m ⟨a,b,c,d⟩=>?_) (Zku o h (n-1) 1 (by omega) (by omega) fun i j hij hj=>by omega))
 by_cases hm:m=n
 ·rw [if_pos (by simpa using hm)]
  exact ⟨a,b,h,c⟩
 ·rw [if_neg (by simpa using hm)]
  by_cases h1:m > 1
  ·rw [if_pos h1]
   refine ⟨h.bd 0,h.bd (m-1),?_⟩
   have e:lt (p.getD 0 0) (p.getD (m-1) 0)=true:=c 0 (m-1) (by omega) (by omega)
   show Tri lt n (if lt (p.getD 0 0) (p.getD (m-1) 0)=true then _ else _) _
   rw [e,if_pos rfl]
   exact ⟨a,b,h,c⟩
  ·rw [if_neg h1]
   have:m=1:=by omega
   subst this
   have e:=d (by omega)
   have hd:De lt p (1+1):=fun i j hij hj=>by
    have h1:i=0:=by omega
    have h2:j=1:=by omega
    subst h1 h2
    exact e
   refine Tri.bind (Tri.mono (fun r ⟨r1,r2,r3,r4,r5⟩=>?_) (ZlC o h (n-(1+1)) (1+1) (by omega) (by omega) hd))
   rw [if_neg (by omega),r1]
   exact ZpS o h (by omega) r4 r5
theorem ZgW (o:Ord lt n) (h:Pm n p) {k:Nat} (hk:k<n) (hs:So lt p k):∀(f l r:Nat),l≤r→r≤k→r-l≤f→(∀i,i<l→lt (g p i) (g p k)=true)→(∀i,r≤i→i<k→lt (g p k) (g p i)=true)→
  Tri lt n (kas_place p k f l r) (fun m=>m≤k∧(∀i,i<m→lt (g p i) (g p k)=true)∧∀i,m≤i→i<k→lt (g p k) (g p i)=true)
 | 0,l,r,h1,h2,h3,ha,hb=>⟨by omega,ha,fun i hi=>hb i (by omega)⟩
 | f+1,l,r,h1,h2,h3,ha,hb=>by
  show Tri lt n (if l≥r then .ret l else .ask (g p k) (g p ((l+r) / 2)) fun c=>if c=true then kas_place p k f l ((l+r) / 2) else kas_place p k f ((l+r) / 2+1) r) _
  by_cases hlr:l≥r
  ·rw [if_pos hlr]
   exact ⟨by omega,ha,fun i hi=>hb i (by omega)⟩
  ·rw [if_neg hlr]
   refine ⟨h.bd _,h.bd _,?_⟩
   show Tri lt n (if lt (g p k) (g p ((l+r) / 2))=true then kas_place p k f l ((l+r) / 2) else kas_place p k f ((l+r) / 2+1) r) _
   cases e:lt (g p k) (g p ((l+r) / 2)) with
   | true=>
    rw [if_pos rfl]
    refine ZgW o h hk hs f l _ (by omega) (by omega) (by omega) ha fun i hi hik=>?_
    by_cases hq:i=(l+r) / 2
    ·subst hq;exact e
    ·exact o.tr _ _ _ e (hs _ i (by omega) hik)
   | false=>
    rw [if_neg (by simp)]
    have e2:=h.to o (i:=k) (j:=(l+r) / 2) hk (by omega) (by omega) e
    refine ZgW o h hk hs f _ r (by omega) h2 (by omega) (fun i hi=>?_) hb
    by_cases hq:i=(l+r) / 2
    ·subst hq;exact e2
    ·exact o.tr _ _ _ (hs i _ (by omega) (by omega)) e2
theorem Zof (o:Ord lt n):∀(f k:Nat) (p:Array Nat),Pm n p→1≤k→k+f=n→So lt p k→Tri lt n (kas_bin f p k) (fun q=>Pm n q∧So lt q n)
 | 0,k,p,h,h1,h2,hs=>⟨h,by have:k=n:=(by omega);subst this;exact hs⟩
 | f+1,k,p,h,h1,h2,hs=>by
  refine Tri.bind (Tri.mono (fun m ⟨a,b,c⟩=>?_) (ZgW o h (k:=k) (by omega) hs k 0 k (by omega) (by omega) (by omega) (fun i hi=>by omega) fun i hi hik=>by omega))
  have hg:∀i,g (bubble p k (k-m)) i=if i=m then g p k else if m<i∧i≤k then g p (i-1) else g p i:=fun i=>by
   have e:=getElem?_bubble (xs:=p) (src:=k) (by rw [h.size];omega) (k-m) (by omega) i
   rw [show k-(k-m)=m by omega] at e
   by_cases q1:i=m
   ·rw [if_pos q1] at e ⊢;exact g_eq e
   ·rw [if_neg q1] at e ⊢
    by_cases q2:m<i∧i≤k
    ·rw [if_pos q2] at e ⊢;exact g_eq e
    ·rw [if_neg q2] at e ⊢;exact g_eq e
  refine Zof o f (k+1) _ (h.of (bubble_perm _ _ _)) (by omega) (by omega) fun i j hij hj=>?_
  rw [hg,hg]
  by_cases i1:i=m
  ·rw [if_pos i1,if_neg (by omega),if_pos (by omega)]
   exact c _ (by omega) (by omega)
  ·rw [if_neg i1]
   by_cases i2:m<i∧i≤k
   ·rw [if_pos i2,if_neg (by omega),if_pos (by omega)]
    exact hs _ _ (by omega) (by omega)
   ·rw [if_neg i2]
    by_cases j1:j=m
    ·rw [if_pos j1];exact b i (by omega)
    ·rw [if_neg j1]
     by_cases j2:m<j∧j≤k
     ·rw [if_pos j2]
      exact hs _ _ (by omega) (by omega)
     ·rw [if_neg j2]
      exact hs _ _ hij (by omega)
theorem ZpX (o:Ord lt n) (hn:0<n):Tri lt n (kas_sort n) (fun q=>Pm n q∧So lt q n):=by
 have h:Pm n (List.toArray (List.range n)):=⟨hn,by simp⟩
 refine Tri.bind (Tri.mono (fun r ⟨a,b,c,d⟩=>?_) (Zpj o h))
 by_cases hr:r.1<n
 ·rw [if_pos hr]
  have e:max r.1 1=r.1:=by omega
  rw [e]
  exact Zof o _ _ _ c a (by omega) d
 ·rw [if_neg hr]
  exact ⟨c,by have:r.1=n:=(by omega);rw [this] at d;exact d⟩
end
end TS
namespace TS
open PySem PySem.W PyProof.Rows
noncomputable def lexB:List Int→List Int→Bool
 | [],[]=>false
 | [],_::_=>true
 | _::_,[]=>false
 | a::as,b::bs=>if a=b then lexB as bs else decide (a<b)
theorem Zj1:∀a,lexB a a=false
 | []=>rfl
 | a::as=>by unfold lexB;rw [if_pos rfl];exact Zj1 as
theorem Zgp:∀a b c,lexB a b=true→lexB b c=true→lexB a c=true
 | [],[],_,h,_=>by cases h
 | [],_::_,[],_,h=>by cases h
 | [],_::_,_::_,_,_=>rfl
 | _::_,[],_,h,_=>by cases h
 | _::_,_::_,[],_,h=>by cases h
 | a::as,b::bs,c::cs,h1,h2=>by
  unfold lexB at h1 h2 ⊢
  split at h1
  ·rename_i e;subst e
   split at h2
   ·rename_i e;subst e;rw [if_pos rfl];exact Zgp as bs cs h1 h2
   ·rename_i e;rw [if_neg e];exact h2
  ·rename_i e1
   split at h2
   ·rename_i e;subst e;rw [if_neg e1];exact h1
   ·rename_i e2
    simp at h1 h2
    rw [if_neg (by omega)]
    simp;omega
theorem Ze1:∀a b,a≠b→lexB a b=false→lexB b a=true
 | [],[],n,_=>absurd rfl n
 | [],_::_,_,h=>by cases h
 | _::_,[],_,_=>rfl
 | a::as,b::bs,n,h=>by
  unfold lexB at h ⊢
  split at h
  ·rename_i e;subst e;rw [if_pos rfl]
   exact Ze1 as bs (fun z=>n (by rw [z])) h
  ·rename_i e
   simp at h
   rw [if_neg (Ne.symm e)]
   simp;omega
theorem Zg1 {a b:List Int} (h:lexB a b=true):lexB b a=false:=by
 cases e:lexB b a with
 | false=>rfl
 | true=>have:=Zgp _ _ _ h e;rw [Zj1] at this;cases this
noncomputable def leT (a b:List Int):Bool:=!lexB b a
theorem Zo2 {a b:List Int} (h1:leT a b=true) (h2:leT b a=true):a=b:=by
 unfold leT at h1 h2
 simp at h1 h2
 by_cases e:a=b
 ·exact e
 ·rw [Ze1 a b e h2] at h1;cases h1
theorem ZrF (a b c:List Int) (h1:leT a b=true) (h2:leT b c=true):leT a c=true:=by
 unfold leT at h1 h2 ⊢
 simp at h1 h2 ⊢
 by_cases e1:a=b
 ·subst e1;exact h2
 ·by_cases e2:b=c
  ·subst e2;exact h1
  ·exact Zg1 (Zgp _ _ _ (Ze1 b a (Ne.symm e1) h1) (Ze1 c b (Ne.symm e2) h2))
theorem ZrG (a b:List Int):(leT a b||leT b a)=true:=by
 unfold leT
 cases e:lexB b a with
 | false=>rfl
 | true=>rw [Zg1 e];rfl
theorem Zhq:∀{a b:List (List Int)},a.Perm b→a.Pairwise (fun x y=>leT x y=true)→b.Pairwise (fun x y=>leT x y=true)→a=b
 | [],b,p,_,_=>(List.nil_perm.mp p).symm
 | x::a,[],p,_,_=>absurd p.length_eq (by simp)
 | x::a,y::b,p,ha,hb=>by
  have ha':=List.pairwise_cons.mp ha
  have hb':=List.pairwise_cons.mp hb
  have e:x=y:=by
   have h1:x∈y::b:=p.mem_iff.mp (by simp)
   have h2:y∈x::a:=p.mem_iff.mpr (by simp)
   rcases List.mem_cons.mp h1 with h1 | h1
   ·exact h1
   ·rcases List.mem_cons.mp h2 with h2 | h2
    ·exact h2.symm
    ·exact Zo2 (ha'.1 y h2) (hb'.1 x h1)
  subst e
  rw [Zhq (List.Perm.cons_inv p) ha'.2 hb'.2]
noncomputable def Zb3 (nss:List (List Int)):List (List Int):=nss.mergeSort leT
theorem Zhh (nss:List (List Int)):(Zb3 nss).Perm nss:=List.mergeSort_perm nss _
theorem ZfF (nss:List (List Int)):(Zb3 nss).Pairwise (fun x y=>leT x y=true):=List.pairwise_mergeSort ZrF ZrG nss
theorem Ze9 {a nss:List (List Int)} (p:a.Perm nss) (h:a.Pairwise (fun x y=>leT x y=true)):a=Zb3 nss:=Zhq (p.trans (Zhh nss).symm) h (ZfF nss)
noncomputable def Zdf (h:Heap) (v:Value) (ns:List Int):Prop:=∃a xs,v=.ref a∧h.IsTuple a (List.toArray xs)∧IntsAre xs ns
section
variable {prog:Program} {w:World} {A:Around} {E:Value→Shared→Prop} {s:Shared}
theorem ZpA {fin:Bool} {Q:Bool→Shared→Prop}:∀{as bs:List Int} {xs ys:List Value} (i:Nat),IntsAre xs as→IntsAre ys bs→fin=decide (as.length<bs.length)→Q (lexB as bs) s→KatLex prog w A true fin Q (xs.zip ys) i s
 | [],[],_,_,i,.nil,.nil,e,h=>by subst e;exact kat_nil h
 | [],_::_,_,_,i,.nil,.cons _ _ _,e,h=>by subst e;exact kat_nil h
 | _::_,[],_,_,i,.cons _ _ _,.nil,e,h=>by subst e;exact kat_nil h
 | a::as,b::bs,_,_,i,.cons _ t hx,.cons _ u hy,e,h=>by
  unfold lexB at h
  refine kat_cons (wpAny_eqBool_int ?_)
  by_cases q:a=b
  ·rw [if_pos q] at h
   rw [show (a==b)=true by simp [q]]
   exact kat_yes (ZpA (i+1) hx hy (by rw [e];simp) h)
  ·rw [if_neg q] at h
   rw [show (a==b)=false by simp [q]]
   refine kat_no ?_
   by_cases hi:i=0
   ·subst hi
    exact oneLt_int h
   ·rw [show (true&&i==0)=false by simp [hi]]
    exact kat_one _ _ (lt_int h)
theorem Zss {x y:Value} {as bs:List Int} {C:Bool→Shared→Prop} (hx:Zdf s.heap x as) (hy:Zdf s.heap y bs) (h:C (lexB as bs) s):wpAny (model prog w) A (keyLt' (tuples' true) x y) C E s:=by
 obtain ⟨a,xs,rfl,⟨o,ho,hc,n,hd⟩,ix⟩:=hx
 obtain ⟨b,ys,rfl,⟨o',ho',hc',n',hd'⟩,iy⟩:=hy
 refine kat_lt ho hd ho' hd' ?_
 have e:decide ((List.toArray xs).size<(List.toArray ys).size)=decide (as.length<bs.length):=by rw [List.size_toArray,List.size_toArray,ix.length,iy.length]
 exact ZpA 0 ix iy e h
theorem ZmO {h:Heap}:∀{vs:List Value} {nss:List (List Int)},Paired (Zdf h) vs nss→(∀ns∈nss,ns≠[])→∃fs,KatTups h vs fs∧fs.length=vs.length∧∀v∈fs,∃n t,v=Value.int n t
 | _,_,.nil,_=>⟨[],.nil,rfl,fun _ z=>by simp at z⟩
 | _,_,.cons (a:=v) (b:=ns) hv r,hne=>by
  obtain ⟨fs,h1,h2,h3⟩:=ZmO r fun ns' m=>hne ns' (List.mem_cons_of_mem _ m)
  obtain ⟨a,xs,rfl,⟨o,ho,hc,n,hd⟩,ix⟩:=hv
  cases ix with
  | nil=>exact absurd rfl (hne [] (by simp))
  | cons m t r'=>
   refine ⟨.int m t::fs,.cons ho hc hd (by simp) h1,by simp [h2],fun v hv=>?_⟩
   rcases List.mem_cons.mp hv with rfl | hv
   ·exact ⟨m,t,rfl⟩
   ·exact h3 v hv
theorem ZrJ {vs:List Value} {nss:List (List Int)} {Q:SortKind→Shared→Prop} (h:Paired (Zdf s.heap) vs nss) (hne:∀ns∈nss,ns≠[]) (h0:0<vs.length) (q:Q (tuples' true) s):wpAny (model prog w) A (keyKind' vs.toArray) Q E s:=by
 obtain ⟨fs,h1,h2,h3⟩:=ZmO h hne
 refine kat_kind (T:=.type "int") h1 (by omega) (fun v hv=>?_) rfl ?_
 ·obtain ⟨n,t,rfl⟩:=h3 v hv
  exact Looks.of_pure rfl
 ·exact q
theorem Zdf.at {h h':Heap} {v:Value} {ns:List Int} {b:Addr} (k:∀c o,c≠b→h.get? c=some o→h'.get? c=some o) (hb:∃o,h.get? b=some o∧o.cls=.type "list") (x:Zdf h v ns):Zdf h' v ns:=by
 obtain ⟨a,xs,e,⟨o,ho,hc,r⟩,i⟩:=x
 refine ⟨a,xs,e,⟨o,k a o (fun z=>?_) ho,hc,r⟩,i⟩
 obtain ⟨o',h1,h2⟩:=hb
 rw [z,h1] at ho;cases ho
 rw [h2] at hc
 exact absurd (Value.type.inj hc) (by decide)
theorem Paired.get3 {α β:Type} {F:α→β→Prop}:∀{l:List α} {r:List β} {i:Nat} (d:α) (d':β),Paired F l r→i<l.length→F (l.getD i d) (r.getD i d')
 | _,_,i,_,_,.nil,e=>absurd e (by simp)
 | _,_,0,_,_,.cons h t,e=>h
 | _,_,i+1,d,d',.cons h t,e=>by
  have:=Paired.get3 d d' t (i:=i) (by simpa using e)
  simpa using this
theorem range_getD {α:Type} (vs:List α) (d:α):((List.range vs.length).map fun i=>vs.getD i d)=vs:=by
 refine List.ext_getElem (by simp) fun i h1 h2=>?_
 simp [h2]
theorem ZpZ (vs:List Value) (κ:SortKind):(arrOf (SortSt.mk' κ (vs.toArray.zip vs.toArray) #[] 7 none)).map (·.2)=List.toArray ((List.toArray (List.range vs.length)).toList.map fun i=>vs.getD i Value.none):=by
 apply Array.toList_inj.mp
 show ((vs.toArray.zip vs.toArray).map (·.2)).toList=_
 rw [List.toList_toArray,List.toList_toArray,range_getD,Array.toList_map]
 show (pairsOf vs).toList.map Prod.snd=_
 rw [pairsOf_toList]
 exact List.map_snd_zip (Nat.le_refl _)
theorem ZkR {a:Addr} {vs:List Value} {nss:List (List Int)} {n:Nat} {P:PySem.Fin→Shared→Prop} (ho:s.heap.get? a=some (seqObj "list" vs.toArray n)) (ht:Paired (Zdf s.heap) vs nss) (h64:vs.length<64) (nd:nss.Nodup) (hne:2≤vs.length→∀ns∈nss,ns≠[])
  (h:∀p:Array Nat,p.toList.Perm (List.range vs.length)→(p.toList.map fun i=>nss.getD i [])=Zb3 nss→P (.done (.ret .none)) { s with heap:=sortedHeap s.heap a vs (List.toArray (p.toList.map fun i=>vs.getD i Value.none)) }) :
  wpAny (model prog w) A (Builtin.«list.sort» ⟨[.ref a],[]⟩) P E s:=by
 have hlen:vs.length=nss.length:=Paired.length ht
 rw [list_sort_plain];have ha:a<s.heap.objs.size:=Heap.lt_size ho
 refine wpAny_bind (listItems_at ho rfl ?_);refine wpAny_bind (listUpdate_at ho rfl ?_)
 obtain ⟨e1,ho1⟩:∃e1,(s.heap.update a (Obj.mapSeq fun _=>#[])).get? a=some (seqObj "list" #[] e1):=⟨_,get?_update_seq ho (fun _=>#[])⟩
 refine wpAny_bind (seqEpoch_at ho1 rfl ?_);refine wpAny_bind (wpAny_newTuple ?_);refine wpAny_bind (wpAny_newList ?_);refine wpAny_holding ?_
 have ho6:(((s.heap.update a (Obj.mapSeq fun _=>#[])).push (seqObj "tuple" vs.toArray 0)).push (seqObj "list" #[] 0)).get? a=some (seqObj "list" #[] e1):=Heap.get?_push_of_some _ (Heap.get?_push_of_some _ ho1)
 have kk:∀c o,c≠a→s.heap.get? c=some o→(((s.heap.update a (Obj.mapSeq fun _=>#[])).push (seqObj "tuple" vs.toArray 0)).push (seqObj "list" #[] 0)).get? c=some o:=fun c o hc e=>Heap.get?_push_of_some _ (Heap.get?_push_of_some _ (by rw [Heap.get?_update_ne _ _ _ _ hc];exact e))
 have ht2:Paired (Zdf (((s.heap.update a (Obj.mapSeq fun _=>#[])).push (seqObj "tuple" vs.toArray 0)).push (seqObj "list" #[] 0))) vs nss:=L2.Paired.mapP ht fun v ns x=>x.at kk ⟨_,ho,rfl⟩
 show wpAny (model prog w) A _ P E { s with heap:=((s.heap.update a (Obj.mapSeq fun _=>#[])).push (seqObj "tuple" vs.toArray 0)).push (seqObj "list" #[] 0) };dsimp only
 have hsz:vs.toArray.size=vs.length:=by simp
 by_cases h2:vs.toArray.size<2
 ·rw [if_pos h2,if_pos h2];refine wpAny_bind (wpAny_pure ?_);rw [StateT.run_pure]
  refine wpAny_bind (wpAny_pure ?_);dsimp only
  refine wpAny_bind (seqEpoch_at ho6 rfl ?_);refine wpAny_bind (listUpdate_at ho6 rfl ?_ (hsz2:=by rw [Array.size_map];show (pairsOf vs).size≤_;rw [pairsOf_size,sizeLine_eq];omega))
  simp only [bne_self_eq_false,Bool.false_eq_true,if_false]
  have eo:(arrOf (SortSt.mk' general' (vs.toArray.zip vs.toArray) #[] 7 none)).map (·.2)=List.toArray ((List.toArray (List.range vs.length)).toList.map fun i=>vs.getD i Value.none):=by
   exact ZpZ vs general'
  rw [eo]
  refine wpAny_pure (h _ (by simp) ?_)
  match nss,(by omega:nss.length<2),hlen with
  | [],_,hl=>
   simp only [List.length_nil] at hl
   rw [hl]
   exact Ze9 (by simp) (by simp)
  | [x],_,hl=>
   simp only [List.length_cons,List.length_nil] at hl
   rw [hl]
   exact Ze9 (by simp) (by simp)
 ·rw [if_neg h2,if_neg h2]
  have h2':2≤vs.length:=by omega
  refine wpAny_bind (ZrJ (s:={ s with heap:=((s.heap.update a (Obj.mapSeq fun _=>#[])).push (seqObj "tuple" vs.toArray 0)).push (seqObj "list" #[] 0) }) ht2 (hne h2') (by omega) ?_)
  let lt:Nat→Nat→Bool:=fun i j=>lexB (nss.getD i []) (nss.getD j [])
  have hord:Ord lt vs.length:=⟨fun x y z=>Zgp _ _ _,fun x y hx hy hxy=>Ze1 _ _ fun z=>hxy ?_⟩
  ·have wp:=Tri.wp (s:={ s with heap:=((s.heap.update a (Obj.mapSeq fun _=>#[])).push (seqObj "tuple" vs.toArray 0)).push (seqObj "list" #[] 0) }) (cmp:=kas_ask prog w A (tuples' true) vs) (R:=fun q s'=>(Pm vs.length q∧So lt q vs.length)∧s' = { s with heap:=((s.heap.update a (Obj.mapSeq fun _=>#[])).push (seqObj "tuple" vs.toArray 0)).push (seqObj "list" #[] 0) }) (fun i j hi hj C hC=>Zss (Paired.get3 _ [] ht2 hi) (Paired.get3 _ [] ht2 hj) hC) (fun q hq=>⟨hq,rfl⟩) (ZpX hord (by omega))
   refine wpAny_bind (wpAny_mono (kat_run (ks:=vs) (vs:=vs) (Q:=fun st' s'=>∃p:Array Nat,(Pm vs.length p∧So lt p vs.length)∧arrOf st'=p.map (kas_item (vs.toArray.zip vs.toArray))∧failedOf st'=none∧s' = { s with heap:=((s.heap.update a (Obj.mapSeq fun _=>#[])).push (seqObj "tuple" vs.toArray 0)).push (seqObj "list" #[] 0) }) rfl h2' h64 (fun p' st' s' a1 a2 a3 a4=>⟨p',a4.1,a2,a3,a4.2⟩) wp) ?_ fun _ _ e=>e)
   rintro ⟨⟨⟩,st'⟩ s' ⟨p,⟨hpm,hso⟩,har,hf,rfl⟩;dsimp only
   have hout:=kat_snds (ks:=vs) (vs:=vs) rfl har
   have hps:p.toList.length=vs.length:=by rw [Array.length_toList];exact hpm.size
   rw [hout]
   refine wpAny_bind (seqEpoch_at ho6 rfl ?_);refine wpAny_bind (listUpdate_at ho6 rfl ?_ (hsz2:=by rw [List.size_toArray,List.length_map,hps,sizeLine_eq];omega))
   rw [hf];simp only [bne_self_eq_false,Bool.false_eq_true,if_false]
   refine wpAny_pure (h p hpm.pm (Ze9 ?_ ?_))
   ·have e:=(hpm.pm).map (fun i=>nss.getD i [])
    rw [hlen] at e
    rw [range_getD] at e
    exact e
   ·rw [List.pairwise_iff_getElem]
    intro i j hi hj hij
    have hj':j<vs.length:=by rw [List.length_map,hps] at hj;exact hj
    have:=hso i j hij hj'
    have e1:g p i=p.toList[i]'(by rw [hps];omega):=by unfold g;simp [Array.getD,show i<p.size by rw [hpm.size];omega]
    have e2:g p j=p.toList[j]'(by rw [hps];omega):=by unfold g;simp [Array.getD,show j<p.size by rw [hpm.size];omega]
    rw [e1,e2] at this
    rw [List.getElem_map,List.getElem_map]
    unfold leT
    rw [Zg1 this];rfl
  ·have hx':x<nss.length:=by omega
   have hy':y<nss.length:=by omega
   have e1:nss.getD x []=nss[x]:=by simp [hx']
   have e2:nss.getD y []=nss[y]:=by simp [hy']
   rw [e1,e2] at z
   have pw:=List.pairwise_iff_getElem.mp nd
   rcases Nat.lt_trichotomy x y with q | q | q
   ·exact absurd z (pw x y hx' hy' q)
   ·exact q
   ·exact absurd z.symm (pw y x hy' hx' q)
end
end TS
namespace TS
open PySem PySem.W PyProof.Rows
section
variable {prog:Program} {w:World} {A:Around} {E:Value→Shared→Prop} {s:Shared}
theorem Zor {l:Addr} {vs:List Value} {nss:List (List Int)} {Q:Value→Shared→Prop} (hl:s.heap.IsList l vs.toArray) (ht:Paired (Zdf s.heap) vs nss) (h64:vs.length<64) (nd:nss.Nodup) (hne:2≤vs.length→∀ns∈nss,ns≠[])
  (h:∀p:Array Nat,p.toList.Perm (List.range vs.length)→(p.toList.map fun i=>nss.getD i [])=Zb3 nss→Q (.ref (s.heap.objs.size+1)) { s with heap:=sortedAll s.heap vs (List.toArray (p.toList.map fun i=>vs.getD i Value.none)) }):wpAny (model prog w) A (call (.builtin "sorted") [.ref l]) Q E s:=by
 refine Calls.call_function_entry kind_sorted plain_sorted entry_sorted (args_sorted1 _) ?_;unfold Builtin.«sorted»;refine wpAny_bind (m:=checkCount "sorted" 1 1 _) (wpAny_pure ?_);refine wpAny_bind (collect_list hl ?_ (by rw [sizeLine_eq];omega));refine wpAny_bind (wpAny_newList ?_)
 have z1:((s.heap.push (seqObj "list" #[] 0)).update s.heap.objs.size (Obj.mapSeq (· ++ vs.toArray))).objs.size=s.heap.objs.size+1:=by rw [Heap.size_update,size_push']
 have g1:(((s.heap.push (seqObj "list" #[] 0)).update s.heap.objs.size (Obj.mapSeq (· ++ vs.toArray))).push (seqObj "list" vs.toArray 0)).get? (s.heap.objs.size+1)=some (seqObj "list" vs.toArray 0):=by rw [←z1];exact Heap.get?_push_size _ rfl
 have kp:∀c o,c≠s.heap.objs.size→s.heap.get? c=some o→(((s.heap.push (seqObj "list" #[] 0)).update s.heap.objs.size (Obj.mapSeq (· ++ vs.toArray))).push (seqObj "list" vs.toArray 0)).get? c=some o:=fun c o hc e=>Heap.get?_push_of_some _ (by rw [Heap.get?_update_ne _ _ _ _ hc];exact Heap.get?_push_of_some _ e)
 have ht2:Paired (Zdf (((s.heap.push (seqObj "list" #[] 0)).update s.heap.objs.size (Obj.mapSeq (· ++ vs.toArray))).push (seqObj "list" vs.toArray 0))) vs nss:=L2.Paired.mapP ht fun v ns ⟨a,xs,e,⟨o,ho,r⟩,i⟩=>⟨a,xs,e,⟨o,kp a o (Nat.ne_of_lt (Heap.lt_size ho)) ho,r⟩,i⟩
 show wpAny _ _ _ _ _ { s with heap:=((s.heap.push (seqObj "list" #[] 0)).update s.heap.objs.size (Obj.mapSeq (· ++ vs.toArray))).push (seqObj "list" vs.toArray 0) };rw [z1]
 refine wpAny_bind (wpAny_holding (wpAny_call_entry slot_list_sort ⟨_,g1,rfl⟩ entry_list_sort (ZkR (s:={ s with heap:=((s.heap.push (seqObj "list" #[] 0)).update s.heap.objs.size (Obj.mapSeq (· ++ vs.toArray))).push (seqObj "list" vs.toArray 0) }) g1 ht2 h64 nd hne fun p a1 a2=>⟨_,rfl,?_⟩) (args_list_sort _)));exact wpAny_pure ⟨_,rfl,h p a1 a2⟩
end
theorem Paired.pick {α β:Type} {F:α→β→Prop} {l:List α} {r:List β} (d:α) (d':β) (h:Paired F l r):∀(ix:List Nat),(∀i∈ix,i<l.length)→Paired F (ix.map fun i=>l.getD i d) (ix.map fun i=>r.getD i d')
 | [],_=>.nil
 | i::ix,hb=>.cons (Paired.get3 d d' h (hb i (by simp))) (Paired.pick d d' h ix fun j m=>hb j (List.mem_cons_of_mem _ m))
end TS
namespace TF
open PySem PySem.Spec PyProof.Rows L2 TS
section
variable {X:Cx} {G:Gh}
theorem Zim {pins:List (Addr×Obj)} {s:Shared} {σ:St} {H:Hp} {T:V→List Int→Prop} (I:Inv X pins σ H s) (hT:∀v ns,T v ns→∃a,v=.ref a∧SqT X.K H a (ns.map V.int)):∀{vs:List V} {its:List Value} {nss:List (List Int)},Vals vs its→Paired T vs nss→Paired (Zdf s.heap) its nss
 | _,_,_,.nil,.nil=>.nil
 | _,_,_,.cons r rr,.cons t tt=>by
  refine .cons ?_ (Zim I hT rr tt)
  obtain ⟨a,rfl,hq⟩:=hT _ _ t
  cases r
  obtain ⟨xs,rv,pl,hz⟩:=I.tuple hq
  exact ⟨a,xs,rfl,show s.heap.IsTuple a xs.toArray from pl,Zbr rv⟩
theorem Zk3:ZbH X (.builtin "sorted") (fun xs H Q=>∃(p:Addr) (vs:List V) (nss:List (List Int)) (T:V→List Int→Prop),xs=[.ref p]∧SqL X.K H p vs∧(∀v ns,T v ns→∃a,v=.ref a∧SqT X.K H a (ns.map V.int))∧Paired T vs nss∧
  nss.length<64∧nss.Nodup∧(2≤nss.length→∀ns∈nss,ns≠[])∧∀l vs',Paired T vs' (Zb3 nss)→H l=none→Q (.ref l) (upd H l (.lst vs'))):=by
 intro pins s σ H xs us Q I r h
 obtain ⟨p,vs,nss,T,rfl,hp,hT,pT,h64,nd,hne,q⟩:=h
 obtain ⟨u,rfl,ru⟩:=Zb8 r
 cases ru
 obtain ⟨its,rv,pl,hz⟩:=I.list hp
 have hl:=rv.length
 have hl2:vs.length=nss.length:=Paired.length pT
 refine Zor pl.isList (Zim I hT rv pT) (by omega) nd (fun z=>hne (by omega)) fun pm a1 a2=>?_
 obtain ⟨e,he⟩:=sortedAll_at s.heap its (List.toArray (pm.toList.map fun i=>its.getD i Value.none))
 have hle:s.heap.objs.size≤s.heap.objs.size+1:=Nat.le_succ _
 have hb:∀i∈pm.toList,i<its.length:=fun i m=>by
  have:=a1.mem_iff.mp m
  simpa using this
 have pv:Vals (pm.toList.map fun i=>vs.getD i V.non) (pm.toList.map fun i=>its.getD i Value.none):=TS.Paired.pick _ _ rv _ fun i m=>by rw [hl];exact hb i m
 have pt:Paired T (pm.toList.map fun i=>vs.getD i V.non) (pm.toList.map fun i=>nss.getD i []):=TS.Paired.pick _ _ pT _ fun i m=>by rw [hl];exact hb i m
 rw [a2] at pt
 refine ⟨.ref (s.heap.objs.size+1),_,I.laid (a:=s.heap.objs.size+1) (o:=.lst (pm.toList.map fun i=>vs.getD i V.non)) (t':=s.toks) (fun _ _=>sortedAll_old) hle ⟨?_,_,e,pv,he⟩,rfl,q _ _ pt (I.hok.fresh hle)⟩
 have:=a1.length_eq
 rw [List.length_range] at this
 rw [List.length_map,this,sizeLine_eq]
 omega
noncomputable def tupI (ns:List Int):D:=.tup (ns.map .int)
noncomputable def Zc5:List D→Option (List (List Int))
 | []=>some []
 | .tup ds::r=>match Zat ds,Zc5 r with | some ns,some nss=>some (ns::nss) | _,_=>none
 | _::_=>none
theorem Zhd:∀nss:List (List Int),Zc5 (nss.map tupI)=some nss
 | []=>rfl
 | ns::nss=>by
  show (match Zat (ns.map D.int),Zc5 (nss.map tupI) with | some ns,some nss=>some (ns::nss) | _,_=>none)=_
  rw [Zdr,Zhd nss]
theorem Zil:∀{ds:List D} {nss:List (List Int)},Zc5 ds=some nss→ds=nss.map tupI
 | [],nss,h=>by
  have h:some []=some nss:=h
  cases h;rfl
 | d::r,nss,h=>by
  cases d with
  | tup ds=>
   have h:(match Zat ds,Zc5 r with | some ns,some nss=>some (ns::nss) | _,_=>none)=some nss:=h
   cases e1:Zat ds with
   | none=>rw [e1] at h;cases h
   | some ns=>
    cases e2:Zc5 r with
    | none=>rw [e1,e2] at h;cases h
    | some ms=>
     rw [e1,e2] at h;cases h
     rw [List.map_cons,←Zil e2]
     unfold tupI
     rw [←Zbt e1]
  | _=>cases h
noncomputable def Zen (nss:List (List Int)):Prop:=nss.length<64∧nss.Nodup∧(2≤nss.length→∀ns∈nss,ns≠[])
instance (nss:List (List Int)):Decidable (Zen nss):=by unfold Zen;infer_instance
noncomputable def Zgv:List D→Option D
 | [.lst ds]=>match Zc5 ds with | some nss=>if Zen nss then some (.lst ((Zb3 nss).map tupI)) else none | none=>none
 | _=>none
theorem Zio {Hf:Hp}:∀{nss:List (List Int)} {vs:List V},RepL G Hf (nss.map tupI) vs→Paired (fun v ns=>Rep G Hf (tupI ns) v) vs nss
 | [],vs,h=>by
  rw [RepL.nil_iff.mp h];exact .nil
 | ns::nss,vs,h=>by
  obtain ⟨v,r,rfl,h1,h2⟩:=RepL.cons_iff.mp h
  exact .cons h1 (Zio h2)
theorem Zit {Hf:Hp}:∀{nss:List (List Int)} {vs:List V},Paired (fun v ns=>Rep G Hf (tupI ns) v) vs nss→RepL G Hf (nss.map tupI) vs
 | _,_,.nil=>RepL.nil_iff.mpr rfl
 | _,_,.cons h t=>.cons h (Zit t)
theorem Zi5:Zcj X G (.builtin "sorted") Zgv:=
 ⟨_,Zk3,fun Hf H s xs ds c Q e1 st r q k=>by
  match ds,q,r with
  | [.lst es],q,r=>
   have q:(match Zc5 es with | some nss=>if Zen nss then some (D.lst ((Zb3 nss).map tupI)) else none | none=>none)=some c:=q
   cases he:Zc5 es with
   | none=>rw [he] at q;cases q
   | some nss=>
    rw [he] at q
    have q:(if Zen nss then some (D.lst ((Zb3 nss).map tupI)) else none)=some c:=q
    split at q
    ·rename_i ok
     cases q
     obtain ⟨v,rfl,rv⟩:=RepL.one_inv r
     obtain ⟨p,vs,rfl,np,hp,rp⟩:=Rep.lst_iff.mp rv
     rw [Zil he] at rp
     refine ⟨p,vs,nss,fun v ns=>Rep G Hf (tupI ns) v,rfl,SqL.of (e1 _ _ np hp),fun v ns h=>?_,Zio rp,ok.1,ok.2.1,ok.2.2,fun l vs' pt hl=>?_⟩
     ·obtain ⟨a,us,rfl,na,ha,ra⟩:=Rep.tup_iff.mp h
      rw [RepL.ints ra] at ha
      exact ⟨a,rfl,SqT.of (e1 _ _ na ha)⟩
     ·have nf:=Gh.nofp st hl
      have g2:=Gr.new (o:=.lst vs') e1 hl nf
      have rl:=Zit pt
      exact k (.ref l) _ _ g2 (Gh.grow st hl) (Rep.lst_iff.mpr ⟨l,_,rfl,nf,Zaq,rl.ext g2.ff⟩) (ZaG.mk e1 hl nf rl)
    ·cases q⟩
end
end TF
namespace TF
open PySem PySem.Spec PyProof.Rows L2
section
variable {X:Cx} {G:Gh} {own:List Nat} {fr:Bool}
end
section
variable {X:Cx} {G:Gh}
noncomputable def vD:V→Option D
 | .int i=>some (.int i)
 | .bl b=>some (.bl b)
 | .str x=>some (.str x)
 | .non=>some .non
 | _=>none
theorem ZmI {H:Hp} {v:V} {c:D} (h:vD v=some c):Rep G H c v:=by
 cases v with
 | int i=>cases h;exact Rep.int_iff.mpr rfl
 | bl i=>cases h;exact Rep.bl_iff.mpr rfl
 | str i=>cases h;exact Rep.str_iff.mpr rfl
 | non=>cases h;exact Rep.non_iff.mpr rfl
 | _=>cases h
noncomputable def dIxK:D→D→Option D
 | .dk kvs,y=>match Zby y with | some k=>(valV kvs k).bind vD | none=>none
 | .df kvs,y=>match Zby y with | some k=>(valV kvs k).bind vD | none=>none
 | .dt kvs,.tup ks=>match Zbp ks with | some k=>(valV kvs k).bind vD | none=>none
 | .du kvs,.tup ks=>match Zbp ks with | some k=>(valV kvs k).bind vD | none=>none
 | _,_=>none
theorem Zlo {a b:Expr} {pos:Pos} {fa fb:Rho→M D} {r1 r2:Bool} (hu:X.A.units+1<cLine) (ha:PD X G r1 a fa) (hb:PD X G r2 b fb) (hs:NoSl b:=by intro _ _;rfl):PD X G false (.Subscript a b pos) (dOp dIxK fa fb):=by
 obtain ⟨ta,pa,qa⟩:=ha.drop
 obtain ⟨tb,pb,qb⟩:=hb.drop
 refine ⟨_,Zb0 hu pa pb hs,fun σ Hf H ρ s d s' Q e1 e2 e3 e4 k=>?_⟩
 obtain ⟨da,s1,a1,a2⟩:=Zah e4
 obtain ⟨db,s2,a3,a4⟩:=Zah a2
 obtain ⟨a5,rfl⟩:=ZbE a4
 refine qa σ Hf H ρ s da s1 _ e1 e2 e3 a1 fun x Hf1 H1 g1 st1 r1=>?_
 refine qb σ Hf1 H1 ρ s1 db _ _ g1.fh (e2.ext g1.ff) st1 a3 fun y Hf2 H2 g2 st2 r2=>?_
 have r1:=r1.ext g2.ff
 have fin:∀v c,d=c→vD v=some c→Q v H2:=fun v c ec h=>by
  subst ec
  exact k v Hf2 H2 (g1.trans g2) st2 (ZmI h) (fun z=>by cases z)
 match da,a5,r1 with
 | .dk kvs,a5,r1=>
  obtain ⟨p,rfl,np,hp⟩:=Rep.dk_iff.mp r1
  have a5:(match Zby db with | some k=>(valV kvs k).bind vD | none=>none)=some d:=a5
  cases ek:Zby db with
  | none=>rw [ek] at a5;cases a5
  | some ky=>
   rw [ek] at a5
   obtain ⟨v,ev,e6⟩:=Option.bind_eq_some_iff.mp a5
   have ey:=ZcP ek r2
   subst ey
   refine ⟨p,v,rfl,?_,fin v d rfl e6⟩
   rw [←ev]
   exact DGet.k (g2.fh _ _ np hp)
 | .df kvs,a5,r1=>
  obtain ⟨p,o,rfl,np,hp⟩:=Rep.df_iff.mp r1
  have a5:(match Zby db with | some k=>(valV kvs k).bind vD | none=>none)=some d:=a5
  cases ek:Zby db with
  | none=>rw [ek] at a5;cases a5
  | some ky=>
   rw [ek] at a5
   obtain ⟨v,ev,e6⟩:=Option.bind_eq_some_iff.mp a5
   have ey:=ZcP ek r2
   subst ey
   exact ⟨p,v,rfl,.inl ⟨kvs,ky,.inr ⟨o,g2.fh _ _ np hp⟩,rfl,ev.symm⟩,fin v d rfl e6⟩
 | .du kvs,a5,r1=>
  obtain ⟨p,rfl,np,hp⟩:=Rep.du_iff.mp r1
  match db,a5,r2 with
  | .tup ks,a5,r2=>
   have a5:(match Zbp ks with | some k=>(valV kvs k).bind vD | none=>none)=some d:=a5
   obtain ⟨q,vs,rfl,nq,hq,rq⟩:=Rep.tup_iff.mp r2
   cases ek:Zbp ks with
   | none=>rw [ek] at a5;cases a5
   | some ky=>
    rw [ek] at a5
    obtain ⟨v,ev,e6⟩:=Option.bind_eq_some_iff.mp a5
    have ey:=ZcZ ek rq
    subst ey
    refine ⟨p,v,rfl,?_,fin v d rfl e6⟩
    rw [←ev]
    exact DGet.t (g2.fh _ _ np hp) (g2.fh _ _ nq hq)
 | .dt kvs,a5,r1=>
  obtain ⟨p,o,rfl,np,hp⟩:=Rep.dt_iff.mp r1
  match db,a5,r2 with
  | .tup ks,a5,r2=>
   have a5:(match Zbp ks with | some k=>(valV kvs k).bind vD | none=>none)=some d:=a5
   obtain ⟨q,vs,rfl,nq,hq,rq⟩:=Rep.tup_iff.mp r2
   cases ek:Zbp ks with
   | none=>rw [ek] at a5;cases a5
   | some ky=>
    rw [ek] at a5
    obtain ⟨v,ev,e6⟩:=Option.bind_eq_some_iff.mp a5
    have ey:=ZcZ ek rq
    subst ey
    exact ⟨p,v,rfl,.inr ⟨kvs,ky,q,.inr ⟨o,g2.fh _ _ np hp⟩,rfl,g2.fh _ _ nq hq,ev.symm⟩,fin v d rfl e6⟩
end
section
variable {X:Cx} {G:Gh} {ob:List Nat} {fr:Bool}
end
section
variable {X:Cx} {G:Gh} {ob own:List Nat} {fr:Bool}
noncomputable def Ze0 (c:Rho→M Bool) (g:Rho→M Out):Nat→Rho→M Out
 | 0,_=>Zau
 | n+1,ρ=>Zan (c ρ) fun b=>if b=true then Zan (g ρ) fun o=>match o with | .nx ρ2=>Ze0 c g n ρ2 | .ct ρ2=>Ze0 c g n ρ2 | .bk ρ2=>mret (.nx ρ2) | .rt d=>mret (.rt d) else mret (.nx ρ)
noncomputable def Zjv (n:Nat) (c:Rho→M Bool) (g:Rho→M Out):Rho→M Out:=Ze0 c g n
theorem Znc {n:Nat} {c:Expr} {body:List Stmt} {pos:Pos} {fc:Rho→M Bool} {g:Rho→M Out} (hp:PassesOwn (model X.prog X.w) X.A X.env X.xe) (hc:PDT X G c fc) (hb:PDSs X G own own own fr body g):PDS X G ob own own fr (.While c body [] pos) (Zjv n fc g):=by
 obtain ⟨tc,pc,qc⟩:=hc
 obtain ⟨tb,pb,qb⟩:=hb
 refine ⟨_,Zov hp pc pb,fun kn Hf0 H0 σ H ρ s out s' E ⟨Hf,j⟩ st e po=>?_⟩
 refine ⟨fun m σ2 H2=>∃ρ2 s2,J G own kn Hf0 H0 σ2 H2 ρ2∧G.st s2 H2∧Ze0 fc g m ρ2 s2=some (out,s'),⟨n,ρ,s,⟨Hf,j⟩,st,e⟩,?_⟩
 rintro m σ2 H2 ⟨ρ2,s2,⟨Hf2,j2⟩,st2,eq2⟩
 cases m with
 | zero=>cases eq2
 | succ m=>
  obtain ⟨b,s3,a1,a2⟩:=Zah eq2
  refine qc σ2 _ H2 ρ2 s2 b s3 _ Zdh j2.envB st2 a1 fun Hf' H' g' st'=>?_
  obtain ⟨F,j',fF,q1,q2⟩:=j2.growB g'
  cases b with
  | false=>
   obtain ⟨rfl,rfl⟩:=Zao a2
   exact iteF (po σ2 H' ⟨F,j'⟩ st')
  | true=>
   rw [if_pos rfl] at a2
   obtain ⟨o,s4,b3,b4⟩:=Zah a2
   refine iteT ⟨fun σ' H'=>∃ρ5 s5,J G own kn Hf0 H0 σ' H' ρ5∧G.st s5 H'∧Ze0 fc g m ρ5 s5=some (out,s'),fun σ' H' h=>⟨m,Nat.lt_succ_self m,h⟩,?_⟩
   refine qb kn Hf0 H0 σ2 H' ρ2 s3 o s4 _ ⟨F,j'⟩ st' b3 ?_
   cases o with
   | nx ρ5=>exact fun σ5 H5 j5 st5=>⟨ρ5,s4,j5,st5,b4⟩
   | ct ρ5=>exact fun σ5 H5 j5 st5=>⟨ρ5,s4,j5,st5,b4⟩
   | bk ρ5=>
    obtain ⟨rfl,rfl⟩:=Zao b4
    exact fun σ5 H5 j5 st5=>po σ5 H5 j5 st5
   | rt d=>
    obtain ⟨rfl,rfl⟩:=Zao b4
    exact po
end
theorem Ok.swhile {n:Nat} {c:Rho→M Bool} {g:Rho→M Out} {ρ:Rho} {s:Pn} {Q:Out→Pn→Prop} (I:Nat→Rho→Pn→Prop) (m:Nat) (hm:m<n) (h0:I m ρ s)
  (step:∀m ρ s,I m ρ s→Ok (c ρ) s fun b s1=>if b=true then Ok (g ρ) s1 fun o s2=>match o with | .nx ρ'=>∃m',m'<m∧I m' ρ' s2 | .ct ρ'=>∃m',m'<m∧I m' ρ' s2 | .bk ρ'=>Q (.nx ρ') s2 | .rt d=>Q (.rt d) s2 else Q (.nx ρ) s1):Ok (Zjv n c g ρ) s Q:=by
 show Ok (Ze0 c g n ρ) s Q
 induction n generalizing m ρ s with
 | zero=>omega
 | succ n ih=>
  refine Ok.bind ((step m ρ s h0).mono fun b s1 q=>?_)
  cases b with
  | false=>exact .ret (by simpa using q)
  | true=>
   rw [if_pos rfl] at q
   rw [if_pos rfl]
   refine Ok.bind (q.mono fun o s2 q=>?_)
   cases o with
   | nx ρ'=>obtain ⟨m',hm',h'⟩:=q;exact ih m' (by omega) h'
   | ct ρ'=>obtain ⟨m',hm',h'⟩:=q;exact ih m' (by omega) h'
   | bk ρ'=>exact .ret q
   | rt d=>exact .ret q
section
variable {X:Cx} {G:Gh} {ob own:List Nat} {fr:Bool}
theorem ZjI {pos:Pos}:PD X G true (.Dict [] [] pos) (dC (.dk [])):=by
 refine ⟨_,Zoy,fun σ Hf H ρ s d s' Q e1 e2 e3 e4 k=>?_⟩
 obtain ⟨rfl,rfl⟩:=Zao e4
 intro p hp
 have nf:=Gh.nofp e3 hp
 have g2:=Gr.new (o:=.dK []) e1 hp nf
 exact k (.ref p) _ _ g2 (Gh.grow e3 hp) (Rep.dk_iff.mpr ⟨p,rfl,nf,Zaq⟩) fun _ a ea _=>by cases ea;exact ⟨hp,fun ds ed=>by cases ed⟩
noncomputable def Zfg (i:Nat) (fx fv:Rho→M D):Rho→M Out:=fun ρ=>Zan (fv ρ) fun v=>Zan (fx ρ) fun x=>match (ρ[i]?).bind id with
 | some (.dk kvs)=>match Zby x,ZcS v with | some k,some w=>if kvs.length<sizeLine then mret (.nx (ρ.set i (some (.dk (putK kvs k w))))) else Zau | _,_=>Zau
 | _=>Zau
theorem ZoE {r1 r2:Bool} {i:Nat} {x:Str} {ex ev:Expr} {p1 p2 pos:Pos} {fx fv:Rho→M D} {tx tv:TE} (hu:X.A.units+1<cLine) (hi:i∈own) (hn:PE X (.Name x p1) (tVar i)) (px:PE X ex tx) (yx:YldJ G own r1 tx fx) (pv':PE X ev tv) (yv:YldJ G own r2 tv fv)
  (hs:swapsWith ev (some (.Subscript (.Name x p1) ex p2)) pos.line X.env=pure false) :
  PDS X G ob own own fr (.Assign [.Subscript (.Name x p1) ex p2] ev pos) (Zfg i fx fv):=by
 refine ⟨_,Zlk hu hn px pv' hs,fun kn Hf0 H0 σ H ρ s out s' E ⟨Hf,j⟩ st e po=>?_⟩
 obtain ⟨v,s1,a1,a2⟩:=Zah e
 obtain ⟨xx,s2,a3,a4⟩:=Zah a2
 refine yv kn Hf0 H0 σ Hf H ρ s v s1 _ j st a1 fun w Hf1 H1 j1 e1 e2 st1 r1 _=>?_
 cases hb:(ρ[i]?).bind id with
 | none=>rw [hb] at a4;cases a4
 | some c=>
  rw [hb] at a4
  cases c with
  | dk kvs=>
   have a4':(match Zby xx,ZcS v with | some k,some w=>if kvs.length<sizeLine then mret (Out.nx (ρ.set i (some (.dk (putK kvs k w))))) else Zau | _,_=>Zau) s2=some (out,s'):=a4
   cases hk:Zby xx with
   | none=>rw [hk] at a4';cases a4'
   | some k=>
    cases hw:ZcS v with
    | none=>rw [hk,hw] at a4';cases a4'
    | some w'=>
     rw [hk,hw] at a4'
     obtain ⟨hl,a5⟩:=Za4 a4'
     obtain ⟨rfl,rfl⟩:=Zao a5
     have ei:=Zig hb
     obtain ⟨a,h1,h2,h3,h4,h5⟩:=j1.ow i _ hi ei
     refine ⟨_,h1,?_⟩
     refine yx kn Hf0 H0 σ Hf1 H1 ρ s1 _ _ _ j1 st1 a3 fun w2 Hf2 H2 j2 e3 e4 st2 r2 _=>?_
     obtain ⟨a',h1',h2',h3',h4',h5'⟩:=j2.ow i _ hi ei
     rw [h1] at h1';cases h1'
     have ek:=ZcP hk r2
     subst ek
     have ew:=ZfE hw r1
     subst ew
     refine ⟨a,_,rfl,DPut.k (k:=k) (show H2 a=some (.dK kvs) from h5') (by omega),?_⟩
     exact po σ _ ⟨Hf2,j2.put hi ei h1 (show upd H2 a (.dK (putK kvs k w)) a=some (.dK (putK kvs k w)) from Zaq)⟩ (Gh.other st2 h2)
  | _=>cases a4
theorem Zis {r1 r2:Bool} {i:Nat} {x:Str} {ex ev:Expr} {p1 p2 pos:Pos} {fx fv:Rho→M D} (hu:X.A.units+1<cLine) (hi:i∈own) (hn:PE X (.Name x p1) (tVar i)) (hx:PD X G r1 ex fx) (hv:PD X G r2 ev fv)
  (hs:swapsWith ev (some (.Subscript (.Name x p1) ex p2)) pos.line X.env=pure false:=by rfl) :
  PDS X G ob own own fr (.Assign [.Subscript (.Name x p1) ex p2] ev pos) (Zfg i (fun ρ=>fx (hide own ρ)) (chk r2 fv)):=by
 obtain ⟨tv,pv',qv⟩:=hv
 obtain ⟨tx,px,qx⟩:=hx
 have yv:Yld G r2 tv fv:=qv
 have yx:Yld G r1 tx fx:=qx
 exact ZoE hu hi hn px yx.a pv' yv.b hs
noncomputable def minI (n:Int) (r:List Int):Int:=r.foldl min n
theorem Zqz (r:List Int):∀n,minI n r≤n∧∀a∈r,minI n r≤a:=by
 induction r with
 | nil=>intro n;exact ⟨Int.le_refl _,by simp⟩
 | cons b r ih=>
  intro n
  obtain ⟨h1,h2⟩:=ih (min n b)
  refine ⟨?_,fun a ha=>?_⟩
  ·show minI (min n b) r≤n;omega
  ·show minI (min n b) r≤a
   rcases List.mem_cons.mp ha with rfl | ha
   ·omega
   ·exact h2 a ha
theorem ZoX (r:List Int):∀n,minI n r∈n::r:=by
 induction r with
 | nil=>intro n;simp [minI]
 | cons b r ih=>
  intro n
  have h:=ih (min n b)
  show minI (min n b) r∈n::b::r
  rcases List.mem_cons.mp h with h | h
  ·rw [h]
   rcases Int.le_total n b with z | z
   ·rw [Int.min_eq_left z];simp
   ·rw [Int.min_eq_right z];simp
  ·exact List.mem_cons_of_mem _ (List.mem_cons_of_mem _ h)
theorem ZjW {n M:Int} {r:List Int} (h1:M∈n::r) (h2:∀a∈n::r,M≤a):M=minI n r:=by
 obtain ⟨g1,g2⟩:=Zqz r n
 have g3:=h2 _ (ZoX r n)
 have g4:minI n r≤M:=by
  rcases List.mem_cons.mp h1 with h | h
  ·rw [h];exact g1
  ·exact g2 M h
 omega
noncomputable def Zmt:List D→Option D
 | [.lst ds]=>match Zat ds with | some (n::r)=>some (.int (minI n r)) | _=>none
 | _=>none
theorem Zn9 (hc:X.calm=true):ZbH X (.builtin "min") (fun xs H Q=>∃p n r,xs=[.ref p]∧SqL X.K H p ((n::r).map V.int)∧Q (.int (minI n r)) H):=by
 intro pins s σ H xs us Q I r h
 obtain ⟨p,n,rr,rfl,hp,q⟩:=h
 obtain ⟨u,rfl,ru⟩:=Zb8 r
 cases ru
 obtain ⟨its,rv,pl,hz⟩:=I.list hp
 have hi:IntsAre its (n::rr):=Zbr rv
 obtain ⟨xs,e⟩:=hi.allInts.items
 have hns:n::rr=xs.toList.map (·.1):=by rw [←hi.numsOf,←nums_intItems,←e]
 have hl:=pl.isList
 rw [e] at hl
 have hsz:0<xs.size:=by
  have h3:0<(n::rr).length:=by simp
  rw [hns,List.length_map,Array.length_toList] at h3;exact h3
 refine min_intList (I.ok.hd hc) hl hsz fun v h' tk hv hk=>?_
 obtain ⟨t,rfl⟩:=intItems_at hv
 obtain ⟨h1,h2⟩:=argBest_lt (numAt xs) (xs.size-1)
 have e2:numAt xs (argBest (fun i j=>decide (numAt xs i<numAt xs j)) (xs.size-1))=minI n rr:=by
  refine ZjW ?_ fun a ha=>?_
  ·rw [hns,numAt_eq];exact getD_mem (by rw [List.length_map,Array.length_toList];omega)
  ·rw [hns] at ha
   obtain ⟨j,hj,rfl⟩:=mem_getD ha
   rw [List.length_map,Array.length_toList] at hj
   rw [←numAt_eq];exact h2 j (by omega)
 rw [e2]
 exact ⟨.int (minI n rr),H,I.kept (t':=tk) hk,⟨_,rfl⟩,q⟩
theorem Zmw (hc:X.calm=true):Zcj X G (.builtin "min") Zmt:=
 ⟨_,Zn9 hc,fun Hf H s xs ds c Q e1 st r q k=>by
  match ds,q,r with
  | [.lst es],q,r=>
   have q:(match Zat es with | some (n::r)=>some (D.int (minI n r)) | _=>none)=some c:=q
   cases he:Zat es with
   | none=>rw [he] at q;cases q
   | some ns=>
    cases ns with
    | nil=>rw [he] at q;cases q
    | cons n rr=>
     rw [he] at q
     cases q
     obtain ⟨v,rfl,rv⟩:=RepL.one_inv r
     obtain ⟨p,vs,rfl,np,hp,rp⟩:=Rep.lst_iff.mp rv
     rw [Zbt he] at rp
     rw [RepL.ints rp] at hp
     exact ⟨p,n,rr,rfl,SqL.of (e1 _ _ np hp),k _ Hf H (.refl e1) st (Rep.int_iff.mpr rfl) (.scal fun z=>z)⟩⟩
noncomputable def Zq8 (K:PySem.W.Frag):V→List V→Hp→VK→Prop:=fun x vs H Q=>∃(p:Addr) (ns:List Int) (k:Int),x=.ref p∧vs=[.int k]∧SqL K H p (ns.map V.int)∧k∈ns∧Q (.int (ns.idxOf k:Nat)) H
theorem ZoU : MtR X "list.index" (Zq8 X.K) := by
  intro pins s σ H x xs v us Q I rx rv h
  obtain ⟨p, ns, k, rfl, rfl, hp, hk, q⟩ := h
  cases rx
  obtain ⟨u, rfl, t, rfl⟩ := Zb8 rv
  obtain ⟨its, r2, pl, hz⟩ := I.list hp
  have hi : IntsAre its ns := Zbr r2
  obtain ⟨⟨c0, d0, dat, sl0⟩, hob, hcl, n0, hdat⟩ := id pl.isList
  simp only at hcl hdat
  subst hcl hdat
  have l1 := hi.length
  have l2 : ns.idxOf k < ns.length := by rw [List.idxOf_lt_length_iff]; exact hk
  have l3 : ns.length ≤ sizeLine := by simpa using hz
  have l4 := Zf1
  have go := SeqAt.list_indexAt p its.toArray n0 d0 sl0 (.int k t) (isInt k) (ns.idxOf k) (by simpa [l1] using l2) (by omega)
    (by show isInt k its[ns.idxOf k] = true
        rw [isInt_at k hi (ns.idxOf k) (by omega) l2]; simpa using List.getElem_idxOf l2)
    (fun j hjs hlt => by
        show isInt k its[j] = false
        rw [isInt_at k hi j (by simpa using hjs) (by have : j < ns.idxOf k := hlt; omega)]; exact ne_of_lt_idxOf hlt _)
  refine call_meets PySem.F.slot_list_index ⟨_, hob, rfl⟩ PySem.F.entry_list_index (PySem.F.args_list_index_2 _ _) go ⟨hob, fun y hy => (eq_isInt k t hi y (by simpa using hy)).at _ _, ?_⟩
  exact ⟨.int (ns.idxOf k : Nat), H, I.tok _, ⟨_, rfl⟩, q⟩
noncomputable def ZhM:D→D→Option D
 | .lst ds,.int k=>(Zat ds).bind fun ns=>if k∈ns then some (.int (ns.idxOf k:Nat)) else none
 | _,_=>none
theorem ZoI {o e:Expr} {ap cp:Pos} {r1 r2:Bool} {fo fe:Rho→M D} (ho:PD X G r1 o fo) (he:PD X G r2 e fe)
  (hbase:attributeBase o "index" X.env (eval o X.env)=eval o X.env:=by rfl)
  (hfew:((backTo cp (starEach [e] X.env)).all (fun x=>!x.1)&&(backToKw cp (keywordEach [] X.env)).all (fun x=>x.1.isSome)
   && decide ([e].length+([]:List Keyword).length+(if ([]:List Keyword).isEmpty then 0 else 1)<30))=true:=by rfl)
  (hline:(ap.endLine==cp.line)=true:=by rfl) (hs:starEach [e] X.env=(false,eval e X.env)::starEach [] X.env:=by rfl) :
  PD X G true (.Call (.Attribute o "index" ap) [e] [] cp) (dOp ZhM fo fe):=by
 obtain ⟨to,po,qo⟩:=ho.drop
 obtain ⟨te,pe,qe⟩:=he.drop
 refine ⟨_,Zi9 PySem.F.plainAttrs_list PySem.F.slot_list_index PySem.F.type_list_index ZoU po (Za0 pe Zbg hs) hbase hfew hline hs rfl,fun σ Hf H ρ s d s' Q e1 e2 e3 e4 k=>?_⟩
 obtain ⟨da,s1,a1,a2⟩:=Zah e4
 obtain ⟨db,s2,a3,a4⟩:=Zah a2
 obtain ⟨a5,rfl⟩:=ZbE a4
 refine qo σ Hf H ρ s da s1 _ e1 e2 e3 a1 fun x Hf1 H1 g1 st1 r1=>?_
 match da,db,a5,r1,a3 with
 | .lst ds,.int kk,a5,r1,a3=>
  have a5:((Zat ds).bind fun ns=>if kk∈ns then some (D.int (ns.idxOf kk:Nat)) else none)=some d:=a5
  cases he:Zat ds with
  | none=>rw [he] at a5;cases a5
  | some ns=>
   rw [he] at a5
   have a5:(if kk∈ns then some (D.int (ns.idxOf kk:Nat)) else none)=some d:=a5
   split at a5
   ·rename_i hmem
    cases a5
    obtain ⟨p,vs,rfl,np,hp,rp⟩:=Rep.lst_iff.mp r1
    refine ⟨.inl ⟨rfl,vs,SqL.of (g1.fh _ _ np hp)⟩,?_⟩
    refine qe σ Hf1 H1 ρ s1 _ _ _ g1.fh (e2.ext g1.ff) st1 a3 fun y Hf2 H2 g2 st2 r2=>?_
    rw [Zbt he] at rp
    rw [RepL.ints rp] at hp
    cases (Rep.int_iff.mp r2)
    exact ⟨p,ns,kk,rfl,rfl,SqL.of (g2.fh _ _ np (g2.ff _ _ np hp)),hmem,k _ Hf2 H2 (g1.trans g2) st2 (Rep.int_iff.mpr rfl) fun _=>.scal fun z=>z⟩
   ·cases a5
noncomputable def sAug (i:Nat) (fv:Rho→M D):Rho→M Out:=fun ρ=>Zan (fv ρ) fun v=>match (ρ[i]?).bind id,v with
 | some (.int a),.int b=>mret (.nx (ρ.set i (some (.int (a+b)))))
 | _,_=>Zau
theorem ZoG {r1:Bool} {i:Nat} {x:Str} {ev:Expr} {p1 pos:Pos} {fv:Rho→M D} {tv:TE} (hN:X.N.Nodup) (hi:X.N[i]?=some x) (hx:Loc X.env.scope x) (hio:i∉own) (pv':PE X ev tv) (yv:YldJ G own r1 tv fv)
  (hf:X.fn x=true∨X.env.scope.names.lookup x=some .local):PDS X G ob own own fr (.AugAssign (.Name x p1) .Add ev pos) (sAug i fv):=by
 refine ⟨_,Zrc hN hi hx pv' ZrP hf,fun kn Hf0 H0 σ H ρ s out s' E ⟨Hf,j⟩ st e po=>?_⟩
 obtain ⟨v,s1,a1,a2⟩:=Zah e
 cases hb:(ρ[i]?).bind id with
 | none=>rw [hb] at a2;cases a2
 | some c=>
  rw [hb] at a2
  cases c with
  | int a=>
   cases v with
   | int b=>
    obtain ⟨rfl,rfl⟩:=Zao a2
    obtain ⟨w,h1,h2⟩:=j.fz i _ hio (Zig hb)
    rw [Rep.int_iff.mp h2] at h1
    refine ⟨_,h1,yv kn Hf0 H0 σ Hf H ρ s _ _ _ j st a1 fun w2 Hf1 H1 j1 e1 e2 st1 r1 _=>?_⟩
    rw [Rep.int_iff.mp r1]
    exact ⟨a,b,rfl,rfl,po _ _ ⟨Hf1,j1.setF hio (Rep.int_iff.mpr rfl)⟩ st1⟩
   | _=>cases a2
  | _=>cases v <;> cases a2
theorem Zqf {r1:Bool} {i:Nat} {x:Str} {ev:Expr} {p1 pos:Pos} {fv:Rho→M D} (hN:X.N.Nodup) (hi:X.N[i]?=some x) (hx:Loc X.env.scope x) (hv:PD X G r1 ev fv) (hio:i∉own:=by decide)
  (hf:X.fn x=true∨X.env.scope.names.lookup x=some .local:=by first | exact .inl rfl | exact .inr rfl | assumption):PDS X G ob own own fr (.AugAssign (.Name x p1) .Add ev pos) (sAug i (chk r1 fv)):=by
 obtain ⟨tv,pv',qv⟩:=hv
 have yv:Yld G r1 tv fv:=qv
 exact ZoG hN hi hx hio pv' yv.b hf
end
section
variable {X:Cx} {G:Gh} {ob own:List Nat} {fr:Bool}
noncomputable def Zms (d e:D):Option D:=match e with | .non=>(Zfo d).map fun b=>.bl (!b) | _=>none
theorem ZoN:OpD X G (compareOp .IsNot) Zms:=
 ⟨_,Zqn,fun Hf H s x y d e c Q e1 st rx ry q k=>by
  cases e with
  | non=>
   have q:(Zfo d).map (fun b=>D.bl (!b))=some c:=q
   cases hb:Zfo d with
   | none=>rw [hb] at q;cases q
   | some b=>
    rw [hb] at q
    cases q
    refine ⟨Rep.non_iff.mp ry,?_⟩
    rw [ZiE hb rx]
    exact k _ Hf H (.refl e1) st (Rep.bl_iff.mpr rfl) (.scal fun z=>z)
  | _=>cases q⟩
end
end TF
namespace HT
open PySem PySem.Spec PyProof.Rows
theorem Zoq:isSubtype (.type "tuple") (.type "set")=pure false:=by rw [isSubtype_type];kernel_rfl
theorem ZkD:isSubtype (.type "tuple") (.type "frozenset")=pure false:=by rw [isSubtype_type];kernel_rfl
section
variable {prog:Program} {w:World} {A:Around} {E:Value→Shared→Prop} {s:Shared}
noncomputable abbrev ZcO (led:Bool):Obj:={ cls:=.type "set",dict:=none,data:=.set #[] 0 (.fresh 0 0 led) }
set_option maxHeartbeats 3200000 in
theorem set_of_tuple {l:Addr} {items:Array Value} {ns:List Int} {Q:Value→Shared→Prop} (hh:A.handled=none) (hl:s.heap.IsTuple l items) (hi:IntsAre items.toList ns) (hb:items.size+1<scanBound)
  (h:∀(h':Heap) (tk:Nat),h'.SetOf (intKind prog w) s.heap.objs.size (fun k'=>(firstMet (fun i=>ns.getD i 0) items.size).any (· == k')) (firstMet (fun i=>ns.getD i 0) items.size).length→(∀b o,b<s.heap.objs.size→s.heap.get? b=some o→h'.get? b=some o)→Q (.ref s.heap.objs.size) { s with heap:=h',toks:=tk }) :
  wpAny (model prog w) A (call (.type "set") [.ref l]) Q E s:=by
 obtain ⟨c,tl,hmro⟩:=PySem.F.called_set.mro;have hmade:=PySem.F.called_set.made;have hsub:=PySem.F.called_set.sub
 refine wpAny_call (codeAny_of_tree ?_);show wpAny _ _ (callAny (.type "set") _) _ _ _
 refine wpAny_pure ⟨Code.quiet_builtin _ (by decide +kernel),codeAny_builtin PySem.F.entry_type_call ?_⟩;rw [Around.under_plain (weight_type_call_type "set" [.ref l] []) rfl]
 have h1:=PySem.F.called_set.notType;have h2:=PySem.F.called_set.canCreate;have hct:=PySem.F.typeCall_set_1 (.ref l)
 repeat (any_goals (first | assumption | wp_step))
 refine codeAny_mono (code_set_new_1 (.ref l) (E:=E) (Q₁:=fun obj s₁=>∃led:Bool,obj=.ref s.heap.objs.size∧s₁ = { s with heap:=s.heap.push (ZcO led) }) fun led=>⟨led,rfl,rfl⟩) fun r s₁ hr=>?_
 cases r with
 | error e=>exact hr
 | ok fl=>
  cases fl with
  | ret obj=>
   obtain ⟨led,rfl,rfl⟩:=hr;have hS:(s.heap.push (ZcO led)).get? s.heap.objs.size=some (ZcO led):=Heap.get?_push_size _ rfl
   have hT:Shared.TypeIs { s with heap:=s.heap.push (ZcO led) } (.ref s.heap.objs.size) "set":=⟨_,hS,rfl⟩
   have hli:=PySem.F.called_set.init.lookup;have hbi:=PySem.F.called_set.init.bind (.ref s.heap.objs.size)
   repeat (any_goals (first | assumption | wp_step))
   refine codeAny_mono (codeAny_call_builtin (R:=wants (fun r s₂=>r=.none∧∃h' tk,s₂ = { s with heap:=h',toks:=tk }∧h'.SetOf (intKind prog w) s.heap.objs.size (fun k'=>(firstMet (fun i=>ns.getD i 0) items.size).any (· == k')) (firstMet (fun i=>ns.getD i 0) items.size).length∧(∀b o,b<s.heap.objs.size→s.heap.get? b=some o→h'.get? b=some o)) E) PySem.F.called_set.init.plain PySem.F.entry_set_init (check_set_init_1 hT ?_)) fun r₂ s₂ hr₂=>?_
   ·obtain ⟨ol,hol,hcl,nl,hdl⟩:=hl;obtain ⟨ocls,odict,odata,oslots⟩:=ol
    simp only at hcl hdl;subst hcl;subst hdl
    have hol':(s.heap.push (ZcO led)).get? l=some { cls:=.type "tuple",dict:=odict,data:=.seq items nl,slots:=oslots }:=Heap.get?_push_of_some _ hol
    have z1:=Zoq;have z2:=ZkD;have hne:(Value.type "tuple" == Value.type "dict")=false:=by decide
    have hl1:(s.heap.push (ZcO led)).IsTuple l items:=⟨_,hol',rfl,nl,rfl⟩
    unfold Builtin.«set.__init__» noKeywords Builtin.Frozenset.updateFrom
    generalize hPI:pyIter=PI
    wp_walk
    subst hPI
    refine wpAny_pyIter_tuple hl1 ?_;refine wpAny_bind (wpAny_runValue ?_)
    have hlS:l<s.heap.objs.size:=Heap.lt_size hol;have hh3:A.in1.in1.in1.handled=none:=by simp [hh]
    have hneI:l≠(s.heap.push (ZcO led)).objs.size:=by rw [Heap.size_push];exact Nat.ne_of_lt (Nat.lt_succ_of_lt hlS)
    have hSf:s.heap.objs.size∉[(s.heap.push (ZcO led)).objs.size,l]:=by
     rw [Heap.size_push];simp only [List.mem_cons,List.mem_singleton,List.not_mem_nil,or_false,not_or];exact ⟨Nat.ne_of_lt (Nat.lt_succ_self _),Nat.ne_of_gt hlS⟩
    have hval:∀(i:Nat) (v:Value),items[i]?=some v→∃t,v=.int ((fun i=>ns.getD i 0) i) t:=fun i v hv=>IntsAre.int_at hi i v (by rw [Array.getElem?_toList];exact hv)
    refine codeAny_set_update_loopS ((Walks.tuple hh3 _ l hneI items).toS) s.heap.objs.size hSf (fun i=>ns.getD i 0) hval hb (items.size-0) 0 _ (by omega) (Nat.zero_le _) ⟨⟨_,Heap.get?_push_size _ rfl,rfl,rfl⟩,(hl1.push _)⟩ ?hS0 ?hR
    case hS0=>
     have hget:((s.heap.push (ZcO led)).push { cls:=.type "tuple_iterator",data:=.fields #[.ref l,.int 0 0] }).get? s.heap.objs.size=some (ZcO led):=Heap.get?_push_of_some _ hS
     exact SetOf_congr ((setObjOf_fresh (knd:=intKind prog w) led).setOf hget (by unfold scanBound;omega)) (fun _=>rfl) rfl
    case hR=>
     intro s' hm hS';obtain ⟨h',g',d',tk',os'⟩:=s'
     have eg:g'=s.gens:=hm.gens;have ed:d'=s.drawn:=hm.drawn;have eo:os'=s.os:=hm.os
     subst eg;subst ed;subst eo;show wpAny _ _ _ _ _ _
     refine wpAny_pure ?_;show wpAny _ _ (ret Value.none) _ _ _
     refine wpAny_pure ⟨rfl,h',tk',rfl,hS',fun b o hb e=>?_⟩
     have hb1:b≠s.heap.objs.size:=Nat.ne_of_lt hb;have hb2:b≠(s.heap.push (ZcO led)).objs.size:=by rw [Heap.size_push];exact Nat.ne_of_lt (Nat.lt_succ_of_lt hb)
     exact hm.heap b o (by simp only [List.mem_cons,List.mem_singleton,List.not_mem_nil,or_false,not_or];exact ⟨hb1,hb2⟩) (Heap.get?_push_of_some _ (Heap.get?_push_of_some _ e))
   ·cases r₂ with
    | error e=>exact hr₂
    | ok fl₂=>
     cases fl₂ with
     | ret r=>
      obtain ⟨rfl,h',tk,rfl,hS',hk'⟩:=hr₂;repeat (any_goals (first | assumption | wp_step))
      exact h _ _ hS' hk'
     | next=>exact hr₂.elim
     | brk=>exact hr₂.elim
     | cont=>exact hr₂.elim
  | next=>exact hr.elim
  | brk=>exact hr.elim
  | cont=>exact hr.elim
end
end HT
namespace TF
open PySem PySem.Spec PyProof.Rows L2
section
variable {X:Cx} {G:Gh}
noncomputable def unlike (ns:List Int):Nat:=(ns.foldl step_dedup []).length
theorem ZhG (ns:List Int) (n:Nat) (h:n=ns.length):firstMet (fun i=>ns.getD i 0) n=ns.foldl step_dedup []:=by
 unfold firstMet
 congr 1
 subst h
 apply List.ext_getElem?
 intro i
 rw [List.getElem?_map]
 by_cases hi:i<ns.length
 ·rw [List.getElem?_range hi,List.getElem?_eq_getElem hi]
  simp [List.getD_eq_getElem?_getD,List.getElem?_eq_getElem hi]
 ·rw [List.getElem?_eq_none (by simp;omega:(List.range ns.length).length≤i),List.getElem?_eq_none (by omega)]
  rfl
theorem Zn8 (hc:X.calm=true):ZbH X (.type "set") (fun xs H Q=>∃(p:Addr) (ns:List Int),xs=[.ref p]∧(SqL X.K H p (ns.map V.int)∨SqT X.K H p (ns.map V.int))∧ns.length≤1000∧∀l S,H l=none→Q (.ref l) (upd H l (.set S (unlike ns)))):=by
 intro pins s σ H xs us Q I r h
 obtain ⟨p,ns,rfl,hp,hl,q⟩:=h
 obtain ⟨u,rfl,ru⟩:=Zb8 r
 cases ru
 have hsb:(1000:Nat)+1<scanBound:=by unfold scanBound;omega
 have fin:∀(items:Array Value) (_:IntsAre items.toList ns) (h':Heap) (tk:Nat),h'.SetOf (intKind X.prog X.w) s.heap.objs.size (fun k'=>(firstMet (fun i=>ns.getD i 0) items.size).any (· == k')) (firstMet (fun i=>ns.getD i 0) items.size).length→(∀b o,b<s.heap.objs.size→s.heap.get? b=some o→h'.get? b=some o)→EP X pins σ Q (.ref s.heap.objs.size) { s with heap:=h',toks:=tk }:=fun items hi h' tk hS hk=>by
  have e:firstMet (fun i=>ns.getD i 0) items.size=ns.foldl step_dedup []:=ZhG ns _ (by rw [←hi.length,Array.length_toList])
  rw [e] at hS
  exact ⟨.ref s.heap.objs.size,_,I.laid (a:=s.heap.objs.size) (o:=.set (fun k'=>(ns.foldl step_dedup []).any (· == k')) (unlike ns)) (t':=tk) (fun b o e=>hk b o (Heap.lt_size e) e) (Nat.le_refl _) hS,rfl,q _ _ (I.hok.fresh (Nat.le_refl _))⟩
 rcases hp with hp | hp
 ·obtain ⟨its,rv,pl,hz⟩:=I.list hp
  have hi:IntsAre its ns:=Zbr rv
  have hll:=hi.length
  exact call_set_list (I.ok.hd hc) pl.isList (by simpa using hi) (by simp;omega) (fin its.toArray (by simpa using hi))
 ·obtain ⟨its,rv,pl,hz⟩:=I.tuple hp
  have hi:IntsAre its ns:=Zbr rv
  have hll:=hi.length
  exact HT.set_of_tuple (I.ok.hd hc) (show s.heap.IsTuple p its.toArray from pl) (by simpa using hi) (by simp;omega) (fin its.toArray (by simpa using hi))
theorem Zk4:ZbH X (.builtin "len") (fun xs H Q=>∃(p:Addr) (S:Int→Bool) (n:Nat),xs=[.ref p]∧H p=some (.set S n)∧n≤1000∧Q (.int n) H):=by
 intro pins s σ H xs us Q I r h
 obtain ⟨p,S,n,rfl,hp,hn,q⟩:=h
 obtain ⟨u,rfl,ru⟩:=Zb8 r
 cases ru
 obtain ⟨o,es,ep,t,h1,h2,h3,h4,h5,h6,h7,h8⟩:=(show s.heap.SetOf (intKind X.prog X.w) p S n from I.hok p _ hp)
 refine call_len_set h1 h2 h3 h7 (by omega) ?_
 rw [h8]
 exact ⟨.int n,H,I.tok _,⟨_,rfl⟩,q⟩
theorem ZpW (ns:List Int):∀acc:List Int,(ns.foldl step_dedup acc).length≤acc.length+ns.length:=by
 induction ns with
 | nil=>intro acc;simp
 | cons a r ih=>
  intro acc
  have h:=ih (step_dedup acc a)
  have:(step_dedup acc a).length≤acc.length+1:=by unfold step_dedup;split <;> simp
  show (r.foldl step_dedup (step_dedup acc a)).length≤_
  simp only [List.length_cons];omega
theorem ZmK (ns:List Int):unlike ns≤ns.length:=by
 have:=ZpW ns []
 simpa [unlike] using this
noncomputable def ZdE (f:Rho→M D):Rho→M D:=fun ρ=>Zan (f ρ) fun d=>match d with
 | .tup ds=>(match Zat ds with | some ns=>if ns.length≤1000 then mret (.int (unlike ns:Nat)) else Zau | none=>Zau)
 | .lst ds=>(match Zat ds with | some ns=>if ns.length≤1000 then mret (.int (unlike ns:Nat)) else Zau | none=>Zau)
 | _=>Zau
theorem ZfP {a:Expr} {p1 p2 pos1 pos:Pos} {r1:Bool} {f:Rho→M D} (hc:X.calm=true) (hg:Gl X "len") (hm:X.mg "len" = none) (hv:bootBuiltins "len" = some (.builtin "len")) (hg2:Gl X "set") (hm2:X.mg "set" = none) (hv2:bootBuiltins "set" = some (.type "set")) (ha:PD X G r1 a f)
  (hs:starEach [a] X.env=(false,eval a X.env)::starEach [] X.env:=by rfl)
  (hs2:starEach [Expr.Call (.Name "set" p2) [a] [] pos1] X.env=(false,eval (Expr.Call (.Name "set" p2) [a] [] pos1) X.env)::starEach [] X.env:=by rfl) (hpl:(backTo pos (starEach [] X.env)).any (·.1)=false:=by rfl) (hpl1:(backTo pos1 (starEach [] X.env)).any (·.1)=false:=by rfl) :
  PD X G true (.Call (.Name "len" p1) [.Call (.Name "set" p2) [a] [] pos1] [] pos) (ZdE f):=by
 obtain ⟨t,pa,qa⟩:=ha.drop
 refine ⟨_,ZdC Zk4 hg hm hv (Za0 (ZeB (Zn8 hc) hg2 hm2 hv2 (Za0 pa Zbg hs) (by decide) (by decide) hs hpl1) Zbg hs2) (by decide) (by decide) hs2 hpl,fun σ Hf H ρ s d s' Q e1 e2 e3 e4 k=>?_⟩
 obtain ⟨d0,s1,a1,a2⟩:=Zah e4
 refine qa σ Hf H ρ s d0 s1 _ e1 e2 e3 a1 fun v Hf1 H1 g1 st1 r1=>?_
 have go:∀ns:List Int,(if ns.length≤1000 then mret (D.int (unlike ns:Nat)) else Zau) s1=some (d,s')→(∃p,v=.ref p∧(SqL X.K H1 p (ns.map V.int)∨SqT X.K H1 p (ns.map V.int)))→∃(p:Addr) (ns:List Int),[v]=[.ref p]∧(SqL X.K H1 p (ns.map V.int)∨SqT X.K H1 p (ns.map V.int))∧ns.length≤1000∧∀l S,H1 l=none→∃(p:Addr) (S':Int→Bool) (n:Nat),[V.ref l]=[.ref p]∧upd H1 l (.set S (unlike ns)) p=some (.set S' n)∧n≤1000∧Q (.int n) (upd H1 l (.set S (unlike ns))):=fun ns h ⟨p,ev,hp⟩=>by
  obtain ⟨hl,h⟩:=Za4 h
  obtain ⟨rfl,rfl⟩:=Zao h
  have hu:=ZmK ns
  refine ⟨p,ns,by rw [ev],hp,hl,fun l S hn=>⟨l,S,unlike ns,rfl,Zaq,by omega,?_⟩⟩
  have nf:=Gh.nofp st1 hn
  have g2:=Gr.new (o:=.set S (unlike ns)) g1.fh hn nf
  exact k _ _ _ (g1.trans g2) (Gh.grow st1 hn) (Rep.int_iff.mpr rfl) fun _=>.scal fun z=>z
 match d0,a2,r1 with
 | .tup ds,a2,r1=>
  have a2:(match Zat ds with | some ns=>if ns.length≤1000 then mret (D.int (unlike ns:Nat)) else Zau | none=>Zau) s1=some (d,s'):=a2
  cases he:Zat ds with
  | none=>rw [he] at a2;cases a2
  | some ns=>
   rw [he] at a2
   obtain ⟨p,vs,rfl,np,hp,rp⟩:=Rep.tup_iff.mp r1
   rw [Zbt he] at rp
   rw [RepL.ints rp] at hp
   exact go ns a2 ⟨p,rfl,.inr (SqT.of (g1.fh _ _ np hp))⟩
 | .lst ds,a2,r1=>
  have a2:(match Zat ds with | some ns=>if ns.length≤1000 then mret (D.int (unlike ns:Nat)) else Zau | none=>Zau) s1=some (d,s'):=a2
  cases he:Zat ds with
  | none=>rw [he] at a2;cases a2
  | some ns=>
   rw [he] at a2
   obtain ⟨p,vs,rfl,np,hp,rp⟩:=Rep.lst_iff.mp r1
   rw [Zbt he] at rp
   rw [RepL.ints rp] at hp
   exact go ns a2 ⟨p,rfl,.inl (SqL.of (g1.fh _ _ np hp))⟩
theorem Zdm (ns:List Int):(ns.foldl step_dedup []).Nodup∧∀x,x∈ns.foldl step_dedup []↔x∈ns:=by
 have gen:∀(r acc:List Int),acc.Nodup→(r.foldl step_dedup acc).Nodup∧∀x,x∈r.foldl step_dedup acc↔x∈acc∨x∈r:=by
  intro r
  induction r with
  | nil=>intro acc h;exact ⟨h,fun x=>by simp⟩
  | cons a r ih=>
   intro acc h
   show (r.foldl step_dedup (step_dedup acc a)).Nodup∧∀x,x∈r.foldl step_dedup (step_dedup acc a)↔_
   by_cases m:acc.any (· == a)=true
   ·have e:step_dedup acc a=acc:=by unfold step_dedup;rw [if_pos m]
    rw [e]
    obtain ⟨h1,h2⟩:=ih acc h
    obtain ⟨y,hy,ey⟩:=List.any_eq_true.mp m
    have ey:y=a:=by simpa using ey
    subst ey
    refine ⟨h1,fun x=>?_⟩
    rw [h2 x]
    constructor
    ·rintro (z | z)
     ·exact .inl z
     ·exact .inr (List.mem_cons_of_mem _ z)
    ·rintro (z | z)
     ·exact .inl z
     ·rcases List.mem_cons.mp z with z | z
      ·subst z;exact .inl hy
      ·exact .inr z
   ·have e:step_dedup acc a=acc ++ [a]:=by unfold step_dedup;rw [if_neg m]
    rw [e]
    have na:a∉acc:=fun z=>m (List.any_eq_true.mpr ⟨a,z,by simp⟩)
    obtain ⟨h1,h2⟩:=ih (acc ++ [a]) (List.nodup_append.mpr ⟨h,by simp,fun x hx y hy=>by
     have:=List.mem_singleton.mp hy
     subst this
     exact fun z=>na (z▸hx)⟩)
    refine ⟨h1,fun x=>?_⟩
    rw [h2 x]
    simp only [List.mem_append,List.mem_cons,List.not_mem_nil,or_false]
    constructor
    ·rintro ((z | z) | z)
     ·exact .inl z
     ·exact .inr (.inl z)
     ·exact .inr (.inr z)
    ·rintro (z | z | z)
     ·exact .inl (.inl z)
     ·exact .inl (.inr z)
     ·exact .inr z
 obtain ⟨h1,h2⟩:=gen ns [] List.nodup_nil
 exact ⟨h1,fun x=>by rw [h2 x];simp⟩
end
end TF
namespace HT
open PySem PySem.Spec PyProof.Rows
section
variable {prog:Program} {w:World} {A:Around} {R:Result→Shared→Prop} {I:Addr} {fp wr:List Addr} {n:Nat} {P:Nat→Value→Prop} {St:Nat→Heap→Prop}
theorem Zns (kw:List (Str×Value)) (W:Walks prog w A.in1 I fp wr n P St) (bt:Nat→Nat→Bool) (hcmp:CmpOf prog w A.in1 .Gt P bt) (S:Addr) (hSf:S∉fp):∀(k j:Nat) (s:Shared) (vb:Value) (c:Nat),n-(j+1)=k→j+1≤n→St (j+1) s.heap→P (argBest bt j) vb→s.heap.get? S=some { cls:=.type "list",dict:=none,data:=.seq #[vb,vb] c,slots:=#[] }→
  (∀v h' tk,P (argBest bt (n-1)) v→(∀b o,b∉wr→b≠S→s.heap.get? b=some o→h'.get? b=some o)→R (.ok (.ret v)) { s with heap:=h',toks:=tk })→codeAny (model prog w) A (.builtin "max.loop" ⟨[.ref I,.none,.ref S],kw⟩) R s:=by
 have hSw:S∉wr:=fun h=>hSf (W.sub _ h);have hname:(toString "max" ++ toString ".loop" : String) = "max.loop":=by decide
 intro k
 induction k with
 | zero=>
  intro j s vb c hk hj hst hPb hS hR;have hin:j+1=n:=by omega
  refine codeAny_builtin PySem.F.entry_max_loop ?_;rw [Around.under_plainId PySem.F.plain_max_loop _];show wpAny _ A.in1 (seqItems? (.ref S) >>= _) _ _ s
  refine wpAny_bind (wpAny_seqItems hS rfl ?_);show wpAny _ A.in1 (tryCatch (pyNext (.ref I)) _ >>= _) _ _ s
  refine wpAny_bind (wpAny_tryCatch (W.done s _ _ (hin▸hst) fun h' tk hk'=>?_));have hS':=hk' S _ hSw hS
  show wpAny _ A.in1 (updateSeq S (fun _=>#[]) >>= _) _ _ _;refine wpAny_bind ?_
  refine wpAny_updateSeq hS' rfl (wpAny_bind (wpAny_letGo (wpAny_pure ?_)));refine hR vb _ tk (by rw [←hin];exact hPb) fun b o hbw hbS e=>(Heap.get?_update_other _ _ (Ne.symm hbS)).trans (hk' b o hbw e)
 | succ k ih=>
  intro j s vb c hk hj hst hPb hS hR;have hlt:j+1<n:=by omega
  refine codeAny_builtin PySem.F.entry_max_loop ?_;rw [Around.under_plainId PySem.F.plain_max_loop _];show wpAny _ A.in1 (seqItems? (.ref S) >>= _) _ _ s
  refine wpAny_bind (wpAny_seqItems hS rfl ?_);show wpAny _ A.in1 (tryCatch (pyNext (.ref I)) _ >>= _) _ _ s
  refine wpAny_bind (wpAny_tryCatch (W.item (j+1) s _ _ hlt hst fun v h' tk hP hst' hk'=>?_));have hS':=hk' S _ hSw hS
  show wpAny _ A.in1 (tryCatch (holding [v,v] (richCompare .Gt v vb >>= _)) _ >>= _) _ _ _;refine wpAny_bind (wpAny_tryCatch (wpAny_holding (wpAny_bind (hcmp (j+1) (argBest bt j) v vb _ _ _ hP hPb ?_))))
  refine wpAny_bind (wpAny_holding (wpAny_truthy_bool ?_));refine wpAny_bind (wpAny_letGo (wpAny_pure ?_))
  cases hb:bt (j+1) (argBest bt j) with
  | true=>
   simp only [if_true];refine wpAny_bind ?_;refine wpAny_updateSeq hS' rfl (wpAny_bind (wpAny_letGo ?_));rw [hname]
   refine wpAny_pure ⟨plainId_quiet PySem.F.plain_max_loop _,ih (j+1) _ v _ (by omega) hlt (W.frame _ _ _ hst' fun b hbf o e=>?_) (by simp only [argBest,hb,if_true];exact hP) (Heap.get?_update_self _ hS' rfl) fun v' h'' tk'' hP' hk''=>?_⟩
   ·exact (Heap.get?_update_other _ _ (fun h:S=b=>hSf (by rw [h];exact hbf))).trans e
   ·exact hR v' h'' tk'' hP' fun b o hbw hbS e=>hk'' b o hbw hbS ((Heap.get?_update_other _ _ (Ne.symm hbS)).trans (hk' b o hbw e))
  | false=>
   simp only [Bool.false_eq_true,if_false];refine wpAny_bind (wpAny_letGo ?_);rw [hname]
   refine wpAny_pure ⟨plainId_quiet PySem.F.plain_max_loop _,ih (j+1) _ vb c (by omega) hlt hst' (by simp only [argBest,hb,Bool.false_eq_true,if_false];exact hPb) hS' fun v' h'' tk'' hP' hk''=>?_⟩;exact hR v' h'' tk'' hP' fun b o hbw hbS e=>hk'' b o hbw hbS (hk' b o hbw e)
theorem Zmb (d:Value) (W:Walks prog w A.in1 I fp wr n P St) (bt:Nat→Nat→Bool) (hcmp:CmpOf prog w A.in1 .Gt P bt) (S:Addr) (hSf:S∉fp) {s:Shared} {c:Nat} (hst:St 0 s.heap) (hS:s.heap.get? S=some { cls:=.type "list",dict:=none,data:=.seq #[] c,slots:=#[] })
  (hR:0<n→∀v h' tk,P (argBest bt (n-1)) v→(∀b o,b∉wr→b≠S→s.heap.get? b=some o→h'.get? b=some o)→R (.ok (.ret v)) { s with heap:=h',toks:=tk })
  (hD:n=0→∀h' tk,(∀b o,b∉wr→b≠S→s.heap.get? b=some o→h'.get? b=some o)→R (.ok (.ret d)) { s with heap:=h',toks:=tk }):codeAny (model prog w) A (.builtin "max.loop" ⟨[.ref I,.none,.ref S],[("default",d)]⟩) R s:=by
 have hSw:S∉wr:=fun h=>hSf (W.sub _ h);have hname:(toString "max" ++ toString ".loop" : String) = "max.loop":=by decide
 refine codeAny_builtin PySem.F.entry_max_loop ?_;rw [Around.under_plainId PySem.F.plain_max_loop _];show wpAny _ A.in1 (seqItems? (.ref S) >>= _) _ _ s
 refine wpAny_bind (wpAny_seqItems hS rfl ?_);show wpAny _ A.in1 (tryCatch (pyNext (.ref I)) _ >>= _) _ _ s
 by_cases hn:0<n
 ·refine wpAny_bind (wpAny_tryCatch (W.item 0 s _ _ hn hst fun v h' tk hP hst' hk'=>?_));have hS':=hk' S _ hSw hS
  show wpAny _ A.in1 (updateSeq S (fun _=>#[v,v]) >>= _) _ _ _;refine wpAny_bind ?_;refine wpAny_updateSeq hS' rfl ?_;rw [hname]
  refine wpAny_pure ⟨plainId_quiet PySem.F.plain_max_loop _,Zns _ W bt hcmp S hSf _ 0 _ v _ rfl hn (W.frame _ _ _ hst' fun b hbf o e=>?_) hP (Heap.get?_update_self _ hS' rfl) fun v' h'' tk'' hP' hk''=>?_⟩
  ·exact (Heap.get?_update_other _ _ (fun h:S=b=>hSf (by rw [h];exact hbf))).trans e
  ·exact hR hn v' h'' tk'' hP' fun b o hbw hbS e=>hk'' b o hbw hbS ((Heap.get?_update_other _ _ (Ne.symm hbS)).trans (hk' b o hbw e))
 ·have h0:n=0:=by omega
  refine wpAny_bind (wpAny_tryCatch (W.done s _ _ (by rw [h0];exact hst) fun h' tk hk'=>?_))
  show wpAny _ A.in1 (do rule _;ret d) _ _ _
  refine wpAny_bind (wpAny_rule (wpAny_pure ?_))
  exact hD h0 h' tk fun b o hbw hbS e=>hk' b o hbw e
end
section
variable {prog:Program} {w:World} {A:Around} {E:Value→Shared→Prop} {s:Shared}
theorem Znt (x d:Value):argsOk "max" ⟨[x],[("default",d)]⟩:=by unfold argsOk;kernel_rfl
theorem maxD_walk {x d:Value} {Q:Value→Shared→Prop} (h:wpAny (model prog w) A.in1 (pyIter x) (fun it s₂=>∃I fp wr n P St bt,it=.ref I∧Walks prog w A.in1 I fp wr n P St∧St 0 s₂.heap∧(∀b∈fp,b<s₂.heap.objs.size)∧CmpOf prog w A.in1 .Gt P bt∧
   (0<n→∀v h' tk,P (argBest bt (n-1)) v→(∀b o,b∉wr→s₂.heap.get? b=some o→h'.get? b=some o)→Q v { s₂ with heap:=h',toks:=tk })∧(n=0→∀h' tk,(∀b o,b∉wr→s₂.heap.get? b=some o→h'.get? b=some o)→Q d { s₂ with heap:=h',toks:=tk })) E s) :
  wpAny (model prog w) A (call (.builtin "max") [x] [("default",d)]) Q E s:=by
 have hname:(toString "max" ++ toString ".loop" : String) = "max.loop":=by decide
 refine wpAny_call (codeAny_call_builtin PySem.F.plain_max PySem.F.entry_max ?_);simp only [checkBuiltinCall,PySem.F.kind_max]
 suffices hgo:wpAny (model prog w) A.in1 (Builtin.«max» ⟨[x],[("default",d)]⟩) (fun fin s'=>match fin with | .done f=>(match (Except.ok f:Result) with | .ok (.ret v)=>Q v s' | .ok _=>False | .error e=>E e s') | .again c'=>c'.quiet=true∧codeAny (model prog w) A c' (fun r s'=>match r with | .ok (.ret v)=>Q v s' | .ok _=>False | .error e=>E e s') s') E s by
  cases hsig:Manifest.signature? "max" with
  | none=>exact wpAny_pure hgo
  | some sig=>
   have ha:=Znt x d;simp only [argsOk,hsig] at ha
   have h2:Bind.checkArgs "max" sig ⟨[x],[("default",d)]⟩=pure ():=ha
   show wpAny _ A.in1 (Bind.checkArgs "max" sig ⟨[x],[("default",d)]⟩) _ _ s;rw [h2];exact wpAny_pure hgo
 show wpAny _ A.in1 (Builtin.Builtins.bindParams "max" ["key","default"] 0 ⟨[],[("default",d)]⟩ >>= _) _ _ s
 refine wpAny_bind (wpAny_of_eq (show Builtin.Builtins.bindParams "max" ["key","default"] 0 ⟨[],[("default",d)]⟩=pure [none,some d] from rfl) ?_);refine wpAny_bind (wpAny_pure ?_)
 refine wpAny_bind (wpAny_mono h (fun it s₂ h₂=>?_) fun _ _ e=>e);obtain ⟨I,fp,wr,n,P,St,bt,rfl,W,hst,hfp,hcmp,hQ,hQ0⟩:=h₂
 refine wpAny_bind (wpAny_newObj_type ?_);have hSf:s₂.heap.objs.size∉fp:=fun hm=>Nat.lt_irrefl _ (hfp _ hm);rw [hname]
 refine wpAny_pure ⟨plainId_quiet PySem.F.plain_max_loop _,Zmb d W bt hcmp s₂.heap.objs.size hSf (W.frame _ _ _ hst fun b _ o e=>Heap.get?_push_of_some _ e) (Heap.get?_push_size _ rfl) (fun hn v h' tk hP hk=>?_) fun hn h' tk hk=>?_⟩
 ·exact hQ hn v h' tk hP fun b o hbw e=>hk b o hbw (Nat.ne_of_lt (Heap.lt_size e)) (Heap.get?_push_of_some _ e)
 ·exact hQ0 hn h' tk fun b o hbw e=>hk b o hbw (Nat.ne_of_lt (Heap.lt_size e)) (Heap.get?_push_of_some _ e)
end
section
variable {prog:Program} {w:World} {A:Around} {R:Result→Shared→Prop} {I:Addr} {fp wr:List Addr} {n:Nat} {P:Nat→Value→Prop} {St:Nat→Heap→Prop}
end
section
variable {prog:Program} {w:World} {A:Around} {E:Value→Shared→Prop} {s:Shared}
end
end HT
namespace L2
open PySem PySem.Spec PyProof.Rows
section
variable {X:Cx}
theorem ZiW {M:Model} {h:Heap} {id:String}:PySem.W.Looks M h (keeperOf (.builtin id)) Keeper.machine:=fun A Q E s _ q=>by
 show wpAny M A (pure Keeper.machine) Q E s
 exact wpAny_pure q
noncomputable def Zoi (X:Cx) (id:String) (nm:Str) (r:List V→List V→Hp→VK→Prop):Prop:=
 ∀(pins:List (Addr×Obj)) (s:Shared) (σ:St) (H:Hp) (xs ys:List V) (us vs:List Value) (Q:VK),Inv X pins σ H s→Vals xs us→Vals ys vs→r xs ys H Q→wpAny (model X.prog X.w) X.A (call (.builtin id) us ([nm].zip vs)) (EP X pins σ Q) X.xe s
noncomputable def tCK (r:List V→List V→Hp→VK→Prop) (ta tb:TE):TE:=fun σ H Q=>Zcg ta tNil σ H fun xs H1=>Zcg tb tNil σ H1 fun ys H2=>r xs ys H2 Q
theorem Znb {id:String} {x nm:Str} {p pos kpos:Pos} {e d:Expr} {ta tb:TE} {r:List V→List V→Hp→VK→Prop} (hc:Zoi X id nm r) (hg:Gl X x) (hm:X.mg x=none) (hv:bootBuiltins x=some (.builtin id)) (ha:PE X e ta) (hb:PE X d tb)
  (hn:x≠"__name__":=by decide) (hdb:(x==("__debug__" : Str))=false:=by decide) (he:starEach [e] X.env=(false,eval e X.env)::starEach [] X.env:=by rfl)
  (hall:(backToKw pos (keywordEach [⟨some nm,d,kpos⟩] X.env)).all (·.1.isSome)=true:=by rfl) (hks:(backToKw pos (keywordEach [⟨some nm,d,kpos⟩] X.env)).filterMap (·.1)=[nm]:=by rfl)
  (hpl:((backTo pos (starEach [e] X.env)).any (·.1)||(backToKw pos (keywordEach [⟨some nm,d,kpos⟩] X.env)).any (·.1.isNone))=false:=by rfl):PE X (.Call (.Name x p) [e] [⟨some nm,d,kpos⟩] pos) (tCK r ta tb):=by
 intro pins s σ H Q I h
 refine wpAny_Call_Name_kw (Zep I hg hm hv ?_ hn hdb)
 refine PySem.W.callWith_of (P:=fun _=>True) hpl (fun h _=>⟨Keeper.machine,.inr (.inl rfl),ZiW⟩) (evalArgs_kw2 hall (thn ((Za0 ha Zbg he) pos pins s σ H _ I h) fun us s1 ⟨vs,H1,I1,rv,q1⟩=>?_) he)
 refine thn ((Zp5 hb Zrd) pos pins s1 σ H1 _ I1 q1) fun ws s2 ⟨zs,H2,I2,rz,q2⟩=>?_
 refine ⟨trivial,?_⟩
 rw [hks]
 exact hc pins s2 σ H2 vs zs us ws Q I2 rv rz q2
theorem Zmx (hc:X.calm=true):Zoi X "max" "default" (fun xs ys H Q=>∃(p:Addr) (ns:List Int) (y:V),xs=[.ref p]∧ys=[y]∧SqT X.K H p (ns.map V.int)∧Q (match ns with | n::r=>.int (TF.maxI n r) | []=>y) H):=by
 intro pins s σ H xs ys us vs Q I r r2 h
 obtain ⟨p,ns,y,rfl,rfl,hp,q⟩:=h
 obtain ⟨u,rfl,ru⟩:=Zb8 r
 cases ru
 obtain ⟨v,rfl,rv⟩:=Zb8 r2
 obtain ⟨its,rv2,pl,hz⟩:=I.tuple hp
 have hi:IntsAre its ns:=Zbr rv2
 obtain ⟨xs,e⟩:=hi.allInts.items
 have hns:ns=xs.toList.map (·.1):=by rw [←hi.numsOf,←nums_intItems,←e]
 have hl:s.heap.IsTuple p its.toArray:=pl
 rw [e] at hl
 have hpl:p<s.heap.objs.size:=by obtain ⟨o,ho,_⟩:=hl;exact Heap.lt_size ho
 have hne:p≠s.heap.objs.size:=Nat.ne_of_lt hpl
 refine HT.maxD_walk (wpAny_pyIter_tuple hl ⟨s.heap.objs.size,_,_,_,_,_,_,rfl,Walks.tuple (A:=X.A.in1) (I.ok.hd hc) _ p hne (intItems xs),⟨⟨_,Heap.get?_push_size _ rfl,rfl,rfl⟩,hl.push _⟩,fun b hb=>?_,CmpOf.ints_gt (numAt xs) (fun _ _=>intItems_at),fun hn v h' tk hP hk=>?_,fun hn h' tk hk=>?_⟩)
 ·rw [Heap.size_push]
  rcases List.mem_cons.mp hb with e1 | hb
  ·rw [e1];exact Nat.lt_succ_self _
  ·rw [List.mem_singleton.mp hb];exact Nat.lt_succ_of_lt hpl
 ·have hkk:∀b o,s.heap.get? b=some o→h'.get? b=some o:=fun b o eb=>hk b o (fun hm=>Nat.ne_of_lt (Heap.lt_size eb) (List.mem_singleton.mp hm)) (Heap.get?_push_of_some _ eb)
  have hsz:0<xs.size:=by simpa [intItems] using hn
  have hn1:(intItems xs).size=xs.size:=by simp [intItems]
  rw [hn1] at hP
  obtain ⟨t,rfl⟩:=intItems_at hP
  obtain ⟨h1,h2⟩:=argBest_gt (numAt xs) (xs.size-1)
  cases ns with
  | nil=>
   have:xs.toList=[]:=List.map_eq_nil_iff.mp hns.symm
   have:xs.size=0:=by rw [←Array.length_toList,this];rfl
   omega
  | cons n rr=>
   have e2:numAt xs (argBest (fun i j=>decide (numAt xs i > numAt xs j)) (xs.size-1))=TF.maxI n rr:=by
    refine TF.max_uniq ?_ fun a ha=>?_
    ·rw [hns,numAt_eq];exact getD_mem (by rw [List.length_map,Array.length_toList];omega)
    ·rw [hns] at ha
     obtain ⟨j,hj,rfl⟩:=mem_getD ha
     rw [List.length_map,Array.length_toList] at hj
     rw [←numAt_eq];exact h2 j (by omega)
   rw [e2]
   exact ⟨.int (TF.maxI n rr),H,I.kept (t':=tk) hkk,⟨_,rfl⟩,q⟩
 ·have hkk:∀b o,s.heap.get? b=some o→h'.get? b=some o:=fun b o eb=>hk b o (fun hm=>Nat.ne_of_lt (Heap.lt_size eb) (List.mem_singleton.mp hm)) (Heap.get?_push_of_some _ eb)
  have h0:xs.size=0:=by simpa [intItems] using hn
  have:ns=[]:=by
   rw [hns]
   have:xs.toList=[]:=by
    cases hx:xs.toList with
    | nil=>rfl
    | cons a r=>have:=congrArg List.length hx;rw [Array.length_toList,h0] at this;simp at this
   rw [this];rfl
  subst this
  exact ⟨y,H,I.kept (t':=tk) hkk,rv,q⟩
end
end L2
namespace TF
open PySem PySem.Spec PyProof.Rows L2
section
variable {X:Cx} {G:Gh}
noncomputable def Zga (f g:Rho→M D):Rho→M D:=fun ρ=>Zan (f ρ) fun d=>Zan (g ρ) fun e=>match d with
 | .tup ds=>(match Zat ds with | some (n::r)=>mret (.int (maxI n r)) | some []=>mret e | none=>Zau)
 | _=>Zau
theorem ZoH {a b:Expr} {p pos kpos:Pos} {f g:Rho→M D} {r1 r2:Bool} (hc:X.calm=true) (hg:Gl X "max") (hm:X.mg "max" = none) (hv:bootBuiltins "max" = some (.builtin "max")) (ha:PD X G r1 a f) (hb:PD X G r2 b g)
  (he:starEach [a] X.env=(false,eval a X.env)::starEach [] X.env:=by rfl)
  (hall:(backToKw pos (keywordEach [⟨some "default",b,kpos⟩] X.env)).all (·.1.isSome)=true:=by rfl) (hks:(backToKw pos (keywordEach [⟨some "default",b,kpos⟩] X.env)).filterMap (·.1)=[("default" : Str)]:=by rfl)
  (hpl:((backTo pos (starEach [a] X.env)).any (·.1)||(backToKw pos (keywordEach [⟨some "default",b,kpos⟩] X.env)).any (·.1.isNone))=false:=by rfl):PD X G false (.Call (.Name "max" p) [a] [⟨some "default",b,kpos⟩] pos) (Zga f g):=by
 obtain ⟨ta,pa,qa⟩:=ha.drop
 obtain ⟨tb,pb,qb⟩:=hb.drop
 refine ⟨_,Znb (Zmx hc) hg hm hv pa pb (by decide) (by decide) he hall hks hpl,fun σ Hf H ρ s d s' Q e1 e2 e3 e4 k=>?_⟩
 obtain ⟨da,s1,a1,a2⟩:=Zah e4
 obtain ⟨db,s2,a3,a4⟩:=Zah a2
 refine qa σ Hf H ρ s da s1 _ e1 e2 e3 a1 fun x Hf1 H1 g1 st1 r1=>?_
 refine qb σ Hf1 H1 ρ s1 db s2 _ g1.fh (e2.ext g1.ff) st1 a3 fun y Hf2 H2 g2 st2 r2=>?_
 have r1:=r1.ext g2.ff
 match da,a4,r1 with
 | .tup ds,a4,r1=>
  have a4:(match Zat ds with | some (n::r)=>mret (D.int (maxI n r)) | some []=>mret db | none=>Zau) s2=some (d,s'):=a4
  cases he:Zat ds with
  | none=>rw [he] at a4;cases a4
  | some ns=>
   rw [he] at a4
   obtain ⟨q,vs,rfl,nq,hq,rq⟩:=Rep.tup_iff.mp r1
   rw [Zbt he] at rq
   rw [RepL.ints rq] at hq
   refine ⟨q,ns,y,rfl,rfl,SqT.of (g2.fh _ _ nq hq),?_⟩
   cases ns with
   | nil=>
    obtain ⟨rfl,rfl⟩:=Zao a4
    exact k y Hf2 H2 (g1.trans g2) st2 r2 (fun z=>by cases z)
   | cons n r=>
    obtain ⟨rfl,rfl⟩:=Zao a4
    exact k _ Hf2 H2 (g1.trans g2) st2 (Rep.int_iff.mpr rfl) (fun z=>by cases z)
end
end TF
namespace TS
open PySem PySem.Spec PyProof.Rows L2
section
variable {prog:Program} {w:World} {A:Around} {E:Value→Shared→Prop} {s:Shared}
end
end TS
namespace TF
open PySem PySem.Spec PyProof.Rows L2 TS
section
variable {X:Cx} {G:Gh}
end
end TF
namespace TP2
open PySem L2 TF TP
noncomputable def ZkZ:Rho→M Out:=(sSeq (sSet 2 (dFn ZbT (Zaa (dVar 0) (Zaa (dOp dAdd (dVar 1) (dC (.int 1))) dNil))))
 (sSeq (sSet 3 (dFn ZbT (Zaa (dVar 0) (Zaa (dC (.int 9)) dNil))))
 (sSeq (sSet 4 (dOp dAdd (dC (.int 1)) (dFn ZbT (Zaa (dVar 0) (Zaa (dC (.int 5)) dNil)))))
 (sSeq (sOwn 5 (dLst dNil))
 (sSeq (sFor (Za1 (dVar 2)) (gOne 6)
 (sSeq (sFor (Ze3 (dOp dAdd (dVar 6) (dC (.int 1))) (dVar 2)) (gOne 7)
 (sSeq (sSet 8 (fun ρ=>(dOp dIx (dLst (Zaa (dC (.bl false)) (Zaa (dC (.bl true)) (Zaa (dOp dIn (dOp dSub (dVar 7) (dVar 6)) (dTup (Zaa (dC (.int 1)) (Zaa (dOp dSub (dVar 2) (dC (.int 1))) dNil)))) (Zaa (dOp dNeO (dOp dMod (dVar 6) (dVar 4)) (dOp dMod (dVar 7) (dVar 4))) dNil))))) (Zay Zd8 (Zaa (dVar 3) (Zaa (dC (.int 3)) dNil)))) (hide [5] ρ)))
 (sSeq (sIf (asB (dOp dGt (dVar 3) (dC (.int 3))))
 (sSeq (sSet 8 (fun ρ=>(dOp dLt (dFn ZbT (Zaa (dVar 0) (Zaa (dC (.int 6)) dNil))) (dVar 4)) (hide [5] ρ)))
 Zap)
 Zap)
 (sSeq (sIf (asB (dVar 8))
 (sSeq (sApp 5 (fun ρ=>(dTup (Zaa (dVar 6) (Zaa (dVar 7) dNil))) (hide [5] ρ)))
 Zap)
 Zap)
 Zap))))
 Zap))
 (sSeq (sRet (dTup (Zaa (dVar 2) (Zaa (Zay Zet (Zaa (dVar 5) dNil)) dNil))))
 Zap))))))
noncomputable def Zcv:List D→M D:=runB 9 2 ZkZ
end TP2
namespace TP3
open PySem L2 TF TP
open TP2
end TP3
namespace TP3
open PySem L2 TF TP
open TP2
end TP3
namespace TP3
open PySem L2 TF TP
open TP2
noncomputable def Zkc:Rho→M Out:=(sSeq (sRet (Zay Zmt (Zaa (ZaP [none,some 0] (Za1 (dOp dAdd (Zay dLen (Zaa (dVar 0) dNil)) (dC (.int 1)))) (gOne 0) (asB (dOp Zck (dVar 0) (dVar 1))) (dVar 0)) dNil)))
 Zap)
noncomputable def Zb2:List D→M D:=runB 1 1 Zkc
end TP3
namespace TP3
open PySem L2 TF TP
open TP2
end TP3
namespace TP3
open PySem L2 TF TP
open TP2
end TP3
namespace TP3
open PySem L2 TF TP
open TP2
noncomputable def ZiG (Fs:List D→M D):Rho→M Out:=(sSeq (sSet 3 (Zay dLen (Zaa (dVar 2) dNil)))
 (sSeq (sIf (asB (dOp dEqO (dVar 3) (Zay dLen (Zaa (dVar 0) dNil))))
 (sSeq (sRet (dVar 2))
 Zap)
 Zap)
 (sSeq (sSet 4 (ZaP [none,some 2,some 3] (ZaS (dOp dIx (dVar 0) (dVar 3))) (gOne 0) (asB (dOp dLt (dVar 0) (dVar 2))) (dOp dIx (dVar 1) (dVar 0))))
 (sSeq (sFor (Za1 (Zay Zd8 (Zaa (dVar 1) (Zaa (dOp dAdd (Zga (dVar 2) (dC (.int (-1)))) (dC (.int 2))) dNil)))) (gOne 5)
 (sSeq (sIf (asB (dOp Zck (dVar 5) (dVar 4)))
 (sSeq (sSet 6 (dFn Fs (Zaa (dVar 0) (Zaa (dVar 1) (Zaa (dOp dAdd (dVar 2) (dTup (Zaa (dVar 5) dNil))) dNil)))))
 (sSeq (sIf (asB (dOp Zms (dVar 6) (dC .non)))
 (sSeq (sRet (dVar 6))
 Zap)
 Zap)
 Zap))
 Zap)
 Zap))
 (sSeq (sRet (dC .non))
 Zap)))))
noncomputable def ZbY:Nat→List D→M D
 | 0=>fun _=>Zau
 | n+1=>runB 7 3 (ZiG (ZbY n))
end TP3
namespace TP3
open PySem L2 TF TP
open TP2
noncomputable def ZkY:Rho→M Out:=(sSeq (sIf (bNot (asB (dFn Zbc (Zaa (dVar 1) (Zaa (dOp dIx (dVar 0) (dC (.int 0))) dNil)))))
 (sSeq (sRet (dC (.bl false)))
 Zap)
 Zap)
 (sSeq (sIf (bNot (asB (Zay dAll (Zaa (ZaP [none,some 0] (Zde (dVar 1)) (gOne 0) Za2 (dFn ZbV (Zaa (dOp dIx (dVar 1) (dC (.int 0))) (Zaa (dVar 0) dNil)))) dNil))))
 (sSeq (sRet (dC (.bl false)))
 Zap)
 Zap)
 (sSeq (sRet (Zay dAll (Zaa (ZaP [none,some 1] (Zde (dOp dIx (dVar 0) (dC (.int 1)))) (gOne 0) Za2 (dOp dNeO (dOp dIx (dVar 1) (dOp dIx (dVar 0) (dC (.int 0)))) (dOp dIx (dVar 1) (dOp dIx (dVar 0) (dC (.int 1)))))) dNil)))
 Zap)))
noncomputable def Zbv:List D→M D:=runB 2 2 ZkY
end TP3
namespace TQ
open PySem L2 TF TQ
open TP
open TP2
open TP3
noncomputable def ZnU:Rho→M Out:=(sSeq (sRet (vAnd (dOp dLt (dOp dIx (dVar 0) (dC (.int 0))) (dOp dIx (dVar 1) (dC (.int 1)))) (dOp dLt (dOp dIx (dVar 1) (dC (.int 0))) (dOp dIx (dVar 0) (dC (.int 1))))))
 Zap)
noncomputable def Zoh:List D→M D:=runB 2 2 ZnU
noncomputable def ZgE:Rho→M Out:=(sSeq (sRet (vOr (dOp dEqO (dVar 1) (dVar 2)) (dFn Zbj (Zaa (dVar 0) (Zaa (dVar 1) (Zaa (dVar 2) dNil))))))
 Zap)
noncomputable def Zd1:List D→M D:=runB 3 3 ZgE
noncomputable def Zkx:List D→M D:=runB 4 4 (sSeq (sIf (asB (dOp dEqO (dOp dIx (dVar 0) (dC (.int 0))) (dOp dIx (dVar 1) (dC (.int 0)))))
 (sSeq (sRet (dFn Zbj (Zaa (dOp dIx (dVar 2) (dOp dIx (dVar 0) (dC (.int 0)))) (Zaa (dOp dIx (dVar 0) (dC (.int 1))) (Zaa (dOp dIx (dVar 1) (dC (.int 1))) dNil)))))
 Zap)
 Zap)
 (sSeq (sRet (dFn Zbj (Zaa (dVar 3) (Zaa (dOp dIx (dVar 0) (dC (.int 0))) (Zaa (dOp dIx (dVar 1) (dC (.int 0))) dNil)))))
 Zap))
noncomputable def Zgg:List D→M D:=runE 3 (vNot (dFn Zbj (Zaa (dVar 2) (Zaa (dVar 0) (Zaa (dVar 1) dNil)))))
noncomputable def Zii:List D→M D:=runB 4 4 (sSeq (sRet (vAnd (dFn Zd1 (Zaa (dVar 2) (Zaa (dOp dIx (dVar 0) (dC (.int 0))) (Zaa (dOp dIx (dVar 1) (dC (.int 0))) dNil)))) (dFn Zd1 (Zaa (dVar 3) (Zaa (dOp dIx (dVar 0) (dC (.int 1))) (Zaa (dOp dIx (dVar 1) (dC (.int 1))) dNil))))))
 Zap)
noncomputable def ZfC:List D→M D:=runE 3 (dFn Zbj (Zaa (dVar 2) (Zaa (dVar 0) (Zaa (dVar 1) dNil))))
noncomputable def Zih:List D→M D:=runE 3 (dOp dNeO (dOp dMod (dVar 0) (dVar 2)) (dOp dMod (dVar 1) (dVar 2)))
noncomputable def ZgF:List D→M D:=runE 4 (dOp dIn (Zay Zd8 (Zaa (dOp dSub (dVar 1) (dVar 0)) (Zaa (dOp dAdd (dOp dSub (dVar 2) (dVar 1)) (dVar 0)) dNil))) (dVar 3))
noncomputable def Tl:Nat→List D→M D
 | 0=>Zgg
 | 1=>ZfC
 | 2=>Zoh
 | 3=>Zkx
 | 4=>Zii
 | 6=>Zih
 | 7=>ZgF
 | _=>fun _=>Zau
noncomputable def ZkX:Rho→M Out:=(sSeq (sSet 2 (dFn Zc2 (Zaa (ZbU (Zay dLen (Zaa (dVar 0) dNil))) dNil)))
 (sSeq (sRet (dTup (Zaa (Zay dLen (Zaa (dVar 0) dNil)) (Zaa (Zay Zet (Zaa (ZaP [none,some 1,some 0] (ZaS (dVar 2)) (gOne 0) (asB (dApp Tl 1 (Zaa (dOp dIx (dVar 2) (dOp dIx (dVar 0) (dC (.int 0)))) (Zaa (dOp dIx (dVar 2) (dOp dIx (dVar 0) (dC (.int 1)))) dNil)))) (dVar 0)) dNil)) dNil))))
 Zap))
noncomputable def ZbX:List D→M D:=runB 3 2 ZkX
noncomputable def Zpb:Rho→M Out:=(sSeq (sSet 1 (dFn Zbi (Zaa (dVar 0) dNil)))
 (sSeq (sRet (dFnC ZbX 0 [1] (ZbU (dOp dIx (dVar 0) (dC (.int 0))))))
 Zap))
noncomputable def Zdk:List D→M D:=runB 2 1 Zpb
noncomputable def ZhD:Rho→M Out:=(sSeq (sSet 2 (dFn Zbi (Zaa (dVar 0) dNil)))
 (sSeq (sRet (dFnC ZbX 1 [2] (dVar 1)))
 Zap))
noncomputable def ZcD:List D→M D:=runB 3 2 ZhD
noncomputable def ZrR:Rho→M Out:=(sSeq (sRet (dFn ZcD (Zaa (dVar 0) (Zaa (dVar 1) dNil))))
 Zap)
noncomputable def ZhV:List D→M D:=runB 2 2 ZrR
end TQ
namespace TF
open PySem PySem.Spec PyProof.Rows L2
noncomputable def Zhg (K:PySem.W.Frag) (L:List (Addr×Str)):Sp:=fun vs H Q _=>∃(a:Addr) (ns:List Int),vs=[.ref a]∧SqL K H a (ns.map V.int)∧ns.length≤63∧(∀P q,(P,q)∈L→H P=some (.tbl #[]))∧∀H',Q (.bl true) H'
theorem ZlT {L:List (Addr×Str)} {tb:List (Str×Addr×Addr)} {H:Hp} (h:∀P q,(P,q)∈L→∃x c,(x,c,P)∈tb) (hT:∀e∈tb,H e.2.2=some (.tbl #[])):∀P q,(P,q)∈L→H P=some (.tbl #[]):=fun P q m=>by
 obtain ⟨x,c,z⟩:=h P q m
 exact hT _ z
theorem Zr9 {G0:Gh} {L:List (Addr×Str)} {H:Hp} (h:∀P q,(P,q)∈L→H P=some (.tbl #[])):∀P q,(P,q)∈L→ZpN G0 L P q H:=fun P q m=>⟨#[],h P q m,trivial,fun pos cv hc=>by cases hc⟩
theorem Zny {L:List (Addr×Str)} {H0 H:Hp} {p wa:Addr} {m:Int} {w:List Int} {g:Rho→M Out} {Q:VK} {n:Nat} {s':Pn} {x:V} (st:stD p wa ([m,0],w) H) (hTb:∀P q,(P,q)∈L→H0 P=some (.tbl #[])) (kp:∀b u,H0 b=some u→H b=some u) (hp:H0 p=none) (hw:H0 wa=none) (hQ:∀H',Q (.bl true) H')
  (hg:g (none::some .pen::List.replicate n none) ([m,0],w)=some (.rt (.bl true),s')) :
  ∃G,PenT PenD L G∧ZpJ G [] [] [] false g { nx:=fun _ H'=>Q .non H',rt:=Q } (some x::some (.ref p)::List.replicate n none) H:=by
 refine ⟨Ze8 (penD p wa) L,⟨penD p wa,⟨p,wa,rfl⟩,fun b ⟨q,mb⟩ hb=>?_,rfl⟩,fun _=>none,fun _=>none,H,none::some .pen::List.replicate n none,([m,0],w),_,s',⟨fun _=>none,⟨by simp,.refl _ _,.refl (fun b o _ e=>by cases e),fun i d _ e=>?_,fun i d m=>by simp at m,fun i j b di dj m=>by simp at m⟩⟩,⟨st,Zr9 fun P q z=>kp _ _ (hTb P q z)⟩,hg,fun v Hf' H' g st r _=>?_⟩
 ·have e:=hTb b q mb
  rcases hb with rfl | rfl
  ·rw [hp] at e;cases e
  ·rw [hw] at e;cases e
 ·match i,e with
  | 0,e=>cases e
  | 1,e=>cases e;exact ⟨_,rfl,Rep.pen_iff.mpr rfl⟩
  | i+2,e=>
   have e':(List.replicate n (none:Option D))[i]?=some (some d):=e
   rw [List.getElem?_replicate] at e'
   split at e' <;> cases e'
 ·rw [Rep.bl_iff.mp r]
  exact hQ H'
theorem lok_nd:∀{L:List (Addr×Str)},(L.map (·.1)).Nodup→LOk L
 | [],_=>fun P q q' h=>by simp at h
 | (a,b)::L,nd=>fun P q q' h1 h2=>by
  rw [List.map_cons,List.nodup_cons] at nd
  rcases List.mem_cons.mp h1 with e1 | m1
  ·cases e1
   rcases List.mem_cons.mp h2 with e2 | m2
   ·cases e2;rfl
   ·exact absurd (List.mem_map_of_mem (f:=(·.1)) m2) nd.1
  ·rcases List.mem_cons.mp h2 with e2 | m2
   ·cases e2;exact absurd (List.mem_map_of_mem (f:=(·.1)) m1) nd.1
   ·exact lok_nd nd.2 P q q' m1 m2
theorem ZkN (xs:List Int):Zbh (xs.map D.int)=true:=by
 induction xs with
 | nil=>rfl
 | cons a r ih=>simp only [List.map_cons,Zbh,Za5,ih];rfl
theorem Znf:∀ds s d s',ZcN ds s=some (d,s')→Zbh ds=true∧Za5 d=true:=fun ds s d s' h=>by
 unfold ZcN at h
 split at h
 ·obtain ⟨_,h⟩:=Za4 h
  obtain ⟨xs,s1,_,h2⟩:=Zah h
  obtain ⟨rfl,rfl⟩:=Zao h2
  exact ⟨rfl,by simp only [Za5];exact ZkN xs⟩
 ·cases h
end TF
namespace TT
open PySem PyProof.Rows
section
variable {M:Model} {A:Around} {E:Value→Shared→Prop} {s:Shared}
end
end TT
namespace TT
open PySem PyProof.Rows
section
variable (rk:Keyed→Int)
variable {rk} {a b out:Array Keyed} {ia ib:Nat}
end
end TT
namespace TT
open PySem PyProof.Rows
section
variable {M:Model} {A:Around} {E:Value→Shared→Prop} {s:Shared}
variable {rk:Keyed→Int} {κ:SortKind} {In:Keyed→Prop}
end
end TT
namespace TT
open PySem PyProof.Rows
section
variable (rk:Keyed→Int)
variable {rk} {a b out:Array Keyed} {na nb:Nat}
end
section
variable {M:Model} {A:Around} {E:Value→Shared→Prop} {s:Shared} {rk:Keyed→Int} {κ:SortKind} {In:Keyed→Prop}
end
end TT
namespace TT
open PySem PyProof.Rows
section
variable {M:Model} {A:Around} {E:Value→Shared→Prop} {s:Shared} {rk:Keyed→Int} {κ:SortKind} {In:Keyed→Prop}
end
end TT
namespace TT
open PySem PyProof.Rows
section
variable (rk:Keyed→Int)
end
section
variable {rk:Keyed→Int}
end
section
variable {M:Model} {A:Around} {E:Value→Shared→Prop} {s:Shared} {rk:Keyed→Int} {κ:SortKind} {In:Keyed→Prop}
end
end TT
namespace TT
open PySem PyProof.Rows
section
variable {M:Model} {A:Around} {E:Value→Shared→Prop} {s:Shared} {rk:Keyed→Int} {κ:SortKind} {In:Keyed→Prop}
end
end TT
namespace TT
open PySem PyProof.Rows
section
variable {M:Model} {A:Around} {E:Value→Shared→Prop} {s:Shared} {rk:Keyed→Int} {κ:SortKind} {In:Keyed→Prop} {a₀:List Keyed}
end
end TT
namespace TT
open PySem PyProof.Rows
section
variable {M:Model} {A:Around} {E:Value→Shared→Prop} {s:Shared} {rk:Keyed→Int} {κ:SortKind} {In:Keyed→Prop} {a₀:List Keyed}
end
end TT
namespace TT
open PySem PyProof.Rows L2 TS
open Classical in
section
variable {prog:Program} {w:World} {A:Around} {E:Value→Shared→Prop} {s:Shared}
end
end TT
namespace TF
open PySem PySem.Spec PyProof.Rows L2
section
variable {X:Cx} {G:Gh}
end
end TF
namespace L2
open PySem PySem.Spec PyProof.Rows
section
variable {X:Cx} {tg:Expr}
end
end L2
namespace TF
open PySem PySem.Spec PyProof.Rows L2
section
variable {X:Cx} {G:Gh} {ob own:List Nat} {fr:Bool}
end
end TF
namespace TF
open PySem PySem.Spec PyProof.Rows L2
open Sem (wp)
section
variable {prog:Program} {w:World} {A:Around} {E:Value→Shared→Prop} {s:Shared}
end
variable {X:Cx} {G:Gh} {f:Rho→M D}
end TF
namespace HT
open PySem PySem.Spec PyProof.Rows
end HT
namespace HT
open PySem PySem.Spec PyProof.Rows
section
variable {prog:Program} {w:World}
variable (prog w) in
variable {A:Around} {E:Value→Shared→Prop} {s:Shared}
end
end HT
namespace HT
open PySem PySem.Spec PyProof.Rows
namespace FS
end FS
section
variable {prog:Program} {w:World} {A:Around} {E:Value→Shared→Prop} {s:Shared}
end
end HT
namespace HT
open PySem PySem.Spec PyProof.Rows
section
variable {prog:Program} {w:World} {A:Around} {E:Value→Shared→Prop} {s:Shared}
variable {a:Addr} {o:Obj} {es:Array (Int×Value)} {ep:Nat} {t:SetTable}
namespace FS
end FS
end
end HT
namespace HT
open PySem PySem.Spec PyProof.Rows
section
variable {prog:Program} {w:World} {A:Around} {E:Value→Shared→Prop} {s:Shared}
variable {a:Addr} {o:Obj} {es:Array (Int×Value)} {ep:Nat} {t:SetTable}
end
end HT
namespace HT
open PySem PySem.Spec PyProof.Rows
section
variable {prog:Program} {w:World} {A:Around} {E:Value→Shared→Prop} {s:Shared}
variable {a:Addr} {o:Obj} {es:Array (Int×Value)} {ep:Nat} {t:SetTable}
end
end HT
namespace TF
open PySem PySem.Spec PyProof.Rows L2
section
variable {X:Cx} {G:Gh}
end
section
variable {X:Cx} {G:Gh} {ob own:List Nat} {fr:Bool} {f:Rho→M D}
end
end TF
namespace TT
open PySem PyProof.Rows L2 TS
section
variable {prog:Program} {w:World} {A:Around} {E:Value→Shared→Prop} {s:Shared}
end
end TT
namespace TS
open PySem PySem.Spec PyProof.Rows L2
section
variable {prog:Program} {w:World} {A:Around} {E:Value→Shared→Prop} {s:Shared}
end
end TS
namespace TF
open PySem PySem.Spec PyProof.Rows L2 TS
section
variable {X:Cx} {G:Gh}
end
end TF
namespace TF
open PySem PySem.Spec PyProof.Rows L2 TT
section
variable {X:Cx} {G:Gh}
end
end TF
namespace TQ
open PySem L2 TF TQ
open TP
open TP2
open TP3
end TQ
namespace TF
open PySem PySem.Spec PyProof.Rows L2
section
variable {X:Cx} {G:Gh} {f g:Rho→M D}
end
end TF
namespace TQ
open PySem L2 TF
end TQ
namespace TF
open PySem PySem.Spec PyProof.Rows L2
section
variable {X:Cx} {G:Gh}
end
theorem boot_sum:bootBuiltins "sum" = some (.builtin "sum"):=by decide +kernel
section
variable {X:Cx} {G:Gh}
noncomputable def Zdq (ns:List Int):Bool:=ns.all fun n=>decide (-4294967296≤n)&&decide (n≤4294967296)
theorem ZkC {ns:List Int} (h:Zdq ns=true):∀j:Nat,-(4294967296*(j:Int))≤(ns.take j).sum∧(ns.take j).sum≤4294967296*(j:Int):=by
 intro j
 induction ns generalizing j with
 | nil=>rw [List.take_nil];show _≤(0:Int)∧(0:Int)≤_;omega
 | cons n r ih=>
  cases j with
  | zero=>rw [List.take_zero];show _≤(0:Int)∧(0:Int)≤_;omega
  | succ j=>
   unfold Zdq at h
   simp only [List.all_cons,Bool.and_eq_true,decide_eq_true_eq] at h
   have:=ih h.2 j
   rw [List.take_succ_cons,List.sum_cons]
   omega
noncomputable def dSum:List D→Option D
 | [.lst ds]=>match Zat ds with | some ns=>if Zdq ns=true then some (.int ns.sum) else none | none=>none
 | _=>none
theorem Zn6 (hc:X.calm=true):ZbH X (.builtin "sum") (fun xs H Q=>∃p ns,xs=[.ref p]∧SqL X.K H p (ns.map V.int)∧Zdq ns=true∧Q (.int ns.sum) H):=by
 intro pins s σ H xs us Q I r h
 obtain ⟨p,ns,rfl,hp,ok,q⟩:=h
 obtain ⟨u,rfl,ru⟩:=Zb8 r
 cases ru
 obtain ⟨its,rv,pl,hz⟩:=I.list hp
 have hi:IntsAre its ns:=Zbr rv
 obtain ⟨xs,e⟩:=hi.allInts.items
 have hns:ns=xs.toList.map (·.1):=by rw [←hi.numsOf,←nums_intItems,←e]
 have hl:=pl.isList
 rw [e] at hl
 have hlen:ns.length=xs.size:=by rw [hns,List.length_map,Array.length_toList]
 have hz2:ns.length≤16777216:=by
  have:=hz
  rw [List.length_map] at this
  rw [show sizeLine=16777216 by decide] at this
  exact this
 refine sum_intList (I.ok.hd hc) hl (fun j hj=>?_) fun h' tk t' hk=>?_
 ·rw [preSum_eq,←hns]
  have h1:=ZkC ok (j+1)
  have h2:-4294967296≤numAt xs j∧numAt xs j≤4294967296:=by
   rw [numAt_eq,←hns]
   have hm:ns.getD j 0∈ns:=getD_mem (by omega)
   have:=List.all_eq_true.mp ok _ hm
   simp only [Bool.and_eq_true,decide_eq_true_eq] at this
   exact this
  constructor
  ·constructor <;> omega
  ·constructor <;> omega
 ·rw [preSum_eq,←hns,←hlen,List.take_length]
  exact ⟨.int ns.sum,H,I.kept (t':=tk) hk,⟨_,rfl⟩,q⟩
theorem Zn7 (hc:X.calm=true):Zcj X G (.builtin "sum") dSum:=
 ⟨_,Zn6 hc,fun Hf H s xs ds c Q e1 st r q k=>by
  match ds,q,r with
  | [.lst es],q,r=>
   have q:(match Zat es with | some ns=>if Zdq ns=true then some (D.int ns.sum) else none | none=>none)=some c:=q
   cases he:Zat es with
   | none=>rw [he] at q;cases q
   | some ns=>
    rw [he] at q
    by_cases ok:Zdq ns=true
    ·have q:(if Zdq ns=true then some (D.int ns.sum) else none)=some c:=q
     rw [if_pos ok] at q
     cases q
     obtain ⟨v,rfl,rv⟩:=RepL.one_inv r
     obtain ⟨p,vs,rfl,np,hp,rp⟩:=Rep.lst_iff.mp rv
     rw [Zbt he] at rp
     rw [RepL.ints rp] at hp
     exact ⟨p,ns,rfl,SqL.of (e1 _ _ np hp),ok,k _ Hf H (.refl e1) st (Rep.int_iff.mpr rfl) (.scal fun z=>z)⟩
    ·have q:(if Zdq ns=true then some (D.int ns.sum) else none)=some c:=q
     rw [if_neg ok] at q;cases q⟩
end
end TF
namespace TF
open PySem PySem.Spec PyProof.Rows L2 PySem.SeqAt
open AutoSeq1 (wpAny_loadPart')
theorem Zkz (l:Addr) (items:Array Value) (n:Nat) (dd:Option Addr) (sl:Array (Option Value)) (u:Tok) :
  Meets (Builtin.«tuple.__mul__» ⟨[.ref l,.int 1 u],[]⟩) (fun _ R s=>s.heap.get? l=some { cls:=.type "tuple",dict:=dd,data:=.seq items n,slots:=sl }∧R (.ok (.ret (Value.ref l))) s):=
 .of_wp fun prog w A R s h=>by
  obtain ⟨hp,g,d,tk,os⟩:=s;obtain ⟨hl,h⟩:=h;have f1:=AutoSeq1.idx_int;have f2:=AutoSeq1.sub_tuple_tuple;have f3:=AutoSeq1.sub_list_list;have f4:=AutoSeq1.sub_tuple_list;have f5:=AutoSeq1.sub_list_tuple;wp_walk using wpAny_loadPart' hl
  exact ⟨_,rfl,h⟩
theorem ZkA (l:Addr) (items:Array Value) (n:Nat) (dd:Option Addr) (sl:Array (Option Value)) (u:Tok) (hc1:items.isEmpty=false) :
  Meets (Builtin.«tuple.__mul__» ⟨[.ref l,.int 0 u],[]⟩) (fun _ R s=>s.heap.get? l=some { cls:=.type "tuple",dict:=dd,data:=.seq items n,slots:=sl }∧R (.ok (.ret (Value.ref s.heap.objs.size))) { s with heap:=s.heap.push { cls:=Value.type "tuple",data:=Data.seq #[] },toks:=s.toks }):=
 .of_wp fun prog w A R s h=>by
  obtain ⟨hp,g,d,tk,os⟩:=s;obtain ⟨hl,h⟩:=h;have f1:=AutoSeq1.idx_int;have f2:=AutoSeq1.sub_tuple_tuple;have f3:=AutoSeq1.sub_list_list;have f4:=AutoSeq1.sub_tuple_list;have f5:=AutoSeq1.sub_list_tuple;wp_walk using wpAny_loadPart' hl
  exact ⟨_,rfl,h⟩
section
variable {X:Cx} {G:Gh}
noncomputable def Zq6 (K:PySem.W.Frag):R2:=fun x y H Q=>∃l xs,x=.ref l∧y=.int 1∧SqT K H l xs∧Q (.ref l) H
noncomputable def Zq7 (K:PySem.W.Frag):R2:=fun x y H Q=>∃l xs,x=.ref l∧y=.int 0∧SqT K H l xs∧xs≠[]∧∀p,H p=none→Q (.ref p) (upd H p (.tup []))
theorem ZoP:OpR X (binaryOp .Mult) (Zq6 X.K):=by
 intro pins s σ H x y v u Q I rx ry h
 obtain ⟨l,xs,rfl,rfl,hH,q⟩:=h
 cases rx
 obtain ⟨t,rfl⟩:=ry
 obtain ⟨its,r,p1,_⟩:=I.tuple hH
 obtain ⟨⟨cls,dd,data,sl⟩,ho,hc,n,hd⟩:=id p1
 simp only at hc hd
 subst hc hd
 exact wpAny_binaryOp_repeat_ref (T:="tuple") (U:="int") (by decide) ⟨_,ho,rfl⟩ (fun s'=>typeIs_int s' 1 t) Zdi F.fills_int_mul F.slot_int_rmul Zej F.slot_int_index.lookup
  (call_meets F.slot_int_rmul (typeIs_int s 1 t) F.entry_int_rmul (F.args_int_rmul_2 _ _) (ZdD 1 t l its.toArray n dd sl)
   ⟨ho,rfl,⟨_,ho,rfl⟩,call_meets PySem.F.slot_tuple_mul ⟨_,ho,rfl⟩ PySem.F.entry_tuple_mul (PySem.F.args_tuple_mul_2 _ _) (Zkz l its.toArray n dd sl t) ⟨ho,.ref l,H,I,rfl,q⟩⟩)
theorem ZoQ:OpR X (binaryOp .Mult) (Zq7 X.K):=by
 intro pins s σ H x y v u Q I rx ry h
 obtain ⟨l,xs,rfl,rfl,hH,hne,q⟩:=h
 cases rx
 obtain ⟨t,rfl⟩:=ry
 obtain ⟨its,r,p1,_⟩:=I.tuple hH
 obtain ⟨⟨cls,dd,data,sl⟩,ho,hc,n,hd⟩:=id p1
 simp only at hc hd
 subst hc hd
 have hne':its≠[]:=fun z=>hne (r.nil_iff.mp z)
 have hemp:its.toArray.isEmpty=false:=by cases its with | nil=>exact absurd rfl hne' | cons a b=>rfl
 exact wpAny_binaryOp_repeat_ref (T:="tuple") (U:="int") (by decide) ⟨_,ho,rfl⟩ (fun s'=>typeIs_int s' 0 t) Zdi F.fills_int_mul F.slot_int_rmul Zej F.slot_int_index.lookup
  (call_meets F.slot_int_rmul (typeIs_int s 0 t) F.entry_int_rmul (F.args_int_rmul_2 _ _) (ZdD 0 t l its.toArray n dd sl)
   ⟨ho,rfl,⟨_,ho,rfl⟩,call_meets PySem.F.slot_tuple_mul ⟨_,ho,rfl⟩ PySem.F.entry_tuple_mul (PySem.F.args_tuple_mul_2 _ _) (ZkA l its.toArray n dd sl t hemp) ⟨ho,.ref s.heap.objs.size,_,I.laid (t':=s.toks) (o:=.tup []) (fun b ob q=>Heap.get?_push_of_some _ q) (Nat.le_refl _) ⟨Nat.zero_le _,[],.nil,IsTup.new _ _⟩,rfl,q _ (I.hok.fresh (Nat.le_refl _))⟩⟩)
noncomputable def ZhL (d e:D):Option D:=match d,e with
 | .tup ds,.int k=>if k=1 then some (.tup ds) else if k=0∧ds≠[] then some (.tup []) else Zgw (.tup ds) (.int k)
 | _,_=>Zgw d e
theorem ZjK:OpD X G (binaryOp .Mult) ZhL:=by
 obtain ⟨r0,po,qo⟩:=ZoO (X:=X) (G:=G)
 refine ⟨_,po.or (ZoP.or ZoQ),fun Hf H s x y d e c Q e1 st rx ry q k=>?_⟩
 by_cases hd:∃ds j,d=.tup ds∧e=.int j
 ·obtain ⟨ds,j,rfl,rfl⟩:=hd
  have q:(if j=1 then some (D.tup ds) else if j=0∧ds≠[] then some (.tup []) else Zgw (.tup ds) (.int j))=some c:=q
  by_cases h1:j=1
  ·rw [if_pos h1] at q
   cases q
   obtain ⟨p,vs,rfl,np,hp,rp⟩:=Rep.tup_iff.mp rx
   refine .inr (.inl ⟨p,vs,rfl,by rw [Rep.int_iff.mp ry,h1],SqT.of (e1 _ _ np hp),?_⟩)
   exact k (.ref p) _ _ (.refl e1) st (Rep.tup_iff.mpr ⟨p,vs,rfl,np,hp,rp⟩) (.scal fun z=>z)
  ·rw [if_neg h1] at q
   by_cases h2:j=0∧ds≠[]
   ·rw [if_pos h2] at q
    cases q
    obtain ⟨p,vs,rfl,np,hp,rp⟩:=Rep.tup_iff.mp rx
    refine .inr (.inr ⟨p,vs,rfl,by rw [Rep.int_iff.mp ry,h2.1],SqT.of (e1 _ _ np hp),fun z=>h2.2 (List.length_eq_zero_iff.mp (by rw [rp.length,z];rfl)),fun l hl=>?_⟩)
    have nf:=Gh.nofp st hl
    have g2:=Gr.new (o:=.tup []) e1 hl nf
    exact k (.ref l) _ _ g2 (Gh.grow st hl) (Rep.tup_iff.mpr ⟨l,_,rfl,nf,Zaq,RepL.nil_iff.mpr rfl⟩) (.scal fun z=>z)
   ·rw [if_neg h2] at q
    exact .inl (qo Hf H s x y _ _ c Q e1 st rx ry q k)
 ·have q':Zgw d e=some c:=by
   unfold ZhL at q
   split at q
   ·exact absurd ⟨_,_,rfl,rfl⟩ hd
   ·exact q
  exact .inl (qo Hf H s x y _ _ c Q e1 st rx ry q' k)
end
end TF
namespace TQ
open PySem L2 TF TQ
open TP
open TP2
open TP3
noncomputable def Zmn:Rho→M Out:=(sSeq (sSet 1 (dTup (Zaa (dOp dIx (dVar 0) (dC (.int 0))) (Zaa (dFn Zbi (Zaa (dVar 0) dNil)) dNil))))
 (sSeq (sRet (ZaP [none,some 1] (Za1 (dOp dIx (dVar 0) (dC (.int 0)))) (gOne 0) Za2 (dFn Zdy (Zaa (dVar 1) (Zaa (dVar 0) dNil)))))
 Zap))
noncomputable def ZbW:List D→M D:=runB 2 1 Zmn
noncomputable def ZhE (Fs:List D→M D):Rho→M Out:=(sSeq (sSet 4 (ZaP [none,some 2,some 0] (ZaS (dVar 3)) (gOne 0) (bAnd (asB (dOp dNeO (dVar 0) (dVar 1))) (asB (dOp Zck (dVar 0) (dOp dIx (dVar 2) (dVar 1))))) (dVar 0)))
 (sSeq (sRet (dOp dAdd (dLst (Zaa (dVar 2) dNil)) (dFn Fs (Zaa (dVar 0) (Zaa (dVar 1) (Zaa (dVar 4) dNil))))))
 Zap))
noncomputable def Zcc (Fs:List D→M D):List D→M D:=runB 5 4 (ZhE Fs)
noncomputable def Zi2:Rho→M Out:=(sSeq (sRet (ZaP [none,some 0,some 1] (ZaS (dVar 2)) (gOne 0) (asB (dOp dIn (dVar 0) (dOp dIx (dVar 1) (dVar 2)))) (dVar 0)))
 Zap)
noncomputable def Zdg:List D→M D:=runB 3 3 Zi2
noncomputable def ZnT:Rho→M Out:=(sSeq (sRet (Zay dSum (Zaa (ZaP [none,some 0] (ZaS (dVar 1)) (gOne 0) Za2 (dOp dIx (dVar 1) (dVar 0))) dNil)))
 Zap)
noncomputable def Zdl:List D→M D:=runB 2 2 ZnT
noncomputable def Zdj (Fs:List D→M D):Rho→M Out:=(sSeq (sIf (asB (dOp dEqO (dVar 2) (dLst dNil)))
 (sSeq (sRet (dLst dNil))
 Zap)
 Zap)
 (sSeq (sSet 3 (ZaP [none,some 0,some 2] (ZaS (dVar 2)) (gOne 0) Za2 (dFn Zdg (Zaa (dVar 1) (Zaa (dVar 0) (Zaa (dVar 2) dNil))))))
 (sSeq (sFor (Za1 (Zay dLen (Zaa (dVar 2) dNil))) (gOne 4)
 (sSeq (sIf (asB (dOp dLe (dFn Zdl (Zaa (dVar 1) (Zaa (dOp dIx (dVar 3) (dVar 4)) dNil))) (dOp dIx (dVar 1) (dOp dIx (dVar 2) (dVar 4)))))
 (sSeq (sRet (dFn (Zcc Fs) (Zaa (dVar 0) (Zaa (dVar 1) (Zaa (dOp dIx (dVar 2) (dVar 4)) (Zaa (dVar 2) dNil))))))
 Zap)
 Zap)
 Zap))
 (sSeq (sSet 5 (ZaP [none] (ZaS (dVar 3)) (gOne 0) Za2 (Zay dLen (Zaa (dVar 0) dNil))))
 (sSeq (sSet 6 (dOp dIx (dVar 2) (dOp ZhM (dVar 5) (Zay Zje (Zaa (dVar 5) dNil)))))
 (sSeq (sSet 7 (dFn (Zcc Fs) (Zaa (dVar 0) (Zaa (dVar 1) (Zaa (dVar 6) (Zaa (dVar 2) dNil))))))
 (sSeq (sSet 8 (dFn Fs (Zaa (dVar 0) (Zaa (dVar 1) (Zaa (ZaP [none,some 6] (ZaS (dVar 2)) (gOne 0) (asB (dOp dNeO (dVar 0) (dVar 1))) (dVar 0)) dNil)))))
 (sSeq (sRet (dIf (asB (dOp dGe (dFn Zdl (Zaa (dVar 1) (Zaa (dVar 7) dNil))) (dFn Zdl (Zaa (dVar 1) (Zaa (dVar 8) dNil))))) (dVar 7) (dVar 8)))
 Zap))))))))
noncomputable def Zba:Nat→List D→M D
 | 0=>fun _=>Zau
 | n+1=>runB 9 3 (Zdj (Zba n))
noncomputable def ZeF:Rho→M Out:=(sSeq (sSet 2 (ZaP [none] (ZaS (dFn ZbW (Zaa (dFn Zdk (Zaa (dVar 0) dNil)) dNil))) (gOne 0) Za2 (Zay ZhO (Zaa (ZaP [none] (ZaS (dVar 0)) (gOne 0) Za2 (dTup (Zaa (dVar 0) (Zaa (dC (.bl true)) dNil)))) dNil))))
 (sSeq (sRet (Zay Zet (Zaa (Zay Zgu (Zaa (dFn (Zba 26) (Zaa (dVar 2) (Zaa (dVar 1) (Zaa (ZbU (dOp dIx (dVar 0) (dC (.int 0)))) dNil)))) dNil)) dNil)))
 Zap))
noncomputable def ZbO:List D→M D:=runB 3 2 ZeF
noncomputable def ZrU:Rho→M Out:=(sSeq (sSet 1 (dFn ZbO (Zaa (dVar 0) (Zaa (dOp ZhL (dTup (Zaa (dC (.int 1)) dNil)) (dOp dIx (dVar 0) (dC (.int 0)))) dNil))))
 (sSeq (sRet (dTup (Zaa (Zay dLen (Zaa (dVar 1) dNil)) (Zaa (dVar 1) dNil))))
 Zap))
noncomputable def Zdz:List D→M D:=runB 2 1 ZrU
noncomputable def Zkd:Rho→M Out:=(sSeq (sSet 2 (dFn ZbW (Zaa (dVar 0) dNil)))
 (sSeq (sOwn 3 (dC (.dk [])))
 (sSeq (sFor (fun ρ=>(ZaS (dVar 1)) (hide [3] ρ)) (gOne 4)
 (sSeq (Zfg 3 (fun ρ=>(dVar 4) (hide [3] ρ)) (chk true (dFn Zb2 (Zaa (ZaP [none,some 3] (ZaS (dOp dIx (dVar 2) (dVar 4))) (gOne 0) (asB (dOp dIn (dVar 0) (dVar 1))) (dOp dIxK (dVar 1) (dVar 0))) dNil))))
 Zap))
 (sSeq (sRet (Zay Zet (Zaa (ZaP [none,some 3] (Za1 (dOp dIx (dVar 0) (dC (.int 0)))) (gOne 0) Za2 (dOp dIxK (dVar 1) (dVar 0))) dNil)))
 Zap))))
noncomputable def ZbN:List D→M D:=runB 5 2 Zkd
noncomputable def Zi1:Rho→M Out:=(sSeq (sSet 1 (dFn ZbW (Zaa (dVar 0) dNil)))
 (sSeq (sSet 2 (dOp dIx (dFn Zdz (Zaa (dVar 0) dNil)) (dC (.int 0))))
 (sSeq (sSet 3 (dFn (ZbY 10) (Zaa (dVar 1) (Zaa (dVar 2) (Zaa (dTup dNil) dNil)))))
 (sSeq (Zjv 1000000 (asB (dOp dIsN (dVar 3) (dC .non)))
 (sSeq (sAug 2 (chk true (dC (.int 1))))
 (sSeq (sSet 3 (dFn (ZbY 10) (Zaa (dVar 1) (Zaa (dVar 2) (Zaa (dTup dNil) dNil)))))
 Zap)))
 (sSeq (sRet (dTup (Zaa (dVar 2) (Zaa (dVar 3) dNil))))
 Zap)))))
noncomputable def Zb7:List D→M D:=runB 4 1 Zi1
end TQ
namespace TF
open PySem PySem.Spec PyProof.Rows L2
section
variable {X:Cx} {G:Gh}
end
section
variable {X:Cx} {G:Gh}
noncomputable def ZhN (fa fb fc:Rho→M D):Rho→M D:=fun ρ=>Zan (fa ρ) fun d=>Zan (fb ρ) fun y=>Zan (fc ρ) fun z=>match d with
 | .dk kvs=>(match Zby y with | some k=>(match valV kvs k with | some v=>mOf (vD v) | none=>mret z) | none=>Zau)
 | _=>Zau
theorem Zqg {a b c:Expr} {apos cpos:Pos} {fa fb fc:Rho→M D} {r1 r2 r3:Bool} (hu:X.A.units+1<cLine) (ha:PD X G r1 a fa) (hb:PD X G r2 b fb) (hc:PD X G r3 c fc)
  (hbase:attributeBase a "get" X.env (eval a X.env)=eval a X.env:=by rfl)
  (hfew:((backTo cpos (starEach [b,c] X.env)).all (fun x=>!x.1)&&(backToKw cpos (keywordEach [] X.env)).all (fun x=>x.1.isSome)
   && decide (([b,c]:List Expr).length+([]:List Keyword).length+(if ([]:List Keyword).isEmpty then 0 else 1)<30))=true:=by rfl)
  (hline:(apos.endLine==cpos.line)=true:=by rfl) (htr:backTo cpos (starEach [b,c] X.env)=[(false,eval b X.env),(false,eval c X.env)]:=by rfl) :
  PD X G false (.Call (.Attribute a "get" apos) [b,c] [] cpos) (ZhN fa fb fc):=by
 obtain ⟨ta,pa,qa⟩:=ha.drop
 obtain ⟨tb,pb,qb⟩:=hb.drop
 obtain ⟨tc,pc,qc⟩:=hc.drop
 refine ⟨_,Zoz hu pa pb pc ⟨hbase,hfew,hline,htr⟩,fun σ Hf H ρ s d s' Q e1 e2 e3 e4 k=>?_⟩
 obtain ⟨da,s1,a1,a2⟩:=Zah e4
 obtain ⟨db,s2,a3,a4⟩:=Zah a2
 obtain ⟨dc,s3,a5,a6⟩:=Zah a4
 refine qa σ Hf H ρ s da s1 _ e1 e2 e3 a1 fun x Hf1 H1 g1 st1 r1=>?_
 match da,a6,r1 with
 | .dk kvs,a6,r1=>
  obtain ⟨p,rfl,np,hp⟩:=Rep.dk_iff.mp r1
  have a6:(match Zby db with | some k=>(match valV kvs k with | some v=>mOf (vD v) | none=>mret dc) | none=>Zau) s3=some (d,s'):=a6
  refine ⟨p,rfl,.inl ⟨kvs,.of (g1.fh _ _ np hp)⟩,qb σ Hf1 H1 ρ s1 db _ _ g1.fh (e2.ext g1.ff) st1 a3 fun y Hf2 H2 g2 st2 r2=>?_⟩
  refine qc σ Hf2 H2 ρ s2 dc _ _ g2.fh ((e2.ext g1.ff).ext g2.ff) st2 a5 fun z Hf3 H3 g3 st3 r3=>?_
  have hp3:H3 p=some (.dK kvs):=g3.fh _ _ np (g3.ff _ _ np (g2.ff _ _ np hp))
  cases ek:Zby db with
  | none=>rw [ek] at a6;cases a6
  | some ky=>
   rw [ek] at a6
   have ey:=ZcP ek r2
   subst ey
   refine ⟨valV kvs ky,.inl ⟨kvs,ky,.of hp3,rfl,rfl⟩,?_⟩
   have a6:(match valV kvs ky with | some v=>mOf (vD v) | none=>mret dc) s3=some (d,s'):=a6
   cases ev:valV kvs ky with
   | none=>
    rw [ev] at a6
    obtain ⟨rfl,rfl⟩:=Zao a6
    exact k z Hf3 H3 ((g1.trans g2).trans g3) st3 r3 (fun z=>by cases z)
   | some v=>
    rw [ev] at a6
    obtain ⟨a7,rfl⟩:=ZbE a6
    exact k v Hf3 H3 ((g1.trans g2).trans g3) st3 (ZmI a7) (fun z=>by cases z)
noncomputable def valφ (v a:Addr):Heap→Prop:=fun h=>h.IsValuesView v a
noncomputable def Zsa (td:TE):TE:=fun σ H Q=>td σ H fun x H1=>∃a kvs,x=.ref a∧Rd H1 a (.dK kvs)∧∀v,H1 v=none→Q (.ref v) (upd H1 v (.ext (valφ v a)))
theorem Zna {o:Expr} {apos cpos:Pos} {td:TE} (ho:PE X o td) (hbase:attributeBase o "values" X.env (eval o X.env)=eval o X.env:=by rfl)
  (hfew:((backTo cpos (starEach [] X.env)).all (fun x=>!x.1)&&(backToKw cpos (keywordEach [] X.env)).all (fun x=>x.1.isSome)
   && decide (([]:List Expr).length+([]:List Keyword).length+(if ([]:List Keyword).isEmpty then 0 else 1)<30))=true:=by rfl)
  (hline:(apos.endLine==cpos.line)=true:=by rfl) (htr:backTo cpos (starEach [] X.env)=[]:=by rfl):PE X (.Call (.Attribute o "values" apos) [] [] cpos) (Zsa td):=by
 intro pins s σ H Q I h
 refine wpAny_Call_method hbase hfew hline PySem.F.plainAttrs_dict PySem.F.slot_dict_values PySem.F.type_dict_values (thn (ho pins s σ H _ I h) fun u s1 ⟨x,H1,I1,rx,a,kvs,ex,d,q1⟩=>?_)
 subst ex
 obtain rfl:u=Value.ref a:=rx
 obtain ⟨t1,t2,_⟩:=ZnH I1 (.inl ⟨kvs,d⟩)
 refine ⟨t1,t2,?_⟩
 rw [htr]
 refine Calls.callWith_builtin rfl (PySem.evalArgs_none ?_)
 obtain ⟨z,hd,vs,rel,dd⟩:=Zd6 I1.hok d
 refine call_meetsIn PySem.F.slot_dict_values dd.typeIs PySem.F.entry_dict_values (PySem.F.args_dict_values_1 _) (meets_dict_values (Zbe X.prog X.w) a hd) ⟨⟨vs,dd⟩,?_⟩
 refine ⟨.ref s1.heap.objs.size,upd H1 s1.heap.objs.size (.ext (valφ s1.heap.objs.size a)),I1.laid (t':=s1.toks) (fun b u e=>Heap.get?_push_of_some _ e) (Nat.le_refl _) ?_,rfl,q1 _ (I1.hok.fresh (Nat.le_refl _))⟩
 exact ⟨⟨_,Heap.get?_push_size _ rfl,rfl,rfl⟩,⟨_,Heap.get?_push_size _ rfl⟩,fun h1 h2 ⟨o,e,c⟩ k=>⟨o,k _ e,c⟩⟩
theorem ZjJ {α β:Type} {F:α→β→Prop}:∀{l:List α} {r:List β} {i:Nat} {y:β},Paired F l r→r[i]?=some y→∃x,l[i]?=some x∧F x y
 | _,_,i,y,.nil,h=>by simp at h
 | _,_,0,y,.cons f _,h=>by simp at h;exact ⟨_,rfl,by rw [←h];exact f⟩
 | _,_,i+1,y,.cons _ r,h=>by
  obtain ⟨x,h1,h2⟩:=ZjJ r (i:=i) (by simpa using h)
  exact ⟨x,by simpa using h1,h2⟩
theorem Zj4:∀{vs:List Value} {ns:List Int} {i:Nat} {u:Value},IntsAre vs ns→vs[i]?=some u→∃n t,ns[i]?=some n∧u=.int n t
 | _,_,_,_,.nil,h=>by simp at h
 | _,_,0,u,.cons n t _,h=>by simp at h;exact ⟨n,t,rfl,h.symm⟩
 | _,_,i+1,u,.cons n t r,h=>by
  obtain ⟨m,t',h1,h2⟩:=Zj4 r (i:=i) (by simpa using h)
  exact ⟨m,t',by simpa using h1,h2⟩
theorem ZgP (ns:List Int):preSum (fun i=>ns.getD i 0) ns.length=ns.sum:=by
 have:∀k,k≤ns.length→preSum (fun i=>ns.getD i 0) k=(ns.take k).sum:=by
  intro k
  induction k with
  | zero=>intro _;rw [List.take_zero];rfl
  | succ k ih=>
   intro hk
   show preSum (fun i=>ns.getD i 0) k+ns.getD k 0=_
   rw [ih (by omega),List.take_add_one,List.sum_append,List.getElem?_eq_getElem (by omega),List.getD_eq_getElem?_getD,List.getElem?_eq_getElem (by omega)]
   simp
 have h:=this ns.length (Nat.le_refl _)
 rw [List.take_length] at h
 exact h
theorem Zkr (hc:X.calm=true):ZbH X (.builtin "sum") (fun xs H Q=>∃(v a:Addr) (kvs:List (Key×V)) (ns:List Int),xs=[.ref v]∧H v=some (.ext (valφ v a))∧Rd H a (.dK kvs)∧kvs.map (·.2)=ns.map V.int∧Q (.int ns.sum) H):=by
 intro pins s σ H xs us Q I r h
 obtain ⟨v,a,kvs,ns,rfl,hv,hd,hns,q⟩:=h
 obtain ⟨u,rfl,ru⟩:=Zb8 r
 cases ru
 obtain ⟨z,hy,vs,rel,dd⟩:=Zd6 I.hok hd
 obtain ⟨ep,hat⟩:=dd.dictAt
 have hvv:s.heap.IsValuesView v a:=(I.hok v _ hv).1
 have hlen:kvs.length=vs.length:=rel.length
 have K:=PySem.W.kdl_values (prog:=X.prog) (w:=X.w) (r:=v) (d:=a) (knd:=Zbe X.prog X.w) (kvs:=vs) (ep:=ep)
 refine call_sum_walkAnyS ?_
 obtain ⟨oI,St,hit,W,st⟩:=K.iter X.A.in1 s (I.ok.hd hc) ⟨hvv,hat⟩
 refine hit _ _ ⟨s.heap.objs.size,_,_,_,vs.length,_,_,fun i=>ns.getD i 0,rfl,W.toS,st,fun b hb=>?_,fun i u hu=>?_,fun s' t' hm=>?_⟩
 ·show b<(s.heap.push oI).objs.size
  rw [size_push']
  rcases List.mem_cons.mp hb with e | hb
  ·rw [e];exact Nat.lt_succ_self _
  ·rw [List.mem_singleton.mp hb];exact Nat.lt_succ_of_lt (K.there _ ⟨hvv,hat⟩).2
 ·obtain ⟨k,hx⟩:=hu
  have hi:i<kvs.length:=by rw [hlen];exact (List.getElem?_eq_some_iff.mp hx).1
  obtain ⟨kv,hkv,rkv⟩:=ZjJ rel hx
  have e1:(kvs.map (·.2))[i]?=some kv.2:=by rw [List.getElem?_map,hkv];rfl
  rw [hns,List.getElem?_map] at e1
  cases q2:ns[i]? with
  | none=>rw [q2] at e1;cases e1
  | some n=>
   rw [q2] at e1
   have e2:V.int n=kv.2:=Option.some.inj e1
   have r2:RelV kv.2 u:=rkv.2
   rw [←e2] at r2
   obtain ⟨t,rfl⟩:=r2
   exact ⟨t,by show Value.int n t=Value.int (ns.getD i 0) t;rw [List.getD_eq_getElem?_getD,q2];rfl⟩
 ·have hk:∀b o,s.heap.get? b=some o→s'.heap.get? b=some o:=fun b o e=>
   hm.heap b o (fun hI=>absurd (Heap.lt_size e) (by rw [List.mem_singleton.mp hI];exact Nat.lt_irrefl _)) (Heap.get?_push_of_some _ e)
  rw [Moved.eq_with hm]
  have hl2:ns.length=vs.length:=by
   have:=congrArg List.length hns
   rw [List.length_map,List.length_map] at this
   omega
  rw [←hl2,ZgP]
  exact ⟨.int ns.sum,H,I.kept hk,⟨_,rfl⟩,q⟩
noncomputable def Zev:List (Key×V)→Option (List Int)
 | []=>some []
 | (_,.int n)::r=>(Zev r).map (n :: ·)
 | _=>none
theorem Zjj:∀{kvs:List (Key×V)} {ns:List Int},Zev kvs=some ns→kvs.map (·.2)=ns.map V.int
 | [],ns,h=>by cases h;rfl
 | (k,.int n)::r,ns,h=>by
  obtain ⟨m,h1,rfl⟩:=Option.map_eq_some_iff.mp h
  rw [List.map_cons,List.map_cons,Zjj h1]
 | (_,.non)::_,_,h=>by cases h
 | (_,.bl _)::_,_,h=>by cases h
 | (_,.str _)::_,_,h=>by cases h
 | (_,.ref _)::_,_,h=>by cases h
 | (_,.ty _)::_,_,h=>by cases h
 | (_,.flt _)::_,_,h=>by cases h
 | (_,.byt _)::_,_,h=>by cases h
noncomputable def Zg4 (f:Rho→M D):Rho→M D:=fun ρ=>Zan (f ρ) fun d=>match d with
 | .dk kvs=>(match Zev kvs with | some ns=>mret (.int ns.sum) | none=>Zau)
 | _=>Zau
theorem Zl1 {a:Expr} {p pos apos cpos:Pos} {f:Rho→M D} {r1:Bool} (hc:X.calm=true) (hg:Gl X "sum") (hm:X.mg "sum" = none) (hv:bootBuiltins "sum" = some (.builtin "sum")) (ha:PD X G r1 a f)
  (hbase:attributeBase a "values" X.env (eval a X.env)=eval a X.env:=by rfl)
  (hfew:((backTo cpos (starEach [] X.env)).all (fun x=>!x.1)&&(backToKw cpos (keywordEach [] X.env)).all (fun x=>x.1.isSome)
   && decide (([]:List Expr).length+([]:List Keyword).length+(if ([]:List Keyword).isEmpty then 0 else 1)<30))=true:=by rfl)
  (hline:(apos.endLine==cpos.line)=true:=by rfl) (htr:backTo cpos (starEach [] X.env)=[]:=by rfl)
  (he:starEach [.Call (.Attribute a "values" apos) [] [] cpos] X.env=(false,eval (.Call (.Attribute a "values" apos) [] [] cpos) X.env)::starEach [] X.env:=by rfl) :
  PD X G true (.Call (.Name "sum" p) [.Call (.Attribute a "values" apos) [] [] cpos] [] pos) (Zg4 f):=by
 obtain ⟨t,pa,qa⟩:=ha.drop
 refine ⟨_,ZdC (Zkr hc) hg hm hv (Za0 (Zna pa hbase hfew hline htr) Zbg he) (by decide) (by decide) he rfl,fun σ Hf H ρ s d s' Q e1 e2 e3 e4 k=>?_⟩
 obtain ⟨da,s1,a1,a2⟩:=Zah e4
 match da,a2 with
 | .dk kvs,a2=>
  have a2:(match Zev kvs with | some ns=>mret (D.int ns.sum) | none=>Zau) s1=some (d,s'):=a2
  cases hn:Zev kvs with
  | none=>rw [hn] at a2;cases a2
  | some ns=>
   rw [hn] at a2
   obtain ⟨rfl,rfl⟩:=Zao a2
   refine qa σ Hf H ρ s _ _ _ e1 e2 e3 a1 fun x Hf1 H1 g1 st1 r1=>?_
   obtain ⟨q,rfl,nq,hq⟩:=Rep.dk_iff.mp r1
   have hq1:=g1.fh _ _ nq hq
   refine ⟨q,kvs,rfl,.of hq1,fun v hv=>?_⟩
   have hqv:q≠v:=fun z=>by rw [←z,hq1] at hv;cases hv
   have st2:G.st _ (upd H1 v (.ext (valφ v q))):=Gh.grow st1 hv
   have fp:Hf1 v=none:=by
    cases q:Hf1 v with
    | none=>rfl
    | some o=>rw [g1.fh v o (Gh.nofp st1 hv) q] at hv;cases hv
   have gA:Gr G Hf1 H1 Hf1 (upd H1 v (.ext (valφ v q))):=⟨fun b o n q=>by rw [Zaj (Zas q hv)];exact q,.refl _ _,fun b o n q=>by rw [Zaj (Zas q fp)];exact g1.fh b o n q,fun b n h1 h2=>h1⟩
   refine ⟨v,q,kvs,ns,rfl,Zaq,.of (by rw [Zaj hqv];exact hq1),Zjj hn,?_⟩
   exact k _ Hf1 _ (g1.trans gA) st2 (Rep.int_iff.mpr rfl) fun _=>.scal fun z=>z
theorem Zmu (hc:X.calm=true):ZbH X (.builtin "sum") (fun xs H Q=>∃(p:Addr) (ns:List Int),xs=[.ref p]∧SqT X.K H p (ns.map V.int)∧Q (.int ns.sum) H):=by
 intro pins s σ H xs us Q I r h
 obtain ⟨p,ns,rfl,hp,q⟩:=h
 obtain ⟨u,rfl,ru⟩:=Zb8 r
 cases ru
 obtain ⟨its,rv,pl,hz⟩:=I.tuple hp
 have hi:IntsAre its ns:=Zbr rv
 have hl:s.heap.IsTuple p its.toArray:=pl
 have hpl:p<s.heap.objs.size:=by obtain ⟨o,ho,_⟩:=hl;exact Heap.lt_size ho
 have hne:p≠s.heap.objs.size:=Nat.ne_of_lt hpl
 have hil:its.length=ns.length:=hi.length
 refine call_sum_walkAnyS (wpAny_pyIter_tuple hl ⟨s.heap.objs.size,_,_,_,its.toArray.size,_,_,fun i=>ns.getD i 0,rfl,(Walks.tuple (A:=X.A.in1) (I.ok.hd hc) _ p hne its.toArray).toS,⟨⟨_,Heap.get?_push_size _ rfl,rfl,rfl⟩,hl.push _⟩,fun b hb=>?_,fun i u hu=>?_,fun s' t' hm=>?_⟩)
 ·rw [size_push']
  rcases List.mem_cons.mp hb with e | hb
  ·rw [e];exact Nat.lt_succ_self _
  ·rw [List.mem_singleton.mp hb];exact Nat.lt_succ_of_lt hpl
 ·have hx:its[i]?=some u:=by simpa using hu
  obtain ⟨n,t,h1,rfl⟩:=Zj4 hi hx
  exact ⟨t,by show Value.int n t=Value.int (ns.getD i 0) t;rw [List.getD_eq_getElem?_getD,h1];rfl⟩
 ·have hk:∀b o,s.heap.get? b=some o→s'.heap.get? b=some o:=fun b o e=>
   hm.heap b o (fun hI=>absurd (Heap.lt_size e) (by rw [List.mem_singleton.mp hI];exact Nat.lt_irrefl _)) (Heap.get?_push_of_some _ e)
  rw [Moved.eq_with hm,List.size_toArray,hil,ZgP]
  exact ⟨.int ns.sum,H,I.kept hk,⟨_,rfl⟩,q⟩
noncomputable def ZpK:List D→Option D
 | [.tup ds]=>(Zat ds).map fun ns=>.int ns.sum
 | _=>none
theorem Zn5 (hc:X.calm=true):Zcj X G (.builtin "sum") ZpK:=
 ⟨_,Zmu hc,fun Hf H s xs ds c Q e1 st r q k=>by
  match ds,q,r with
  | [.tup es],q,r=>
   obtain ⟨ns,h1,rfl⟩:=Option.map_eq_some_iff.mp (show (Zat es).map (fun ns=>D.int ns.sum)=some c from q)
   obtain ⟨v,rfl,rv⟩:=RepL.one_inv r
   obtain ⟨p,vs,rfl,np,hp,rp⟩:=Rep.tup_iff.mp rv
   rw [Zbt h1] at rp
   rw [RepL.ints rp] at hp
   exact ⟨p,ns,rfl,SqT.of (e1 _ _ np hp),k _ Hf H (.refl e1) st (Rep.int_iff.mpr rfl) (.scal fun z=>z)⟩⟩
end
section
variable {X:Cx} {G:Gh}
end
end TF
namespace TS
open PySem PySem.W PyProof.Rows
section
variable {lt:Nat→Nat→Bool} {n:Nat} {p q:Array Nat}
end
end TS
namespace TF
open PySem PySem.Spec PyProof.Rows L2 TS PySem.W
section
variable {X:Cx} {pins:List (Addr×Obj)} {σ:St} {H:Hp} {s:Shared}
end
section
variable {prog:Program} {w:World} {A:Around} {E:Value→Shared→Prop} {s:Shared}
end
section
variable {X:Cx} {pins:List (Addr×Obj)} {σ:St} {H:Hp} {s:Shared}
end
end TF
namespace TF
open PySem PySem.Spec PyProof.Rows L2 TS
section
variable {X:Cx}
end
section
variable {X:Cx} {G:Gh} {σ:St}
end
section
variable {X:Cx} {G:Gh} {P c:Addr} {q:Str} {kl:Nat} {frb:Bool} {e1:Expr} {f1:Rho→M D} {r1:Bool} {params:Arguments} {scope:Scope} {lpos ppos pos kpos:Pos} {XN N ps:List Str} {NS:List (Str×NameKind)} {cix:List Nat} {body:Expr} {fe:Rho→M D}
end
end TF
namespace TQ
open PySem L2 TF TQ
open TP
open TP2
open TP3
noncomputable def ZhC:Rho→M Out:=(sSeq (sRet (Zay Zet (Zaa (ZaP [none,some 0] (ZaS (dVar 1)) (gOne 0) Za2 (dOp dIx (dVar 1) (dVar 0))) dNil)))
 Zap)
noncomputable def ZcC:List D→M D:=runB 2 2 ZhC
noncomputable def Zf8 (Fs:List D→M D):Rho→M Out:=(sSeq (sRet (dFn Fs (Zaa (dVar 0) (Zaa (dFn ZhV (Zaa (dVar 1) (Zaa (dVar 3) dNil))) (Zaa (dFn ZcC (Zaa (dVar 2) (Zaa (dVar 3) dNil))) (Zaa (dVar 4) (Zaa (dVar 5) dNil)))))))
 Zap)
noncomputable def ZbM (Fs:List D→M D):List D→M D:=runB 6 6 (Zf8 Fs)
noncomputable def ZgD:Rho→M Out:=(sSeq (sOwn 2 (dC (.dk [])))
 (sSeq (sFor (Za1 (Zay dLen (Zaa (dVar 1) dNil))) (gOne 3)
 (sSeq (Zfg 2 (fun ρ=>(dOp dIx (dVar 1) (dVar 3)) (hide [2] ρ)) (chk true (Zay Zgx (Zaa (dOp dIx (dVar 0) (dVar 3)) (Zaa (ZhN (dVar 2) (dOp dIx (dVar 1) (dVar 3)) (dC (.int 0))) dNil)))))
 Zap))
 (sSeq (sRet (Zg4 (dVar 2)))
 Zap)))
noncomputable def ZbS:List D→M D:=runB 4 2 ZgD
noncomputable def Zg2:Rho→M Out:=(sSeq (sRet (ZaP [none,some 1] (Za1 (dOp dIx (dVar 0) (dC (.int 0)))) (gOne 0) (asB (dOp dNeO (dVar 0) (dVar 1))) (dVar 0)))
 Zap)
noncomputable def Zcn:List D→M D:=runB 2 2 Zg2
noncomputable def Zfq (Fs:List D→M D):Rho→M Out:=(sSeq (sIf (asB (dFn Zbc (Zaa (dVar 4) (Zaa (dC (.int 1)) dNil))))
 (sSeq (sRet (vAnd (dOp dEqO (dOp dIx (dVar 4) (dC (.int 0))) (dVar 0)) (dOp dLe (Zay ZpK (Zaa (dVar 2) dNil)) (dVar 3))))
 Zap)
 Zap)
 (sSeq (sIf (asB (dFn Zbc (Zaa (dVar 4) (Zaa (dC (.int 2)) dNil))))
 (sSeq (sRet (vAnd (dOp dEqO (dOp dIx (dVar 4) (dC (.int 0))) (dC (.str (Str.ofString "hues")))) (vAnd (dFn Zbv (Zaa (dVar 1) (Zaa (dOp dIx (dVar 4) (dC (.int 1))) dNil))) (dOp dLe (dFn ZbS (Zaa (dVar 2) (Zaa (dOp dIx (dVar 4) (dC (.int 1))) dNil))) (dVar 3)))))
 Zap)
 Zap)
 (sSeq (sIf (bOr (bNot (asB (dFn Zbc (Zaa (dVar 4) (Zaa (dC (.int 4)) dNil))))) (asB (dOp dNeO (dOp dIx (dVar 4) (dC (.int 0))) (dC (.str (Str.ofString "place"))))))
 (sSeq (sRet (dC (.bl false)))
 Zap)
 Zap)
 (sSeq (sSet 5 (dOp dIx (dVar 4) (dC (.int 1))))
 (sSeq (sIf (bOr (bNot (asB (dFn ZbV (Zaa (dOp dIx (dVar 1) (dC (.int 0))) (Zaa (dVar 5) dNil))))) (asB (dOp dGt (dOp dIx (dVar 2) (dVar 5)) (dVar 3))))
 (sSeq (sRet (dC (.bl false)))
 Zap)
 Zap)
 (sSeq (sIf (bNot (asB (dFn (ZbM Fs) (Zaa (dVar 0) (Zaa (dVar 1) (Zaa (dVar 2) (Zaa (dFn Zcn (Zaa (dVar 1) (Zaa (dVar 5) dNil))) (Zaa (dVar 3) (Zaa (dOp dIx (dVar 4) (dC (.int 2))) dNil)))))))))
 (sSeq (sRet (dC (.bl false)))
 Zap)
 Zap)
 (sSeq (sRet (dFn (ZbM Fs) (Zaa (dVar 0) (Zaa (dVar 1) (Zaa (dVar 2) (Zaa (dFn Zdy (Zaa (dVar 1) (Zaa (dVar 5) dNil))) (Zaa (dOp dSub (dVar 3) (dOp dIx (dVar 2) (dVar 5))) (Zaa (dOp dIx (dVar 4) (dC (.int 3))) dNil))))))))
 Zap)))))))
noncomputable def Zcb:Nat→List D→M D
 | 0=>fun _=>Zau
 | n+1=>runB 6 5 (Zfq (Zcb n))
noncomputable def ZrS:Rho→M Out:=(sSeq (sRet (dOp ZhL (dTup (Zaa (dC (.int 1)) dNil)) (dOp dIx (dVar 0) (dC (.int 0)))))
 Zap)
noncomputable def Zgh:List D→M D:=runB 1 1 ZrS
noncomputable def Zmm:Rho→M Out:=(sSeq (sRet (dFn (Zcb 26) (Zaa (dC (.str (Str.ofString "few"))) (Zaa (dVar 0) (Zaa (dFn Zgh (Zaa (dVar 0) dNil)) (Zaa (dOp dSub (dVar 1) (dC (.int 1))) (Zaa (dVar 2) dNil)))))))
 Zap)
noncomputable def Zco:List D→M D:=runB 3 3 Zmm
end TQ
namespace TF
open PySem PySem.Spec PyProof.Rows L2
section
variable {X:Cx} {G:Gh}
noncomputable def ZhJ (d e:D):Option D:=match d,e with | .bl a,.bl b=>some (.bl (!(a==b))) | _,_=>none
theorem Zqo:OpR X (compareOp .IsNot) (fun x y H Q=>∃a b,x=.bl a∧y=.bl b∧Q (.bl (!(a==b))) H):=by
 intro pins s σ H x y v u Q I rx ry h
 obtain ⟨a,b,rfl,rfl,q⟩:=h
 cases rx
 cases ry
 exact isnot_bool (Zkh I q rfl)
theorem Zfk:OpD X G (compareOp .IsNot) ZhJ:=
 ⟨_,Zqo,fun Hf H s x y d e c Q e1 st rx ry q k=>by
  match d,e,q,rx,ry with
  | .bl a,.bl b,q,rx,ry=>
   cases q
   exact ⟨a,b,Rep.bl_iff.mp rx,Rep.bl_iff.mp ry,k _ Hf H (.refl e1) st (Rep.bl_iff.mpr rfl) (.scal fun z=>z)⟩⟩
end
end TF
namespace K21
open PySem.Spec PyProof.Rows
open PySem L2 TF TQ
open TP
open TP2
open TP3
noncomputable def top (i:Nat):Stmt:=PySem.Challenge.pw_tiefold_k21_whole_knots_and_hues.main.body.getD i (.Pass ⟨0,0,0,0⟩)
noncomputable abbrev Zfb:Stmt:=top 1
noncomputable abbrev ZdW:Stmt:=top 2
noncomputable abbrev Zfa:Stmt:=top 3
noncomputable abbrev Zfc:Stmt:=top 5
noncomputable abbrev Zhm:Stmt:=top 6
noncomputable abbrev Zd2:Stmt:=top 7
noncomputable abbrev Zff:Stmt:=top 8
noncomputable abbrev Zc9:Stmt:=top 9
noncomputable abbrev Zeh:Stmt:=top 10
noncomputable abbrev Zjs:Stmt:=top 11
noncomputable abbrev Zb9:Stmt:=top 12
noncomputable abbrev ZdF:Stmt:=top 13
noncomputable abbrev Zju:Stmt:=top 15
noncomputable abbrev Zcz:Stmt:=top 16
noncomputable abbrev ZbC:Stmt:=top 17
noncomputable abbrev Zda:Stmt:=top 18
noncomputable abbrev Zcy:Stmt:=top 19
noncomputable abbrev Zey:Stmt:=top 20
noncomputable abbrev Zc6:Stmt:=top 22
noncomputable abbrev ZcJ:Stmt:=top 23
noncomputable abbrev Zdn:Stmt:=top 24
noncomputable abbrev ZdX:Stmt:=top 25
noncomputable abbrev Zez:Stmt:=top 26
noncomputable abbrev Zfd:Stmt:=top 28
noncomputable abbrev Zjt:Stmt:=top 29
noncomputable abbrev Zfe:Stmt:=top 30
noncomputable abbrev ZcI:Stmt:=top 31
noncomputable abbrev Zc4:Stmt:=top 32
noncomputable abbrev Zcm:Stmt:=top 33
noncomputable abbrev Zcx:Stmt:=top 34
noncomputable abbrev ZdG:Stmt:=top 36
noncomputable abbrev Zei:Stmt:=top 37
noncomputable abbrev ZeH:Stmt:=top 38
noncomputable abbrev Zdb:Stmt:=top 39
noncomputable abbrev s_law:Stmt:=top 40
structure Txt (mg:Str→Option Value):Prop where
 b_all:mg "all" = none
 b_bool:mg "bool" = none
 b_dict:mg "dict" = none
 b_int:mg "int" = none
 b_isinstance:mg "isinstance" = none
 b_len:mg "len" = none
 b_list:mg "list" = none
 b_max:mg "max" = none
 b_min:mg "min" = none
 b_range:mg "range" = none
 b_set:mg "set" = none
 b_sorted:mg "sorted" = none
 b_sum:mg "sum" = none
 b_tuple:mg "tuple" = none
set_option maxHeartbeats 4000000
variable {P:Program} {w:World} {K:PySem.W.Frag} {mg:Str→Option Value} {base:Heap} {a_f:Addr} {fd_f:FuncData}
theorem ZeL:FnScope ["web"] ["web"] (Zak Zc9):=⟨rfl,rfl,rfl,by decide +kernel,rfl,by decide +kernel,by decide +kernel⟩
theorem Zh5 (F:Fun K "marked_ties" "marked_ties" Zc9 a_f fd_f) (T:Txt mg) :
  FnOk P w K mg base CX0 1 a_f fd_f ["web"] (spD 1 true AnyG Zbi):=
 have c_nd:=ZeL.nd
 fnD (own:=[]) F ZeL fun cdv A outer s H E hr G hG=>
 (Zaf (own2:=[]) (Zax (ZcM (Zmz rfl hr.units) rfl T.b_dict TF.boot_dict (Zac (Zbm rfl (⟨rfl,rfl,by decide +kernel,rfl,by decide +kernel,rfl,by decide +kernel,by decide +kernel⟩:BlkS _ ["web"] (Zak Zc9).names ["tie"] [none] _) (Zh4 (Zaz ixd (Zab 0 (pv 0)) Zaw)) (fun _ _ _ _ _ _=>(ZaF (show (["tie"]:List Str).Nodup by decide +kernel) rfl (Or.inl rfl) rfl)) (fun _ _ _ _ _ _=>ZcT) (fun _ _ _ _ _ _=>(Zbx (Zac (Zab 0 (pv 0)) (Zac Zb4 Zag))))) Zag)))
 (Zal (own:=[])))
theorem ZgM:FnScope ["ties","a","b"] ["ties","a","b"] (Zak Zff):=⟨rfl,rfl,rfl,by decide +kernel,rfl,by decide +kernel,by decide +kernel⟩
theorem ZkL (F:Fun K "are_tied" "are_tied" Zff a_f fd_f) (T:Txt mg) :
  FnOk P w K mg base CX0 1 a_f fd_f ["ties","a","b"] (spD 3 false AnyG Zbj):=
 have c_nd:=ZgM.nd
 fnD (own:=[]) F ZgM fun cdv A outer s H E hr G hG=>
 (Zaf (own2:=[]) (Zax (PD.weak (Zcp (Zhu hr.units) (Zbx (Zac (ZaK (Zft rfl) rfl T.b_min TF.boot_min (Zac (Zab 1 (pv 1)) (Zac (Zab 2 (pv 2)) Zag))) (Zac (ZaK (ZhR rfl) rfl T.b_max TF.boot_max (Zac (Zab 1 (pv 1)) (Zac (Zab 2 (pv 2)) Zag))) Zag))) (Zab 0 (pv 0)))))
 (Zal (own:=[])))
theorem Zle:FnScope ["web","place"] ["web","place"] (Zak Zhm):=⟨rfl,rfl,rfl,by decide +kernel,rfl,by decide +kernel,by decide +kernel⟩
theorem Zqu (F:Fun K "near" "near" Zhm a_f fd_f) (T:Txt mg) (c_are_tied:Cal P w K mg base 1 "are_tied" 3 false AnyG Zbj) :
  FnOk P w K mg base CX0 2 a_f fd_f ["web","place"] (spD 2 true AnyG Zdy):=
 have c_nd:=Zle.nd
 fnD (own:=[]) F Zle fun cdv A outer s H E hr G hG=>
 (Zaf (own2:=[]) (Zax (Zbm rfl (⟨rfl,rfl,by decide +kernel,rfl,by decide +kernel,rfl,by decide +kernel,by decide +kernel⟩:BlkS _ ["web","place"] (Zak Zhm).names ["other","web","place"] [none,some 0,some 1] _) (ZcV rfl T.b_range (Zaz ixd (Zab 0 (pv 0)) Zaw)) (fun _ _ _ _ _ _=>(ZaF (show (["other","web","place"]:List Str).Nodup by decide +kernel) rfl (Or.inl rfl) rfl)) (fun _ _ _ _ _ _=>(Zd5 (Zcs (Zav (c_are_tied.mono) trivial hr rfl (Zac (Zaz ixd (Zab 1 (pv 1)) Zaw) (Zac (Zab 2 (pv 2)) (Zac (Zab 0 (pv 0)) Zag))) (Zad (Zad (Zad Zar))))))) (fun _ _ _ _ _ _=>(Zab 0 (pv 0)))))
 (Zal (own:=[])))
theorem ZgN:FnScope ["web","marked"] ["web"] (Zak Zd2):=⟨rfl,rfl,rfl,by decide +kernel,rfl,by decide +kernel,by decide +kernel⟩
theorem ZkM (F:Fun K "all_near" "all_near" Zd2 a_f fd_f) (T:Txt mg) (c_marked_ties:Cal P w K mg base 1 "marked_ties" 1 true AnyG Zbi) (c_near:Cal P w K mg base 2 "near" 2 true AnyG Zdy) :
  FnOk P w K mg base CX0 3 a_f fd_f ["web"] (spD 1 true AnyG ZbW):=
 have c_nd:=ZgN.nd
 fnD (own:=[]) F ZgN fun cdv A outer s H E hr G hG=>
 (Zaf (own2:=[]) (ZaM (ZaN c_nd rfl (Or.inr rfl) (Zbx (Zac (Zaz ixd (Zab 0 (pv 0)) Zaw) (Zac (Zav (c_marked_ties.mono) trivial hr rfl (Zac (Zab 0 (pv 0)) Zag) (Zad Zar)) Zag)))))
 (Zaf (own2:=[]) (Zax (Zbm rfl (⟨rfl,rfl,by decide +kernel,rfl,by decide +kernel,rfl,by decide +kernel,by decide +kernel⟩:BlkS _ ["web","marked"] (Zak Zd2).names ["place","marked"] [none,some 1] _) (ZcV rfl T.b_range (Zaz ixd (Zab 0 (pv 0)) Zaw)) (fun _ _ _ _ _ _=>(ZaF (show (["place","marked"]:List Str).Nodup by decide +kernel) rfl (Or.inl rfl) rfl)) (fun _ _ _ _ _ _=>ZcT) (fun _ _ _ _ _ _=>(Zav (c_near.mono) trivial hr rfl (Zac (Zab 1 (pv 1)) (Zac (Zab 0 (pv 0)) Zag)) (Zad (Zad Zar))))))
 (Zal (own:=[]))))
theorem ZgH:FnScope ["row","pairs","i","j"] ["row"] (Zak Zfa):=⟨rfl,rfl,rfl,by decide +kernel,rfl,by decide +kernel,by decide +kernel⟩
theorem ZkG (F:Fun K "pairs_of" "pairs_of" Zfa a_f fd_f) (T:Txt mg) :
  FnOk P w K mg base CX0 1 a_f fd_f ["row"] (spD 1 true AnyG Zc2):=
 have c_nd:=ZgH.nd
 fnD (own:=[]) F ZgH fun cdv A outer s H E hr G hG=>
 (Zaf (own2:=[1]) (Zfj (ZaN c_nd rfl (Or.inl rfl) (ZeX Zag)))
 (Zaf (own2:=[1]) (Zct (own:=[1]) PassesOwn.never rfl (Zcd rfl T.b_range (ZaK (Zbs) rfl T.b_len TF.boot_len (Zac (Zab 0 (pv 0)) Zag))) (ZaF c_nd rfl (Or.inl rfl) (by decide))
 (Zaf (own2:=[1]) (Zct (own:=[1]) PassesOwn.never rfl (ZgQ rfl T.b_range (Zca ZcX (Zab 2 (pv 2)) Zaw) (ZaK (Zbs) rfl T.b_len TF.boot_len (Zac (Zab 0 (pv 0)) Zag))) (ZaF c_nd rfl (Or.inl rfl) (by decide))
 (Zaf (own2:=[1]) (ZjF (own:=[1]) (i:=1) (by decide) (Zbx (Zac (Zaz ixd (Zab 0 (pv 0)) (Zab 2 (pv 2))) (Zac (Zaz ixd (Zab 0 (pv 0)) (Zab 3 (pv 3))) Zag))) (fun _ h=>Ziq (pv 1) h))
 (Zal (own:=[1]))))
 (Zal (own:=[1]))))
 (Zaf (own2:=[1]) (ZlZ (i:=1) (by decide) (pv 1))
 (Zal (own:=[1])))))
theorem ZfG:FnScope ["row","tied","pairs"] ["row","tied"] (Zak ZdF):=⟨rfl,rfl,rfl,by decide +kernel,rfl,by decide +kernel,by decide +kernel⟩
theorem ZfT (F:Fun K "web_where" "web_where" ZdF a_f fd_f) (T:Txt mg) (c_pairs_of:Cal P w K mg base 1 "pairs_of" 1 true AnyG Zc2) :
  FnOk P w K mg base CX0 5 a_f fd_f ["row","tied"] (spD 2 false (CloG P w K mg 4 2 Tl base) ZbX):=
 have c_nd:=ZfG.nd
 fnD (own:=[]) F ZfG fun cdv A outer s H E hr G hG=>
 (Zaf (own2:=[]) (ZaM (ZaN c_nd rfl (Or.inl rfl) (Zav (c_pairs_of.mono) trivial hr rfl (Zac (Zek rfl rfl T.b_range rfl T.b_list TF.boot_list (ZaK (Zbs) rfl T.b_len TF.boot_len (Zac (Zab 0 (pv 0)) Zag))) Zag) (Zad Zar))))
 (Zaf (own2:=[]) (Zax (PD.weak (Zbx (Zac (ZaK (Zbs) rfl T.b_len TF.boot_len (Zac (Zab 0 (pv 0)) Zag)) (Zac (ZcM (ZcR) rfl T.b_tuple TF.boot_tuple (Zac (Zbm rfl (⟨rfl,rfl,by decide +kernel,rfl,by decide +kernel,rfl,by decide +kernel,by decide +kernel⟩:BlkS _ ["row","tied","pairs"] (Zak ZdF).names ["pair","tied","row"] [none,some 1,some 0] _) (Zbw (Zab 2 (pv 2))) (fun _ _ _ _ _ _=>(ZaF (show (["pair","tied","row"]:List Str).Nodup by decide +kernel) rfl (Or.inl rfl) rfl)) (fun _ _ _ _ _ _=>(Zd5 (Zcs (ZoJ hG (hr.mono (by decide)) (pv 1) (Zac (Zaz ixd (Zab 2 (pv 2)) (Zaz ixd (Zab 0 (pv 0)) Zaw)) (Zac (Zaz ixd (Zab 2 (pv 2)) (Zaz ixd (Zab 0 (pv 0)) Zaw)) Zag)) (Zad (Zad Zar)))))) (fun _ _ _ _ _ _=>(Zab 0 (pv 0)))) Zag)) Zag)))))
 (Zal (own:=[]))))
theorem Zin:FnScope ["web","ties"] ["web"] (Zak Zeh):=⟨rfl,rfl,rfl,by decide +kernel,rfl,by decide +kernel,by decide +kernel⟩
theorem Zni (F:Fun K "turned" "turned" Zeh a_f fd_f) (T:Txt mg) {L:List (Addr×Str)} (lo:LOk L) (c_marked_ties:Cal P w K mg base 1 "marked_ties" 1 true AnyG Zbi) (c_web_where:CalA P w K mg 5 "web_where" 2 false (CloG P w K mg 4 2 Tl) ZbX) (ca_are_tied:∀base,Cal P w K mg base 1 "are_tied" 3 false AnyG Zbj) {tc tP:Addr} (hcode:fd_f.code=.ref tc) (hCd:PySem.W.CodeHd base tc tP) (hBm:BMn mg base) (hL:(tP,(Str.ofString "turned.<locals>.<lambda>"))∈L) :
  FnOk P w K mg base CX0 6 a_f fd_f ["web"] (spD 1 false (ZaJ L) Zdk):=
 have c_nd:=Zin.nd
 fnDC (own:=[]) F Zin fun A outer s H E hr G hG=>
 have hT:ZaJ L G:=hG
 have TG9:=hT _ _ hL
 have M9:Mk0 (cxOf CX0 P w K mg base ["web","ties"] "turned" (Zak Zeh) a_f fd_f.code A outer s H E).nox tc tP:=⟨hcode,hCd,hBm⟩
 (Zaf (own2:=[]) (ZaM (ZaN c_nd rfl (Or.inr rfl) (Zav (c_marked_ties.mono) trivial hr rfl (Zac (Zab 0 (pv 0)) Zag) (Zad Zar))))
 (Zaf (own2:=[]) (Zax (Zhr (kl:=3) (frb:=true) (N:=["a","b","ties"]) (ps:=["a","b"]) (cix:=[1]) (T:=Tl) (t:=0) (q:="turned.<locals>.<lambda>") M9 TG9 (c_web_where.mono) (fun _=>rfl) hr rfl (Zek rfl rfl T.b_range rfl T.b_list TF.boot_list (Zaz ixd (Zab 0 (pv 0)) Zaw)) rfl (⟨rfl,rfl,rfl,by decide +kernel,rfl,by decide +kernel,by decide +kernel⟩:CloScope ["a","b","ties"] ["a","b"] _) (⟨rfl,rfl,rfl,by decide +kernel,by decide +kernel⟩:CapS _ ["web","ties"] (Zak Zeh).names ["a","b","ties"] ["a","b"] [1] _) rfl (fun _ _ _ _ us hl=>match us,hl with | [_,_],_=>rfl) (fun base f c cl G A outer s H E hr=>(Znd (Zav ((ca_are_tied base).mono) trivial hr rfl (Zac (Zab 2 (pv 2)) (Zac (Zab 0 (pv 0)) (Zac (Zab 1 (pv 1)) Zag))) (Zad (Zad (Zad Zar))))))))
 (Zal (own:=[]))))
theorem Zef:FnScope ["aparts","weights","place","places","others"] ["aparts","weights","place","places"] (Zak Zcy):=⟨rfl,rfl,rfl,by decide +kernel,rfl,by decide +kernel,by decide +kernel⟩
theorem ZgZ (F:Fun K "heaviest_with" "heaviest_with" Zcy a_f fd_f) (T:Txt mg) {Fs:List D→M D} {lv:Nat} (hlv:0≤lv) (c_heaviest_among:Cal P w K mg base lv "heaviest_among" 3 false AnyG Fs) :
  FnOk P w K mg base CX0 (lv+1) a_f fd_f ["aparts","weights","place","places"] (spD 4 false AnyG (Zcc Fs)):=
 have c_nd:=Zef.nd
 fnD (own:=[]) F Zef fun cdv A outer s H E hr G hG=>
 (Zaf (own2:=[]) (ZaM (ZcW c_nd rfl (Or.inl rfl) rfl (⟨rfl,rfl,by decide +kernel,rfl,by decide +kernel,rfl,by decide +kernel,by decide +kernel⟩:BlkS _ ["aparts","weights","place","places","others"] (Zak Zcy).names ["other","place","aparts"] [none,some 2,some 0] _) (Zbw (Zab 3 (pv 3))) (fun _ _ _ _ _ _=>(ZaF (show (["other","place","aparts"]:List Str).Nodup by decide +kernel) rfl (Or.inl rfl) rfl)) (fun _ _ _ _ _ _=>(Zd5 (PDW.pt (Zqd (ZaZ (ZdR hr.units) (Zab 0 (pv 0)) (Zab 1 (pv 1))) (ZoC (ZaZ (ZfQ hr.units) (Zab 0 (pv 0)) (Zaz ixd (Zab 2 (pv 2)) (Zab 1 (pv 1))))))))) (fun _ _ _ _ _ _=>(Zab 0 (pv 0)))))
 (Zaf (own2:=[]) (Zax (PD.weak (Zca ZcX (ZeX (Zac (Zab 2 (pv 2)) Zag)) (Zav (c_heaviest_among) trivial hr rfl (Zac (Zab 0 (pv 0)) (Zac (Zab 1 (pv 1)) (Zac (Zab 4 (pv 4)) Zag))) (Zad (Zad (Zad Zar)))))))
 (Zal (own:=[]))))
theorem ZeO:FnScope ["aparts","place","places"] ["aparts","place","places"] (Zak Zda):=⟨rfl,rfl,rfl,by decide +kernel,rfl,by decide +kernel,by decide +kernel⟩
theorem Zh8 (F:Fun K "apart_among" "apart_among" Zda a_f fd_f) (T:Txt mg) :
  FnOk P w K mg base CX0 1 a_f fd_f ["aparts","place","places"] (spD 3 true AnyG Zdg):=
 have c_nd:=ZeO.nd
 fnD (own:=[]) F ZeO fun cdv A outer s H E hr G hG=>
 (Zaf (own2:=[]) (Zax (Zbm rfl (⟨rfl,rfl,by decide +kernel,rfl,by decide +kernel,rfl,by decide +kernel,by decide +kernel⟩:BlkS _ ["aparts","place","places"] (Zak Zda).names ["other","aparts","place"] [none,some 0,some 1] _) (Zbw (Zab 2 (pv 2))) (fun _ _ _ _ _ _=>(ZaF (show (["other","aparts","place"]:List Str).Nodup by decide +kernel) rfl (Or.inl rfl) rfl)) (fun _ _ _ _ _ _=>(Zd5 (ZaZ (Zhu hr.units) (Zab 0 (pv 0)) (Zaz ixd (Zab 1 (pv 1)) (Zab 2 (pv 2)))))) (fun _ _ _ _ _ _=>(Zab 0 (pv 0)))))
 (Zal (own:=[])))
theorem Zhk:FnScope ["weights","places"] ["weights","places"] (Zak Zey):=⟨rfl,rfl,rfl,by decide +kernel,rfl,by decide +kernel,by decide +kernel⟩
theorem Zl8 (F:Fun K "weighed" "weighed" Zey a_f fd_f) (T:Txt mg) :
  FnOk P w K mg base CX0 1 a_f fd_f ["weights","places"] (spD 2 false AnyG Zdl):=
 have c_nd:=Zhk.nd
 fnD (own:=[]) F Zhk fun cdv A outer s H E hr G hG=>
 (Zaf (own2:=[]) (Zax (PD.weak (ZaK (Zn7 rfl) rfl T.b_sum TF.boot_sum (Zac (Zbm rfl (⟨rfl,rfl,by decide +kernel,rfl,by decide +kernel,rfl,by decide +kernel,by decide +kernel⟩:BlkS _ ["weights","places"] (Zak Zey).names ["place","weights"] [none,some 0] _) (Zbw (Zab 1 (pv 1))) (fun _ _ _ _ _ _=>(ZaF (show (["place","weights"]:List Str).Nodup by decide +kernel) rfl (Or.inl rfl) rfl)) (fun _ _ _ _ _ _=>ZcT) (fun _ _ _ _ _ _=>(Zaz ixd (Zab 1 (pv 1)) (Zab 0 (pv 0))))) Zag))))
 (Zal (own:=[])))
theorem ZdZ:FnScope ["aparts","weights","places","rows","i","counts","branching","with_it","without_it"] ["aparts","weights","places"] (Zak ZbC):=⟨rfl,rfl,rfl,by decide +kernel,rfl,by decide +kernel,by decide +kernel⟩
theorem ZgC (F:Fun K "heaviest_among" "heaviest_among" ZbC a_f fd_f) (T:Txt mg) {Fs:List D→M D} {lv:Nat} (hlv:1≤lv) (c_apart_among:Cal P w K mg base 1 "apart_among" 3 true AnyG Zdg) (c_heaviest_among:Cal P w K mg base lv "heaviest_among" 3 false AnyG Fs) (c_heaviest_with:Cal P w K mg base (lv+1) "heaviest_with" 4 false AnyG (Zcc Fs)) (c_weighed:Cal P w K mg base 1 "weighed" 2 false AnyG Zdl) :
  FnOk P w K mg base CX0 (lv+2) a_f fd_f ["aparts","weights","places"] (spD 3 false AnyG (runB 9 3 (Zdj Fs))):=
 have c_nd:=ZdZ.nd
 fnD (own:=[]) F ZdZ fun cdv A outer s H E hr G hG=>
 (Zaf (own2:=[]) (ZbB (own':=[]) (ZaZ (ZfR hr.units) (Zab 2 (pv 2)) (ZeX Zag))
 (Zaf (own2:=[]) (Zax (PD.weak (ZeX Zag)))
 (Zal (own:=[])))
 Zal)
 (Zaf (own2:=[]) (ZaM (ZcW c_nd rfl (Or.inl rfl) rfl (⟨rfl,rfl,by decide +kernel,rfl,by decide +kernel,rfl,by decide +kernel,by decide +kernel⟩:BlkS _ ["aparts","weights","places","rows","i","counts","branching","with_it","without_it"] (Zak ZbC).names ["place","aparts","places"] [none,some 0,some 2] _) (Zbw (Zab 2 (pv 2))) (fun _ _ _ _ _ _=>(ZaF (show (["place","aparts","places"]:List Str).Nodup by decide +kernel) rfl (Or.inl rfl) rfl)) (fun _ _ _ _ _ _=>ZcT) (fun _ _ _ _ _ _=>(Zav (c_apart_among.mono (h:=Nat.le_trans (by decide) (Nat.le_succ_of_le hlv))) trivial hr rfl (Zac (Zab 1 (pv 1)) (Zac (Zab 0 (pv 0)) (Zac (Zab 2 (pv 2)) Zag))) (Zad (Zad (Zad Zar)))))))
 (Zaf (own2:=[]) (Zct (own:=[]) PassesOwn.never rfl (Zcd rfl T.b_range (ZaK (Zbs) rfl T.b_len TF.boot_len (Zac (Zab 2 (pv 2)) Zag))) (ZaF c_nd rfl (Or.inl rfl) (by decide))
 (Zaf (own2:=[]) (ZbB (own':=[]) (ZaZ (Zht) (Zav (c_weighed.mono (h:=Nat.le_trans (by decide) (Nat.le_succ_of_le hlv))) trivial hr rfl (Zac (Zab 1 (pv 1)) (Zac (Zaz ixd (Zab 3 (pv 3)) (Zab 4 (pv 4))) Zag)) (Zad (Zad Zar))) (Zaz ixd (Zab 1 (pv 1)) (Zaz ixd (Zab 2 (pv 2)) (Zab 4 (pv 4)))))
 (Zaf (own2:=[]) (Zax (Zav (c_heaviest_with) trivial hr rfl (Zac (Zab 0 (pv 0)) (Zac (Zab 1 (pv 1)) (Zac (Zaz ixd (Zab 2 (pv 2)) (Zab 4 (pv 4))) (Zac (Zab 2 (pv 2)) Zag)))) (Zad (Zad (Zad (Zad Zar))))))
 (Zal (own:=[])))
 Zal)
 (Zal (own:=[]))))
 (Zaf (own2:=[]) (ZaM (ZcW c_nd rfl (Or.inl rfl) rfl (⟨rfl,rfl,by decide +kernel,rfl,by decide +kernel,rfl,by decide +kernel,by decide +kernel⟩:BlkS _ ["aparts","weights","places","rows","i","counts","branching","with_it","without_it"] (Zak ZbC).names ["row"] [none] _) (Zbw (Zab 3 (pv 3))) (fun _ _ _ _ _ _=>(ZaF (show (["row"]:List Str).Nodup by decide +kernel) rfl (Or.inl rfl) rfl)) (fun _ _ _ _ _ _=>ZcT) (fun _ _ _ _ _ _=>(ZaK (Zbs) rfl T.b_len TF.boot_len (Zac (Zab 0 (pv 0)) Zag)))))
 (Zaf (own2:=[]) (ZaM (ZaN c_nd rfl (Or.inr rfl) (Zaz ixd (Zab 2 (pv 2)) (ZoI (Zab 5 (pv 5)) (ZaK (Zmy rfl) rfl T.b_max TF.boot_max (Zac (Zab 5 (pv 5)) Zag))))))
 (Zaf (own2:=[]) (ZaM (ZaN c_nd rfl (Or.inl rfl) (Zav (c_heaviest_with) trivial hr rfl (Zac (Zab 0 (pv 0)) (Zac (Zab 1 (pv 1)) (Zac (Zab 6 (pv 6)) (Zac (Zab 2 (pv 2)) Zag)))) (Zad (Zad (Zad (Zad Zar)))))))
 (Zaf (own2:=[]) (ZaM (ZaN c_nd rfl (Or.inl rfl) (Zav (c_heaviest_among.mono (h:=Nat.le_succ _)) trivial hr rfl (Zac (Zab 0 (pv 0)) (Zac (Zab 1 (pv 1)) (Zac (Zbm rfl (⟨rfl,rfl,by decide +kernel,rfl,by decide +kernel,rfl,by decide +kernel,by decide +kernel⟩:BlkS _ ["aparts","weights","places","rows","i","counts","branching","with_it","without_it"] (Zak ZbC).names ["other","branching"] [none,some 6] _) (Zbw (Zab 2 (pv 2))) (fun _ _ _ _ _ _=>(ZaF (show (["other","branching"]:List Str).Nodup by decide +kernel) rfl (Or.inl rfl) rfl)) (fun _ _ _ _ _ _=>(Zd5 (ZaZ (ZdR hr.units) (Zab 0 (pv 0)) (Zab 1 (pv 1))))) (fun _ _ _ _ _ _=>(Zab 0 (pv 0)))) Zag))) (Zad (Zad (Zad Zar))))))
 (Zaf (own2:=[]) (Zax (Zsm (ZaZ (Zrr) (Zav (c_weighed.mono (h:=Nat.le_trans (by decide) (Nat.le_succ_of_le hlv))) trivial hr rfl (Zac (Zab 1 (pv 1)) (Zac (Zab 7 (pv 7)) Zag)) (Zad (Zad Zar))) (Zav (c_weighed.mono (h:=Nat.le_trans (by decide) (Nat.le_succ_of_le hlv))) trivial hr rfl (Zac (Zab 1 (pv 1)) (Zac (Zab 8 (pv 8)) Zag)) (Zad (Zad Zar)))) (Zab 7 (pv 7)) (Zab 8 (pv 8))))
 (Zal (own:=[]))))))))))
theorem Zeg:FnScope ["web","weights","aparts"] ["web","weights"] (Zak Zcz):=⟨rfl,rfl,rfl,by decide +kernel,rfl,by decide +kernel,by decide +kernel⟩
theorem Zg0 (F:Fun K "heaviest_knot" "heaviest_knot" Zcz a_f fd_f) (T:Txt mg) {L:List (Addr×Str)} (lo:LOk L) (c_all_near:Cal P w K mg base 3 "all_near" 1 true AnyG ZbW) (c_heaviest_among:Cal P w K mg base 53 "heaviest_among" 3 false AnyG (Zba 26)) (c_turned:Cal P w K mg base 6 "turned" 1 false (ZaJ L) Zdk) :
  FnOk P w K mg base CX0 54 a_f fd_f ["web","weights"] (spD 2 true (ZaJ L) ZbO):=
 have c_nd:=Zeg.nd
 fnD (own:=[]) F Zeg fun cdv A outer s H E hr G hG=>
 have hT:ZaJ L G:=hG
 (Zaf (own2:=[]) (ZaM (ZcW c_nd rfl (Or.inl rfl) rfl (⟨rfl,rfl,by decide +kernel,rfl,by decide +kernel,rfl,by decide +kernel,by decide +kernel⟩:BlkS _ ["web","weights","aparts"] (Zak Zcz).names ["row"] [none] _) (Zbw (Zav (c_all_near.mono) trivial hr rfl (Zac (Zav (c_turned.mono) hT hr rfl (Zac (Zab 0 (pv 0)) Zag) (Zad Zar)) Zag) (Zad Zar))) (fun _ _ _ _ _ _=>(ZaF (show (["row"]:List Str).Nodup by decide +kernel) rfl (Or.inl rfl) rfl)) (fun _ _ _ _ _ _=>ZcT) (fun _ _ _ _ _ _=>(ZcM (ZmA rfl hr.units) rfl T.b_dict TF.boot_dict (Zac (Zbm rfl (⟨rfl,rfl,by decide +kernel,rfl,by decide +kernel,rfl,by decide +kernel,by decide +kernel⟩:BlkS _ ["row"] [((PySem.Str.ofString ".0"),PySem.NameKind.local),((PySem.Str.ofString "row"),PySem.NameKind.local),((PySem.Str.ofString "dict"),PySem.NameKind.globalImplicit)] ["other"] [none] _) (Zbw (Zab 0 (pv 0))) (fun _ _ _ _ _ _=>(ZaF (show (["other"]:List Str).Nodup by decide +kernel) rfl (Or.inl rfl) rfl)) (fun _ _ _ _ _ _=>ZcT) (fun _ _ _ _ _ _=>(Zbx (Zac (Zab 0 (pv 0)) (Zac Zb4 Zag))))) Zag)))))
 (Zaf (own2:=[]) (Zax (ZcM (ZcR) rfl T.b_tuple TF.boot_tuple (Zac (ZaK (Zks) rfl T.b_sorted TF.boot_sorted (Zac (Zav (c_heaviest_among.mono) trivial hr rfl (Zac (Zab 2 (pv 2)) (Zac (Zab 1 (pv 1)) (Zac (Zek rfl rfl T.b_range rfl T.b_list TF.boot_list (Zaz ixd (Zab 0 (pv 0)) Zaw)) Zag))) (Zad (Zad (Zad Zar)))) Zag)) Zag)))
 (Zal (own:=[]))))
theorem Zlf:FnScope ["web","knot"] ["web"] (Zak Zju):=⟨rfl,rfl,rfl,by decide +kernel,rfl,by decide +kernel,by decide +kernel⟩
theorem Zqv (F:Fun K "most" "most" Zju a_f fd_f) (T:Txt mg) {L:List (Addr×Str)} (lo:LOk L) (c_heaviest_knot:Cal P w K mg base 54 "heaviest_knot" 2 true (ZaJ L) ZbO) :
  FnOk P w K mg base CX0 55 a_f fd_f ["web"] (spD 1 true (ZaJ L) Zdz):=
 have c_nd:=Zlf.nd
 fnD (own:=[]) F Zlf fun cdv A outer s H E hr G hG=>
 have hT:ZaJ L G:=hG
 (Zaf (own2:=[]) (ZaM (ZaN c_nd rfl (Or.inl rfl) (Zav (c_heaviest_knot.mono) hT hr rfl (Zac (Zab 0 (pv 0)) (Zac (Zca ZjK (Zbx (Zac Zaw Zag)) (Zaz ixd (Zab 0 (pv 0)) Zaw)) Zag)) (Zad (Zad Zar)))))
 (Zaf (own2:=[]) (Zax (Zbx (Zac (ZaK (Zbs) rfl T.b_len TF.boot_len (Zac (Zab 1 (pv 1)) Zag)) (Zac (Zab 1 (pv 1)) Zag))))
 (Zal (own:=[]))))
theorem Zhl:FnScope ["nears","many","hues","place","taken","hue","hueing"] ["nears","many","hues"] (Zak Zez):=⟨rfl,rfl,rfl,by decide +kernel,rfl,by decide +kernel,by decide +kernel⟩
theorem Zl9 (F:Fun K "hued_on" "hued_on" Zez a_f fd_f) (T:Txt mg) {Fs:List D→M D} {lv:Nat} (hlv:0≤lv) (c_hued_on:Cal P w K mg base lv "hued_on" 3 false AnyG Fs) :
  FnOk P w K mg base CX0 (lv+1) a_f fd_f ["nears","many","hues"] (spD 3 false AnyG (runB 7 3 (ZiG Fs))):=
 have c_nd:=Zhl.nd
 fnD (own:=[]) F Zhl fun cdv A outer s H E hr G hG=>
 (Zaf (own2:=[]) (ZaM (ZaN c_nd rfl (Or.inr rfl) (ZaK (Zbs) rfl T.b_len TF.boot_len (Zac (Zab 2 (pv 2)) Zag))))
 (Zaf (own2:=[]) (ZbB (own':=[]) (ZaZ (ZfR hr.units) (Zab 3 (pv 3)) (ZaK (Zbs) rfl T.b_len TF.boot_len (Zac (Zab 0 (pv 0)) Zag)))
 (Zaf (own2:=[]) (Zax (Zab 2 (pv 2)))
 (Zal (own:=[])))
 Zal)
 (Zaf (own2:=[]) (ZaM (ZcW c_nd rfl (Or.inl rfl) rfl (⟨rfl,rfl,by decide +kernel,rfl,by decide +kernel,rfl,by decide +kernel,by decide +kernel⟩:BlkS _ ["nears","many","hues","place","taken","hue","hueing"] (Zak Zez).names ["other","hues","place"] [none,some 2,some 3] _) (Zbw (Zaz ixd (Zab 0 (pv 0)) (Zab 3 (pv 3)))) (fun _ _ _ _ _ _=>(ZaF (show (["other","hues","place"]:List Str).Nodup by decide +kernel) rfl (Or.inl rfl) rfl)) (fun _ _ _ _ _ _=>(Zd5 (ZaZ (Zhs hr.units0) (Zab 0 (pv 0)) (Zab 2 (pv 2))))) (fun _ _ _ _ _ _=>(Zaz ixd (Zab 1 (pv 1)) (Zab 0 (pv 0))))))
 (Zaf (own2:=[]) (Zct (own:=[]) PassesOwn.never rfl (Zcd rfl T.b_range (ZaK (Zft rfl) rfl T.b_min TF.boot_min (Zac (Zab 1 (pv 1)) (Zac (Zca ZcX (ZoH rfl rfl T.b_max TF.boot_max (Zab 2 (pv 2)) Zrp) Zaw) Zag)))) (ZaF c_nd rfl (Or.inl rfl) (by decide))
 (Zaf (own2:=[]) (ZbB (own':=[]) (ZaZ (ZfQ hr.units) (Zab 5 (pv 5)) (Zab 4 (pv 4)))
 (Zaf (own2:=[]) (ZaM (ZaN c_nd rfl (Or.inl rfl) (Zav (c_hued_on) trivial hr rfl (Zac (Zab 0 (pv 0)) (Zac (Zab 1 (pv 1)) (Zac (Zca ZcX (Zab 2 (pv 2)) (Zbx (Zac (Zab 5 (pv 5)) Zag))) Zag))) (Zad (Zad (Zad Zar))))))
 (Zaf (own2:=[]) (ZbB (own':=[]) (ZaZ (ZoN) (Zab 6 (pv 6)) ZjH)
 (Zaf (own2:=[]) (Zax (Zab 6 (pv 6)))
 (Zal (own:=[])))
 Zal)
 (Zal (own:=[]))))
 Zal)
 (Zal (own:=[]))))
 (Zaf (own2:=[]) (Zax (PD.weak ZjH))
 (Zal (own:=[])))))))
theorem ZeN:FnScope ["web","nears","many","hueing"] ["web"] (Zak ZdX):=⟨rfl,rfl,rfl,by decide +kernel,rfl,by decide +kernel,by decide +kernel⟩
theorem Zh7 (F:Fun K "fewest_hues" "fewest_hues" ZdX a_f fd_f) (T:Txt mg) {L:List (Addr×Str)} (lo:LOk L) (c_all_near:Cal P w K mg base 3 "all_near" 1 true AnyG ZbW) (c_hued_on:Cal P w K mg base 11 "hued_on" 3 false AnyG (ZbY 10)) (c_most:Cal P w K mg base 55 "most" 1 true (ZaJ L) Zdz) :
  FnOk P w K mg base CX0 56 a_f fd_f ["web"] (spD 1 true (ZaJ L) Zb7):=
 have c_nd:=ZeN.nd
 fnD (own:=[]) F ZeN fun cdv A outer s H E hr G hG=>
 have hT:ZaJ L G:=hG
 (Zaf (own2:=[]) (ZaM (ZaN c_nd rfl (Or.inl rfl) (Zav (c_all_near.mono) trivial hr rfl (Zac (Zab 0 (pv 0)) Zag) (Zad Zar))))
 (Zaf (own2:=[]) (ZaM (ZaN c_nd rfl (Or.inl rfl) (Zaz ixd (Zav (c_most.mono) hT hr rfl (Zac (Zab 0 (pv 0)) Zag) (Zad Zar)) Zaw)))
 (Zaf (own2:=[]) (ZaM (ZaN c_nd rfl (Or.inl rfl) (Zav (c_hued_on.mono) trivial hr rfl (Zac (Zab 1 (pv 1)) (Zac (Zab 2 (pv 2)) (Zac (Zbx Zag) Zag))) (Zad (Zad (Zad Zar))))))
 (Zaf (own2:=[]) (Znc (own:=[]) PassesOwn.never (ZaZ (Zql) (Zab 3 (pv 3)) ZjH)
 (Zaf (own2:=[]) (Zqf (own:=[]) c_nd rfl (Or.inl rfl) Zaw)
 (Zaf (own2:=[]) (ZaM (ZaN c_nd rfl (Or.inl rfl) (Zav (c_hued_on.mono) trivial hr rfl (Zac (Zab 1 (pv 1)) (Zac (Zab 2 (pv 2)) (Zac (Zbx Zag) Zag))) (Zad (Zad (Zad Zar))))))
 (Zal (own:=[])))))
 (Zaf (own2:=[]) (Zax (Zbx (Zac (Zab 2 (pv 2)) (Zac (Zab 3 (pv 3)) Zag))))
 (Zal (own:=[])))))))
theorem Zfx:FnScope ["taken"] ["taken"] (Zak Zdn):=⟨rfl,rfl,rfl,by decide +kernel,rfl,by decide +kernel,by decide +kernel⟩
theorem ZiS (F:Fun K "least_free" "least_free" Zdn a_f fd_f) (T:Txt mg) :
  FnOk P w K mg base CX0 1 a_f fd_f ["taken"] (spD 1 true AnyG Zb2):=
 have c_nd:=Zfx.nd
 fnD (own:=[]) F Zfx fun cdv A outer s H E hr G hG=>
 (Zaf (own2:=[]) (Zax (ZaK (Zmw rfl) rfl T.b_min TF.boot_min (Zac (Zbm rfl (⟨rfl,rfl,by decide +kernel,rfl,by decide +kernel,rfl,by decide +kernel,by decide +kernel⟩:BlkS _ ["taken"] (Zak Zdn).names ["hue","taken"] [none,some 0] _) (ZcV rfl T.b_range (Zca ZcX (ZaK (Zbs) rfl T.b_len TF.boot_len (Zac (Zab 0 (pv 0)) Zag)) Zaw)) (fun _ _ _ _ _ _=>(ZaF (show (["hue","taken"]:List Str).Nodup by decide +kernel) rfl (Or.inl rfl) rfl)) (fun _ _ _ _ _ _=>(Zd5 (ZaZ (ZfQ hr.units) (Zab 0 (pv 0)) (Zab 1 (pv 1))))) (fun _ _ _ _ _ _=>(Zab 0 (pv 0)))) Zag)))
 (Zal (own:=[])))
theorem Zfy:FnScope ["web","order","nears","hues","place"] ["web","order"] (Zak ZcJ):=⟨rfl,rfl,rfl,by decide +kernel,rfl,by decide +kernel,by decide +kernel⟩
theorem ZiT (F:Fun K "hued_along" "hued_along" ZcJ a_f fd_f) (T:Txt mg) (c_all_near:Cal P w K mg base 3 "all_near" 1 true AnyG ZbW) (c_least_free:Cal P w K mg base 1 "least_free" 1 true AnyG Zb2) :
  FnOk P w K mg base CX0 4 a_f fd_f ["web","order"] (spD 2 true AnyG ZbN):=
 have c_nd:=Zfy.nd
 fnD (own:=[]) F Zfy fun cdv A outer s H E hr G hG=>
 (Zaf (own2:=[]) (ZaM (ZaN c_nd rfl (Or.inl rfl) (Zav (c_all_near.mono) trivial hr rfl (Zac (Zab 0 (pv 0)) Zag) (Zad Zar))))
 (Zaf (own2:=[3]) (Zfj (ZaN c_nd rfl (Or.inr rfl) ZjI))
 (Zaf (own2:=[3]) (Zct (own:=[3]) PassesOwn.never rfl (PDI.a (own:=[3]) (Zbw (Zab 1 (pv 1)))) (ZaF c_nd rfl (Or.inl rfl) (by decide))
 (Zaf (own2:=[3]) (Zis (own:=[3]) (i:=3) (L2.hu_of hr) (by decide) (pv 3) (Zab 4 (pv 4)) (Zav (c_least_free.mono) trivial hr rfl (Zac (Zbm rfl (⟨rfl,rfl,by decide +kernel,rfl,by decide +kernel,rfl,by decide +kernel,by decide +kernel⟩:BlkS _ ["web","order","nears","hues","place"] (Zak ZcJ).names ["other","hues"] [none,some 3] _) (Zbw (Zaz ixd (Zab 2 (pv 2)) (Zab 4 (pv 4)))) (fun _ _ _ _ _ _=>(ZaF (show (["other","hues"]:List Str).Nodup by decide +kernel) rfl (Or.inl rfl) rfl)) (fun _ _ _ _ _ _=>(Zd5 (ZaZ (Zhu hr.units) (Zab 0 (pv 0)) (Zab 1 (pv 1))))) (fun _ _ _ _ _ _=>(Zlo (L2.hu_of hr) (Zab 1 (pv 1)) (Zab 0 (pv 0))))) Zag) (Zad Zar)))
 (Zal (own:=[3]))))
 (Zaf (own2:=[3]) (Zax (ZcM (ZcR) rfl T.b_tuple TF.boot_tuple (Zac (Zbm rfl (⟨rfl,rfl,by decide +kernel,rfl,by decide +kernel,rfl,by decide +kernel,by decide +kernel⟩:BlkS _ ["web","order","nears","hues","place"] (Zak ZcJ).names ["place","hues"] [none,some 3] _) (ZcV rfl T.b_range (Zaz ixd (Zab 0 (pv 0)) Zaw)) (fun _ _ _ _ _ _=>(ZaF (show (["place","hues"]:List Str).Nodup by decide +kernel) rfl (Or.inl rfl) rfl)) (fun _ _ _ _ _ _=>ZcT) (fun _ _ _ _ _ _=>(Zlo (L2.hu_of hr) (Zab 1 (pv 1)) (Zab 0 (pv 0))))) Zag)))
 (Zal (own:=[3]))))))
theorem ZeM:FnScope ["thing","length"] ["thing","length"] (Zak ZdW):=⟨rfl,rfl,rfl,by decide +kernel,rfl,by decide +kernel,by decide +kernel⟩
theorem Zh6 (F:Fun K "is_tuple_of" "is_tuple_of" ZdW a_f fd_f) (T:Txt mg) :
  FnOk P w K mg base CX0 1 a_f fd_f ["thing","length"] (spD 2 false AnyG Zbc):=
 have c_nd:=ZeM.nd
 fnD (own:=[]) F ZeM fun cdv A outer s H E hr G hG=>
 (Zaf (own2:=[]) (Zax (Zel (ZaK (Zgd) rfl T.b_isinstance TF.boot_isinstance (Zac (Zab 0 (pv 0)) (Zac (Zl0 rfl T.b_tuple TF.boot_tuple) Zag))) (ZfO (Zcp (ZfR hr.units) (ZaK (Zbs) rfl T.b_len TF.boot_len (Zac (Zab 0 (pv 0)) Zag)) (Zab 1 (pv 1))))))
 (Zal (own:=[])))
theorem ZgI:FnScope ["thing"] ["thing"] (Zak Zfb):=⟨rfl,rfl,rfl,by decide +kernel,rfl,by decide +kernel,by decide +kernel⟩
theorem ZkH (F:Fun K "is_whole" "is_whole" Zfb a_f fd_f) (T:Txt mg) :
  FnOk P w K mg base CX0 1 a_f fd_f ["thing"] (spD 1 false AnyG Zc3):=
 have c_nd:=ZgI.nd
 fnD (own:=[]) F ZgI fun cdv A outer s H E hr G hG=>
 (Zaf (own2:=[]) (Zax (Zel (ZaK (Zgd) rfl T.b_isinstance TF.boot_isinstance (Zac (Zab 0 (pv 0)) (Zac (Zl0 rfl T.b_int TF.boot_int) Zag))) (ZfO (Znd (ZaK (Zgd) rfl T.b_isinstance TF.boot_isinstance (Zac (Zab 0 (pv 0)) (Zac (Zl0 rfl T.b_bool TF.boot_bool) Zag)))))))
 (Zal (own:=[])))
theorem ZgJ:FnScope ["n","thing"] ["n","thing"] (Zak Zfc):=⟨rfl,rfl,rfl,by decide +kernel,rfl,by decide +kernel,by decide +kernel⟩
theorem ZkI (F:Fun K "is_place" "is_place" Zfc a_f fd_f) (T:Txt mg) (c_is_whole:Cal P w K mg base 1 "is_whole" 1 false AnyG Zc3) :
  FnOk P w K mg base CX0 2 a_f fd_f ["n","thing"] (spD 2 false AnyG ZbV):=
 have c_nd:=ZgJ.nd
 fnD (own:=[]) F ZgJ fun cdv A outer s H E hr G hG=>
 (Zaf (own2:=[]) (Zax (Zel (Zav (c_is_whole.mono) trivial hr rfl (Zac (Zab 1 (pv 1)) Zag) (Zad Zar)) (Zel (Zcp (Zht) Zaw (Zab 1 (pv 1))) (ZfO (Zcp (Zhs hr.units0) (Zab 1 (pv 1)) (Zab 0 (pv 0)))))))
 (Zal (own:=[])))
theorem ZfH:FnScope ["web","thing"] ["web","thing"] (Zak Zc6):=⟨rfl,rfl,rfl,by decide +kernel,rfl,by decide +kernel,by decide +kernel⟩
theorem ZjN (F:Fun K "is_hueing" "is_hueing" Zc6 a_f fd_f) (T:Txt mg) (c_is_place:Cal P w K mg base 2 "is_place" 2 false AnyG ZbV) (c_is_tuple_of:Cal P w K mg base 1 "is_tuple_of" 2 false AnyG Zbc) :
  FnOk P w K mg base CX0 3 a_f fd_f ["web","thing"] (spD 2 false AnyG Zbv):=
 have c_nd:=ZfH.nd
 fnD (own:=[]) F ZfH fun cdv A outer s H E hr G hG=>
 (Zaf (own2:=[]) (ZbB (own':=[]) (ZeW (Zcs (Zav (c_is_tuple_of.mono) trivial hr rfl (Zac (Zab 1 (pv 1)) (Zac (Zaz ixd (Zab 0 (pv 0)) Zaw) Zag)) (Zad (Zad Zar)))))
 (Zaf (own2:=[]) (Zax (PD.weak Zb4))
 (Zal (own:=[])))
 Zal)
 (Zaf (own2:=[]) (ZbB (own':=[]) (ZeW (Zcs (ZaK (ZiL rfl) rfl T.b_all TF.boot_all (Zac (Zbm rfl (⟨rfl,rfl,by decide +kernel,rfl,by decide +kernel,rfl,by decide +kernel,by decide +kernel⟩:BlkS _ ["web","thing"] (Zak Zc6).names ["hue","web"] [none,some 0] _) (Zh4 (Zab 1 (pv 1))) (fun _ _ _ _ _ _=>(ZaF (show (["hue","web"]:List Str).Nodup by decide +kernel) rfl (Or.inl rfl) rfl)) (fun _ _ _ _ _ _=>ZcT) (fun _ _ _ _ _ _=>(Zav (c_is_place.mono) trivial hr rfl (Zac (Zaz ixd (Zab 1 (pv 1)) Zaw) (Zac (Zab 0 (pv 0)) Zag)) (Zad (Zad Zar))))) Zag))))
 (Zaf (own2:=[]) (Zax (PD.weak Zb4))
 (Zal (own:=[])))
 Zal)
 (Zaf (own2:=[]) (Zax (PD.weak (ZaK (ZiL rfl) rfl T.b_all TF.boot_all (Zac (Zbm rfl (⟨rfl,rfl,by decide +kernel,rfl,by decide +kernel,rfl,by decide +kernel,by decide +kernel⟩:BlkS _ ["web","thing"] (Zak Zc6).names ["tie","thing"] [none,some 1] _) (Zh4 (Zaz ixd (Zab 0 (pv 0)) Zaw)) (fun _ _ _ _ _ _=>(ZaF (show (["tie","thing"]:List Str).Nodup by decide +kernel) rfl (Or.inl rfl) rfl)) (fun _ _ _ _ _ _=>ZcT) (fun _ _ _ _ _ _=>(Zcp (ZdR hr.units) (Zaz ixd (Zab 1 (pv 1)) (Zaz ixd (Zab 0 (pv 0)) Zaw)) (Zaz ixd (Zab 1 (pv 1)) (Zaz ixd (Zab 0 (pv 0)) Zaw))))) Zag))))
 (Zal (own:=[])))))
theorem Zee:FnScope ["web","places","ties"] ["web","places"] (Zak Zb9):=⟨rfl,rfl,rfl,by decide +kernel,rfl,by decide +kernel,by decide +kernel⟩
theorem ZgY (F:Fun K "numbered_anew" "numbered_anew" Zb9 a_f fd_f) (T:Txt mg) {L:List (Addr×Str)} (lo:LOk L) (c_marked_ties:Cal P w K mg base 1 "marked_ties" 1 true AnyG Zbi) (c_web_where:CalA P w K mg 5 "web_where" 2 false (CloG P w K mg 4 2 Tl) ZbX) (ca_are_tied:∀base,Cal P w K mg base 1 "are_tied" 3 false AnyG Zbj) {tc tP:Addr} (hcode:fd_f.code=.ref tc) (hCd:PySem.W.CodeHd base tc tP) (hBm:BMn mg base) (hL:(tP,(Str.ofString "numbered_anew.<locals>.<lambda>"))∈L) :
  FnOk P w K mg base CX0 6 a_f fd_f ["web","places"] (spD 2 false (ZaJ L) ZcD):=
 have c_nd:=Zee.nd
 fnDC (own:=[]) F Zee fun A outer s H E hr G hG=>
 have hT:ZaJ L G:=hG
 have TG9:=hT _ _ hL
 have M9:Mk0 (cxOf CX0 P w K mg base ["web","places","ties"] "numbered_anew" (Zak Zb9) a_f fd_f.code A outer s H E).nox tc tP:=⟨hcode,hCd,hBm⟩
 (Zaf (own2:=[]) (ZaM (ZaN c_nd rfl (Or.inr rfl) (Zav (c_marked_ties.mono) trivial hr rfl (Zac (Zab 0 (pv 0)) Zag) (Zad Zar))))
 (Zaf (own2:=[]) (Zax (Zhr (kl:=3) (frb:=false) (N:=["a","b","ties"]) (ps:=["a","b"]) (cix:=[2]) (T:=Tl) (t:=1) (q:="numbered_anew.<locals>.<lambda>") M9 TG9 (c_web_where.mono) (fun _=>rfl) hr rfl (Zab 1 (pv 1)) rfl (⟨rfl,rfl,rfl,by decide +kernel,rfl,by decide +kernel,by decide +kernel⟩:CloScope ["a","b","ties"] ["a","b"] _) (⟨rfl,rfl,rfl,by decide +kernel,by decide +kernel⟩:CapS _ ["web","places","ties"] (Zak Zb9).names ["a","b","ties"] ["a","b"] [2] _) rfl (fun _ _ _ _ us hl=>match us,hl with | [_,_],_=>rfl) (fun base f c cl G A outer s H E hr=>(Zav ((ca_are_tied base).mono) trivial hr rfl (Zac (Zab 2 (pv 2)) (Zac (Zab 0 (pv 0)) (Zac (Zab 1 (pv 1)) Zag))) (Zad (Zad (Zad Zar)))))))
 (Zal (own:=[]))))
theorem Zlc:FnScope ["web","places"] ["web","places"] (Zak Zjs):=⟨rfl,rfl,rfl,by decide +kernel,rfl,by decide +kernel,by decide +kernel⟩
theorem Zqs (F:Fun K "part" "part" Zjs a_f fd_f) (T:Txt mg) {L:List (Addr×Str)} (lo:LOk L) (c_numbered_anew:Cal P w K mg base 6 "numbered_anew" 2 false (ZaJ L) ZcD) :
  FnOk P w K mg base CX0 7 a_f fd_f ["web","places"] (spD 2 false (ZaJ L) ZhV):=
 have c_nd:=Zlc.nd
 fnD (own:=[]) F Zlc fun cdv A outer s H E hr G hG=>
 have hT:ZaJ L G:=hG
 (Zaf (own2:=[]) (Zax (Zav (c_numbered_anew.mono) hT hr rfl (Zac (Zab 0 (pv 0)) (Zac (Zab 1 (pv 1)) Zag)) (Zad (Zad Zar))))
 (Zal (own:=[])))
theorem Zed:FnScope ["weights","places"] ["weights","places"] (Zak Zcx):=⟨rfl,rfl,rfl,by decide +kernel,rfl,by decide +kernel,by decide +kernel⟩
theorem ZgX (F:Fun K "weights_along" "weights_along" Zcx a_f fd_f) (T:Txt mg) :
  FnOk P w K mg base CX0 1 a_f fd_f ["weights","places"] (spD 2 true AnyG ZcC):=
 have c_nd:=Zed.nd
 fnD (own:=[]) F Zed fun cdv A outer s H E hr G hG=>
 (Zaf (own2:=[]) (Zax (ZcM (ZcR) rfl T.b_tuple TF.boot_tuple (Zac (Zbm rfl (⟨rfl,rfl,by decide +kernel,rfl,by decide +kernel,rfl,by decide +kernel,by decide +kernel⟩:BlkS _ ["weights","places"] (Zak Zcx).names ["place","weights"] [none,some 0] _) (Zbw (Zab 1 (pv 1))) (fun _ _ _ _ _ _=>(ZaF (show (["place","weights"]:List Str).Nodup by decide +kernel) rfl (Or.inl rfl) rfl)) (fun _ _ _ _ _ _=>ZcT) (fun _ _ _ _ _ _=>(Zaz ixd (Zab 1 (pv 1)) (Zab 0 (pv 0))))) Zag)))
 (Zal (own:=[])))
theorem ZdA:FnScope ["plainest","web","weights","places","w","thing"] ["plainest","web","weights","places","w","thing"] (Zak ZcI):=⟨rfl,rfl,rfl,by decide +kernel,rfl,by decide +kernel,by decide +kernel⟩
theorem ZfB (F:Fun K "is_bound_of_part" "is_bound_of_part" ZcI a_f fd_f) (T:Txt mg) {L:List (Addr×Str)} (lo:LOk L) {Fs:List D→M D} {lv:Nat} (hlv:7≤lv) (c_is_bound:Cal P w K mg base lv "is_bound" 5 false (ZaJ L) Fs) (c_part:Cal P w K mg base 7 "part" 2 false (ZaJ L) ZhV) (c_weights_along:Cal P w K mg base 1 "weights_along" 2 true AnyG ZcC) :
  FnOk P w K mg base CX0 (lv+1) a_f fd_f ["plainest","web","weights","places","w","thing"] (spD 6 false (ZaJ L) (ZbM Fs)):=
 have c_nd:=ZdA.nd
 fnD (own:=[]) F ZdA fun cdv A outer s H E hr G hG=>
 have hT:ZaJ L G:=hG
 (Zaf (own2:=[]) (Zax (Zav (c_is_bound) hT hr rfl (Zac (Zab 0 (pv 0)) (Zac (Zav (c_part.mono (h:=Nat.le_trans (by decide) hlv)) hT hr rfl (Zac (Zab 1 (pv 1)) (Zac (Zab 3 (pv 3)) Zag)) (Zad (Zad Zar))) (Zac (Zav (c_weights_along.mono (h:=Nat.le_trans (by decide) hlv)) trivial hr rfl (Zac (Zab 2 (pv 2)) (Zac (Zab 3 (pv 3)) Zag)) (Zad (Zad Zar))) (Zac (Zab 4 (pv 4)) (Zac (Zab 5 (pv 5)) Zag))))) (Zad (Zad (Zad (Zad (Zad Zar)))))))
 (Zal (own:=[])))
theorem ZdO:FnScope ["weights","hueing","heaviest","place"] ["weights","hueing"] (Zak Zc4):=⟨rfl,rfl,rfl,by decide +kernel,rfl,by decide +kernel,by decide +kernel⟩
theorem ZfS (F:Fun K "weighed_by_hues" "weighed_by_hues" Zc4 a_f fd_f) (T:Txt mg) :
  FnOk P w K mg base CX0 1 a_f fd_f ["weights","hueing"] (spD 2 false AnyG ZbS):=
 have c_nd:=ZdO.nd
 fnD (own:=[]) F ZdO fun cdv A outer s H E hr G hG=>
 (Zaf (own2:=[2]) (Zfj (ZaN c_nd rfl (Or.inl rfl) ZjI))
 (Zaf (own2:=[2]) (Zct (own:=[2]) PassesOwn.never rfl (Zcd rfl T.b_range (ZaK (Zbs) rfl T.b_len TF.boot_len (Zac (Zab 1 (pv 1)) Zag))) (ZaF c_nd rfl (Or.inl rfl) (by decide))
 (Zaf (own2:=[2]) (Zis (own:=[2]) (i:=2) (L2.hu_of hr) (by decide) (pv 2) (Zaz ixd (Zab 1 (pv 1)) (Zab 3 (pv 3))) (ZaK (ZhR rfl) rfl T.b_max TF.boot_max (Zac (Zaz ixd (Zab 0 (pv 0)) (Zab 3 (pv 3))) (Zac (Zqg (L2.hu_of hr) (Zab 2 (pv 2)) (Zaz ixd (Zab 1 (pv 1)) (Zab 3 (pv 3))) Zaw) Zag))))
 (Zal (own:=[2]))))
 (Zaf (own2:=[2]) (Zax (PD.weak (Zl1 rfl rfl T.b_sum TF.boot_sum (Zab 2 (pv 2)))))
 (Zal (own:=[2])))))
theorem ZdY:FnScope ["web","v"] ["web","v"] (Zak Zcm):=⟨rfl,rfl,rfl,by decide +kernel,rfl,by decide +kernel,by decide +kernel⟩
theorem ZgB (F:Fun K "places_without" "places_without" Zcm a_f fd_f) (T:Txt mg) :
  FnOk P w K mg base CX0 1 a_f fd_f ["web","v"] (spD 2 true AnyG Zcn):=
 have c_nd:=ZdY.nd
 fnD (own:=[]) F ZdY fun cdv A outer s H E hr G hG=>
 (Zaf (own2:=[]) (Zax (Zbm rfl (⟨rfl,rfl,by decide +kernel,rfl,by decide +kernel,rfl,by decide +kernel,by decide +kernel⟩:BlkS _ ["web","v"] (Zak Zcm).names ["place","v"] [none,some 1] _) (ZcV rfl T.b_range (Zaz ixd (Zab 0 (pv 0)) Zaw)) (fun _ _ _ _ _ _=>(ZaF (show (["place","v"]:List Str).Nodup by decide +kernel) rfl (Or.inl rfl) rfl)) (fun _ _ _ _ _ _=>(Zd5 (ZaZ (ZdR hr.units) (Zab 0 (pv 0)) (Zab 1 (pv 1))))) (fun _ _ _ _ _ _=>(Zab 0 (pv 0)))))
 (Zal (own:=[])))
theorem ZgL:FnScope ["plainest","web","weights","w","thing","v"] ["plainest","web","weights","w","thing"] (Zak Zfe):=⟨rfl,rfl,rfl,by decide +kernel,rfl,by decide +kernel,by decide +kernel⟩
theorem ZkK (F:Fun K "is_bound" "is_bound" Zfe a_f fd_f) (T:Txt mg) {L:List (Addr×Str)} (lo:LOk L) {Fs:List D→M D} {lv:Nat} (hlv:7≤lv) (c_is_bound_of_part:Cal P w K mg base (lv+1) "is_bound_of_part" 6 false (ZaJ L) (ZbM Fs)) (c_is_hueing:Cal P w K mg base 3 "is_hueing" 2 false AnyG Zbv) (c_is_place:Cal P w K mg base 2 "is_place" 2 false AnyG ZbV) (c_is_tuple_of:Cal P w K mg base 1 "is_tuple_of" 2 false AnyG Zbc) (c_near:Cal P w K mg base 2 "near" 2 true AnyG Zdy) (c_places_without:Cal P w K mg base 1 "places_without" 2 true AnyG Zcn) (c_weighed_by_hues:Cal P w K mg base 1 "weighed_by_hues" 2 false AnyG ZbS) :
  FnOk P w K mg base CX0 (lv+2) a_f fd_f ["plainest","web","weights","w","thing"] (spD 5 false (ZaJ L) (runB 6 5 (Zfq Fs))):=
 have c_nd:=ZgL.nd
 fnD (own:=[]) F ZgL fun cdv A outer s H E hr G hG=>
 have hT:ZaJ L G:=hG
 (Zaf (own2:=[]) (ZbB (own':=[]) (Zcs (Zav (c_is_tuple_of.mono (h:=Nat.le_trans (by decide) (Nat.le_succ_of_le hlv))) trivial hr rfl (Zac (Zab 4 (pv 4)) (Zac Zaw Zag)) (Zad (Zad Zar))))
 (Zaf (own2:=[]) (Zax (Zel (Zcp (ZfR hr.units) (Zaz ixd (Zab 4 (pv 4)) Zaw) (Zab 0 (pv 0))) (ZfO (Zcp (Zht) (ZaK (Zn5 rfl) rfl T.b_sum TF.boot_sum (Zac (Zab 2 (pv 2)) Zag)) (Zab 3 (pv 3))))))
 (Zal (own:=[])))
 Zal)
 (Zaf (own2:=[]) (ZbB (own':=[]) (Zcs (Zav (c_is_tuple_of.mono (h:=Nat.le_trans (by decide) (Nat.le_succ_of_le hlv))) trivial hr rfl (Zac (Zab 4 (pv 4)) (Zac Zaw Zag)) (Zad (Zad Zar))))
 (Zaf (own2:=[]) (Zax (Zel (Zcp (ZfR hr.units) (Zaz ixd (Zab 4 (pv 4)) Zaw) ZfN) (Zel (Zav (c_is_hueing.mono (h:=Nat.le_trans (by decide) (Nat.le_succ_of_le hlv))) trivial hr rfl (Zac (Zab 1 (pv 1)) (Zac (Zaz ixd (Zab 4 (pv 4)) Zaw) Zag)) (Zad (Zad Zar))) (ZfO (Zcp (Zht) (Zav (c_weighed_by_hues.mono (h:=Nat.le_trans (by decide) (Nat.le_succ_of_le hlv))) trivial hr rfl (Zac (Zab 2 (pv 2)) (Zac (Zaz ixd (Zab 4 (pv 4)) Zaw) Zag)) (Zad (Zad Zar))) (Zab 3 (pv 3)))))))
 (Zal (own:=[])))
 Zal)
 (Zaf (own2:=[]) (ZbB (own':=[]) (PDW.pt (ZeV (ZeW (Zcs (Zav (c_is_tuple_of.mono (h:=Nat.le_trans (by decide) (Nat.le_succ_of_le hlv))) trivial hr rfl (Zac (Zab 4 (pv 4)) (Zac Zaw Zag)) (Zad (Zad Zar))))) (ZeU (ZaZ (ZdR hr.units) (Zaz ixd (Zab 4 (pv 4)) Zaw) ZfN))))
 (Zaf (own2:=[]) (Zax (PD.weak Zb4))
 (Zal (own:=[])))
 Zal)
 (Zaf (own2:=[]) (ZaM (ZaN c_nd rfl (Or.inl rfl) (Zaz ixd (Zab 4 (pv 4)) Zaw)))
 (Zaf (own2:=[]) (ZbB (own':=[]) (PDW.pt (ZeV (ZeW (Zcs (Zav (c_is_place.mono (h:=Nat.le_trans (by decide) (Nat.le_succ_of_le hlv))) trivial hr rfl (Zac (Zaz ixd (Zab 1 (pv 1)) Zaw) (Zac (Zab 5 (pv 5)) Zag)) (Zad (Zad Zar))))) (ZeU (ZaZ (ZjL) (Zaz ixd (Zab 2 (pv 2)) (Zab 5 (pv 5))) (Zab 3 (pv 3))))))
 (Zaf (own2:=[]) (Zax (PD.weak Zb4))
 (Zal (own:=[])))
 Zal)
 (Zaf (own2:=[]) (ZbB (own':=[]) (ZeW (Zcs (Zav (c_is_bound_of_part) hT hr rfl (Zac (Zab 0 (pv 0)) (Zac (Zab 1 (pv 1)) (Zac (Zab 2 (pv 2)) (Zac (Zav (c_places_without.mono (h:=Nat.le_trans (by decide) (Nat.le_succ_of_le hlv))) trivial hr rfl (Zac (Zab 1 (pv 1)) (Zac (Zab 5 (pv 5)) Zag)) (Zad (Zad Zar))) (Zac (Zab 3 (pv 3)) (Zac (Zaz ixd (Zab 4 (pv 4)) Zaw) Zag)))))) (Zad (Zad (Zad (Zad (Zad (Zad Zar)))))))))
 (Zaf (own2:=[]) (Zax (PD.weak Zb4))
 (Zal (own:=[])))
 Zal)
 (Zaf (own2:=[]) (Zax (Zav (c_is_bound_of_part) hT hr rfl (Zac (Zab 0 (pv 0)) (Zac (Zab 1 (pv 1)) (Zac (Zab 2 (pv 2)) (Zac (Zav (c_near.mono (h:=Nat.le_trans (by decide) (Nat.le_succ_of_le hlv))) trivial hr rfl (Zac (Zab 1 (pv 1)) (Zac (Zab 5 (pv 5)) Zag)) (Zad (Zad Zar))) (Zac (Zca Zgm (Zab 3 (pv 3)) (Zaz ixd (Zab 2 (pv 2)) (Zab 5 (pv 5)))) (Zac (Zaz ixd (Zab 4 (pv 4)) Zaw) Zag)))))) (Zad (Zad (Zad (Zad (Zad (Zad Zar))))))))
 (Zal (own:=[])))))))))
theorem Zld:FnScope ["web"] ["web"] (Zak Zjt):=⟨rfl,rfl,rfl,by decide +kernel,rfl,by decide +kernel,by decide +kernel⟩
theorem Zqt (F:Fun K "ones" "ones" Zjt a_f fd_f) (T:Txt mg) :
  FnOk P w K mg base CX0 1 a_f fd_f ["web"] (spD 1 false AnyG Zgh):=
 have c_nd:=Zld.nd
 fnD (own:=[]) F Zld fun cdv A outer s H E hr G hG=>
 (Zaf (own2:=[]) (Zax (PD.weak (Zca ZjK (Zbx (Zac Zaw Zag)) (Zaz ixd (Zab 0 (pv 0)) Zaw))))
 (Zal (own:=[])))
theorem ZgK:FnScope ["web","k","thing"] ["web","k","thing"] (Zak Zfd):=⟨rfl,rfl,rfl,by decide +kernel,rfl,by decide +kernel,by decide +kernel⟩
theorem ZkJ (F:Fun K "is_paper" "is_paper" Zfd a_f fd_f) (T:Txt mg) {L:List (Addr×Str)} (lo:LOk L) (c_is_bound:Cal P w K mg base 59 "is_bound" 5 false (ZaJ L) (Zcb 26)) (c_ones:Cal P w K mg base 1 "ones" 1 false AnyG Zgh) :
  FnOk P w K mg base CX0 60 a_f fd_f ["web","k","thing"] (spD 3 false (ZaJ L) Zco):=
 have c_nd:=ZgK.nd
 fnD (own:=[]) F ZgK fun cdv A outer s H E hr G hG=>
 have hT:ZaJ L G:=hG
 (Zaf (own2:=[]) (Zax (Zav (c_is_bound.mono) hT hr rfl (Zac ZfN (Zac (Zab 0 (pv 0)) (Zac (Zav (c_ones.mono) trivial hr rfl (Zac (Zab 0 (pv 0)) Zag) (Zad Zar)) (Zac (Zca Zgm (Zab 1 (pv 1)) Zaw) (Zac (Zab 2 (pv 2)) Zag))))) (Zad (Zad (Zad (Zad (Zad Zar)))))))
 (Zal (own:=[])))
theorem ZfI:FnScope ["pen","limit","n","way","by","ties","a","b","good"] ["pen","limit"] (Zak ZeH):=⟨rfl,rfl,rfl,by decide +kernel,rfl,by decide +kernel,by decide +kernel⟩
theorem ZjO (F:Fun K "_law_tweb" "_law_tweb" ZeH a_f fd_f) (T:Txt mg) {L:List (Addr×Str)} (lo:LOk L) (c__law_tdraw:Cal P w K mg base 1 "_law_tdraw" 2 true (PenT PenD L) ZbT) :
  FnOk P w K mg base CX0 2 a_f fd_f ["pen","limit"] (spD 2 true (PenT PenD L) Zcv):=
 have c_nd:=ZfI.nd
 fnD (own:=[]) F ZfI fun cdv A outer s H E hr G hG=>
 have hT:ZaJ L G:=PenT.tabs lo hG
 (Zaf (own2:=[]) (ZaM (ZaN c_nd rfl (Or.inl rfl) (Zav (c__law_tdraw.mono) hG hr rfl (Zac (Zab 0 (pv 0)) (Zac (Zca ZcX (Zab 1 (pv 1)) Zaw) Zag)) (Zad (Zad Zar)))))
 (Zaf (own2:=[]) (ZaM (ZaN c_nd rfl (Or.inl rfl) (Zav (c__law_tdraw.mono) hG hr rfl (Zac (Zab 0 (pv 0)) (Zac Zaw Zag)) (Zad (Zad Zar)))))
 (Zaf (own2:=[]) (ZaM (ZaN c_nd rfl (Or.inl rfl) (Zca ZcX Zaw (Zav (c__law_tdraw.mono) hG hr rfl (Zac (Zab 0 (pv 0)) (Zac Zaw Zag)) (Zad (Zad Zar))))))
 (Zaf (own2:=[5]) (Zfj (ZaN c_nd rfl (Or.inl rfl) (ZeX Zag)))
 (Zaf (own2:=[5]) (Zct (own:=[5]) PassesOwn.never rfl (Zcd rfl T.b_range (Zab 2 (pv 2))) (ZaF c_nd rfl (Or.inl rfl) (by decide))
 (Zaf (own2:=[5]) (Zct (own:=[5]) PassesOwn.never rfl (ZgQ rfl T.b_range (Zca ZcX (Zab 6 (pv 6)) Zaw) (Zab 2 (pv 2))) (ZaF c_nd rfl (Or.inl rfl) (by decide))
 (Zaf (own2:=[5]) (ZjE (own:=[5]) (ZaN c_nd rfl (Or.inl rfl) (Zaz ixd (ZeX (Zac Zb4 (Zac Zb4 (Zac (Zcp (Zhu hr.units) (Zca Zgm (Zab 7 (pv 7)) (Zab 6 (pv 6))) (Zbx (Zac Zaw (Zac (Zca Zgm (Zab 2 (pv 2)) Zaw) Zag)))) (Zac (Zcp (ZdR hr.units) (Zca Zlq (Zab 6 (pv 6)) (Zab 4 (pv 4))) (Zca Zlq (Zab 7 (pv 7)) (Zab 4 (pv 4)))) Zag))))) (ZaK (Zft rfl) rfl T.b_min TF.boot_min (Zac (Zab 3 (pv 3)) (Zac Zaw Zag))))))
 (Zaf (own2:=[5]) (ZbB (own':=[5]) (ZaZ (ZjL) (Zab 3 (pv 3)) Zaw)
 (Zaf (own2:=[5]) (ZjE (own:=[5]) (ZaN c_nd rfl (Or.inl rfl) (Zcp (Zhs hr.units0) (Zav (c__law_tdraw.mono) hG hr rfl (Zac (Zab 0 (pv 0)) (Zac Zaw Zag)) (Zad (Zad Zar))) (Zab 4 (pv 4)))))
 (Zal (own:=[5])))
 Zal)
 (Zaf (own2:=[5]) (ZbB (own':=[5]) (Zcs (Zab 8 (pv 8)))
 (Zaf (own2:=[5]) (ZjF (own:=[5]) (i:=5) (by decide) (Zbx (Zac (Zab 6 (pv 6)) (Zac (Zab 7 (pv 7)) Zag))) (fun _ h=>Ziq (pv 5) h))
 (Zal (own:=[5])))
 Zal)
 (Zal (own:=[5]))))))
 (Zal (own:=[5]))))
 (Zaf (own2:=[5]) (Zax (Zbx (Zac (Zab 2 (pv 2)) (Zac (ZcM (ZcR) rfl T.b_tuple TF.boot_tuple (Zac (Zab 5 (pv 5)) Zag)) Zag))))
 (Zal (own:=[5]))))))))
noncomputable def Zmj:Rho→M Out:=(sSeq (sFor (Za1 (dC (.int 4))) (gOne 2)
 (sSeq (sSet 3 (dFn Zcv (Zaa (dVar 1) (Zaa (dC (.int 8)) dNil))))
 (sSeq (sUnp (Zjd 4 5) (dFn Zb7 (Zaa (dVar 3) dNil)))
 (sSeq (sIf (bOr (asB (dOp ZhJ (dFn Zbv (Zaa (dVar 3) (Zaa (dVar 5) dNil))) (dC (.bl true)))) (bOr (asB (dOp dNeO (ZdE (dVar 5)) (dVar 4))) (asB (dOp dGt (dOp dIx (dFn Zdz (Zaa (dVar 3) dNil)) (dC (.int 0))) (dVar 4)))))
 (sSeq (sRet (dC (.bl false)))
 Zap)
 Zap)
 (sSeq (sFor (Za1 (dC (.int 3))) (gOne 6)
 (sSeq (sSet 7 (dFn ZbN (Zaa (dVar 3) (Zaa (dFn ZcN (Zaa (dVar 1) (Zaa (dOp dIx (dVar 3) (dC (.int 0))) dNil))) dNil))))
 (sSeq (sIf (bOr (asB (dOp ZhJ (dFn Zbv (Zaa (dVar 3) (Zaa (dVar 7) dNil))) (dC (.bl true)))) (asB (dOp dLt (ZdE (dVar 7)) (dVar 4))))
 (sSeq (sRet (dC (.bl false)))
 Zap)
 Zap)
 Zap)))
 (sSeq (sSet 8 (ZaP [none,none] (ZaS (Zay Zgv (Zaa (ZaP [none,some 5] (Za1 (dOp dIx (dVar 3) (dC (.int 0)))) (gOne 0) Za2 (dTup (Zaa (dOp dIx (dVar 1) (dVar 0)) (Zaa (dVar 0) dNil)))) dNil))) (Zjd 0 1) Za2 (dVar 1)))
 (sSeq (sIf (asB (dOp dNeO (ZdE (dFn ZbN (Zaa (dVar 3) (Zaa (dVar 8) dNil)))) (dVar 4)))
 (sSeq (sRet (dC (.bl false)))
 Zap)
 Zap)
 (sSeq (sIf (bOr (asB (dOp ZhJ (dFn Zco (Zaa (dVar 3) (Zaa (dOp dAdd (dVar 4) (dC (.int 1))) (Zaa (dTup (Zaa (dC (.str (Str.ofString "hues"))) (Zaa (dVar 5) dNil))) dNil)))) (dC (.bl true)))) (asB (dOp ZhJ (dFn Zco (Zaa (dVar 3) (Zaa (dVar 4) (Zaa (dTup (Zaa (dC (.str (Str.ofString "hues"))) (Zaa (dVar 5) dNil))) dNil)))) (dC (.bl false)))))
 (sSeq (sRet (dC (.bl false)))
 Zap)
 Zap)
 Zap))))))))
 (sSeq (sRet (dC (.bl true)))
 Zap))
theorem Zjr:FnScope ["script","pen","turn","web","many","hues","again","along","order"] ["script"] (Zak s_law):=⟨rfl,rfl,rfl,by decide +kernel,rfl,by decide +kernel,by decide +kernel⟩
theorem ZqT {cdv:Value} {A:Around} {outer:List Env} {s:Shared} {H:Hp} {E:XK} {L:List (Addr×Str)} (lo:LOk L) (T:Txt mg) (hr:Room 60 (A.deeper (envOfC "law" (Zak s_law) s.heap.objs.size a_f cdv))) (c__law_torder:Cal P w K mg base 2 "_law_torder" 2 true (PenT PenD L) ZcN) (c__law_tweb:Cal P w K mg base 2 "_law_tweb" 2 true (PenT PenD L) Zcv) (c_fewest_hues:Cal P w K mg base 56 "fewest_hues" 1 true (ZaJ L) Zb7) (c_hued_along:Cal P w K mg base 4 "hued_along" 2 true AnyG ZbN) (c_is_hueing:Cal P w K mg base 3 "is_hueing" 2 false AnyG Zbv) (c_is_paper:Cal P w K mg base 60 "is_paper" 3 false (ZaJ L) Zco) (c_most:Cal P w K mg base 55 "most" 1 true (ZaJ L) Zdz) (G:Gh) (hG:(PenT PenD L) G) :
  PDSs (cxOf CX0 P w K mg base ["script","pen","turn","web","many","hues","again","along","order"] "law" (Zak s_law) a_f cdv A outer s H E).nox G [] [] [] false ((Zb5 s_law).drop 1) Zmj:=
 have c_nd:=Zjr.nd
 have hT:ZaJ L G:=PenT.tabs lo hG
 (Zaf (own2:=[]) (Zct (own:=[]) PassesOwn.never rfl (Zcd rfl T.b_range Zaw) (ZaF c_nd rfl (Or.inl rfl) (by decide))
 (Zaf (own2:=[]) (ZaM (ZaN c_nd rfl (Or.inl rfl) (Zav (c__law_tweb.mono) hG hr rfl (Zac (Zab 1 (pv 1)) (Zac Zaw Zag)) (Zad (Zad Zar)))))
 (Zaf (own2:=[]) (ZoD (Zav (c_fewest_hues.mono) hT hr rfl (Zac (Zab 3 (pv 3)) Zag) (Zad Zar)) (ZjG rfl c_nd rfl rfl (Or.inl rfl) (Or.inr rfl) (by decide) (by decide) (hp:=Zfi (ZcU c_nd rfl (Or.inl rfl)) (Zfi (ZcU c_nd rfl (Or.inr rfl)) Zlm))))
 (Zaf (own2:=[]) (ZbB (own':=[]) (PDW.pt (ZeV (ZaZ (Zfk) (Zav (c_is_hueing.mono) trivial hr rfl (Zac (Zab 3 (pv 3)) (Zac (Zab 5 (pv 5)) Zag)) (Zad (Zad Zar))) Zb4) (ZeV (ZaZ (ZdR hr.units) (ZfP rfl rfl T.b_len TF.boot_len rfl T.b_set TF.boot_set (Zab 5 (pv 5))) (Zab 4 (pv 4))) (ZeU (ZaZ (ZjL) (Zaz ixd (Zav (c_most.mono) hT hr rfl (Zac (Zab 3 (pv 3)) Zag) (Zad Zar)) Zaw) (Zab 4 (pv 4)))))))
 (Zaf (own2:=[]) (Zax (PD.weak Zb4))
 (Zal (own:=[])))
 Zal)
 (Zaf (own2:=[]) (Zct (own:=[]) PassesOwn.never rfl (Zcd rfl T.b_range Zaw) (ZaF c_nd rfl (Or.inl rfl) (by decide))
 (Zaf (own2:=[]) (ZaM (ZaN c_nd rfl (Or.inl rfl) (Zav (c_hued_along.mono) trivial hr rfl (Zac (Zab 3 (pv 3)) (Zac (Zav (c__law_torder.mono) hG hr rfl (Zac (Zab 1 (pv 1)) (Zac (Zaz ixd (Zab 3 (pv 3)) Zaw) Zag)) (Zad (Zad Zar))) Zag)) (Zad (Zad Zar)))))
 (Zaf (own2:=[]) (ZbB (own':=[]) (PDW.pt (ZeV (ZaZ (Zfk) (Zav (c_is_hueing.mono) trivial hr rfl (Zac (Zab 3 (pv 3)) (Zac (Zab 7 (pv 7)) Zag)) (Zad (Zad Zar))) Zb4) (ZeU (ZaZ (Zhs hr.units0) (ZfP rfl rfl T.b_len TF.boot_len rfl T.b_set TF.boot_set (Zab 7 (pv 7))) (Zab 4 (pv 4))))))
 (Zaf (own2:=[]) (Zax (PD.weak Zb4))
 (Zal (own:=[])))
 Zal)
 (Zal (own:=[])))))
 (Zaf (own2:=[]) (ZaM (ZcW c_nd rfl (Or.inl rfl) rfl (⟨rfl,rfl,by decide +kernel,rfl,by decide +kernel,rfl,by decide +kernel,by decide +kernel⟩:BlkS _ ["script","pen","turn","web","many","hues","again","along","order"] (Zak s_law).names ["hue","place"] [none,none] _) (Zbw (ZaK Zi5 rfl T.b_sorted TF.boot_sorted (Zac (Zbm rfl (⟨rfl,rfl,by decide +kernel,rfl,by decide +kernel,rfl,by decide +kernel,by decide +kernel⟩:BlkS _ ["script","pen","turn","web","many","hues","again","along","order"] (Zak s_law).names ["place","hues"] [none,some 5] _) (ZcV rfl T.b_range (Zaz ixd (Zab 3 (pv 3)) Zaw)) (fun _ _ _ _ _ _=>(ZaF (show (["place","hues"]:List Str).Nodup by decide +kernel) rfl (Or.inl rfl) rfl)) (fun _ _ _ _ _ _=>ZcT) (fun _ _ _ _ _ _=>(Zbx (Zac (Zaz ixd (Zab 1 (pv 1)) (Zab 0 (pv 0))) (Zac (Zab 0 (pv 0)) Zag))))) Zag))) (fun _ _ _ _ _ _=>(ZjG rfl (show (["hue","place"]:List Str).Nodup by decide +kernel) rfl rfl (Or.inl rfl) (Or.inl rfl) rfl rfl (hp:=Zfi (ZcU (show (["hue","place"]:List Str).Nodup by decide +kernel) rfl (Or.inl rfl)) (Zfi (ZcU (show (["hue","place"]:List Str).Nodup by decide +kernel) rfl (Or.inl rfl)) Zlm)))) (fun _ _ _ _ _ _=>ZcT) (fun _ _ _ _ _ _=>(Zab 1 (pv 1)))))
 (Zaf (own2:=[]) (ZbB (own':=[]) (ZaZ (ZdR hr.units) (ZfP rfl rfl T.b_len TF.boot_len rfl T.b_set TF.boot_set (Zav (c_hued_along.mono) trivial hr rfl (Zac (Zab 3 (pv 3)) (Zac (Zab 8 (pv 8)) Zag)) (Zad (Zad Zar)))) (Zab 4 (pv 4)))
 (Zaf (own2:=[]) (Zax (PD.weak Zb4))
 (Zal (own:=[])))
 Zal)
 (Zaf (own2:=[]) (ZbB (own':=[]) (PDW.pt (ZeV (ZaZ (Zfk) (Zav (c_is_paper.mono) hT hr rfl (Zac (Zab 3 (pv 3)) (Zac (Zca ZcX (Zab 4 (pv 4)) Zaw) (Zac (Zbx (Zac ZfN (Zac (Zab 5 (pv 5)) Zag))) Zag))) (Zad (Zad (Zad Zar)))) Zb4) (ZeU (ZaZ (Zfk) (Zav (c_is_paper.mono) hT hr rfl (Zac (Zab 3 (pv 3)) (Zac (Zab 4 (pv 4)) (Zac (Zbx (Zac ZfN (Zac (Zab 5 (pv 5)) Zag))) Zag))) (Zad (Zad (Zad Zar)))) Zb4))))
 (Zaf (own2:=[]) (Zax (PD.weak Zb4))
 (Zal (own:=[])))
 Zal)
 (Zal (own:=[]))))))))))
 (Zaf (own2:=[]) (Zax (PD.weak Zb4))
 (Zal (own:=[]))))
end K21
namespace K21
open PySem.Spec PyProof.Rows
open PySem L2 TF TQ
open TP
open TP2
open TP3
theorem Zfz:FnScope ["pen","many","found","one","two"] ["pen","many"] (Zak Zei):=⟨rfl,rfl,rfl,by decide +kernel,rfl,by decide +kernel,by decide +kernel⟩
set_option maxHeartbeats 4000000 in
theorem ZiU {P:Program} {w:World} {K:PySem.W.Frag} {mg:Str→Option Value} {base:Heap} {a_f:Addr} {fd_f:FuncData} (F:Fun K "_law_tdraw" "_law_tdraw" Zei a_f fd_f) (T:Txt mg) :
  FnOk P w K mg base CX0 1 a_f fd_f ["pen","many"] (spD 2 true PenD ZbT):=by
 have nd:=Zfz.nd
 refine F.ok Zfz (fun vs H Q E h=>?_) fun cdv A outer s0 H vs Q E hr h=>?_
 ·obtain ⟨G,Hf,ds,pn,d,pn',_,e,_⟩:=h
  exact e
 ·obtain ⟨p,m,rfl,hs⟩:=ZnV (K:=K) (N:=fun _ H'=>Q .non H') h
  have hu:=L2.hu_of hr
  refine ⟨_,ZbP (ZlX (PW.pt (Zm0 (ZeR Zl7 (ZdC Zdw rfl T.b_len TF.boot_len (Za0 (Zb0 hu (pv 0) ZbJ (fun _ _=>rfl)) Zbg)) Zbb (ZeY _)) (Zlh (ZeR Zpx (Zi8 Zgr (Zb0 hu (pv 0) ZbJ (fun _ _=>rfl)) Zbb (fun _ _=>rfl)) (pv 1) (ZeY _)))))
    (Zd9 (Zlj (Zi9 PySem.F.plainAttrs_list PySem.F.slot_list_pop PySem.F.type_list_pop ZjU (Zb0 hu (pv 0) ZbJ (fun _ _=>rfl)) (Za0 Zbb Zbg)))) Zh1)
   (ZbP (ZlX (ZeR Zl7 (ZdC Zdw rfl T.b_len TF.boot_len (Za0 (Zb0 hu (pv 0) ZbJ (fun _ _=>rfl)) Zbg)) Zbb (ZeY _))
    (ZbP (ZdQ (i:=2) nd rfl (Or.inl rfl) (Zbu ZdS (Zi8 Zgr (Zb0 hu (pv 0) ZbJ (fun _ _=>rfl)) Zbb (fun _ _=>rfl)) (pv 1)))
    (ZbP (Zm5 (Zbu Zlr (Zi8 Zgr (Zb0 hu (pv 0) ZbJ (fun _ _=>rfl)) Zbb (fun _ _=>rfl)) (pv 1)) (Zrg (Zb0 hu (pv 0) ZbJ (fun _ _=>rfl)) Zbb Zos))
    (Zd9 (ZeS (pv 2))))) Zh1)
   (ZbP (Zlk hu (pv 0) ZbJ (Zbu ZdT (Zb0 hu (pv 0) ZbJ (fun _ _=>rfl)) Zbb) rfl)
   (ZbP (ZdQ (i:=3) nd rfl (Or.inl rfl) (Zbu ZdS (Zbu ZdT (Zb0 hu (pv 0) ZbJ (fun _ _=>rfl)) (Zbu Zem (Zbu Zem Zbb (Zb0 hu (pv 0) ZbJ (fun _ _=>rfl))) (Zb0 hu (pv 0) ZbJ (fun _ _=>rfl)))) Zbb))
   (ZbP (ZdQ (i:=4) nd rfl (Or.inl rfl) (Zbu ZdS (Zbu ZdT (Zbu ZdT (Zbu Zem (pv 3) (pv 3)) (Zbu Zem Zbb (Zb0 hu (pv 0) ZbJ (fun _ _=>rfl)))) Zbb) Zbb))
   (Zd9 (ZeS (Zbu ZdS (Zbu Zlr (Zbu ZdS (Zbu ZdT (Zbu Zem (pv 4) (pv 4)) (pv 3)) Zbb) Zbb) (pv 1)))))))),hs⟩
theorem ZfJ:FnScope ["script","mixed","cell"] ["script"] (Zak ZdG):=⟨rfl,rfl,rfl,by decide +kernel,rfl,by decide +kernel,by decide +kernel⟩
set_option maxHeartbeats 4000000 in
theorem ZjP {P:Program} {w:World} {K:PySem.W.Frag} {mg:Str→Option Value} {base:Heap} {a_f:Addr} {fd_f:FuncData} (F:Fun K "_law_tpen" "_law_tpen" ZdG a_f fd_f) (T:Txt mg) :
  FnOk P w K mg base CX0 1 a_f fd_f ["script"] (Zps K):=by
 have nd:=ZfJ.nd
 refine F.ok ZfJ (fun vs H Q E h=>?_) fun cdv A outer s0 H vs Q E hr h=>?_
 ·obtain ⟨a,ns,rfl,_⟩:=h
  rfl
 ·obtain ⟨a,ns,rfl,hsq⟩:=id h
  refine ⟨_,ZbP (ZdQ (i:=1) nd rfl (Or.inl rfl) Zbb)
   (ZbP (Zm4 PassesOwn.never rfl (Zh2 (pv 0)) (ZcU (i:=2) nd rfl (Or.inl rfl)) (Zd9 (ZdQ (i:=1) nd rfl (Or.inl rfl) (Zbu ZdS (Zbu ZdT (Zbu ZdT (Zbu Zem (pv 1) Zbb) (Zbu ZdS (pv 2) Zbb)) Zbb) Zbb))))
   (Zd9 (ZeS (Zqa (ZgV ZbJ (pv 1) (ZgV ZbJ Zbb (ZgV ZbJ
    (ZjC (N':=["cell"]) (src:=[none]) rfl (⟨rfl,rfl,by decide +kernel,rfl,by decide +kernel,rfl,by decide +kernel,by decide +kernel⟩:BlkS _ ["script","mixed","cell"] (Zak ZdG).names ["cell"] [none] _) (Zh2 (pv 0)) (fun _ _ _ _ _ _=>ZcU (i:=0) (show (["cell"]:List Str).Nodup by decide +kernel) rfl (Or.inl rfl)) (fun _ _ _ _ _ _=>ZjA (ZeR Zpy (pv 0) (Zbu Zru Zbb Zbb) (ZeY _))) (fun _ _ _ _ _ _=>pv 0)) Zp4))) rfl rfl (by simp) (by decide))))),Zp8 hsq.1 hsq.2.1 hsq.2.2⟩
theorem ZeP:FnScope ["pen","many","left"] ["pen","many"] (Zak Zdb):=⟨rfl,rfl,rfl,by decide +kernel,rfl,by decide +kernel,by decide +kernel⟩
set_option maxHeartbeats 4000000 in
theorem Zh9 {P:Program} {w:World} {K:PySem.W.Frag} {mg:Str→Option Value} {base:Heap} {a_f:Addr} {fd_f:FuncData} (F:Fun K "_law_torder" "_law_torder" Zdb a_f fd_f) (T:Txt mg) (c__law_tdraw:Cal P w K mg base 1 "_law_tdraw" 2 true PenD ZbT) :
  FnOk P w K mg base CX0 2 a_f fd_f ["pen","many"] (spD 2 true PenD ZcN):=by
 have nd:=ZeP.nd
 refine F.ok ZeP (fun vs H Q E h=>?_) fun cdv A outer s0 H vs Q E hr h=>?_
 ·obtain ⟨G,Hf,ds,pn,d,pn',_,e,_⟩:=h
  exact e
 ·obtain ⟨fT,fdT,psT,FT,hmT,hkT,hbT⟩:=c__law_tdraw
  obtain ⟨p,m,rfl,hs⟩:=Zl5 (K:=K) (E':=E0) (N:=fun _ H'=>Q .non H') h
  refine ⟨_,ZbP (ZdQ (i:=2) nd rfl (Or.inr rfl) (ZeB (Zgc rfl) rfl T.b_list TF.boot_list (Za0 (Zir rfl T.b_range (Za0 (pv 1) Zbg)) Zbg)))
   (Zd9 (ZeS (ZjC (te:=tPop K E0) (tt:=Zi6) (N':=["k","left","pen"]) (src:=[none,some 2,some 0]) rfl (⟨rfl,rfl,by decide +kernel,rfl,by decide +kernel,rfl,by decide +kernel,by decide +kernel⟩:BlkS _ ["pen","many","left"] (Zak Zdb).names ["k","left","pen"] [none,some 2,some 0] _) (ZfM rfl T.b_range (Za0 (pv 1) Zbg)) (fun _ _ _ _ _ _=>ZcU (i:=0) (show (["k","left","pen"]:List Str).Nodup by decide +kernel) rfl (Or.inl rfl)) (fun _ _ _ _ _ _=>ZjB)
    (fun _ _ _ _ _ _=>by unfold tPop;exact Zi9 PySem.F.plainAttrs_list PySem.F.slot_list_pop PySem.F.type_list_pop ZjU (pv 1) (Za0 (Zh3 FT hr rfl hmT hkT hbT .nil Zja (Za0 (pv 2) (Za0 (ZdC Zdw rfl T.b_len TF.boot_len (Za0 (pv 1) Zbg)) Zbg))) Zbg))))),hs⟩
end K21
namespace TF
open PySem PySem.Spec PyProof.Rows L2
theorem ux0 {α:Type} (us:List α) (e:us.length=0):us=[]:=by cases us with | nil=>rfl | cons=>cases e
theorem ux1 {α:Type} (us:List α) (e:us.length=1):∃a,us=[a]:=by
 cases us with | nil=>cases e | cons a r=>cases ux0 r (Nat.succ.inj e);exact ⟨a,rfl⟩
theorem ux2 {α:Type} (us:List α) (e:us.length=2):∃a b,us=[a,b]:=by
 cases us with | nil=>cases e | cons a r=>obtain ⟨b,rfl⟩:=ux1 r (Nat.succ.inj e);exact ⟨a,b,rfl⟩
theorem ux3 {α:Type} (us:List α) (e:us.length=3):∃a b c,us=[a,b,c]:=by
 cases us with | nil=>cases e | cons a r=>obtain ⟨b,c,rfl⟩:=ux2 r (Nat.succ.inj e);exact ⟨a,b,c,rfl⟩
theorem ux4 {α:Type} (us:List α) (e:us.length=4):∃a b c d,us=[a,b,c,d]:=by
 cases us with | nil=>cases e | cons a r=>obtain ⟨b,c,d,rfl⟩:=ux3 r (Nat.succ.inj e);exact ⟨a,b,c,d,rfl⟩
theorem ux5 {α:Type} (us:List α) (e:us.length=5):∃a b c d f,us=[a,b,c,d,f]:=by
 cases us with | nil=>cases e | cons a r=>obtain ⟨b,c,d,f,rfl⟩:=ux4 r (Nat.succ.inj e);exact ⟨a,b,c,d,f,rfl⟩
theorem ux6 {α:Type} (us:List α) (e:us.length=6):∃a b c d f g,us=[a,b,c,d,f,g]:=by
 cases us with | nil=>cases e | cons a r=>obtain ⟨b,c,d,f,g,rfl⟩:=ux5 r (Nat.succ.inj e);exact ⟨a,b,c,d,f,g,rfl⟩
noncomputable def IsC (K:PySem.W.Frag) (x:Str) (st:Stmt) (c:Addr):Prop:=∃(f:Addr) (fd:FuncData),PySem.W.nsIn K mainGlobals x=some (some (.ref f))∧Fun K x x st f fd∧fd.code=.ref c
noncomputable def Is (K:PySem.W.Frag) (x:Str) (st:Stmt):Prop:=∃c,IsC K x st c
noncomputable def fnO (x:Str) (st:Stmt) (pm:Value) (c:Addr):Obj:=⟨.type "function",none,.func (PySem.W.fnOf x x (Zcu st) (Zb5 st) (Zak st) .none .none .none pm none (.ref c) .none),#[]⟩
noncomputable def cdO (x:Str) (t:Nat) (ln ac:Int) (a:Addr) (tx k:Nat) (v:Bool):Obj:=
 ⟨.type "code",none,.fields #[.str x t,.str x (t+1),.str "/claim/cut.py" (t+2),.int ln 0,.int ac 0,.int 0 0,.int 0 0,.int 3 0,.ref a,.bool true,.int tx 0,.ref (a+1),.none,
  (match v with | true=>.ref (a+2) | false=>.none),(match v with | true=>.ref (a+3) | false=>.none),.ref (match v with | true=>a+4 | false=>a+2),.int k 0,.int ln 0,.str "/claim/cut.py" (k+1)],#[]⟩
structure DRow where
 x:Str
 i:Nat
 t:Nat
 ln:Int
 ac:Int
 a:Addr
 k:Nat
 v:Bool
 pm:Str
 pt:Nat
noncomputable def DRow.c (r:DRow):Addr:=match r.v with | true=>r.a+5 | false=>r.a+3
noncomputable def dE (P:Params) (x:Str) (t:Nat) (v:Value):DictEntry:=⟨PyData.keyHash P x,.str x t,v⟩
noncomputable abbrev nE (x:Str) (t:Nat) (a:Addr):Str×Nat×Addr:=(x,t,a)
noncomputable abbrev dR (x:Str) (i t:Nat) (ln ac:Int) (a:Addr) (k:Nat) (v:Bool) (pm:Str) (pt:Nat):DRow:=⟨x,i,t,ln,ac,a,k,v,pm,pt⟩
noncomputable def dRs (P:Params) (l:List (Str×Nat×Addr)):List DictEntry:=l.map fun e=>dE P e.1 e.2.1 (.ref e.2.2)
noncomputable def Zsr (top:Nat→Stmt) (tx:Nat) (m:List DictEntry) (n:Nat) (rs:List DRow):PySem.W.Frag:=
 (mainNs,⟨.type "dict",none,.dict m.toArray n,#[]⟩)::rs.flatMap fun r=>[(r.c,cdO r.x r.t r.ln r.ac r.a tx r.k r.v),(r.c+1,fnO r.x (top r.i) (.str r.pm r.pt) r.c)]
theorem is_mk {K:PySem.W.Frag} {x:Str} {st:Stmt} {pm:Value} {c f:Addr} (a:PySem.W.nsIn K mainGlobals x=some (some (.ref f))) (l:K.lookup f=some (fnO x st pm c)) (cd:PySem.W.codeIn K (.ref c) x=true):IsC K x st c:=
 ⟨f,_,a,ZrW l cd (by unfold PySem.W.keepIn;dsimp only;rw [l];rfl),rfl⟩
theorem is_mkx {K:PySem.W.Frag} {x:Str} {st:Stmt} {pm:Value} {c f:Addr} (a:PySem.W.nsIn K mainGlobals x=some (some (.ref f))) (l:K.lookup f=some (fnO x st pm c)) (cd:PySem.W.codeIn K (.ref c) x=true):Is K x st:=⟨c,is_mk a l cd⟩
noncomputable def ZrZ:Stmt→Pos
 | .FunctionDef _ _ _ _ _ _ _ _ _ p=>p
 | _=>⟨0,0,0,0⟩
noncomputable abbrev Znx (st:Stmt):DefRec:=⟨"law",Zcu st,Zb5 st,Zak st,ZrZ st⟩
theorem head_of {l:PySem.W.OpenLaw} {q:Program} {K:Params→PySem.W.Frag} {as:List Addr} {e:∀P,as=(K P).map (·.1)} {N:Nat} {st:Stmt} (said:l.wellSaid=true)
  (left:PySem.W.LeftO l.prog q [] (fun s=>PySem.W.xlAt q [] s&&PySem.W.recOk l.row.records s) (PySem.W.kHook K as e).obs (PySem.W.kHook K as e).val N)
  (hdef:PySem.W.defOf q l.row.name=some (Znx st,[])) (hp:l.row.prog.theDef l.row.name=some (Zcu st,Zb5 st,Zak st))
  (hk:PySem.W.kwWritten? (Zcu st).kwonlyargs (Zcu st).kw_defaults=some [])
  (ok:(PySem.W.chainsOk q&&PySem.W.opensWell l.row.prog&&(PySem.W.frees l.row.toRowW&&l.row.within.isEmpty))=true) (hb:l.row.prog.bare) (hw:l.row.toRowW.promised) (hwr:(!l.row.writes||l.row.records.isEmpty)=true)
  (call:PySem.W.WalkO q [] (PySem.W.XL q []) (PySem.W.kHook K as e).says l.row.toRowW (Znx st) [] fun f vs=>PySem.call f vs):l.Holds:=
 PySem.W.holds_law said fun sd=>PySem.W.holds_open left (PySem.W.kHook K as e).of (PySem.W.kHook K as e).keeps (fun s z=>PySem.W.xl_of s (Bool.and_eq_true_iff.mp z).1) PySem.W.XL.keeps hdef hp hk (fun s z=>PySem.W.recFacts_of (Bool.and_eq_true_iff.mp z).2) hwr sd ok hb hw call
end TF
namespace TP2
open PySem L2 TF TP
theorem ZqN (n way by' i j:Nat) (hb:0<by') (hway:way<9) (ρ0 ρ1:D) (t:Option D) (o8:Option D) (s:Pn):∃b,(dOp dIx (dLst (Zaa (dC (.bl false)) (Zaa (dC (.bl true)) (Zaa (dOp dIn (dOp dSub (dVar 7) (dVar 6)) (dTup (Zaa (dC (.int 1)) (Zaa (dOp dSub (dVar 2) (dC (.int 1))) dNil)))) (Zaa (dOp dNeO (dOp dMod (dVar 6) (dVar 4)) (dOp dMod (dVar 7) (dVar 4))) dNil))))) (Zay Zd8 (Zaa (dVar 3) (Zaa (dC (.int 3)) dNil)))) [some ρ0,some ρ1,some (.int (n:Int)),some (.int (way:Int)),some (.int (by':Int)),t,some (.int (i:Int)),some (.int (j:Int)),o8] s=some (.bl b,s):=by
 have e3:∃b,dIn (.int ((j:Int)-i)) (.tup [.int 1,.int ((n:Int)-1)])=some (.bl b):=by
  refine ⟨inD (.int ((j:Int)-i)) [.int 1,.int ((n:Int)-1)],?_⟩
  have h:okIn (.int ((j:Int)-i)) [.int 1,.int ((n:Int)-1)]=true:=by simp [okIn,Zai,ZaU,dep,deps]
  simp only [dIn,dInB,h,if_true,Option.map]
 obtain ⟨b3,e3⟩:=e3
 have hm:∀z:Int,dMod (.int z) (.int (by':Int))=some (.int (z % by')):=fun z=>by
  show (if (decide (0<(by':Int)))=true then _ else _)=_
  rw [if_pos (by rw [decide_eq_true_eq];omega)]
 have hl:TF.LT (fun d=>∃b,d=.bl b) 4 (.lst [.bl false,.bl true,.bl b3,.bl (!((i:Int) % by'==(j:Int) % by'))]):=.cons ⟨_,rfl⟩ (.cons ⟨_,rfl⟩ (.cons ⟨_,rfl⟩ (.cons ⟨_,rfl⟩ (LT.nil _))))
 obtain ⟨x,ex,b,rfl⟩:=hl.pick (r:=min way 3) (by omega)
 refine ⟨b,Zam (ZfY (Zae rfl (Zae rfl (Zae (Zam (d:=.int ((j:Int)-i)) (e:=.tup [.int 1,.int ((n:Int)-1)]) (Zam (d:=.int (j:Int)) (e:=.int (i:Int)) rfl rfl rfl) (Zk8 rfl (Zam (d:=.int (n:Int)) (e:=.int 1) rfl rfl rfl)) e3) (Zae (Zam (Zam (d:=.int (i:Int)) (e:=.int (by':Int)) rfl rfl (hm _)) (Zam (d:=.int (j:Int)) (e:=.int (by':Int)) rfl rfl (hm _)) (nei _ _)) rfl)))) (by show 4≤sizeLine;decide)) (ZaO (c:=.int ((min way 3:Nat):Int)) (Zae rfl (Zae rfl rfl)) ?_) ex⟩
 show some (D.int (if (3:Int)<(way:Int) then 3 else (way:Int)))=_
 congr 2
 split <;> omega
set_option maxHeartbeats 1000000 in
theorem ZpO {T:Nat} {s:Pn} (ok:okD T s) (hT:T<900000000) (most:Nat) (hm:most≤24):Ok (Zcv [.pen,.int (most:Int)]) s fun d s'=>okD (T+1000) s'∧∃n ties,d=webD n ties∧n≤most∧IsWeb n ties:=by
 refine Ok.runB rfl ?_
 refine Ok.seq (.sset (.drawD (m:=most+1) ok (by omega) (Zae rfl (Zae (Zam (d:=.int (most:Int)) (e:=.int 1) rfl rfl rfl) rfl)) (by omega) (by omega) fun n s1 hn ok1=>?_))
 refine Ok.seq (.sset (.drawD (m:=9) ok1 (by omega) (Zae rfl (Zae rfl rfl)) (by omega) (by omega) fun way s2 hw ok2=>?_))
 refine Ok.seq (.sset (.op (.eq (a:=.int 1) rfl (.drawD (m:=5) ok2 (by omega) (Zae rfl (Zae rfl rfl)) (by omega) (by omega) fun r s3 hr ok3=>⟨.int ((1+r:Nat):Int),by simp [dAdd],?_⟩))))
 generalize hby:1+r=by'
 refine Ok.seq (.sown (.eq (a:=.lst []) rfl ⟨rfl,?_⟩))
 refine Ok.seq (.sfor (fun i ρ s'=>okD (T+3+i*24) s'∧∃(ties:List (Nat×Nat)) (o6 o7 o8:Option D),ties.Sublist (preP n i)∧ρ=[some .pen,some (.int (most:Int)),some (.int (n:Int)),some (.int (way:Int)),some (.int (by':Int)),some (.lst (ties.map ZaH)),o6,o7,o8]) (.eq (Zbz rfl (by omega)) ⟨⟨ok3.mono (by omega),[],none,none,none,List.nil_sublist _,rfl⟩,fun i d ρ s' hd hI=>?_,fun ρ' s' hI=>?_⟩))
 ·obtain ⟨ok5,ties,o6,o7,o8,hsub,rfl⟩:=hI
  obtain ⟨hi,rfl⟩:=ZdM hd
  refine ⟨_,rfl,?_⟩
  refine Ok.seq (.sfor (fun j ρ s'=>okD (T+3+i*24+j) s'∧∃(ties:List (Nat×Nat)) (o7 o8:Option D),ties.Sublist (preP n i++(List.range j).map fun k=>(i,i+1+k))∧ρ=[some .pen,some (.int (most:Int)),some (.int (n:Int)),some (.int (way:Int)),some (.int (by':Int)),some (.lst (ties.map ZaH)),some (.int (i:Int)),o7,o8]) (.eq (ZiI (a:=i+1) (n:=n) (Zam (d:=.int (i:Int)) (e:=.int 1) (c:=.int ((i+1:Nat):Int)) rfl rfl (by simp [dAdd])) rfl (by omega) (by omega)) ⟨⟨ok5,ties,o7,o8,by simpa using hsub,rfl⟩,fun j d ρ s' hd hJ=>?_,fun ρ' s' hJ=>?_⟩))
  ·obtain ⟨ok6,ties,o7,o8,hsub,rfl⟩:=hJ
   obtain ⟨hj,rfl⟩:=Zd7 hd
   refine ⟨_,rfl,?_⟩
   have fin:∀b s7,okD (T+3+i*24+j+1) s7→Ok (sSeq (sIf (asB (dVar 8)) (sSeq (sApp 5 (fun ρ=>(dTup (Zaa (dVar 6) (Zaa (dVar 7) dNil))) (hide [5] ρ))) Zap) Zap) Zap [some .pen,some (.int (most:Int)),some (.int (n:Int)),some (.int (way:Int)),some (.int (by':Int)),some (.lst (ties.map ZaH)),some (.int (i:Int)),some (.int ((i+1+j:Nat):Int)),some (.bl b)]) s7
     fun o s'=>∃ρ',o=.nx ρ'∧okD (T+3+i*24+(j+1)) s'∧∃(ties:List (Nat×Nat)) (o7 o8:Option D),ties.Sublist (preP n i++(List.range (j+1)).map fun k=>(i,i+1+k))∧ρ'=[some .pen,some (.int (most:Int)),some (.int (n:Int)),some (.int (way:Int)),some (.int (by':Int)),some (.lst (ties.map ZaH)),some (.int (i:Int)),o7,o8]:=by
    intro b s7 ok7
    refine Ok.seq (.sif (.eq (ZaQ rfl) ?_))
    cases b with
    | true=>
     refine .seq (.sapp (ds:=ties.map ZaH) rfl (ZpU hsub (by omega) hi (by omega)) (.eq (ZbR (Zae rfl (Zae rfl rfl)) two_le) ?_))
     refine .next (.next ⟨_,rfl,ok7,ties ++ [(i,i+1+j)],some (.int ((i+1+j:Nat):Int)),some (.bl true),?_,?_⟩)
     ·rw [List.range_succ,List.map_append,←List.append_assoc]
      exact List.Sublist.append hsub (List.Sublist.refl _)
     ·rw [List.map_append];rfl
    | false=>
     refine .next (.next ⟨_,rfl,ok7,ties,some (.int ((i+1+j:Nat):Int)),some (.bl false),?_,rfl⟩)
     rw [List.range_succ,List.map_append,←List.append_assoc]
     exact hsub.trans (List.sublist_append_left _ _)
   obtain ⟨b,eb⟩:=ZqN n way by' i (i+1+j) (by omega) hw .pen (.int (most:Int)) none o8 s'
   refine Ok.seq (.sset (.eq eb ?_))
   refine Ok.seq (.sif (.eq (ZaQ (Zam (d:=.int (way:Int)) (e:=.int 3) rfl rfl rfl)) ?_))
   by_cases h3:(3:Int)<(way:Int)
   ·rw [if_pos (decide_eq_true h3)]
    have hjn:i*24≤24*24:=Nat.mul_le_mul_right 24 (by omega)
    refine .seq (.sset (.op (.drawD (m:=6) ok6 (by omega) (Zae rfl (Zae rfl rfl)) (by omega) (by omega) fun v s7 hv ok7=>.eq (a:=.int (by':Int)) rfl ⟨_,rfl,?_⟩)))
    exact .next (fin _ s7 ok7)
   ·rw [if_neg (by simp;omega)]
    exact .next (fin b s' (ok6.mono (by omega)))
  ·obtain ⟨ok6,ties,o7',o8',hsub,rfl⟩:=hJ
   rw [Za8] at hsub ok6
   refine Ok.next ⟨_,rfl,ok6.mono (by rw [Nat.add_mul];omega),ties,some (.int (i:Int)),o7',o8',?_,rfl⟩
   rw [ZfK]
   exact hsub
 ·obtain ⟨ok5,ties,o6,o7,o8,hsub,rfl⟩:=hI
  rw [Za8] at hsub ok5
  have hjn:n*24≤24*24:=Nat.mul_le_mul_right 24 (by omega)
  exact Ok.seq (.sret (.eq (ZbR (Zae rfl (Zae (ZaO (Zae rfl rfl) rfl) rfl)) two_le) ⟨ok5.mono (by omega),n,ties,rfl,by omega,hsub⟩))
end TP2
namespace TP2
open PySem L2 TF TP
noncomputable abbrev nD (i:Nat):D:=.int (i:Int)
noncomputable def tupN (k:List Nat):D:=.tup (k.map nD)
noncomputable def okK (ties:List (Nat×Nat)) (i:Nat) (k:List Nat):Bool:=k.all fun o=>decide ((o,i)∈ties)
noncomputable def kn (ties:List (Nat×Nat)):Nat→List (List Nat)
 | 0=>[[]]
 | i+1=>kn ties i++((kn ties i).filter (okK ties i)).map (· ++ [i])
theorem Zr1 (p:Nat×Nat) (ties:List (Nat×Nat)):dIn (ZaH p) (.dt (kvT [] ties))=some (.bl (decide (p∈ties))):=by
 have e:dInB (ZaH p) (.dt (kvT [] ties))=some (decide (p∈ties)):=by
  show (Zbp [.int (p.1:Int),.int (p.2:Int)]).map (fun k=>(valV (kvT [] ties) k).isSome)=_
  show some ((valV (kvT [] ties) (keyP p)).isSome)=_
  rw [Zj3]
  simp [valV]
 unfold dIn
 rw [e];rfl
theorem ZiQ {α:Type} (l:List α) (p:α→Bool):dAll [.lst (l.map fun x=>D.bl (p x))]=some (.bl (l.all p)):=by
 show (Za7 _).map _=_
 rw [show l.map (fun x=>D.bl (p x))=(l.map p).map D.bl by rw [List.map_map];rfl,Zk5]
 show some (D.bl _)=some (D.bl _)
 rw [List.all_map];rfl
theorem ZpP (k:List Nat) (i:Nat) (h:k.length≤1000):dAdd (tupN k) (.tup [nD i])=some (tupN (k ++ [i])):=by
 unfold tupN
 show (if (k.map nD).length + [nD i].length≤sizeLine then some (D.tup (k.map nD ++ [nD i])) else none)=_
 rw [if_pos (by rw [List.length_map,ZaA];simp;omega),List.map_append]
 rfl
noncomputable def ZaR (n:Nat) (ties:List (Nat×Nat)) (p:Nat):List Nat:=(List.range n).filter fun o=>tied ties p o
noncomputable def Zbd (n:Nat) (ties:List (Nat×Nat)):D:=.lst ((List.range n).map fun p=>.lst ((ZaR n ties p).map nD))
theorem Zr2 (a b:Nat):dEq (nD a) (nD b)=decide (a=b):=by
 show ((a:Int)==(b:Int))=_
 rw [Bool.eq_iff_iff,beq_iff_eq,decide_eq_true_eq]
 constructor <;> intro h <;> omega
theorem Zo6 (o:Nat) (l:List Nat):inD (nD o) (l.map nD)=decide (o∈l):=by
 unfold inD
 induction l with
 | nil=>simp
 | cons t ts ih=>
  rw [List.map_cons,List.any_cons,ih,Zr2]
  by_cases h:t=o
  ·subst h;simp
  ·have:¬o=t:=fun z=>h z.symm
   simp [h,this]
theorem Zho (l:List Nat):ZaU (l.map nD)=true:=by
 induction l with
 | nil=>simp [ZaU]
 | cons a l ih=>simp [ZaU,Zai,ih]
theorem ZlD (l:List Nat):deps (l.map nD)=0:=by
 induction l with
 | nil=>simp [deps]
 | cons a l ih=>simp [deps,dep,ih]
theorem Zpi (o:Nat) (l:List Nat):dIn (nD o) (.lst (l.map nD))=some (.bl (decide (o∈l))):=by
 have h:okIn (nD o) (l.map nD)=true:=by simp [okIn,Zai,Zho,dep,ZlD]
 simp only [dIn,dInB,h,if_true,Option.map,Zo6]
end TP2
namespace TP2
open PySem L2 TF TP
noncomputable def mxN (l:List Nat):Nat:=l.foldl max 0
theorem Zkg (l:List Nat):∀a,a≤l.foldl max a∧∀x∈l,x≤l.foldl max a:=by
 induction l with
 | nil=>intro a;simp
 | cons b l ih=>
  intro a
  obtain ⟨h1,h2⟩:=ih (max a b)
  refine ⟨?_,fun x hx=>?_⟩
  ·show a≤l.foldl max (max a b);omega
  ·show x≤l.foldl max (max a b)
   rcases List.mem_cons.mp hx with rfl | hx
   ·omega
   ·exact h2 x hx
theorem Zkf (l:List Nat) (b:Nat) (h:∀x∈l,x≤b):∀a,a≤b→l.foldl max a≤b:=by
 induction l with
 | nil=>intro a ha;exact ha
 | cons c l ih=>
  intro a ha
  exact ih (fun x hx=>h x (by simp [hx])) (max a c) (by have:=h c (by simp);omega)
theorem ZjZ (l:List Nat):∀a:Nat,maxI (a:Int) (l.map fun (i:Nat)=>(i:Int))=((l.foldl max a:Nat):Int):=by
 induction l with
 | nil=>intro a;rfl
 | cons b l ih=>
  intro a
  show maxI (max (a:Int) (b:Int)) (l.map fun (i:Nat)=>(i:Int))=_
  rw [show max (a:Int) (b:Int)=((max a b:Nat):Int) by omega,ih]
  rfl
theorem ZdK (l:List Nat):Zat (l.map nD)=some (l.map fun (i:Nat)=>(i:Int)):=by
 have:=Zdr (l.map fun (i:Nat)=>(i:Int))
 rw [List.map_map] at this
 exact this
end TP2
namespace TP2
open PySem L2 TF TP
theorem ZiA {α:Type} (q:α→Bool):∀l:List α,l.length=(l.filter q).length+(l.filter fun x=>!q x).length
 | []=>rfl
 | a::l=>by
  have:=ZiA q l
  cases h:q a with
  | true=>simp [List.filter_cons,h];omega
  | false=>simp [List.filter_cons,h];omega
end TP2
namespace TP2
open PySem L2 TF TP
noncomputable def RT (ties:List (Nat×Nat)) (a b:Nat):Prop:=a<b∧(a,b)∈ties
theorem ZfV {ties:List (Nat×Nat)}:∀{n:Nat} {k:List Nat},k∈kn ties n↔k.Pairwise (RT ties)∧∀o∈k,o<n
 | 0,k=>by
  constructor
  ·intro h
   have:k=[]:=by simpa [kn] using h
   subst this
   exact ⟨.nil,by simp⟩
  ·rintro ⟨_,h⟩
   cases k with
   | nil=>simp [kn]
   | cons a k=>exact absurd (h a (by simp)) (by omega)
 | n+1,k=>by
  rw [kn,List.mem_append]
  constructor
  ·rintro (h | h)
   ·have:=ZfV.mp h
    exact ⟨this.1,fun o ho=>Nat.lt_succ_of_lt (this.2 o ho)⟩
   ·obtain ⟨q,hq,rfl⟩:=List.mem_map.mp h
    obtain ⟨hq1,hq2⟩:=List.mem_filter.mp hq
    have:=ZfV.mp hq1
    unfold okK at hq2
    rw [List.all_eq_true] at hq2
    refine ⟨List.pairwise_append.mpr ⟨this.1,by simp,fun a ha b hb=>?_⟩,fun o ho=>?_⟩
    ·rw [List.mem_singleton.mp hb]
     exact ⟨this.2 a ha,by simpa using hq2 a ha⟩
    ·rcases List.mem_append.mp ho with ho | ho
     ·exact Nat.lt_succ_of_lt (this.2 o ho)
     ·rw [List.mem_singleton.mp ho];omega
  ·rintro ⟨h1,h2⟩
   by_cases hn:n∈k
   ·right
    obtain ⟨a,b,rfl⟩:=List.append_of_mem hn
    have hp:=List.pairwise_append.mp h1
    have hb:b=[]:=by
     cases b with
     | nil=>rfl
     | cons y b=>
      have r1:=(List.pairwise_cons.mp hp.2.1).1 y (by simp)
      have:=h2 y (by simp)
      have:=r1.1
      omega
    subst hb
    have ha:∀o∈a,RT ties o n:=fun o ho=>hp.2.2 o ho n (by simp)
    refine List.mem_map.mpr ⟨a,List.mem_filter.mpr ⟨ZfV.mpr ⟨hp.1,fun o ho=>(ha o ho).1⟩,?_⟩,rfl⟩
    unfold okK
    rw [List.all_eq_true]
    exact fun o ho=>by simpa using (ha o ho).2
   ·left
    refine ZfV.mpr ⟨h1,fun o ho=>?_⟩
    have:=h2 o ho
    have:o≠n:=fun z=>hn (z▸ho)
    omega
theorem ZmY {R:Nat→Nat→Prop} {k:List Nat} (hr:k.Pairwise (· < ·)) (h:k.Pairwise R) {a b:Nat} (ha:a∈k) (hb:b∈k) (hab:a<b):R a b:=by
 obtain ⟨i,hi,rfl⟩:=List.getElem_of_mem ha
 obtain ⟨j,hj,rfl⟩:=List.getElem_of_mem hb
 have p1:=List.pairwise_iff_getElem.mp hr
 have p2:=List.pairwise_iff_getElem.mp h
 rcases Nat.lt_trichotomy i j with z | z | z
 ·exact p2 i j hi hj z
 ·subst z;exact absurd hab (Nat.lt_irrefl _)
 ·have:=p1 j i hj hi z;omega
end TP2
namespace TP3
open PySem L2 TF TP TS
open TP2
noncomputable def ZaB (k:List Nat):List Int:=k.map fun (x:Nat)=>(x:Int)
end TP3
namespace TP3
open PySem L2 TF TP TS
open TP2
theorem Zgo {n:Nat} {ties:List (Nat×Nat)} {k:List Nat}:k∈kn ties n↔k.Pairwise (· < ·)∧(∀o∈k,o<n)∧∀a∈k,∀b∈k,a≠b→tied ties a b=true:=by
 rw [ZfV]
 constructor
 ·rintro ⟨h1,h2⟩
  have hr:k.Pairwise (· < ·):=h1.imp fun h=>h.1
  refine ⟨hr,h2,fun a ha b hb hab=>?_⟩
  by_cases hlt:a<b
  ·rw [Zgi hlt];simpa using (ZmY hr h1 ha hb hlt).2
  ·have hlt:b<a:=by omega
   rw [ZcG,Zgi hlt];simpa using (ZmY hr h1 hb ha hlt).2
 ·rintro ⟨hr,h2,h3⟩
  refine ⟨?_,h2⟩
  refine List.Pairwise.imp_of_mem (fun {a b} ha hb hab=>?_) hr
  refine ⟨hab,?_⟩
  have:=h3 a ha b hb (by omega)
  rw [Zgi hab] at this
  simpa using this
theorem Zd4 (n:Nat):(List.range n).Pairwise (· < ·):=List.pairwise_lt_range
theorem ZlV {k:List Nat} (h:k.Pairwise (· < ·)):k.Nodup:=h.imp fun h=>by omega
section
variable {m n:Nat} {f:Nat→Nat} {tm tn:List (Nat×Nat)}
theorem ZbK {α:Type} [BEq α] [LawfulBEq α]:∀{a b:List α},a.Nodup→(∀x∈a,x∈b)→a.length≤b.length
 | [],_,_,_=>by simp
 | x::a,b,nd,h=>by
  have nd':=List.nodup_cons.mp nd
  have hx:=h x (by simp)
  have ih:=ZbK (a:=a) (b:=b.erase x) nd'.2 fun y hy=>(List.mem_erase_of_ne (fun (z:y=x)=>nd'.1 (by rw [←z];exact hy))).mpr (h y (by simp [hy]))
  have:=List.length_erase_of_mem hx
  have:0<b.length:=List.length_pos_of_mem hx
  simp only [List.length_cons];omega
theorem Zqy {l:List Nat} (h:∃r,l=0::r):mxN l∈l:=by
 have key:∀(l:List Nat) (a:Nat),l.foldl max a=a∨l.foldl max a∈l:=by
  intro l
  induction l with
  | nil=>intro a;exact .inl rfl
  | cons b l ih=>
   intro a
   show l.foldl max (max a b)=a∨l.foldl max (max a b)∈b::l
   rcases ih (max a b) with e | e
   ·rcases Nat.le_total a b with h | h
    ·right;rw [e,Nat.max_eq_right h];simp
    ·left;rw [e,Nat.max_eq_left h]
   ·right;exact List.mem_cons_of_mem _ e
 obtain ⟨r,rfl⟩:=h
 rcases key (0::r) 0 with e | e
 ·unfold mxN;rw [e];simp
 ·exact e
theorem ZjT {l:List Nat} {x:Nat} (h:x∈l):x≤mxN l:=(Zkg l 0).2 x h
end
end TP3
namespace TP3
open PySem L2 TF TP TS
open TP2
theorem Zge (ties:List (Nat×Nat)) (a b:Nat) (s:Pn):Zbj [.dt (kvT [] ties),.int a,.int b] s=some (.bl (tied ties a b),s):=by
 simp [Zbj,ZhF,runB,sSeq,sRet,Zap,dOp,Zay,Zaa,dNil,dTup,dVar,Zan,mret,mOf,Zd8,Zgx,two_le,Zma,Zr1,tied]
theorem Ze5 {as:List Nat} {j:Nat} (hj:j<as.length):atI (as.map nD) (j:Int)=some (nD (as.getD j 0)):=by
 refine Zb6 ?_
 rw [List.getElem?_map,List.getD_eq_getElem?_getD,List.getElem?_eq_getElem hj]
 rfl
theorem Znv (ps:List Nat):dLen [.lst (ps.map nD)]=some (nD ps.length):=by
 show some (D.int ((ps.map nD).length:Nat))=_
 rw [List.length_map]
end TP3
namespace TP3
open PySem L2 TF TP TS
open TP2
theorem ZqR {d:D} (h:Zai d=true) (hd:dep d≤60):dEqO d d=some (.bl true):=by
 unfold dEqO okEq
 rw [if_pos (by simp [h,hd]),Zg6 d h]
end TP3
namespace TP3
open PySem L2 TF TP TS
open TP2
noncomputable def ZeG (l:List Nat):List Nat:=(List.range (l.length+1)).filter fun h=>!decide (h∈l)
theorem ZlA (l:List Nat):ZeG l≠[]:=fun h=>by
 have:=ZbK (a:=List.range (l.length+1)) (b:=l) List.nodup_range fun x hx=>by
  by_cases m:x∈l
  ·exact m
  ·have:x∈ZeG l:=List.mem_filter.mpr ⟨hx,by simpa using m⟩
   rw [h] at this;simp at this
 rw [List.length_range] at this
 omega
noncomputable def mex (l:List Nat):Nat:=(ZeG l).headD 0
theorem Zeo (l:List Nat):mex l∉l∧∀x<mex l,x∈l:=by
 have hne:=ZlA l
 cases e:ZeG l with
 | nil=>exact absurd e hne
 | cons m r=>
  have hm:mex l=m:=by unfold mex;rw [e];rfl
  have h1:m∈ZeG l:=by rw [e];simp
  have h2:=List.mem_filter.mp h1
  rw [hm]
  refine ⟨by simpa using h2.2,fun x hx=>?_⟩
  by_cases mx:x∈l
  ·exact mx
  ·have hr:=List.mem_range.mp h2.1
   have h3:x∈ZeG l:=List.mem_filter.mpr ⟨List.mem_range.mpr (by omega),by simpa using mx⟩
   have h4:(ZeG l).Pairwise (· < ·):=(Zd4 _).sublist List.filter_sublist
   rw [e] at h3 h4
   rcases List.mem_cons.mp h3 with z | z
   ·omega
   ·have:=(List.pairwise_cons.mp h4).1 x z
    omega
theorem ZoY {l:List Nat} {m:Nat} (h1:m∉l) (h2:∀x<m,x∈l):m=mex l:=by
 obtain ⟨g1,g2⟩:=Zeo l
 rcases Nat.lt_trichotomy m (mex l) with h | h | h
 ·exact absurd (g2 m h) h1
 ·exact h
 ·exact absurd (h2 _ h) g1
theorem Zix {l l':List Nat} (h:∀x,x∈l↔x∈l'):mex l=mex l':=by
 obtain ⟨g1,g2⟩:=Zeo l
 exact ZoY (fun z=>g1 ((h _).mpr z)) fun x hx=>(h x).mp (g2 x hx)
theorem ZrD (l:List Nat):mex l≤l.length:=by
 have h:=ZbK (a:=List.range (mex l)) (b:=l) List.nodup_range fun x hx=>(Zeo l).2 x (List.mem_range.mp hx)
 rw [List.length_range] at h;exact h
theorem Znq {n:Int} {r:List Int} (h:∀a∈r,n≤a):minI n r=n:=(ZjW (by simp) fun a ha=>by
 rcases List.mem_cons.mp ha with rfl | ha
 ·exact Int.le_refl _
 ·exact h a ha).symm
theorem ZoW {l:List Nat} (hr:l.Pairwise (· < ·)) (hn:l≠[]):Zmt [.lst (l.map nD)]=some (nD (l.headD 0)):=by
 cases l with
 | nil=>exact absurd rfl hn
 | cons m r=>
  have e:Zat ((m::r).map nD)=some ((m:Int)::r.map fun (i:Nat)=>(i:Int)):=ZdK (m::r)
  show (match Zat ((m::r).map nD) with | some (n::r)=>some (D.int (minI n r)) | _=>none)=_
  rw [e]
  show some (D.int (minI (m:Int) (r.map fun (i:Nat)=>(i:Int))))=_
  rw [Znq fun a ha=>?_]
  ·rfl
  ·obtain ⟨x,hx,rfl⟩:=List.mem_map.mp ha
   have:=(List.pairwise_cons.mp hr).1 x hx
   omega
theorem ZqD (l:List D):dLen [.lst l]=some (nD l.length):=rfl
theorem ZeK (o:Nat) (l:List Nat):Zck (nD o) (.lst (l.map nD))=some (.bl (!decide (o∈l))):=by
 have h:=Zpi o l
 unfold dIn at h
 unfold Zck
 cases e:dInB (nD o) (.lst (l.map nD)) with
 | none=>rw [e] at h;cases h
 | some b=>
  rw [e] at h
  have h:=Option.some.inj h
  have h:=D.bl.inj h
  subst h
  rfl
theorem ZiY (l:List Nat) (hl:l.length≤1000) (s:Pn):Zb2 [.lst (l.map nD)] s=some (nD (mex l),s):=by
 have hc:=Zbf (src:=[none,some 0]) (fi:=Za1 (dOp dAdd (Zay dLen (Zaa (dVar 0) dNil)) (dC (.int 1)))) (τ:=gOne 0) (ft:=asB (dOp Zck (dVar 0) (dVar 1))) (fe:=dVar 0) (ρ:=[some (.lst (l.map nD))]) (s:=s) (ds:=ZaI 0 (l.length+1)) (fun d=>[some d,some (.lst (l.map nD))]) (fun d=>!decide (nat0 d∈l)) (fun d=>d)
  (Zbz (n:=l.length+1) (Zam (d:=nD l.length) (e:=.int 1) (ZaO (Zae rfl rfl) (by rw [ZqD,List.length_map])) rfl rfl) (by omega)) (by rw [Za8,ZaA];omega) (fun d hd=>by
  obtain ⟨i,hi,rfl⟩:=Zdu hd
  exact ⟨rfl,ZaQ (Zam (d:=nD i) (e:=.lst (l.map nD)) rfl rfl (ZeK i l)),fun _=>rfl⟩)
 rw [ZgT (l.length+1) fun h=>!decide (h∈l)] at hc
 refine Za3 rfl (ZaD (ZaY (ZaO (Zae hc rfl) ?_)))
 exact ZoW (l:=ZeG l) ((Zd4 _).sublist List.filter_sublist) (ZlA l)
noncomputable def hr (ties:List (Nat×Nat)):List Nat→Nat→Nat
 | [],_=>0
 | p::qs,x=>if x=p then mex ((qs.filter fun o=>tied ties p o).map (hr ties qs)) else hr ties qs x
noncomputable def kvF (qs:List Nat) (f:Nat→Nat):List (Key×V):=qs.map fun (q:Nat)=>(Sum.inl (q:Int),V.int (f q))
theorem Ze2 {f:Nat→Nat} {x:Nat}:∀qs:List Nat,valV (kvF qs f) (Sum.inl (x:Int))=if x∈qs then some (.int (f x)) else none
 | []=>rfl
 | q::qs=>by
  by_cases e:q=x
  ·subst e
   show valV ((Sum.inl (q:Int),V.int (f q))::kvF qs f) _=_
   rw [Zbk rfl];simp
  ·have hn:¬((Sum.inl (q:Int):Key)=Sum.inl (x:Int)):=fun z=>by
    have:=Sum.inl.inj z
    omega
   show valV ((Sum.inl (q:Int),V.int (f q))::kvF qs f) _=_
   rw [Zbl hn,Ze2 qs]
   have:x≠q:=fun z=>e z.symm
   simp [this]
theorem ZnA {f g:Nat→Nat} {qs:List Nat} (h:∀q∈qs,f q=g q):kvF qs f=kvF qs g:=List.map_congr_left fun q hq=>by rw [h q hq]
theorem ZrH (qs:List Nat) (f:Nat→Nat) (x:Nat):dIn (nD x) (.dk (kvF qs f))=some (.bl (decide (x∈qs))):=by
 show ((some (Sum.inl (x:Int):Key)).map fun k=>(valV (kvF qs f) k).isSome).map D.bl=_
 simp only [Option.map_some]
 rw [Ze2]
 by_cases h:x∈qs <;> simp [h]
theorem Znz {qs:List Nat} {f:Nat→Nat} {x:Nat} (h:x∈qs):dIxK (.dk (kvF qs f)) (nD x)=some (nD (f x)):=by
 show (valV (kvF qs f) (Sum.inl (x:Int))).bind vD=_
 rw [Ze2,if_pos h]
 rfl
theorem Zlx {qs:List Nat} {f:Nat→Nat} {p h:Nat} (hp:p∉qs):putK (kvF qs f) (Sum.inl (p:Int)) (.int (h:Int))=kvF (qs ++ [p]) fun x=>if x=p then h else f x:=by
 rw [Zjz _ (by rw [Ze2,if_neg hp])]
 have e:kvF qs (fun x=>if x=p then h else f x)=kvF qs f:=ZnA fun q hq=>if_neg fun (z:q=p)=>hp (z▸hq)
 show kvF qs f++_=(qs ++ [p]).map _
 rw [List.map_append,←e]
 show _++_=kvF qs _ ++ [(Sum.inl (p:Int),V.int ((if p=p then h else f p:Nat):Int))]
 rw [if_pos rfl]
theorem Zex {ps:List Nat} {k p:Nat} (h:ps[k]?=some p):ps.take (k+1)=ps.take k ++ [p]:=by
 obtain ⟨hl,e⟩:=List.getElem?_eq_some_iff.mp h
 rw [List.take_succ_eq_append_getElem hl,e]
theorem ZlQ {ps:List Nat} {k p:Nat} (nd:ps.Nodup) (h:ps[k]?=some p):p∉ps.take k:=fun m=>by
 have h2:(ps.take (k+1)).Nodup:=nd.sublist (List.take_sublist _ _)
 rw [Zex h] at h2
 have:=(List.nodup_append.mp h2).2.2 p m p (by simp)
 exact this rfl
theorem Zli {i:Nat} {fx fv:Rho→M D} {ρ:Rho} {s:Pn} {x v:D} {kvs:List (Key×V)} {key:Key} {w:V} (h1:fv ρ s=some (v,s)) (h2:fx ρ s=some (x,s)) (h3:(ρ[i]?).bind id=some (.dk kvs)) (h4:Zby x=some key) (h5:ZcS v=some w) (hl:kvs.length<sizeLine) :
  Zfg i fx fv ρ s=some (.nx (ρ.set i (some (.dk (putK kvs key w)))),s):=by
 unfold Zfg Zan
 rw [h1];simp only;rw [h2];simp only;rw [h3];simp only;rw [h4,h5];simp only
 rw [if_pos hl];rfl
theorem ZqL (ties:List (Nat×Nat)) {ps:List Nat} {k p:Nat} (h:ps[k]?=some p):hr ties (ps.take (k+1)).reverse=fun x=>if x=p then mex (((ps.take k).filter fun o=>tied ties p o).map (hr ties (ps.take k).reverse)) else hr ties (ps.take k).reverse x:=by
 rw [Zex h,List.reverse_append]
 funext x
 show (if x=p then mex (((ps.take k).reverse.filter fun o=>tied ties p o).map (hr ties (ps.take k).reverse)) else _)=_
 by_cases e:x=p
 ·rw [if_pos e,if_pos e]
  refine Zix fun y=>?_
  simp only [List.mem_map,List.mem_filter,List.mem_reverse]
 ·rw [if_neg e,if_neg e];rfl
noncomputable def ZbG (n:Nat) (ties:List (Nat×Nat)) (ps:List Nat):List Nat:=(List.range n).map (hr ties ps.reverse)
theorem Zl6 {n:Nat} {xs:List Int} (h:xs.Perm (ZcA n)):∃ps:List Nat,xs=ZaB ps∧ps.Perm (List.range n):=by
 refine ⟨xs.map Int.toNat,?_,?_⟩
 ·unfold ZaB
  rw [List.map_map]
  have:∀x∈xs,((fun (x:Nat)=>(x:Int))∘Int.toNat) x=x:=fun x hx=>by
   obtain ⟨a,_,rfl⟩:=List.mem_map.mp (h.mem_iff.mp hx)
   rfl
  rw [List.map_congr_left this]
  exact (List.map_id' xs).symm
 ·have:=h.map Int.toNat
  unfold ZcA at this
  rw [List.map_map] at this
  have e:(List.range n).map (Int.toNat∘fun (i:Nat)=>(i:Int))=List.range n:=List.map_id' _
  rw [e] at this
  exact this
end TP3
namespace TP3
open PySem L2 TF TP TS
open TP2
section
variable (ap:Nat→Nat→Bool)
noncomputable def cntA (ps:List Nat) (p:Nat):Nat:=(ps.filter fun o=>ap p o).length
noncomputable def Zbn (ps:List Nat) (p:Nat):List Nat:=ps.filter fun o=>!decide (o=p) && !ap p o
noncomputable def ZaC (ps:List Nat):Nat:=ps.getD ((ps.map (cntA ap ps)).idxOf (mxN (ps.map (cntA ap ps)))) 0
structure KnA (ps K:List Nat):Prop where
 nd:K.Nodup
 sub:∀x∈K,x∈ps
 two:∀x∈K,∀y∈K,x≠y→ap x y=false
end
section
variable {ap:Nat→Nat→Bool}
theorem ZjS {l:List Nat} (h:l≠[]):mxN l∈l:=by
 have:=Zqy (l:=0::l) ⟨l,rfl⟩
 have e:mxN (0::l)=mxN l:=rfl
 rw [e] at this
 rcases List.mem_cons.mp this with z | z
 ·cases l with
  | nil=>exact absurd rfl h
  | cons a r=>
   have h1:=ZjT (l:=a::r) (x:=a) (by simp)
   have h2:a=0:=by omega
   rw [z,h2];simp
 ·exact z
theorem Zp7 {ps:List Nat} (f:Nat→Nat) {v:Nat} (h:v∈ps.map f):ps.getD ((ps.map f).idxOf v) 0∈ps∧f (ps.getD ((ps.map f).idxOf v) 0)=v:=by
 have hl:=List.idxOf_lt_length_iff.mpr h
 have e:=List.getElem_idxOf hl
 rw [List.getElem_map] at e
 have hl':(ps.map f).idxOf v<ps.length:=by simpa using hl
 rw [List.getD_eq_getElem?_getD,List.getElem?_eq_getElem hl']
 exact ⟨List.getElem_mem hl',e⟩
theorem Zdp {ps:List Nat} (h:ps≠[]):ZaC ap ps∈ps:=(Zp7 (cntA ap ps) (ZjS (by simpa using h))).1
theorem ZcK {ps:List Nat} {p:Nat}:∀x∈Zbn ap ps p,x∈ps∧x≠p∧ap p x=false:=fun x hx=>by
 obtain ⟨h1,h2⟩:=List.mem_filter.mp hx
 simp only [Bool.and_eq_true,Bool.not_eq_true',decide_eq_false_iff_not] at h2
 exact ⟨h1,h2.1,h2.2⟩
theorem ZiH {ps:List Nat} {p:Nat} (h:p∈ps) (f:Nat→Bool) (hf:f p=false):(ps.filter f).length<ps.length:=by
 induction ps with
 | nil=>simp at h
 | cons a r ih=>
  have hr:=List.length_filter_le f r
  rcases List.mem_cons.mp h with e | h
  ·subst e
   rw [List.filter_cons_of_neg (by simpa using hf)]
   simp only [List.length_cons];omega
  ·have:=ih h
   by_cases fa:f a=true
   ·rw [List.filter_cons_of_pos fa];simp only [List.length_cons];omega
   ·rw [List.filter_cons_of_neg fa];simp only [List.length_cons];omega
theorem Zjw {ps:List Nat} {p:Nat} (h:p∈ps):(Zbn ap ps p).length<ps.length:=ZiH h _ (by simp)
theorem Zg8 {ps:List Nat} {p:Nat} (h:p∈ps):(ps.filter fun o=>!decide (o=p)).length<ps.length:=ZiH h _ (by simp)
theorem KnA.with {ps K:List Nat} {p:Nat} (sy:∀a b,ap a b=ap b a) (hp:p∈ps) (h:KnA ap (Zbn ap ps p) K):KnA ap ps (p::K) where
 nd:=List.nodup_cons.mpr ⟨fun z=>(ZcK p (h.sub p z)).2.1 rfl,h.nd⟩
 sub:=fun x hx=>by
  rcases List.mem_cons.mp hx with e | hx
  ·rw [e];exact hp
  ·exact (ZcK x (h.sub x hx)).1
 two:=fun x hx y hy ne=>by
  rcases List.mem_cons.mp hx with e | hx
  ·rcases List.mem_cons.mp hy with e' | hy
   ·exact absurd (e.trans e'.symm) ne
   ·rw [e];exact (ZcK y (h.sub y hy)).2.2
  ·rcases List.mem_cons.mp hy with e' | hy
   ·rw [e',sy];exact (ZcK x (h.sub x hx)).2.2
   ·exact h.two x hx y hy ne
theorem KnA.mono {ps qs K:List Nat} (h:KnA ap ps K) (s:∀x∈ps,x∈qs):KnA ap qs K:=⟨h.nd,fun x hx=>s x (h.sub x hx),h.two⟩
theorem KnA.rest {ps K:List Nat} {p:Nat} (h:KnA ap ps K):KnA ap (Zbn ap ps p) (K.filter fun o=>!decide (o=p) && !ap p o) where
 nd:=h.nd.sublist List.filter_sublist
 sub:=fun x hx=>by
  obtain ⟨h1,h2⟩:=List.mem_filter.mp hx
  exact List.mem_filter.mpr ⟨h.sub x h1,h2⟩
 two:=fun x hx y hy=>h.two x (List.mem_filter.mp hx).1 y (List.mem_filter.mp hy).1
theorem ZmZ (ir:∀a,ap a a=false) {K:List Nat} {p:Nat} {ps:List Nat} (h:KnA ap ps K) (hm:p∈K∨cntA ap ps p≤1):K.length≤(K.filter fun o=>!decide (o=p) && !ap p o).length+1:=by
 have e:=ZiA (fun o=>!decide (o=p) && !ap p o) K
 have hd:(K.filter fun o=>!(!decide (o=p) && !ap p o)).length≤1:=by
  have nd:(K.filter fun o=>!(!decide (o=p) && !ap p o)).Nodup:=h.nd.sublist List.filter_sublist
  by_cases hp:p∈K
  ·have:=ZbK (b:=[p]) nd fun x hx=>by
    obtain ⟨h1,h2⟩:=List.mem_filter.mp hx
    by_cases z:x=p
    ·simp [z]
    ·have:=h.two p hp x h1 (Ne.symm z)
     simp [z,this] at h2
   simpa using this
  ·have hc:=hm.resolve_left hp
   have:=ZbK (b:=ps.filter fun o=>ap p o) nd fun x hx=>by
    obtain ⟨h1,h2⟩:=List.mem_filter.mp hx
    have z:x≠p:=fun z=>hp (z▸h1)
    simp [z] at h2
    exact List.mem_filter.mpr ⟨h.sub x h1,h2⟩
   unfold cntA at hc
   omega
 omega
end
noncomputable def kvA (l:List Nat):List (Key×V):=l.map fun (o:Nat)=>(Sum.inl (o:Int),V.bl true)
theorem Zid {x:Nat}:∀l:List Nat,valV (kvA l) (Sum.inl (x:Int))=if x∈l then some (.bl true) else none
 | []=>rfl
 | q::qs=>by
  by_cases e:q=x
  ·subst e
   show valV ((Sum.inl (q:Int),V.bl true)::kvA qs) _=_
   rw [Zbk rfl];simp
  ·have hn:¬((Sum.inl (q:Int):Key)=Sum.inl (x:Int)):=fun z=>by
    have:=Sum.inl.inj z
    omega
   show valV ((Sum.inl (q:Int),V.bl true)::kvA qs) _=_
   rw [Zbl hn,Zid qs]
   have:x≠q:=fun z=>e z.symm
   simp [this]
theorem Zm3:∀(l:List Nat) (acc:List (Key×V)),l.Nodup→(∀x∈l,valV acc (Sum.inl (x:Int))=none)→Zdc acc (l.map fun o=>D.tup [nD o,.bl true])=some (acc++kvA l)
 | [],acc,_,_=>by simp [Zdc,kvA]
 | p::ps,acc,nd,h=>by
  have nd':=List.nodup_cons.mp nd
  show Zdc (putK acc (Sum.inl (p:Int)) (.bl true)) (ps.map fun o=>D.tup [nD o,.bl true])=_
  rw [Zm3 ps _ nd'.2 fun x hx=>?_,Zjz _ (h p (by simp))]
  ·show some ((acc ++ [_])++kvA ps)=some (acc++(_::kvA ps))
   simp
  ·rw [Zjh,if_neg (fun z=>nd'.1 (by
    have:=Sum.inl.inj z
    have:x=p:=by omega
    exact this▸hx))]
   exact h x (by simp [hx])
theorem ZrI (l:List Nat) (x:Nat):dIn (nD x) (.dk (kvA l))=some (.bl (decide (x∈l))):=by
 show ((some (Sum.inl (x:Int):Key)).map fun k=>(valV (kvA l) k).isSome).map D.bl=_
 simp only [Option.map_some]
 rw [Zid]
 by_cases h:x∈l <;> simp [h]
theorem ZnB (l:List Nat) (x:Nat):Zck (nD x) (.dk (kvA l))=some (.bl (!decide (x∈l))):=by
 show ((some (Sum.inl (x:Int):Key)).map fun k=>(valV (kvA l) k).isSome).map (fun b=>D.bl (!b))=_
 simp only [Option.map_some]
 rw [Zid]
 by_cases h:x∈l <;> simp [h]
noncomputable def apsD (n:Nat) (A:Nat→List Nat):D:=.lst ((List.range n).map fun p=>.dk (kvA (A p)))
theorem Zog {n p:Nat} {A:Nat→List Nat} (h:p<n):dIx (apsD n A) (nD p)=some (.dk (kvA (A p))):=by
 show atI _ (p:Int)=_
 refine Zb6 ?_
 rw [List.getElem?_map,List.getElem?_range h];rfl
section
variable {n:Nat} {A:Nat→List Nat} {ap:Nat→Nat→Bool}
theorem ZhK (a b:Nat):dNeO (nD a) (nD b)=some (.bl (!decide (a=b))):=by
 rw [nei]
 congr 3
 rw [Bool.eq_iff_iff,beq_iff_eq,decide_eq_true_eq]
 constructor <;> intro h <;> omega
theorem ZqC {ds es:List D} (h:ds.length+es.length≤100000):dAdd (.lst ds) (.lst es)=some (.lst (ds++es)):=by
 show (if ds.length+es.length≤sizeLine then some (D.lst (ds++es)) else none)=_
 rw [if_pos (by rw [ZaA];omega)]
theorem ZrY (ds:List D) (hp:ZaU ds=true) (hd:deps ds≤10):dEqO (.lst ds) (.lst [])=some (.bl (decide (ds=[]))):=by
 have hok:okEq (.lst ds) (.lst [])=true:=by
  unfold okEq
  simp [Zai,dep,ZaU,deps,hp]
  omega
 unfold dEqO
 rw [if_pos hok]
 cases ds with
 | nil=>rfl
 | cons a r=>rfl
theorem ZoZ {l:List Nat} (h:l≠[]):Zje [.lst (l.map nD)]=some (nD (mxN l)):=by
 cases l with
 | nil=>exact absurd rfl h
 | cons m r=>
  have e:Zat ((m::r).map nD)=some ((m:Int)::r.map fun (i:Nat)=>(i:Int)):=ZdK (m::r)
  show (match Zat ((m::r).map nD) with | some (n::r)=>some (D.int (maxI n r)) | _=>none)=_
  rw [e]
  show some (D.int (maxI (m:Int) (r.map fun (i:Nat)=>(i:Int))))=_
  rw [ZjZ r m]
  have e2:mxN (m::r)=r.foldl max m:=by
   show r.foldl max (max 0 m)=_
   rw [Nat.max_eq_right (Nat.zero_le m)]
  rw [e2]
theorem Zmf {l:List Nat} {v:Nat} (h:v∈l):ZhM (.lst (l.map nD)) (nD v)=some (nD (l.idxOf v)):=by
 show ((Zat (l.map nD)).bind fun ns=>if (v:Int)∈ns then some (D.int (ns.idxOf (v:Int):Nat)) else none)=_
 rw [ZdK]
 show (if (v:Int)∈l.map (fun (i:Nat)=>(i:Int)) then some (D.int ((l.map fun (i:Nat)=>(i:Int)).idxOf (v:Int):Nat)) else none)=_
 rw [if_pos (List.mem_map.mpr ⟨v,h,rfl⟩)]
 have:(l.map fun (i:Nat)=>(i:Int)).idxOf (v:Int)=l.idxOf v:=by
  clear h
  induction l with
  | nil=>rfl
  | cons a r ih=>
   rw [List.map_cons,List.idxOf_cons,List.idxOf_cons,ih]
   have:((a:Int)==(v:Int))=(a==v):=by
    rw [Bool.eq_iff_iff,beq_iff_eq,beq_iff_eq]
    constructor <;> intro h <;> omega
   rw [this]
 rw [this]
end
end TP3
namespace TP3
open PySem L2 TF TP TS
open TP2
noncomputable def ZaV (n:Nat) (ties:List (Nat×Nat)):List (Nat×Nat):=(allP n).filter fun p=>!decide (p∈ties)
theorem ZmN (n:Nat) (ties:List (Nat×Nat)):IsWeb n (ZaV n ties):=IsWeb.filter _
theorem Zjn {ties:List (Nat×Nat)} {a b:Nat}:tied ties a b=true↔(min a b,max a b)∈ties:=by unfold tied;exact decide_eq_true_iff
theorem Zew {n:Nat} {ties:List (Nat×Nat)} {a b:Nat}:tied (ZaV n ties) a b=true↔a<n∧b<n∧a≠b∧tied ties a b=false:=by
 rw [Zjn]
 unfold ZaV
 rw [List.mem_filter,Zfm]
 have e:tied ties a b=decide ((min a b,max a b)∈ties):=rfl
 rw [e]
 simp only [Bool.not_eq_true',decide_eq_false_iff_not]
 constructor
 ·rintro ⟨⟨h1,h2⟩,h3⟩
  exact ⟨by omega,by omega,by omega,h3⟩
 ·rintro ⟨h1,h2,h3,h4⟩
  exact ⟨⟨by omega,by omega⟩,h4⟩
theorem ZiV {n:Nat} {ties:List (Nat×Nat)} (p o:Nat):tied (ZaV n ties) p o=decide (o∈ZaR n (ZaV n ties) p):=by
 unfold ZaR
 rw [Bool.eq_iff_iff,decide_eq_true_iff,List.mem_filter,List.mem_range]
 exact ⟨fun h=>⟨(Zew.mp h).2.1,h⟩,fun h=>h.2⟩
theorem Zon {n:Nat} {ties:List (Nat×Nat)} (a:Nat):tied (ZaV n ties) a a=false:=by
 cases h:tied (ZaV n ties) a a with
 | false=>rfl
 | true=>exact absurd rfl (Zew.mp h).2.2.1
noncomputable def ZeQ (n:Nat) (b:List Nat):List Nat:=(List.range n).filter fun x=>decide (x∈b)
theorem ZeI {n:Nat} {b:List Nat} (nd:b.Nodup) (h:∀x∈b,x<n):(ZeQ n b).Perm b:=by
 refine (List.perm_ext_iff_of_nodup (List.nodup_range.sublist List.filter_sublist) nd).mpr fun a=>?_
 rw [List.mem_filter,List.mem_range,decide_eq_true_iff]
 exact ⟨fun z=>z.2,fun z=>⟨h a z,z⟩⟩
theorem ZgO (n:Nat) (b:List Nat):(ZeQ n b).Pairwise (· < ·):=(Zd4 n).sublist List.filter_sublist
noncomputable def Zcr (a k:List Nat):List Nat:=if a.length<k.length then k else a
noncomputable def Zhw (n:Nat) (ties:List (Nat×Nat)):List Nat:=(kn ties n).foldl Zcr []
theorem ZgS:∀(l:List (List Nat)) (a:List Nat),(l.foldl Zcr a=a∨l.foldl Zcr a∈l)∧a.length≤(l.foldl Zcr a).length∧∀k∈l,k.length≤(l.foldl Zcr a).length
 | [],a=>⟨.inl rfl,Nat.le_refl _,fun k h=>by cases h⟩
 | x::r,a=>by
  obtain ⟨h1,h2,h3⟩:=ZgS r (Zcr a x)
  have h4:a.length≤(Zcr a x).length∧x.length≤(Zcr a x).length∧(Zcr a x=a∨Zcr a x=x):=by
   unfold Zcr
   split
   ·exact ⟨by omega,Nat.le_refl _,.inr rfl⟩
   ·exact ⟨Nat.le_refl _,by omega,.inl rfl⟩
  rw [List.foldl_cons]
  refine ⟨?_,by omega,fun k hk=>?_⟩
  ·rcases h1 with h | h
   ·rcases h4.2.2 with z | z
    ·exact .inl (h.trans z)
    ·exact .inr (by rw [h,z];simp)
   ·exact .inr (by simp [h])
  ·rcases List.mem_cons.mp hk with rfl | hk
   ·omega
   ·exact h3 k hk
theorem ZmU {n:Nat} {b:List Nat} (nd:b.Nodup) (h:∀x∈b,x<n) (hl:b.length<64):Zgu [.lst (b.map nD)]=some (.lst ((ZeQ n b).map nD)):=by
 have e:Zat (b.map nD)=some (ZaB b):=by
  have:b.map nD=(ZaB b).map D.int:=by unfold ZaB;rw [List.map_map];rfl
  rw [this,Zdr]
 show (match Zat (b.map nD) with | some ns=>if ns.length<64 then some (D.lst ((Zc8 ns).map .int)) else none | none=>none)=_
 rw [e]
 show (if (ZaB b).length<64 then some (D.lst ((Zc8 (ZaB b)).map .int)) else none)=_
 rw [if_pos (by unfold ZaB;simp;omega)]
 have q:ZaB (ZeQ n b)=Zc8 (ZaB b):=Zhi ((ZeI nd h).map _) (List.pairwise_map.mpr ((ZgO n b).imp fun h=>by omega))
 rw [←q]
 unfold ZaB
 rw [List.map_map];rfl
theorem Zhv {n:Nat} {ties:List (Nat×Nat)} (hw:IsWeb n ties) (hn:n≤24):Zhw n ties∈kn ties n∧∀K∈kn ties n,K.length≤(Zhw n ties).length:=by
 obtain ⟨h1,_,h3⟩:=ZgS (kn ties n) []
 refine ⟨?_,h3⟩
 rcases h1 with h | h
 ·show (kn ties n).foldl Zcr []∈_
  rw [h]
  exact Zgo.mpr ⟨List.Pairwise.nil,(fun o h=>by cases h),fun a h=>by cases h⟩
 ·exact h
end TP3
namespace TP3
open PySem L2 TF TP TS
open TP2
theorem Zno {l:List Nat} {b:Nat} (h:∀x∈l,x≤b):mxN l≤b:=Zkf l b h 0 (Nat.zero_le _)
end TP3
namespace TP3
open PySem L2 TF TP TS
open TP2
theorem ZnK (k:List Nat):Zat (k.map nD)=some (ZaB k):=by
 have:k.map nD=(ZaB k).map D.int:=by unfold ZaB;rw [List.map_map];rfl
 rw [this,Zdr]
theorem ZiC {f:Rho→M D} {ρ:Rho} {s s':Pn} {k:List Nat} (h:f ρ s=some (tupN k,s')) (hl:k.length≤1000):ZdE f ρ s=some (nD (unlike (ZaB k)),s'):=by
 unfold ZdE Zan
 rw [h]
 show (match Zat (k.map nD) with | some ns=>if ns.length≤1000 then mret (D.int (unlike ns:Nat)) else Zau | none=>Zau) s'=_
 rw [ZnK]
 show (if (ZaB k).length≤1000 then mret (D.int (unlike (ZaB k):Nat)) else Zau) s'=_
 rw [if_pos (by unfold ZaB;simpa using hl)]
 rfl
end TP3
namespace TP3
open PySem L2 TF TP TS
open TP2
section
variable (ties:List (Nat×Nat))
noncomputable def uq (w:List Nat):Nat:=mxN (w.map (· + 1))
noncomputable def ZbI (w:List Nat):List Nat:=((List.range w.length).filter fun o=>tied ties w.length o).map fun o=>w.getD o 0
noncomputable def ZdH (many:Nat) (w:List Nat):List Nat:=(List.range (min many (uq w+1))).filter fun h=>!decide (h∈ZbI ties w)
noncomputable def dfs (many:Nat):Nat→List Nat→Option (List Nat)
 | 0,w=>some w
 | r+1,w=>(ZdH ties many w).findSome? fun h=>dfs many r (w ++ [h])
noncomputable def ZaW (many:Nat) (w:List Nat):Prop:=∀i<w.length,w.getD i 0∈ZdH ties many (w.take i)
end
section
variable {ties:List (Nat×Nat)} {many:Nat}
theorem ZnS {w:List Nat} {i j:Nat} (h:j<i):(w.take i).getD j 0=w.getD j 0:=by
 rw [List.getD_eq_getElem?_getD,List.getD_eq_getElem?_getD,List.getElem?_take_of_lt h]
theorem Zds {w:List Nat} {h j:Nat} (hj:j<w.length):(w ++ [h]).getD j 0=w.getD j 0:=by
 rw [List.getD_eq_getElem?_getD,List.getD_eq_getElem?_getD,List.getElem?_append_left hj]
theorem ZeE {w:List Nat} {h:Nat}:(w ++ [h]).getD w.length 0=h:=by
 rw [List.getD_eq_getElem?_getD,List.getElem?_append_right (Nat.le_refl _),Nat.sub_self];rfl
theorem ZcH {w:List Nat} {h i:Nat} (hi:i≤w.length):(w ++ [h]).take i=w.take i:=List.take_append_of_le_length hi
theorem ZaW.snoc {w:List Nat} {h:Nat}:ZaW ties many (w ++ [h])↔ZaW ties many w∧h∈ZdH ties many w:=by
 constructor
 ·intro R
  refine ⟨fun i hi=>?_,?_⟩
  ·have:=R i (by simp;omega)
   rw [Zds hi,ZcH (by omega)] at this
   exact this
  ·have:=R w.length (by simp)
   rw [ZeE,ZcH (Nat.le_refl _),List.take_length] at this
   exact this
 ·rintro ⟨R,hh⟩ i hi
  by_cases e:i<w.length
  ·rw [Zds e,ZcH (by omega)];exact R i e
  ·have:i=w.length:=by simp at hi;omega
   subst this
   rw [ZeE,ZcH (Nat.le_refl _),List.take_length];exact hh
theorem ZaW.nil:ZaW ties many []:=fun i hi=>by simp at hi
theorem ZpY {w:List Nat} {i:Nat} (h:w.length=i+1):∃v x,w=v ++ [x]∧v.length=i:=by
 refine ⟨w.take i,w.getD i 0,?_,by rw [List.length_take];omega⟩
 have hi:i<w.length:=by omega
 have e:=List.take_succ_eq_append_getElem hi
 rw [←h,List.take_length] at e
 rw [List.getD_eq_getElem?_getD,List.getElem?_eq_getElem hi]
 exact e
theorem Zkl:∀{r:Nat} {w f:List Nat},ZaW ties many w→dfs ties many r w=some f→ZaW ties many f∧f.length=w.length+r∧f.take w.length=w
 | 0,w,f,R,h=>by
  unfold dfs at h
  cases h
  exact ⟨R,rfl,List.take_length⟩
 | r+1,w,f,R,h=>by
  unfold dfs at h
  obtain ⟨x,hx,he⟩:=List.exists_of_findSome?_eq_some h
  obtain ⟨h1,h2,h3⟩:=Zkl (ZaW.snoc.mpr ⟨R,hx⟩) he
  refine ⟨h1,by simp at h2;omega,?_⟩
  have:=congrArg (List.take w.length) h3
  rw [List.take_take,ZcH (Nat.le_refl _),List.take_length] at this
  have e:min w.length (w ++ [x]).length=w.length:=by simp
  rw [e] at this
  exact this
theorem Zkm:∀{r:Nat} {w f:List Nat},dfs ties many r w=none→f.length=w.length+r→f.take w.length=w→¬ZaW ties many f
 | 0,w,f,h,_,_=>by unfold dfs at h;cases h
 | r+1,w,f,h,hl,ht=>by
  intro R
  unfold dfs at h
  rw [List.findSome?_eq_none_iff] at h
  have hx:=R w.length (by omega)
  rw [ht] at hx
  have e:f.take (w ++ [f.getD w.length 0]).length=w ++ [f.getD w.length 0]:=by
   have hlt:w.length<f.length:=by omega
   rw [List.length_append,List.length_singleton,List.take_succ_eq_append_getElem hlt,ht,List.getD_eq_getElem?_getD,List.getElem?_eq_getElem hlt]
   rfl
  exact Zkm (h _ hx) (by simp;omega) e R
theorem Zhb {w:List Nat} {x:Nat} (h:x∈w):x<uq w:=by
 have:=ZjT (l:=w.map (· + 1)) (x:=x+1) (List.mem_map.mpr ⟨x,h,rfl⟩)
 unfold uq;omega
theorem Zpn {w:List Nat} {b:Nat} (h:∀x∈w,x<b):uq w≤b:=Zno fun x hx=>by
 obtain ⟨y,hy,rfl⟩:=List.mem_map.mp hx
 have:=h y hy;omega
theorem ZhY (w:List Nat) (h:Nat):uq (w ++ [h])=max (uq w) (h+1):=by
 unfold uq mxN
 rw [List.map_append,List.foldl_append];rfl
theorem Zcl {w:List Nat} {h:Nat}:h∈ZdH ties many w↔h<many∧h≤uq w∧h∉ZbI ties w:=by
 unfold ZdH
 rw [List.mem_filter,List.mem_range]
 simp only [Bool.not_eq_true',decide_eq_false_iff_not]
 constructor
 ·rintro ⟨h1,h2⟩;exact ⟨by omega,by omega,h2⟩
 ·rintro ⟨h1,h2,h3⟩;exact ⟨by omega,h3⟩
theorem ZaW.all:∀{n:Nat} {w:List Nat},w.length=n→ZaW ties many w→∀x,x∈w↔x<uq w
 | 0,w,h,_,x=>by
  have:=List.length_eq_zero_iff.mp h
  subst this
  simp [uq,mxN]
 | n+1,w,h,R,x=>by
  obtain ⟨v,y,rfl,hv⟩:=ZpY h
  obtain ⟨h1,h2⟩:=ZaW.snoc.mp R
  have ih:=ZaW.all hv h1 x
  obtain ⟨g1,g2,g3⟩:=Zcl.mp h2
  rw [ZhY,List.mem_append,ih,List.mem_singleton]
  omega
theorem ZaW.lt {w:List Nat} (R:ZaW ties many w):∀x∈w,x<many:=fun x hx=>by
 obtain ⟨i,hi,e⟩:=List.getElem_of_mem hx
 have:=R i hi
 rw [List.getD_eq_getElem?_getD,List.getElem?_eq_getElem hi] at this
 have h2:w[i]∈ZdH ties many (w.take i):=this
 rw [e] at h2
 exact (Zcl.mp h2).1
theorem ZaW.hues {m:Nat} {w:List Nat} (R:ZaW ties many w) (h:uq w≤m):ZaW ties m w:=fun i hi=>by
 obtain ⟨g1,g2,g3⟩:=Zcl.mp (R i hi)
 refine Zcl.mpr ⟨?_,g2,g3⟩
 have hm:w.getD i 0∈w:=by rw [List.getD_eq_getElem?_getD,List.getElem?_eq_getElem hi];exact List.getElem_mem hi
 have:=Zhb hm
 omega
theorem ZaW.unlike {w:List Nat} (R:ZaW ties many w):unlike (ZaB w)=uq w:=by
 obtain ⟨h1,h2⟩:=Zdm (ZaB w)
 have nd:((List.range (uq w)).map fun (i:Nat)=>(i:Int)).Nodup:=List.pairwise_map.mpr (List.nodup_range.imp fun h e=>h (by omega))
 have hp:=((List.perm_ext_iff_of_nodup h1 nd).mpr fun x=>by
  rw [h2 x]
  unfold ZaB
  rw [List.mem_map,List.mem_map]
  constructor
  ·rintro ⟨a,ha,rfl⟩;exact ⟨a,List.mem_range.mpr ((R.all rfl a).mp ha),rfl⟩
  ·rintro ⟨a,ha,rfl⟩;exact ⟨a,(R.all rfl a).mpr (List.mem_range.mp ha),rfl⟩).length_eq
 unfold TF.unlike
 rw [hp];simp
theorem ZaW.right {w:List Nat} (R:ZaW ties many w) {a b:Nat} (hab:a<b) (hb:b<w.length) (ht:tied ties a b=true):w.getD a 0≠w.getD b 0:=fun e=>by
 obtain ⟨_,_,g3⟩:=Zcl.mp (R b hb)
 refine g3 (List.mem_map.mpr ⟨a,List.mem_filter.mpr ⟨List.mem_range.mpr (by rw [List.length_take];omega),?_⟩,?_⟩)
 ·rw [List.length_take,Nat.min_eq_left (by omega),ZcG];exact ht
 ·rw [ZnS hab];exact e
theorem ZaW.knot {n:Nat} {w K:List Nat} (R:ZaW ties many w) (hl:w.length=n) (hK:K∈kn ties n):K.length≤uq w:=by
 obtain ⟨h1,h2,h3⟩:=Zgo.mp hK
 have nd:(K.map fun p=>w.getD p 0).Nodup:=List.pairwise_map.mpr (List.Pairwise.imp_of_mem (fun {a b} ha hb hab=>R.right hab (by rw [hl];exact h2 b hb) (h3 a ha b hb (by omega))) h1)
 have:=ZbK (b:=List.range (uq w)) nd fun x hx=>by
  obtain ⟨p,hp,rfl⟩:=List.mem_map.mp hx
  have hpl:p<w.length:=by rw [hl];exact h2 p hp
  refine List.mem_range.mpr (Zhb ?_)
  rw [List.getD_eq_getElem?_getD,List.getElem?_eq_getElem hpl];exact List.getElem_mem hpl
 rw [List.length_map,List.length_range] at this
 exact this
theorem Zok (n:Nat):uq (List.range n)=n:=by
 refine Nat.le_antisymm (Zpn fun x hx=>List.mem_range.mp hx) ?_
 cases n with
 | zero=>simp
 | succ n=>exact Zhb (List.mem_range.mpr (Nat.lt_succ_self n))
theorem ZaW.own (n:Nat):∀m≤n,ZaW ties n (List.range m):=fun m=>by
 induction m with
 | zero=>intro _;exact ZaW.nil
 | succ m ih=>
  intro h
  rw [List.range_succ]
  refine ZaW.snoc.mpr ⟨ih (by omega),Zcl.mpr ⟨by omega,by rw [Zok];omega,fun z=>?_⟩⟩
  obtain ⟨o,ho,e⟩:=List.mem_map.mp z
  have ho:=List.mem_range.mp (List.mem_filter.mp ho).1
  rw [List.getD_eq_getElem?_getD,List.getElem?_eq_getElem ho] at e
  simp at e ho
  omega
end
noncomputable def chi (n:Nat) (ties:List (Nat×Nat)):Nat:=((List.range (n+1)).filter fun m=>(dfs ties m n []).isSome).headD 0
noncomputable def Za6 (n:Nat) (ties:List (Nat×Nat)):List Nat:=(dfs ties (chi n ties) n []).getD []
theorem Zes {n m:Nat} {ties:List (Nat×Nat)} {f:List Nat} (hl:f.length=n) (R:ZaW ties m f):(dfs ties m n []).isSome=true:=by
 cases e:dfs ties m n [] with
 | some _=>rfl
 | none=>exact absurd R (Zkm e (by simpa using hl) rfl)
theorem Zeu (n:Nat) (ties:List (Nat×Nat)):chi n ties≤n∧(dfs ties (chi n ties) n []).isSome=true∧∀m<chi n ties,dfs ties m n []=none:=by
 have hn:n∈(List.range (n+1)).filter fun m=>(dfs ties m n []).isSome:=List.mem_filter.mpr ⟨List.mem_range.mpr (by omega),Zes (List.length_range) (ZaW.own n n (Nat.le_refl n))⟩
 have hr:((List.range (n+1)).filter fun m=>(dfs ties m n []).isSome).Pairwise (· < ·):=(Zd4 _).sublist List.filter_sublist
 cases e:(List.range (n+1)).filter fun m=>(dfs ties m n []).isSome with
 | nil=>rw [e] at hn;simp at hn
 | cons c r=>
  have hc:chi n ties=c:=by unfold chi;rw [e];rfl
  have h1:c∈(List.range (n+1)).filter fun m=>(dfs ties m n []).isSome:=by rw [e];simp
  obtain ⟨g1,g2⟩:=List.mem_filter.mp h1
  have g1:=List.mem_range.mp g1
  rw [hc]
  refine ⟨by omega,g2,fun m hm=>?_⟩
  cases em:dfs ties m n [] with
  | none=>rfl
  | some f=>
   have:m∈(List.range (n+1)).filter fun m=>(dfs ties m n []).isSome:=List.mem_filter.mpr ⟨List.mem_range.mpr (by omega),by rw [em];rfl⟩
   rw [e] at this hr
   rcases List.mem_cons.mp this with z | z
   ·omega
   ·have:=(List.pairwise_cons.mp hr).1 m z;omega
theorem Zc0 (n:Nat) (ties:List (Nat×Nat)):dfs ties (chi n ties) n []=some (Za6 n ties)∧ZaW ties (chi n ties) (Za6 n ties)∧(Za6 n ties).length=n∧uq (Za6 n ties)=chi n ties:=by
 obtain ⟨h1,h2,h3⟩:=Zeu n ties
 obtain ⟨f,hf⟩:=Option.isSome_iff_exists.mp h2
 have e:Za6 n ties=f:=by unfold Za6;rw [hf];rfl
 obtain ⟨g1,g2,_⟩:=Zkl ZaW.nil hf
 rw [e]
 simp at g2
 refine ⟨hf,g1,g2,?_⟩
 have hle:=Zpn g1.lt
 rcases Nat.lt_or_ge (uq f) (chi n ties) with z | z
 ·have:=h3 _ z
  have h4:=Zes g2 (g1.hues (Nat.le_refl _))
  rw [this] at h4;cases h4
 ·omega
theorem Zr4 {n m:Nat} {ties:List (Nat×Nat)} {f:List Nat} (hl:f.length=n) (R:ZaW ties m f):chi n ties≤m:=by
 rcases Nat.lt_or_ge m (chi n ties) with z | z
 ·have h4:=Zes hl R
  rw [(Zeu n ties).2.2 m z] at h4;cases h4
 ·exact z
theorem ZgR {n:Nat} {ties:List (Nat×Nat)} (hw:IsWeb n ties) (hn:n≤24):(Zhw n ties).length≤chi n ties:=by
 obtain ⟨h1,h2,h3,h4⟩:=Zc0 n ties
 have:=h2.knot h3 (Zhv hw hn).1
 omega
end TP3
namespace TP3
open PySem L2 TF TP TS
open TP2
theorem Zlv {n p:Nat} {ties:List (Nat×Nat)} (h:p<n):dIx (Zbd n ties) (nD p)=some (.lst ((ZaR n ties p).map nD)):=by
 show atI _ (p:Int)=_
 refine Zb6 ?_
 rw [List.getElem?_map,List.getElem?_range h];rfl
theorem ZlP {n:Nat} {ties:List (Nat×Nat)} {w:List Nat} (hw:w.length<n):((ZaR n ties w.length).filter fun o=>decide (o<w.length)).map (fun o=>w.getD o 0)=ZbI ties w:=by
 unfold ZbI ZaR
 congr 1
 rw [List.filter_filter]
 have e:List.range n=List.range w.length++(List.range (n-w.length)).map (w.length + ·):=by
  rw [←List.range_add];congr 1;omega
 rw [e,List.filter_append]
 have h2:((List.range (n-w.length)).map (w.length + ·)).filter (fun o=>decide (o<w.length)&&tied ties w.length o)=[]:=List.filter_eq_nil_iff.mpr fun x hx=>by
  obtain ⟨a,_,rfl⟩:=List.mem_map.mp hx
  simp only [Bool.and_eq_true,decide_eq_true_eq,not_and]
  intro z;omega
 rw [h2,List.append_nil]
 refine List.filter_congr fun x hx=>?_
 have:=List.mem_range.mp hx
 simp [this]
theorem Zn0 (a b:Nat):dLt (nD a) (nD b)=some (.bl (decide (a<b))):=by
 show some (D.bl (decide ((a:Int)<(b:Int))))=_
 congr 2
 exact decide_eq_decide.mpr (by omega)
theorem Zoo {n:Nat} {ties:List (Nat×Nat)} {w:List Nat} (hw:w.length<n) (hn:n≤24) {ρ:Rho} {s:Pn} (h0:(ρ[0]?).bind id=some (Zbd n ties)) (h2:(ρ[2]?).bind id=some (tupN w)) (h3:(ρ[3]?).bind id=some (nD w.length)) :
  ZaP [none,some 2,some 3] (ZaS (dOp dIx (dVar 0) (dVar 3))) (gOne 0) (asB (dOp dLt (dVar 0) (dVar 2))) (dOp dIx (dVar 1) (dVar 0)) ρ s=some (.lst ((ZbI ties w).map nD),s):=by
 have hc:=Zbf (src:=[none,some 2,some 3]) (fi:=ZaS (dOp dIx (dVar 0) (dVar 3))) (τ:=gOne 0) (ft:=asB (dOp dLt (dVar 0) (dVar 2))) (fe:=dOp dIx (dVar 1) (dVar 0)) (ρ:=ρ) (s:=s) (ds:=(ZaR n ties w.length).map nD) (fun d=>[some d,some (tupN w),some (nD w.length)]) (fun d=>decide (nat0 d<w.length)) (fun d=>nD (w.getD (nat0 d) 0))
  (ZbZ (Zam (d:=Zbd n ties) (e:=nD w.length) (by unfold dVar mOf;rw [h0]) (by unfold dVar mOf;rw [h3]) (Zlv hw))) (by
   have:=List.length_filter_le (fun o=>tied ties w.length o) (List.range n)
   rw [List.length_range] at this
   rw [List.length_map,ZaA];unfold ZaR;omega) (fun d hd=>by
  obtain ⟨x,hx,rfl⟩:=List.mem_map.mp hd
  refine ⟨?_,ZaQ (Zam (d:=nD x) (e:=nD w.length) rfl rfl (Zn0 _ _)),fun hb=>Zam (d:=tupN w) (e:=nD x) rfl rfl (Ze5 (of_decide_eq_true hb))⟩
  show some ((Zb1 [none,some 2,some 3] ρ).set 0 _)=_
  unfold Zb1
  simp only [List.map_cons,List.map_nil,Option.bind_some,h2,h3]
  rfl)
 rw [hc]
 congr 3
 rw [List.filter_map,List.map_map,←ZlP hw,List.map_map];rfl
theorem Zo1 {w:List Nat} {f:Rho→M D} {ρ:Rho} {s:Pn} (h:f ρ s=some (tupN w,s)):Zga f (dC (.int (-1))) ρ s=some (.int ((uq w:Int)-1),s):=by
 unfold Zga Zan
 rw [h]
 show (match Zat (w.map nD) with | some (n::r)=>mret (D.int (maxI n r)) | some []=>mret (D.int (-1)) | none=>Zau) s=_
 cases w with
 | nil=>rfl
 | cons a r=>
  have e:Zat ((a::r).map nD)=some ((a:Int)::r.map fun (i:Nat)=>(i:Int)):=ZdK (a::r)
  rw [e]
  show some (D.int (maxI (a:Int) (r.map fun (i:Nat)=>(i:Int))),s)=_
  rw [ZjZ r a]
  congr 3
  have hg:∀(r:List Nat) (a:Nat),(r.map (· + 1)).foldl max (a+1)=r.foldl max a+1:=by
   intro r
   induction r with
   | nil=>intro a;rfl
   | cons b r ih=>
    intro a
    show (r.map (· + 1)).foldl max (max (a+1) (b+1))=r.foldl max (max a b)+1
    rw [show max (a+1) (b+1)=max a b+1 by omega,ih]
  have:uq (a::r)=r.foldl max a+1:=by
   unfold uq mxN
   show (r.map (· + 1)).foldl max (max 0 (a+1))=_
   rw [Nat.max_eq_right (by omega),hg]
  omega
noncomputable def optT:Option (List Nat)→D
 | some f=>tupN f
 | none=>.non
theorem Zph (a:Nat) (b:Int) (h:0≤b):Zd8 [nD a,.int b]=some (nD (min a b.toNat)):=by
 show some (D.int (if b<(a:Int) then b else a))=_
 congr 2
 split <;> omega
theorem ZfW {τ:D→Rho→Option Rho} {body:Rho→M Out} {s:Pn} (I:Rho→Prop) (g:Nat→Option D):∀(l:List Nat) (ρ:Rho),I ρ→
  (∀x∈l,∀ρ,I ρ→∃ρ1,τ (nD x) ρ=some ρ1∧match g x with | some d=>body ρ1 s=some (.rt d,s) | none=>∃ρ2,body ρ1 s=some (.nx ρ2,s)∧I ρ2)→
  match l.findSome? g with | some d=>mFor τ body (l.map nD) ρ s=some (.rt d,s) | none=>∃ρ2,mFor τ body (l.map nD) ρ s=some (.nx ρ2,s)∧I ρ2
 | [],ρ,h0,_=>⟨ρ,rfl,h0⟩
 | x::l,ρ,h0,h=>by
  obtain ⟨ρ1,e1,e2⟩:=h x (by simp) ρ h0
  rw [List.findSome?_cons]
  cases hg:g x with
  | some d=>
   rw [hg] at e2
   exact Zj0 e1 e2
  | none=>
   rw [hg] at e2
   obtain ⟨ρ2,e3,h2⟩:=e2
   have ih:=ZfW I g l ρ2 h2 fun y hy=>h y (by simp [hy])
   simp only
   cases hl:l.findSome? g with
   | some d=>rw [hl] at ih;exact ZfX e1 e3 ih
   | none=>
    rw [hl] at ih
    obtain ⟨ρ3,e4,h3⟩:=ih
    exact ⟨ρ3,ZfX e1 e3 e4,h3⟩
theorem Zdt {α β:Type} (p:α→Bool) (g:α→Option β):∀l:List α,(l.filter p).findSome? g=l.findSome? fun x=>if p x=true then g x else none
 | []=>rfl
 | a::l=>by
  by_cases h:p a=true
  ·rw [List.filter_cons_of_pos h,List.findSome?_cons,List.findSome?_cons,Zdt p g l]
   simp [h]
  ·rw [List.filter_cons_of_neg h,List.findSome?_cons,Zdt p g l]
   simp [h]
set_option maxHeartbeats 1000000 in
theorem ZhB {n:Nat} {ties:List (Nat×Nat)} (hn:n≤24) (many:Nat) (hm:many≤1000) (s:Pn):∀(r k:Nat) (w:List Nat),w.length+r=n→r<k→ZbY k [Zbd n ties,nD many,tupN w] s=some (optT (dfs ties many r w),s)
 | r,0,w,_,h=>by omega
 | r,k+1,w,hl,hk=>by
  have hlen:dLen [tupN w]=some (nD w.length):=by show some (D.int _)=_;rw [List.length_map]
  have hlenN:dLen [Zbd n ties]=some (nD n):=by show some (D.int _)=_;rw [List.length_map,List.length_range]
  refine Za3 rfl (ZaX (ZbD (ZaO (Zae rfl rfl) hlen)) ?_)
  have heq:dEqO (nD w.length) (nD n)=some (.bl (decide (w.length=n))):=by
   rw [eqi]
   congr 2
   rw [Bool.eq_iff_iff,beq_iff_eq,decide_eq_true_iff]
   constructor <;> intro h <;> omega
  cases r with
  | zero=>
   rw [decide_eq_true (by omega)] at heq
   exact ZaD (Zd3 (ZaQ (Zam (d:=nD w.length) (e:=nD n) rfl (ZaO (Zae rfl rfl) hlenN) heq)) (ZaD (ZaY rfl)))
  | succ r=>
   rw [decide_eq_false (by omega)] at heq
   refine ZaX (ZeA (ZaQ (Zam (d:=nD w.length) (e:=nD n) rfl (ZaO (Zae rfl rfl) hlenN) heq)) rfl) ?_
   refine ZaX (ZbD (Zoo (w:=w) (ties:=ties) (n:=n) (by omega) hn rfl rfl rfl)) ?_
   have hrg:Za1 (Zay Zd8 (Zaa (dVar 1) (Zaa (dOp dAdd (Zga (dVar 2) (dC (.int (-1)))) (dC (.int 2))) dNil))) [some (Zbd n ties),some (nD many),some (tupN w),some (nD w.length),some (.lst ((ZbI ties w).map nD)),none,none] s=some (ZaI 0 (min many (uq w+1)),s):=
    Zbz (ZaO (c:=nD (min many (uq w+1))) (Zae rfl (Zae (Zam (d:=.int ((uq w:Int)-1)) (e:=.int 2) (c:=.int ((uq w:Int)+1)) (Zo1 rfl) rfl (by show some (D.int _)=_;congr 2;omega)) rfl)) (by rw [Zph _ _ (by omega)];congr 3)) (by omega)
   have hgo:=ZfW (τ:=gOne 5) (body:=(sSeq (sIf (asB (dOp Zck (dVar 5) (dVar 4)))
 (sSeq (sSet 6 (dFn (ZbY k) (Zaa (dVar 0) (Zaa (dVar 1) (Zaa (dOp dAdd (dVar 2) (dTup (Zaa (dVar 5) dNil))) dNil)))))
 (sSeq (sIf (asB (dOp Zms (dVar 6) (dC .non)))
 (sSeq (sRet (dVar 6))
 Zap)
 Zap)
 Zap))
 Zap)
 Zap)) (s:=s) (fun ρ=>∃o5 o6,ρ=[some (Zbd n ties),some (nD many),some (tupN w),some (nD w.length),some (.lst ((ZbI ties w).map nD)),o5,o6]) (fun h=>if (!decide (h∈ZbI ties w))=true then (dfs ties many r (w ++ [h])).map tupN else none) (List.range (min many (uq w+1))) [some (Zbd n ties),some (nD many),some (tupN w),some (nD w.length),some (.lst ((ZbI ties w).map nD)),none,none] ⟨none,none,rfl⟩ (fun x hx ρ hI=>by
    obtain ⟨o5,o6,rfl⟩:=hI
    refine ⟨_,rfl,?_⟩
    by_cases ht:x∈ZbI ties w
    ·simp only [ht,decide_true,Bool.not_true,Bool.false_eq_true,if_false]
     exact ⟨_,ZaX (ZeA (ZaQ (Zam (d:=nD x) (e:=.lst ((ZbI ties w).map nD)) rfl rfl (by rw [ZeK,decide_eq_true ht];rfl))) rfl) rfl,some (nD x),o6,rfl⟩
    ·simp only [ht,decide_false,Bool.not_false,if_true]
     have ih:=ZhB (ties:=ties) hn many hm s r k (w ++ [x]) (by simp;omega) (by omega)
     have hin:asB (dOp Zck (dVar 5) (dVar 4)) [some (Zbd n ties),some (nD many),some (tupN w),some (nD w.length),some (.lst ((ZbI ties w).map nD)),some (nD x),o6] s=some (true,s):=ZaQ (Zam (d:=nD x) (e:=.lst ((ZbI ties w).map nD)) rfl rfl (by rw [ZeK,decide_eq_false ht];rfl))
     have hcall:dFn (ZbY k) (Zaa (dVar 0) (Zaa (dVar 1) (Zaa (dOp dAdd (dVar 2) (dTup (Zaa (dVar 5) dNil))) dNil))) [some (Zbd n ties),some (nD many),some (tupN w),some (nD w.length),some (.lst ((ZbI ties w).map nD)),some (nD x),o6] s=some (optT (dfs ties many r (w ++ [x])),s):=ZaL (Zae rfl (Zae rfl (Zae (Zam (d:=tupN w) (e:=.tup [nD x]) rfl (ZpQ rfl) (ZpP w x (by omega))) rfl))) ih
     cases hd:dfs ties many r (w ++ [x]) with
     | some f=>
      rw [hd] at hcall
      exact ZaD (Zd3 hin (ZaX (ZbD hcall) (ZaD (Zd3 (ZaQ (Zam (d:=tupN f) (e:=.non) (c:=.bl true) rfl rfl rfl)) (ZaD (ZaY rfl))))))
     | none=>
      rw [hd] at hcall
      exact ⟨_,ZaX (Zd3 hin (ZaX (ZbD hcall) (ZaX (ZeA (ZaQ (Zam (d:=.non) (e:=.non) (c:=.bl false) rfl rfl rfl)) rfl) rfl))) rfl,some (nD x),some .non,rfl⟩)
   have e:(List.range (min many (uq w+1))).findSome? (fun h=>if (!decide (h∈ZbI ties w))=true then (dfs ties many r (w ++ [h])).map tupN else none)=(dfs ties many (r+1) w).map tupN:=by
    show _=((ZdH ties many w).findSome? fun h=>dfs ties many r (w ++ [h])).map tupN
    unfold ZdH
    rw [Zdt,List.map_findSome?]
    congr 1
    funext h
    show _=(if (!decide (h∈ZbI ties w))=true then dfs ties many r (w ++ [h]) else none).map tupN
    split <;> rfl
   rw [e] at hgo
   rw [Zc1] at hrg
   cases hd:dfs ties many (r+1) w with
   | some f=>
    rw [hd] at hgo
    exact ZaD (Zgk hrg hgo)
   | none=>
    rw [hd] at hgo
    obtain ⟨ρ2,e2,o5,o6,rfl⟩:=hgo
    exact ZaX (Zgk hrg e2) (ZaD (ZaY rfl))
end TP3
namespace TP3
open PySem L2 TF TP TS
open TP2
noncomputable def hueB (n:Nat) (ties:List (Nat×Nat)):D→Bool
 | .tup ds=>decide (ds.length=n)&&(ds.all (Zc7 (n:Int))&&ties.all fun p=>!decide (nat0 (ds.getD p.1 .non)=nat0 (ds.getD p.2 .non)))
 | _=>false
theorem Zhp {n:Int}:∀{ds:List D},ds.all (Zc7 n)=true→∃as:List Nat,ds=as.map nD
 | [],_=>⟨[],rfl⟩
 | d::ds,h=>by
  rw [List.all_cons,Bool.and_eq_true] at h
  obtain ⟨i,rfl⟩:=Zm8 h.1
  have h0:0≤i:=by
   have:=h.1
   simp only [Zc7,Bool.and_eq_true,decide_eq_true_eq] at this
   exact this.1
  obtain ⟨a,rfl⟩:=Int.eq_ofNat_of_zero_le h0
  obtain ⟨as,rfl⟩:=Zhp h.2
  exact ⟨a::as,rfl⟩
theorem ZoL (p:Nat×Nat):dIx (ZaH p) (.int 0)=some (nD p.1):=Zfw _ _
theorem ZoK (p:Nat×Nat):dIx (ZaH p) (.int 1)=some (nD p.2):=Zfv _ _ _
theorem ZnP {n:Nat} {ties:List (Nat×Nat)} (hw:IsWeb n ties) {f:List Nat} (hl:f.length=n):hueB n ties (tupN f)=(f.all (fun x=>decide (x<n))&&ties.all fun p=>!decide (f.getD p.1 0=f.getD p.2 0)):=by
 show (decide ((f.map nD).length=n)&&((f.map nD).all (Zc7 (n:Int))&&ties.all fun p=>!decide (nat0 ((f.map nD).getD p.1 .non)=nat0 ((f.map nD).getD p.2 .non))))=_
 have gg:∀i,i<n→(f.map nD).getD i .non=nD (f.getD i 0):=fun i hi=>by
  rw [List.getD_eq_getElem?_getD,List.getElem?_map,List.getD_eq_getElem?_getD,List.getElem?_eq_getElem (by omega)];rfl
 rw [List.length_map,decide_eq_true hl,Bool.true_and,List.all_map]
 congr 1
 ·congr 1
  funext x
  show (decide (0≤(x:Int))&&decide ((x:Int)<(n:Int)))=_
  rw [decide_eq_true (by omega),Bool.true_and]
  exact decide_eq_decide.mpr (by omega)
 ·rw [Bool.eq_iff_iff,List.all_eq_true,List.all_eq_true]
  constructor
  ·intro h p hp
   obtain ⟨g1,g2⟩:=TP.IsWeb.mem hw hp
   have:=h p hp
   rw [gg p.1 (by omega),gg p.2 g2] at this
   exact this
  ·intro h p hp
   obtain ⟨g1,g2⟩:=TP.IsWeb.mem hw hp
   rw [gg p.1 (by omega),gg p.2 g2]
   exact h p hp
theorem Zj2 {w:List Nat} {i:Nat} {ρ:Rho} {s:Pn} (h:(ρ[i]?).bind id=some (tupN w)) (hl:w.length≤1000):ZdE (dVar i) ρ s=some (nD (unlike (ZaB w)),s):=ZiC (by unfold dVar mOf;rw [h]) hl
end TP3
namespace TP3
open PySem L2 TF TP TS
open TP2
theorem canon {n:Nat} {ties:List (Nat×Nat)} (c:Nat→Nat) (vals:List Nat) (hr:∀a b,a<b→b<n→tied ties a b=true→c a≠c b) (hv:∀i<n,c i∈vals) :
  ∀k≤n,∃(f:List Nat) (g:Nat→Nat),f.length=k∧ZaW ties vals.length f∧(∀i<k,c i=g (f.getD i 0))∧(∀x<uq f,∀y<uq f,g x=g y→x=y):=by
 intro k
 induction k with
 | zero=>intro _;exact ⟨[],fun _=>0,rfl,ZaW.nil,fun i hi=>by omega,fun x hx=>by simp [uq,mxN] at hx⟩
 | succ k ih=>
  intro hk
  obtain ⟨f,g,hl,R,hc,hg⟩:=ih (by omega)
  have hmem:∀x,x<uq f→∃i,i<k∧f.getD i 0=x:=fun x hx=>by
   obtain ⟨i,hi,e⟩:=List.getElem_of_mem ((R.all rfl x).mpr hx)
   exact ⟨i,by omega,by rw [List.getD_eq_getElem?_getD,List.getElem?_eq_getElem hi];exact e⟩
  have hlt:∀i,i<k→f.getD i 0<uq f:=fun i hi=>by
   refine Zhb ?_
   rw [List.getD_eq_getElem?_getD,List.getElem?_eq_getElem (by omega)];exact List.getElem_mem _
  have notTaken:∀h,(∀o<k,f.getD o 0=h→c o=c k)→h∉ZbI ties f:=fun h hh z=>by
   obtain ⟨o,ho,e⟩:=List.mem_map.mp z
   obtain ⟨h1,h2⟩:=List.mem_filter.mp ho
   have h1:=List.mem_range.mp h1
   rw [hl] at h1 h2
   exact hr o k h1 (by omega) (by rw [ZcG];exact h2) (hh o h1 e)
  by_cases old:∃j,j<k∧c j=c k
  ·obtain ⟨j,hj,ej⟩:=old
   have hx:=hlt j hj
   have hin:f.getD j 0∈ZdH ties vals.length f:=Zcl.mpr ⟨R.lt _ ((R.all rfl _).mpr hx),by omega,notTaken _ fun o ho e=>by rw [hc o ho,e,←hc j hj,ej]⟩
   have hu:uq (f ++ [f.getD j 0])=uq f:=by rw [ZhY];omega
   refine ⟨f ++ [f.getD j 0],g,by simp [hl],ZaW.snoc.mpr ⟨R,hin⟩,fun i hi=>?_,by rw [hu];exact hg⟩
   by_cases e:i<k
   ·rw [Zds (by omega)];exact hc i e
   ·have:i=f.length:=by omega
    subst this
    rw [ZeE,←hc j hj,ej,hl]
  ·have hnew:∀j,j<k→c j≠c k:=fun j hj e=>old ⟨j,hj,e⟩
   have hgk:∀x<uq f,g x≠c k:=fun x hx e=>by
    obtain ⟨i,hi,ei⟩:=hmem x hx
    exact hnew i hi (by rw [hc i hi,ei,e])
   have hcount:uq f+1≤vals.length:=by
    have nd:((List.range (uq f)).map g ++ [c k]).Nodup:=by
     refine List.nodup_append.mpr ⟨?_,by simp,fun a ha b hb e=>?_⟩
     ·refine List.pairwise_map.mpr (List.Pairwise.imp_of_mem (fun {a b} ha hb hab e=>?_) (List.nodup_range (n:=uq f)))
      exact hab (hg a (List.mem_range.mp ha) b (List.mem_range.mp hb) e)
     ·obtain ⟨x,hx,rfl⟩:=List.mem_map.mp ha
      rw [List.mem_singleton.mp hb] at e
      exact hgk x (List.mem_range.mp hx) e
    have:=ZbK (b:=vals) nd fun y hy=>by
     rcases List.mem_append.mp hy with hy | hy
     ·obtain ⟨x,hx,rfl⟩:=List.mem_map.mp hy
      obtain ⟨i,hi,ei⟩:=hmem x (List.mem_range.mp hx)
      rw [←ei,←hc i hi];exact hv i (by omega)
     ·rw [List.mem_singleton.mp hy];exact hv k (by omega)
    simpa using this
   have hin:uq f∈ZdH ties vals.length f:=Zcl.mpr ⟨by omega,Nat.le_refl _,notTaken _ fun o ho e=>by have:=hlt o ho;omega⟩
   have hu:uq (f ++ [uq f])=uq f+1:=by rw [ZhY];omega
   refine ⟨f ++ [uq f],fun x=>if x=uq f then c k else g x,by simp [hl],ZaW.snoc.mpr ⟨R,hin⟩,fun i hi=>?_,fun x hx y hy e=>?_⟩
   ·by_cases e:i<k
    ·rw [Zds (by omega)]
     have:=hlt i e
     show c i=if f.getD i 0=uq f then c k else g (f.getD i 0)
     rw [if_neg (by omega)];exact hc i e
    ·have:i=f.length:=by omega
     subst this
     rw [ZeE,hl]
     show c k=if uq f=uq f then c k else _
     rw [if_pos rfl]
   ·rw [hu] at hx hy
    have e:(if x=uq f then c k else g x)=if y=uq f then c k else g y:=e
    by_cases h1:x=uq f
    ·by_cases h2:y=uq f
     ·omega
     ·rw [if_pos h1,if_neg h2] at e
      exact absurd e.symm (hgk y (by omega))
    ·by_cases h2:y=uq f
     ·rw [if_neg h1,if_pos h2] at e
      exact absurd e (hgk x (by omega))
     ·rw [if_neg h1,if_neg h2] at e
      exact hg x (by omega) y (by omega) e
theorem Zn3 {n:Nat} {ties:List (Nat×Nat)} (c:Nat→Nat) (vals:List Nat) (hr:∀a b,a<b→b<n→tied ties a b=true→c a≠c b) (hv:∀i<n,c i∈vals):chi n ties≤vals.length:=by
 obtain ⟨f,g,h1,h2,_⟩:=canon c vals hr hv n (Nat.le_refl n)
 exact Zr4 h1 h2
theorem Zlz {n:Nat} {ties:List (Nat×Nat)} {i:Nat} (h:i<n):(Za6 n ties).getD i 0<chi n ties:=by
 obtain ⟨h1,h2,h3,h4⟩:=Zc0 n ties
 rw [←h4]
 refine Zhb ?_
 rw [List.getD_eq_getElem?_getD,List.getElem?_eq_getElem (by omega)];exact List.getElem_mem _
theorem Zhz {n:Nat} {ties:List (Nat×Nat)} {a b:Nat} (ha:a<n) (hb:b<n) (h:tied ties a b=true) (ne:a≠b):(Za6 n ties).getD a 0≠(Za6 n ties).getD b 0:=by
 obtain ⟨h1,h2,h3,h4⟩:=Zc0 n ties
 rcases Nat.lt_or_gt_of_ne ne with z | z
 ·exact h2.right z (by omega) h
 ·exact (h2.right z (by omega) (by rw [ZcG];exact h)).symm
theorem Zer {d:D} (h:ZdJ d=true) (n:Nat) (s:Pn):Zbc [d,nD n] s=some (.bl (match d with | .tup ds=>decide (ds.length=n) | _=>false),s):=by
 refine Za3 rfl (ZaD (ZaY ?_))
 have hw:Zay dIsi (Zaa (dVar 0) (Zaa (dC (.ty "tuple")) dNil)) [some d,some (nD n)] s=_:=ZaO (Zae rfl (Zae rfl rfl)) (ZnG h)
 cases d with
 | tup ds=>
  refine Zjk hw (Zam (d:=nD ds.length) (e:=nD n) (ZaO (Zae rfl rfl) rfl) rfl ?_)
  rw [eqi]
  congr 2
  rw [Bool.eq_iff_iff,beq_iff_eq,decide_eq_true_iff]
  constructor <;> intro h <;> omega
 | pen=>cases h
 | ty _=>cases h
 | clo _ _=>cases h
 | dk _=>cases h
 | dt _=>cases h
 | du _=>cases h
 | df _=>cases h
 | _=>exact Zjl hw
theorem Zf3 {n:Nat} {ties:List (Nat×Nat)} (hw:IsWeb n ties) (hn:n≤24) {t:D} (hk:ZdJ t=true) (hks:∀ds,t=.tup ds→∀d∈ds,ZdJ d=true) (hl:∀ds,t=.tup ds→ds.length≤100000) (s:Pn):Zbv [webD n ties,t] s=some (.bl (hueB n ties t),s):=by
 have htl:=hw.len hn
 have h0:=Zer hk n s
 have h00:∀b,Zbc [t,nD n] s=some (.bl b,s)→bNot (asB (dFn Zbc (Zaa (dVar 1) (Zaa (dOp dIx (dVar 0) (dC (.int 0))) dNil)))) [some (webD n ties),some t] s=some (!b,s):=fun b h=>Zlu (ZaQ (ZaL (Zae rfl (Zae (Zam (d:=webD n ties) (e:=.int 0) rfl rfl web0) rfl)) h))
 cases t with
 | tup ds=>
  have hB:hueB n ties (.tup ds)=(decide (ds.length=n)&&(ds.all (Zc7 (n:Int))&&ties.all fun p=>!decide (nat0 (ds.getD p.1 .non)=nat0 (ds.getD p.2 .non)))):=rfl
  by_cases hlen:ds.length=n
  ·have h1:=h00 true (by rw [h0];simp [hlen])
   rw [hB,decide_eq_true hlen,Bool.true_and]
   have hc:=Zbf (src:=[none,some 0]) (fi:=Zde (dVar 1)) (τ:=gOne 0) (ft:=Za2) (fe:=dFn ZbV (Zaa (dOp dIx (dVar 1) (dC (.int 0))) (Zaa (dVar 0) dNil))) (ρ:=[some (webD n ties),some (.tup ds)]) (s:=s) (ds:=ds) (fun d=>[some d,some (webD n ties)]) (fun _=>true) (fun d=>.bl (Zc7 (n:Int) d)) (Zlb rfl) (by rw [ZaA];omega) (fun d hd=>⟨rfl,rfl,fun _=>ZaL (Zae (Zam (d:=webD n ties) (e:=.int 0) rfl rfl web0) (Zae rfl rfl)) (ZkT (hks ds rfl d hd) (n:Int) s)⟩)
   rw [ZbL] at hc
   have h2:bNot (asB (Zay dAll (Zaa (ZaP [none,some 0] (Zde (dVar 1)) (gOne 0) Za2 (dFn ZbV (Zaa (dOp dIx (dVar 1) (dC (.int 0))) (Zaa (dVar 0) dNil)))) dNil))) [some (webD n ties),some (.tup ds)] s=some (!ds.all (Zc7 (n:Int)),s):=Zlu (ZaQ (ZaO (Zae hc rfl) (ZiQ ds _)))
   cases ha:ds.all (Zc7 (n:Int)) with
   | false=>
    rw [ha] at h2
    exact Za3 rfl (ZaX (ZeA h1 rfl) (ZaD (Zd3 h2 (ZaD (ZaY rfl)))))
   | true=>
    rw [ha] at h2
    obtain ⟨as,rfl⟩:=Zhp ha
    rw [List.length_map] at hlen
    have gg:∀i,i<n→(as.map nD).getD i .non=nD (as.getD i 0):=fun i hi=>by
     rw [List.getD_eq_getElem?_getD,List.getElem?_map,List.getD_eq_getElem?_getD,List.getElem?_eq_getElem (by omega)];rfl
    refine Za3 rfl (ZaX (ZeA h1 rfl) (ZaX (ZeA h2 rfl) (ZaD (ZaY ?_))))
    have hc2:=Zbf (src:=[none,some 1]) (fi:=Zde (dOp dIx (dVar 0) (dC (.int 1)))) (τ:=gOne 0) (ft:=Za2) (fe:=dOp dNeO (dOp dIx (dVar 1) (dOp dIx (dVar 0) (dC (.int 0)))) (dOp dIx (dVar 1) (dOp dIx (dVar 0) (dC (.int 1))))) (ρ:=[some (webD n ties),some (tupN as)]) (s:=s) (ds:=ties.map ZaH) (fun d=>[some d,some (tupN as)]) (fun _=>true) (fun d=>.bl (!decide (as.getD (p2 d).1.toNat 0=as.getD (p2 d).2.toNat 0))) (Zlb (Zam (d:=webD n ties) (e:=.int 1) rfl rfl web1)) (by rw [List.length_map,ZaA];omega) (fun d hd=>by
     obtain ⟨p,hp,rfl⟩:=List.mem_map.mp hd
     obtain ⟨g1,g2⟩:=TP.IsWeb.mem hw hp
     have i1:dIx (tupN as) (nD p.1)=some (nD (as.getD p.1 0)):=Ze5 (by omega)
     have i2:dIx (tupN as) (nD p.2)=some (nD (as.getD p.2 0)):=Ze5 (by omega)
     refine ⟨rfl,rfl,fun _=>Zam (d:=nD (as.getD p.1 0)) (e:=nD (as.getD p.2 0)) (Zam (d:=tupN as) (e:=nD p.1) rfl (Zam (d:=ZaH p) (e:=.int 0) rfl rfl (ZoL p)) i1) (Zam (d:=tupN as) (e:=nD p.2) rfl (Zam (d:=ZaH p) (e:=.int 1) rfl rfl (ZoK p)) i2) ?_⟩
     rw [ZhK]
     show _=some (D.bl (!decide (as.getD (p.1:Int).toNat 0=as.getD (p.2:Int).toNat 0)))
     rw [Int.toNat_natCast,Int.toNat_natCast])
    rw [ZbL,List.map_map] at hc2
    have e3:ties.map ((fun d=>D.bl (!decide (as.getD (p2 d).1.toNat 0=as.getD (p2 d).2.toNat 0)))∘ZaH)=ties.map fun p=>D.bl (!decide (as.getD p.1 0=as.getD p.2 0)):=rfl
    rw [e3] at hc2
    refine ZaO (Zae hc2 rfl) ?_
    rw [ZiQ ties fun p=>!decide (as.getD p.1 0=as.getD p.2 0),Bool.true_and]
    congr 2
    rw [Bool.eq_iff_iff,List.all_eq_true,List.all_eq_true]
    constructor
    ·intro h p hp
     obtain ⟨g1,g2⟩:=TP.IsWeb.mem hw hp
     have:=h p hp
     rw [gg p.1 (by omega),gg p.2 g2];exact this
    ·intro h p hp
     obtain ⟨g1,g2⟩:=TP.IsWeb.mem hw hp
     have:=h p hp
     rw [gg p.1 (by omega),gg p.2 g2] at this;exact this
  ·have h1:=h00 false (by rw [h0];simp [hlen])
   rw [hB,decide_eq_false hlen,Bool.false_and]
   exact Za3 rfl (ZaD (Zd3 h1 (ZaD (ZaY rfl))))
 | pen=>cases hk
 | ty _=>cases hk
 | clo _ _=>cases hk
 | dk _=>cases hk
 | dt _=>cases hk
 | du _=>cases hk
 | df _=>cases hk
 | _=>exact Za3 rfl (ZaD (Zd3 (h00 false h0) (ZaD (ZaY rfl))))
theorem ZeC (f:List Nat):ZdJ (tupN f)=true∧∀ds,tupN f=.tup ds→∀d∈ds,ZdJ d=true:=⟨rfl,fun ds e d hd=>by
 cases e
 obtain ⟨x,_,rfl⟩:=List.mem_map.mp hd
 rfl⟩
noncomputable def ZbA (p:Nat×Nat):List Int:=[(p.1:Int),(p.2:Int)]
theorem Zne {p q:Nat×Nat} (h:ZbA p=ZbA q):p=q:=by
 have h1:=(List.cons.inj h).1
 have h2:=(List.cons.inj (List.cons.inj h).2).1
 exact Prod.ext (by omega) (by omega)
end TP3
namespace TQ
open PySem L2 TF TS
open TP
open TP2
open TP3
theorem Zr7 {T:Nat→List D→M D} {i t:Nat} {fs:Rho→M (List D)} {ρ:Rho} {s s1:Pn} {ds cds:List D} {r:Option (D×Pn)} (h1:(ρ[i]?).bind id=some (.clo t cds)) (h2:fs ρ s=some (ds,s1)) (h3:T t (ds++cds) s1=r):dApp T i fs ρ s=r:=by
 unfold dApp Zan dVar mOf
 rw [h1]
 simp only [h2]
 exact h3
theorem ZrX {F:List D→M D} {t:Nat} {cix:List Nat} {f:Rho→M D} {ρ:Rho} {s s1 s2:Pn} {d c:D} {cds:List D} (h1:f ρ s=some (d,s1)) (h2:Zgy ρ cix=some cds) (n1:Za5 d=true) (n2:Zbh cds=true) (h3:F [d,.clo t cds] s1=some (c,s2)) (n3:Za5 c=true):dFnC F t cix f ρ s=some (c,s2):=by
 unfold dFnC Zan mOf
 rw [h1,h2]
 simp only
 rw [if_pos (by rw [n1,n2];rfl),h3]
 simp only
 rw [if_pos n3]
 rfl
theorem ZfU:∀{ds:List D},(∀d∈ds,Za5 d=true)→Zbh ds=true
 | [],_=>rfl
 | d::ds,h=>by
  show (Za5 d&&Zbh ds)=true
  rw [h d List.mem_cons_self,ZfU fun x (hx:x∈ds)=>h x (List.mem_cons_of_mem _ hx)]
  rfl
theorem Zp1 {n:Nat} {f:Rho→M D} {ds:List D} {s:Pn} {r:Option (D×Pn)} (hl:ds.length=n) (h:f (ds.map some) s=r):runE n f ds s=r:=by
 unfold runE
 rw [if_pos hl]
 exact h
theorem Znm (n:Nat) (ties:List (Nat×Nat)):Za5 (webD n ties)=true:=by
 have:Zbh (ties.map ZaH)=true:=ZfU fun d hd=>by obtain ⟨p,_,rfl⟩:=List.mem_map.mp hd;rfl
 simp only [webD,Za5,Zbh,this];rfl
theorem ZjR (lo:Int) (n:Nat):Zbh (ZaI lo n)=true:=ZfU fun d hd=>by
 unfold ZaI at hd
 obtain ⟨i,_,rfl⟩:=List.mem_map.mp hd
 rfl
theorem Zjg {row:D} {ds cds:List D} {t:Nat} (h:SeqD row ds) (hn:ds.length≤1000) (b:Nat×Nat→Bool) (s:Pn) (hb:∀p∈allP ds.length,Tl t ([ds.getD p.1 .non,ds.getD p.2 .non]++cds) s=some (.bl (b p),s)):ZbX [row,.clo t cds] s=some (webD ds.length ((allP ds.length).filter b),s):=by
 have hln:∀r,Zay dLen (Zaa (dVar 0) dNil) (some row::r) s=some (nD ds.length,s):=fun r=>ZaO (Zae rfl rfl) h.len
 refine Za3 rfl (ZaX (ZbD (ZaL (Zae (Zf0 (hln _) hn) rfl) (ZkE s hn))) (ZaD (ZaY ?_)))
 have hap:=Zpm ds.length hn
 have hc:=Zbf (src:=[none,some 1,some 0]) (fi:=ZaS (dVar 2)) (τ:=gOne 0) (ft:=asB (dApp Tl 1 (Zaa (dOp dIx (dVar 2) (dOp dIx (dVar 0) (dC (.int 0)))) (Zaa (dOp dIx (dVar 2) (dOp dIx (dVar 0) (dC (.int 1)))) dNil)))) (fe:=dVar 0) (ρ:=[some row,some (.clo t cds),some (.lst ((allP ds.length).map ZaH))]) (s:=s) (ds:=(allP ds.length).map ZaH) (fun d=>[some d,some (.clo t cds),some row]) (fun d=>b (nat2 d)) (fun d=>d) (ZbZ rfl) (by rw [List.length_map,ZaA];omega) fun d hd=>by
  obtain ⟨p,hpm,rfl⟩:=List.mem_map.mp hd
  have hpp:=Zfm.mp hpm
  refine ⟨rfl,ZaQ (Zr7 (t:=t) (cds:=cds) rfl (Zae (Zam (d:=row) (e:=nD p.1) rfl (Zam (d:=ZaH p) (e:=.int 0) rfl rfl (Zfw _ _)) (h.ix (by omega))) (Zae (Zam (d:=row) (e:=nD p.2) rfl (Zam (d:=ZaH p) (e:=.int 1) rfl rfl (Zfv _ _ _)) (h.ix (by omega))) rfl)) (hb p hpm)),fun _=>rfl⟩
 rw [Zki (allP ds.length) _ b fun p=>by rw [Znn]] at hc
 exact ZbR (Zae (hln _) (Zae (ZaO (Zae hc rfl) rfl) rfl)) two_le
theorem range_getD {n i:Nat} (h:i<n):(ZaI 0 n).getD i .non=nD i:=by
 rw [Zc1]
 simp [List.getD,h]
theorem ZlW (n:Nat) (ties:List (Nat×Nat)) (s:Pn) (hn:n≤1000) (hl:ties.length≤100000):Zdk [webD n ties] s=some (webD n ((allP n).filter fun p=>!decide (p∈ties)),s):=by
 refine Za3 rfl (ZaX (ZbD (ZaL (Zae rfl rfl) (Ziy n ties s hl))) (ZaD (ZaY ?_)))
 refine ZrX (d:=.lst (ZaI 0 n)) (cds:=[.dt (kvT [] ties)]) (Zf0 (Zam (d:=webD n ties) (e:=.int 0) rfl rfl web0) hn) rfl (by simp only [Za5];exact ZjR _ _) rfl ?_ (Znm _ _)
 have:=Zjg (row:=.lst (ZaI 0 n)) (ds:=ZaI 0 n) (cds:=[.dt (kvT [] ties)]) (t:=0) (.inl rfl) (by rw [Za8];exact hn) (fun p=>!decide (p∈ties)) s (fun p hp=>by
  rw [Za8] at hp
  have hpp:=Zfm.mp hp
  rw [range_getD (by omega),range_getD (by omega)]
  show Zgg [nD p.1,nD p.2,.dt (kvT [] ties)] s=_
  refine Zp1 rfl ?_
  refine Zk7 (a:=decide (p∈ties)) (ZaL (Zae rfl (Zae rfl (Zae rfl rfl))) ?_)
  rw [Zge,Zgi hpp.1])
 rw [Za8] at this
 exact this
end TQ
namespace TQ
open PySem L2 TF TS
open TP
open TP2
open TP3
theorem Zk6 {f g:Rho→M D} {ρ:Rho} {s:Pn} {a b:Bool} (h:f ρ s=some (.bl a,s)) (h2:g ρ s=some (.bl b,s)):vAnd f g ρ s=some (.bl (a&&b),s):=ZhX h fun _=>h2
end TQ
namespace TQ
open PySem L2 TF TS
open TP
open TP2
open TP3
theorem maxN (a b:Nat):Zgx [nD a,nD b]=some (nD (max a b)):=by
 show some (D.int (if (b:Int) > (a:Int) then (b:Int) else (a:Int)))=_
 rw [ZrE]
end TQ
namespace TQ
open PySem L2 TF TS
open TP
open TP2
open TP3
end TQ
namespace TQ
open PySem L2 TF TS
open TP
open TP2
open TP3
end TQ
namespace TQ
open PySem L2 TF TS
open TP
open TP2
open TP3
end TQ
namespace TQ
open PySem L2 TF TS
open TP
open TP2
open TP3
end TQ
namespace TQ
open PySem L2 TF TS
open TP
open TP2
open TP3
end TQ
namespace TQ
open PySem L2 TF TS
open TP
open TP2
open TP3
noncomputable abbrev mkW (n:Nat) (ties:List (Nat×Nat)):D:=.tup [nD n,.dt (kvT [] ties)]
theorem mk0 {n:Nat} {ties:List (Nat×Nat)}:dIx (mkW n ties) (.int 0)=some (nD n):=Zfw _ _
theorem mk1 {n:Nat} {ties:List (Nat×Nat)}:dIx (mkW n ties) (.int 1)=some (.dt (kvT [] ties)):=Zfv _ _ _
theorem ZoT (n:Nat) (ties:List (Nat×Nat)) (p:Nat) (s:Pn) (hn:n≤100000):Zdy [mkW n ties,.int p] s=some (.lst ((ZaR n ties p).map nD),s):=by
 refine Za3 rfl (ZaD (ZaY ?_))
 unfold ZaR
 show _=some (D.lst (((List.range n).filter fun o=>tied ties p o).map fun (i:Nat)=>D.int (i:Int)),s)
 rw [←ZgT]
 refine Zbf (ds:=ZaI 0 n) (fun d=>[some d,some (mkW n ties),some (.int p)]) (fun d=>tied ties p (nat0 d)) (fun d=>d) (Zbz (Zam (d:=mkW n ties) (e:=.int 0) rfl rfl mk0) hn) (Zlg hn) ?_
 intro d hd
 obtain ⟨i,hi,rfl⟩:=Zdu hd
 exact ⟨rfl,ZaQ (ZaL (Zae (Zam (d:=mkW n ties) (e:=.int 1) rfl rfl mk1) (Zae rfl (Zae rfl rfl))) (Zge ties p i s)),fun _=>rfl⟩
noncomputable def gN:Rho→M Out:=(sSeq (sSet 1 (dTup (Zaa (dOp dIx (dVar 0) (dC (.int 0))) (Zaa (dFn Zbi (Zaa (dVar 0) dNil)) dNil))))
 (sSeq (sRet (ZaP [none,some 1] (Za1 (dOp dIx (dVar 0) (dC (.int 0)))) (gOne 0) Za2 (dFn Zdy (Zaa (dVar 1) (Zaa (dVar 0) dNil)))))
 Zap))
theorem Zgf (n:Nat) (ties:List (Nat×Nat)) (hn:n≤1000) (hl:ties.length≤100000) (s:Pn):runB 2 1 gN [webD n ties] s=some (Zbd n ties,s):=by
 refine Za3 rfl (ZaX (ZbD (ZbR (Zae (Zam (d:=webD n ties) (e:=.int 0) rfl rfl web0) (Zae (ZaL (Zae rfl rfl) (Ziy n ties s hl)) rfl)) two_le)) (ZaD (ZaY ?_)))
 have hc:=Zbf (src:=[none,some 1]) (fi:=Za1 (dOp dIx (dVar 0) (dC (.int 0)))) (τ:=gOne 0) (ft:=Za2) (fe:=dFn Zdy (Zaa (dVar 1) (Zaa (dVar 0) dNil))) (ρ:=[some (webD n ties),some (mkW n ties)]) (s:=s) (ds:=ZaI 0 n) (fun d=>[some d,some (mkW n ties)]) (fun _=>true) (fun d=>.lst ((ZaR n ties (nat0 d)).map nD)) (Zbz (Zam (d:=webD n ties) (e:=.int 0) rfl rfl web0) (by omega)) (Zlg (by omega)) fun d hd=>by
  obtain ⟨i,hi,rfl⟩:=Zdu hd
  exact ⟨rfl,rfl,fun _=>ZaL (Zae rfl (Zae rfl rfl)) (ZoT n ties i s (by omega))⟩
 rw [ZbL,Zc1,List.map_map] at hc
 exact hc
end TQ
namespace TQ
open PySem L2 TF TS
open TP
open TP2
open TP3
section
variable (ap:Nat→Nat→Bool)
noncomputable def one? (ps:List Nat):Option Nat:=ps.find? fun p=>decide (cntA ap ps p≤1)
noncomputable def bk2:Nat→List Nat→List Nat
 | 0,_=>[]
 | m+1,ps=>if ps=[] then [] else match one? ap ps with
  | some p=>p::bk2 m (Zbn ap ps p)
  | none=>if (bk2 m (ps.filter fun o=>!decide (o=ZaC ap ps))).length≤(ZaC ap ps::bk2 m (Zbn ap ps (ZaC ap ps))).length then ZaC ap ps::bk2 m (Zbn ap ps (ZaC ap ps))
   else bk2 m (ps.filter fun o=>!decide (o=ZaC ap ps))
end
section
variable {ap:Nat→Nat→Bool}
theorem Zfl {ps:List Nat} {p:Nat} (h:one? ap ps=some p):p∈ps∧cntA ap ps p≤1:=⟨List.mem_of_find?_eq_some h,by have:=List.find?_some h;simpa using this⟩
theorem Zfu (sy:∀a b,ap a b=ap b a):∀(m:Nat) (ps:List Nat),KnA ap ps (bk2 ap m ps)
 | 0,ps=>⟨List.nodup_nil,fun x hx=>by simp [bk2] at hx,fun x hx=>by simp [bk2] at hx⟩
 | m+1,ps=>by
  unfold bk2
  by_cases h0:ps=[]
  ·rw [if_pos h0];exact ⟨List.nodup_nil,fun x hx=>by simp at hx,fun x hx=>by simp at hx⟩
  ·rw [if_neg h0]
   have w:=fun p (hp:p∈ps)=>KnA.with sy hp (Zfu sy m (Zbn ap ps p))
   split
   ·rename_i p hp
    exact w _ (Zfl hp).1
   ·split
    ·exact w _ (Zdp h0)
    ·exact (Zfu sy m _).mono fun x hx=>(List.mem_filter.mp hx).1
theorem Zg7 (sy:∀a b,ap a b=ap b a) (ir:∀a,ap a a=false):∀(m:Nat) (ps K:List Nat),ps.length<m→KnA ap ps K→K.length≤(bk2 ap m ps).length
 | 0,ps,K,h,_=>by omega
 | m+1,ps,K,hl,h=>by
  unfold bk2
  by_cases h0:ps=[]
  ·rw [if_pos h0]
   cases K with
   | nil=>simp
   | cons a r=>have:=h.sub a (by simp);rw [h0] at this;simp at this
  ·rw [if_neg h0]
   have w:∀p,p∈ps→(p∈K∨cntA ap ps p≤1)→K.length≤(p::bk2 ap m (Zbn ap ps p)).length:=fun p hp hm=>by
    have h1:=ZmZ ir h hm
    have h2:=Zg7 sy ir m (Zbn ap ps p) _ (by have:=Zjw (ap:=ap) hp;omega) (h.rest (p:=p))
    simp only [List.length_cons];omega
   split
   ·rename_i p hp
    exact w _ (Zfl hp).1 (.inr (Zfl hp).2)
   ·have hb:=Zdp (ap:=ap) h0
    by_cases hk:ZaC ap ps∈K
    ·have:=w _ hb (.inl hk)
     split
     ·exact this
     ·omega
    ·have h3:=Zg7 sy ir m (ps.filter fun o=>!decide (o=ZaC ap ps)) K (by have:=Zg8 hb;omega) ⟨h.nd,fun x hx=>List.mem_filter.mpr ⟨h.sub x hx,by
      have:x≠ZaC ap ps:=fun z=>hk (z▸hx)
      simpa using this⟩,h.two⟩
     split
     ·omega
     ·exact h3
theorem ZgA (m:Nat):∀(ps:List Nat),(bk2 ap m ps).length≤m:=by
 induction m with
 | zero=>intro ps;simp [bk2]
 | succ m ih=>
  intro ps
  unfold bk2
  split
  ·simp
  ·split
   ·rename_i p hp
    have:=ih (Zbn ap ps p);simp only [List.length_cons];omega
   ·split
    ·have:=ih (Zbn ap ps (ZaC ap ps));simp only [List.length_cons];omega
    ·have:=ih (ps.filter fun o=>!decide (o=ZaC ap ps));omega
end
noncomputable abbrev Zbo (n:Nat):D:=.tup (List.replicate n (nD 1))
theorem Zls {n p:Nat} (h:p<n):dIx (Zbo n) (nD p)=some (nD 1):=by
 show atI _ (p:Int)=_
 refine Zb6 ?_
 rw [List.getElem?_replicate,if_pos h]
theorem Zla:∀k:Nat,(List.replicate k (1:Int)).sum=(k:Int)
 | 0=>rfl
 | k+1=>by rw [List.replicate_succ,List.sum_cons,Zla k];omega
theorem Zop (k:Nat):dSum [.lst (List.replicate k (nD 1))]=some (nD k):=by
 have h1:Zat (List.replicate k (nD 1))=some (List.replicate k 1):=by
  rw [show List.replicate k (nD 1)=(List.replicate k (1:Int)).map D.int by rw [List.map_replicate];rfl]
  exact Zdr _
 show (match Zat (List.replicate k (nD 1)) with | some ns=>if Zdq ns=true then some (D.int ns.sum) else none | none=>none)=_
 rw [h1]
 have h2:Zdq (List.replicate k 1)=true:=List.all_eq_true.mpr fun x hx=>by rw [(List.mem_replicate.mp hx).2];rfl
 show (if Zdq (List.replicate k 1)=true then some (D.int (List.replicate k (1:Int)).sum) else none)=_
 rw [if_pos h2,Zla]
noncomputable def Zke:Rho→M Out:=(sSeq (sRet (Zay dSum (Zaa (ZaP [none,some 0] (ZaS (dVar 1)) (gOne 0) Za2 (dOp dIx (dVar 1) (dVar 0))) dNil)))
 Zap)
theorem Zeb {n:Nat} {ps:List Nat} (hp:∀p∈ps,p<n) (hl:ps.length≤1000) (s:Pn):runB 2 2 Zke [Zbo n,.lst (ps.map nD)] s=some (nD ps.length,s):=by
 have hc:=Zbf (src:=[none,some 0]) (fi:=ZaS (dVar 1)) (τ:=gOne 0) (ft:=Za2) (fe:=dOp dIx (dVar 1) (dVar 0)) (ρ:=[some (Zbo n),some (.lst (ps.map nD))]) (s:=s) (ds:=ps.map nD) (fun d=>[some d,some (Zbo n)]) (fun _=>true) (fun _=>nD 1) (ZbZ rfl) (by rw [List.length_map,ZaA];omega) (fun d hd=>by
  obtain ⟨x,hx,rfl⟩:=List.mem_map.mp hd
  exact ⟨rfl,rfl,fun _=>Zam (d:=Zbo n) (e:=nD x) rfl rfl (Zls (hp x hx))⟩)
 rw [ZbL,List.map_const',List.length_map] at hc
 exact Za3 rfl (ZaD (ZaY (ZaO (Zae hc rfl) (Zop _))))
end TQ
namespace TQ
open PySem L2 TF TS
open TP
open TP2
open TP3
noncomputable def ZrV:Rho→M Out:=(sSeq (sRet (ZaP [none,some 0,some 1] (ZaS (dVar 2)) (gOne 0) (asB (dOp dIn (dVar 0) (dOp dIx (dVar 1) (dVar 2)))) (dVar 0)))
 Zap)
noncomputable def Zky:List D→M D:=runB 3 3 ZrV
noncomputable def Zcf:List D→M D:=runB 2 2 Zke
noncomputable def gHW (Fs:List D→M D):Rho→M Out:=(sSeq (sSet 4 (ZaP [none,some 2,some 0] (ZaS (dVar 3)) (gOne 0) (bAnd (asB (dOp dNeO (dVar 0) (dVar 1))) (asB (dOp Zck (dVar 0) (dOp dIx (dVar 2) (dVar 1))))) (dVar 0)))
 (sSeq (sRet (dOp dAdd (dLst (Zaa (dVar 2) dNil)) (dFn Fs (Zaa (dVar 0) (Zaa (dVar 1) (Zaa (dVar 4) dNil))))))
 Zap))
noncomputable def FHW (Fs:List D→M D):List D→M D:=runB 5 4 (gHW Fs)
noncomputable def ZpE (Fs:List D→M D):Rho→M Out:=(sSeq (sIf (asB (dOp dLe (dFn Zcf (Zaa (dVar 1) (Zaa (dOp dIx (dVar 3) (dVar 4)) dNil))) (dOp dIx (dVar 1) (dOp dIx (dVar 2) (dVar 4)))))
 (sSeq (sRet (dFn (FHW Fs) (Zaa (dVar 0) (Zaa (dVar 1) (Zaa (dOp dIx (dVar 2) (dVar 4)) (Zaa (dVar 2) dNil))))))
 Zap)
 Zap)
 Zap)
noncomputable def gHA (Fs:List D→M D):Rho→M Out:=(sSeq (sIf (asB (dOp dEqO (dVar 2) (dLst dNil)))
 (sSeq (sRet (dLst dNil))
 Zap)
 Zap)
 (sSeq (sSet 3 (ZaP [none,some 0,some 2] (ZaS (dVar 2)) (gOne 0) Za2 (dFn Zky (Zaa (dVar 1) (Zaa (dVar 0) (Zaa (dVar 2) dNil))))))
 (sSeq (sFor (Za1 (Zay dLen (Zaa (dVar 2) dNil))) (gOne 4) (ZpE Fs))
 (sSeq (sSet 5 (ZaP [none] (ZaS (dVar 3)) (gOne 0) Za2 (Zay dLen (Zaa (dVar 0) dNil))))
 (sSeq (sSet 6 (dOp dIx (dVar 2) (dOp ZhM (dVar 5) (Zay Zje (Zaa (dVar 5) dNil)))))
 (sSeq (sSet 7 (dFn (FHW Fs) (Zaa (dVar 0) (Zaa (dVar 1) (Zaa (dVar 6) (Zaa (dVar 2) dNil))))))
 (sSeq (sSet 8 (dFn Fs (Zaa (dVar 0) (Zaa (dVar 1) (Zaa (ZaP [none,some 6] (ZaS (dVar 2)) (gOne 0) (asB (dOp dNeO (dVar 0) (dVar 1))) (dVar 0)) dNil)))))
 (sSeq (sRet (dIf (asB (dOp dGe (dFn Zcf (Zaa (dVar 1) (Zaa (dVar 7) dNil))) (dFn Zcf (Zaa (dVar 1) (Zaa (dVar 8) dNil))))) (dVar 7) (dVar 8)))
 Zap))))))))
noncomputable def FHA:Nat→List D→M D
 | 0=>fun _=>Zau
 | n+1=>runB 9 3 (gHA (FHA n))
theorem geN (a b:Nat):dGe (nD a) (nD b)=some (.bl (decide (b≤a))):=by
 show some (D.bl (decide ((b:Int)≤(a:Int))))=_
 rw [show decide ((b:Int)≤(a:Int))=decide (b≤a) from decide_eq_decide.mpr (by omega)]
theorem Zmp (P:Nat→Bool) (h:Nat→D) (ps:List Nat):(List.range ps.length).findSome? (fun i=>if P (ps.getD i 0)=true then some (h (ps.getD i 0)) else none)=(ps.find? P).map h:=by
 have e:(List.range ps.length).map (fun i=>ps.getD i 0)=ps:=by
  apply List.ext_getElem?
  intro i
  rw [List.getElem?_map]
  by_cases hi:i<ps.length
  ·rw [List.getElem?_range hi]
   show some (ps.getD i 0)=_
   rw [List.getD_eq_getElem?_getD,List.getElem?_eq_getElem hi];rfl
  ·rw [List.getElem?_eq_none (by simp;omega),List.getElem?_eq_none (by omega)];rfl
 have k:∀l:List Nat,l.findSome? (fun x=>if P x=true then some (h x) else none)=(l.find? P).map h:=fun l=>by
  induction l with
  | nil=>rfl
  | cons x l ih=>
   rw [List.findSome?_cons,List.find?_cons]
   cases hx:P x with
   | true=>rfl
   | false=>exact ih
 rw [←k ps]
 conv=>rhs;rw [←e]
 rw [List.findSome?_map];rfl
section
variable {n:Nat} {A:Nat→List Nat} {ap:Nat→Nat→Bool}
theorem Zpk (hA:∀p o,ap p o=decide (o∈A p)) {p:Nat} (hp:p<n) (ps:List Nat) (hl:ps.length≤1000) (s:Pn):Zky [apsD n A,nD p,.lst (ps.map nD)] s=some (.lst ((ps.filter fun o=>ap p o).map nD),s):=by
 have hc:=Zbf (src:=[none,some 0,some 1]) (fi:=ZaS (dVar 2)) (τ:=gOne 0) (ft:=asB (dOp dIn (dVar 0) (dOp dIx (dVar 1) (dVar 2)))) (fe:=dVar 0) (ρ:=[some (apsD n A),some (nD p),some (.lst (ps.map nD))]) (s:=s) (ds:=ps.map nD) (fun d=>[some d,some (apsD n A),some (nD p)]) (fun d=>ap p (nat0 d)) (fun d=>d) (ZbZ rfl) (by rw [List.length_map,ZaA];omega) (fun d hd=>by
  obtain ⟨x,hx,rfl⟩:=List.mem_map.mp hd
  exact ⟨rfl,ZaQ (Zam (d:=nD x) (e:=.dk (kvA (A p))) rfl (Zam (d:=apsD n A) (e:=nD p) rfl rfl (Zog hp)) (by rw [ZrI,←hA];rfl)),fun _=>rfl⟩)
 rw [List.filter_map,List.map_map] at hc
 exact Za3 rfl (ZaD (ZaY hc))
theorem Zsp (hA:∀p o,ap p o=decide (o∈A p)) {Fs:List D→M D} {p:Nat} (hp:p<n) {ps r:List Nat} (hl:ps.length≤1000) (hr:r.length≤1000) {s:Pn} (hF:Fs [apsD n A,Zbo n,.lst ((Zbn ap ps p).map nD)] s=some (.lst (r.map nD),s)):FHW Fs [apsD n A,Zbo n,nD p,.lst (ps.map nD)] s=some (.lst ((p::r).map nD),s):=by
 have hc:=Zbf (src:=[none,some 2,some 0]) (fi:=ZaS (dVar 3)) (τ:=gOne 0) (ft:=bAnd (asB (dOp dNeO (dVar 0) (dVar 1))) (asB (dOp Zck (dVar 0) (dOp dIx (dVar 2) (dVar 1))))) (fe:=dVar 0) (ρ:=[some (apsD n A),some (Zbo n),some (nD p),some (.lst (ps.map nD)),none]) (s:=s) (ds:=ps.map nD) (fun d=>[some d,some (nD p),some (apsD n A)]) (fun d=>!decide (nat0 d=p) && !ap p (nat0 d)) (fun d=>d) (ZbZ rfl) (by rw [List.length_map,ZaA];omega) (fun d hd=>by
  obtain ⟨x,hx,rfl⟩:=List.mem_map.mp hd
  refine ⟨rfl,ZqX (ZaQ (Zam (d:=nD x) (e:=nD p) rfl rfl (ZhK x p))) fun _=>ZaQ (Zam (d:=nD x) (e:=.dk (kvA (A p))) rfl (Zam (d:=apsD n A) (e:=nD p) rfl rfl (Zog hp)) (by rw [ZnB,←hA];rfl)),fun _=>rfl⟩)
 rw [List.filter_map,List.map_map] at hc
 have e:(ps.filter ((fun d=>!decide (nat0 d=p) && !ap p (nat0 d))∘nD)).map ((fun d=>d)∘nD)=(Zbn ap ps p).map nD:=rfl
 rw [e] at hc
 refine Za3 rfl (ZaX (ZbD hc) (ZaD (ZaY (Zam (d:=.lst [nD p]) (e:=.lst (r.map nD)) (ZfY (Zae rfl rfl) (by show 1≤sizeLine;decide)) (ZaL (Zae rfl (Zae rfl (Zae rfl rfl))) hF) ?_))))
 rw [ZqC (by rw [List.length_map];simp;omega)]
 rfl
theorem Zgz:∀(m:Nat) (ps:List Nat),∀x∈bk2 ap m ps,x∈ps
 | 0,ps,x,hx=>by simp [bk2] at hx
 | m+1,ps,x,hx=>by
  unfold bk2 at hx
  by_cases h0:ps=[]
  ·rw [if_pos h0] at hx;cases hx
  ·rw [if_neg h0] at hx
   have w:=fun p (hp:p∈ps) (h:x∈p::bk2 ap m (Zbn ap ps p))=>show x∈ps from by
    rcases List.mem_cons.mp h with e | h
    ·rw [e];exact hp
    ·exact (ZcK x (Zgz m _ x h)).1
   split at hx
   ·rename_i p hp
    exact w _ (Zfl hp).1 hx
   ·split at hx
    ·exact w _ (Zdp h0) hx
    ·exact (List.mem_filter.mp (Zgz m _ x hx)).1
set_option maxHeartbeats 1000000 in
theorem ZeJ (hA:∀p o,ap p o=decide (o∈A p)) (s:Pn):∀(m:Nat) (ps:List Nat),ps.length<m→m≤100→(∀p∈ps,p<n)→FHA m [apsD n A,Zbo n,.lst (ps.map nD)] s=some (.lst ((bk2 ap m ps).map nD),s)
 | 0,_,h,_,_=>by omega
 | m+1,ps,hl,hm,hn=>by
  have hpl:ZaU (ps.map nD)=true:=Zho ps
  have hdp:deps (ps.map nD)≤10:=by rw [ZlD];omega
  have heq:=ZrY (ps.map nD) hpl hdp
  by_cases h0:ps=[]
  ·subst h0
   refine Za3 rfl (ZaD (Zd3 (ZaQ (Zam (d:=.lst []) (e:=.lst []) rfl (ZfY rfl (Nat.zero_le _)) heq)) (ZaD (ZaY (d:=.lst []) (ZfY rfl (Nat.zero_le _))))))
  ·have hf:decide (ps.map nD=[])=false:=by simpa using h0
   rw [hf] at heq
   have hcs:ps.map (cntA ap ps)≠[]:=by simpa using h0
   have hc:=Zbf (src:=[none,some 0,some 2]) (fi:=ZaS (dVar 2)) (τ:=gOne 0) (ft:=Za2) (fe:=dFn Zky (Zaa (dVar 1) (Zaa (dVar 0) (Zaa (dVar 2) dNil)))) (ρ:=[some (apsD n A),some (Zbo n),some (.lst (ps.map nD)),none,none,none,none,none,none]) (s:=s) (ds:=ps.map nD) (fun d=>[some d,some (apsD n A),some (.lst (ps.map nD))]) (fun _=>true) (fun d=>.lst ((ps.filter fun o=>ap (nat0 d) o).map nD)) (ZbZ rfl) (by rw [List.length_map,ZaA];omega) (fun d hd=>by
    obtain ⟨x,hx,rfl⟩:=List.mem_map.mp hd
    exact ⟨rfl,rfl,fun _=>ZaL (Zae rfl (Zae rfl (Zae rfl rfl))) (Zpk hA (hn x hx) ps (by omega) s)⟩)
   rw [ZbL,List.map_map] at hc
   generalize hR:ps.map ((fun d=>D.lst ((ps.filter fun o=>ap (nat0 d) o).map nD))∘nD)=R at hc
   have kw:∀p,p∈ps→FHW (FHA m) [apsD n A,Zbo n,nD p,.lst (ps.map nD)] s=some (.lst ((p::bk2 ap m (Zbn ap ps p)).map nD),s):=fun p hp=>by
    have hlt:=Zjw (ap:=ap) hp
    have hb:=ZgA (ap:=ap) m (Zbn ap ps p)
    exact Zsp hA (hn p hp) (by omega) (by omega) (ZeJ hA s m (Zbn ap ps p) (by omega) (by omega) fun x hx=>hn x (ZcK x hx).1)
   have hrow:∀i,i<ps.length→dIx (.lst R) (nD i)=some (.lst ((ps.filter fun o=>ap (ps.getD i 0) o).map nD)):=fun i hi=>by
    refine Zb6 ?_
    rw [←hR,List.getElem?_map,List.getD_eq_getElem?_getD,List.getElem?_eq_getElem hi];rfl
   have hpl2:∀i,i<ps.length→dIx (.lst (ps.map nD)) (nD i)=some (nD (ps.getD i 0)):=fun i hi=>Ze5 hi
   have hgm:∀i,i<ps.length→ps.getD i 0∈ps:=fun i hi=>by
    rw [List.getD_eq_getElem?_getD,List.getElem?_eq_getElem hi];exact List.getElem_mem hi
   have hfind:=ZfW (τ:=gOne 4) (body:=ZpE (FHA m)) (s:=s) (fun ρ=>∃o4,ρ=[some (apsD n A),some (Zbo n),some (.lst (ps.map nD)),some (.lst R),o4,none,none,none,none]) (fun i=>if decide (cntA ap ps (ps.getD i 0)≤1)=true then some (.lst ((ps.getD i 0::bk2 ap m (Zbn ap ps (ps.getD i 0))).map nD)) else none) (List.range ps.length) [some (apsD n A),some (Zbo n),some (.lst (ps.map nD)),some (.lst R),none,none,none,none,none] ⟨none,rfl⟩ (fun i hi ρ hρ=>by
    obtain ⟨o4,rfl⟩:=hρ
    have hi:=List.mem_range.mp hi
    refine ⟨_,rfl,?_⟩
    have hcond:asB (dOp dLe (dFn Zcf (Zaa (dVar 1) (Zaa (dOp dIx (dVar 3) (dVar 4)) dNil))) (dOp dIx (dVar 1) (dOp dIx (dVar 2) (dVar 4)))) [some (apsD n A),some (Zbo n),some (.lst (ps.map nD)),some (.lst R),some (nD i),none,none,none,none] s=some (decide (cntA ap ps (ps.getD i 0)≤1),s):=by
     refine ZaQ (Zam (ZaL (Zae rfl (Zae (Zam (d:=.lst R) (e:=nD i) rfl rfl (hrow i hi)) rfl)) (Zeb (fun p hp=>hn p (List.mem_filter.mp hp).1) (by have:=List.length_filter_le (fun o=>ap (ps.getD i 0) o) ps;omega) s)) (Zam (d:=Zbo n) rfl (Zam (d:=.lst (ps.map nD)) (e:=nD i) rfl rfl (hpl2 i hi)) (Zls (hn _ (hgm i hi)))) ?_)
     show some (D.bl (decide (((ps.filter fun o=>ap (ps.getD i 0) o).length:Int)≤(1:Int))))=_
     congr 2
     exact decide_eq_decide.mpr (by unfold cntA;omega)
    by_cases hq:cntA ap ps (ps.getD i 0)≤1
    ·rw [decide_eq_true hq] at hcond ⊢
     rw [if_pos rfl]
     exact ZaD (Zd3 hcond (ZaD (ZaY (ZaL (Zae rfl (Zae rfl (Zae (Zam (d:=.lst (ps.map nD)) (e:=nD i) rfl rfl (hpl2 i hi)) (Zae rfl rfl)))) (kw _ (hgm i hi))))))
    ·rw [decide_eq_false hq] at hcond ⊢
     rw [if_neg Bool.false_ne_true]
     exact ⟨_,ZaX (ZeA hcond rfl) rfl,some (nD i),rfl⟩)
   rw [Zmp (fun p=>decide (cntA ap ps p≤1)) (fun p=>.lst ((p::bk2 ap m (Zbn ap ps p)).map nD)) ps] at hfind
   have hit:Za1 (Zay dLen (Zaa (dVar 2) dNil)) [some (apsD n A),some (Zbo n),some (.lst (ps.map nD)),some (.lst R),none,none,none,none,none] s=some ((List.range ps.length).map nD,s):=by
    have:=Zbz (f:=Zay dLen (Zaa (dVar 2) dNil)) (ρ:=[some (apsD n A),some (Zbo n),some (.lst (ps.map nD)),some (.lst R),none,none,none,none,none]) (s:=s) (n:=ps.length) (ZaO (Zae rfl rfl) (Znv ps)) (by omega)
    rw [Zc1] at this
    exact this
   unfold bk2
   rw [if_neg h0]
   refine Za3 rfl (ZaX (ZeA (ZaQ (Zam (d:=.lst (ps.map nD)) (e:=.lst []) rfl (ZfY rfl (Nat.zero_le _)) heq)) rfl) (ZaX (ZbD hc) ?_))
   show sSeq _ _ [some (apsD n A),some (Zbo n),some (.lst (ps.map nD)),some (.lst R),none,none,none,none,none] s=_
   cases ho:one? ap ps with
   | some p=>
    have ho':ps.find? (fun p=>decide (cntA ap ps p≤1))=some p:=ho
    rw [ho'] at hfind
    exact ZaD (Zgk hit hfind)
   | none=>
    have ho':ps.find? (fun p=>decide (cntA ap ps p≤1))=none:=ho
    rw [ho'] at hfind
    obtain ⟨ρ2,hf2,o4,rfl⟩:=hfind
    refine ZaX (Zgk hit hf2) ?_
    have hmax:=ZoZ hcs
    have hp1:=Zdp (ap:=ap) h0
    have hix:dIx (.lst (ps.map nD)) (nD ((ps.map (cntA ap ps)).idxOf (mxN (ps.map (cntA ap ps)))))=some (nD (ZaC ap ps)):=Ze5 (by
     have:=List.idxOf_lt_length_iff.mpr (ZjS hcs)
     simpa using this)
    have hcc:=Zbf (src:=[none]) (fi:=ZaS (dVar 3)) (τ:=gOne 0) (ft:=Za2) (fe:=Zay dLen (Zaa (dVar 0) dNil)) (ρ:=[some (apsD n A),some (Zbo n),some (.lst (ps.map nD)),some (.lst R),o4,none,none,none,none]) (s:=s) (ds:=R) (fun d=>[some d]) (fun _=>true) (fun d=>match d with | .lst l=>nD l.length | _=>.non) (ZbZ rfl) (by rw [←hR,List.length_map,ZaA];omega) (fun d hd=>by
     rw [←hR] at hd
     obtain ⟨x,hx,rfl⟩:=List.mem_map.mp hd
     exact ⟨rfl,rfl,fun _=>ZaO (Zae rfl rfl) rfl⟩)
    rw [ZbL,←hR,List.map_map] at hcc
    have e5:ps.map ((fun d=>match d with | .lst l=>nD l.length | _=>D.non)∘((fun d=>D.lst ((ps.filter fun o=>ap (nat0 d) o).map nD))∘nD))=(ps.map (cntA ap ps)).map nD:=by
     rw [List.map_map]
     refine List.map_congr_left fun x _=>?_
     show nD ((ps.filter fun o=>ap x o).map nD).length=nD (cntA ap ps x)
     rw [List.length_map];rfl
    rw [e5,hR] at hcc
    have hwo:=Zg8 hp1
    have ih2:=ZeJ hA s m (ps.filter fun o=>!decide (o=ZaC ap ps)) (by omega) (by omega) fun x hx=>hn x (List.mem_filter.mp hx).1
    have hc2:=Zbf (src:=[none,some 6]) (fi:=ZaS (dVar 2)) (τ:=gOne 0) (ft:=asB (dOp dNeO (dVar 0) (dVar 1))) (fe:=dVar 0) (ρ:=[some (apsD n A),some (Zbo n),some (.lst (ps.map nD)),some (.lst R),o4,some (.lst ((ps.map (cntA ap ps)).map nD)),some (nD (ZaC ap ps)),some (.lst ((ZaC ap ps::bk2 ap m (Zbn ap ps (ZaC ap ps))).map nD)),none]) (s:=s) (ds:=ps.map nD) (fun d=>[some d,some (nD (ZaC ap ps))]) (fun d=>!decide (nat0 d=ZaC ap ps)) (fun d=>d) (ZbZ rfl) (by rw [List.length_map,ZaA];omega) (fun d hd=>by
     obtain ⟨x,hx,rfl⟩:=List.mem_map.mp hd
     exact ⟨rfl,ZaQ (Zam (d:=nD x) (e:=nD (ZaC ap ps)) rfl rfl (ZhK _ _)),fun _=>rfl⟩)
    have e2:((ps.map nD).filter fun d=>!decide (nat0 d=ZaC ap ps)).map (fun d=>d)=(ps.filter fun o=>!decide (o=ZaC ap ps)).map nD:=by rw [List.filter_map,List.map_map];rfl
    rw [e2] at hc2
    have bl1:=ZgA (ap:=ap) m (Zbn ap ps (ZaC ap ps))
    have bl2:=ZgA (ap:=ap) m (ps.filter fun o=>!decide (o=ZaC ap ps))
    have w1:=Zeb (n:=n) (ps:=ZaC ap ps::bk2 ap m (Zbn ap ps (ZaC ap ps))) (fun p hp=>by
     rcases List.mem_cons.mp hp with e | hp
     ·rw [e];exact hn _ hp1
     ·exact hn p (ZcK p (Zgz m _ p hp)).1) (by simp only [List.length_cons];omega) s
    have w2:=Zeb (n:=n) (ps:=bk2 ap m (ps.filter fun o=>!decide (o=ZaC ap ps))) (fun p hp=>hn p (List.mem_filter.mp (Zgz m _ p hp)).1) (by omega) s
    refine ZaX (ZbD hcc) (ZaX (ZbD (Zam (d:=.lst (ps.map nD)) rfl (Zam (d:=.lst ((ps.map (cntA ap ps)).map nD)) rfl (ZaO (Zae rfl rfl) hmax) (Zmf (ZjS hcs))) hix)) (ZaX (ZbD (ZaL (Zae rfl (Zae rfl (Zae rfl (Zae rfl rfl)))) (kw _ hp1))) (ZaX (ZbD (ZaL (Zae rfl (Zae rfl (Zae hc2 rfl))) ih2)) (ZaD (ZaY ?_)))))
    have hge:=geN (ZaC ap ps::bk2 ap m (Zbn ap ps (ZaC ap ps))).length (bk2 ap m (ps.filter fun o=>!decide (o=ZaC ap ps))).length
    have ht:=ZaQ (Zam (g:=dGe) (ρ:=[some (apsD n A),some (Zbo n),some (.lst (ps.map nD)),some (.lst R),o4,some (.lst ((ps.map (cntA ap ps)).map nD)),some (nD (ZaC ap ps)),some (.lst ((ZaC ap ps::bk2 ap m (Zbn ap ps (ZaC ap ps))).map nD)),some (.lst ((bk2 ap m (ps.filter fun o=>!decide (o=ZaC ap ps))).map nD))]) (s:=s) (ZaL (F:=Zcf) (fs:=Zaa (dVar 1) (Zaa (dVar 7) dNil)) (Zae rfl (Zae rfl rfl)) w1) (ZaL (F:=Zcf) (fs:=Zaa (dVar 1) (Zaa (dVar 8) dNil)) (Zae rfl (Zae rfl rfl)) w2) hge)
    generalize hX:ZaC ap ps::bk2 ap m (Zbn ap ps (ZaC ap ps))=X at ht ⊢
    generalize hY:bk2 ap m (ps.filter fun o=>!decide (o=ZaC ap ps))=Y at ht ⊢
    have hfin:∀ρ:Rho,(ρ[7]?).bind id=some (.lst (X.map nD))→(ρ[8]?).bind id=some (.lst (Y.map nD))→asB (dOp dGe (dFn Zcf (Zaa (dVar 1) (Zaa (dVar 7) dNil))) (dFn Zcf (Zaa (dVar 1) (Zaa (dVar 8) dNil)))) ρ s=some (decide (Y.length≤X.length),s)→dIf (asB (dOp dGe (dFn Zcf (Zaa (dVar 1) (Zaa (dVar 7) dNil))) (dFn Zcf (Zaa (dVar 1) (Zaa (dVar 8) dNil))))) (dVar 7) (dVar 8) ρ s=some (.lst ((if Y.length≤X.length then X else Y).map nD),s):=fun ρ h7 h8 ht=>by
     unfold dIf Zan
     rw [ht]
     by_cases hq:Y.length≤X.length
     ·simp only [hq,decide_true,if_true]
      unfold dVar mOf;rw [h7]
     ·simp only [hq,decide_false,if_false,Bool.false_eq_true]
      unfold dVar mOf;rw [h8]
    exact hfin _ rfl rfl ht
end
end TQ
namespace TQ
open PySem L2 TF TS
open TP
open TP2
open TP3
noncomputable def Zcq (n:Nat) (ties:List (Nat×Nat)):List Nat:=ZeQ n (bk2 (tied (ZaV n ties)) 26 (List.range n))
noncomputable def gHK:Rho→M Out:=(sSeq (sSet 2 (ZaP [none] (ZaS (dFn (runB 2 1 gN) (Zaa (dFn Zdk (Zaa (dVar 0) dNil)) dNil))) (gOne 0) Za2 (Zay ZhO (Zaa (ZaP [none] (ZaS (dVar 0)) (gOne 0) Za2 (dTup (Zaa (dVar 0) (Zaa (dC (.bl true)) dNil)))) dNil))))
 (sSeq (sRet (Zay Zet (Zaa (Zay Zgu (Zaa (dFn (FHA 26) (Zaa (dVar 2) (Zaa (dVar 1) (Zaa (ZbU (dOp dIx (dVar 0) (dC (.int 0)))) dNil)))) dNil)) dNil)))
 Zap))
theorem ZkO {n:Nat} {ties:List (Nat×Nat)} (hw:IsWeb n ties) (hn:n≤24):Zcq n ties∈kn ties n∧∀K∈kn ties n,K.length≤(Zcq n ties).length:=by
 have sy:∀a b,tied (ZaV n ties) a b=tied (ZaV n ties) b a:=ZcG _
 have hk:=Zfu sy 26 (List.range n)
 have hlt:∀x∈bk2 (tied (ZaV n ties)) 26 (List.range n),x<n:=fun x hx=>List.mem_range.mp (hk.sub x hx)
 have hp:=ZeI hk.nd hlt
 constructor
 ·refine Zgo.mpr ⟨ZgO _ _,fun o ho=>hlt o (hp.mem_iff.mp ho),fun a ha b hb ne=>?_⟩
  have ha':=hp.mem_iff.mp ha
  have hb':=hp.mem_iff.mp hb
  have:=hk.two a ha' b hb' ne
  cases h:tied ties a b with
  | true=>rfl
  | false=>
   have:=Zew.mpr ⟨hlt a ha',hlt b hb',ne,h⟩
   simp_all
 ·intro K hK
  obtain ⟨h1,h2,h3⟩:=Zgo.mp hK
  have:=Zg7 sy Zon 26 (List.range n) K (by rw [List.length_range];omega) ⟨ZlV h1,fun x hx=>List.mem_range.mpr (h2 x hx),fun x hx y hy ne=>by
   cases h:tied (ZaV n ties) x y with
   | false=>rfl
   | true=>
    have h4:=(Zew.mp h).2.2.2
    rw [h3 x hx y hy ne] at h4;cases h4⟩
  have e:=hp.length_eq
  show K.length≤(ZeQ n _).length
  omega
theorem Zo8 (n:Nat) (ties:List (Nat×Nat)) (hn:n≤24) (hl:ties.length≤100000) (s:Pn):runB 3 2 gHK [webD n ties,Zbo n] s=some (tupN (Zcq n ties),s):=by
 have sy:∀a b,tied (ZaV n ties) a b=tied (ZaV n ties) b a:=ZcG _
 have hk:=Zfu sy 26 (List.range n)
 have hlt:∀x∈bk2 (tied (ZaV n ties)) 26 (List.range n),x<n:=fun x hx=>List.mem_range.mp (hk.sub x hx)
 have hp:=ZeI hk.nd hlt
 have htl:=(ZmN n ties).len hn
 have hc:=Zbf (src:=[none]) (fi:=ZaS (dFn (runB 2 1 gN) (Zaa (dFn Zdk (Zaa (dVar 0) dNil)) dNil))) (τ:=gOne 0) (ft:=Za2) (fe:=Zay ZhO (Zaa (ZaP [none] (ZaS (dVar 0)) (gOne 0) Za2 (dTup (Zaa (dVar 0) (Zaa (dC (.bl true)) dNil)))) dNil)) (ρ:=[some (webD n ties),some (Zbo n),none]) (s:=s) (ds:=(List.range n).map fun p=>D.lst ((ZaR n (ZaV n ties) p).map nD)) (fun d=>[some d]) (fun _=>true) (fun d=>match d with | .lst ds=>.dk (kvA (ds.map nat0)) | _=>.non)
  (ZbZ (ZaL (Zae (ZaL (Zae rfl rfl) (ZlW n ties s (by omega) hl)) rfl) (Zgf n (ZaV n ties) (by omega) (by omega) s))) (by rw [List.length_map,List.length_range,ZaA];omega) (fun d hd=>by
  obtain ⟨p,hp,rfl⟩:=List.mem_map.mp hd
  refine ⟨rfl,rfl,fun _=>?_⟩
  have hnl:(ZaR n (ZaV n ties) p).length≤n:=by
   have:=List.length_filter_le (fun o=>tied (ZaV n ties) p o) (List.range n)
   rw [List.length_range] at this;exact this
  have hc2:=Zbf (src:=[none]) (fi:=ZaS (dVar 0)) (τ:=gOne 0) (ft:=Za2) (fe:=dTup (Zaa (dVar 0) (Zaa (dC (.bl true)) dNil))) (ρ:=[some (D.lst ((ZaR n (ZaV n ties) p).map nD))]) (s:=s) (ds:=(ZaR n (ZaV n ties) p).map nD) (fun d=>[some d]) (fun _=>true) (fun d=>D.tup [d,.bl true]) (ZbZ rfl) (by rw [List.length_map,ZaA];omega) (fun d hd=>⟨rfl,rfl,fun _=>ZbR (Zae rfl (Zae rfl rfl)) two_le⟩)
  rw [ZbL,List.map_map] at hc2
  refine ZaO (Zae hc2 rfl) ?_
  show (if ((ZaR n (ZaV n ties) p).map ((fun d=>D.tup [d,.bl true])∘nD)).length≤sizeLine then (Zdc [] _).map D.dk else none)=_
  rw [if_pos (by rw [List.length_map,ZaA];omega)]
  have e:=Zm3 (ZaR n (ZaV n ties) p) [] (List.nodup_range.sublist List.filter_sublist) fun _ _=>rfl
  show (Zdc [] ((ZaR n (ZaV n ties) p).map fun o=>D.tup [nD o,.bl true])).map D.dk=_
  rw [e]
  show some (D.dk (kvA (ZaR n (ZaV n ties) p)))=some (D.dk (kvA (((ZaR n (ZaV n ties) p).map nD).map nat0)))
  rw [List.map_map]
  have:(ZaR n (ZaV n ties) p).map (nat0∘nD)=ZaR n (ZaV n ties) p:=List.map_id _
  rw [this])
 rw [ZbL,List.map_map] at hc
 have e1:(List.range n).map ((fun d=>match d with | .lst ds=>D.dk (kvA (ds.map nat0)) | _=>.non)∘fun p=>D.lst ((ZaR n (ZaV n ties) p).map nD))=(List.range n).map fun p=>.dk (kvA (ZaR n (ZaV n ties) p)):=by
  refine List.map_congr_left fun p _=>?_
  show D.dk (kvA (((ZaR n (ZaV n ties) p).map nD).map nat0))=_
  rw [List.map_map]
  have:(ZaR n (ZaV n ties) p).map (nat0∘nD)=ZaR n (ZaV n ties) p:=List.map_id _
  rw [this]
 rw [e1] at hc
 have hb:=ZeJ (n:=n) (A:=ZaR n (ZaV n ties)) (ap:=tied (ZaV n ties)) ZiV s 26 (List.range n) (by rw [List.length_range];omega) (by omega) fun p hp=>List.mem_range.mp hp
 have hlr:ZbU (dOp dIx (dVar 0) (dC (.int 0))) [some (webD n ties),some (Zbo n),some (apsD n (ZaR n (ZaV n ties)))] s=some (.lst ((List.range n).map nD),s):=by
  unfold ZbU Zan
  rw [Zam (d:=webD n ties) (e:=.int 0) rfl rfl web0]
  show (if -(2 ^ 62)≤(n:Int)∧(n:Int)≤2 ^ 24 then mret (D.lst (ZaI 0 (n:Int).toNat)) else Zau) s=_
  rw [if_pos ⟨by omega,by omega⟩,Int.toNat_natCast,Zc1]
  rfl
 have hbl:=ZgA (ap:=tied (ZaV n ties)) 26 (List.range n)
 have hs:=ZmU hk.nd hlt (by omega)
 exact Za3 rfl (ZaX (ZbD hc) (ZaD (ZaY (ZaO (c:=tupN (Zcq n ties)) (Zae (ZaO (Zae (ZaL (Zae rfl (Zae rfl (Zae hlr rfl))) hb) rfl) hs) rfl) rfl))))
end TQ
namespace TQ
open PySem L2 TF TS
open TP
open TP2
open TP3
theorem Ziv (n:Nat) (hn:n≤1000):ZhL (.tup [nD 1]) (nD n)=some (Zbo n):=by
 show (if (n:Int)=1 then some (D.tup [nD 1]) else if (n:Int)=0∧[nD 1]≠[] then some (.tup []) else Zgw (.tup [nD 1]) (.int (n:Int)))=_
 by_cases h1:n=1
 ·subst h1;rw [if_pos (by omega)];rfl
 ·rw [if_neg (by omega)]
  by_cases h0:n=0
  ·subst h0;rw [if_pos ⟨by omega,by simp⟩];rfl
  ·rw [if_neg (by omega)]
   show (if [nD 1]≠[]∧2≤(n:Int)∧(n:Int)<2 ^ 62∧[nD 1].length*(n:Int).toNat≤sizeLine then some (D.tup (List.replicate (n:Int).toNat [nD 1]).flatten) else none)=_
   rw [if_pos ⟨by simp,by omega,by omega,by simp only [List.length_singleton,Int.toNat_natCast,ZaA];omega⟩,Int.toNat_natCast,List.flatten_replicate_singleton]
theorem Znp {n:Nat} {ties:List (Nat×Nat)} (hw:IsWeb n ties) (hn:n≤24):(Zhw n ties).length=(Zcq n ties).length:=by
 obtain ⟨a1,a2⟩:=Zhv hw hn
 obtain ⟨b1,b2⟩:=ZkO hw hn
 have:=a2 _ b1
 have:=b2 _ a1
 omega
end TQ
namespace TP3
open PySem L2 TF TP TS
open TP2
noncomputable abbrev om (n:Nat) (ties:List (Nat×Nat)):Nat:=(Zhw n ties).length
section
variable {n:Nat} {ties:List (Nat×Nat)}
end
end TP3
namespace TQ
open PySem L2 TF TS
open TP
open TP2
open TP3
theorem ZpM (n:Nat) (ties:List (Nat×Nat)) (hn:n≤1000) (hl:ties.length≤100000) (s:Pn):ZbW [webD n ties] s=some (Zbd n ties,s):=Zgf n ties hn hl s
theorem ZpD:∀m,Zba m=FHA m
 | 0=>rfl
 | m+1=>by
  show runB 9 3 (Zdj (Zba m))=runB 9 3 (gHA (FHA m))
  rw [ZpD m]
  rfl
theorem Zsq:ZbO=runB 3 2 gHK:=by
 unfold ZbO ZeF
 rw [ZpD]
 rfl
theorem ZoV (n:Nat) (ties:List (Nat×Nat)) (hn:n≤24) (hl:ties.length≤100000) (s:Pn):Zdz [webD n ties] s=some (.tup [nD (Zcq n ties).length,tupN (Zcq n ties)],s):=by
 have h:=Zo8 n ties hn hl s
 rw [←Zsq] at h
 exact Za3 rfl (ZaX (ZbD (ZaL (Zae rfl (Zae (Zam (ZbR (ds:=[nD 1]) (Zae rfl rfl) (by show 1≤sizeLine;decide)) (Zam (d:=webD n ties) (e:=.int 0) rfl rfl web0) (Ziv n (by omega))) rfl)) h)) (ZaD (ZaY (ZbR (ds:=[nD (Zcq n ties).length,tupN (Zcq n ties)]) (Zae (ZaO (Zae rfl rfl) (by show some (D.int _)=_;rw [List.length_map])) (Zae rfl rfl)) two_le))))
theorem ZjV {n:Nat} {ties:List (Nat×Nat)} (hw:IsWeb n ties) (hn:n≤24) (s:Pn):Zdz [webD n ties] s=some (.tup [nD (om n ties),tupN (Zcq n ties)],s):=by
 have hl:=hw.len hn
 have h:=ZoV n ties hn (by omega) s
 rw [←Znp hw hn] at h
 exact h
theorem ZqQ {n:Nat} {ties:List (Nat×Nat)} (hw:IsWeb n ties) (hn:n≤8) (s:Pn):Zb7 [webD n ties] s=some (.tup [nD (chi n ties),tupN (Za6 n ties)],s):=by
 have htl:=hw.len (by omega:n≤24)
 have hm:=ZjV hw (by omega) s
 have hon:∀many≤1000,∀(ρ:Rho),(ρ[1]?).bind id=some (Zbd n ties)→(ρ[2]?).bind id=some (nD many)→dFn (ZbY 10) (Zaa (dVar 1) (Zaa (dVar 2) (Zaa (dTup dNil) dNil))) ρ s=some (optT (dfs ties many n []),s):=fun many hmany ρ h1 h2=>
  ZaL (ds:=[Zbd n ties,nD many,tupN []]) (Zae (by unfold dVar mOf;rw [h1]) (Zae (by unfold dVar mOf;rw [h2]) (Zae (ZbR rfl (by decide)) rfl))) (ZhB (by omega) many hmany s n 10 [] (by simp) (by omega))
 obtain ⟨c1,c2,c3⟩:=Zeu n ties
 obtain ⟨f1,f2,f3,f4⟩:=Zc0 n ties
 have hmc:om n ties≤chi n ties:=ZgR hw (by omega:n≤24)
 apply Ok.toEq
 refine Ok.runB rfl ?_
 refine Ok.seq (.sset (.eq (ZaL (Zae rfl rfl) (ZpM n ties (by omega) (by omega) s)) ?_))
 refine Ok.seq (.sset (.eq (Zam (d:=.tup [nD (om n ties),tupN (Zcq n ties)]) (e:=.int 0) (ZaL (Zae rfl rfl) hm) rfl (Zfw _ _)) ?_))
 refine Ok.seq (.sset (.eq (hon _ (by omega) _ rfl rfl) ?_))
 refine Ok.seq (.swhile (fun m ρ s'=>s'=s∧∃k,m+k=chi n ties∧ρ=[some (webD n ties),some (Zbd n ties),some (nD k),some (optT (dfs ties k n []))]) (chi n ties-om n ties) (by omega) ⟨rfl,om n ties,by omega,rfl⟩ fun m ρ s' hI=>?_)
 obtain ⟨rfl,k,hk,rfl⟩:=hI
 cases m with
 | zero=>
  have:k=chi n ties:=by omega
  subst this
  rw [f1]
  refine .eq (a:=false) (ZaQ (Zam (d:=tupN (Za6 n ties)) (e:=.non) (c:=.bl false) rfl rfl rfl)) ?_
  rw [if_neg (by decide)]
  exact Ok.seq (.sret (.eq (Zk8 rfl rfl) ⟨rfl,rfl⟩))
 | succ m=>
  rw [c3 k (by omega)]
  refine .eq (a:=true) (ZaQ (Zam (d:=.non) (e:=.non) (c:=.bl true) rfl rfl rfl)) ?_
  rw [if_pos rfl]
  have ha:sAug 2 (chk true (dC (.int 1))) [some (webD n ties),some (Zbd n ties),some (nD k),some .non] s'=some (.nx [some (webD n ties),some (Zbd n ties),some (nD (k+1)),some .non],s'):=rfl
  refine Ok.seq (.eq ha ?_)
  refine Ok.seq (.sset (.eq (hon (k+1) (by omega) _ rfl rfl) (.next ⟨m,by omega,rfl,k+1,by omega,rfl⟩)))
theorem Zp2 {n:Nat} {ties:List (Nat×Nat)} {p:Nat} {qs:List Nat} {f:Nat→Nat} (hn:n≤24) (hpn:p<n) (hp:p∉qs) (hq:∀q∈qs,q<n) (hl:qs.length≤1000) (o1:Option D) (s:Pn) :
  (Zfg 3 (fun ρ=>(dVar 4) (hide [3] ρ)) (chk true (dFn Zb2 (Zaa (ZaP [none,some 3] (ZaS (dOp dIx (dVar 2) (dVar 4))) (gOne 0) (asB (dOp dIn (dVar 0) (dVar 1))) (dOp dIxK (dVar 1) (dVar 0))) dNil)))) [some (webD n ties),o1,some (Zbd n ties),some (.dk (kvF qs f)),some (nD p)] s
   = some (.nx [some (webD n ties),o1,some (Zbd n ties),some (.dk (kvF (qs ++ [p]) fun x=>if x=p then mex ((qs.filter fun o=>tied ties p o).map f) else f x)),some (nD p)],s):=by
 have hc:=Zbf (src:=[none,some 3]) (fi:=ZaS (dOp dIx (dVar 2) (dVar 4))) (τ:=gOne 0) (ft:=asB (dOp dIn (dVar 0) (dVar 1))) (fe:=dOp dIxK (dVar 1) (dVar 0)) (ρ:=[some (webD n ties),o1,some (Zbd n ties),some (.dk (kvF qs f)),some (nD p)]) (s:=s) (ds:=(ZaR n ties p).map nD) (fun d=>[some d,some (.dk (kvF qs f))]) (fun d=>decide (nat0 d∈qs)) (fun d=>nD (f (nat0 d)))
  (ZbZ (Zam (d:=Zbd n ties) (e:=nD p) rfl rfl (Zlv hpn))) (by
   have:=List.length_filter_le (fun o=>tied ties p o) (List.range n)
   rw [List.length_map,ZaA]
   rw [List.length_range] at this
   show (ZaR n ties p).length≤_
   unfold ZaR;omega) (fun d hd=>by
  obtain ⟨x,hx,rfl⟩:=List.mem_map.mp hd
  exact ⟨rfl,ZaQ (Zam (d:=nD x) (e:=.dk (kvF qs f)) rfl rfl (ZrH qs f x)),fun hb=>Zam (d:=.dk (kvF qs f)) (e:=nD x) rfl rfl (Znz (of_decide_eq_true hb))⟩)
 have e:(((ZaR n ties p).map nD).filter fun d=>decide (nat0 d∈qs)).map (fun d=>nD (f (nat0 d)))=(((ZaR n ties p).filter fun o=>decide (o∈qs)).map f).map nD:=by
  rw [List.filter_map,List.map_map,List.map_map];rfl
 rw [e] at hc
 have hlen:(((ZaR n ties p).filter fun o=>decide (o∈qs)).map f).length≤1000:=by
  rw [List.length_map]
  have h1:=List.length_filter_le (fun o=>decide (o∈qs)) (ZaR n ties p)
  have h2:=List.length_filter_le (fun o=>tied ties p o) (List.range n)
  rw [List.length_range] at h2
  unfold ZaR at h1;unfold ZaR;omega
 have hm:mex (((ZaR n ties p).filter fun o=>decide (o∈qs)).map f)=mex ((qs.filter fun o=>tied ties p o).map f):=Zix fun x=>by
  simp only [ZaR,List.mem_map,List.mem_filter,List.mem_range,decide_eq_true_eq]
  constructor
  ·rintro ⟨a,⟨⟨_,h2⟩,h3⟩,rfl⟩;exact ⟨a,⟨h3,h2⟩,rfl⟩
  ·rintro ⟨a,⟨h3,h2⟩,rfl⟩;exact ⟨a,⟨⟨hq a h3,h2⟩,h3⟩,rfl⟩
 have hf:=ZiY (((ZaR n ties p).filter fun o=>decide (o∈qs)).map f) hlen s
 rw [hm] at hf
 have hv:(chk true (dFn Zb2 (Zaa (ZaP [none,some 3] (ZaS (dOp dIx (dVar 2) (dVar 4))) (gOne 0) (asB (dOp dIn (dVar 0) (dVar 1))) (dOp dIxK (dVar 1) (dVar 0))) dNil))) [some (webD n ties),o1,some (Zbd n ties),some (.dk (kvF qs f)),some (nD p)] s=some (nD (mex ((qs.filter fun o=>tied ties p o).map f)),s):=Zn2 (ZaL (Zae hc rfl) hf) rfl
 rw [Zli hv (x:=nD p) rfl (kvs:=kvF qs f) rfl rfl rfl (by unfold kvF;rw [List.length_map,ZaA];omega),Zlx hp]
 rfl
theorem Zj6 (n:Nat) (ties:List (Nat×Nat)) (hw:IsWeb n ties) (hn:n≤24) {ps:List Nat} (hp:ps.Perm (List.range n)) (s:Pn):ZbN [webD n ties,.lst (ps.map nD)] s=some (tupN (ZbG n ties ps),s):=by
 have nd:ps.Nodup:=hp.nodup_iff.mpr List.nodup_range
 have hl:ps.length=n:=by rw [hp.length_eq,List.length_range]
 have hlt:∀q∈ps,q<n:=fun q hq=>List.mem_range.mp (hp.mem_iff.mp hq)
 have hlt2:=hw.len hn
 refine Ok.toEq (Ok.runB rfl (Ok.seq (.sset (.eq (ZaL (Zae rfl rfl) (ZpM n ties (by omega) (by omega) s)) (Ok.seq (Ok.sown (.eq (a:=.dk []) rfl ⟨rfl,?_⟩)))))))
 refine Ok.seq (.sfor (fun k ρ s'=>s'=s∧k≤ps.length∧∃o3,ρ=[some (webD n ties),some (.lst (ps.map nD)),some (Zbd n ties),some (.dk (kvF (ps.take k) (hr ties (ps.take k).reverse))),o3]) (.eq (a:=ps.map nD) (s':=s) (ZbZ rfl) ⟨⟨rfl,Nat.zero_le _,none,by rw [List.take_zero];rfl⟩,fun k d ρ s' hd hI=>?_,fun ρ' s' hI=>?_⟩))
 ·obtain ⟨rfl,_,o3,rfl⟩:=hI
  rw [List.getElem?_map] at hd
  cases e:ps[k]? with
  | none=>rw [e] at hd;cases hd
  | some p=>
   rw [e] at hd
   cases hd
   refine ⟨_,rfl,Ok.seq (.eq (Zp2 (f:=hr ties (ps.take k).reverse) hn (hlt p (List.mem_of_getElem? e)) (ZlQ nd e) (fun q hq=>hlt q (List.take_subset _ _ hq)) (by rw [List.length_take];omega) _ s') (.next ⟨_,rfl,rfl,?_,some (nD p),?_⟩))⟩
   ·have:=(List.getElem?_eq_some_iff.mp e).1;omega
   ·rw [ZqL ties e,Zex e]
 ·obtain ⟨rfl,_,o3,rfl⟩:=hI
  rw [List.length_map,List.take_length]
  have hc:=Zbf (src:=[none,some 3]) (fi:=Za1 (dOp dIx (dVar 0) (dC (.int 0)))) (τ:=gOne 0) (ft:=Za2) (fe:=dOp dIxK (dVar 1) (dVar 0)) (ρ:=[some (webD n ties),some (.lst (ps.map nD)),some (Zbd n ties),some (.dk (kvF ps (hr ties ps.reverse))),o3]) (s:=s') (ds:=ZaI 0 n) (fun d=>[some d,some (.dk (kvF ps (hr ties ps.reverse)))]) (fun _=>true) (fun d=>nD (hr ties ps.reverse (nat0 d)))
   (Zbz (Zam (d:=webD n ties) (e:=.int 0) rfl rfl web0) (by omega)) (by rw [Za8,ZaA];omega) (fun d hd=>by
   obtain ⟨i,hi,rfl⟩:=Zdu hd
   exact ⟨rfl,rfl,fun _=>Zam (d:=.dk (kvF ps (hr ties ps.reverse))) (e:=nD i) rfl rfl (Znz (hp.mem_iff.mpr (List.mem_range.mpr hi)))⟩)
  rw [ZbL,Zc1,List.map_map] at hc
  refine Ok.seq (.sret (.eq (ZaO (Zae hc rfl) (c:=tupN (ZbG n ties ps)) ?_) ⟨rfl,rfl⟩))
  show some (D.tup _)=some (D.tup _)
  unfold ZbG
  rw [List.map_map];rfl
end TQ
namespace TQ
open PySem L2 TF TS
open TP
open TP2
open TP3
section
variable {ties:List (Nat×Nat)} {ws:List Wb}
end
end TQ
namespace TQ
open PySem L2 TF TS
open TP
open TP2
open TP3
section
variable {n m:Nat} {t1 t2 T:List (Nat×Nat)}
theorem ZmJ {l L:List Nat} (nd:L.Nodup) (h:∀x,x∈l↔x∈L):unlike (ZaB l)=L.length:=by
 obtain ⟨u1,u2⟩:=Zdm (ZaB l)
 have u3:(ZaB L).Nodup:=List.pairwise_map.mpr (nd.imp fun h z=>h (by omega))
 have mem:∀(k:List Nat) (x:Int),x∈ZaB k↔∃y∈k,(y:Int)=x:=fun k x=>List.mem_map
 have a:(List.foldl PyProof.Rows.step_dedup [] (ZaB l)).length≤(ZaB L).length:=ZbK u1 fun x hx=>by
  obtain ⟨y,hy,rfl⟩:=(mem l x).mp ((u2 x).mp hx)
  exact (mem L _).mpr ⟨y,(h y).mp hy,rfl⟩
 have b:(ZaB L).length≤(List.foldl PyProof.Rows.step_dedup [] (ZaB l)).length:=ZbK u3 fun x hx=>by
  obtain ⟨y,hy,rfl⟩:=(mem L x).mp hx
  exact (u2 _).mpr ((mem l _).mpr ⟨y,(h y).mpr hy,rfl⟩)
 have c:(ZaB L).length=L.length:=List.length_map _
 unfold unlike
 omega
end
end TQ
namespace TQ
open PySem L2 TF TS
open TP
open TP2
open TP3
section
variable {ties:List (Nat×Nat)}
theorem Zie (p:Nat) (b:List Nat):hr ties (p::b) p=mex ((b.filter fun o=>tied ties p o).map (hr ties b)):=by
 show (if p=p then _ else _)=_
 rw [if_pos rfl]
theorem Ze4 {p x:Nat} {b:List Nat} (h:x≠p):hr ties (p::b) x=hr ties b x:=by
 show (if x=p then _ else _)=_
 rw [if_neg h]
theorem Zj8:∀{qs:List Nat},qs.Nodup→∀x∈qs,∀y∈qs,x≠y→tied ties x y=true→hr ties qs x≠hr ties qs y
 | [],_,x,hx,_,_,_,_=>by simp at hx
 | p::b,nd,x,hx,y,hy,ne,ht=>by
  have nd':=List.nodup_cons.mp nd
  have key:∀z∈b,tied ties p z=true→hr ties (p::b) p≠hr ties (p::b) z:=fun z hz hp=>by
   have hzp:z≠p:=fun e=>nd'.1 (e▸hz)
   rw [Zie,Ze4 hzp]
   intro e
   exact (Zeo _).1 (by rw [e];exact List.mem_map.mpr ⟨z,List.mem_filter.mpr ⟨hz,hp⟩,rfl⟩)
  by_cases ex:x=p
  ·subst ex
   have hy':y∈b:=(List.mem_cons.mp hy).resolve_left fun z=>ne z.symm
   exact key y hy' ht
  ·have hx':x∈b:=(List.mem_cons.mp hx).resolve_left ex
   by_cases ey:y=p
   ·subst ey
    exact (key x hx' (by rw [ZcG];exact ht)).symm
   ·have hy':y∈b:=(List.mem_cons.mp hy).resolve_left ey
    rw [Ze4 ex,Ze4 ey]
    exact Zj8 nd'.2 x hx' y hy' ne ht
theorem ZpC:∀{qs:List Nat},∀x∈qs,hr ties qs x<qs.length
 | [],x,hx=>by simp at hx
 | p::b,x,hx=>by
  by_cases ex:x=p
  ·subst ex
   rw [Zie]
   have h1:=ZrD ((b.filter fun o=>tied ties x o).map (hr ties b))
   have h2:=List.length_filter_le (fun o=>tied ties x o) b
   rw [List.length_map] at h1
   rw [List.length_cons];omega
  ·have hx':x∈b:=(List.mem_cons.mp hx).resolve_left ex
   rw [Ze4 ex,List.length_cons]
   have:=ZpC x hx'
   omega
theorem Zj9 {c:Nat→Nat}:∀{qs:List Nat},qs.Nodup→qs.Pairwise (fun a b=>c b≤c a)→(∀x∈qs,∀y∈qs,x≠y→tied ties x y=true→c x≠c y)→∀x∈qs,hr ties qs x≤c x
 | [],_,_,_,x,hx=>by simp at hx
 | p::b,nd,pw,hc,x,hx=>by
  have nd':=List.nodup_cons.mp nd
  have pw':=List.pairwise_cons.mp pw
  have ih:=Zj9 nd'.2 pw'.2 fun x hx y hy=>hc x (by simp [hx]) y (by simp [hy])
  by_cases ex:x=p
  ·subst ex
   rw [Zie]
   rcases Nat.lt_or_ge (c x) (mex ((b.filter fun o=>tied ties x o).map (hr ties b))) with h | h
   ·have:=(Zeo _).2 _ h
    obtain ⟨y,hy,e⟩:=List.mem_map.mp this
    obtain ⟨hyb,hyt⟩:=List.mem_filter.mp hy
    have h1:=ih y hyb
    have h2:=pw'.1 y hyb
    have h3:=hc x (by simp) y (by simp [hyb]) (fun z=>nd'.1 (z▸hyb)) hyt
    omega
   ·exact h
  ·rw [Ze4 ex]
   exact ih x ((List.mem_cons.mp hx).resolve_left ex)
variable {n:Nat} {ps:List Nat}
theorem ZnM:(ZbG n ties ps).length=n:=by unfold ZbG;simp
theorem Zf6 {i:Nat} (h:i<n):(ZbG n ties ps).getD i 0=hr ties ps.reverse i:=by
 unfold ZbG
 rw [List.getD_eq_getElem?_getD,List.getElem?_map,List.getElem?_range h];rfl
theorem ZnL {x:Nat}:x∈ZbG n ties ps↔∃i<n,hr ties ps.reverse i=x:=by
 unfold ZbG
 simp
theorem Zh0 (hp:ps.Perm (List.range n)):ps.reverse.Nodup∧(∀i,i∈ps.reverse↔i<n)∧ps.reverse.length=n:=
 ⟨(List.reverse_perm ps).nodup_iff.mpr (hp.nodup_iff.mpr List.nodup_range),fun i=>by rw [List.mem_reverse,hp.mem_iff,List.mem_range],by rw [List.length_reverse,hp.length_eq,List.length_range]⟩
theorem ZkU (hp:ps.Perm (List.range n)) {a b:Nat} (ha:a<n) (hb:b<n) (ne:a≠b) (ht:tied ties a b=true):(ZbG n ties ps).getD a 0≠(ZbG n ties ps).getD b 0:=by
 obtain ⟨nd,mm,_⟩:=Zh0 hp
 rw [Zf6 ha,Zf6 hb]
 exact Zj8 nd a ((mm a).mpr ha) b ((mm b).mpr hb) ne ht
theorem Zo7 (hp:ps.Perm (List.range n)) {a:Nat} (ha:a<n):(ZbG n ties ps).getD a 0<n:=by
 obtain ⟨nd,mm,ll⟩:=Zh0 hp
 rw [Zf6 ha]
 have:=ZpC (ties:=ties) a ((mm a).mpr ha)
 omega
structure RightH (n:Nat) (ties:List (Nat×Nat)) (f:List Nat):Prop where
 len:f.length=n
 lt:∀a<n,f.getD a 0<n
 ri:∀a<n,∀b<n,a≠b→tied ties a b=true→f.getD a 0≠f.getD b 0
theorem Zf5 (hp:ps.Perm (List.range n)):RightH n ties (ZbG n ties ps):=⟨ZnM,fun a ha=>Zo7 hp ha,fun a ha b hb ne ht=>ZkU hp ha hb ne ht⟩
theorem RightH.hueB {f:List Nat} (R:RightH n ties f) (hw:IsWeb n ties):hueB n ties (tupN f)=true:=by
 rw [ZnP hw R.len,Bool.and_eq_true,List.all_eq_true,List.all_eq_true]
 constructor
 ·intro y hy
  obtain ⟨i,hi,rfl⟩:=List.mem_iff_getElem.mp hy
  have:=R.lt i (by rw [←R.len];exact hi)
  rw [List.getD_eq_getElem?_getD,List.getElem?_eq_getElem hi] at this
  exact decide_eq_true this
 ·intro p hp
  obtain ⟨q1,q2⟩:=hw.mem hp
  have:=R.ri p.1 (by omega) p.2 q2 (by omega) (by rw [Zjn,Nat.min_eq_left (by omega),Nat.max_eq_right (by omega)];exact hp)
  simpa using this
theorem Zj5:RightH n ties (Za6 n ties):=by
 refine ⟨(Zc0 n ties).2.2.1,fun a ha=>Nat.lt_of_lt_of_le (Zlz ha) (Zeu n ties).1,fun a ha b hb ne ht=>Zhz ha hb ht ne⟩
theorem RightH.unlike_ge {f:List Nat} (R:RightH n ties f):chi n ties≤unlike (ZaB f):=by
 obtain ⟨u1,u2⟩:=Zdm (ZaB f)
 have:=Zn3 (n:=n) (ties:=ties) (fun i=>f.getD i 0) ((List.foldl PyProof.Rows.step_dedup [] (ZaB f)).map Int.toNat) (fun a b hab hb h=>R.ri a (by omega) b hb (by omega) h) fun i hi=>by
  refine List.mem_map.mpr ⟨((f.getD i 0:Nat):Int),(u2 _).mpr (List.mem_map.mpr ⟨f.getD i 0,?_,rfl⟩),by simp⟩
  rw [List.getD_eq_getElem?_getD,List.getElem?_eq_getElem (by rw [R.len];exact hi)]
  exact List.getElem_mem _
 rw [List.length_map] at this
 exact this
theorem Zjm {f:List Nat} {m:Nat} (h:∀x∈f,x<m):unlike (ZaB f)≤m:=by
 obtain ⟨u1,u2⟩:=Zdm (ZaB f)
 have:=ZbK (b:=ZaB (List.range m)) u1 fun x hx=>by
  obtain ⟨y,hy,rfl⟩:=List.mem_map.mp ((u2 x).mp hx)
  exact List.mem_map.mpr ⟨y,List.mem_range.mpr (h y hy),rfl⟩
 have e:(ZaB (List.range m)).length=m:=by unfold ZaB;simp
 unfold unlike
 omega
end
noncomputable def ZaE (f:List Nat):List Nat:=f.foldl (fun a x=>if x∈a then a else a ++ [x]) []
noncomputable def ZaT (W f:List Nat) (k h:Nat):Nat:=mxN (((List.range k).filter fun p=>decide (f.getD p 0=h)).map fun p=>W.getD p 0)
noncomputable def whue (W f:List Nat):Nat:=((ZaE f).map (ZaT W f f.length)).sum
theorem Zj7 (f:List Nat) (x:Nat):ZaE (f ++ [x])=if x∈ZaE f then ZaE f else ZaE f ++ [x]:=by
 unfold ZaE
 rw [List.foldl_append]
 rfl
theorem Zf2:∀(f a:List Nat),a.Nodup→(f.foldl (fun a x=>if x∈a then a else a ++ [x]) a).Nodup∧∀x,x∈f.foldl (fun a x=>if x∈a then a else a ++ [x]) a↔x∈a∨x∈f
 | [],a,h=>⟨h,fun x=>by simp⟩
 | y::f,a,h=>by
  rw [List.foldl_cons]
  by_cases hy:y∈a
  ·rw [if_pos hy]
   obtain ⟨h1,h2⟩:=Zf2 f a h
   refine ⟨h1,fun x=>?_⟩
   rw [h2,List.mem_cons]
   constructor
   ·rintro (z | z)
    ·exact .inl z
    ·exact .inr (.inr z)
   ·rintro (z | rfl | z)
    ·exact .inl z
    ·exact .inl hy
    ·exact .inr z
  ·rw [if_neg hy]
   obtain ⟨h1,h2⟩:=Zf2 f (a ++ [y]) (List.nodup_append.mpr ⟨h,by simp,fun u hu v hv=>by rw [List.mem_singleton.mp hv];rintro rfl;exact hy hu⟩)
   refine ⟨h1,fun x=>?_⟩
   rw [h2,List.mem_append,List.mem_singleton,List.mem_cons,or_assoc]
theorem ZcQ (f:List Nat):(ZaE f).Nodup∧∀x,x∈ZaE f↔x∈f:=by
 obtain ⟨h1,h2⟩:=Zf2 f [] List.nodup_nil
 exact ⟨h1,fun x=>(h2 x).trans (by simp)⟩
theorem ZkW (f:List Nat):(ZaE f).length=unlike (ZaB f):=by
 obtain ⟨h1,h2⟩:=ZcQ f
 exact (ZmJ h1 fun x=>(h2 x).symm).symm
theorem ZkV (W f:List Nat) (k h:Nat):ZaT W f (k+1) h=if f.getD k 0=h then max (ZaT W f k h) (W.getD k 0) else ZaT W f k h:=by
 unfold ZaT
 rw [List.range_succ,List.filter_append]
 by_cases e:f.getD k 0=h
 ·rw [if_pos e,List.filter_cons_of_pos (by simpa using e),List.filter_nil,List.map_append]
  unfold mxN
  rw [List.foldl_append]
  rfl
 ·rw [if_neg e,List.filter_cons_of_neg (by simpa using e),List.filter_nil,List.append_nil]
theorem ZnO {W f:List Nat} {k p:Nat} (hp:p<k):W.getD p 0≤ZaT W f k (f.getD p 0):=ZjT (List.mem_map.mpr ⟨p,List.mem_filter.mpr ⟨List.mem_range.mpr hp,by simp⟩,rfl⟩)
theorem ZnN {W f:List Nat} {k h b:Nat} (hb:∀p<k,W.getD p 0≤b):ZaT W f k h≤b:=Zno fun x hx=>by
 obtain ⟨p,hp,rfl⟩:=List.mem_map.mp hx
 exact hb p (List.mem_range.mp (List.mem_filter.mp hp).1)
theorem ZmG {n:Nat} {f:List Nat} (hl:f.length=n):whue (List.replicate n 1) f=unlike (ZaB f):=by
 have e:(ZaE f).map (ZaT (List.replicate n 1) f f.length)=(ZaE f).map fun _=>1:=List.map_congr_left fun h hh=>by
  obtain ⟨p,hp,e⟩:=List.mem_iff_getElem.mp (((ZcQ f).2 h).mp hh)
  have hg:(List.replicate n 1).getD p 0=1:=by rw [List.getD_eq_getElem?_getD,List.getElem?_replicate,if_pos (by omega)];rfl
  have hf:f.getD p 0=h:=by rw [List.getD_eq_getElem?_getD,List.getElem?_eq_getElem hp,←e];rfl
  have h1:=ZnO (W:=List.replicate n 1) (f:=f) hp
  rw [hg,hf] at h1
  have h2:=ZnN (W:=List.replicate n 1) (f:=f) (k:=f.length) (h:=h) (b:=1) fun q hq=>by rw [List.getD_eq_getElem?_getD,List.getElem?_replicate,if_pos (by omega)];exact Nat.le_refl _
  omega
 unfold whue
 rw [e,List.map_const',List.sum_replicate_nat,Nat.mul_one,ZkW]
theorem ZqE {g:Nat→Nat} {x v:Nat} {qs:List Nat} (h:x∈qs):putK (kvF qs g) (Sum.inl (x:Int)) (.int (v:Int))=kvF qs fun y=>if y=x then v else g y:=by
 unfold putK
 rw [if_pos]
 ·unfold kvF
  rw [List.map_map]
  refine List.map_congr_left fun q _=>?_
  show (if (Sum.inl (q:Int):Key)=Sum.inl (x:Int) then (Sum.inl (q:Int),V.int (v:Int)) else (Sum.inl (q:Int),V.int (g q:Int)))=(Sum.inl (q:Int),V.int ((if q=x then v else g q:Nat):Int))
  by_cases e:q=x
  ·subst e;rw [if_pos rfl,if_pos rfl]
  ·rw [if_neg (fun z=>e (by injection z with z;omega)),if_neg e]
 ·rw [List.any_eq_true]
  exact ⟨_,List.mem_map.mpr ⟨x,h,rfl⟩,by simp⟩
theorem ZqF (qs:List Nat) (g:Nat→Nat):Zev (kvF qs g)=some (ZaB (qs.map g)):=by
 induction qs with
 | nil=>rfl
 | cons q qs ih=>
  show (Zev (kvF qs g)).map (((g q:Nat):Int) :: ·)=_
  rw [ih];rfl
theorem Zjp:∀l:List Nat,(ZaB l).sum=((l.sum:Nat):Int)
 | []=>rfl
 | x::r=>by
  show ((x:Nat):Int)+(ZaB r).sum=_
  rw [Zjp r,List.sum_cons];omega
theorem Zgn {f:List Nat} {i:Nat} (h:i<f.length):dIx (tupN f) (nD i)=some (nD (f.getD i 0)):=by
 refine Zb6 ?_
 rw [List.getElem?_map,List.getElem?_eq_getElem h,List.getD_eq_getElem?_getD,List.getElem?_eq_getElem h];rfl
theorem ZmD (W f:List Nat) (hl:W.length=f.length) (hs:f.length≤1000) (s:Pn):ZbS [tupN W,tupN f] s=some (nD (whue W f),s):=by
 refine Ok.toEq (Ok.runB rfl (Ok.seq (Ok.sown (.eq (a:=.dk []) rfl ⟨rfl,?_⟩))))
 refine Ok.seq (.sfor (fun k ρ s'=>s'=s∧k≤f.length∧∃o3,ρ=[some (tupN W),some (tupN f),some (.dk (kvF (ZaE (f.take k)) (ZaT W f k))),o3]) (.eq (a:=ZaI 0 f.length) (s':=s) (Zbz (n:=f.length) (ZaO (Zae rfl rfl) (by show some (D.int _)=_;rw [List.length_map])) (by omega)) ⟨⟨rfl,Nat.zero_le _,none,by rw [List.take_zero];rfl⟩,fun k d ρ s' hd hI=>?_,fun ρ' s' hI=>?_⟩))
 ·obtain ⟨rfl,_,o3,rfl⟩:=hI
  obtain ⟨hk,rfl⟩:=ZdM hd
  refine ⟨_,rfl,?_⟩
  have hfk:f[k]?=some (f.getD k 0):=by rw [List.getD_eq_getElem?_getD,List.getElem?_eq_getElem hk];rfl
  have hkeys:ZaE (f.take (k+1))=if f.getD k 0∈ZaE (f.take k) then ZaE (f.take k) else ZaE (f.take k) ++ [f.getD k 0]:=by rw [Zex hfk,Zj7]
  have hlen:(ZaE (f.take k)).length≤1000:=by
   have:=ZbK (ZcQ (f.take k)).1 fun x hx=>((ZcQ (f.take k)).2 x).mp hx
   rw [List.length_take] at this;omega
  have hget:ZhN (dVar 2) (dOp dIx (dVar 1) (dVar 3)) (dC (.int 0)) [some (tupN W),some (tupN f),some (.dk (kvF (ZaE (f.take k)) (ZaT W f k))),some (nD k)] s'=some (nD (if f.getD k 0∈ZaE (f.take k) then ZaT W f k (f.getD k 0) else 0),s'):=by
   unfold ZhN Zan
   rw [show dVar 2 [some (tupN W),some (tupN f),some (.dk (kvF (ZaE (f.take k)) (ZaT W f k))),some (nD k)] s'=some (.dk (kvF (ZaE (f.take k)) (ZaT W f k)),s') from rfl]
   dsimp only
   rw [Zam (d:=tupN f) (e:=nD k) rfl rfl (Zgn hk)]
   show (match valV (kvF (ZaE (f.take k)) (ZaT W f k)) (Sum.inl ((f.getD k 0:Nat):Int)) with | some v=>mOf (vD v) | none=>mret (D.int 0)) s'=_
   rw [Ze2]
   by_cases h:f.getD k 0∈ZaE (f.take k)
   ·rw [if_pos h,if_pos h];rfl
   ·rw [if_neg h,if_neg h];rfl
  have hnone:f.getD k 0∉ZaE (f.take k)→ZaT W f k (f.getD k 0)=0:=fun h=>by
   have:((List.range k).filter fun p=>decide (f.getD p 0=f.getD k 0))=[]:=List.filter_eq_nil_iff.mpr fun p hp z=>by
    have hp:=List.mem_range.mp hp
    refine h (((ZcQ _).2 _).mpr ?_)
    rw [←of_decide_eq_true z]
    refine List.mem_of_getElem? (i:=p) ?_
    rw [List.getElem?_take,if_pos hp,List.getD_eq_getElem?_getD,List.getElem?_eq_getElem (by omega)];rfl
   unfold ZaT
   rw [this];rfl
  have hval:(if f.getD k 0∈ZaE (f.take k) then ZaT W f k (f.getD k 0) else 0)=ZaT W f k (f.getD k 0):=by
   by_cases h:f.getD k 0∈ZaE (f.take k)
   ·rw [if_pos h]
   ·rw [if_neg h,hnone h]
  rw [hval] at hget
  have hv:(chk true (Zay Zgx (Zaa (dOp dIx (dVar 0) (dVar 3)) (Zaa (ZhN (dVar 2) (dOp dIx (dVar 1) (dVar 3)) (dC (.int 0))) dNil)))) [some (tupN W),some (tupN f),some (.dk (kvF (ZaE (f.take k)) (ZaT W f k))),some (nD k)] s'=some (nD (max (W.getD k 0) (ZaT W f k (f.getD k 0))),s'):=
   Zn2 (ZaO (Zae (Zam (d:=tupN W) (e:=nD k) rfl rfl (Zgn (by omega))) (Zae hget rfl)) (maxN _ _)) rfl
  have hx:(fun ρ=>(dOp dIx (dVar 1) (dVar 3)) (hide [2] ρ)) [some (tupN W),some (tupN f),some (.dk (kvF (ZaE (f.take k)) (ZaT W f k))),some (nD k)] s'=some (nD (f.getD k 0),s'):=Zam (d:=tupN f) (e:=nD k) rfl rfl (Zgn hk)
  refine Ok.seq (.eq (Zli hv hx (kvs:=kvF (ZaE (f.take k)) (ZaT W f k)) rfl rfl rfl (by unfold kvF;rw [List.length_map,ZaA];omega)) (.next ⟨_,rfl,rfl,by omega,some (nD k),?_⟩))
  have hput:putK (kvF (ZaE (f.take k)) (ZaT W f k)) (Sum.inl ((f.getD k 0:Nat):Int)) (.int ((max (W.getD k 0) (ZaT W f k (f.getD k 0)):Nat):Int))=kvF (ZaE (f.take (k+1))) (ZaT W f (k+1)):=by
   have hfun:(fun y=>if y=f.getD k 0 then max (W.getD k 0) (ZaT W f k (f.getD k 0)) else ZaT W f k y)=ZaT W f (k+1):=by
    funext y
    rw [ZkV]
    by_cases e:y=f.getD k 0
    ·rw [if_pos e,if_pos e.symm,e,Nat.max_comm]
    ·rw [if_neg e,if_neg fun z=>e z.symm]
   rw [hkeys]
   by_cases h:f.getD k 0∈ZaE (f.take k)
   ·rw [if_pos h,ZqE h,hfun]
   ·rw [if_neg h,Zlx h,hfun]
  rw [←hput];rfl
 ·obtain ⟨rfl,_,o3,rfl⟩:=hI
  rw [Za8,List.take_length]
  refine Ok.seq (.sret (.eq (a:=nD (whue W f)) ?_ ⟨rfl,rfl⟩))
  unfold Zg4 Zan
  rw [show dVar 2 [some (tupN W),some (tupN f),some (.dk (kvF (ZaE f) (ZaT W f f.length))),o3] s'=some (.dk (kvF (ZaE f) (ZaT W f f.length)),s') from rfl]
  show (match Zev (kvF (ZaE f) (ZaT W f f.length)) with | some ns=>mret (D.int ns.sum) | none=>Zau) s'=_
  rw [ZqF]
  show some (D.int (ZaB ((ZaE f).map (ZaT W f f.length))).sum,s')=_
  rw [Zjp];rfl
end TQ
namespace K21
open PySem L2 TF TQ TS
open TP
open TP2
open TP3
theorem ZoR (n:Nat):Zbo n=tupN (List.replicate n 1):=by
 show D.tup _=D.tup _
 rw [List.map_replicate]
theorem Zqr (n:Nat) (ties:List (Nat×Nat)) (hn:n≤1000) (s:Pn):Zgh [webD n ties] s=some (tupN (List.replicate n 1),s):=by
 rw [←ZoR]
 exact Za3 rfl (ZaD (ZaY (Zam (ZbR (ds:=[nD 1]) (Zae rfl rfl) (by show 1≤sizeLine;decide)) (Zam (d:=webD n ties) (e:=.int 0) rfl rfl web0) (Ziv n hn))))
theorem leI (a b:Int):dLe (.int a) (.int b)=some (.bl (decide (a≤b))):=rfl
theorem Zq5 (x:Str):dEqO (.str x) (.str x)=some (.bl true):=ZqR rfl (by simp [dep])
theorem ZhA {n:Nat} {ties:List (Nat×Nat)} (hw:IsWeb n ties) (hn:n≤24) {f:List Nat} (R:RightH n ties f) (k:Int) (s:Pn):Zco [webD n ties,.int k,.tup [.str (Str.ofString "hues"),tupN f]] s=some (.bl (decide (((unlike (ZaB f):Nat):Int)≤k-1)),s):=by
 have hfl:=R.len
 have hh:=Zf3 hw hn (t:=tupN f) (ZeC _).1 (ZeC _).2 (fun ds e=>by cases e;rw [List.length_map];omega) s
 rw [R.hueB hw] at hh
 have hb:=ZmD (List.replicate n 1) f (by simp;omega) (by omega) s
 rw [ZmG hfl] at hb
 have t1:=Zer (d:=.tup [.str (Str.ofString "hues"),tupN f]) rfl 1 s
 have t2:=Zer (d:=.tup [.str (Str.ofString "hues"),tupN f]) rfl 2 s
 refine Za3 rfl (ZaD (ZaY (ZaL (Zae rfl (Zae rfl (Zae (ZaL (Zae rfl rfl) (Zqr n ties (by omega) s)) (Zae (Zam (d:=.int k) (e:=.int 1) (c:=.int (k-1)) rfl rfl rfl) (Zae rfl rfl))))) ?_)))
 refine Ok.toEq (Ok.runB (g:=Zfq (Zcb 25)) rfl ?_)
 refine Ok.seq (.sif (.eq (a:=false) (ZaQ (ZaL (Zae rfl (Zae rfl rfl)) t1)) (.next ?_)))
 refine Ok.seq (.sif (.eq (a:=true) (ZaQ (ZaL (Zae rfl (Zae rfl rfl)) t2)) ?_))
 refine Ok.seq (.sret (.eq (Zk6 (a:=true) (Zam (d:=.str (Str.ofString "hues")) (e:=.str (Str.ofString "hues")) (Zam (d:=.tup [.str (Str.ofString "hues"),tupN f]) (e:=.int 0) rfl rfl (Zfw _ _)) rfl (Zq5 _)) (Zk6 (a:=true) (ZaL (Zae rfl (Zae (Zam (d:=.tup [.str (Str.ofString "hues"),tupN f]) (e:=.int 1) rfl rfl (Zfv _ _ _)) rfl)) hh) (Zam (d:=.int ((unlike (ZaB f):Nat):Int)) (e:=.int (k-1)) (ZaL (Zae rfl (Zae (Zam (d:=.tup [.str (Str.ofString "hues"),tupN f]) (e:=.int 1) rfl rfl (Zfv _ _ _)) rfl)) hb) rfl (leI _ _)))) ⟨?_,rfl⟩))
 rw [Bool.true_and,Bool.true_and]
noncomputable def unP (l:List Int):Nat×Nat:=((l.getD 0 0).toNat,(l.getD 1 0).toNat)
theorem Ze7 (p:Nat×Nat):unP (ZbA p)=p:=by
 show (((p.1:Int)).toNat,((p.2:Int)).toNat)=p
 rw [Int.toNat_natCast,Int.toNat_natCast]
theorem ZlU (L:List (Nat×Nat)) (nd:L.Nodup) (hl:L.length<64):∃L':List (Nat×Nat),L'.Perm L∧Zgv [.lst (L.map ZaH)]=some (.lst (L'.map ZaH))∧L'.Pairwise fun a b=>a.1≤b.1:=by
 have hp:=Zhh (L.map ZbA)
 have mm:∀x∈Zb3 (L.map ZbA),ZbA (unP x)=x:=fun x hx=>by
  obtain ⟨p,_,rfl⟩:=List.mem_map.mp (hp.mem_iff.mp hx)
  rw [Ze7]
 have e1:((Zb3 (L.map ZbA)).map unP).map ZbA=Zb3 (L.map ZbA):=by
  rw [List.map_map]
  conv=>rhs;rw [←List.map_id (Zb3 (L.map ZbA))]
  exact List.map_congr_left fun x hx=>mm x hx
 refine ⟨(Zb3 (L.map ZbA)).map unP,?_,?_,?_⟩
 ·have:=hp.map unP
  rw [List.map_map] at this
  have e:L.map (unP∘ZbA)=L:=by
   conv=>rhs;rw [←List.map_id L]
   exact List.map_congr_left fun p _=>Ze7 p
  rw [e] at this
  exact this
 ·have e:L.map ZaH=(L.map ZbA).map tupI:=by rw [List.map_map];rfl
  show (match Zc5 (L.map ZaH) with | some nss=>if Zen nss then some (D.lst ((Zb3 nss).map tupI)) else none | none=>none)=_
  rw [e,Zhd]
  show (if Zen (L.map ZbA) then some (D.lst ((Zb3 (L.map ZbA)).map tupI)) else none)=_
  rw [if_pos]
  ·have e2:((Zb3 (L.map ZbA)).map unP).map ZaH=(Zb3 (L.map ZbA)).map tupI:=by
    conv=>rhs;rw [←e1]
    rw [List.map_map (g:=tupI)];rfl
   rw [e2]
  ·refine ⟨by rw [List.length_map];exact hl,List.pairwise_map.mpr (nd.imp fun h e=>h (Zne e)),fun _ ns hns=>?_⟩
   obtain ⟨p,_,rfl⟩:=List.mem_map.mp hns
   exact fun z=>by cases z
 ·refine List.pairwise_map.mpr ((List.Pairwise.and_mem.mp (ZfF (L.map ZbA))).imp fun {x y} h=>?_)
  obtain ⟨p,_,rfl⟩:=List.mem_map.mp (hp.mem_iff.mp h.1)
  obtain ⟨q,_,rfl⟩:=List.mem_map.mp (hp.mem_iff.mp h.2.1)
  rw [Ze7,Ze7]
  have h3:leT (ZbA p) (ZbA q)=true:=h.2.2
  rcases Nat.lt_or_ge q.1 p.1 with z | z
  ·have:lexB (ZbA q) (ZbA p)=true:=by
    show lexB [(q.1:Int),(q.2:Int)] [(p.1:Int),(p.2:Int)]=true
    unfold lexB
    have:((q.1:Int)<(p.1:Int)):=by omega
    simp [this];try omega
   unfold leT at h3
   rw [this] at h3;cases h3
  ·exact z
set_option maxHeartbeats 1000000 in
theorem Zo3 (m:Int) (w:List Int):∃s',Zmj (none::some .pen::List.replicate 7 none) ([m,0],w)=some (.rt (.bl true),s'):=by
 have ok0:okD 0 ([m,0],w):=⟨m,0,rfl,by omega,by omega⟩
 suffices hh:Ok (Zmj (none::some .pen::List.replicate 7 none)) ([m,0],w) fun o s'=>o=.rt (.bl true) by
  obtain ⟨o,s',e,rfl⟩:=hh
  exact ⟨s',e⟩
 refine Ok.seq (.sfor (fun i ρ s'=>okD (i*3000) s'∧∃o2 o3 o4 o5 o6 o7 o8,ρ=[none,some .pen,o2,o3,o4,o5,o6,o7,o8]) (.eq (Zbz (n:=4) rfl (by omega)) ⟨⟨ok0.mono (by omega),none,none,none,none,none,none,none,rfl⟩,fun i d ρ s' hd hI=>?_,fun ρ' s' hI=>?_⟩))
 ·obtain ⟨ok1,o2,o3,o4,o5,o6,o7,o8,rfl⟩:=hI
  obtain ⟨hi,rfl⟩:=ZdM hd
  refine ⟨_,rfl,?_⟩
  obtain ⟨w1,s2,ew,ok2,n,ties,rfl,hn,hw⟩:=ZpO ok1 (by omega) 8 (by omega)
  have htl:=hw.len (by omega:n≤24)
  refine Ok.seq (.sset (.eq (ZaL (Zae rfl (Zae rfl rfl)) ew) ?_))
  obtain ⟨c1,c2,c3⟩:=Zeu n ties
  obtain ⟨f1,f2,f3,f4⟩:=Zc0 n ties
  refine Ok.seq (.sunp (.eq (ZaL (Zae rfl rfl) (ZqQ hw hn s2)) ⟨_,rfl,?_⟩))
  have RH:RightH n ties (Za6 n ties):=Zj5
  have hun:unlike (ZaB (Za6 n ties))=chi n ties:=by
   have:=f2.unlike
   rw [f4] at this;exact this
  have hue:∀{f:List Nat} (_:RightH n ties f) (s:Pn),Zbv [webD n ties,tupN f] s=some (.bl true,s):=fun {f} R s=>by
   have hl:=R.len
   have:=Zf3 hw (by omega) (t:=tupN f) (ZeC _).1 (ZeC _).2 (fun ds e=>by cases e;rw [List.length_map];omega) s
   rw [R.hueB hw] at this;exact this
  have hnn:∀a:Nat,dNeO (nD a) (nD a)=some (.bl false):=fun a=>by rw [ZhK];simp
  have hmc:om n ties≤chi n ties:=ZgR hw (by omega)
  have hgt:dGt (nD (om n ties)) (nD (chi n ties))=some (.bl false):=by
   show some (D.bl (decide (((chi n ties:Nat):Int)<((om n ties:Nat):Int))))=_
   rw [decide_eq_false (by omega)]
  have hls:=Zj2 (w:=Za6 n ties) (i:=5) (ρ:=[none,some .pen,some (nD i),some (webD n ties),some (nD (chi n ties)),some (tupN (Za6 n ties)),o6,o7,o8]) (s:=s2) rfl (by omega)
  rw [hun] at hls
  refine Ok.seq (.sif (.eq (a:=false) (Zjf (ZaQ (Zam (d:=.bl true) (e:=.bl true) (ZaL (Zae rfl (Zae rfl rfl)) (hue RH s2)) rfl rfl)) (Zjf (ZaQ (Zam (d:=nD (chi n ties)) (e:=nD (chi n ties)) hls rfl (hnn _))) (ZaQ (Zam (d:=nD (om n ties)) (e:=nD (chi n ties)) (Zam (d:=.tup [nD (om n ties),tupN (Zcq n ties)]) (e:=.int 0) (ZaL (Zae rfl rfl) (ZjV hw (by omega) s2)) rfl (Zfw _ _)) rfl hgt)))) (.next ?_)))
  refine Ok.seq (.sfor (fun j ρ s'=>j≤3∧okD (i*3000+1000+j*20) s'∧∃o6 o7,ρ=[none,some .pen,some (nD i),some (webD n ties),some (nD (chi n ties)),some (tupN (Za6 n ties)),o6,o7,o8]) (.eq (Zbz (n:=3) rfl (by omega)) ⟨⟨by omega,ok2.mono (by omega),o6,o7,rfl⟩,fun j d ρ s' hd hJ=>?_,fun ρ' s' hJ=>?_⟩))
  ·obtain ⟨_,ok3,o6,o7,rfl⟩:=hJ
   obtain ⟨hj,rfl⟩:=ZdM hd
   refine ⟨_,rfl,?_⟩
   obtain ⟨od,s3,eo,ok4,xs,rfl,hxs⟩:=ZoM ok3 (by omega) (by omega:n≤1000)
   obtain ⟨ps,rfl,hps⟩:=Zl6 hxs
   have eps:(ZaB ps).map D.int=ps.map nD:=by unfold ZaB;rw [List.map_map];rfl
   rw [eps] at eo
   refine Ok.seq (.sset (.eq (ZaL (Zae rfl (Zae (ZaL (Zae rfl (Zae (Zam (d:=webD n ties) (e:=.int 0) rfl rfl web0) rfl)) eo) rfl)) (Zj6 n ties hw (by omega) hps s3)) ?_))
   have R2:RightH n ties (ZbG n ties ps):=Zf5 hps
   have hl2:=Zj2 (w:=ZbG n ties ps) (i:=7) (ρ:=[none,some .pen,some (nD i),some (webD n ties),some (nD (chi n ties)),some (tupN (Za6 n ties)),some (nD j),some (tupN (ZbG n ties ps)),o8]) (s:=s3) rfl (by rw [R2.len];omega)
   have hlt2:dLt (nD (unlike (ZaB (ZbG n ties ps)))) (nD (chi n ties))=some (.bl false):=by
    rw [Zn0,decide_eq_false]
    have:=R2.unlike_ge
    omega
   refine Ok.seq (.sif (.eq (a:=false) (Zjf (ZaQ (Zam (d:=.bl true) (e:=.bl true) (ZaL (Zae rfl (Zae rfl rfl)) (hue R2 s3)) rfl rfl)) (ZaQ (Zam hl2 rfl hlt2))) (.next ?_)))
   exact .next ⟨_,rfl,by omega,ok4.mono (by omega),_,_,rfl⟩
  obtain ⟨_,ok3,o6',o7',rfl⟩:=hJ
  rw [Za8] at ok3
  -- along the hues
  have hc:=Zbf (src:=[none,some 5]) (fi:=Za1 (dOp dIx (dVar 3) (dC (.int 0)))) (τ:=gOne 0) (ft:=Za2) (fe:=dTup (Zaa (dOp dIx (dVar 1) (dVar 0)) (Zaa (dVar 0) dNil))) (ρ:=[none,some .pen,some (nD i),some (webD n ties),some (nD (chi n ties)),some (tupN (Za6 n ties)),o6',o7',o8]) (s:=s') (ds:=ZaI 0 n) (fun d=>[some d,some (tupN (Za6 n ties))]) (fun _=>true) (fun d=>ZaH ((Za6 n ties).getD (nat0 d) 0,nat0 d)) (Zbz (Zam (d:=webD n ties) (e:=.int 0) rfl rfl web0) (by omega)) (by rw [Za8,ZaA];omega) (fun d hd=>by
   obtain ⟨x,hx,rfl⟩:=Zdu hd
   exact ⟨rfl,rfl,fun _=>ZbR (Zae (Zam (d:=tupN (Za6 n ties)) (e:=nD x) rfl rfl (Zgn (by omega))) (Zae rfl rfl)) two_le⟩)
  rw [ZbL,Zc1,List.map_map] at hc
  generalize hL:(List.range n).map (fun p=>((Za6 n ties).getD p 0,p))=L
  have hLe:(List.range n).map ((fun d=>ZaH ((Za6 n ties).getD (nat0 d) 0,nat0 d))∘nD)=L.map ZaH:=by rw [←hL,List.map_map];rfl
  rw [hLe] at hc
  have hLnd:L.Nodup:=by
   rw [←hL]
   exact List.pairwise_map.mpr (List.nodup_range.imp fun h z=>h (congrArg Prod.snd z))
  have hLl:L.length=n:=by rw [←hL];simp
  obtain ⟨L',hp',hs',hpw⟩:=ZlU L hLnd (by omega)
  have hL'm:∀p∈L',p.1=(Za6 n ties).getD p.2 0:=fun p hp=>by
   have:=hp'.mem_iff.mp hp
   rw [←hL] at this
   obtain ⟨x,_,rfl⟩:=List.mem_map.mp this
   rfl
  have hL'l:L'.length=n:=by rw [hp'.length_eq,hLl]
  have hps:(L'.map (·.2)).Perm (List.range n):=by
   have:=hp'.map (·.2)
   rw [←hL,List.map_map] at this
   have e:(List.range n).map ((fun x:Nat×Nat=>x.2)∘fun p=>((Za6 n ties).getD p 0,p))=List.range n:=by
    conv=>rhs;rw [←List.map_id (List.range n)]
    rfl
   rw [e] at this;exact this
  have hc2:=Zbf (src:=[none,none]) (fi:=ZaS (Zay Zgv (Zaa (ZaP [none,some 5] (Za1 (dOp dIx (dVar 3) (dC (.int 0)))) (gOne 0) Za2 (dTup (Zaa (dOp dIx (dVar 1) (dVar 0)) (Zaa (dVar 0) dNil)))) dNil))) (τ:=Zjd 0 1) (ft:=Za2) (fe:=dVar 1) (ρ:=[none,some .pen,some (nD i),some (webD n ties),some (nD (chi n ties)),some (tupN (Za6 n ties)),o6',o7',o8]) (s:=s') (ds:=L'.map ZaH) (fun d=>match d with | .tup [a,b]=>[some a,some b] | _=>[]) (fun _=>true) (fun d=>match d with | .tup [_,b]=>b | _=>.non) (ZbZ (ZaO (Zae hc rfl) hs')) (by rw [List.length_map,ZaA];omega) (fun d hd=>by
   obtain ⟨p,_,rfl⟩:=List.mem_map.mp hd
   exact ⟨rfl,rfl,fun _=>rfl⟩)
  rw [ZbL,List.map_map] at hc2
  have hoe:L'.map ((fun d=>match d with | .tup [_,b]=>b | _=>D.non)∘ZaH)=(L'.map (·.2)).map nD:=by rw [List.map_map];rfl
  rw [hoe] at hc2
  refine Ok.seq (.sset (.eq hc2 ?_))
  generalize hps2:L'.map (·.2)=ps at hps
  have R3:RightH n ties (ZbG n ties ps):=Zf5 hps
  have hle3:unlike (ZaB (ZbG n ties ps))≤chi n ties:=Zjm fun x hx=>by
   obtain ⟨a,ha,rfl⟩:=ZnL.mp hx
   obtain ⟨nd,mm,_⟩:=Zh0 hps
   have:=Zj9 (ties:=ties) (c:=fun p=>(Za6 n ties).getD p 0) nd (List.pairwise_reverse.mpr (by
    rw [←hps2]
    refine List.pairwise_map.mpr ((List.Pairwise.and_mem.mp hpw).imp fun {u v} h=>?_)
    show (Za6 n ties).getD u.2 0≤(Za6 n ties).getD v.2 0
    rw [←hL'm u h.1,←hL'm v h.2.1]
    exact h.2.2)) (fun x hx y hy ne ht=>Zhz ((mm x).mp hx) ((mm y).mp hy) ht ne) a ((mm a).mpr ha)
   have h2:=Zlz (ties:=ties) ha
   have this:hr ties ps.reverse a≤(Za6 n ties).getD a 0:=this
   omega
  have hl3:=ZiC (f:=dFn ZbN (Zaa (dVar 3) (Zaa (dVar 8) dNil))) (ρ:=[none,some .pen,some (nD i),some (webD n ties),some (nD (chi n ties)),some (tupN (Za6 n ties)),o6',o7',some (.lst (ps.map nD))]) (s:=s') (s':=s') (k:=ZbG n ties ps) (ZaL (Zae rfl (Zae rfl rfl)) (Zj6 n ties hw (by omega) hps s')) (by rw [R3.len];omega)
  have h3ge:=R3.unlike_ge
  rw [show unlike (ZaB (ZbG n ties ps))=chi n ties by omega] at hl3
  refine Ok.seq (.sif (.eq (a:=false) (ZaQ (Zam (d:=nD (chi n ties)) (e:=nD (chi n ties)) hl3 rfl (hnn _))) (.next ?_)))
  have hp1:=ZhA hw (by omega) RH ((chi n ties:Nat)+1:Int) s'
  have hp2:=ZhA hw (by omega) RH ((chi n ties:Nat):Int) s'
  rw [hun,decide_eq_true (by omega)] at hp1
  rw [hun,decide_eq_false (by omega)] at hp2
  refine Ok.seq (.sif (.eq (a:=false) (Zjf (ZaQ (Zam (d:=.bl true) (e:=.bl true) (ZaL (Zae rfl (Zae (Zam (d:=nD (chi n ties)) (e:=.int 1) (c:=.int ((chi n ties:Nat)+1:Int)) rfl rfl rfl) (Zae (ZbR (Zae rfl (Zae rfl rfl)) two_le) rfl))) hp1) rfl rfl)) (ZaQ (Zam (d:=.bl false) (e:=.bl false) (ZaL (Zae rfl (Zae rfl (Zae (ZbR (Zae rfl (Zae rfl rfl)) two_le) rfl))) hp2) rfl rfl))) (.next ?_)))
  exact .next ⟨_,rfl,ok3.mono (by omega),_,_,_,_,_,_,_,rfl⟩
 ·obtain ⟨ok1,o2,o3,o4,o5,o6,o7,o8,rfl⟩:=hI
  exact Ok.seq (.sret (.eq (a:=.bl true) rfl rfl))
end K21
namespace K21
open PySem.Spec PyProof.Rows
open PySem L2 TF TQ
open TP
open TP2
open TP3
set_option maxHeartbeats 4000000 in
theorem ZrC {P:Program} {w:World} {K:PySem.W.Frag} {mg:Str→Option Value} {base:Heap} {a_f a_p:Addr} {fd_f fd_p:FuncData} {L:List (Addr×Str)} (lo:LOk L) (F:Fun K "law" "law" s_law a_f fd_f) (T:Txt mg) (FP:FnOk P w K mg base CX0 1 a_p fd_p ["script"] (Zps K)) (hmp:mg "_law_tpen" = some (.ref a_p)) (hkp:PySem.W.keepIn K (.ref a_p)=true) (hbp:ZcE K fd_p ["script"] []) (c__law_torder:Cal P w K mg base 2 "_law_torder" 2 true (PenT PenD L) ZcN) (c__law_tweb:Cal P w K mg base 2 "_law_tweb" 2 true (PenT PenD L) Zcv) (c_fewest_hues:Cal P w K mg base 56 "fewest_hues" 1 true (ZaJ L) Zb7) (c_hued_along:Cal P w K mg base 4 "hued_along" 2 true AnyG ZbN) (c_is_hueing:Cal P w K mg base 3 "is_hueing" 2 false AnyG Zbv) (c_is_paper:Cal P w K mg base 60 "is_paper" 3 false (ZaJ L) Zco) (c_most:Cal P w K mg base 55 "most" 1 true (ZaJ L) Zdz) :
  FnOk P w K mg base CX0 61 a_f fd_f ["script"] (Zhg K L):=by
 have nd:=Zjr.nd
 refine F.ok Zjr (fun vs H Q E h=>?_) fun cdv A outer s0 H vs Q E hr h=>?_
 ·obtain ⟨a,ns,rfl,_⟩:=h
  rfl
 ·obtain ⟨a,ns,rfl,sq,hl,hTb,hQ⟩:=h
  refine ⟨_,ZbP (ZdQ (i:=1) nd rfl (Or.inl rfl) (Zh3 (FP.mono (by decide)) hr rfl hmp hkp hbp .nil Zja (Za0 (pv 0) Zbg))) (Zou (GG:=(PenT PenD L)) fun G hG=>ZqT lo T hr c__law_torder c__law_tweb c_fewest_hues c_hued_along c_is_hueing c_is_paper c_most G hG),?_⟩
  refine ⟨.ref a,rfl,a,ns,rfl,sq,hl,fun p wa m H' st kp hp hw=>?_⟩
  obtain ⟨s',hs'⟩:=Zo3 m (ZcF ns)
  exact Zny (n:=7) st hTb kp hp hw hQ hs'
set_option maxHeartbeats 4000000 in
theorem all_mk {l:PySem.W.OpenLaw} {w:World} {K:PySem.W.Frag} {h:Heap} {mg:Str→Option Value} {fa:Addr} {tc15 tc27:Addr} (tP15 tP27:Addr) (lo:LOk [(tP15,(Str.ofString "turned.<locals>.<lambda>")),(tP27,(Str.ofString "numbered_anew.<locals>.<lambda>"))]) (X:K.In h) (G:h.Ns mainGlobals mg) (hfa:mg "law" = some (.ref fa))
  (x1:Is K "_law_tdraw" Zei)
  (x2:Is K "_law_torder" Zdb)
  (x3:Is K "_law_tweb" ZeH)
  (x4:Is K "marked_ties" Zc9)
  (x5:Is K "are_tied" Zff)
  (x6:Is K "near" Zhm)
  (x7:Is K "all_near" Zd2)
  (x8:Is K "hued_on" Zez)
  (x9:Is K "apart_among" Zda)
  (x10:Is K "weighed" Zey)
  (x11:Is K "heaviest_with" Zcy)
  (x12:Is K "heaviest_among" ZbC)
  (x13:Is K "pairs_of" Zfa)
  (x14:Is K "web_where" ZdF)
  (x15:IsC K "turned" Zeh tc15)
  (x16:Is K "heaviest_knot" Zcz)
  (x17:Is K "most" Zju)
  (x18:Is K "fewest_hues" ZdX)
  (x19:Is K "least_free" Zdn)
  (x20:Is K "hued_along" ZcJ)
  (x21:Is K "is_whole" Zfb)
  (x22:Is K "is_place" Zfc)
  (x23:Is K "is_tuple_of" ZdW)
  (x24:Is K "is_hueing" Zc6)
  (x25:Is K "places_without" Zcm)
  (x26:Is K "weighed_by_hues" Zc4)
  (x27:IsC K "numbered_anew" Zb9 tc27)
  (x28:Is K "part" Zjs)
  (x29:Is K "weights_along" Zcx)
  (x30:Is K "is_bound_of_part" ZcI)
  (x31:Is K "is_bound" Zfe)
  (x32:Is K "ones" Zjt)
  (x33:Is K "is_paper" Zfd)
  (x34:Is K "_law_tpen" ZdG)
  (x35:Is K "law" s_law)
  (z1:PySem.W.nsIn K mainGlobals "all" = some none)
  (z2:PySem.W.nsIn K mainGlobals "bool" = some none)
  (z3:PySem.W.nsIn K mainGlobals "dict" = some none)
  (z4:PySem.W.nsIn K mainGlobals "int" = some none)
  (z5:PySem.W.nsIn K mainGlobals "isinstance" = some none)
  (z6:PySem.W.nsIn K mainGlobals "len" = some none)
  (z7:PySem.W.nsIn K mainGlobals "list" = some none)
  (z8:PySem.W.nsIn K mainGlobals "max" = some none)
  (z9:PySem.W.nsIn K mainGlobals "min" = some none)
  (z10:PySem.W.nsIn K mainGlobals "range" = some none)
  (z11:PySem.W.nsIn K mainGlobals "set" = some none)
  (z12:PySem.W.nsIn K mainGlobals "sorted" = some none)
  (z13:PySem.W.nsIn K mainGlobals "sum" = some none)
  (z14:PySem.W.nsIn K mainGlobals "tuple" = some none) :
  ∃fd:FuncData,(∀(s:Shared) (v:Value),BindsTo s fd ⟨[v],[]⟩ [("script",v)])∧∀base:Heap,K.In base→base.Ns mainGlobals mg→PySem.W.CodeHd base tc15 tP15→PySem.W.CodeHd base tc27 tP27→BMn mg base→FnOk l.prog w K mg base CX0 61 fa fd ["script"] (Zhg K ([(tP15,(Str.ofString "turned.<locals>.<lambda>")),(tP27,(Str.ofString "numbered_anew.<locals>.<lambda>"))]:List (Addr×Str))):=by
 have T:Txt mg:=⟨PySem.W.mg_none_of X G z1,PySem.W.mg_none_of X G z2,PySem.W.mg_none_of X G z3,PySem.W.mg_none_of X G z4,PySem.W.mg_none_of X G z5,PySem.W.mg_none_of X G z6,PySem.W.mg_none_of X G z7,PySem.W.mg_none_of X G z8,PySem.W.mg_none_of X G z9,PySem.W.mg_none_of X G z10,PySem.W.mg_none_of X G z11,PySem.W.mg_none_of X G z12,PySem.W.mg_none_of X G z13,PySem.W.mg_none_of X G z14⟩
 obtain ⟨_,f1,_,a1,F1,_⟩:=x1
 have b1:=F1.binds (ps:=["pen","many"]) fun _ _ _ _ _ _ us hl=>by obtain ⟨_,_,rfl⟩:=ux2 us hl;rfl
 obtain ⟨_,f2,_,a2,F2,_⟩:=x2
 have b2:=F2.binds (ps:=["pen","many"]) fun _ _ _ _ _ _ us hl=>by obtain ⟨_,_,rfl⟩:=ux2 us hl;rfl
 obtain ⟨_,f3,_,a3,F3,_⟩:=x3
 have b3:=F3.binds (ps:=["pen","limit"]) fun _ _ _ _ _ _ us hl=>by obtain ⟨_,_,rfl⟩:=ux2 us hl;rfl
 obtain ⟨_,f4,_,a4,F4,_⟩:=x4
 have b4:=F4.binds (ps:=["web"]) fun _ _ _ _ _ _ us hl=>by obtain ⟨_,rfl⟩:=ux1 us hl;rfl
 obtain ⟨_,f5,_,a5,F5,_⟩:=x5
 have b5:=F5.binds (ps:=["ties","a","b"]) fun _ _ _ _ _ _ us hl=>by obtain ⟨_,_,_,rfl⟩:=ux3 us hl;rfl
 obtain ⟨_,f6,_,a6,F6,_⟩:=x6
 have b6:=F6.binds (ps:=["web","place"]) fun _ _ _ _ _ _ us hl=>by obtain ⟨_,_,rfl⟩:=ux2 us hl;rfl
 obtain ⟨_,f7,_,a7,F7,_⟩:=x7
 have b7:=F7.binds (ps:=["web"]) fun _ _ _ _ _ _ us hl=>by obtain ⟨_,rfl⟩:=ux1 us hl;rfl
 obtain ⟨_,f8,_,a8,F8,_⟩:=x8
 have b8:=F8.binds (ps:=["nears","many","hues"]) fun _ _ _ _ _ _ us hl=>by obtain ⟨_,_,_,rfl⟩:=ux3 us hl;rfl
 obtain ⟨_,f9,_,a9,F9,_⟩:=x9
 have b9:=F9.binds (ps:=["aparts","place","places"]) fun _ _ _ _ _ _ us hl=>by obtain ⟨_,_,_,rfl⟩:=ux3 us hl;rfl
 obtain ⟨_,f10,_,a10,F10,_⟩:=x10
 have b10:=F10.binds (ps:=["weights","places"]) fun _ _ _ _ _ _ us hl=>by obtain ⟨_,_,rfl⟩:=ux2 us hl;rfl
 obtain ⟨_,f11,_,a11,F11,_⟩:=x11
 have b11:=F11.binds (ps:=["aparts","weights","place","places"]) fun _ _ _ _ _ _ us hl=>by obtain ⟨_,_,_,_,rfl⟩:=ux4 us hl;rfl
 obtain ⟨_,f12,_,a12,F12,_⟩:=x12
 have b12:=F12.binds (ps:=["aparts","weights","places"]) fun _ _ _ _ _ _ us hl=>by obtain ⟨_,_,_,rfl⟩:=ux3 us hl;rfl
 obtain ⟨_,f13,_,a13,F13,_⟩:=x13
 have b13:=F13.binds (ps:=["row"]) fun _ _ _ _ _ _ us hl=>by obtain ⟨_,rfl⟩:=ux1 us hl;rfl
 obtain ⟨_,f14,_,a14,F14,_⟩:=x14
 have b14:=F14.binds (ps:=["row","tied"]) fun _ _ _ _ _ _ us hl=>by obtain ⟨_,_,rfl⟩:=ux2 us hl;rfl
 obtain ⟨f15,_,a15,F15,e15⟩:=x15
 have b15:=F15.binds (ps:=["web"]) fun _ _ _ _ _ _ us hl=>by obtain ⟨_,rfl⟩:=ux1 us hl;rfl
 obtain ⟨_,f16,_,a16,F16,_⟩:=x16
 have b16:=F16.binds (ps:=["web","weights"]) fun _ _ _ _ _ _ us hl=>by obtain ⟨_,_,rfl⟩:=ux2 us hl;rfl
 obtain ⟨_,f17,_,a17,F17,_⟩:=x17
 have b17:=F17.binds (ps:=["web"]) fun _ _ _ _ _ _ us hl=>by obtain ⟨_,rfl⟩:=ux1 us hl;rfl
 obtain ⟨_,f18,_,a18,F18,_⟩:=x18
 have b18:=F18.binds (ps:=["web"]) fun _ _ _ _ _ _ us hl=>by obtain ⟨_,rfl⟩:=ux1 us hl;rfl
 obtain ⟨_,f19,_,a19,F19,_⟩:=x19
 have b19:=F19.binds (ps:=["taken"]) fun _ _ _ _ _ _ us hl=>by obtain ⟨_,rfl⟩:=ux1 us hl;rfl
 obtain ⟨_,f20,_,a20,F20,_⟩:=x20
 have b20:=F20.binds (ps:=["web","order"]) fun _ _ _ _ _ _ us hl=>by obtain ⟨_,_,rfl⟩:=ux2 us hl;rfl
 obtain ⟨_,f21,_,a21,F21,_⟩:=x21
 have b21:=F21.binds (ps:=["thing"]) fun _ _ _ _ _ _ us hl=>by obtain ⟨_,rfl⟩:=ux1 us hl;rfl
 obtain ⟨_,f22,_,a22,F22,_⟩:=x22
 have b22:=F22.binds (ps:=["n","thing"]) fun _ _ _ _ _ _ us hl=>by obtain ⟨_,_,rfl⟩:=ux2 us hl;rfl
 obtain ⟨_,f23,_,a23,F23,_⟩:=x23
 have b23:=F23.binds (ps:=["thing","length"]) fun _ _ _ _ _ _ us hl=>by obtain ⟨_,_,rfl⟩:=ux2 us hl;rfl
 obtain ⟨_,f24,_,a24,F24,_⟩:=x24
 have b24:=F24.binds (ps:=["web","thing"]) fun _ _ _ _ _ _ us hl=>by obtain ⟨_,_,rfl⟩:=ux2 us hl;rfl
 obtain ⟨_,f25,_,a25,F25,_⟩:=x25
 have b25:=F25.binds (ps:=["web","v"]) fun _ _ _ _ _ _ us hl=>by obtain ⟨_,_,rfl⟩:=ux2 us hl;rfl
 obtain ⟨_,f26,_,a26,F26,_⟩:=x26
 have b26:=F26.binds (ps:=["weights","hueing"]) fun _ _ _ _ _ _ us hl=>by obtain ⟨_,_,rfl⟩:=ux2 us hl;rfl
 obtain ⟨f27,_,a27,F27,e27⟩:=x27
 have b27:=F27.binds (ps:=["web","places"]) fun _ _ _ _ _ _ us hl=>by obtain ⟨_,_,rfl⟩:=ux2 us hl;rfl
 obtain ⟨_,f28,_,a28,F28,_⟩:=x28
 have b28:=F28.binds (ps:=["web","places"]) fun _ _ _ _ _ _ us hl=>by obtain ⟨_,_,rfl⟩:=ux2 us hl;rfl
 obtain ⟨_,f29,_,a29,F29,_⟩:=x29
 have b29:=F29.binds (ps:=["weights","places"]) fun _ _ _ _ _ _ us hl=>by obtain ⟨_,_,rfl⟩:=ux2 us hl;rfl
 obtain ⟨_,f30,_,a30,F30,_⟩:=x30
 have b30:=F30.binds (ps:=["plainest","web","weights","places","w","thing"]) fun _ _ _ _ _ _ us hl=>by obtain ⟨_,_,_,_,_,_,rfl⟩:=ux6 us hl;rfl
 obtain ⟨_,f31,_,a31,F31,_⟩:=x31
 have b31:=F31.binds (ps:=["plainest","web","weights","w","thing"]) fun _ _ _ _ _ _ us hl=>by obtain ⟨_,_,_,_,_,rfl⟩:=ux5 us hl;rfl
 obtain ⟨_,f32,_,a32,F32,_⟩:=x32
 have b32:=F32.binds (ps:=["web"]) fun _ _ _ _ _ _ us hl=>by obtain ⟨_,rfl⟩:=ux1 us hl;rfl
 obtain ⟨_,f33,_,a33,F33,_⟩:=x33
 have b33:=F33.binds (ps:=["web","k","thing"]) fun _ _ _ _ _ _ us hl=>by obtain ⟨_,_,_,rfl⟩:=ux3 us hl;rfl
 obtain ⟨_,f34,_,a34,F34,_⟩:=x34
 have b34:=F34.binds (ps:=["script"]) fun _ _ _ _ _ _ us hl=>by obtain ⟨_,rfl⟩:=ux1 us hl;rfl
 obtain ⟨_,f35,_,a35,F35,_⟩:=x35
 cases hfa.symm.trans (PySem.W.mg_of X G a35)
 have ca_are_tied:∀base,Cal l.prog w K mg base 1 "are_tied" 3 false AnyG Zbj:=fun base=>⟨f5,_,_,ZkL F5 T,PySem.W.mg_of X G a5,F5.kp,b5⟩
 have ca_pairs_of:∀base,Cal l.prog w K mg base 1 "pairs_of" 1 true AnyG Zc2:=fun base=>⟨f13,_,_,ZkG F13 T,PySem.W.mg_of X G a13,F13.kp,b13⟩
 have ca_web_where:∀base,Cal l.prog w K mg base 5 "web_where" 2 false (CloG l.prog w K mg 4 2 Tl base) ZbX:=fun base=>⟨f14,_,_,ZfT F14 T (ca_pairs_of base),PySem.W.mg_of X G a14,F14.kp,b14⟩
 have cA_web_where:CalA l.prog w K mg 5 "web_where" 2 false (CloG l.prog w K mg 4 2 Tl) ZbX:=⟨f14,_,_,fun base=>ZfT F14 T (ca_pairs_of base),PySem.W.mg_of X G a14,F14.kp,b14⟩
 obtain ⟨oc,od,kV,doc,pm,an,cdv,ct,osl,rfl,lk,hcd⟩:=F35.ex
 refine ⟨PySem.W.fnOf "law" "law" (Zcu s_law) (Zb5 s_law) (Zak s_law) .none kV doc pm an cdv ct,fun s v=>.of_eq rfl,fun base _ _ hC15 hC27 hBm=>?_⟩
 have cp__law_tdraw:Cal l.prog w K mg base 1 "_law_tdraw" 2 true PenD ZbT:=⟨f1,_,_,ZiU F1 T,PySem.W.mg_of X G a1,F1.kp,b1⟩
 have c__law_tdraw:Cal l.prog w K mg base 1 "_law_tdraw" 2 true (PenT PenD ([(tP15,(Str.ofString "turned.<locals>.<lambda>")),(tP27,(Str.ofString "numbered_anew.<locals>.<lambda>"))]:List (Addr×Str))) ZbT:=Zkt cp__law_tdraw Zpg
 have cp__law_torder:Cal l.prog w K mg base 2 "_law_torder" 2 true PenD ZcN:=⟨f2,_,_,Zh9 F2 T cp__law_tdraw,PySem.W.mg_of X G a2,F2.kp,b2⟩
 have c__law_torder:Cal l.prog w K mg base 2 "_law_torder" 2 true (PenT PenD ([(tP15,(Str.ofString "turned.<locals>.<lambda>")),(tP27,(Str.ofString "numbered_anew.<locals>.<lambda>"))]:List (Addr×Str))) ZcN:=Zkt cp__law_torder Znf
 have c__law_tweb:Cal l.prog w K mg base 2 "_law_tweb" 2 true (PenT PenD ([(tP15,(Str.ofString "turned.<locals>.<lambda>")),(tP27,(Str.ofString "numbered_anew.<locals>.<lambda>"))]:List (Addr×Str))) Zcv:=⟨f3,_,_,ZjO F3 T lo c__law_tdraw,PySem.W.mg_of X G a3,F3.kp,b3⟩
 have c_marked_ties:Cal l.prog w K mg base 1 "marked_ties" 1 true AnyG Zbi:=⟨f4,_,_,Zh5 F4 T,PySem.W.mg_of X G a4,F4.kp,b4⟩
 have c_are_tied:=ca_are_tied base
 have c_near:Cal l.prog w K mg base 2 "near" 2 true AnyG Zdy:=⟨f6,_,_,Zqu F6 T c_are_tied,PySem.W.mg_of X G a6,F6.kp,b6⟩
 have c_all_near:Cal l.prog w K mg base 3 "all_near" 1 true AnyG ZbW:=⟨f7,_,_,ZkM F7 T c_marked_ties c_near,PySem.W.mg_of X G a7,F7.kp,b7⟩
 have rr_hued_on:∀j:Nat,Cal l.prog w K mg base (0+j) "hued_on" 3 false AnyG (ZbY j):=by
  intro j
  induction j with
  | zero=>exact Cal.none (PySem.W.mg_of X G a8) F8.kp b8
  | succ j ih=>exact ⟨f8,_,_,Zl9 F8 T (by omega) ih,PySem.W.mg_of X G a8,F8.kp,b8⟩
 have c_hued_on:Cal l.prog w K mg base 11 "hued_on" 3 false AnyG (ZbY 10):=(rr_hued_on 10).mono
 have c_apart_among:Cal l.prog w K mg base 1 "apart_among" 3 true AnyG Zdg:=⟨f9,_,_,Zh8 F9 T,PySem.W.mg_of X G a9,F9.kp,b9⟩
 have c_weighed:Cal l.prog w K mg base 1 "weighed" 2 false AnyG Zdl:=⟨f10,_,_,Zl8 F10 T,PySem.W.mg_of X G a10,F10.kp,b10⟩
 have rr:∀j:Nat,Cal l.prog w K mg base (1+2*j) "heaviest_among" 3 false AnyG (Zba j):=by
  intro j
  induction j with
  | zero=>exact Cal.none (PySem.W.mg_of X G a12) F12.kp b12
  | succ j ih=>
   have c_heaviest_with:Cal l.prog w K mg base (1+2*j+1) "heaviest_with" 4 false AnyG (Zcc (Zba j)):=⟨f11,_,_,ZgZ F11 T (by omega) ih,PySem.W.mg_of X G a11,F11.kp,b11⟩
   have z:Cal l.prog w K mg base (1+2*j+2) "heaviest_among" 3 false AnyG (Zba (j+1)):=⟨f12,_,_,ZgC F12 T (by omega) c_apart_among ih c_heaviest_with c_weighed,PySem.W.mg_of X G a12,F12.kp,b12⟩
   exact z.mono (h:=by omega)
 have c_heaviest_among:Cal l.prog w K mg base 53 "heaviest_among" 3 false AnyG (Zba 26):=(rr 26).mono
 have c_pairs_of:=ca_pairs_of base
 have c_web_where:=cA_web_where
 have c_turned:Cal l.prog w K mg base 6 "turned" 1 false (ZaJ ([(tP15,(Str.ofString "turned.<locals>.<lambda>")),(tP27,(Str.ofString "numbered_anew.<locals>.<lambda>"))]:List (Addr×Str))) Zdk:=⟨f15,_,_,Zni F15 T lo c_marked_ties c_web_where ca_are_tied (tc:=tc15) (tP:=tP15) e15 hC15 hBm (by simp),PySem.W.mg_of X G a15,F15.kp,b15⟩
 have c_heaviest_knot:Cal l.prog w K mg base 54 "heaviest_knot" 2 true (ZaJ ([(tP15,(Str.ofString "turned.<locals>.<lambda>")),(tP27,(Str.ofString "numbered_anew.<locals>.<lambda>"))]:List (Addr×Str))) ZbO:=⟨f16,_,_,Zg0 F16 T lo c_all_near c_heaviest_among c_turned,PySem.W.mg_of X G a16,F16.kp,b16⟩
 have c_most:Cal l.prog w K mg base 55 "most" 1 true (ZaJ ([(tP15,(Str.ofString "turned.<locals>.<lambda>")),(tP27,(Str.ofString "numbered_anew.<locals>.<lambda>"))]:List (Addr×Str))) Zdz:=⟨f17,_,_,Zqv F17 T lo c_heaviest_knot,PySem.W.mg_of X G a17,F17.kp,b17⟩
 have c_fewest_hues:Cal l.prog w K mg base 56 "fewest_hues" 1 true (ZaJ ([(tP15,(Str.ofString "turned.<locals>.<lambda>")),(tP27,(Str.ofString "numbered_anew.<locals>.<lambda>"))]:List (Addr×Str))) Zb7:=⟨f18,_,_,Zh7 F18 T lo c_all_near c_hued_on c_most,PySem.W.mg_of X G a18,F18.kp,b18⟩
 have c_least_free:Cal l.prog w K mg base 1 "least_free" 1 true AnyG Zb2:=⟨f19,_,_,ZiS F19 T,PySem.W.mg_of X G a19,F19.kp,b19⟩
 have c_hued_along:Cal l.prog w K mg base 4 "hued_along" 2 true AnyG ZbN:=⟨f20,_,_,ZiT F20 T c_all_near c_least_free,PySem.W.mg_of X G a20,F20.kp,b20⟩
 have c_is_whole:Cal l.prog w K mg base 1 "is_whole" 1 false AnyG Zc3:=⟨f21,_,_,ZkH F21 T,PySem.W.mg_of X G a21,F21.kp,b21⟩
 have c_is_place:Cal l.prog w K mg base 2 "is_place" 2 false AnyG ZbV:=⟨f22,_,_,ZkI F22 T c_is_whole,PySem.W.mg_of X G a22,F22.kp,b22⟩
 have c_is_tuple_of:Cal l.prog w K mg base 1 "is_tuple_of" 2 false AnyG Zbc:=⟨f23,_,_,Zh6 F23 T,PySem.W.mg_of X G a23,F23.kp,b23⟩
 have c_is_hueing:Cal l.prog w K mg base 3 "is_hueing" 2 false AnyG Zbv:=⟨f24,_,_,ZjN F24 T c_is_place c_is_tuple_of,PySem.W.mg_of X G a24,F24.kp,b24⟩
 have c_places_without:Cal l.prog w K mg base 1 "places_without" 2 true AnyG Zcn:=⟨f25,_,_,ZgB F25 T,PySem.W.mg_of X G a25,F25.kp,b25⟩
 have c_weighed_by_hues:Cal l.prog w K mg base 1 "weighed_by_hues" 2 false AnyG ZbS:=⟨f26,_,_,ZfS F26 T,PySem.W.mg_of X G a26,F26.kp,b26⟩
 have c_numbered_anew:Cal l.prog w K mg base 6 "numbered_anew" 2 false (ZaJ ([(tP15,(Str.ofString "turned.<locals>.<lambda>")),(tP27,(Str.ofString "numbered_anew.<locals>.<lambda>"))]:List (Addr×Str))) ZcD:=⟨f27,_,_,ZgY F27 T lo c_marked_ties c_web_where ca_are_tied (tc:=tc27) (tP:=tP27) e27 hC27 hBm (by simp),PySem.W.mg_of X G a27,F27.kp,b27⟩
 have c_part:Cal l.prog w K mg base 7 "part" 2 false (ZaJ ([(tP15,(Str.ofString "turned.<locals>.<lambda>")),(tP27,(Str.ofString "numbered_anew.<locals>.<lambda>"))]:List (Addr×Str))) ZhV:=⟨f28,_,_,Zqs F28 T lo c_numbered_anew,PySem.W.mg_of X G a28,F28.kp,b28⟩
 have c_weights_along:Cal l.prog w K mg base 1 "weights_along" 2 true AnyG ZcC:=⟨f29,_,_,ZgX F29 T,PySem.W.mg_of X G a29,F29.kp,b29⟩
 have rr:∀j:Nat,Cal l.prog w K mg base (7+2*j) "is_bound" 5 false (ZaJ ([(tP15,(Str.ofString "turned.<locals>.<lambda>")),(tP27,(Str.ofString "numbered_anew.<locals>.<lambda>"))]:List (Addr×Str))) (Zcb j):=by
  intro j
  induction j with
  | zero=>exact Cal.none (PySem.W.mg_of X G a31) F31.kp b31
  | succ j ih=>
   have c_is_bound_of_part:Cal l.prog w K mg base (7+2*j+1) "is_bound_of_part" 6 false (ZaJ ([(tP15,(Str.ofString "turned.<locals>.<lambda>")),(tP27,(Str.ofString "numbered_anew.<locals>.<lambda>"))]:List (Addr×Str))) (ZbM (Zcb j)):=⟨f30,_,_,ZfB F30 T lo (by omega) ih c_part c_weights_along,PySem.W.mg_of X G a30,F30.kp,b30⟩
   have z:Cal l.prog w K mg base (7+2*j+2) "is_bound" 5 false (ZaJ ([(tP15,(Str.ofString "turned.<locals>.<lambda>")),(tP27,(Str.ofString "numbered_anew.<locals>.<lambda>"))]:List (Addr×Str))) (Zcb (j+1)):=⟨f31,_,_,ZkK F31 T lo (by omega) c_is_bound_of_part c_is_hueing c_is_place c_is_tuple_of c_near c_places_without c_weighed_by_hues,PySem.W.mg_of X G a31,F31.kp,b31⟩
   exact z.mono (h:=by omega)
 have c_is_bound:Cal l.prog w K mg base 59 "is_bound" 5 false (ZaJ ([(tP15,(Str.ofString "turned.<locals>.<lambda>")),(tP27,(Str.ofString "numbered_anew.<locals>.<lambda>"))]:List (Addr×Str))) (Zcb 26):=(rr 26).mono
 have c_ones:Cal l.prog w K mg base 1 "ones" 1 false AnyG Zgh:=⟨f32,_,_,Zqt F32 T,PySem.W.mg_of X G a32,F32.kp,b32⟩
 have c_is_paper:Cal l.prog w K mg base 60 "is_paper" 3 false (ZaJ ([(tP15,(Str.ofString "turned.<locals>.<lambda>")),(tP27,(Str.ofString "numbered_anew.<locals>.<lambda>"))]:List (Addr×Str))) Zco:=⟨f33,_,_,ZkJ F33 T lo c_is_bound c_ones,PySem.W.mg_of X G a33,F33.kp,b33⟩
 exact ZrC lo F35 T (ZjP F34 T) (PySem.W.mg_of X G a34) F34.kp b34 c__law_torder c__law_tweb c_fewest_hues c_hued_along c_is_hueing c_is_paper c_most
noncomputable def tb:List (Str×Addr×Addr):=[("turned",70,66),("numbered_anew",84,80)]
theorem Zq1:∀P q,(P,q)∈([(66,(Str.ofString "turned.<locals>.<lambda>")),(80,(Str.ofString "numbered_anew.<locals>.<lambda>"))]:List (Addr×Str))→∃x c,(x,c,P)∈tb:=by
 intro P q h
 simp only [List.mem_cons,Prod.mk.injEq,List.not_mem_nil,or_false] at h
 rcases h with ⟨rfl,_⟩ | ⟨rfl,_⟩
 ·exact ⟨"turned",70,by simp [tb]⟩
 ·exact ⟨"numbered_anew",84,by simp [tb]⟩
theorem walk {l:PySem.W.OpenLaw} {q:Program} {loose:List Str} {XP:(Str→Option Value)→Heap→Prop} {YP:World→Heap→Prop} {d:DefRec} {K:Params→PySem.W.Frag} (hn:l.most=some 63) (hdf:d.params.defaults=[])
  (hY:∀(w:World) (h:Heap),YP w h→(K w.params).In h)
  (hrec:∀e∈tb,∃d,(recsOf q).find? (fun r=>r.name==e.1)=some d) (htab:∀w:World,∀e∈tb,PySem.W.tabIn (K w.params) e.1=some e.2) (hno:∀w:World,PySem.W.noTabs (K w.params)=true)
  (F:∀(w:World) (mg:Str→Option Value) (fa:Addr) (h:Heap),(K w.params).In h→h.Ns mainGlobals mg→mg d.name=some (.ref fa)→
   ∃fd:FuncData,(∀(s:Shared) (u:Value),BindsTo s fd ⟨[u],[]⟩ [("script",u)])∧∀base:Heap,(K w.params).In base→base.Ns mainGlobals mg→PySem.W.CodeHd base 70 66→PySem.W.CodeHd base 84 80→BMn mg base→FnOk l.prog w (K w.params) mg base CX0 61 fa fd ["script"] (Zhg (K w.params) ([(66,(Str.ofString "turned.<locals>.<lambda>")),(80,(Str.ofString "numbered_anew.<locals>.<lambda>"))]:List (Addr×Str)))) :
  PySem.W.WalkO q loose XP YP l.row.toRowW d [] (fun f vs=>PySem.call f vs):=
 Zoj (tb:=tb) (n:=63) (k:=61) (x:="script") (CX:=fun _=>CX0) (sp:=fun w=>Zhg (K w.params) ([(66,(Str.ofString "turned.<locals>.<lambda>")),(80,(Str.ofString "numbered_anew.<locals>.<lambda>"))]:List (Addr×Str))) hn (by decide) hdf ⟨rfl,by decide,by decide,rfl⟩ hY hrec htab hno
  (fun w mg fa h h1 h2 h3=>let ⟨fd,hb,hF⟩:=F w mg fa h h1 h2 h3;⟨fd,hb,fun base g1 g2 g3 g4=>hF base g1 g2 (g3 ("turned",70,66) (by simp [tb])) (g3 ("numbered_anew",84,80) (by simp [tb])) g4⟩)
  (fun _ _ a ns hl hS hTb=>⟨a,ns,rfl,hS,hl,ZlT (tb:=tb) Zq1 hTb,fun _=>rfl⟩) fun _ _ _ _ _ z=>z
noncomputable def Zsd:List DRow:=[dR "is_whole" 1 189 2 1 15 193 true "tiefold.things" 187,
 dR "is_tuple_of" 2 196 4 2 22 201 true "tiefold.things" 187,
 dR "pairs_of" 3 204 6 1 29 211 true "tiefold.things" 187,
 dR "is_place" 5 216 13 2 36 221 true "tiefold.webs" 214,
 dR "near" 6 224 15 2 43 227 false "tiefold.webs" 214,
 dR "all_near" 7 230 17 1 48 233 false "tiefold.webs" 214,
 dR "are_tied" 8 236 20 3 53 242 true "tiefold.webs" 214,
 dR "marked_ties" 9 245 22 1 60 248 false "tiefold.webs" 214,
 dR "turned" 10 251 24 1 65 256 true "tiefold.webs" 214,
 dR "part" 11 259 27 2 72 264 true "tiefold.webs" 214,
 dR "numbered_anew" 12 267 29 2 79 273 true "tiefold.webs" 214,
 dR "web_where" 13 276 32 2 86 279 false "tiefold.webs" 214,
 dR "most" 15 284 36 1 91 289 true "tiefold.most" 282,
 dR "heaviest_knot" 16 292 39 2 98 295 false "tiefold.most" 282,
 dR "heaviest_among" 17 298 42 3 103 301 false "tiefold.most" 282,
 dR "apart_among" 18 304 54 3 108 307 false "tiefold.most" 282,
 dR "heaviest_with" 19 310 56 4 113 313 false "tiefold.most" 282,
 dR "weighed" 20 316 59 2 118 319 false "tiefold.most" 282,
 dR "is_hueing" 22 324 62 2 123 327 false "tiefold.hues" 322,
 dR "hued_along" 23 330 68 2 128 333 false "tiefold.hues" 322,
 dR "least_free" 24 336 74 1 133 339 false "tiefold.hues" 322,
 dR "fewest_hues" 25 342 76 1 138 349 true "tiefold.hues" 322,
 dR "hued_on" 26 352 84 3 145 355 false "tiefold.hues" 322,
 dR "is_paper" 28 360 96 3 150 366 true "tiefold.papers" 358,
 dR "ones" 29 369 98 1 157 373 true "tiefold.papers" 358,
 dR "is_bound" 30 376 100 5 164 385 true "tiefold.papers" 358,
 dR "is_bound_of_part" 31 388 113 6 171 397 true "tiefold.papers" 358,
 dR "weighed_by_hues" 32 400 115 2 178 407 true "tiefold.papers" 358,
 dR "places_without" 33 410 120 2 185 413 false "tiefold.papers" 358,
 dR "weights_along" 34 416 122 2 190 419 false "tiefold.papers" 358,
 dR "_law_tpen" 36 424 125 1 195 427 false "law_tiefold_k21_whole_knots_and_hues" 422,
 dR "_law_tdraw" 37 430 130 2 200 438 true "law_tiefold_k21_whole_knots_and_hues" 422,
 dR "_law_tweb" 38 441 141 2 207 453 true "law_tiefold_k21_whole_knots_and_hues" 422,
 dR "_law_torder" 39 456 154 2 214 459 false "law_tiefold_k21_whole_knots_and_hues" 422,
 dR "law" 40 462 157 1 219 465 false "law_tiefold_k21_whole_knots_and_hues" 422]
noncomputable def KF (P:Params):PySem.W.Frag:=Zsr top 181 ([dE P "__name__" 165 (.str "law_tiefold_k21_whole_knots_and_hues" 422)] ++ [dE P "__doc__" 166 (.none)] ++ [dE P "__package__" 167 (.none)] ++ [dE P "__loader__" 168 (.builtin "__main__.__loader__#opaque")] ++ [dE P "__spec__" 169 (.none)]++dRs P [nE "__annotations__" 170 6,nE "__builtins__" 171 4] ++ [dE P "__file__" 173 (.str "/claim/cut.py" 172)] ++ [dE P "__cached__" 174 (.none)]++dRs P [nE "is_whole" 195 21,nE "is_tuple_of" 203 28,nE "pairs_of" 213 35,nE "is_place" 223 42,nE "near" 229 47,nE "all_near" 235 52,nE "are_tied" 244 59,nE "marked_ties" 250 64,nE "turned" 258 71,nE "part" 266 78,nE "numbered_anew" 275 85,nE "web_where" 281 90,nE "most" 291 97,nE "heaviest_knot" 297 102,nE "heaviest_among" 303 107,nE "apart_among" 309 112,nE "heaviest_with" 315 117,nE "weighed" 321 122,nE "is_hueing" 329 127,nE "hued_along" 335 132,nE "least_free" 341 137,nE "fewest_hues" 351 144,nE "hued_on" 357 149,nE "is_paper" 368 156,nE "ones" 375 163,nE "is_bound" 387 170,nE "is_bound_of_part" 399 177,nE "weighed_by_hues" 409 184,nE "places_without" 415 189,nE "weights_along" 421 194,nE "_law_tpen" 429 199,nE "_law_tdraw" 440 206,nE "_law_tweb" 455 213,nE "_law_torder" 461 218,nE "law" 467 223]) 44 Zsd
noncomputable def asF:List Addr:=[3,20,21,27,28,34,35,41,42,46,47,51,52,58,59,63,64,70,71,77,78,84,85,89,90,96,97,101,102,106,107,111,112,116,117,121,122,126,127,131,132,136,137,143,144,148,149,155,156,162,163,169,170,176,177,183,184,188,189,193,194,198,199,205,206,212,213,217,218,222,223]
theorem eF:∀P,asF=(KF P).map (·.1):=fun _=>by kernel_rfl
noncomputable def qF:Program:=PySem.W.view PySem.Challenge.pw_tiefold_k21_whole_knots_and_hues [1,2,3,5,6,7,8,9,10,11,12,13,15,16,17,18,19,20,22,23,24,25,26,28,29,30,31,32,33,34,36,37,38,39,40]
theorem left:PySem.W.LeftO PySem.Challenge.rw_tiefold_k21_whole_knots_and_hues.prog qF [] (fun s=>PySem.W.xlAt qF [] s&&PySem.W.recOk PySem.Challenge.rw_tiefold_k21_whole_knots_and_hues.row.records s) (PySem.W.kHook KF asF eF).obs (PySem.W.kHook KF asF eF).val 2240:=fun w=>by kernel_rfl
theorem said:PySem.Challenge.rw_tiefold_k21_whole_knots_and_hues.wellSaid=true:=by kernel_rfl
end K21
open PySem PySem.W PyProof.Rows
set_option maxRecDepth 100000 in
set_option maxHeartbeats 0 in
theorem PySem.Challenge.cw_tiefold_k21_whole_knots_and_hues_holds : PySem.Challenge.rw_tiefold_k21_whole_knots_and_hues.Holds := by
 refine TF.head_of (q:=K21.qF) (K:=K21.KF) (st:=K21.s_law) K21.said K21.left (by kernel_rfl) (by kernel_rfl) (by kernel_rfl) (by decide +kernel) ⟨rfl,rfl,rfl,rfl,rfl,by decide +kernel⟩ ?hw rfl (K21.walk (l:=PySem.Challenge.rw_tiefold_k21_whole_knots_and_hues) rfl rfl (fun w h Y=>kIn_of Y) ?R ?B ?O ?F)
 case hw=>w_witness2
 case R=>exact List.forall_mem_cons.mpr ⟨Option.isSome_iff_exists.mp (by kernel_rfl),List.forall_mem_cons.mpr ⟨Option.isSome_iff_exists.mp (by kernel_rfl),(fun _ h=>nomatch h)⟩⟩
 case B=>intro w;exact List.forall_mem_cons.mpr ⟨by kernel_rfl,List.forall_mem_cons.mpr ⟨by kernel_rfl,(fun _ h=>nomatch h)⟩⟩
 case O=>intro w;kernel_rfl
 case F=>
  intro w mg fa h KX G hmg
  exact K21.all_mk 66 80 (TF.lok_nd (by decide)) KX G hmg
   (TF.is_mkx (f:=206) (c:=205) (pm:=.str "law_tiefold_k21_whole_knots_and_hues" 422) (by kernel_rfl) (by kernel_rfl) (by kernel_rfl))
   (TF.is_mkx (f:=218) (c:=217) (pm:=.str "law_tiefold_k21_whole_knots_and_hues" 422) (by kernel_rfl) (by kernel_rfl) (by kernel_rfl))
   (TF.is_mkx (f:=213) (c:=212) (pm:=.str "law_tiefold_k21_whole_knots_and_hues" 422) (by kernel_rfl) (by kernel_rfl) (by kernel_rfl))
   (TF.is_mkx (f:=64) (c:=63) (pm:=.str "tiefold.webs" 214) (by kernel_rfl) (by kernel_rfl) (by kernel_rfl))
   (TF.is_mkx (f:=59) (c:=58) (pm:=.str "tiefold.webs" 214) (by kernel_rfl) (by kernel_rfl) (by kernel_rfl))
   (TF.is_mkx (f:=47) (c:=46) (pm:=.str "tiefold.webs" 214) (by kernel_rfl) (by kernel_rfl) (by kernel_rfl))
   (TF.is_mkx (f:=52) (c:=51) (pm:=.str "tiefold.webs" 214) (by kernel_rfl) (by kernel_rfl) (by kernel_rfl))
   (TF.is_mkx (f:=149) (c:=148) (pm:=.str "tiefold.hues" 322) (by kernel_rfl) (by kernel_rfl) (by kernel_rfl))
   (TF.is_mkx (f:=112) (c:=111) (pm:=.str "tiefold.most" 282) (by kernel_rfl) (by kernel_rfl) (by kernel_rfl))
   (TF.is_mkx (f:=122) (c:=121) (pm:=.str "tiefold.most" 282) (by kernel_rfl) (by kernel_rfl) (by kernel_rfl))
   (TF.is_mkx (f:=117) (c:=116) (pm:=.str "tiefold.most" 282) (by kernel_rfl) (by kernel_rfl) (by kernel_rfl))
   (TF.is_mkx (f:=107) (c:=106) (pm:=.str "tiefold.most" 282) (by kernel_rfl) (by kernel_rfl) (by kernel_rfl))
   (TF.is_mkx (f:=35) (c:=34) (pm:=.str "tiefold.things" 187) (by kernel_rfl) (by kernel_rfl) (by kernel_rfl))
   (TF.is_mkx (f:=90) (c:=89) (pm:=.str "tiefold.webs" 214) (by kernel_rfl) (by kernel_rfl) (by kernel_rfl))
   (TF.is_mk (f:=71) (c:=70) (pm:=.str "tiefold.webs" 214) (by kernel_rfl) (by kernel_rfl) (by kernel_rfl))
   (TF.is_mkx (f:=102) (c:=101) (pm:=.str "tiefold.most" 282) (by kernel_rfl) (by kernel_rfl) (by kernel_rfl))
   (TF.is_mkx (f:=97) (c:=96) (pm:=.str "tiefold.most" 282) (by kernel_rfl) (by kernel_rfl) (by kernel_rfl))
   (TF.is_mkx (f:=144) (c:=143) (pm:=.str "tiefold.hues" 322) (by kernel_rfl) (by kernel_rfl) (by kernel_rfl))
   (TF.is_mkx (f:=137) (c:=136) (pm:=.str "tiefold.hues" 322) (by kernel_rfl) (by kernel_rfl) (by kernel_rfl))
   (TF.is_mkx (f:=132) (c:=131) (pm:=.str "tiefold.hues" 322) (by kernel_rfl) (by kernel_rfl) (by kernel_rfl))
   (TF.is_mkx (f:=21) (c:=20) (pm:=.str "tiefold.things" 187) (by kernel_rfl) (by kernel_rfl) (by kernel_rfl))
   (TF.is_mkx (f:=42) (c:=41) (pm:=.str "tiefold.webs" 214) (by kernel_rfl) (by kernel_rfl) (by kernel_rfl))
   (TF.is_mkx (f:=28) (c:=27) (pm:=.str "tiefold.things" 187) (by kernel_rfl) (by kernel_rfl) (by kernel_rfl))
   (TF.is_mkx (f:=127) (c:=126) (pm:=.str "tiefold.hues" 322) (by kernel_rfl) (by kernel_rfl) (by kernel_rfl))
   (TF.is_mkx (f:=189) (c:=188) (pm:=.str "tiefold.papers" 358) (by kernel_rfl) (by kernel_rfl) (by kernel_rfl))
   (TF.is_mkx (f:=184) (c:=183) (pm:=.str "tiefold.papers" 358) (by kernel_rfl) (by kernel_rfl) (by kernel_rfl))
   (TF.is_mk (f:=85) (c:=84) (pm:=.str "tiefold.webs" 214) (by kernel_rfl) (by kernel_rfl) (by kernel_rfl))
   (TF.is_mkx (f:=78) (c:=77) (pm:=.str "tiefold.webs" 214) (by kernel_rfl) (by kernel_rfl) (by kernel_rfl))
   (TF.is_mkx (f:=194) (c:=193) (pm:=.str "tiefold.papers" 358) (by kernel_rfl) (by kernel_rfl) (by kernel_rfl))
   (TF.is_mkx (f:=177) (c:=176) (pm:=.str "tiefold.papers" 358) (by kernel_rfl) (by kernel_rfl) (by kernel_rfl))
   (TF.is_mkx (f:=170) (c:=169) (pm:=.str "tiefold.papers" 358) (by kernel_rfl) (by kernel_rfl) (by kernel_rfl))
   (TF.is_mkx (f:=163) (c:=162) (pm:=.str "tiefold.papers" 358) (by kernel_rfl) (by kernel_rfl) (by kernel_rfl))
   (TF.is_mkx (f:=156) (c:=155) (pm:=.str "tiefold.papers" 358) (by kernel_rfl) (by kernel_rfl) (by kernel_rfl))
   (TF.is_mkx (f:=199) (c:=198) (pm:=.str "law_tiefold_k21_whole_knots_and_hues" 422) (by kernel_rfl) (by kernel_rfl) (by kernel_rfl))
   (TF.is_mkx (f:=223) (c:=222) (pm:=.str "law_tiefold_k21_whole_knots_and_hues" 422) (by kernel_rfl) (by kernel_rfl) (by kernel_rfl))
   (by kernel_rfl)
   (by kernel_rfl)
   (by kernel_rfl)
   (by kernel_rfl)
   (by kernel_rfl)
   (by kernel_rfl)
   (by kernel_rfl)
   (by kernel_rfl)
   (by kernel_rfl)
   (by kernel_rfl)
   (by kernel_rfl)
   (by kernel_rfl)
   (by kernel_rfl)
   (by kernel_rfl)
