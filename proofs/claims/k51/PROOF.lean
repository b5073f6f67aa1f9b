import PyProof.Rows.All
import Wide.All
import OpenK.AllK
import Wide.FinOn
import Lean
import PyProof.EqAt
import PyProof.EqKinds
import PyProof.TupleCall
import KE.KLam
import PyProof.ZipIter
import PyProof.WalksEnum
import PyProof.WalkInts
import PyProof.SeqI3
import PyProof.Rows.SeqMore
import PyProof.Rows.SortWalk
import PyProof.Draws
import PyProof.EnumMake
import PyProof.DictIter
import KE.KSortTup
import PyProof.Rows.SeqMore2
import PyProof.Rows.RuleIs
import PyProof.Rows.SetFrom
import PyProof.WalksMore
import PyProof.MinMaxWalk
import OpenK.KMore
import PyProof.Rows.SortRuns
import PyProof.Rows.SortRunsK
import KE.KMinKey
import PyProof.Cells
import KE.KDictSum
import PySem.Challenge.RW_tiefold_k51_pieces_told
-- CHANGE: your row's module here,as the last of these rows
set_option genSizeOfSpec false
set_option bootstrap.genMatcherCode false
set_option Elab.async false
set_option linter.all false
set_option maxRecDepth 100000
namespace L2
open PySem PySem.Spec PyProof.Rows
noncomputable abbrev Key:=Sum Int Str
noncomputable def keyIs:Key→Value→Bool
 | .inl k,v=>Value.isInt k v
 | .inr x,v=>Value.isStrOf x v
noncomputable def keyH (w:World):Key→Int
 | .inl k=>hashInt k
 | .inr x=>hashStr w x
theorem keyIs_shape:∀{k:Key} {v:Value},keyIs k v=true→(∃i t,k=Sum.inl i∧v=Value.int i t)∨(∃x t,k=Sum.inr x∧v=Value.str x t)
 | .inl i,v,h=>by
  obtain ⟨t,e⟩:=Value.isInt_shape (k:=i) (v:=v) h
  exact .inl ⟨i,t,rfl,e⟩
 | .inr x,v,h=>by
  obtain ⟨t,e⟩:=Value.isStrOf_shape (x:=x) (v:=v) h
  exact .inr ⟨x,t,rfl,e⟩
theorem keyIs_int (i:Int) (t:Tok):keyIs (.inl i) (.int i t)=true:=by simp [keyIs,Value.isInt]
theorem keyIs_str (x:Str) (t:Tok):keyIs (.inr x) (.str x t)=true:=by simp [keyIs,Value.isStrOf]
theorem key_ll (a b:Int):decide ((Sum.inl a:Key)=Sum.inl b)=(a==b):=by
 by_cases e:a=b
 ·subst e;simp
 ·have h:¬(Sum.inl a:Key)=Sum.inl b:=fun q=>e (Sum.inl.inj q)
  rw [decide_eq_false h]
  exact (beq_eq_false_iff_ne.mpr e).symm
theorem key_rr (a b:Str):decide ((Sum.inr a:Key)=Sum.inr b)=decide (a=b):=by
 by_cases e:a=b
 ·subst e;simp
 ·have h:¬(Sum.inr a:Key)=Sum.inr b:=fun q=>e (Sum.inr.inj q)
  rw [decide_eq_false h,decide_eq_false e]
theorem key_lr (a:Int) (b:Str):decide ((Sum.inl a:Key)=Sum.inr b)=false:=decide_eq_false (fun q=>nomatch q)
theorem key_rl (a:Str) (b:Int):decide ((Sum.inr a:Key)=Sum.inl b)=false:=decide_eq_false (fun q=>nomatch q)
noncomputable def mixKind (prog:Program) (w:World):PySem.KeyKind prog w Key where
 is:=keyIs
 hash:=keyH w
 inj:=fun v a b ha hb=>by
  rcases keyIs_shape ha with ⟨i,t,rfl,rfl⟩ | ⟨x,t,rfl,rfl⟩
  ·rcases keyIs_shape hb with ⟨j,u,rfl,e⟩ | ⟨y,u,rfl,e⟩
   ·injection e with e1 _;rw [e1]
   ·exact nomatch e
  ·rcases keyIs_shape hb with ⟨j,u,rfl,e⟩ | ⟨y,u,rfl,e⟩
   ·exact nomatch e
   ·injection e with e1 _;rw [e1]
 byValue:=fun k v h=>by
  rcases keyIs_shape h with ⟨i,t,rfl,rfl⟩ | ⟨x,t,rfl,rfl⟩ <;> rfl
 pyHash:=fun hv h=>by
  rcases keyIs_shape hv with ⟨i,t,rfl,rfl⟩ | ⟨x,t,rfl,rfl⟩
  ·exact wpAny_pyHash_int h
  ·exact wpAny_pyHash_str h
 eqBool:=fun hu hv h=>by
  rcases keyIs_shape hu with ⟨i,t,rfl,rfl⟩ | ⟨x,t,rfl,rfl⟩
  ·rcases keyIs_shape hv with ⟨j,u,rfl,rfl⟩ | ⟨y,u,rfl,rfl⟩
   ·rw [key_ll] at h;exact wpAny_eqBool_int h
   ·rw [key_lr] at h;exact SeqAt.EqAt.int_str i t y u _ _ _ _ h
  ·rcases keyIs_shape hv with ⟨j,u,rfl,rfl⟩ | ⟨y,u,rfl,rfl⟩
   ·rw [key_rl] at h;exact SeqAt.EqAt.str_int x t j u _ _ _ _ h
   ·rw [key_rr] at h;exact wpAny_eqBool_str h
 «strs»:=fun k x t v h=>by
  rcases keyIs_shape h with ⟨i,u,rfl,e⟩ | ⟨y,u,rfl,e⟩
  ·exact nomatch e
  ·injection e with e1 _
   subst e1
   cases v <;> rfl
theorem mixKind_int (prog:Program) (w:World) (i:Int) (t:Tok):(mixKind prog w).is (.inl i) (.int i t)=true:=keyIs_int i t
theorem mixKind_str (prog:Program) (w:World) (x:Str) (t:Tok):(mixKind prog w).is (.inr x) (.str x t)=true:=keyIs_str x t
end L2
namespace L2
open PySem PySem.Spec PyProof.Rows
inductive V where
 | non | bl (b:Bool) | int (i:Int) | str (x:Str) | byt (b:Array UInt8) | flt (b:UInt64) | ref (a:Addr) | ty (n:String)
 deriving DecidableEq
noncomputable def RelV:V→Value→Prop
 | .non,u=>u=Value.none
 | .bl b,u=>u=Value.bool b
 | .int i,u=>∃t,u=Value.int i t
 | .str x,u=>∃t,u=Value.str x t
 | .byt b,u=>∃t,u=Value.bytes b t
 | .flt b,u=>∃t,u=Value.float b t
 | .ref a,u=>u=Value.ref a
 | .ty n,u=>u=Value.type n
noncomputable abbrev Vals:List V→List Value→Prop:=Paired RelV
theorem Vals.length {xs:List V} {us:List Value} (r:Vals xs us):xs.length=us.length:=Paired.length r
theorem Vals.get:∀{xs:List V} {us:List Value} {i:Nat} {x:V},Vals xs us→xs[i]?=some x→∃u,us[i]?=some u∧RelV x u
 | _,_,_,_,.nil,e=>by simp at e
 | _,_,0,_,.cons r _,e=>by simp at e;subst e;exact ⟨_,rfl,r⟩
 | _,_,i+1,x,.cons _ t,e=>by
  obtain ⟨u,h1,h2⟩:=Vals.get (i:=i) (x:=x) t (by simpa using e)
  exact ⟨u,by simpa using h1,h2⟩
theorem Vals.set {x:V} {u:Value} (r:RelV x u):∀{xs:List V} {us:List Value} (i:Nat),Vals xs us→Vals (xs.set i x) (us.set i u)
 | _,_,_,.nil=>.nil
 | _,_,0,.cons _ t=>.cons r t
 | _,_,i+1,.cons q t=>.cons q (Vals.set r i t)
theorem Vals.append:∀{xs ys:List V} {us ws:List Value},Vals xs us→Vals ys ws→Vals (xs++ys) (us++ws)
 | _,_,_,_,.nil,s=>s
 | _,_,_,_,.cons r t,s=>.cons r (Vals.append t s)
noncomputable def RelO:Option V→Option Value→Prop
 | some v,some u=>RelV v u
 | none,none=>True
 | _,_=>False
noncomputable def KV {κ:Type}:List (κ×V)→List (κ×Value)→Prop:=Paired fun (p:κ×V) (q:κ×Value)=>p.1=q.1∧RelV p.2 q.2
noncomputable def kV:Key→V
 | .inl i=>.int i
 | .inr x=>.str x
inductive HO where
 | lst (xs:List V)
 | tup (xs:List V)
 | dK (kvs:List (Key×V)) | dT (kvs:List (List Key×V))
 | set (S:Int→Bool) (n:Nat)
 | ins (C dx:Addr) (fs:List (Str×V))
 | own (x:Addr)
 | xd (fs:List (Str×V))
 | met (f x:Addr)
 | rng (lo hi:Int)
 | frz (o:Obj) (u:HO)
 | tbl (ps:Array Value)
 | ext (φ:Heap→Prop)
noncomputable abbrev Hp:=Addr→Option HO
noncomputable def upd (H:Hp) (a:Addr) (o:HO):Hp:=fun b=>if b=a then some o else H b
theorem upd_same {H:Hp} {a:Addr} {o:HO}:upd H a o a=some o:=by unfold upd;rw [if_pos rfl]
theorem upd_ne {H:Hp} {a b:Addr} {o:HO} (h:b≠a):upd H a o b=H b:=by unfold upd;rw [if_neg h]
theorem upd_upd {H:Hp} {a:Addr} {o u:HO}:upd (upd H a o) a u=upd H a u:=by
 funext b;unfold upd;split <;> rfl
theorem ne_of {H:Hp} {a b:Addr} {o u:HO} (h:H a=some o) (h':H b=some u) (d:o≠u):a≠b:=by
 intro e;subst e;rw [h] at h';exact d (Option.some.inj h')
theorem ne_of_none {H:Hp} {a b:Addr} {o:HO} (h:H a=some o) (h':H b=none):a≠b:=by
 intro e;subst e;rw [h] at h';cases h'
section
variable (P:Program) (w:World)
noncomputable def ObjOk (H:Hp) (h:Heap) (a:Addr):HO→Prop
 | .lst xs=>xs.length≤sizeLine∧∃(its:List Value) (n:Nat),Vals xs its∧h.get? a=some { cls:=.type "list",data:=.seq its.toArray n }
 | .tup xs=>xs.length≤sizeLine∧∃its:List Value,Vals xs its∧IsTup h a its.toArray
 | .dK kvs=>kvs.length≤sizeLine∧(a==sysModules)=false∧∃vs,KV kvs vs∧h.DictOf (mixKind P w) a vs
 | .dT kvs=>kvs.length≤sizeLine∧(a==sysModules)=false∧∃xs:List (List Key×Addr×Value),
   Paired (fun (p:List Key×V) (q:List Key×Addr×Value)=>p.1=q.1∧H q.2.1=some (.tup (p.1.map kV))∧RelV p.2 q.2.2) kvs xs∧
   ∃o es ep,h.get? a=some o∧o.ExactDict∧o.data=.dict es ep∧es.toList=xs.map (entryOfKey (tupleKind (mixKind P w)))∧(xs.map (·.1)).Nodup
 | .set S n=>h.SetOf (intKind P w) a S n
 | .ins C dx fs=>H dx=some (.own a)∧fs.length≤1000∧dx≠a∧h.get? a=some (PySem.W.instObj C dx)∧
   ∃mA,h.Ns1 dx mA∧(∀f,RelO (fs.lookup f) (mA f))∧PySem.Within mA (fs.map (·.1))
 | .own _=>∃o,h.get? a=some o
 | .xd fs=>∃mA,h.Ns1 a mA∧∀f,RelO (fs.lookup f) (mA f)
 | .rng lo hi=>∃t u v,h.get? a=some { cls:=.type "range",data:=.fields #[.int lo t,.int hi u,.int 1 v] }
 | .frz o u=>h.get? a=some o∧ObjOk H h a u
 | .tbl ps=>h.get? a=some { cls:=.none,data:=.fields ps }
 | .met f x=>h.get? a=some (PySem.W.methodObj (.ref f) (.ref x))
 | .ext φ=>φ h∧(∃o,h.get? a=some o)∧∀h1 h2:Heap,φ h1→(∀o,h1.get? a=some o→h2.get? a=some o)→φ h2
noncomputable def HOk (H:Hp) (h:Heap):Prop:=∀a o,H a=some o→ObjOk P w H h a o
end
section
variable {P:Program} {w:World} {H H':Hp} {h h':Heap} {a:Addr} {o:HO}
theorem ObjOk.lt (x:ObjOk P w H h a o):a<h.objs.size:=by
 cases o with
 | lst xs=>obtain ⟨_,_,_,_,e⟩:=x;exact Heap.lt_size e
 | tup xs=>obtain ⟨_,_,_,p⟩:=x;exact p.lt
 | dK kvs=>obtain ⟨_,_,_,_,o,_,_,e,_⟩:=x;exact Heap.lt_size e
 | dT kvs=>obtain ⟨_,_,_,_,o,_,_,e,_⟩:=x;exact Heap.lt_size e
 | set S n=>obtain ⟨o,_,_,_,e,_⟩:=x;exact Heap.lt_size e
 | ins C dx fs=>obtain ⟨_,_,_,e,_⟩:=x;exact Heap.lt_size e
 | own y=>obtain ⟨_,e⟩:=x;exact Heap.lt_size e
 | xd fs=>obtain ⟨_,⟨_,_,_,e,_⟩,_⟩:=x;exact Heap.lt_size e
 | rng lo hi=>obtain ⟨_,_,_,e⟩:=x;exact Heap.lt_size e
 | frz ob u=>obtain ⟨e,_⟩:=x;exact Heap.lt_size e
 | tbl ps=>exact Heap.lt_size (show h.get? a=some _ from x)
 | met f y=>exact Heap.lt_size (show h.get? a=some _ from x)
 | ext φ=>obtain ⟨_,⟨_,e⟩,_⟩:=x;exact Heap.lt_size e
theorem Paired.mapP {α β:Type} {F G:α→β→Prop}:∀{l₁:List α} {l₂:List β},Paired F l₁ l₂→(∀a b,F a b→G a b)→Paired G l₁ l₂
 | _,_,.nil,_=>.nil
 | _,_,.cons r t,f=>.cons (f _ _ r) (Paired.mapP t f)
theorem ObjOk.stay (x:ObjOk P w H h a o) (k:∀b u,(b=a∨H b=some (.own a))→h.get? b=some u→h'.get? b=some u)
  (ho:∀b,H b=some (.own a)→H' b=some (.own a)) (ht:∀b xs,H b=some (.tup xs)→H' b=some (.tup xs)):ObjOk P w H' h' a o:=by
 induction o with
 | lst xs=>obtain ⟨z,its,n,r,e⟩:=x;exact ⟨z,its,n,r,k _ _ (.inl rfl) e⟩
 | tup xs=>obtain ⟨z,its,r,ob,e,c⟩:=x;exact ⟨z,its,r,ob,k _ _ (.inl rfl) e,c⟩
 | dK kvs=>obtain ⟨z,y,vs,r,ob,es,ep,e,c⟩:=x;exact ⟨z,y,vs,r,ob,es,ep,k _ _ (.inl rfl) e,c⟩
 | dT kvs=>
  obtain ⟨z,y,xs,r,ob,es,ep,e,c⟩:=x
  exact ⟨z,y,xs,Paired.mapP r fun p q z=>⟨z.1,ht _ _ z.2.1,z.2.2⟩,ob,es,ep,k _ _ (.inl rfl) e,c⟩
 | set S n=>obtain ⟨ob,es,ep,t,e,c⟩:=x;exact ⟨ob,es,ep,t,k _ _ (.inl rfl) e,c⟩
 | ins C dx fs=>
  obtain ⟨d,z,ne,e,mA,⟨od,es,ep,e2,c⟩,r⟩:=x
  exact ⟨ho _ d,z,ne,k _ _ (.inl rfl) e,mA,⟨od,es,ep,k _ _ (.inr d) e2,c⟩,r⟩
 | own y=>obtain ⟨ob,e⟩:=x;exact ⟨ob,k _ _ (.inl rfl) e⟩
 | xd fs=>obtain ⟨mA,⟨od,es,ep,e,c⟩,r⟩:=x;exact ⟨mA,⟨od,es,ep,k _ _ (.inl rfl) e,c⟩,r⟩
 | rng lo hi=>obtain ⟨t,u,v,e⟩:=x;exact ⟨t,u,v,k _ _ (.inl rfl) e⟩
 | frz ob u ih=>obtain ⟨e,q⟩:=x;exact ⟨k _ _ (.inl rfl) e,ih q⟩
 | tbl ps=>
  have e:h.get? a=some { cls:=.none,data:=.fields ps }:=x
  show h'.get? a=some { cls:=.none,data:=.fields ps }
  exact k a _ (.inl rfl) e
 | met f y=>
  have e:h.get? a=some (PySem.W.methodObj (.ref f) (.ref y)):=x
  show h'.get? a=some (PySem.W.methodObj (.ref f) (.ref y))
  exact k a _ (.inl rfl) e
 | ext φ=>obtain ⟨p,⟨o,e⟩,st⟩:=x;exact ⟨st _ _ p fun o q=>k _ _ (.inl rfl) q,⟨o,k _ _ (.inl rfl) e⟩,st⟩
theorem HOk.lt (x:HOk P w H h) (e:H a=some o):a<h.objs.size:=(x a o e).lt
theorem HOk.fresh (x:HOk P w H h) (e:h.objs.size≤a):H a=none:=by
 cases q:H a with
 | none=>rfl
 | some u=>exact absurd (Nat.lt_of_lt_of_le (x.lt q) e) (Nat.lt_irrefl _)
theorem HOk.kept (x:HOk P w H h) (k:∀b u,h.get? b=some u→h'.get? b=some u):HOk P w H h':=fun a o e=>
 (x a o e).stay (fun b u _ q=>k b u q) (fun _ q=>q) fun _ _ q=>q
theorem HOk.laid (x:HOk P w H h) (k:∀b u,h.get? b=some u→h'.get? b=some u) (hp:h.objs.size≤a) (new:ObjOk P w (upd H a o) h' a o):HOk P w (upd H a o) h':=fun b u e=>by
 have hn:=x.fresh hp
 by_cases hb:b=a
 ·subst hb;rw [upd_same] at e;cases e;exact new
 ·rw [upd_ne hb] at e
  exact (x b u e).stay (fun c v _ q=>k c v q) (fun c q=>by rw [upd_ne (ne_of_none q hn)];exact q) fun c xs q=>by rw [upd_ne (ne_of_none q hn)];exact q
end
noncomputable def Rd (H:Hp) (a:Addr) (u:HO):Prop:=H a=some u∨∃o,H a=some (.frz o u)
theorem Rd.ok {P:Program} {w:World} {H:Hp} {h:Heap} {a:Addr} {u:HO} (r:Rd H a u) (x:HOk P w H h):ObjOk P w H h a u:=by
 rcases r with r | ⟨o,r⟩
 ·exact x a u r
 ·obtain ⟨_,q⟩:=x a _ r
  exact q
noncomputable def Mut:Option HO→Prop
 | some (.lst _)=>True
 | some (.dK _)=>True
 | some (.dT _)=>True
 | some (.set _ _)=>True
 | some (.ins _ _ _)=>True
 | some (.ext _)=>True
 | _=>False
section
variable {P:Program} {w:World} {H:Hp} {h h':Heap} {x e:Addr} {o':HO}
theorem HOk.write (ok:HOk P w H h) (mu:Mut (H x)) (he:e=x∨H e=some (.own x)) (k:∀b u,b≠e→h.get? b=some u→h'.get? b=some u) (heo:∃u,h'.get? e=some u)
  (new:ObjOk P w (upd H x o') h' x o'):HOk P w (upd H x o') h':=fun b u q=>by
 have nown:∀c y,H c=some (.own y)→c≠x:=fun c y r z=>by subst z;rw [r] at mu;exact mu
 have ntup:∀c xs,H c=some (.tup xs)→c≠x:=fun c xs r z=>by subst z;rw [r] at mu;exact mu
 by_cases hb:b=x
 ·subst hb;rw [upd_same] at q;cases q;exact new
 ·rw [upd_ne hb] at q
  by_cases hbe:b=e
  ·have q':H b=some (.own x):=by
    rcases he with z | z
    ·exact absurd (hbe.trans z) hb
    ·rw [hbe];exact z
   rw [q] at q';cases q'
   obtain ⟨v,hv⟩:=heo
   exact ⟨v,by rw [hbe];exact hv⟩
  ·refine (ok b u q).stay (fun c v hc r=>k c v ?_ r) (fun c r=>by rw [upd_ne (nown c b r)];exact r) fun c xs r=>by rw [upd_ne (ntup c xs r)];exact r
   rcases hc with rfl | hc
   ·exact hbe
   ·rintro rfl
    rcases he with z | z
    ·exact nown c b hc z
    ·rw [hc] at z;cases z;exact hb rfl
end
structure Un (fs ex:List Addr) (H H':Hp) (h h':Heap):Prop where
 keep:∀b o,h.get? b=some o→H b=none→b∉fs→b∉ex→h'.get? b=some o
 slot:∀b o,h.get? b=some o→H b=none→b∈fs→b∉ex→∃sl,h'.get? b=some { o with slots:=sl }
 free:∀b o,h.get? b=some o→H b=none→b∉ex→H' b=none
 there:∀b o,h.get? b=some o→b∉ex→∃o',h'.get? b=some o'
 tups:∀b xs,H b=some (.tup xs)→H' b=some (.tup xs)
 frzs:∀b o u,H b=some (.frz o u)→H' b=some (.frz o u)
 tbls:∀b ps,H b=some (.tbl ps)→∃more,H' b=some (.tbl (ps++more))
section
variable {fs fs' ex ex':List Addr} {H H1 H2:Hp} {h h1 h2 h':Heap} {a x e:Addr} {o:HO}
theorem Un.any (u:Un fs ex H H1 h h1) {b:Addr} {ob:Obj} (q:h.get? b=some ob) (n:H b=none) (hx:b∉ex):∃sl,h1.get? b=some { ob with slots:=sl }:=by
 by_cases hb:b∈fs
 ·exact u.slot b ob q n hb hx
 ·exact ⟨ob.slots,u.keep b ob q n hb hx⟩
theorem Un.kept (k:∀b u,h.get? b=some u→h'.get? b=some u):Un fs ex H H h h':=
 ⟨fun b ob q _ _ _=>k b ob q,fun b ob q _ _ _=>⟨ob.slots,k b ob q⟩,fun _ _ _ n _=>n,fun b ob q _=>⟨ob,k b ob q⟩,fun _ _ q=>q,fun _ _ _ q=>q,fun _ ps q=>⟨#[],by rw [q];simp⟩⟩
theorem Un.refl:Un fs ex H H h h:=Un.kept fun _ _ q=>q
theorem Un.laid (k:∀b u,h.get? b=some u→h'.get? b=some u) (hp:h.objs.size≤a) (hn:H a=none):Un fs ex H (upd H a o) h h' where
 keep:=fun b u q _ _ _=>k b u q
 slot:=fun b u q _ _ _=>⟨u.slots,k b u q⟩
 free:=fun b u q n _=>by rw [upd_ne (Nat.ne_of_lt (Nat.lt_of_lt_of_le (Heap.lt_size q) hp))];exact n
 there:=fun b u q _=>⟨u,k b u q⟩
 tups:=fun b xs q=>by rw [upd_ne (ne_of_none q hn)];exact q
 frzs:=fun b u xs q=>by rw [upd_ne (ne_of_none q hn)];exact q
 tbls:=fun b ps q=>⟨#[],by rw [upd_ne (ne_of_none q hn),q];simp⟩
theorem Un.write (mu:Mut (H x)) (he:e=x∨H e=some (.own x)) (k:∀b u,b≠e→h.get? b=some u→h'.get? b=some u) (heo:∃u,h'.get? e=some u):Un fs ex H (upd H x o) h h':=by
 have hx:∀b,H b=none→b≠x:=fun b n z=>by subst z;rw [n] at mu;exact mu
 have hb:∀b,H b=none→b≠e:=fun b n z=>by
  subst z
  rcases he with r | r
  ·exact hx b n r
  ·rw [n] at r;cases r
 have hm:∀b u,H b=some u→¬Mut (some u)→b≠x:=fun b u q nm z=>by subst z;rw [q] at mu;exact nm mu
 refine ⟨fun b u q n _ _=>k b u (hb b n) q,fun b u q n _ _=>⟨u.slots,k b u (hb b n) q⟩,fun b u q n _=>by rw [upd_ne (hx b n)];exact n,fun b u q _=>?_,
  fun b xs q=>by rw [upd_ne (hm b _ q fun z=>z)];exact q,fun b u xs q=>by rw [upd_ne (hm b _ q fun z=>z)];exact q,fun b ps q=>⟨#[],by rw [upd_ne (hm b _ q fun z=>z),q];simp⟩⟩
 by_cases hbe:b=e
 ·subst hbe;exact heo
 ·exact ⟨u,k b u hbe q⟩
end
noncomputable def trk (h:Heap) (H:Hp):List Addr:=(List.range h.objs.size).filter fun a=>(H a).isSome
noncomputable def hidT (h:Heap) (H:Hp):Heap:=PySem.W.hideAll h (trk h H)
theorem hidT_size (h:Heap) (H:Hp):(hidT h H).objs.size=h.objs.size:=PySem.W.hideAll_size _ _
theorem hidT_get {h:Heap} {H:Hp} {b:Addr} {o:Obj} (e:h.get? b=some o) (n:H b=none):(hidT h H).get? b=some o:=
 PySem.W.hideAll_get _ e fun hm=>by
  have q:(H b).isSome=true:=(List.mem_filter.mp hm).2
  rw [n] at q;simp at q
theorem of_hidT {h:Heap} {H:Hp} {b:Addr} {o:Obj} (e:(hidT h H).get? b=some o):h.get? b=some o∧H b=none:=by
 have e':h.get? b=some o:=PySem.W.of_hideAll (trk h H) e
 refine ⟨e',?_⟩
 cases q:H b with
 | none=>rfl
 | some x=>
  have hm:b∈trk h H:=List.mem_filter.mpr ⟨List.mem_range.mpr (Heap.lt_size e'),by simp [q]⟩
  have z:(hidT h H).get? b=none:=PySem.W.hideAll_none (trk h H) hm
  rw [z] at e;cases e
end L2
namespace L2
open PySem PySem.Spec PyProof.Rows
structure Mod (K:PySem.W.Frag) (mg:Str→Option Value) (base:Heap):Prop where
 kin:K.In base
 glob:base.Ns mainGlobals mg
 blt:∃mb,base.Ns builtinsNs mb∧∀x:Str,x≠"__name__"→mb x=bootBuiltins x
 nolimit:base.NoLimit
structure Cx where
 prog:Program
 w:World
 K:PySem.W.Frag
 mg:Str→Option Value
 base:Heap
 A:Around
 N:List Str
 s₀:Shared
 H₀:Hp
 env:Env
 outer:List Env
 stack:List Env
 ex:List Addr
 fn:Str→Bool
 calm:Bool
 pn:List (Addr×Obj)
 xe:Value→Shared→Prop
noncomputable def frs (l:List Env):List Addr:=l.filterMap (·.frame)
noncomputable abbrev Cx.fs (X:Cx):List Addr:=frs X.outer
noncomputable def Vis (sc:Scope) (x:Str):Prop:=sc.names.lookup x=some .local∨sc.names.lookup x=some .cell∨sc.names.lookup x=some .free
noncomputable def Loc (sc:Scope) (x:Str):Prop:=sc.names.lookup x=some .local∨sc.names.lookup x=some .cell
noncomputable def Look (env:Env) (h:Heap) (m:Str→Option Value) (x:Str) (u:Value):Prop:=
 (env.kindOf x=some .local∧m x=some u)∨((env.kindOf x=some .cell∨env.kindOf x=some .free)∧∃c,env.cells.lookup x=some c∧h.IsCell c (some u))
structure Cx.Ok (X:Cx):Prop where
 mod:Mod X.K X.mg X.base
 kind:X.env.scope.kind=.function
 glob:X.env.globals=mainGlobals
 blt:X.env.builtins=builtinsNs
 above:X.s₀.heap.objs.size≤X.env.locals
 inj:∀x y c,X.env.cells.lookup x=some c→X.env.cells.lookup y=some c→x=y
 has:∀x,(X.env.kindOf x=some .cell∨X.env.kindOf x=some .free)→∃c,X.env.cells.lookup x=some c
 cab:∀x c,X.fn x=true→X.env.cells.lookup x=some c→X.s₀.heap.objs.size≤c
 hd:X.calm=true→X.A.handled=none
 frames:X.A.frames=some X.stack
 stk:X.stack=X.outer∨(X.stack=X.env::X.outer∧X.env.frame=some X.env.locals)
 exf:∀b∈X.ex,b≠X.env.locals∧∀x c,X.env.cells.lookup x=some c→c≠b
 bs:∀b o,X.base.get? b=some o→X.s₀.heap.get? b=some o∧X.H₀ b=none
 bsz:X.base.objs.size≤X.s₀.heap.objs.size
 noex:∀b o,X.base.get? b=some o→b∉X.ex
 exfs:∀b∈X.ex,b∉X.fs
 funs:X.s₀.heap.FunFrames X.base X.outer
 frf:∀b∈X.fs,X.H₀ b=none
structure Inv (X:Cx) (pins:List (Addr×Obj)) (σ:List (Option V)) (H:Hp) (s:Shared):Prop where
 ok:X.Ok
 os:s.os=X.s₀.os
 bare:AllBare s.gens
 base:Un X.fs X.ex X.H₀ H X.s₀.heap s.heap
 loc:∃m,s.heap.Ns X.env.locals m∧∀(i:Nat) (x:Str) (v:V),X.N[i]?=some x→σ[i]?=some (some v)→Vis X.env.scope x→∃u,RelV v u∧Look X.env s.heap m x u
 cell:∀x c,X.env.cells.lookup x=some c→∃v,s.heap.IsCell c v
 free:H X.env.locals=none
 freeC:∀x c,X.env.cells.lookup x=some c→H c=none
 pin:∀p∈X.pn++pins,s.heap.get? p.1=some p.2∧H p.1=none∧p.1≠X.env.locals∧p.1∉X.fs∧∀v,p.2.data≠.cell v
 hok:HOk X.prog X.w H s.heap
 len:σ.length=X.N.length
section
variable {X:Cx} {pins:List (Addr×Obj)} {σ:List (Option V)} {H H':Hp} {s:Shared} {h':Heap}
theorem Cx.Ok.nofr (ok:X.Ok) {b:Addr} {o:Obj} (e:X.base.get? b=some o):b∉X.fs:=fun hb=>by
 have:=(ok.funs.mem hb).1
 rw [e] at this;cases this
theorem Inv.bs (I:Inv X pins σ H s):∀b o,X.base.get? b=some o→s.heap.get? b=some o∧H b=none:=fun b o e=>
 ⟨I.base.keep b o (I.ok.bs b o e).1 (I.ok.bs b o e).2 (I.ok.nofr e) (I.ok.noex b o e),I.base.free b o (I.ok.bs b o e).1 (I.ok.bs b o e).2 (I.ok.noex b o e)⟩
theorem Inv.bk (I:Inv X pins σ H s):∀b o,X.base.get? b=some o→s.heap.get? b=some o:=fun b o e=>(I.bs b o e).1
theorem Inv.mod (I:Inv X pins σ H s):Mod X.K X.mg X.base:=I.ok.mod
theorem Inv.kIn (I:Inv X pins σ H s):X.K.In s.heap:=I.ok.mod.kin.keeps I.bk
theorem Inv.lt (I:Inv X pins σ H s):X.env.locals<s.heap.objs.size:=let ⟨_,hn,_⟩:=I.loc;hn.lt
theorem Inv.sz (I:Inv X pins σ H s):X.s₀.heap.objs.size≤s.heap.objs.size:=Nat.le_trans I.ok.above (Nat.le_of_lt I.lt)
theorem Inv.nofs (I:Inv X pins σ H s) {a:Addr} (h:s.heap.objs.size≤a):a∉X.fs:=fun hb=>by
 obtain ⟨_,o,ho,_⟩:=I.ok.funs.mem hb
 exact absurd (Nat.lt_of_lt_of_le (Heap.lt_size ho) (Nat.le_trans I.sz h)) (Nat.lt_irrefl _)
theorem Inv.cne (I:Inv X pins σ H s):∀x c,X.env.cells.lookup x=some c→c≠X.env.locals:=fun x c e z=>by
 obtain ⟨v,o,ho,hd⟩:=I.cell x c e
 obtain ⟨m,⟨o',es,ep,ho',hd',_⟩,_⟩:=I.loc
 rw [z,ho'] at ho;cases ho;rw [hd'] at hd;cases hd
theorem Inv.funs (I:Inv X pins σ H s):s.heap.FunFrames X.base X.outer:=by
 have all:∀(l:List Env),(∀b∈frs l,b∈X.fs)→X.s₀.heap.FunFrames X.base l→s.heap.FunFrames X.base l:=by
  intro l
  induction l with
  | nil=>intro _ _;trivial
  | cons env r ih=>
   intro hs hl
   obtain ⟨hk,⟨L,o,hf,hn,ho,hd⟩,hr⟩:=hl
   have hL:L∈X.fs:=hs L (by unfold frs;rw [List.filterMap_cons,hf];exact List.mem_cons_self)
   obtain ⟨sl,e⟩:=I.base.slot L o ho (I.ok.frf L hL) hL fun z=>I.ok.exfs L z hL
   exact ⟨hk,⟨L,_,hf,hn,e,hd⟩,ih (fun b hb=>hs b (by unfold frs;rw [List.filterMap_cons,hf];exact List.mem_cons_of_mem _ hb)) hr⟩
 exact all X.outer (fun _ hb=>hb) I.ok.funs
theorem Inv.stack (I:Inv X pins σ H s):s.heap.FunFrames X.base X.stack:=by
 rcases I.ok.stk with e | ⟨e,hf⟩
 ·rw [e];exact I.funs
 ·rw [e]
  obtain ⟨m,hn,_⟩:=I.loc
  refine .cons (by rw [I.ok.kind];decide) hf hn ?_ I.funs
  exact Heap.get?_none_of_le (Nat.le_trans I.ok.bsz I.ok.above)
theorem Inv.stkSub (I:Inv X pins σ H s):∀b∈frs X.stack,b∈X.env.locals::X.fs:=fun b hb=>by
 rcases I.ok.stk with e | ⟨e,hf⟩
 ·rw [e] at hb;exact List.mem_cons_of_mem _ hb
 ·rw [e] at hb
  unfold frs at hb
  rw [List.filterMap_cons,hf] at hb
  exact hb
theorem Inv.stkFree (I:Inv X pins σ H s):∀b∈frs X.stack,H b=none:=fun b hb=>by
 rcases List.mem_cons.mp (I.stkSub b hb) with e | hb
 ·rw [e];exact I.free
 ·obtain ⟨_,o,ho,_⟩:=I.ok.funs.mem hb
  exact I.base.free b o ho (I.ok.frf b hb) fun z=>I.ok.exfs b z hb
theorem Inv.step {g':Array GenState} {t':Nat} {d':Drawn} {ch:List Addr} (I:Inv X pins σ H s)
  (hch:∀b∈ch,(b∈X.ex∨X.s₀.heap.objs.size≤b)∧b≠X.env.locals∧(∀x c,X.env.cells.lookup x=some c→c≠b)∧∀p∈X.pn++pins,p.1≠b)
  (keep:∀b o,b≠X.env.locals→b∉X.fs→b∉ch→s.heap.get? b=some o→H b=none→h'.get? b=some o)
  (slot:∀b o,b≠X.env.locals→b∈X.fs→b∉ch→s.heap.get? b=some o→H b=none→∃sl,h'.get? b=some { o with slots:=sl }) (free:∀b o,b∉ch→s.heap.get? b=some o→H b=none→H' b=none)
  (there:∀b o,b∉ch→s.heap.get? b=some o→∃o',h'.get? b=some o')
  (tups:∀b xs,H b=some (.tup xs)→H' b=some (.tup xs)) (frzs:∀b o u,H b=some (.frz o u)→H' b=some (.frz o u)) (tbls:∀b ps,H b=some (.tbl ps)→∃more,H' b=some (.tbl (ps++more)))
  (ns:∀m,s.heap.Ns X.env.locals m→h'.Ns X.env.locals m) (hok:HOk X.prog X.w H' h') (hg:AllBare g') :
  Inv X pins σ H' { s with heap:=h',gens:=g',drawn:=d',toks:=t' }:=by
 have neL:∀b o,X.s₀.heap.get? b=some o→b≠X.env.locals:=fun b o e=>Nat.ne_of_lt (Nat.lt_of_lt_of_le (Heap.lt_size e) I.ok.above)
 have neC:∀b o,X.s₀.heap.get? b=some o→b∉X.ex→b∉ch:=fun b o e hx hb=>by
  rcases (hch b hb).1 with z | z
  ·exact hx z
  ·exact absurd (Nat.lt_of_lt_of_le (Heap.lt_size e) z) (Nat.lt_irrefl _)
 have cellK:∀x c,X.env.cells.lookup x=some c→∀v,s.heap.IsCell c v→h'.IsCell c v:=fun x c e v ⟨o,ho,hd⟩=>by
  have nch:c∉ch:=fun z=>(hch c z).2.2.1 x c e rfl
  by_cases hc:c∈X.fs
  ·obtain ⟨sl,q⟩:=slot c o (I.cne x c e) hc nch ho (I.freeC x c e)
   exact ⟨_,q,hd⟩
  ·exact ⟨o,keep c o (I.cne x c e) hc nch ho (I.freeC x c e),hd⟩
 refine ⟨I.ok,I.os,hg,⟨fun b o e n hb hx=>?_,fun b o e n hb hx=>?_,fun b o e n hx=>?_,fun b o e hx=>?_,fun b xs e=>tups b xs (I.base.tups b xs e),fun b o xs e=>frzs b o xs (I.base.frzs b o xs e),fun b ps e=>?_⟩,?_,fun x c e=>?_,?_,fun x c e=>?_,fun p hp=>?_,hok,I.len⟩
 ·exact keep b o (neL b o e) hb (neC b o e hx) (I.base.keep b o e n hb hx) (I.base.free b o e n hx)
 ·obtain ⟨sl,e1⟩:=I.base.slot b o e n hb hx
  obtain ⟨sl',e2⟩:=slot b _ (neL b o e) hb (neC b o e hx) e1 (I.base.free b o e n hx)
  exact ⟨sl',e2⟩
 ·obtain ⟨o',e1⟩:=I.base.there b o e hx
  exact free b o' (neC b o e hx) e1 (I.base.free b o e n hx)
 ·obtain ⟨o',e1⟩:=I.base.there b o e hx
  exact there b o' (neC b o e hx) e1
 ·obtain ⟨m1,e1⟩:=I.base.tbls b ps e
  obtain ⟨m2,e2⟩:=tbls b _ e1
  exact ⟨m1++m2,by rw [e2,Array.append_assoc]⟩
 ·obtain ⟨m,hn,hl⟩:=I.loc
  refine ⟨m,ns m hn,fun i x v e1 e2 e3=>?_⟩
  obtain ⟨u,r,l⟩:=hl i x v e1 e2 e3
  refine ⟨u,r,?_⟩
  rcases l with l | ⟨k,c,e,z⟩
  ·exact .inl l
  ·exact .inr ⟨k,c,e,cellK x c e _ z⟩
 ·obtain ⟨v,z⟩:=I.cell x c e
  exact ⟨v,cellK x c e v z⟩
 ·obtain ⟨m,⟨o,_,_,ho,_⟩,_⟩:=I.loc
  exact free _ o (fun z=>(hch _ z).2.1 rfl) ho I.free
 ·obtain ⟨v,o,ho,hd⟩:=I.cell x c e
  exact free c o (fun z=>(hch c z).2.2.1 x c e rfl) ho (I.freeC x c e)
 ·obtain ⟨e,n,ne,nf,d⟩:=I.pin p hp
  have nch:p.1∉ch:=fun z=>(hch p.1 z).2.2.2 p hp rfl
  exact ⟨keep p.1 p.2 ne nf nch e n,free p.1 p.2 nch e n,ne,nf,d⟩
theorem Inv.un {t':Nat} (I:Inv X pins σ H s) (u:Un X.fs [] H H' s.heap h') (hok:HOk X.prog X.w H' h'):Inv X pins σ H' { s with heap:=h',toks:=t' }:=by
 obtain ⟨m,⟨o,es,ep,ho,r⟩,_⟩:=id I.loc
 obtain ⟨sl,hL⟩:=u.any ho I.free (by simp)
 exact I.step (g':=s.gens) (d':=s.drawn) (ch:=[]) (fun _ z=>nomatch z) (fun b o _ hb _ e n=>u.keep b o e n hb (by simp)) (fun b o _ hb _ e n=>u.slot b o e n hb (by simp)) (fun b o _ e n=>u.free b o e n (by simp)) (fun b o _ e=>u.there b o e (by simp)) u.tups u.frzs u.tbls (fun m' hm=>by
  obtain ⟨o',es',ep',ho',r'⟩:=hm
  rw [ho] at ho';cases ho'
  exact ⟨_,es',ep',hL,r'⟩) hok I.bare
theorem Inv.call {g':Array GenState} {t':Nat} {d':Drawn} {ch:List Addr} (I:Inv X pins σ H s) (u:Un (frs X.stack) ch H H' s.heap h') (hok:HOk X.prog X.w H' h') (hg:AllBare g')
  (hch:∀b∈ch,(b∈X.ex∨X.s₀.heap.objs.size≤b)∧b≠X.env.locals∧(∀x c,X.env.cells.lookup x=some c→c≠b)∧∀p∈X.pn++pins,p.1≠b) :
  Inv X pins σ H' { s with heap:=h',gens:=g',drawn:=d',toks:=t' }:=by
 obtain ⟨m,⟨o,es,ep,ho,r⟩,_⟩:=id I.loc
 obtain ⟨sl,hL⟩:=u.any ho I.free fun z=>(hch _ z).2.1 rfl
 exact I.step (ch:=ch) hch (fun b o hL hb hc e n=>u.keep b o e n (fun z=>(List.mem_cons.mp (I.stkSub b z)).elim hL hb) hc) (fun b o _ _ hc e n=>u.any e n hc) (fun b o hc e n=>u.free b o e n hc) (fun b o hc e=>u.there b o e hc) u.tups u.frzs u.tbls (fun m' hm=>by
  obtain ⟨o',es',ep',ho',r'⟩:=hm
  rw [ho] at ho';cases ho'
  exact ⟨_,es',ep',hL,r'⟩) hok hg
theorem Inv.turned {t':Nat} {it:Addr} (I:Inv X pins σ H s) (k:∀b o,b≠it→s.heap.get? b=some o→h'.get? b=some o) (hn:H it=none) (hL:it≠X.env.locals)
  (h1:it∈X.ex∨X.s₀.heap.objs.size≤it) (h2:∀x c,X.env.cells.lookup x=some c→c≠it) (h3:∀p∈X.pn++pins,p.1≠it):Inv X pins σ H { s with heap:=h',toks:=t' }:=by
 have nit:∀b u,H b=some u→b≠it:=fun b u e z=>by rw [z,hn] at e;cases e
 refine I.step (g':=s.gens) (d':=s.drawn) (ch:=[it]) (fun b hb=>?_) (fun b o _ _ hc e _=>k b o (fun z=>hc (by simp [z])) e) (fun b o _ _ hc e _=>⟨o.slots,k b o (fun z=>hc (by simp [z])) e⟩) (fun _ _ _ _ n=>n)
  (fun b o hc e=>⟨o,k b o (fun z=>hc (by simp [z])) e⟩) (fun _ _ e=>e) (fun _ _ _ e=>e) (fun b ps e=>⟨#[],by rw [e];simp⟩) (fun m hm=>?_) (fun b u e=>?_) I.bare
 ·have e:b=it:=by simpa using hb
  subst e
  exact ⟨h1,hL,h2,h3⟩
 ·obtain ⟨o,es,ep,ho,r⟩:=hm
  exact ⟨o,es,ep,k _ o (Ne.symm hL) ho,r⟩
 ·refine (I.hok b u e).stay (fun c v hc q=>k c v ?_ q) (fun _ q=>q) fun _ _ q=>q
  rcases hc with z | z
  ·rw [z];exact nit b u e
  ·exact nit c _ z
theorem Inv.tok (I:Inv X pins σ H s) (t:Nat):Inv X pins σ H { s with toks:=t }:=I.un (h':=s.heap) (t':=t) Un.refl I.hok
theorem Inv.kept {t':Nat} (I:Inv X pins σ H s) (k:∀b u,s.heap.get? b=some u→h'.get? b=some u):Inv X pins σ H { s with heap:=h',toks:=t' }:=I.un (Un.kept k) (I.hok.kept k)
theorem Inv.laid {a:Addr} {o:HO} {t':Nat} (I:Inv X pins σ H s) (k:∀b u,s.heap.get? b=some u→h'.get? b=some u) (hp:s.heap.objs.size≤a) (new:ObjOk X.prog X.w (upd H a o) h' a o) :
  Inv X pins σ (upd H a o) { s with heap:=h',toks:=t' }:=I.un (Un.laid k hp (I.hok.fresh hp)) (I.hok.laid k hp new)
theorem Inv.write {x e:Addr} {o:HO} {t':Nat} (I:Inv X pins σ H s) (mu:Mut (H x)) (he:e=x∨H e=some (.own x)) (k:∀b u,b≠e→s.heap.get? b=some u→h'.get? b=some u) (heo:∃u,h'.get? e=some u)
  (new:ObjOk X.prog X.w (upd H x o) h' x o):Inv X pins σ (upd H x o) { s with heap:=h',toks:=t' }:=I.un (Un.write mu he k heo) (I.hok.write mu he k heo new)
theorem Inv.pins_of {pins':List (Addr×Obj)} (I:Inv X pins σ H s) (h:∀p∈pins',s.heap.get? p.1=some p.2∧H p.1=none∧p.1≠X.env.locals∧p.1∉X.fs∧∀v,p.2.data≠.cell v):Inv X pins' σ H s:=
 ⟨I.ok,I.os,I.bare,I.base,I.loc,I.cell,I.free,I.freeC,fun p hp=>(List.mem_append.mp hp).elim (fun z=>I.pin p (List.mem_append_left _ z)) (h p),I.hok,I.len⟩
theorem nodup_ix {N:List Str} (hN:N.Nodup) {i j:Nat} {x:Str} (a:N[i]?=some x) (b:N[j]?=some x):i=j:=by
 obtain ⟨h1,e1⟩:=List.getElem?_eq_some_iff.mp a
 obtain ⟨h2,e2⟩:=List.getElem?_eq_some_iff.mp b
 exact (List.getElem_inj hN).mp (e1.trans e2.symm)
theorem store_ok2 {M:Model} {A:Around} {E:Value→Shared→Prop} {i:Nat} {x:Str} {v:V} {u:Value} {Q:Unit→Shared→Prop} (I:Inv X pins σ H s) (hN:X.N.Nodup) (hi:X.N[i]?=some x) (hx:Loc X.env.scope x) (r:RelV v u)
  (h:∀s',Inv X pins (σ.set i (some v)) H s'→(∃a,Heap.SameBut a s.heap s'.heap∧(a=X.env.locals∨X.env.cells.lookup x=some a))→Q () s') (hf:X.fn x=true∨X.env.scope.names.lookup x=some .local:=by first | exact .inl rfl | exact .inr rfl | assumption):wpAny M A (storeName X.env x u) Q E s:=by
 obtain ⟨m,hn,hl⟩:=id I.loc
 have hcls:(X.env.scope.kind == .class||(X.env.scope.kind == .module&&X.env.locals != X.env.globals))=false:=by rw [I.ok.kind];rfl
 have hiσ:i < σ.length:=by rw [I.len];exact (List.getElem?_eq_some_iff.mp hi).1
 have cne:=I.cne
 have tracked:∀{a:Addr} {h':Heap},(∃o,s.heap.get? a=some o∧H a=none)→Heap.SameBut a s.heap h'→HOk X.prog X.w H h':=fun {a h'} ha hs b ob e=>by
  obtain ⟨_,_,hfree⟩:=ha
  refine (I.hok b ob e).stay (fun c w' hc q=>(hs.2 c ?_).trans q) (fun _ q=>q) fun _ _ q=>q
  rintro rfl
  rcases hc with rfl | hc
  ·rw [hfree] at e;cases e
  ·rw [hfree] at hc;cases hc
 rcases hx with hk | hk
 ·refine wpAny_storeName_local hk hn (fun h' hn' hs=>?_) hcls
  obtain ⟨oL,_,_,hoL,_⟩:=id hn
  refine h _ ⟨I.ok,I.os,I.bare,⟨fun b o e n hb hx=>?_,fun b o e n hb hx=>?_,I.base.free,fun b o e hx=>?_,I.base.tups,I.base.frzs,I.base.tbls⟩,⟨_,hn',fun j y v' e1 e2 e3=>?_⟩,fun y c e=>?_,I.free,I.freeC,fun p hp=>?_,tracked ⟨oL,hoL,I.free⟩ hs,by simpa using I.len⟩ ⟨_,hs,.inl rfl⟩
  ·exact (hs.2 b (Nat.ne_of_lt (Nat.lt_of_lt_of_le (Heap.lt_size e) I.ok.above))).trans (I.base.keep b o e n hb hx)
  ·obtain ⟨sl,e1⟩:=I.base.slot b o e n hb hx
   exact ⟨sl,(hs.2 b (Nat.ne_of_lt (Nat.lt_of_lt_of_le (Heap.lt_size e) I.ok.above))).trans e1⟩
  ·obtain ⟨o',e1⟩:=I.base.there b o e hx
   exact ⟨o',(hs.2 b (Nat.ne_of_lt (Nat.lt_of_lt_of_le (Heap.lt_size e) I.ok.above))).trans e1⟩
  ·by_cases hj:j=i
   ·subst hj
    rw [hi] at e1;cases e1
    rw [List.getElem?_set_self hiσ] at e2
    cases e2
    exact ⟨u,r,.inl ⟨hk,by simp⟩⟩
   ·rw [List.getElem?_set_ne (Ne.symm hj)] at e2
    obtain ⟨u',r',q⟩:=hl j y v' e1 e2 e3
    refine ⟨u',r',?_⟩
    rcases q with ⟨k,e⟩ | ⟨k,c,e,z⟩
    ·refine .inl ⟨k,?_⟩
     have:y≠x:=fun e=>hj (nodup_ix hN e1 (e▸hi))
     simp [this,e]
    ·exact .inr ⟨k,c,e,z.sameBut hs (cne y c e)⟩
  ·obtain ⟨w',z⟩:=I.cell y c e
   exact ⟨w',z.sameBut hs (cne y c e)⟩
  ·obtain ⟨e,n,ne,nf,d⟩:=I.pin p hp
   exact ⟨(hs.2 p.1 ne).trans e,n,ne,nf,d⟩
 ·have hfn:X.fn x=true:=by
   rcases hf with z | z
   ·exact z
   ·rw [z] at hk;cases hk
  obtain ⟨c,hc⟩:=I.ok.has x (.inl hk)
  obtain ⟨w',z⟩:=I.cell x c hc
  refine wpAny_storeName_cell I.ok.kind hk hc z (fun h' hc' hs=>?_)
  obtain ⟨oc,hoc,hocd⟩:=id z
  refine h { s with heap:=h' } ⟨I.ok,I.os,I.bare,⟨fun b o e n hb hx=>?_,fun b o e n hb hx=>?_,I.base.free,fun b o e hx=>?_,I.base.tups,I.base.frzs,I.base.tbls⟩,⟨m,hn.sameBut hs (Ne.symm (cne x c hc)),fun j y v' e1 e2 e3=>?_⟩,fun y c' e=>?_,I.free,I.freeC,fun p hp=>?_,tracked ⟨oc,hoc,I.freeC x c hc⟩ hs,by simpa using I.len⟩ ⟨c,hs,.inr hc⟩
  ·exact (hs.2 b (Nat.ne_of_lt (Nat.lt_of_lt_of_le (Heap.lt_size e) (I.ok.cab x c hfn hc)))).trans (I.base.keep b o e n hb hx)
  ·obtain ⟨sl,e1⟩:=I.base.slot b o e n hb hx
   exact ⟨sl,(hs.2 b (Nat.ne_of_lt (Nat.lt_of_lt_of_le (Heap.lt_size e) (I.ok.cab x c hfn hc)))).trans e1⟩
  ·obtain ⟨o',e1⟩:=I.base.there b o e hx
   exact ⟨o',(hs.2 b (Nat.ne_of_lt (Nat.lt_of_lt_of_le (Heap.lt_size e) (I.ok.cab x c hfn hc)))).trans e1⟩
  ·by_cases hj:j=i
   ·subst hj
    rw [hi] at e1;cases e1
    rw [List.getElem?_set_self hiσ] at e2
    cases e2
    exact ⟨u,r,.inr ⟨.inl hk,c,hc,hc'⟩⟩
   ·rw [List.getElem?_set_ne (Ne.symm hj)] at e2
    obtain ⟨u',r',q⟩:=hl j y v' e1 e2 e3
    refine ⟨u',r',?_⟩
    rcases q with q | ⟨k,c',e,z'⟩
    ·exact .inl q
    ·refine .inr ⟨k,c',e,z'.sameBut hs ?_⟩
     rintro rfl
     exact hj (nodup_ix hN e1 (I.ok.inj _ _ _ e hc▸hi))
  ·by_cases hcc:c'=c
   ·subst hcc;exact ⟨_,hc'⟩
   ·obtain ⟨w2,z2⟩:=I.cell y c' e
    exact ⟨w2,z2.sameBut hs hcc⟩
  ·obtain ⟨e,n,ne,nf,d⟩:=I.pin p hp
   refine ⟨(hs.2 p.1 ?_).trans e,n,ne,nf,d⟩
   intro q
   rw [q,hoc] at e
   have q':oc=p.2:=Option.some.inj e
   exact d w' (by rw [←q'];exact hocd)
theorem store_ok {M:Model} {A:Around} {E:Value→Shared→Prop} {i:Nat} {x:Str} {v:V} {u:Value} {Q:Unit→Shared→Prop} (I:Inv X pins σ H s) (hN:X.N.Nodup) (hi:X.N[i]?=some x) (hx:Loc X.env.scope x) (r:RelV v u)
  (h:∀s',Inv X pins (σ.set i (some v)) H s'→Q () s') (hf:X.fn x=true∨X.env.scope.names.lookup x=some .local:=by first | exact .inl rfl | exact .inr rfl | assumption):wpAny M A (storeName X.env x u) Q E s:=
 store_ok2 I hN hi hx r (fun s' I' _=>h s' I') hf
theorem Inv.call' {s':Shared} {ch:List Addr} (I:Inv X pins σ H s) (ho:s'.os=s.os) (u:Un (frs X.stack) ch H H' s.heap s'.heap) (hok:HOk X.prog X.w H' s'.heap) (hg:AllBare s'.gens)
  (hch:∀b∈ch,(b∈X.ex∨X.s₀.heap.objs.size≤b)∧b≠X.env.locals∧(∀x c,X.env.cells.lookup x=some c→c≠b)∧∀p∈X.pn++pins,p.1≠b):Inv X pins σ H' s':=by
 obtain ⟨h',g',d',t',o'⟩:=s'
 have e:o'=s.os:=ho
 subst e
 exact I.call (g':=g') (t':=t') (d':=d') u hok hg hch
end
noncomputable abbrev XK:=Value→Option Addr→Hp→Prop
noncomputable abbrev St:=List (Option V)
noncomputable abbrev VK:=V→Hp→Prop
noncomputable abbrev TE:=St→Hp→VK→Prop
noncomputable abbrev TT:=St→Hp→(Bool→Hp→Prop)→Prop
noncomputable abbrev TA:=St→Hp→(List V→Hp→Prop)→Prop
structure Ends where
 nx:St→Hp→Prop
 rt:VK
 bk:St→Hp→Prop:=fun _ _=>False
 ct:St→Hp→Prop:=fun _ _=>False
noncomputable abbrev TS:=Ends→St→Hp→Prop
noncomputable def EP (X:Cx) (pins:List (Addr×Obj)) (σ:St) (Q:VK) (u:Value) (s':Shared):Prop:=∃v H',Inv X pins σ H' s'∧RelV v u∧Q v H'
noncomputable def TP (X:Cx) (pins:List (Addr×Obj)) (σ:St) (Q:Bool→Hp→Prop) (b:Bool) (s':Shared):Prop:=∃H',Inv X pins σ H' s'∧Q b H'
noncomputable def AP (X:Cx) (pins:List (Addr×Obj)) (σ:St) (Q:List V→Hp→Prop) (us:List Value) (s':Shared):Prop:=∃vs H',Inv X pins σ H' s'∧Vals vs us∧Q vs H'
noncomputable def SP (X:Cx) (pins:List (Addr×Obj)) (D:Ends) (f:Flow) (s':Shared):Prop:=
 match f with
 | .next=>∃σ' H',Inv X pins σ' H' s'∧D.nx σ' H'
 | .brk=>∃σ' H',Inv X pins σ' H' s'∧D.bk σ' H'
 | .cont=>∃σ' H',Inv X pins σ' H' s'∧D.ct σ' H'
 | .ret u=>∃v σ' H',Inv X pins σ' H' s'∧RelV v u∧D.rt v H'
noncomputable def PE (X:Cx) (e:Expr) (t:TE):Prop:=
 ∀(pins:List (Addr×Obj)) (s:Shared) (σ:St) (H:Hp) (Q:VK),Inv X pins σ H s→t σ H Q→wpAny (model X.prog X.w) X.A (eval e X.env) (EP X pins σ Q) X.xe s
noncomputable def PT (X:Cx) (e:Expr) (t:TT):Prop:=
 ∀(pins:List (Addr×Obj)) (s:Shared) (σ:St) (H:Hp) (Q:Bool→Hp→Prop),Inv X pins σ H s→t σ H Q→wpAny (model X.prog X.w) X.A (isTrue e X.env (eval e X.env)) (TP X pins σ Q) X.xe s
noncomputable def PW (X:Cx) (e:Expr) (t:TT):Prop:=
 ∀(whole:Sem Value) (pins:List (Addr×Obj)) (s:Shared) (σ:St) (H:Hp) (Q:Bool→Hp→Prop),Inv X pins σ H s→t σ H Q→wpAny (model X.prog X.w) X.A (isTrue e X.env whole) (TP X pins σ Q) X.xe s
theorem PW.pt {X:Cx} {e:Expr} {t:TT} (h:PW X e t):PT X e t:=h _
noncomputable def PA (X:Cx) (es:List Expr) (t:TA):Prop:=
 ∀(pos:Pos) (pins:List (Addr×Obj)) (s:Shared) (σ:St) (H:Hp) (Q:List V→Hp→Prop),Inv X pins σ H s→t σ H Q→wpAny (model X.prog X.w) X.A (spliced (backTo pos (starEach es X.env))) (AP X pins σ Q) X.xe s
noncomputable def PS (X:Cx) (st:Stmt) (t:TS):Prop:=
 ∀(pins:List (Addr×Obj)) (s:Shared) (σ:St) (H:Hp) (D:Ends),Inv X pins σ H s→t D σ H→wpAny (model X.prog X.w) X.A (exec st X.env) (SP X pins D) X.xe s
noncomputable def PSs (X:Cx) (st:List Stmt) (t:TS):Prop:=
 ∀(pins:List (Addr×Obj)) (s:Shared) (σ:St) (H:Hp) (D:Ends),Inv X pins σ H s→t D σ H→wpAny (model X.prog X.w) X.A (execs st X.env) (SP X pins D) X.xe s
theorem thn {α:Type} {t:Sem α} {Q Q':α→Shared→Prop} {M:Model} {A:Around} {E:Value→Shared→Prop} {s:Shared} (h:wpAny M A t Q E s) (hQ:∀a s,Q a s→Q' a s):wpAny M A t Q' E s:=wpAny_mono h hQ fun _ _ x=>x
end L2
namespace L2
open PySem PySem.Spec PyProof.Rows
section
variable {X:Cx}
noncomputable def tVar (i:Nat):TE:=fun σ H Q=>∃v,σ[i]?=some (some v)∧Q v H
noncomputable def tC (v:V):TE:=fun _ H Q=>Q v H
theorem pe_var {i:Nat} {x:Str} {pos:Pos} (hN:X.N[i]?=some x) (hv:Vis X.env.scope x) (hd:(x==("__debug__" : Str))=false:=by decide) (hcd:(x==("__classdict__" : Str))=false:=by decide):PE X (.Name x pos) (tVar i):=by
 intro pins s σ H Q I h
 obtain ⟨v,e,h⟩:=h
 obtain ⟨m,hn,hl⟩:=I.loc
 obtain ⟨u,r,l⟩:=hl i x v hN e hv
 have fin:EP X pins σ Q u s:=⟨v,H,I,r,h⟩
 rcases l with ⟨hk,hm⟩ | ⟨hk,c,hc,hcell⟩
 ·exact wpAny_Name (wpAny_loadName_local I.ok.kind hk hn hm fin) hd
 ·rcases hk with hk | hk
  ·exact wpAny_Name (wpAny_loadName_cell I.ok.kind hk hc hcell fin) hd
  ·exact wpAny_Name (wpAny_loadName_free I.ok.kind hk hc hcell fin hcd) hd
theorem pe_int {i j pos}:PE X (.Constant (.int i) j pos) (tC (.int i)):=fun _ _ _ H _ I h=>wpAny_Constant_int ⟨.int i,H,I.tok _,⟨_,rfl⟩,h⟩
theorem pe_bl {b j pos}:PE X (.Constant (.bool b) j pos) (tC (.bl b)):=fun _ _ _ H _ I h=>Constant_bool ⟨.bl b,H,I,rfl,h⟩
theorem pe_non {j pos}:PE X (.Constant .none j pos) (tC .non):=fun _ _ _ H _ I h=>Constant_none ⟨.non,H,I,rfl,h⟩
theorem pe_str {x j pos}:PE X (.Constant (.str x) j pos) (tC (.str x)):=fun _ _ _ H _ I h=>Calls.Constant_str ⟨.str x,H,I.tok _,⟨_,rfl⟩,h⟩
noncomputable def Gl (X:Cx) (x:Str):Prop:=X.env.kindOf x=some .globalImplicit
theorem ld_glob {E:Value→Shared→Prop} {pins:List (Addr×Obj)} {s:Shared} {σ:St} {H:Hp} {x:Str} {u:Value} {pos:Pos} {Q:Value→Shared→Prop} (I:Inv X pins σ H s) (hg:Gl X x) (hm:X.mg x=some u) (h:Q u s)
  (hd:(x==("__debug__" : Str))=false:=by decide):wpAny (model X.prog X.w) X.A (eval (.Name x pos) X.env) Q E s:=
 Calls.Name_function_global I.ok.kind hg (Calls.loadGlobal_global (by rw [I.ok.glob];exact I.mod.glob.keeps I.bk) hm h) hd
theorem ld_blt {E:Value→Shared→Prop} {pins:List (Addr×Obj)} {s:Shared} {σ:St} {H:Hp} {x:Str} {u:Value} {pos:Pos} {Q:Value→Shared→Prop} (I:Inv X pins σ H s) (hg:Gl X x) (hm:X.mg x=none) (hv:bootBuiltins x=some u) (h:Q u s)
  (hn:x≠"__name__":=by decide) (hd:(x==("__debug__" : Str))=false:=by decide):wpAny (model X.prog X.w) X.A (eval (.Name x pos) X.env) Q E s:=by
 obtain ⟨mb,h1,h2⟩:=I.mod.blt
 exact Calls.Name_function_global I.ok.kind hg (Calls.loadGlobal_builtin (by rw [I.ok.glob];exact I.mod.glob.keeps I.bk) hm (by rw [I.ok.blt];exact h1.keeps I.bk) ((h2 x hn).trans hv) h) hd
theorem pe_glob {x:Str} {v:V} {u:Value} {pos:Pos} (hg:Gl X x) (hm:X.mg x=some u) (r:RelV v u) (hd:(x==("__debug__" : Str))=false:=by decide):PE X (.Name x pos) (tC v):=
 fun _ _ _ H _ I h=>ld_glob I hg hm ⟨v,H,I,r,h⟩ hd
theorem pe_bltn {x:Str} {v:V} {u:Value} {pos:Pos} (hg:Gl X x) (hm:X.mg x=none) (hv:bootBuiltins x=some u) (r:RelV v u) (hn:x≠"__name__":=by decide) (hd:(x==("__debug__" : Str))=false:=by decide):PE X (.Name x pos) (tC v):=
 fun _ _ _ H _ I h=>ld_blt I hg hm hv ⟨v,H,I,r,h⟩ hn hd
variable {a b:Expr} {ta tb:TE} {pos:Pos}
noncomputable def tB (t:TE):TT:=fun σ H Q=>t σ H fun x H1=>∃c,x=.bl c∧Q c H1
theorem pt_val {e:Expr} {t:TE} (h:PE X e t) (he:∀whole,isTrue e X.env whole=(do let v←whole;standAt e.pos;holding [v] (truthy v)):=by intro _;rfl):PT X e (tB t):=by
 intro pins s σ H Q I hw
 refine isTrue_plain (thn (h pins s σ H _ I hw) fun v s1 ⟨x,H1,I1,r1,q1⟩=>?_) (he _)
 obtain ⟨d,rfl,q⟩:=q1
 cases r1
 exact wpAny_truthy_bool ⟨H1,I1,q⟩
variable {tA tB':TT} {rest:List Expr}
noncomputable def tAnd (t u:TT):TT:=fun σ H Q=>t σ H fun c H1=>if c=true then u σ H1 Q else Q false H1
noncomputable def tOr (t u:TT):TT:=fun σ H Q=>t σ H fun c H1=>if c=true then Q true H1 else u σ H1 Q
noncomputable def tNot (t:TT):TT:=fun σ H Q=>t σ H fun c H1=>Q (!c) H1
theorem pw_and1 (ha:PT X a tA):PW X (.BoolOp .And [a] pos) tA:=by
 intro wh pins s σ H Q I h
 refine isTrue_and (thn (ha pins s σ H Q I h) fun c s1 e=>?_)
 cases c with
 | true=>exact isTrue_and_nil e
 | false=>exact e
theorem pw_or1 (ha:PT X a tA):PW X (.BoolOp .Or [a] pos) tA:=by
 intro wh pins s σ H Q I h
 refine isTrue_or (thn (ha pins s σ H Q I h) fun c s1 e=>?_)
 cases c with
 | false=>exact isTrue_or_nil e
 | true=>exact e
theorem pw_and (ha:PT X a tA) (hb:PW X (.BoolOp .And (b::rest) pos) tB'):PW X (.BoolOp .And (a::b::rest) pos) (tAnd tA tB'):=by
 intro wh pins s σ H Q I h
 refine isTrue_and (thn (ha pins s σ H _ I h) fun c s1 ⟨H1,I1,q1⟩=>?_)
 cases c with
 | true=>exact hb wh pins s1 σ H1 Q I1 q1
 | false=>exact ⟨H1,I1,q1⟩
theorem pw_or (ha:PT X a tA) (hb:PW X (.BoolOp .Or (b::rest) pos) tB'):PW X (.BoolOp .Or (a::b::rest) pos) (tOr tA tB'):=by
 intro wh pins s σ H Q I h
 refine isTrue_or (thn (ha pins s σ H _ I h) fun c s1 ⟨H1,I1,q1⟩=>?_)
 cases c with
 | true=>exact ⟨H1,I1,q1⟩
 | false=>exact hb wh pins s1 σ H1 Q I1 q1
theorem pt_not (ha:PT X a tA):PT X (.UnaryOp .Not a pos) (tNot tA):=by
 intro pins s σ H Q I h
 exact isTrue_not (ha pins s σ H (fun c H1=>Q (!c) H1) I h)
noncomputable def tAndV (ta tb:TE):TE:=fun σ H Q=>ta σ H fun x H1=>∃c,x=.bl c∧if c=true then tb σ H1 Q else Q (.bl false) H1
noncomputable def tNotV (ta:TE):TE:=fun σ H Q=>ta σ H fun x H1=>∃c,x=.bl c∧Q (.bl (!c)) H1
theorem pe_one {op} {t:TE} (h:PE X a t):PE X (.BoolOp op [a] pos) t:=fun pins s σ H Q I hw=>BoolOp_one (h pins s σ H Q I hw)
theorem pe_and (ha:PE X a ta) (hb:PE X (.BoolOp .And (b::rest) pos) tb):PE X (.BoolOp .And (a::b::rest) pos) (tAndV ta tb):=by
 intro pins s σ H Q I h
 refine BoolOp_and (thn (ha pins s σ H _ I h) fun v s1 ⟨x,H1,I1,r1,q1⟩=>?_)
 obtain ⟨c,rfl,q1⟩:=q1
 cases r1
 refine wpAny_truthy_bool ?_
 cases c with
 | true=>exact hb pins s1 σ H1 Q I1 q1
 | false=>exact ⟨.bl false,H1,I1,rfl,q1⟩
theorem pe_not (ha:PE X a ta):PE X (.UnaryOp .Not a pos) (tNotV ta):=by
 intro pins s σ H Q I h
 refine UnaryOp_ (thn (ha pins s σ H _ I h) fun v s1 ⟨x,H1,I1,r1,q1⟩=>?_)
 obtain ⟨c,rfl,q1⟩:=q1
 cases r1
 exact not_of (wpAny_truthy_bool ⟨.bl (!c),H1,I1,rfl,q1⟩)
end
end L2
namespace L2
open PySem PySem.Spec PyProof.Rows
noncomputable def SqL (K:PySem.W.Frag) (H:Hp) (a:Addr) (xs:List V):Prop:=
 Rd H a (.lst xs)∨
  ∃(o:Obj) (its:Array Value) (n:Nat),K.lookup a=some o∧o.cls=.type "list"∧o.dict=none∧o.data=.seq its n∧its.size≤sizeLine∧Vals xs its.toList
noncomputable def SqT (K:PySem.W.Frag) (H:Hp) (a:Addr) (xs:List V):Prop:=
 Rd H a (.tup xs)∨
  ∃(o:Obj) (its:Array Value) (n:Nat),K.lookup a=some o∧o.cls=.type "tuple"∧o.data=.seq its n∧its.size≤sizeLine∧Vals xs its.toList
noncomputable def absV:Value→Option V
 | .none=>some .non
 | .bool b=>some (.bl b)
 | .int i _=>some (.int i)
 | .str x _=>some (.str x)
 | .bytes b _=>some (.byt b)
 | .float b _=>some (.flt b)
 | .ref a=>some (.ref a)
 | .type n=>some (.ty n)
 | _=>none
theorem RelV.abs {x:V} {u:Value} (r:RelV x u):absV u=some x:=by
 cases x with
 | non=>cases r;rfl
 | bl _=>cases r;rfl
 | int _=>obtain ⟨t,rfl⟩:=r;rfl
 | str _=>obtain ⟨t,rfl⟩:=r;rfl
 | byt _=>obtain ⟨t,rfl⟩:=r;rfl
 | flt _=>obtain ⟨t,rfl⟩:=r;rfl
 | ref _=>cases r;rfl
 | ty _=>cases r;rfl
theorem RelV.inj {x y:V} {u:Value} (r:RelV x u) (q:RelV y u):x=y:=Option.some.inj (r.abs.symm.trans q.abs)
theorem Vals.inj:∀{xs ys:List V} {us:List Value},Vals xs us→Vals ys us→xs=ys
 | _,_,_,.nil,.nil=>rfl
 | _,_,_,.cons r t,.cons r' t'=>by rw [r.inj r',Vals.inj t t']
section
variable {X:Cx} {pins:List (Addr×Obj)} {σ:St} {H:Hp} {s:Shared} {a:Addr} {xs ys:List V}
theorem SqL.of {K:PySem.W.Frag} (h:H a=some (.lst xs)):SqL K H a xs:=.inl (.inl h)
theorem SqT.of {K:PySem.W.Frag} (h:H a=some (.tup xs)):SqT K H a xs:=.inl (.inl h)
theorem Inv.list (I:Inv X pins σ H s) (h:SqL X.K H a xs):∃its:List Value,Vals xs its∧PlainL s.heap a its.toArray∧xs.length≤sizeLine:=by
 rcases h with h | ⟨o,its,n,hk,hc,hd,hs,hz,r⟩
 ·obtain ⟨z,its,n,r,e⟩:=h.ok I.hok
  exact ⟨its,r,⟨_,n,e,rfl,rfl,rfl⟩,z⟩
 ·refine ⟨its.toList,r,⟨o,n,I.kIn a o hk,hc,hd,by simpa using hs⟩,?_⟩
  have e:=r.length
  simp only [Array.length_toList] at e
  omega
theorem Inv.tuple (I:Inv X pins σ H s) (h:SqT X.K H a xs):∃its:List Value,Vals xs its∧IsTup s.heap a its.toArray∧xs.length≤sizeLine:=by
 rcases h with h | ⟨o,its,n,hk,hc,hs,hz,r⟩
 ·obtain ⟨z,its,r,p⟩:=h.ok I.hok
  exact ⟨its,r,p,z⟩
 ·refine ⟨its.toList,r,⟨o,I.kIn a o hk,hc,n,by simpa using hs⟩,?_⟩
  have e:=r.length
  simp only [Array.length_toList] at e
  omega
theorem Inv.list_inj (I:Inv X pins σ H s) (h:SqL X.K H a xs) (h':SqL X.K H a ys):xs=ys:=by
 obtain ⟨its,r,⟨o,n,e,_,_,d⟩,_⟩:=I.list h
 obtain ⟨its',r',⟨o',n',e',_,_,d'⟩,_⟩:=I.list h'
 rw [e] at e';cases e'
 rw [d] at d'
 injection d' with d1 _
 have:its=its':=by simpa using congrArg Array.toList d1
 subst this
 exact r.inj r'
theorem Inv.tuple_inj (I:Inv X pins σ H s) (h:SqT X.K H a xs) (h':SqT X.K H a ys):xs=ys:=by
 obtain ⟨its,r,⟨o,e,_,n,d⟩,_⟩:=I.tuple h
 obtain ⟨its',r',⟨o',e',_,n',d'⟩,_⟩:=I.tuple h'
 rw [e] at e';cases e'
 rw [d] at d'
 injection d' with d1 _
 have:its=its':=by simpa using congrArg Array.toList d1
 subst this
 exact r.inj r'
end
noncomputable abbrev Cx.wish (X:Cx) (E:Value→Shared→Prop):Cx:={ X with xe:=E }
noncomputable abbrev Cx.nox (X:Cx):Cx:=X.wish fun _ _=>False
theorem Cx.Ok.wish {X:Cx} (ok:X.Ok) (E:Value→Shared→Prop):(X.wish E).Ok:=
 ⟨ok.mod,ok.kind,ok.glob,ok.blt,ok.above,ok.inj,ok.has,ok.cab,ok.hd,ok.frames,ok.stk,ok.exf,ok.bs,ok.bsz,ok.noex,ok.exfs,ok.funs,ok.frf⟩
theorem Cx.Ok.unwish {X:Cx} {E:Value→Shared→Prop} (ok:(X.wish E).Ok):X.Ok:=
 ⟨ok.mod,ok.kind,ok.glob,ok.blt,ok.above,ok.inj,ok.has,ok.cab,ok.hd,ok.frames,ok.stk,ok.exf,ok.bs,ok.bsz,ok.noex,ok.exfs,ok.funs,ok.frf⟩
section
variable {X:Cx} {pins:List (Addr×Obj)} {σ:St} {H:Hp} {s:Shared} {E:Value→Shared→Prop}
theorem Inv.wish (I:Inv X pins σ H s) (E:Value→Shared→Prop):Inv (X.wish E) pins σ H s:=⟨I.ok.wish E,I.os,I.bare,I.base,I.loc,I.cell,I.free,I.freeC,I.pin,I.hok,I.len⟩
theorem Inv.unwish (I:Inv (X.wish E) pins σ H s):Inv X pins σ H s:=⟨I.ok.unwish,I.os,I.bare,I.base,I.loc,I.cell,I.free,I.freeC,I.pin,I.hok,I.len⟩
theorem SP.unwish {D:Ends} {f:Flow} {s':Shared} (h:SP (X.wish E) pins D f s'):SP X pins D f s':=by
 cases f with
 | next=>obtain ⟨σ',H',I,q⟩:=h;exact ⟨σ',H',I.unwish,q⟩
 | brk=>obtain ⟨σ',H',I,q⟩:=h;exact ⟨σ',H',I.unwish,q⟩
 | cont=>obtain ⟨σ',H',I,q⟩:=h;exact ⟨σ',H',I.unwish,q⟩
 | ret u=>obtain ⟨v,σ',H',I,r,q⟩:=h;exact ⟨v,σ',H',I.unwish,r,q⟩
theorem PE.nox {e:Expr} {t:TE} (h:PE X.nox e t):PE X e t:=fun pins s σ H Q I hw=>
 wpAny_mono (h pins s σ H Q (I.wish _) hw) (fun _ _ ⟨v,H',I',r,q⟩=>⟨v,H',I'.unwish,r,q⟩) fun _ _ z=>False.elim z
theorem PSs.nox {st:List Stmt} {t:TS} (h:PSs X.nox st t):PSs X st t:=fun pins s σ H D I hw=>
 wpAny_mono (h pins s σ H D (I.wish _) hw) (fun _ _ q=>q.unwish) fun _ _ z=>False.elim z
end
section
variable {X:Cx} {st:Stmt} {rest:List Stmt} {t u:TS} {e:Expr} {te:TE} {pos:Pos}
noncomputable def tNext:TS:=fun D σ H=>D.nx σ H
noncomputable def tSeq (t u:TS):TS:=fun D σ H=>t { D with nx:=u D } σ H
theorem pss_nil:PSs X [] tNext:=fun _ _ σ H _ I h=>wpAny_execs_nil ⟨σ,H,I,h⟩
theorem pss_cons (h1:PS X st t) (h2:PSs X rest u):PSs X (st::rest) (tSeq t u):=by
 intro pins s σ H D I h
 refine wpAny_execs_cons (thn (h1 pins s σ H { D with nx:=u D } I h) fun f s1 q=>?_)
 cases f with
 | next=>
  obtain ⟨σ',H',I',q⟩:=q
  exact h2 pins s1 σ' H' D I' q
 | ret v=>exact q
 | brk=>exact q
 | cont=>exact q
theorem pss_one (h1:PS X st t):PSs X [st] t:=by
 intro pins s σ H D I h
 refine wpAny_execs_cons (thn (h1 pins s σ H D I h) fun f s1 q=>?_)
 cases f with
 | next=>exact wpAny_execs_nil q
 | ret v=>exact q
 | brk=>exact q
 | cont=>exact q
theorem Inv.quiet {pins:List (Addr×Obj)} {σ:St} {H:Hp} {s:Shared} (I:Inv X pins σ H s):interactive X.env=false:=by simp [interactive,I.ok.kind]
noncomputable def tDrop (te:TE):TS:=fun D σ H=>te σ H fun _ H1=>D.nx σ H1
theorem ps_expr (he:PE X e te) (hs:swapsWith e none pos.line X.env=pure false:=by rfl):PS X (.Expr e pos) (tDrop te):=by
 intro pins s σ H D I h
 exact wpAny_Expr_any (thn (he pins s σ H _ I h) fun v s1 ⟨x,H1,I1,r1,q1⟩=>⟨σ,H1,I1,q1⟩) I.quiet hs
noncomputable def tRet (te:TE):TS:=fun D σ H=>te σ H D.rt
theorem ps_ret (he:PE X e te):PS X (.Return (some e) pos) (tRet te):=by
 intro pins s σ H D I h
 exact wpAny_Return_some (thn (he pins s σ H _ I h) fun v s1 ⟨x,H1,I1,r1,q1⟩=>⟨x,σ,H1,I1,r1,q1⟩)
noncomputable def tIfS (c:TT) (t u:TS):TS:=fun D σ H=>c σ H fun b H1=>if b=true then t D σ H1 else u D σ H1
theorem ps_if {c:Expr} {a b:List Stmt} {tc:TT} (hc:PT X c tc) (ha:PSs X a t) (hb:PSs X b u):PS X (.If c a b pos) (tIfS tc t u):=by
 intro pins s σ H D I h
 refine wpAny_If (thn (hc pins s σ H _ I h) fun d s1 ⟨H1,I1,q1⟩=>?_)
 cases d with
 | true=>exact ha pins s1 σ H1 D I1 q1
 | false=>exact hb pins s1 σ H1 D I1 q1
end
noncomputable abbrev TG:=V→St→Hp→(St→Hp→Prop)→Prop
noncomputable abbrev TGs:=List V→St→Hp→(St→Hp→Prop)→Prop
noncomputable def PG (X:Cx) (target:Expr) (t:TG):Prop:=
 ∀(pins:List (Addr×Obj)) (s:Shared) (σ:St) (H:Hp) (v:V) (u:Value) (Q:St→Hp→Prop),Inv X pins σ H s→RelV v u→t v σ H Q→
  wpAny (model X.prog X.w) X.A (assign target X.env u) (fun _ s'=>∃σ' H',Inv X pins σ' H' s'∧Q σ' H') X.xe s
noncomputable def PGs (X:Cx) (ts:List Expr) (t:TGs):Prop:=
 ∀(pins:List (Addr×Obj)) (s:Shared) (σ:St) (H:Hp) (vs:List V) (us:List Value) (Q:St→Hp→Prop),Inv X pins σ H s→Vals vs us→t vs σ H Q→
  wpAny (model X.prog X.w) X.A (assignInOrder ((assignEach ts X.env).map (·.2)) us) (fun _ s'=>∃σ' H',Inv X pins σ' H' s'∧Q σ' H') X.xe s
noncomputable abbrev TSet:=V→V→V→Hp→(Hp→Prop)→Prop
noncomputable def PSet (X:Cx) (t:TSet):Prop:=
 ∀(pins:List (Addr×Obj)) (s:Shared) (σ:St) (H:Hp) (o i v:V) (ov iv u:Value) (Q:Hp→Prop),Inv X pins σ H s→RelV o ov→RelV i iv→RelV v u→t o i v H Q→
  wpAny (model X.prog X.w) X.A (setItem ov iv u) (fun _ s'=>∃H',Inv X pins σ H' s'∧Q H') X.xe s
section
variable {X:Cx} {pos:Pos}
noncomputable def gName (i:Nat):TG:=fun v σ H Q=>Q (σ.set i (some v)) H
theorem pg_name {i:Nat} {x:Str} (hN:X.N.Nodup) (hi:X.N[i]?=some x) (hx:Loc X.env.scope x) (hf:X.fn x=true∨X.env.scope.names.lookup x=some .local:=by first | exact .inl rfl | exact .inr rfl | assumption):PG X (.Name x pos) (gName i):=by
 intro pins s σ H v u Q I r h
 exact wpAny_assign_Name (store_ok I hN hi hx r (fun s' I'=>⟨_,H,I',h⟩) hf)
noncomputable def gNil:TGs:=fun vs σ H Q=>vs=[]∧Q σ H
noncomputable def gCons (t:TG) (u:TGs):TGs:=fun vs σ H Q=>∃v r,vs=v::r∧t v σ H fun σ' H'=>u r σ' H' Q
theorem pgs_nil:PGs X [] gNil:=by
 intro pins s σ H vs us Q I r h
 obtain ⟨e,h⟩:=h
 subst e
 cases r
 exact assignInOrder_nil ⟨σ,H,I,h⟩
theorem pgs_cons {e:Expr} {es:List Expr} {t:TG} {u:TGs} (h1:PG X e t) (h2:PGs X es u)
  (hs:(assignEach (e::es) X.env).map (·.2)=assign e X.env::(assignEach es X.env).map (·.2):=by rfl):PGs X (e::es) (gCons t u):=by
 intro pins s σ H vs us Q I r h
 obtain ⟨v,vr,e1,h⟩:=h
 subst e1
 cases r with
 | cons r rr=>
  rw [hs]
  refine assignInOrder_cons (thn (h1 pins s σ H _ _ _ I r h) fun _ s1 ⟨σ1,H1,I1,q1⟩=>?_)
  exact h2 pins s1 σ1 H1 _ _ Q I1 rr q1
noncomputable def gTup (K:PySem.W.Frag) (n:Nat) (t:TGs):TG:=fun v σ H Q=>∃a xs,v=.ref a∧SqT K H a xs∧xs.length=n∧t xs σ H Q
theorem pg_tup {es:List Expr} {k:Nat} {t:TGs} {n:Nat} (hc:X.calm=true) (h:PGs X es t)
  (hn:(assignEach es X.env).length=n:=by rfl) (hst:(assignEach es X.env).findIdx? (·.1)=none:=by rfl):PG X (.Tuple es k pos) (gTup X.K n t):=by
 intro pins s σ H v u Q I r hw
 obtain ⟨a,xs,e1,hq,hl,hw⟩:=hw
 subst e1
 cases r
 obtain ⟨its,rv,ht,hz⟩:=I.tuple hq
 refine assign_Tuple_tuple (I.ok.hd hc) ht (by simp [hn,←hl,rv.length]) hst fun h' hx=>?_
 have I1:Inv X pins σ H { s with heap:=h' }:=I.kept (t':=s.toks) fun b o e=>hx b o (Nat.ne_of_lt (Heap.lt_size e)) e
 exact h pins _ σ H xs _ Q I1 (by simpa using rv) hw
noncomputable def gSub (to ti:TE) (t:TSet):TG:=fun v σ H Q=>to σ H fun o H1=>ti σ H1 fun i H2=>t o i v H2 fun H3=>Q σ H3
theorem pg_sub {o i:Expr} {to ti:TE} {t:TSet} (ho:PE X o to) (hi:PE X i ti) (hs:PSet X t)
  (ha:∀v,assign (.Subscript o i pos) X.env v=(do
   let ov←holding [v] (eval o X.env)
   let iv←holding [v,ov] (eval i X.env)
   standAt pos
   holding [v,ov,iv] (setItem ov iv v)
   release [v,ov,iv] []):=by intro _;rfl):PG X (.Subscript o i pos) (gSub to ti t):=by
 intro pins s σ H v u Q I r h
 rw [ha]
 refine wpAny_bind (wpAny_holding (thn (ho pins s σ H _ I h) fun ov s1 ⟨x,H1,I1,r1,q1⟩=>?_))
 refine wpAny_bind (wpAny_holding (thn (hi pins s1 σ H1 _ I1 q1) fun iv s2 ⟨y,H2,I2,r2,q2⟩=>?_))
 refine wpAny_bind (wpAny_standAt (wpAny_bind (wpAny_holding (thn (hs pins s2 σ H2 x y v ov iv u _ I2 r1 r2 r q2) fun _ s3 ⟨H3,I3,q3⟩=>?_))))
 exact wpAny_release ⟨σ,H3,I3,q3⟩
noncomputable def tAsg (te:TE) (g:TG):TS:=fun D σ H=>te σ H fun x H1=>g x σ H1 D.nx
theorem ps_asg {tg e:Expr} {te:TE} {g:TG} (he:PE X e te) (hg:PG X tg g) (hs:swapsWithSole [tg] e pos.line X.env=pure false:=by rfl) (hw:swappedStores [tg] e X.env=pure none:=by rfl)
  (h1:(assignEach [tg] X.env).map (·.2)=[assign tg X.env]:=by rfl):PS X (.Assign [tg] e pos) (tAsg te g):=by
 intro pins s σ H D I h
 refine wpAny_Assign_stores (thn (he pins s σ H _ I h) fun v s1 ⟨x,H1,I1,r1,q1⟩=>?_) hs hw
 rw [h1]
 exact thn (hg pins s1 σ H1 x v _ I1 r1 q1) fun _ s2 q=>q
theorem ps_set {i:Nat} {x:Str} {e:Expr} {te:TE} {pos':Pos} (hN:X.N.Nodup) (hi:X.N[i]?=some x) (hx:Loc X.env.scope x) (he:PE X e te) (hs:swapsWith e (some (.Name x pos')) pos.line X.env=pure false:=by rfl) (hf:X.fn x=true∨X.env.scope.names.lookup x=some .local:=by first | exact .inl rfl | exact .inr rfl | assumption) :
  PS X (.Assign [.Name x pos'] e pos) (tAsg te (gName i)):=by
 intro pins s σ H D I h
 refine wpAny_Assign_Name (thn (he pins s σ H _ I h) fun v s1 ⟨y,H1,I1,r1,q1⟩=>?_) hs
 exact store_ok I1 hN hi hx r1 (fun s2 I2=>⟨_,H1,I2,q1⟩) hf
end
section
variable {X:Cx} {pos:Pos}
end
structure It where
 go:Nat→Hp→Prop
 yld:Nat→Hp→V→Hp→Prop
 stop:Nat→Hp→Prop
noncomputable def FpOk (X:Cx) (pins:List (Addr×Obj)) (H:Hp) (b:Addr):Prop:=
 H b=none∧b≠X.env.locals∧b∉X.fs∧(b∈X.ex∨X.s₀.heap.objs.size≤b)∧(∀x c,X.env.cells.lookup x=some c→c≠b)∧∀p∈X.pn++pins,p.1≠b
theorem Inv.fpOk {X:Cx} {pins:List (Addr×Obj)} {σ:St} {H H':Hp} {s:Shared} {b:Addr} (I:Inv X pins σ H s) (hb:s.heap.objs.size≤b) (hn:H' b=none):FpOk X pins H' b:=by
 refine ⟨hn,Nat.ne_of_gt (Nat.lt_of_lt_of_le I.lt hb),I.nofs hb,.inr (Nat.le_trans I.sz hb),fun x c e z=>?_,fun p hp z=>?_⟩
 ·obtain ⟨v,q⟩:=I.cell x c e
  exact absurd (Nat.lt_of_lt_of_le q.lt (by rw [z];exact hb)) (Nat.lt_irrefl _)
 ·exact absurd (Nat.lt_of_lt_of_le (Heap.lt_size (I.pin p hp).1) (by rw [z];exact hb)) (Nat.lt_irrefl _)
structure Turn (P:Program) (w:World) (K:PySem.W.Frag) (tg:Expr) (J:It) (fp:List Addr) (it:Addr) (tn:Nat→Heap→Prop):Prop where
 mem:it∈fp
 obj:∀i h,tn i h→∀b∈fp,∃o,h.get? b=some o∧∀v,o.data≠.cell v
 keep:∀i h h',tn i h→(∀b∈fp,∀o,h.get? b=some o→h'.get? b=some o)→tn i h'
 item:∀(X:Cx),X.prog=P→X.w=w→X.K=K→X.calm=true→∀(i:Nat) (pins:List (Addr×Obj)) (s:Shared) (σ:St) (H:Hp) (E:Value→Shared→Prop),Inv X pins σ H s→(∀b∈fp,FpOk X pins H b)→tn i s.heap→J.go i H→
  wpAny (model P w) X.A (pyNext (.ref it)) (fun r s1=>∃u,r=some u∧
   wpAny (model P w) X.A (letOwnedTupleGo tg (.ref it) u) (fun _ s2=>∃x H',Inv X pins σ H' s2∧RelV x u∧J.yld i H x H'∧tn (i+1) s2.heap∧∀b∈fp,H' b=none) E s1) E s
 done:∀(X:Cx),X.prog=P→X.w=w→X.K=K→X.calm=true→∀(i:Nat) (pins:List (Addr×Obj)) (s:Shared) (σ:St) (H:Hp) (E:Value→Shared→Prop),Inv X pins σ H s→(∀b∈fp,FpOk X pins H b)→tn i s.heap→J.stop i H→
  wpAny (model P w) X.A (pyNext (.ref it)) (fun r s1=>r=none∧Inv X pins σ H s1) E s
 self:∀(A:Around) (i:Nat) (s:Shared) (Q:Value→Shared→Prop) (E:Value→Shared→Prop),tn i s.heap→Q (.ref it) s→wpAny (model P w) A (pyIter (.ref it)) Q E s
noncomputable abbrev TI:=St→Hp→(It→Hp→Prop)→Prop
noncomputable def PIE (X:Cx) (pins:List (Addr×Obj)) (σ:St) (tg:Expr) (R:It→Hp→Prop) (itv:Value) (s2:Shared):Prop:=
 ∃(it:Addr) (fp:List Addr) (tn:Nat→Heap→Prop) (J:It) (H':Hp),itv=.ref it∧Inv X pins σ H' s2∧Turn X.prog X.w X.K tg J fp it tn∧tn 0 s2.heap∧(∀b∈fp,FpOk X pins H' b)∧R J H'
noncomputable def PI (X:Cx) (tg iter:Expr) (wi:TI):Prop:=
 ∀(pins:List (Addr×Obj)) (s:Shared) (σ:St) (H:Hp) (R:It→Hp→Prop),Inv X pins σ H s→wi σ H R→
  wpAny (model X.prog X.w) X.A (eval iter X.env) (fun v s1=>wpAny (model X.prog X.w) X.A (pyIter v) (PIE X pins σ tg R) X.xe s1) X.xe s
theorem go_of {M : Model} {A : Around} {E : Value → Shared → Prop} {s : Shared} {tg : Expr} {it : Addr} {u : Value} {o : Obj} {n : String} {vs : Array Value} {Q : Unit → Shared → Prop} (ho : s.heap.get? it = some o) (hc : o.cls = .type n) (hd : o.data = .fields vs)
    (hn : ["enumerate", "zip", "dict_itemiterator", "dict_reverseitemiterator", "odict_iterator", "itertools.zip_longest", "itertools.pairwise"].contains n = false) (hQ : Q () s) : wpAny M A (letOwnedTupleGo tg (.ref it) u) Q E s := by
  unfold letOwnedTupleGo
  cases tg <;> first
    | exact wpAny_pure hQ
    | (cases u <;> first
        | exact wpAny_pure hQ
        | (refine wpAny_bind (wpAny_load ho ?_)
           rw [hc, hd]
           show wpAny M A (if (["enumerate", "zip", "dict_itemiterator", "dict_reverseitemiterator", "odict_iterator", "itertools.zip_longest", "itertools.pairwise"].contains n && vs[0]? == some (rawInt _)) = true then _ else _) Q E s
           rw [if_neg (by intro h; rw [hn, Bool.false_and] at h; cases h)]
           exact wpAny_pure hQ))
noncomputable def Itl (K:PySem.W.Frag) (a:Addr):It:=
 ⟨fun i H=>∃xs x,SqL K H a xs∧xs[i]?=some x,fun i H x H'=>H'=H∧∀xs,SqL K H a xs→xs[i]?=some x,fun i H=>∃xs,SqL K H a xs∧xs.length≤i⟩
noncomputable def Itt (K:PySem.W.Frag) (a:Addr):It:=
 ⟨fun i H=>∃xs x,SqT K H a xs∧xs[i]?=some x,fun i H x H'=>H'=H∧∀xs,SqT K H a xs→xs[i]?=some x,fun i H=>∃xs,SqT K H a xs∧xs.length≤i⟩
noncomputable def Itr (lo:Int) (n:Nat):It:=⟨fun i _=>i<n,fun i H x H'=>H'=H∧x=.int (lo+i),fun i _=>n≤i⟩
theorem turn_list {P:Program} {w:World} {K:PySem.W.Frag} {tg:Expr} (a it:Addr):Turn P w K tg (Itl K a) [it] it (fun i h=>h.IsListIter it a i) where
 mem:=by simp
 obj:=fun i h st b hb=>by
  have e:b=it:=by simpa using hb
  subst e
  obtain ⟨o,e,c,d⟩:=st
  exact ⟨o,e,fun v z=>by rw [d] at z;cases z⟩
 keep:=fun i h h' st k=>st.at fun o e=>k it (by simp) o e
 item:=by
  intro X hP hw hK hc i pins s σ H E I hf st hg
  subst hP hw hK
  obtain ⟨xs,x,hq,hx⟩:=hg
  obtain ⟨its,rv,p,hz⟩:=I.list hq
  obtain ⟨u,hu,ru⟩:=rv.get hx
  obtain ⟨f0,f1,f2,f3,f4,f5⟩:=hf it (by simp)
  refine wpAny_pyNext_list_item st p.isList (x:=u) (by simpa using hu) fun h' st' sb=>?_
  have I1:Inv X pins σ H { s with heap:=h' }:=I.turned (t':=s.toks) (fun b o hb e=>(sb.2 b hb).trans e) f0 f1 f3 f4 f5
  obtain ⟨o,e,c,d⟩:=id st'
  exact ⟨u,rfl,go_of (s:={ s with heap:=h' }) e c d (by decide) ⟨x,H,I1,ru,⟨rfl,fun ys hy=>by rw [I.list_inj hy hq];exact hx⟩,st',fun b hb=>(hf b hb).1⟩⟩
 done:=by
  intro X hP hw hK hc i pins s σ H E I hf st hg
  subst hP hw hK
  obtain ⟨xs,hq,hx⟩:=hg
  obtain ⟨its,rv,p,hz⟩:=I.list hq
  obtain ⟨f0,f1,f2,f3,f4,f5⟩:=hf it (by simp)
  have hl:=rv.length
  exact wpAny_pyNext_list_end (I.ok.hd hc) st p.isList (by simp;omega) fun h' eb=>⟨rfl,I.turned (t':=s.toks) (fun b o hb e=>eb b o hb e) f0 f1 f3 f4 f5⟩
 self:=fun _ _ _ _ _ st h=>wpAny_pyIter_listiter st h
theorem turn_tuple {P:Program} {w:World} {K:PySem.W.Frag} {tg:Expr} (a it:Addr):Turn P w K tg (Itt K a) [it] it (fun i h=>h.IsTupleIter it a i) where
 mem:=by simp
 obj:=fun i h st b hb=>by
  have e:b=it:=by simpa using hb
  subst e
  obtain ⟨o,e,c,d⟩:=st
  exact ⟨o,e,fun v z=>by rw [d] at z;cases z⟩
 keep:=fun i h h' st k=>st.at fun o e=>k it (by simp) o e
 item:=by
  intro X hP hw hK hc i pins s σ H E I hf st hg
  subst hP hw hK
  obtain ⟨xs,x,hq,hx⟩:=hg
  obtain ⟨its,rv,p,hz⟩:=I.tuple hq
  obtain ⟨u,hu,ru⟩:=rv.get hx
  obtain ⟨f0,f1,f2,f3,f4,f5⟩:=hf it (by simp)
  refine wpAny_pyNext_tuple_item st (show s.heap.IsTuple a its.toArray from p) (x:=u) (by simpa using hu) fun h' st' sb=>?_
  have I1:Inv X pins σ H { s with heap:=h' }:=I.turned (t':=s.toks) (fun b o hb e=>(sb.2 b hb).trans e) f0 f1 f3 f4 f5
  obtain ⟨o,e,c,d⟩:=id st'
  exact ⟨u,rfl,go_of (s:={ s with heap:=h' }) e c d (by decide) ⟨x,H,I1,ru,⟨rfl,fun ys hy=>by rw [I.tuple_inj hy hq];exact hx⟩,st',fun b hb=>(hf b hb).1⟩⟩
 done:=by
  intro X hP hw hK hc i pins s σ H E I hf st hg
  subst hP hw hK
  obtain ⟨xs,hq,hx⟩:=hg
  obtain ⟨its,rv,p,hz⟩:=I.tuple hq
  obtain ⟨f0,f1,f2,f3,f4,f5⟩:=hf it (by simp)
  have hl:=rv.length
  exact wpAny_pyNext_tuple_end (I.ok.hd hc) st (show s.heap.IsTuple a its.toArray from p) (by simp;omega) fun h' eb=>⟨rfl,I.turned (t':=s.toks) (fun b o hb e=>eb b o hb e) f0 f1 f3 f4 f5⟩
 self:=fun _ _ _ _ _ st h=>wpAny_pyIter_tupleiter st h
theorem turn_range {P:Program} {w:World} {K:PySem.W.Frag} {tg:Expr} (it:Addr) (lo:Int) (n:Nat):Turn P w K tg (Itr lo n) [it] it (fun i h=>IsRangeIter h it (lo+(i:Nat)*1) ((n:Int)-(i:Nat)) 1) where
 mem:=by simp
 obj:=fun i h st b hb=>by
  have e:b=it:=by simpa using hb
  subst e
  exact ⟨_,st,fun v z=>by
   have z':Data.fields _=Data.cell v:=z
   cases z'⟩
 keep:=fun i h h' st k=>k it (by simp) _ st
 item:=by
  intro X hP hw hK hc i pins s σ H E I hf st hg
  subst hP hw hK
  obtain ⟨f0,f1,f2,f3,f4,f5⟩:=hf it (by simp)
  have W:=Walks.range (prog:=X.prog) (w:=X.w) (I.ok.hd hc) it lo 1 n
  refine W.item i s _ _ hg st fun v h' tk hv st' kk=>?_
  obtain ⟨t,rfl⟩:=hv
  have I1:Inv X pins σ H { s with heap:=h',toks:=tk }:=I.turned (fun b o hb e=>kk b o (by simpa using hb) e) f0 f1 f3 f4 f5
  refine ⟨_,rfl,go_of (s:={ s with heap:=h',toks:=tk }) (n:="range_iterator") st' rfl rfl (by decide) ⟨.int (lo+i),H,I1,⟨t,?_⟩,⟨rfl,rfl⟩,st',fun b hb=>(hf b hb).1⟩⟩
  rw [Int.mul_one]
 done:=by
  intro X hP hw hK hc i pins s σ H E I hf st hg
  subst hP hw hK
  obtain ⟨f0,f1,f2,f3,f4,f5⟩:=hf it (by simp)
  exact wpAny_pyNext_range_end (I.ok.hd hc) st (by have:n≤i:=hg;omega) fun h' eb=>⟨rfl,I.turned (t':=s.toks) (fun b o hb e=>eb b o hb e) f0 f1 f3 f4 f5⟩
 self:=fun _ _ _ _ _ st h=>wpAny_pyIter_rangeiter st h
end L2
namespace L2
open PySem PySem.Spec PyProof.Rows
section
variable {X:Cx} {tg:Expr}
noncomputable def iList (K:PySem.W.Frag) (tl:TE):TI:=fun σ H R=>tl σ H fun x H1=>∃a,x=.ref a∧(∃xs,SqL K H1 a xs)∧R (Itl K a) H1
noncomputable def iTup (K:PySem.W.Frag) (tl:TE):TI:=fun σ H R=>tl σ H fun x H1=>∃a,x=.ref a∧(∃xs,SqT K H1 a xs)∧R (Itt K a) H1
theorem pi_list {l:Expr} {tl:TE} (hl:PE X l tl):PI X tg l (iList X.K tl):=by
 intro pins s σ H R I h
 refine thn (hl pins s σ H _ I h) fun v s1 ⟨x,H1,I1,r1,q1⟩=>?_
 obtain ⟨a,e,⟨xs,hq⟩,q⟩:=q1
 subst e
 cases r1
 obtain ⟨its,rv,p,hz⟩:=I1.list hq
 refine wpAny_pyIter_list p.isList ?_
 refine ⟨s1.heap.objs.size,[s1.heap.objs.size],_,_,H1,rfl,I1.kept (t':=s1.toks) fun b o e=>Heap.get?_push_of_some _ e,turn_list a _,⟨_,Heap.get?_push_size _ rfl,rfl,rfl⟩,fun b hb=>?_,q⟩
 have e:b=s1.heap.objs.size:=by simpa using hb
 subst e
 exact I1.fpOk (Nat.le_refl _) (I1.hok.fresh (Nat.le_refl _))
theorem pi_tup {l:Expr} {tl:TE} (hl:PE X l tl):PI X tg l (iTup X.K tl):=by
 intro pins s σ H R I h
 refine thn (hl pins s σ H _ I h) fun v s1 ⟨x,H1,I1,r1,q1⟩=>?_
 obtain ⟨a,e,⟨xs,hq⟩,q⟩:=q1
 subst e
 cases r1
 obtain ⟨its,rv,p,hz⟩:=I1.tuple hq
 refine wpAny_pyIter_tuple (show s1.heap.IsTuple a its.toArray from p) ?_
 refine ⟨s1.heap.objs.size,[s1.heap.objs.size],_,_,H1,rfl,I1.kept (t':=s1.toks) fun b o e=>Heap.get?_push_of_some _ e,turn_tuple a _,⟨_,Heap.get?_push_size _ rfl,rfl,rfl⟩,fun b hb=>?_,q⟩
 have e:b=s1.heap.objs.size:=by simpa using hb
 subst e
 exact I1.fpOk (Nat.le_refl _) (I1.hok.fresh (Nat.le_refl _))
theorem range_it {pins:List (Addr×Obj)} {σ:St} {H:Hp} {s:Shared} {R:It→Hp→Prop} {E:Value→Shared→Prop} {lo hi:Int} {t u v:Tok} {tk:Nat} (I:Inv X pins σ H s) (h1:-(2 ^ 62)≤lo) (h2:lo<2 ^ 62) (h3:-(2 ^ 62)≤hi) (h4:hi<2 ^ 62)
  (q:R (Itr lo (hi-lo).toNat) H):wpAny (model X.prog X.w) X.A (pyIter (.ref s.heap.objs.size)) (PIE X pins σ tg R) E { s with heap:=s.heap.push { cls:=.type "range",data:=.fields #[.int lo t,.int hi u,.int 1 v] },toks:=tk }:=by
 refine wpAny_pyIter_range (IsRange.new ..) (small_one h1 h2 h3 h4) ?_
 have I1:Inv X pins σ H { s with heap:=s.heap.push { cls:=.type "range",data:=.fields #[.int lo t,.int hi u,.int 1 v] },toks:=tk }:=I.kept fun b o e=>Heap.get?_push_of_some _ e
 refine ⟨(s.heap.push { cls:=.type "range",data:=.fields #[.int lo t,.int hi u,.int 1 v] }).objs.size,[(s.heap.push { cls:=.type "range",data:=.fields #[.int lo t,.int hi u,.int 1 v] }).objs.size],_,_,H,rfl,
  I1.kept (t':=tk) fun b o e=>Heap.get?_push_of_some _ e,turn_range _ lo (hi-lo).toNat,?_,fun b hb=>?_,q⟩
 ·have e1:lo+((0:Nat):Int)*1=lo:=by simp
  have e2:(((hi-lo).toNat:Nat):Int)-((0:Nat):Int)=Builtin.Range.rangeSize lo hi 1:=by rw [rangeSize_one];split <;> omega
  show IsRangeIter _ _ (lo+((0:Nat):Int)*1) ((((hi-lo).toNat:Nat):Int)-((0:Nat):Int)) 1
  rw [e1,e2]
  exact Heap.get?_push_size _ rfl
 ·have e:b=(s.heap.push { cls:=.type "range",data:=.fields #[.int lo t,.int hi u,.int 1 v] }).objs.size:=by simpa using hb
  subst e
  exact I1.fpOk (Nat.le_refl _) (I1.hok.fresh (Nat.le_refl _))
noncomputable def iRng1 (ta:TA):TI:=fun σ H R=>ta σ H fun vs H1=>∃j:Int,vs=[.int j]∧-(2 ^ 62)≤j∧j<2 ^ 62∧R (Itr 0 j.toNat) H1
noncomputable def iRng2 (ta:TA):TI:=fun σ H R=>ta σ H fun vs H1=>∃i j:Int,vs=[.int i,.int j]∧(-(2 ^ 62)≤i∧i<2 ^ 62∧-(2 ^ 62)≤j∧j<2 ^ 62)∧R (Itr i (j-i).toNat) H1
theorem pi_range1 {a:Expr} {ta:TA} {p pos:Pos} (hg:Gl X "range") (hm:X.mg "range" = none) (ha:PA X [a] ta) (hs:starEach [a] X.env=[(false,eval a X.env)]:=by rfl):PI X tg (.Call (.Name "range" p) [a] [] pos) (iRng1 ta):=by
 intro pins s σ H R I h
 refine Call_ (ld_blt I hg hm boot_range (PyProof.Rows.callWith_type1 (thn (ha pos pins s σ H _ I h) fun us s1 ⟨vs,H1,I1,r1,q1⟩=>?_) hs rfl))
 obtain ⟨j,e,q1,q2,q⟩:=q1
 subst e
 cases r1 with
 | cons r rr=>
  cases rr
  obtain ⟨t,rfl⟩:=r
  exact call_range_1 (range_it I1 (by omega) (by omega) q1 q2 (by simpa using q))
theorem pi_range2 {a b:Expr} {ta:TA} {p pos:Pos} (hg:Gl X "range") (hm:X.mg "range" = none) (ha:PA X [a,b] ta) (hs:starEach [a,b] X.env=[(false,eval a X.env),(false,eval b X.env)]:=by rfl) (hs2:starEach [b] X.env=[(false,eval b X.env)]:=by rfl) :
  PI X tg (.Call (.Name "range" p) [a,b] [] pos) (iRng2 ta):=by
 intro pins s σ H R I h
 refine Call_ (ld_blt I hg hm boot_range (PyProof.Rows.callWith_type1 (thn (ha pos pins s σ H _ I h) fun us s1 ⟨vs,H1,I1,r1,q1⟩=>?_) (by rw [hs,hs2]) (by rw [hs2];rfl)))
 obtain ⟨i,j,e,⟨q1,q2,q3,q4⟩,q⟩:=q1
 subst e
 cases r1 with
 | cons r rr=>
  cases rr with
  | cons r' rr=>
   cases rr
   obtain ⟨t,rfl⟩:=r
   obtain ⟨t',rfl⟩:=r'
   exact call_range_2 (range_it I1 q1 q2 q3 q4 q)
noncomputable def tFor (wi:TI) (g:TG) (tb:TS):TS:=fun D σ H=>wi σ H fun J H1=>∃W:Nat→Nat→St→Hp→Prop,(∃m,W 0 m σ H1)∧∀i m σ H,W i m σ H→
 (J.stop i H∧D.nx σ H)∨(J.go i H∧∃N:St→Hp→Prop,(∀σ' H',N σ' H'→∃m',m'<m∧W (i+1) m' σ' H')∧∀x H',J.yld i H x H'→g x σ H' fun σ2 H2=>tb { D with nx:=N,ct:=N,bk:=D.nx } σ2 H2)
noncomputable def pinsAt (fp:List Addr) (h:Heap):List (Addr×Obj):=fp.filterMap fun b=>(h.get? b).map fun o=>(b,o)
theorem mem_pinsAt {fp:List Addr} {h:Heap} {b:Addr} {o:Obj} (hb:b∈fp) (e:h.get? b=some o):(b,o)∈pinsAt fp h:=List.mem_filterMap.mpr ⟨b,hb,by rw [e];rfl⟩
theorem of_pinsAt {fp:List Addr} {h:Heap} {p:Addr×Obj} (hp:p∈pinsAt fp h):p.1∈fp∧h.get? p.1=some p.2:=by
 obtain ⟨b,hb,e⟩:=List.mem_filterMap.mp hp
 cases q:h.get? b with
 | none=>rw [q] at e;cases e
 | some o=>
  rw [q] at e
  have e':(b,o)=p:=Option.some.inj e
  subst e'
  exact ⟨hb,q⟩
theorem Inv.pinned {pins:List (Addr×Obj)} {σ:St} {H:Hp} {s:Shared} {fp:List Addr} (I:Inv X pins σ H s) (hf:∀b∈fp,FpOk X pins H b) (ho:∀b∈fp,∃o,s.heap.get? b=some o∧∀v,o.data≠.cell v):Inv X (pins++pinsAt fp s.heap) σ H s:=
 I.pins_of fun p hp=>(List.mem_append.mp hp).elim (fun z=>I.pin p (List.mem_append_right _ z)) fun z=>by
  obtain ⟨hb,e⟩:=of_pinsAt z
  obtain ⟨f0,f1,f2,_⟩:=hf p.1 hb
  obtain ⟨o,e',d⟩:=ho p.1 hb
  rw [e] at e';cases e'
  exact ⟨e,f0,f1,f2,d⟩
theorem Inv.unpinned {pins pl:List (Addr×Obj)} {σ:St} {H:Hp} {s:Shared} (I:Inv X (pins++pl) σ H s):Inv X pins σ H s:=I.pins_of fun p hp=>I.pin p (List.mem_append_right _ (List.mem_append_left _ hp))
theorem ps_for {iter:Expr} {body:List Stmt} {wi:TI} {g:TG} {tb:TS} {pos:Pos} (hp:PassesOwn (model X.prog X.w) X.A X.env X.xe) (hc:X.calm=true) (hi:PI X tg iter wi) (hg:PG X tg g) (hb:PSs X body tb)
  (hs:∀x,foldedSetIterable iter X.env x=pure x:=by intro _;rfl):PS X (.For tg iter body [] pos) (tFor wi g tb):=by
 intro pins s σ H D I h
 refine wpAny_For (thn (hi pins s σ H _ I h) fun v s1 h1=>thn h1 fun itv s2 h2=>?_) hs
 obtain ⟨it,fp,tn,J,H2,e,I2,T,st2,f2,W,⟨m0,w0⟩,turn⟩:=h2
 subst e
 -- what stays true of the iterator's objects through the loop
 have stat:∀{H':Hp},(∀b∈fp,H' b=none)→∀b∈fp,FpOk X pins H' b:=fun hn b hb=>⟨hn b hb,(f2 b hb).2⟩
 refine codeAny_forLoop_any (fun n s'=>∃i σ' H',Inv X pins σ' H' s'∧tn i s'.heap∧(∀b∈fp,H' b=none)∧W i n σ' H') ?_ m0 ⟨0,σ,H2,I2,st2,fun b hb=>(f2 b hb).1,w0⟩
 rintro n s3 ⟨i,σ3,H3,I3,st3,fr3,w3⟩
 rcases turn i n σ3 H3 w3 with ⟨stop,qn⟩ | ⟨go,N,hN,step⟩
 ·refine wpAny_passesOwn hp (thn (T.done X rfl rfl rfl hc i pins s3 σ3 H3 X.xe I3 (stat fr3) st3 stop) fun r s4 ⟨hr,I4⟩=>?_)
  subst hr
  exact wpAny_execs_nil ⟨σ3,H3,I4,qn⟩
 ·refine wpAny_passesOwn hp (thn (T.item X rfl rfl rfl hc i pins s3 σ3 H3 X.xe I3 (stat fr3) st3 go) fun r s4 ⟨u,hr,h4⟩=>?_)
  subst hr
  refine wpAny_passesOwn hp (thn h4 fun _ s5 ⟨x,H5,I5,r5,y5,st5,fr5⟩=>?_)
  have I5':=I5.pinned (stat fr5) (T.obj _ _ st5)
  refine wpAny_passesOwn hp (thn (hg _ s5 σ3 H5 x u _ I5' r5 (step x H5 y5)) fun _ s6 ⟨σ6,H6,I6,q6⟩=>?_)
  refine wpAny_passesOwn hp (thn (hb _ s6 σ6 H6 _ I6 q6) fun f s7 q7=>?_)
  have again:∀{σ7:St} {H7:Hp},Inv X (pins++pinsAt fp s5.heap) σ7 H7 s7→N σ7 H7→∃m,m<n∧∃i σ' H',Inv X pins σ' H' s7∧tn i s7.heap∧(∀b∈fp,H' b=none)∧W i m σ' H':=fun {σ7 H7} I7 n7=>by
   obtain ⟨m',hm,w7⟩:=hN σ7 H7 n7
   refine ⟨m',hm,i+1,σ7,H7,I7.unpinned,T.keep _ _ _ st5 fun b hb o e=>(I7.pin (b,o) (List.mem_append_right _ (List.mem_append_right _ (mem_pinsAt hb e)))).1,fun b hb=>?_,w7⟩
   obtain ⟨o,e,d⟩:=T.obj _ _ st5 b hb
   exact (I7.pin (b,o) (List.mem_append_right _ (List.mem_append_right _ (mem_pinsAt hb e)))).2.1
  cases f with
  | next=>obtain ⟨σ7,H7,I7,n7⟩:=q7;exact again I7 n7
  | cont=>obtain ⟨σ7,H7,I7,n7⟩:=q7;exact again I7 n7
  | brk=>obtain ⟨σ7,H7,I7,q7⟩:=q7;exact ⟨σ7,H7,I7.unpinned,q7⟩
  | ret v=>obtain ⟨x7,σ7,H7,I7,r7,q7⟩:=q7;exact ⟨x7,σ7,H7,I7.unpinned,r7,q7⟩
end
end L2
namespace L2
open PySem PySem.Spec PyProof.Rows
noncomputable abbrev R2:=V→V→Hp→VK→Prop
noncomputable def OpR (X:Cx) (f:Value→Value→Sem Value) (r:R2):Prop:=
 ∀(pins:List (Addr×Obj)) (s:Shared) (σ:St) (H:Hp) (x y:V) (v u:Value) (Q:VK),Inv X pins σ H s→RelV x v→RelV y u→r x y H Q→
  wpAny (model X.prog X.w) X.A (f v u) (EP X pins σ Q) X.xe s
noncomputable def UnR (X:Cx) (f:Value→Sem Value) (r:V→Hp→VK→Prop):Prop:=
 ∀(pins:List (Addr×Obj)) (s:Shared) (σ:St) (H:Hp) (x:V) (v:Value) (Q:VK),Inv X pins σ H s→RelV x v→r x H Q→
  wpAny (model X.prog X.w) X.A (f v) (EP X pins σ Q) X.xe s
noncomputable def CallR (X:Cx) (f:Value) (r:List V→Hp→VK→Prop):Prop:=
 ∀(pins:List (Addr×Obj)) (s:Shared) (σ:St) (H:Hp) (xs:List V) (us:List Value) (Q:VK),Inv X pins σ H s→Vals xs us→r xs H Q→
  wpAny (model X.prog X.w) X.A (call f us) (EP X pins σ Q) X.xe s
noncomputable def tOp (r:R2) (ta tb:TE):TE:=fun σ H Q=>ta σ H fun x H1=>tb σ H1 fun y H2=>r x y H2 Q
noncomputable def tUn (r:V→Hp→VK→Prop) (ta:TE):TE:=fun σ H Q=>ta σ H fun x H1=>r x H1 Q
noncomputable def rI (C:Int→Int→Prop) (g:Int→Int→V):R2:=fun x y H Q=>∃i j,x=.int i∧y=.int j∧C i j∧Q (g i j) H
noncomputable def rI0 (g:Int→Int→V):R2:=fun x y H Q=>∃i j,x=.int i∧y=.int j∧Q (g i j) H
noncomputable def rU (g:Int→V):V→Hp→VK→Prop:=fun x H Q=>∃i,x=.int i∧Q (g i) H
section
variable {X:Cx} {a b c:Expr} {ta tb tc:TE} {pos:Pos}
theorem binT (ha:PE X a ta) (hb:PE X b tb) {pins:List (Addr×Obj)} {s:Shared} {σ:St} {H:Hp} {R:V→V→Hp→Prop} (I:Inv X pins σ H s)
  (h:ta σ H fun x H1=>tb σ H1 fun y H2=>R x y H2) {Q:Value→Shared→Prop} {f:Value→Value→Sem Value}
  (hf:∀v u s2 x y H2,Inv X pins σ H2 s2→RelV x v→RelV y u→R x y H2→wpAny (model X.prog X.w) X.A (f v u) Q X.xe s2) :
  wpAny (model X.prog X.w) X.A (eval a X.env) (fun v s₁=>wpAny (model X.prog X.w) X.A (eval b X.env) (fun u s₂=>wpAny (model X.prog X.w) X.A (f v u) Q X.xe s₂) X.xe s₁) X.xe s:=by
 refine thn (ha pins s σ H _ I h) fun v s1 ⟨x,H1,I1,r1,q1⟩=>?_
 refine thn (hb pins s1 σ H1 _ I1 q1) fun u s2 ⟨y,H2,I2,r2,q2⟩=>?_
 exact hf v u s2 x y H2 I2 r1 r2 q2
theorem pe_op {op:Operator} {r:R2} (ho:OpR X (binaryOp op) r) (ha:PE X a ta) (hb:PE X b tb):PE X (.BinOp a op b pos) (tOp r ta tb):=by
 intro pins s σ H Q I h
 exact wpAny_BinOp (binT ha hb I h fun v u s2 x y H2 I2 rx ry q=>ho pins s2 σ H2 x y v u Q I2 rx ry q)
theorem pe_un {op:UnaryOp} {r:V→Hp→VK→Prop} (ho:UnR X (unaryOp op) r) (ha:PE X a ta):PE X (.UnaryOp op a pos) (tUn r ta):=by
 intro pins s σ H Q I h
 exact UnaryOp_ (thn (ha pins s σ H _ I h) fun v s1 ⟨x,H1,I1,r1,q1⟩=>ho pins s1 σ H1 x v Q I1 r1 q1)
theorem opI {f:Value→Value→Sem Value} {C:Int→Int→Prop} {g:Int→Int→Int}
  (rule:∀(i j:Int) (t u:Tok) (s:Shared) (Q:Value→Shared→Prop) (E:Value→Shared→Prop),C i j→Q (.int (g i j) s.toks) { s with toks:=s.toks+1 }→wpAny (model X.prog X.w) X.A (f (.int i t) (.int j u)) Q E s) :
  OpR X f (rI C fun i j=>.int (g i j)):=by
 intro pins s σ H x y v u Q I rx ry h
 obtain ⟨i,j,rfl,rfl,hc,q⟩:=h
 obtain ⟨t,rfl⟩:=rx
 obtain ⟨t',rfl⟩:=ry
 exact rule i j t t' s _ _ hc ⟨.int (g i j),H,I.tok _,⟨_,rfl⟩,q⟩
theorem opI0 {f:Value→Value→Sem Value} {g:Int→Int→Int}
  (rule:∀(i j:Int) (t u:Tok) (s:Shared) (Q:Value→Shared→Prop) (E:Value→Shared→Prop),Q (.int (g i j) s.toks) { s with toks:=s.toks+1 }→wpAny (model X.prog X.w) X.A (f (.int i t) (.int j u)) Q E s) :
  OpR X f (rI0 fun i j=>.int (g i j)):=by
 intro pins s σ H x y v u Q I rx ry h
 obtain ⟨i,j,rfl,rfl,q⟩:=h
 obtain ⟨t,rfl⟩:=rx
 obtain ⟨t',rfl⟩:=ry
 exact rule i j t t' s _ _ ⟨.int (g i j),H,I.tok _,⟨_,rfl⟩,q⟩
theorem opB0 {f:Value→Value→Sem Value} {g:Int→Int→Bool}
  (rule:∀(i j:Int) (t u:Tok) (s:Shared) (Q:Value→Shared→Prop) (E:Value→Shared→Prop),Q (.bool (g i j)) s→wpAny (model X.prog X.w) X.A (f (.int i t) (.int j u)) Q E s) :
  OpR X f (rI0 fun i j=>.bl (g i j)):=by
 intro pins s σ H x y v u Q I rx ry h
 obtain ⟨i,j,rfl,rfl,q⟩:=h
 obtain ⟨t,rfl⟩:=rx
 obtain ⟨t',rfl⟩:=ry
 exact rule i j t t' s _ _ ⟨.bl (g i j),H,I,rfl,q⟩
noncomputable def CDiv (i j:Int):Prop:=0<j∧j<1073741824
noncomputable def CPow (i j:Int):Prop:=0≤j∧j≤1000000∧i.natAbs<2 ^ 64
noncomputable def CMul (i j:Int):Prop:=(-(2 ^ 64)<i∧i<2 ^ 64)∨(-(2 ^ 64)<j∧j<2 ^ 64)
theorem CMul.ok {i j:Int} (h:CMul i j):IntMulOk i j:=by
 rcases h with ⟨h1,h2⟩ | ⟨h1,h2⟩
 ·exact .of_left (intBits_le_64 h1 h2)
 ·exact .of_right (intBits_le_64 h1 h2)
theorem op_add:OpR X (binaryOp .Add) (rI0 fun i j=>.int (i+j)):=opI0 fun _ _ _ _ _ _ _ q=>add_int q
theorem op_mul:OpR X (binaryOp .Mult) (rI CMul fun i j=>.int (i*j)):=opI fun _ _ _ _ _ _ _ hc q=>mul_int q hc.ok
theorem op_fdiv:OpR X (binaryOp .FloorDiv) (rI CDiv fun i j=>.int (i / j)):=opI fun i j _ _ _ _ _ hc q=>by
 have h1:(0:Int)<j:=hc.1
 have h2:j<1073741824:=hc.2
 exact floordiv_int (by omega) (by rw [Int.fdiv_eq_ediv_of_nonneg i (by omega)];exact q) (.inl (PyProof.noPylong_small (by omega)))
theorem op_mod:OpR X (binaryOp .Mod) (rI (fun _ j=>0<j) fun i j=>.int (i % j)):=opI fun i j _ _ _ _ _ hc q=>by
 have h1:(0:Int)<j:=hc
 exact mod_int' (by omega) (by rw [Int.fmod_eq_emod_of_nonneg i (by omega)];exact q)
theorem op_pow:OpR X (binaryOp .Pow) (rI CPow fun i j=>.int (i ^ j.toNat)):=opI fun _ _ _ _ _ _ _ hc q=>pow_int_small hc.1 hc.2.1 hc.2.2 q
theorem unI {f:Value→Sem Value} {g:Int→Int}
  (rule:∀(i:Int) (t:Tok) (s:Shared) (Q:Value→Shared→Prop) (E:Value→Shared→Prop),Q (.int (g i) s.toks) { s with toks:=s.toks+1 }→wpAny (model X.prog X.w) X.A (f (.int i t)) Q E s) :
  UnR X f (rU fun i=>.int (g i)):=by
 intro pins s σ H x v Q I rx h
 obtain ⟨i,rfl,q⟩:=h
 obtain ⟨t,rfl⟩:=rx
 exact rule i t s _ _ ⟨.int (g i),H,I.tok _,⟨_,rfl⟩,q⟩
theorem un_neg:UnR X (unaryOp .USub) (rU fun i=>.int (-i)):=unI fun _ _ _ _ _ q=>neg_int q
end
section
variable {X:Cx} {a b c:Expr} {ta tb tc:TE} {pos:Pos}
theorem fin_bl {pins:List (Addr×Obj)} {σ:St} {H:Hp} {s:Shared} {Q:VK} {k k':Bool} (I:Inv X pins σ H s) (q:Q (.bl k) H) (e:k=k'):EP X pins σ Q (.bool k') s:=by
 subst e
 exact ⟨.bl k,H,I,rfl,q⟩
theorem op_lt:OpR X (compareOp .Lt) (rI0 fun i j=>.bl (decide (i<j))):=opB0 fun _ _ _ _ _ _ _ q=>lt_int q
theorem op_le:OpR X (compareOp .LtE) (rI0 fun i j=>.bl (decide (i≤j))):=opB0 fun _ _ _ _ _ _ _ q=>le_int q
theorem op_gt:OpR X (compareOp .Gt) (rI0 fun i j=>.bl (decide (j<i))):=opB0 fun _ _ _ _ _ _ _ q=>gt_int q
theorem op_ge:OpR X (compareOp .GtE) (rI0 fun i j=>.bl (decide (j≤i))):=opB0 fun _ _ _ _ _ _ _ q=>ge_int q
theorem op_isN:OpR X (compareOp .Is) (fun x y H Q=>y=.non∧Q (.bl (decide (x=.non))) H):=by
 intro pins s σ H x y v u Q I rx ry h
 obtain ⟨rfl,q⟩:=h
 cases ry
 refine is_none_gen (fin_bl I q ?_)
 cases x <;> first
  | (cases rx;rfl)
  | (obtain ⟨t,rfl⟩:=rx;rfl)
theorem OpR.or {f:Value→Value→Sem Value} {r r':R2} (h:OpR X f r) (h':OpR X f r'):OpR X f (fun x y H Q=>r x y H Q∨r' x y H Q):=by
 intro pins s σ H x y v u Q I rx ry q
 rcases q with q | q
 ·exact h pins s σ H x y v u Q I rx ry q
 ·exact h' pins s σ H x y v u Q I rx ry q
theorem nomark (b:Expr) {op:CmpOp} (h:op≠.In:=by decide) (h2:op≠.NotIn:=by decide):behindInMarks op b=false:=by
 have e1:(op==CmpOp.In)=false:=by cases op <;> first | rfl | exact absurd rfl h
 have e2:(op==CmpOp.NotIn)=false:=by cases op <;> first | rfl | exact absurd rfl h2
 cases b <;> simp [behindInMarks,e1,e2]
theorem pe_cmpR {op:CmpOp} {r:R2} (ho:OpR X (compareOp op) r) (ha:PE X a ta) (hb:PE X b tb) (hm:behindInMarks op b=false):PE X (.Compare a [op] [b] pos) (tOp r ta tb):=by
 intro pins s σ H Q I h
 exact wpAny_Compare1 (binT ha hb I h fun v u s2 x y H2 I2 rx ry q=>ho pins s2 σ H2 x y v u Q I2 rx ry q) hm
noncomputable def tTest (t:TE):TT:=fun σ H Q=>t σ H fun x H'=>∃k,x=.bl k∧Q k H'
theorem pt_cmpR {op:CmpOp} {r:R2} (ho:OpR X (compareOp op) r) (ha:PE X a ta) (hb:PE X b tb) (hm:behindInMarks op b=false):PT X (.Compare a [op] [b] pos) (tTest (tOp r ta tb)):=by
 intro pins s σ H Q I h
 refine wpAny_isTrue_Compare1 (thn (ha pins s σ H _ I h) fun v s1 ⟨x,H1,I1,r1,q1⟩=>thn (hb pins s1 σ H1 _ I1 q1) fun u s2 ⟨y,H2,I2,r2,q2⟩=>
  thn (ho pins s2 σ H2 x y v u _ I2 r1 r2 q2) fun c s3 ⟨z,H3,I3,r3,k,e,q3⟩=>?_) hm
 subst e
 cases r3
 exact wpAny_truthy_bool ⟨H3,I3,q3⟩
theorem line63:(sizeLine:Nat)<2 ^ 63:=by rw [sizeLine_eq];decide
theorem vals1 {x:V} {us:List Value} (r:Vals [x] us):∃u,us=[u]∧RelV x u:=by
 cases r with
 | cons r1 r2=>cases r2;exact ⟨_,rfl,r1⟩
theorem vals2 {x y:V} {us:List Value} (r:Vals [x,y] us):∃u w',us=[u,w']∧RelV x u∧RelV y w':=by
 cases r with
 | cons r1 r2=>
  cases r2 with
  | cons r3 r4=>cases r4;exact ⟨_,_,rfl,r1,r3⟩
theorem call_max2 (hc:X.calm=true):CallR X (.builtin "max") (fun xs H Q=>∃i j,xs=[.int i,.int j]∧Q (.int (if j > i then j else i)) H):=by
 intro pins s σ H xs us Q I r h
 obtain ⟨i,j,rfl,q⟩:=h
 obtain ⟨u,w',rfl,⟨t,rfl⟩,⟨t',rfl⟩⟩:=vals2 r
 refine max_two_ints (I.ok.hd hc) fun h' tk k=>⟨_,H,I.kept k,?_,q⟩
 by_cases hj:j > i
 ·rw [if_pos hj,if_pos hj];exact ⟨_,rfl⟩
 ·rw [if_neg hj,if_neg hj];exact ⟨_,rfl⟩
theorem call_min2 (hc:X.calm=true):CallR X (.builtin "min") (fun xs H Q=>∃i j,xs=[.int i,.int j]∧Q (.int (if j<i then j else i)) H):=by
 intro pins s σ H xs us Q I r h
 obtain ⟨i,j,rfl,q⟩:=h
 obtain ⟨u,w',rfl,⟨t,rfl⟩,⟨t',rfl⟩⟩:=vals2 r
 refine min_two_ints (I.ok.hd hc) fun h' tk k=>⟨_,H,I.kept k,?_,q⟩
 by_cases hj:j<i
 ·rw [if_pos hj,if_pos hj];exact ⟨_,rfl⟩
 ·rw [if_neg hj,if_neg hj];exact ⟨_,rfl⟩
theorem call_int1:CallR X (.type "int") (fun xs H Q=>(∃i,xs=[.int i]∧Q (.int i) H)∨∃k,xs=[.bl k]∧Q (.int (if k then 1 else 0)) H):=by
 intro pins s σ H xs us Q I r h
 rcases h with ⟨i,rfl,q⟩ | ⟨k,rfl,q⟩
 ·obtain ⟨u,rfl,t,rfl⟩:=vals1 r
  exact call_int_int ⟨.int i,H,I,⟨_,rfl⟩,q⟩
 ·obtain ⟨u,rfl,r1⟩:=vals1 r
  cases r1
  exact call_int_bool ⟨.int (if k then 1 else 0),H,I.tok _,⟨_,rfl⟩,q⟩
end
end L2
namespace L2
open PySem PySem.Spec PyProof.Rows
structure ObjM (h:Heap) (x dx C:Addr) (mA:Str→Option Value):Prop where
 obj:h.get? x=some (PySem.W.instObj C dx)
 ns:h.Ns1 dx mA
 ne:dx≠x
theorem lookIn_ns {h:Heap} {dx:Addr} {mA:Str→Option Value} (n:h.Ns1 dx mA):∃od,h.get? dx=some od∧∀name,PySem.W.lookIn name od=some (mA name):=by
 obtain ⟨o,es,ep,ho,hd,hk,_,hm⟩:=n
 refine ⟨o,ho,fun name=>?_⟩
 have e:=hm name
 unfold nsFind findBy at e
 rw [←Array.find?_toList] at e
 unfold PySem.W.lookIn
 rw [hd]
 dsimp only
 split
 ·rename_i y q
  rw [q] at e
  exact congrArg some e
 ·rename_i q
  rw [q] at e
  have a:es.toList.any (·.refKey)=false:=by
   rw [List.any_eq_false]
   intro y hy
   obtain ⟨z,t,hkey⟩:=hk y (Array.mem_toList_iff.mp hy)
   simp [DictEntry.refKey,hkey]
  have a':¬es.toList.any (·.refKey)=true:=by rw [a];exact Bool.false_ne_true
  rw [if_neg a']
  exact congrArg some e
theorem ObjM.look {h:Heap} {x dx C:Addr} {mA:Str→Option Value} (I:ObjM h x dx C mA):∃od,PySem.W.InstAt h x (PySem.W.instObj C dx) C (some od)∧∀name,PySem.W.lookIn name od=some (mA name):=
 let ⟨od,ho,hl⟩:=lookIn_ns I.ns
 ⟨od,⟨I.obj,rfl,rfl,ho⟩,hl⟩
section
variable {prog:Program} {w:World} {A:Around} {E:Value→Shared→Prop} {s:Shared} {K:PySem.W.Frag} {x dx C f:Addr} {mA:Str→Option Value} {name:Str} {v:Value}
end
theorem RelO.some_of {v:V} {o:Option Value} (r:RelO (some v) o):∃u,o=some u∧RelV v u:=by
 cases o with
 | none=>exact (show False from r).elim
 | some u=>exact ⟨u,rfl,r⟩
section
variable {P:Program} {w:World} {H H':Hp} {h h':Heap} {a C dx:Addr} {fs fs':List (Str×V)}
theorem ins_get (hok:HOk P w H h) (e:H a=some (.ins C dx fs)):∃mA,ObjM h a dx C mA∧(∀f,RelO (fs.lookup f) (mA f))∧PySem.Within mA (fs.map (·.1))∧fs.length≤1000∧H dx=some (.own a):=by
 obtain ⟨d,z,ne,ob,mA,n,r,q⟩:=(show ObjOk P w H h a (.ins C dx fs) from hok a _ e)
 exact ⟨mA,⟨ob,n,ne⟩,r,q,z,d⟩
end
structure Cls (K:PySem.W.Frag) (C:Addr):Prop where
 pg:PySem.W.plainGet K C Str.empty=true
 hd:PySem.W.hasDictIn K C=true
 po:PySem.W.plainOver K C=true
 sa:PySem.W.findIn K (.ref C) "__setattr__" = some (some (.builtin "object.__setattr__"))
theorem Cls.get {K:PySem.W.Frag} {C:Addr} (c:Cls K C) (f:Str):PySem.W.plainGet K C f=true:=c.pg
section
variable {X:Cx} {pins:List (Addr×Obj)} {σ:St} {H:Hp} {s:Shared} {a C dx:Addr} {fs:List (Str×V)} {f:Str} {v:V} {A:Around} {E:Value→Shared→Prop}
end
section
variable {X:Cx} {o e value:Expr} {f:Str} {pos pos' tpos:Pos} {ta tv:TE}
end
section
variable {X:Cx} {pins:List (Addr×Obj)} {σ:St} {H:Hp} {s:Shared} {A:Around} {E:Value→Shared→Prop} {Q:Value→Shared→Prop} {c:Value} {b:Bool}
inductive TyOf (K:PySem.W.Frag) (H:Hp):V→Value→Prop where
 | non:TyOf K H .non (.type "NoneType")
 | bl (x:Bool):TyOf K H (.bl x) (.type "bool")
 | int (i:Int):TyOf K H (.int i) (.type "int")
 | str (x:Str):TyOf K H (.str x) (.type "str")
 | flt (x:UInt64):TyOf K H (.flt x) (.type "float")
 | lst {a:Addr} {xs:List V} (e:H a=some (.lst xs)):TyOf K H (.ref a) (.type "list")
 | frz {a:Addr} {o:Obj} {xs:List V} (e:H a=some (.frz o (.lst xs))):TyOf K H (.ref a) (.type "list")
 | tup {a:Addr} {xs:List V} (e:H a=some (.tup xs)):TyOf K H (.ref a) (.type "tuple")
 | dK {a:Addr} {kvs:List (Key×V)} (e:H a=some (.dK kvs)):TyOf K H (.ref a) (.type "dict")
 | dT {a:Addr} {kvs:List (List Key×V)} (e:H a=some (.dT kvs)):TyOf K H (.ref a) (.type "dict")
 | ins {a C dx:Addr} {fs:List (Str×V)} (e:H a=some (.ins C dx fs)) (cl:Cls K C) (ha:PySem.W.findIn K (.ref C) "__class__" = some (some (.builtin "object.__class__")))
   (hn:PySem.W.specialIn K (.builtin "object.__class__") "__get__" = some (some (.builtin "getset_descriptor.__get__"))) (htk:PySem.W.takesIn K (.builtin "object.__class__")=some true)
   (hm:PySem.W.mroIn K C (.type "object")=some true):TyOf K H (.ref a) (.ref C)
theorem isinst_ok {x:V} {u t:Value} (I:Inv X pins σ H s) (rx:RelV x u) (ty:TyOf X.K H x t) (e:PySem.W.kitOne X.K t c=some b) (h:∀tk,Q (.bool b) { s with toks:=tk }) :
  wpAny (model X.prog X.w) A (call (.builtin "isinstance") [u,c]) Q E s:=by
 cases ty with
 | non=>cases (show u=Value.none from rx);exact PySem.W.kia_one PySem.W.kitx_none I.kIn True.intro e (fun z=>nomatch z) h
 | bl y=>cases (show u=Value.bool y from rx);exact PySem.W.kia_one PySem.W.kitx_bool I.kIn True.intro e (fun z=>nomatch z) h
 | int i=>obtain ⟨t,q⟩:=(show ∃t,u=Value.int i t from rx);cases q;exact PySem.W.kia_one PySem.W.kitx_int I.kIn True.intro e (fun z=>nomatch z) h
 | str y=>obtain ⟨t,q⟩:=(show ∃t,u=Value.str y t from rx);cases q;exact PySem.W.kia_one PySem.W.kitx_str I.kIn True.intro e (fun z=>nomatch z) h
 | flt y=>obtain ⟨t,q⟩:=(show ∃t,u=Value.float y t from rx);cases q;exact PySem.W.kia_one PySem.W.kitx_float I.kIn True.intro e (fun z=>nomatch z) h
 | @lst a xs ea=>
  cases (show u=Value.ref a from rx)
  obtain ⟨_,_,n,_,h1⟩:=(show ObjOk X.prog X.w H s.heap a (.lst xs) from I.hok a _ ea)
  exact PySem.W.kia_one PySem.W.kitx_list I.kIn ⟨_,h1,rfl⟩ e (fun z=>nomatch z) h
 | @frz a ob xs ea=>
  cases (show u=Value.ref a from rx)
  obtain ⟨_,_,_,n,_,h1⟩:=(show ObjOk X.prog X.w H s.heap a (.frz ob (.lst xs)) from I.hok a _ ea)
  exact PySem.W.kia_one PySem.W.kitx_list I.kIn ⟨_,h1,rfl⟩ e (fun z=>nomatch z) h
 | @tup a xs ea=>
  cases (show u=Value.ref a from rx)
  obtain ⟨_,_,_,p⟩:=(show ObjOk X.prog X.w H s.heap a (.tup xs) from I.hok a _ ea)
  obtain ⟨o,h1,h2,_⟩:=p
  exact PySem.W.kia_one PySem.W.kitx_tuple I.kIn ⟨o,h1,h2⟩ e (fun z=>nomatch z) h
 | @dK a kvs ea=>
  cases (show u=Value.ref a from rx)
  obtain ⟨_,_,vs,_,p⟩:=(show ObjOk X.prog X.w H s.heap a (.dK kvs) from I.hok a _ ea)
  obtain ⟨o,es,ep,h1,h2,_⟩:=p
  exact PySem.W.kia_one PySem.W.kitx_dict I.kIn ⟨o,h1,h2.1⟩ e (fun z=>nomatch z) h
 | @dT a kvs ea=>
  cases (show u=Value.ref a from rx)
  obtain ⟨_,_,xs,_,o,es,ep,h1,h2,_⟩:=(show ObjOk X.prog X.w H s.heap a (.dT kvs) from I.hok a _ ea)
  exact PySem.W.kia_one PySem.W.kitx_dict I.kIn ⟨o,h1,h2.1⟩ e (fun z=>nomatch z) h
 | @ins a C dx fs ea cl ha hn htk hm=>
  cases (show u=Value.ref a from rx)
  obtain ⟨mA,O,_⟩:=ins_get I.hok ea
  obtain ⟨od,J,_⟩:=O.look
  exact PySem.W.kia_one (PySem.W.kitx_own (cl.get _) cl.hd ha hn htk hm) I.kIn J e (fun z=>nomatch z) h
end
end L2
namespace L2
open PySem PySem.Spec PyProof.Rows
structure Room (k:Nat) (A:Around):Prop where
 hd:A.handled=none
 dp:A.depth+3*k+5<recursionLimit
 un:A.units+16*k+200<cLine
 gd:A.guards=some []
theorem Room.mono {j k:Nat} {A:Around} (r:Room k A) (h:j≤k):Room j A:=⟨r.hd,by have:=r.dp;omega,by have:=r.un;omega,r.gd⟩
theorem Room.deeper {k:Nat} {A:Around} (r:Room (k+1) A) (env:Env):Room k (A.deeper env):=
 ⟨r.hd,by have:=r.dp;show A.depth+1+3*k+5<_;omega,by have:=r.un;show A.units+3+16*k+200<_;omega,r.gd⟩
theorem Room.in1 {k:Nat} {A:Around} (r:Room (k+1) A):Room k A.in1:=
 ⟨r.hd,by have:=r.dp;show A.depth+3*k+5<_;omega,by have:=r.un;show A.units+1+16*k+200<_;omega,r.gd⟩
theorem Room.depth {k:Nat} {A:Around} (r:Room k A):A.depth<recursionLimit:=by have:=r.dp;omega
theorem Room.units {k:Nat} {A:Around} (r:Room k A):A.units+64<cLine:=by have:=r.un;omega
theorem Room.units0 {k:Nat} {A:Around} (r:Room k A):A.units<cLine:=by have:=r.un;omega
noncomputable def tNil:TA:=fun _ H Q=>Q [] H
noncomputable def tCons (ta:TE) (tr:TA):TA:=fun σ H Q=>ta σ H fun x H1=>tr σ H1 fun xs H2=>Q (x::xs) H2
section
variable {X:Cx} {e:Expr} {es:List Expr} {te:TE} {t:TA} {pos:Pos}
theorem pa_nil:PA X [] tNil:=fun _ _ _ _ H Q I h=>Calls.spliced_nil ⟨[],H,I,.nil,h⟩
theorem pa_cons (ha:PE X e te) (hr:PA X es t) (hs:starEach (e::es) X.env=(false,eval e X.env)::starEach es X.env:=by rfl):PA X (e::es) (tCons te t):=by
 intro pos pins s σ H Q I h
 rw [hs]
 show wpAny _ _ (spliced ((false,eval e X.env)::backTo pos (starEach es X.env))) _ _ s
 refine Calls.spliced_cons (thn (ha pins s σ H _ I h) fun u s1 ⟨x,H1,I1,r1,q1⟩=>?_)
 exact thn (hr pos pins s1 σ H1 _ I1 q1) fun us s2 ⟨xs,H2,I2,r2,q2⟩=>⟨x::xs,H2,I2,.cons r1 r2,q2⟩
noncomputable def tTup (t:TA):TE:=fun σ H Q=>t σ H fun xs H1=>xs.length≤sizeLine∧∀p,H1 p=none→Q (.ref p) (upd H1 p (.tup xs))
noncomputable def tLst (t:TA):TE:=fun σ H Q=>t σ H fun xs H1=>xs.length≤sizeLine∧∀p,H1 p=none→Q (.ref p) (upd H1 p (.lst xs))
theorem pe_tup {x1} (h:PA X es t):PE X (.Tuple es x1 pos) (tTup t):=by
 intro pins s σ H Q I hq
 refine wpAny_Tuple_spliced (thn (h pos pins s σ H _ I hq) fun us s1 ⟨xs,H1,I1,r,z,q⟩=>⟨by rw [←r.length];exact z,?_⟩)
 have hf:H1 s1.heap.objs.size=none:=I1.hok.fresh (Nat.le_refl _)
 refine ⟨.ref s1.heap.objs.size,upd H1 s1.heap.objs.size (.tup xs),I1.laid (t':=s1.toks) (fun b u e=>Heap.get?_push_of_some _ e) (Nat.le_refl _) ?_,rfl,q _ hf⟩
 exact ⟨z,us,r,⟨_,Heap.get?_push_size _ rfl,rfl,_,rfl⟩⟩
theorem pe_lst (h:PA X es t):PE X (.List es pos) (tLst t):=by
 intro pins s σ H Q I hq
 refine wpAny_List_spliced (thn (h pos pins s σ H _ I hq) fun us s1 ⟨xs,H1,I1,r,z,q⟩=>⟨by rw [←r.length];exact z,?_⟩)
 have hf:H1 s1.heap.objs.size=none:=I1.hok.fresh (Nat.le_refl _)
 refine ⟨.ref s1.heap.objs.size,upd H1 s1.heap.objs.size (.lst xs),I1.laid (t':=s1.toks) (fun b u e=>Heap.get?_push_of_some _ e) (Nat.le_refl _) ?_,rfl,q _ hf⟩
 exact ⟨z,us,0,r,Heap.get?_push_size _ rfl⟩
end
noncomputable abbrev Sp:=List V→Hp→VK→XK→Prop
noncomputable abbrev CXT:=List Env→Hp→Shared→XK→Value→Shared→Prop
structure Env0 (P:Program) (w:World) (K:PySem.W.Frag) (mg:Str→Option Value) (base:Heap) (A:Around) (outer:List Env) (s:Shared) (H:Hp):Prop where
 frames:A.frames=some outer
 mod:Mod K mg base
 bs:∀b o,base.get? b=some o→s.heap.get? b=some o∧H b=none
 bsz:base.objs.size≤s.heap.objs.size
 funs:s.heap.FunFrames base outer
 frf:∀b∈frs outer,H b=none
 hok:HOk P w H s.heap
 bare:AllBare s.gens
noncomputable def CE (outer:List Env) (P:Program) (w:World) (H:Hp) (s:Shared) (Q:VK) (u:Value) (s':Shared):Prop:=
 ∃v H',s'.os=s.os∧AllBare s'.gens∧Un (frs outer) [] H H' s.heap s'.heap∧HOk P w H' s'.heap∧RelV v u∧Q v H'
noncomputable def CR (CX:CXT) (outer:List Env) (P:Program) (w:World) (H:Hp) (s:Shared) (Q:VK) (E:XK) (r:Result) (s':Shared):Prop:=
 match r with
 | .ok (.ret u)=>CE outer P w H s Q u s'
 | .ok _=>False
 | .error e=>CX outer H s E e s'
structure FnOk (P:Program) (w:World) (K:PySem.W.Frag) (mg:Str→Option Value) (base:Heap) (CX:CXT) (k:Nat) (f:Addr) (fd:FuncData) (ps:List Str) (sp:Sp):Prop where
 len:∀vs H Q E,sp vs H Q E→vs.length=ps.length
 run:∀(A:Around) (outer:List Env) (s:Shared) (H:Hp) (args:Args) (us:List Value) (vs:List V) (Q:VK) (E:XK),Room k A→Env0 P w K mg base A outer s H→BindsTo s fd args (ps.zip us)→Vals vs us→sp vs H Q E→
  codeAny (model P w) A (.call (.ref f) args) (CR CX outer P w H s Q E) s
theorem FnOk.mono {P:Program} {w:World} {K:PySem.W.Frag} {mg:Str→Option Value} {base:Heap} {CX:CXT} {j k:Nat} {f:Addr} {fd:FuncData} {ps:List Str} {sp:Sp} (F:FnOk P w K mg base CX j f fd ps sp) (h:j≤k) :
  FnOk P w K mg base CX k f fd ps sp:=⟨F.len,fun A outer s H args us vs Q E hr=>F.run A outer s H args us vs Q E (hr.mono h)⟩
theorem FnOk.imp {P:Program} {w:World} {K:PySem.W.Frag} {mg:Str→Option Value} {base:Heap} {CX:CXT} {k:Nat} {f:Addr} {fd:FuncData} {ps:List Str} {sp sp':Sp} (F:FnOk P w K mg base CX k f fd ps sp)
  (h:∀vs H Q E,sp' vs H Q E→sp vs H Q E):FnOk P w K mg base CX k f fd ps sp':=
 ⟨fun vs H Q E q=>F.len vs H Q E (h _ _ _ _ q),fun A outer s H args us vs Q E hr he hb hv hs=>F.run A outer s H args us vs Q E hr he hb hv (h _ _ _ _ hs)⟩
theorem Env0.in1 {P:Program} {w:World} {K:PySem.W.Frag} {mg:Str→Option Value} {base:Heap} {A:Around} {outer:List Env} {s:Shared} {H:Hp} (e:Env0 P w K mg base A outer s H) :
  Env0 P w K mg base A.in1 outer s H:=⟨e.frames,e.mod,e.bs,e.bsz,e.funs,e.frf,e.hok,e.bare⟩
section
variable {X:Cx} {pins:List (Addr×Obj)} {σ:St} {H:Hp} {s s':Shared}
theorem Inv.env0 (I:Inv X pins σ H s):Env0 X.prog X.w X.K X.mg X.base X.A X.stack s H:=
 ⟨I.ok.frames,I.ok.mod,I.bs,Nat.le_trans I.ok.bsz I.sz,I.stack,I.stkFree,I.hok,I.bare⟩
theorem Inv.after {Q:VK} {u:Value} (I:Inv X pins σ H s) (h:CE X.stack X.prog X.w H s Q u s'):EP X pins σ Q u s':=by
 obtain ⟨v,H',os,bare,un,hok,r,q⟩:=h
 obtain ⟨hh,g,d,t,os'⟩:=s'
 obtain rfl:os'=s.os:=os
 exact ⟨v,H',I.call (h':=hh) (g':=g) (d':=d) (t':=t) (ch:=[]) un hok bare (fun b z=>absurd z (by simp)),r,q⟩
end
noncomputable def tCall (sp:Sp) (dvs:List V) (E:XK) (t:TA):TE:=fun σ H Q=>t σ H fun vs H1=>sp (vs++dvs) H1 Q E
noncomputable def Binds (K:PySem.W.Frag) (fd:FuncData) (ps:List Str) (ds:List Value):Prop:=
 ∀(s:Shared) (us:List Value),K.In s.heap→(us++ds).length=ps.length→BindsTo s fd ⟨us,[]⟩ (ps.zip (us++ds))
theorem Binds.all {K:PySem.W.Frag} {fd:FuncData} {ps:List Str} (h:∀us:List Value,us.length=ps.length→bindArgs fd ⟨us,[]⟩=pure (ps.zip us)):Binds K fd ps []:=fun s us _ hl=>by
 rw [List.append_nil] at hl ⊢
 exact .of_eq (h us hl)
noncomputable def Passes (CX:CXT) (X:Cx) (E:XK):Prop:=∀(pins:List (Addr×Obj)) (σ:St) (H:Hp) (s:Shared) (e:Value) (s':Shared),Inv X pins σ H s→CX X.stack H s E e s'→X.xe e s'
section
variable {X:Cx} {CX:CXT} {k:Nat} {f C:Addr} {fd:FuncData} {ps:List Str} {sp:Sp} {dvs:List V} {ds:List Value} {E:XK} {x m:Str} {p pos apos:Pos} {e o:Expr} {es:List Expr} {ta:TE} {t:TA}
theorem run_fn {pins:List (Addr×Obj)} {σ:St} {H:Hp} {s:Shared} {Q:VK} {us:List Value} {vs:List V} (F:FnOk X.prog X.w X.K X.mg X.base CX k f fd ps sp) (hr:Room k X.A) (hb:Binds X.K fd ps ds) (hd:Vals dvs ds) (hx:Passes CX X E)
  (I:Inv X pins σ H s) (r:Vals vs us) (h:sp (vs++dvs) H Q E):wpAny (model X.prog X.w) X.A (call (.ref f) us) (EP X pins σ Q) X.xe s:=by
 have r2:Vals (vs++dvs) (us++ds):=r.append hd
 have hl:(us++ds).length=ps.length:=by rw [←r2.length];exact F.len _ _ _ _ h
 refine wpAny_call (codeAny_mono (F.run X.A X.stack s H ⟨us,[]⟩ (us++ds) (vs++dvs) Q E hr I.env0 (hb s us I.kIn hl) r2 h) fun r s' hq=>?_)
 cases r with
 | error e=>exact hx pins σ H s e s' I hq
 | ok fl=>
  cases fl with
  | ret u=>exact I.after hq
  | next=>exact False.elim hq
  | brk=>exact False.elim hq
  | cont=>exact False.elim hq
theorem pe_call (F:FnOk X.prog X.w X.K X.mg X.base CX k f fd ps sp) (hr:Room k X.A) (hg:Gl X x) (hm:X.mg x=some (.ref f)) (hk:PySem.W.keepIn X.K (.ref f)=true) (hb:Binds X.K fd ps ds) (hd:Vals dvs ds) (hx:Passes CX X E)
  (ha:PA X (e::es) t) (hdb:(x==("__debug__" : Str))=false:=by decide) (he:starEach (e::es) X.env=(false,eval e X.env)::starEach es X.env:=by rfl) (hpl:(backTo pos (starEach es X.env)).any (·.1)=false:=by rfl) :
  PE X (.Call (.Name x p) (e::es) [] pos) (tCall sp dvs E t):=by
 intro pins s σ H Q I h
 refine wpAny_Call_Name_kw (ld_glob I hg hm ?_ hdb)
 refine PySem.W.callWith_K (h₀:=X.base) I.ok.mod.kin hk (thn (ha pos pins s σ H _ I h) fun us s1 ⟨vs,H1,I1,r,q⟩=>⟨I1.kIn,?_⟩) he hpl
 exact run_fn F hr hb hd hx I1 r q
end
noncomputable def PK (X:Cx) (kws:List Keyword) (t:TA):Prop:=
 ∀(pos:Pos) (pins:List (Addr×Obj)) (s:Shared) (σ:St) (H:Hp) (Q:List V→Hp→Prop),Inv X pins σ H s→t σ H Q→wpAny (model X.prog X.w) X.A (evalAll ((backToKw pos (keywordEach kws X.env)).map (·.2))) (AP X pins σ Q) X.xe s
section
variable {X:Cx} {CX:CXT} {k:Nat} {f C:Addr} {fd:FuncData} {ps ks:List Str} {sp:Sp} {E:XK} {x m:Str} {p pos apos kpos:Pos} {e o:Expr} {es:List Expr} {kws:List Keyword} {te ta:TE} {t tk:TA} {nm:Option Str}
theorem pk_nil:PK X [] tNil:=fun _ _ _ _ H Q I h=>wpAny_evalAll_nil ⟨[],H,I,.nil,h⟩
theorem pk_cons (ha:PE X e te) (hr:PK X kws t):PK X (⟨nm,e,kpos⟩::kws) (tCons te t):=by
 intro pos pins s σ H Q I h
 show wpAny _ _ (evalAll ((do let v←eval e X.env;standAt pos;pure v)::(backToKw pos (keywordEach kws X.env)).map (·.2))) _ _ s
 refine wpAny_evalAll_cons (wpAny_bind (thn (ha pins s σ H _ I h) fun u s1 ⟨x,H1,I1,r1,q1⟩=>wpAny_bind (wpAny_standAt (wpAny_pure ?_))))
 exact thn (hr pos pins s1 σ H1 _ I1 q1) fun us s2 ⟨xs,H2,I2,r2,q2⟩=>⟨x::xs,H2,I2,.cons r1 r2,q2⟩
variable {g:List Value→List Value→List Value} {gV:List V→List V→List V}
end
structure FnScope (N P:List Str) (sc:Scope):Prop where
 kind:sc.kind=.function
 co:sc.isCoroutine=false
 gen:sc.isGenerator=false
 nd:N.Nodup
 pre:N.take P.length=P
 par:∀x∈P,sc.names.lookup x=some .local∨sc.names.lookup x=some .cell
 nofree:∀y∈sc.names,y.2≠.free
theorem bindL_out {kindOf:Str→Option NameKind} {x:Str}:∀{binds:List (Str×Value)} {m:Str→Option Value},(∀v,(x,v)∉binds)→bindL kindOf binds m x=m x
 | [],_,_=>rfl
 | (n,v)::r,m,h=>by
  unfold bindL
  rw [bindL_out fun w hw=>h w (List.mem_cons_of_mem _ hw)]
  split
  ·have:x≠n:=by rintro rfl;exact h v List.mem_cons_self
   simp [this]
  ·rfl
theorem bindC_out {kindOf:Str→Option NameKind} {x:Str}:∀{binds:List (Str×Value)} {m:Str→Option Value},(∀v,(x,v)∉binds)→bindC kindOf binds m x=m x
 | [],_,_=>rfl
 | (n,v)::r,m,h=>by
  unfold bindC
  rw [bindC_out fun w hw=>h w (List.mem_cons_of_mem _ hw)]
  split
  ·rfl
  ·have:x≠n:=by rintro rfl;exact h v List.mem_cons_self
   simp [this]
theorem bindL_get {kindOf:Str→Option NameKind} {x:Str} {v:Value}:∀{P:List Str} {vs:List Value} {i:Nat} {m:Str→Option Value},P.Nodup→P[i]?=some x→vs[i]?=some v→kindOf x=some .local→
  bindL kindOf (P.zip vs) m x=some v
 | [],_,_,_,_,h,_,_=>by simp at h
 | _::_,[],_,_,_,_,h,_=>by simp at h
 | p::P,w::vs,0,m,nd,h1,h2,hk=>by
  simp at h1 h2;subst h1;subst h2
  show bindL kindOf ((p,w)::P.zip vs) m p=_
  unfold bindL
  rw [bindL_out fun v hv=>(List.nodup_cons.mp nd).1 (List.of_mem_zip hv).1,if_pos hk]
  simp
 | p::P,w::vs,i+1,m,nd,h1,h2,hk=>by
  show bindL kindOf ((p,w)::P.zip vs) m x=_
  unfold bindL
  exact bindL_get (i:=i) (List.nodup_cons.mp nd).2 (by simpa using h1) (by simpa using h2) hk
theorem bindC_get {kindOf:Str→Option NameKind} {x:Str} {v:Value}:∀{P:List Str} {vs:List Value} {i:Nat} {m:Str→Option Value},P.Nodup→P[i]?=some x→vs[i]?=some v→kindOf x≠some .local→
  bindC kindOf (P.zip vs) m x=some v
 | [],_,_,_,_,h,_,_=>by simp at h
 | _::_,[],_,_,_,_,h,_=>by simp at h
 | p::P,w::vs,0,m,nd,h1,h2,hk=>by
  simp at h1 h2;subst h1;subst h2
  show bindC kindOf ((p,w)::P.zip vs) m p=_
  unfold bindC
  rw [bindC_out fun v hv=>(List.nodup_cons.mp nd).1 (List.of_mem_zip hv).1,if_neg hk]
  simp
 | p::P,w::vs,i+1,m,nd,h1,h2,hk=>by
  show bindC kindOf ((p,w)::P.zip vs) m x=_
  unfold bindC
  exact bindC_get (i:=i) (List.nodup_cons.mp nd).2 (by simpa using h1) (by simpa using h2) hk
noncomputable def start (N:List Str) (vs:List V):St:=vs.map some++List.replicate (N.length-vs.length) none
noncomputable def cxOf (CX:CXT) (P:Program) (w:World) (K:PySem.W.Frag) (mg:Str→Option Value) (base:Heap) (N:List Str) (qual:Str) (scope:Scope) (f:Addr) (cd:Value) (A:Around) (outer:List Env) (s:Shared) (H:Hp) (E:XK):Cx where
 prog:=P
 w:=w
 K:=K
 mg:=mg
 base:=base
 A:=A.deeper (envOfC qual scope s.heap.objs.size f cd)
 N:=N
 s₀:=s
 H₀:=H
 env:=envOfC qual scope s.heap.objs.size f cd
 outer:=outer
 stack:=envOfC qual scope s.heap.objs.size f cd::outer
 ex:=[]
 calm:=true
 fn:=fun _=>true
 pn:=[]
 xe:=fun e s'=>wpAny (model P w) (A.deeper (envOfC qual scope s.heap.objs.size f cd)) (leaving (envOfC qual scope s.heap.objs.size f cd) e) (fun _ s''=>CX outer H s E e s'') (fun e' s''=>CX outer H s E e' s'') s'
theorem cell_has {sc:Scope} {n:Nat} {x:Str} (h:sc.names.lookup x=some .cell):∃c,(cellsFrom n sc.names []).lookup x=some c:=by
 have q:=PySem.W.cellsFrom_some sc.names n [] (.inl h)
 exact Option.isSome_iff_exists.mp q
theorem inv_start {CX:CXT} {P:Program} {w:World} {K:PySem.W.Frag} {mg:Str→Option Value} {base:Heap} {N ps:List Str} {qual:Str} {scope:Scope} {f:Addr} {cd:Value} {A:Around} {outer:List Env} {s s1:Shared} {H:Hp} {E:XK} {us:List Value} {vs:List V}
  (S:FnScope N ps scope) (hd:A.handled=none) (e0:Env0 P w K mg base A outer s H) (hl:vs.length=ps.length) (r:Vals vs us)
  (x:InCallC s s.heap.objs.size (bindL (envOfC qual scope s.heap.objs.size f cd).kindOf (ps.zip us) fun _=>none) (cellsFrom (s.heap.objs.size+1) scope.names []) (bindC (envOfC qual scope s.heap.objs.size f cd).kindOf (ps.zip us) fun _=>none) s1) :
  Inv (cxOf CX P w K mg base N qual scope f cd A outer s H E) [] (start N vs) H s1:=by
 have hpl:ps.length≤N.length:=by have:=congrArg List.length S.pre;rw [List.length_take] at this;omega
 obtain ⟨h1,tk,rfl,hk⟩:=x.done
 have noA:∀b:Addr,b∉(cxOf CX P w K mg base N qual scope f cd A outer s H E).ex:=fun b z=>absurd (show b∈([]:List Addr) from z) (by simp)
 refine ⟨⟨e0.mod,S.kind,rfl,rfl,Nat.le_refl _,fun y z c h1 h2=>?_,fun y hy=>?_,fun y c _ h=>?_,fun _=>hd,Around.frames_deeper e0.frames,.inr ⟨rfl,rfl⟩,fun b z=>absurd z (noA b),e0.bs,e0.bsz,fun b _ _=>noA b,fun b z=>absurd z (noA b),e0.funs,e0.frf⟩,
  rfl,e0.bare,Un.kept hk,⟨_,x.toInCall.ns,fun i y v h1 h2 h3=>?_⟩,fun y c h=>⟨_,x.cell y c h⟩,e0.hok.fresh (Nat.le_refl _),fun y c h=>?_,fun p hp=>absurd (show p∈([]:List (Addr×Obj)) from hp) (by simp),e0.hok.kept hk,?_⟩
 ·exact name_of_addr x.apart (PySem.mem_of_lookup h1) (PySem.mem_of_lookup h2)
 ·have hy:scope.names.lookup y=some .cell∨scope.names.lookup y=some .free:=hy
  rcases hy with hy | hy
  ·exact cell_has hy
  ·exact absurd rfl (S.nofree _ (PySem.mem_of_lookup hy))
 ·exact Nat.le_of_lt (x.above y c (PySem.mem_of_lookup h))
 ·have hi:i<vs.length:=by
   unfold start at h2
   by_cases hi:i<vs.length
   ·exact hi
   ·rw [List.getElem?_append_right (by simpa using hi)] at h2
    rw [List.getElem?_replicate] at h2
    split at h2 <;> cases h2
  have ha:vs[i]?=some v:=by
   unfold start at h2
   rw [List.getElem?_append_left (by simpa using hi),List.getElem?_map] at h2
   cases e:vs[i]? with
   | none=>rw [e] at h2;cases h2
   | some a=>rw [e] at h2;cases h2;rfl
  obtain ⟨u,hu,rv⟩:=r.get ha
  have hp:ps[i]?=some y:=by
   rw [←S.pre,List.getElem?_take_of_lt (by omega)];exact h1
  have ndP:ps.Nodup:=by rw [←S.pre];exact S.nd.sublist (List.take_sublist _ _)
  refine ⟨u,rv,?_⟩
  rcases S.par y (List.mem_of_getElem? hp) with k | k
  ·exact .inl ⟨k,bindL_get ndP hp hu k⟩
  ·obtain ⟨c,e⟩:=cell_has (n:=s.heap.objs.size+1) k
   refine .inr ⟨.inl k,c,e,?_⟩
   have q:=x.cell y c e
   rw [bindC_get ndP hp hu (by show scope.names.lookup y≠_;rw [k];decide)] at q
   exact q
 ·exact e0.hok.fresh (Nat.le_of_lt (x.above y c (PySem.mem_of_lookup h)))
 ·unfold start
  show _=N.length
  rw [List.length_append,List.length_map,List.length_replicate]
  omega
theorem fn_of {CX:CXT} {P:Program} {w:World} {K:PySem.W.Frag} {mg:Str→Option Value} {base:Heap} {k:Nat} {f:Addr} {name qual:Str} {params:Arguments} {body:List Stmt} {scope:Scope} {dV kV doc pm cdv ct oc:Value} {an od:Option Addr}
  {osl:Array (Option Value)} {N ps:List Str} {sp:Sp} (lk:K.lookup f=some ⟨oc,od,.func (PySem.W.fnOf name qual params body scope dV kV doc pm an cdv ct),osl⟩) (hcd:PySem.W.codeIn K cdv qual=true) (S:FnScope N ps scope)
  (len:∀vs H Q E,sp vs H Q E→vs.length=ps.length)
  (hbody:∀(A:Around) (outer:List Env) (s:Shared) (H:Hp) (vs:List V) (Q:VK) (E:XK),Room k (A.deeper (envOfC qual scope s.heap.objs.size f cdv))→sp vs H Q E→
   ∃t,PSs (cxOf CX P w K mg base N qual scope f cdv A outer s H E) body t∧t { nx:=fun _ H'=>Q .non H',rt:=Q } (start N vs) H) :
  FnOk P w K mg base CX (k+1) f (PySem.W.fnOf name qual params body scope dV kV doc pm an cdv ct) ps sp:=by
 refine ⟨len,fun A outer s H args us vs Q E hr e0 hb r hsp=>?_⟩
 have hl:=len _ _ _ _ hsp
 have KX:K.In s.heap:=e0.mod.kin.keeps fun b o e=>(e0.bs b o e).1
 have lim:s.heap.NoLimit:=e0.mod.nolimit.keeps fun b o e=>(e0.bs b o e).1
 have hkind:∀y∈ps.zip us,scope.names.lookup y.1=some .local∨(scope.names.lookup y.1=some .cell∧((cellsFrom (s.heap.objs.size+1) scope.names []).lookup y.1).isSome=true):=fun ⟨n,v⟩ hy=>by
  rcases S.par n (List.of_mem_zip hy).1 with q | q
  ·exact .inl q
  ·exact .inr ⟨q,PySem.W.cellsFrom_some _ _ _ (.inl q)⟩
 refine codeAny_call_function hr.depth (KX _ _ lk) rfl S.co S.gen rfl (PySem.W.codeRec_of KX hcd) (hb _ _ _ _ ?_)
 refine wpAny_newFunctionEnv_cells S.kind hkind fun env he s1 x=>?_
 subst he
 refine ⟨lim.keeps x.toInCall.keep,codeAny_func ?_⟩
 obtain ⟨t,ht,hq⟩:=hbody A outer s H vs Q E (hr.deeper _) hsp
 have I:Inv (cxOf CX P w K mg base N qual scope f cdv A outer s H E) [] (start N vs) H s1:=inv_start S hr.hd e0 hl r x
 refine wpAny_mono (ht [] s1 (start N vs) H _ I hq) (fun fl s' hs=>?_) fun e s' hs=>hs
 have fin:∀{σ':St} {H':Hp} {v:V} {u:Value},Inv (cxOf CX P w K mg base N qual scope f cdv A outer s H E) [] σ' H' s'→RelV v u→Q v H'→CE outer P w H s Q u s':=
  fun {σ' H' v u} J rv q=>⟨v,H',J.os,J.bare,J.base,J.hok,rv,q⟩
 cases fl with
 | ret u=>
  obtain ⟨v,σ',H',J,rv,q⟩:=hs
  exact fin J rv q
 | next=>
  obtain ⟨σ',H',J,q⟩:=hs
  exact fin (v:=V.non) (u:=Value.none) J rfl q
 | brk=>
  obtain ⟨_,_,_,q⟩:=hs
  exact False.elim q
 | cont=>
  obtain ⟨_,_,_,q⟩:=hs
  exact False.elim q
end L2
namespace L2
open PySem PySem.Spec PyProof.Rows
section
variable {X:Cx} {x:Str} {p pos:Pos} {e:Expr} {es:List Expr} {t:TA} {id T:String} {r:List V→Hp→VK→Prop}
noncomputable def tCB (r:List V→Hp→VK→Prop) (t:TA):TE:=fun σ H Q=>t σ H fun vs H1=>r vs H1 Q
theorem pe_callB (hc:CallR X (.builtin id) r) (hg:Gl X x) (hm:X.mg x=none) (hv:bootBuiltins x=some (.builtin id)) (ha:PA X (e::es) t) (hn:x≠"__name__":=by decide) (hdb:(x==("__debug__" : Str))=false:=by decide)
  (he:starEach (e::es) X.env=(false,eval e X.env)::starEach es X.env:=by rfl) (hpl:(backTo pos (starEach es X.env)).any (·.1)=false:=by rfl):PE X (.Call (.Name x p) (e::es) [] pos) (tCB r t):=by
 intro pins s σ H Q I h
 refine wpAny_Call_Name_kw (ld_blt I hg hm hv ?_ hn hdb)
 exact PyProof.Rows.callWith_builtin1 (thn (ha pos pins s σ H _ I h) fun us s1 ⟨vs,H1,I1,r1,q1⟩=>hc pins s1 σ H1 vs us Q I1 r1 q1) he hpl
theorem pe_callTy (hc:CallR X (.type T) r) (hg:Gl X x) (hm:X.mg x=none) (hv:bootBuiltins x=some (.type T)) (ha:PA X (e::es) t) (hn:x≠"__name__":=by decide) (hdb:(x==("__debug__" : Str))=false:=by decide)
  (he:starEach (e::es) X.env=(false,eval e X.env)::starEach es X.env:=by rfl) (hpl:(backTo pos (starEach es X.env)).any (·.1)=false:=by rfl):PE X (.Call (.Name x p) (e::es) [] pos) (tCB r t):=by
 intro pins s σ H Q I h
 refine wpAny_Call_Name_kw (ld_blt I hg hm hv ?_ hn hdb)
 exact PyProof.Rows.callWith_type1 (thn (ha pos pins s σ H _ I h) fun us s1 ⟨vs,H1,I1,r1,q1⟩=>hc pins s1 σ H1 vs us Q I1 r1 q1) he hpl
end
end L2
namespace HT
open PySem PyProof.Rows
noncomputable def lexLt:List Int→List Int→Bool
 | [],[]=>false
 | [],_::_=>true
 | _::_,[]=>false
 | x::xs,y::ys=>if x=y then lexLt xs ys else decide (x<y)
theorem lexLt_cons (x y:Int) (xs ys:List Int):lexLt (x::xs) (y::ys)=if x=y then lexLt xs ys else decide (x<y):=rfl
theorem lexLt_nil_nil:lexLt [] []=false:=rfl
theorem lexLt_nil_cons (y:Int) (ys:List Int):lexLt [] (y::ys)=true:=rfl
theorem lexLt_cons_nil (x:Int) (xs:List Int):lexLt (x::xs) []=false:=rfl
theorem eqAt_int (A:Around) (s:Shared) (a:Int) (t:Tok) (c:Int) (u:Tok):∃e,SeqAt.EqAt A s (.int a t) (.int c u) e∧(e=true↔a=c):=
 ⟨(a==c),SeqAt.EqAt.int_int a t c u,by simp⟩
theorem rcLt_int (A:Around) (s:Shared) (a:Int) (t:Tok) (c:Int) (u:Tok) (prog:Program) (w:World) (E:Value→Shared→Prop) (Q:Value→Shared→Prop) (h:Q (.bool (decide (a<c))) s) :
  wpAny (model prog w) A (richCompare .Lt (.int a t) (.int c u)) Q E s:=
 (PyProof.Rows.lt_int h:wpAny (model prog w) A (compareOp .Lt (.int a t) (.int c u)) Q E s)
section
open PySem.SeqAt
open PySem.AutoSeq1 (wpAny_loadPart')
open PySem.MeetsSeq PySem.MeetsSeq2 PySem.MeetsSeq3
theorem tuple_lt_ints (l b:Addr) (items items2:Array Value) (n n2:Nat) (dd dd2:Option Addr) (sl sl2:Array (Option Value)) (ns ms:List Int) (hi:IntsAre items.toList ns) (hj:IntsAre items2.toList ms) :
  Meets (Builtin.«tuple.__lt__» ⟨[.ref l,.ref b],[]⟩)
   (fun _ R s=>s.heap.get? l=some { cls:=.type "tuple",dict:=dd,data:=.seq items n,slots:=sl }∧s.heap.get? b=some { cls:=.type "tuple",dict:=dd2,data:=.seq items2 n2,slots:=sl2 }∧
    R (.ok (.ret (.bool (lexLt ns ms)))) s):=
 .of_wp fun prog w A R s h=>by
  obtain ⟨hp,g,d,tk,os⟩:=s;obtain ⟨hl,hb,h⟩:=h
  have f2:=AutoSeq1.sub_tuple_tuple
  have z1:items.size=ns.length:=by rw [←hi.length];simp
  have z2:items2.size=ms.length:=by rw [←hj.length];simp
  wp_walk using wpAny_loadPart' hl,wpAny_loadPart' hb,wpAny_forIn_list _ (fun rest b s'=>b.1=none∧s'=⟨hp,g,d,tk,os⟩∧∃(vs ws:List Value) (ns' ms':List Int),rest=vs.zip ws∧
   IntsAre vs ns'∧IntsAre ws ms'∧ns'.length+items2.size=ms'.length+items.size∧R (.ok (.ret (.bool (lexLt ns' ms')))) ⟨hp,g,d,tk,os⟩) _
  case turn=>
   rintro ⟨y,x⟩ rest b s' ⟨hb',rfl,vs,ws,ns',ms',hz,hvi,hwi,hlen,hR⟩
   cases hvi with
   | nil=>rw [List.zip_nil_left] at hz;cases hz
   | cons a t hvi'=>
    cases hwi with
    | nil=>rw [List.zip_nil_right] at hz;cases hz
    | cons c u hwi'=>
     rw [List.zip_cons_cons] at hz
     injection hz with hyx hrest
     injection hyx with hy hx
     subst hy hx
     rw [lexLt_cons] at hR
     simp only [List.length_cons] at hlen
     obtain ⟨e,he,hiff⟩:=eqAt_int A.in1 ⟨hp,g,d,tk,os⟩ a t c u
     refine wpAny_bind (he prog w _ _ ?_)
     cases e with
     | true=>
      rw [if_pos (hiff.mp rfl)] at hR
      wp_walk
      exact ⟨rfl,rfl,_,_,_,_,hrest,hvi',hwi',by omega,hR⟩
     | false=>
      rw [if_neg (fun q=>absurd (hiff.mpr q) Bool.false_ne_true)] at hR
      have hri:=rcLt_int A.in1 ⟨hp,g,d,tk,os⟩ a t c u prog w
      wp_walk using hri
      exact ⟨_,rfl,by simpa using hR⟩
  case fin=>
   rintro ⟨b1,b2⟩ s' ⟨hb',rfl,vs,ws,ns',ms',hz,hvi,hwi,hlen,hR⟩
   simp only at hb'
   subst hb'
   have hv:lexLt ns' ms'=decide (items.size<items2.size):=by
    cases hvi with
    | nil=>
     cases hwi with
     | nil=>
      simp only [List.length_nil] at hlen
      rw [lexLt_nil_nil]
      exact (decide_eq_false (by omega)).symm
     | cons c u hw=>
      simp only [List.length_nil,List.length_cons] at hlen
      rw [lexLt_nil_cons]
      exact (decide_eq_true (by omega)).symm
    | cons a t hv=>
     cases hwi with
     | nil=>
      simp only [List.length_nil,List.length_cons] at hlen
      rw [lexLt_cons_nil]
      exact (decide_eq_false (by omega)).symm
     | cons c u hw=>
      rw [List.zip_cons_cons] at hz
      cases hz
   rw [hv] at hR
   wp_walk
   exact ⟨_,rfl,by simpa [Builtin.Tuple.tupleCompareSizes] using hR⟩
  case h=>
   exact ⟨rfl,rfl,items.toList,items2.toList,ns,ms,rfl,hi,hj,by omega,h⟩
end
section
variable {prog:Program} {w:World} {A:Around} {E:Value→Shared→Prop} {s:Shared}
theorem lt_tupInts {l b:Addr} {items items2:Array Value} {ns ms:List Int} {Q:Value→Shared→Prop} (hl:IsTup s.heap l items) (hb:IsTup s.heap b items2) (hi:IntsAre items.toList ns) (hj:IntsAre items2.toList ms)
  (hu:A.units<cLine) (h:Q (.bool (lexLt ns ms)) s):wpAny (model prog w) A (compareOp .Lt (.ref l) (.ref b)) Q E s:=by
 obtain ⟨⟨cls,dd,data,sl⟩,ho,hc,n,hd⟩:=id hl
 obtain ⟨⟨cls2,dd2,data2,sl2⟩,ho2,hc2,n2,hd2⟩:=id hb
 simp only at hc hd hc2 hd2
 subst hc hd hc2 hd2
 exact richCompare_meets_room (op:=.Lt) ⟨_,ho,rfl⟩ ⟨_,ho2,rfl⟩ PySem.F.slot_tuple_lt PySem.F.entry_tuple_lt (PySem.F.args_tuple_lt_2 _ _) (tuple_lt_ints l b items items2 n n2 dd dd2 sl sl2 ns ms hi hj)
  ⟨ho,ho2,show Value.bool (lexLt ns ms)≠Value.notImplemented∧Q (.bool (lexLt ns ms)) s from ⟨(fun x=>nomatch x),h⟩⟩ hu
theorem cat_tup {t b:Addr} {vs ws:List Value} {Q:Value→Shared→Prop} (ht:IsTup s.heap t vs.toArray) (hb:IsTup s.heap b ws.toArray) (hv:vs≠[])
  (h1:ws=[]→Q (.ref t) s) (h2:ws≠[]→Q (.ref s.heap.objs.size) { s with heap:=s.heap.push { cls:=.type "tuple",data:=.seq (vs++ws).toArray } })
  (hsz:vs.length+ws.length≤sizeLine):wpAny (model prog w) A (binaryOp .Add (.ref t) (.ref b)) Q E s:=by
 obtain ⟨⟨cls,dd,data,sl⟩,ho,hc,n,hd⟩:=id ht
 obtain ⟨⟨cls2,dd2,data2,sl2⟩,ho2,hc2,n2,hd2⟩:=id hb
 simp only at hc hd hc2 hd2
 subst hc hd hc2 hd2
 have e:vs.toArray++ws.toArray=(vs++ws).toArray:=by simp
 by_cases hw:ws=[]
 ·exact concat_meets ⟨_,ho,rfl⟩ ⟨_,ho2,rfl⟩ noFill_tuple_add seq_tuple_add PySem.F.slot_tuple_add PySem.F.entry_tuple_add (PySem.F.args_tuple_add_2 _ _)
   (tuple_addW1 t b vs.toArray ws.toArray n n2 dd dd2 sl sl2 (by simpa using hv) (by simp [hw])) ⟨ho,ho2,h1 hw⟩
 ·refine concat_meets ⟨_,ho,rfl⟩ ⟨_,ho2,rfl⟩ noFill_tuple_add seq_tuple_add PySem.F.slot_tuple_add PySem.F.entry_tuple_add (PySem.F.args_tuple_add_2 _ _)
   (tuple_addW2 t b vs.toArray ws.toArray n n2 dd dd2 sl sl2 (by simpa using hv) (by simpa using hw) (by rw [List.size_toArray,List.size_toArray];exact hsz)) ⟨ho,ho2,?_⟩
  rw [e]
  exact h2 hw
end
end HT
namespace L2
open PySem PySem.Spec PyProof.Rows
theorem intsAre_of {ns:List Int}:∀{us:List Value},Vals (ns.map V.int) us→IntsAre us ns:=by
 induction ns with
 | nil=>intro us r;rw [List.map_nil] at r;cases r;exact .nil
 | cons n ns ih=>
  intro us r
  rw [List.map_cons] at r
  cases r with
  | cons r1 r2=>
   obtain ⟨t,e⟩:=r1
   subst e
   exact .cons n t (ih r2)
section
variable {X:Cx} {e:Expr} {te:TE} {lo hi:Option Expr} {tl th:TO} {pos p2:Pos}
noncomputable def rLtT (K:PySem.W.Frag):R2:=fun x y H Q=>∃a b ns ms,x=.ref a∧y=.ref b∧SqT K H a (ns.map V.int)∧SqT K H b (ms.map V.int)∧Q (.bl (HT.lexLt ns ms)) H
theorem op_ltT (hu:X.A.units<cLine):OpR X (compareOp .Lt) (rLtT X.K):=by
 intro pins s σ H x y v u Q I rx ry h
 obtain ⟨a,b,ns,ms,rfl,rfl,ha,hb,q⟩:=h
 cases rx
 cases ry
 obtain ⟨its,r1,p1,_⟩:=I.tuple ha
 obtain ⟨its2,r2,p2,_⟩:=I.tuple hb
 have i1:IntsAre its.toArray.toList ns:=intsAre_of r1
 have i2:IntsAre its2.toArray.toList ms:=intsAre_of r2
 exact HT.lt_tupInts p1 p2 i1 i2 hu ⟨.bl (HT.lexLt ns ms),H,I,rfl,q⟩
noncomputable def rCatT (K:PySem.W.Frag):R2:=fun x y H Q=>∃a b xs ys,x=.ref a∧y=.ref b∧SqT K H a xs∧SqT K H b ys∧xs≠[]∧xs.length+ys.length≤sizeLine∧
 (ys=[]→Q (.ref a) H)∧(ys≠[]→∀p,H p=none→Q (.ref p) (upd H p (.tup (xs++ys))))
theorem Vals.nil_iff {xs:List V} {us:List Value} (r:Vals xs us):us=[]↔xs=[]:=by
 cases r with
 | nil=>simp
 | cons _ _=>simp
theorem op_catT:OpR X (binaryOp .Add) (rCatT X.K):=by
 intro pins s σ H x y v u Q I rx ry h
 obtain ⟨a,b,xs,ys,rfl,rfl,ha,hb,hx,hz,q1,q2⟩:=h
 cases rx
 cases ry
 obtain ⟨its,r1,p1,_⟩:=I.tuple ha
 obtain ⟨its2,r2,p2,_⟩:=I.tuple hb
 refine HT.cat_tup p1 p2 (fun z=>hx (r1.nil_iff.mp z)) (fun z=>⟨.ref a,H,I,rfl,q1 (r2.nil_iff.mp z)⟩) (fun z=>?_) (by rw [←r1.length,←r2.length];exact hz)
 refine ⟨.ref s.heap.objs.size,_,I.laid (t':=s.toks) (o:=.tup (xs++ys)) (fun b ob q=>Heap.get?_push_of_some _ q) (Nat.le_refl _) ?_,rfl,q2 (fun w=>z (r2.nil_iff.mpr w)) _ (I.hok.fresh (Nat.le_refl _))⟩
 exact ⟨by rw [List.length_append];exact hz,_,r1.append r2,IsTup.new _ _⟩
end
end L2
namespace L2
open PySem PySem.Spec PyProof.Rows
noncomputable def ixN (n:Nat) (i:Int):Option Nat:=if 0≤i then (if i<n then some i.toNat else none) else if -(n:Int)≤i then some (i+n).toNat else none
noncomputable def atI {α:Type} (xs:List α) (i:Int):Option α:=(ixN xs.length i).bind fun j=>xs[j]?
theorem ixN_seq {n:Nat} {i:Int} {j:Nat} (h:ixN n i=some j):seqIndex? i n=some j∧j<n∧-(n:Int)≤i∧i<n:=by
 unfold ixN at h
 by_cases h0:0≤i
 ·rw [if_pos h0] at h
  by_cases h1:i<n
  ·rw [if_pos h1] at h
   have e:i.toNat=j:=Option.some.inj h
   exact ⟨by rw [seqIndex_of h0 h1,e],by omega,by omega,h1⟩
  ·rw [if_neg h1] at h;cases h
 ·rw [if_neg h0] at h
  by_cases h1:-(n:Int)≤i
  ·rw [if_pos h1] at h
   have e:(i+n).toNat=j:=Option.some.inj h
   exact ⟨by rw [seqIndex_neg (by omega) h1,e],by omega,h1,by omega⟩
  ·rw [if_neg h1] at h;cases h
theorem atI_get {α:Type} {xs:List α} {i:Int} {v:α} (h:atI xs i=some v):∃j,seqIndex? i xs.length=some j∧xs[j]?=some v∧j<xs.length∧-(xs.length:Int)≤i∧i<xs.length:=by
 unfold atI at h
 cases e:ixN xs.length i with
 | none=>rw [e] at h;cases h
 | some j=>
  rw [e] at h
  obtain ⟨h1,h2,h3,h4⟩:=ixN_seq e
  exact ⟨j,h1,h,h2,h3,h4⟩
theorem atI_nat {α:Type} {xs:List α} {j:Nat} {v:α} (h:xs[j]?=some v):atI xs (j:Int)=some v:=by
 have hj:j<xs.length:=(List.getElem?_eq_some_iff.mp h).1
 have e:ixN xs.length (j:Int)=some j:=by
  unfold ixN
  rw [if_pos (by omega),if_pos (by omega)];simp
 unfold atI;rw [e];exact h
noncomputable def PlainIx (b:Expr):Prop:=∀o i,subscripted b false o i=operate [o,i] (getItem o i)
noncomputable def IxR (X:Cx) (r:R2):Prop:=
 ∀(value slice:Expr) (pins:List (Addr×Obj)) (s:Shared) (σ:St) (H:Hp) (x y:V) (v u:Value) (Q:VK),Inv X pins σ H s→RelV x v→RelV y u→r x y H Q→
  subscripted slice false v u=operate [v,u] (getItem v u)→wpAny (model X.prog X.w) X.A (subscriptTail value slice v u) (EP X pins σ Q) X.xe s
noncomputable def MtR (X:Cx) (id:String) (r:V→List V→Hp→VK→Prop):Prop:=
 ∀(pins:List (Addr×Obj)) (s:Shared) (σ:St) (H:Hp) (x:V) (xs:List V) (v:Value) (us:List Value) (Q:VK),Inv X pins σ H s→RelV x v→Vals xs us→r x xs H Q→
  wpAny (model X.prog X.w) X.A (call (.builtin id) (v::us)) (EP X pins σ Q) X.xe s
section
variable {X:Cx} {a b:Expr} {ta tb:TE} {pos:Pos}
theorem IxR.or {r r':R2} (h:IxR X r) (h':IxR X r'):IxR X (fun x y H Q=>r x y H Q∨r' x y H Q):=by
 intro value slice pins s σ H x y v u Q I rx ry q hs
 rcases q with q | q
 ·exact h value slice pins s σ H x y v u Q I rx ry q hs
 ·exact h' value slice pins s σ H x y v u Q I rx ry q hs
theorem pe_ix {r:R2} (hr:IxR X r) (ha:PE X a ta) (hb:PE X b tb) (hs:PlainIx b):PE X (.Subscript a b pos) (tOp r ta tb):=by
 intro pins s σ H Q I h
 exact Subscript_ (binT ha hb I h fun v u s2 x y H2 I2 rx ry q=>hr a b pins s2 σ H2 x y v u Q I2 rx ry q (hs _ _))
noncomputable def rIxL (K:PySem.W.Frag):R2:=fun x y H Q=>∃p xs i v,x=.ref p∧y=.int i∧SqL K H p xs∧atI xs i=some v∧Q v H
noncomputable def rIxT (K:PySem.W.Frag):R2:=fun x y H Q=>∃p xs i v,x=.ref p∧y=.int i∧SqT K H p xs∧atI xs i=some v∧Q v H
theorem ix_list:IxR X (rIxL X.K):=by
 intro value slice pins s σ H x y v u Q I rx ry h hs
 obtain ⟨p,xs,i,z,rfl,rfl,hq,he,q⟩:=h
 cases rx
 obtain ⟨t,rfl⟩:=ry
 obtain ⟨its,r,pl,hz⟩:=I.list hq
 obtain ⟨j,h1,h2,h3,h4,h5⟩:=atI_get he
 obtain ⟨w,ew,rw'⟩:=r.get h2
 have hl:=r.length
 have hn:=line63
 have fin:EP X pins σ Q w s:=⟨z,H,I,rw',q⟩
 by_cases h0:0≤i
 ·have hj:i.toNat=j:=by
   rw [seqIndex_of h0 h5] at h1
   exact Option.some.inj h1
  exact item_listR pl.isList h0 (by omega) (by rw [hj];simpa using ew) fin hs
 ·have hj:(i+(its.toArray.size:Int)).toNat=j:=by
   rw [seqIndex_neg (by omega) h4] at h1
   rw [List.size_toArray,←hl]
   exact Option.some.inj h1
  exact subscriptTail_builtinR (x:=w) pl.isList.typeIs slot_list_getitem.lookup
   (wpAny_getItem_list_neg (Q:=fun r s'=>r=w∧EP X pins σ Q r s') pl.isList (by omega) (by rw [List.size_toArray] <;> omega) (by omega) (by rw [hj];simpa using ew) ⟨rfl,fin⟩) hs
theorem ix_tup:IxR X (rIxT X.K):=by
 intro value slice pins s σ H x y v u Q I rx ry h hs
 obtain ⟨p,xs,i,z,rfl,rfl,hq,he,q⟩:=h
 cases rx
 obtain ⟨t,rfl⟩:=ry
 obtain ⟨its,r,pl,hz⟩:=I.tuple hq
 obtain ⟨j,h1,h2,h3,h4,h5⟩:=atI_get he
 obtain ⟨w,ew,rw'⟩:=r.get h2
 have hl:=r.length
 have hn:=line63
 have fin:EP X pins σ Q w s:=⟨z,H,I,rw',q⟩
 exact subscriptTail_builtinR (x:=w) pl.typeIs slot_tuple_getitem.lookup
  (getItem_tuple (j:=j) (Q:=fun r s'=>r=w∧EP X pins σ Q r s') pl (by omega) (by omega) (by rw [List.size_toArray,←hl];exact h1) (by simpa using ew) ⟨rfl,fin⟩) hs
theorem mapSeq_set (its:List Value) (n j:Nat) (u:Value):Obj.mapSeq (·.setIfInBounds j u) { cls:=.type "list",data:=.seq its.toArray n } = { cls:=.type "list",data:=.seq (its.set j u).toArray n }:=by
 simp [Obj.mapSeq]
theorem Inv.lst {pins:List (Addr×Obj)} {σ:St} {H:Hp} {s:Shared} {p:Addr} {xs:List V} (I:Inv X pins σ H s) (h:H p=some (.lst xs)) :
  ∃(its:List Value) (n:Nat),Vals xs its∧s.heap.get? p=some { cls:=.type "list",data:=.seq its.toArray n }∧xs.length≤sizeLine:=by
 obtain ⟨z,its,n,r,e⟩:=I.hok p _ h
 exact ⟨its,n,r,e,z⟩
theorem Inv.lstUpd {pins:List (Addr×Obj)} {σ:St} {H:Hp} {s:Shared} {p:Addr} {xs ys:List V} {its its':List Value} {n n':Nat} {f:Obj→Obj} (I:Inv X pins σ H s) (h:H p=some (.lst xs))
  (ho:s.heap.get? p=some { cls:=.type "list",data:=.seq its.toArray n }) (hf:f { cls:=.type "list",data:=.seq its.toArray n } = { cls:=.type "list",data:=.seq its'.toArray n' }) (r:Vals ys its') (hz:ys.length≤sizeLine) (t:Nat) :
  Inv X pins σ (upd H p (.lst ys)) { s with heap:=s.heap.update p f,toks:=t }:=by
 have e:(s.heap.update p f).get? p=some { cls:=.type "list",data:=.seq its'.toArray n' }:=by
  rw [Heap.get?_update_self f ho (by rw [hf] <;> rfl),hf]
 refine I.write (x:=p) (e:=p) (by rw [h];trivial) (.inl rfl) (fun b u hb q=>(Heap.get?_update_other _ _ (Ne.symm hb)).trans q) ⟨_,e⟩ ?_
 exact ⟨hz,its',n',r,e⟩
noncomputable def rSetL:V→V→V→Hp→(Hp→Prop)→Prop:=fun o i v H Q=>∃p xs k j,o=.ref p∧i=.int k∧H p=some (.lst xs)∧ixN xs.length k=some j∧Q (upd H p (.lst (xs.set j v)))
theorem set_list:PSet X rSetL:=by
 intro pins s σ H o i v ov iv u Q I ro ri rv h
 obtain ⟨p,xs,k,j,rfl,rfl,hp,hj,q⟩:=h
 cases ro
 obtain ⟨t,rfl⟩:=ri
 obtain ⟨its,n,r,ho,hz⟩:=I.lst hp
 obtain ⟨h1,h2,h3,h4⟩:=ixN_seq hj
 have hl:=r.length
 have hn:=line63
 have I':Inv X pins σ (upd H p (.lst (xs.set j v))) { s with heap:=s.heap.update p (Obj.mapSeq (·.setIfInBounds j u)) }:=
  I.lstUpd hp ho (mapSeq_set its n j u) (r.set rv j) (by rw [List.length_set];exact hz) s.toks
 by_cases h0:0≤k
 ·have hk:k.toNat=j:=by
   rw [seqIndex_of h0 h4] at h1
   exact Option.some.inj h1
  exact PySem.W.ki_setAt ho h0 (by omega) (by rw [List.size_toArray,←hl];exact h4) (by rw [hk];exact ⟨_,I',q⟩)
 ·have hk:(k+(its.toArray.size:Int)).toNat=j:=by
   rw [seqIndex_neg (by omega) h3] at h1
   rw [List.size_toArray,←hl]
   exact Option.some.inj h1
  exact PySem.W.ki_setBack ho (by omega) (by rw [List.size_toArray,←hl];exact h3) (by omega) (by rw [hk];exact ⟨_,I',q⟩)
theorem call_len_seq:CallR X (.builtin "len") (fun xs H Q=>∃p ys,xs=[.ref p]∧(SqL X.K H p ys∨SqT X.K H p ys)∧Q (.int ys.length) H):=by
 intro pins s σ H xs us Q I r h
 obtain ⟨p,ys,rfl,hq,q⟩:=h
 obtain ⟨u,rfl,rx⟩:=vals1 r
 cases rx
 have hn:=line63
 rcases hq with hq | hq
 ·obtain ⟨its,r',pl,hz⟩:=I.list hq
  have hlen:=r'.length
  exact Calls.call_len_list pl.isList (by simp only [List.size_toArray] <;> omega) ⟨.int ys.length,H,I.tok _,⟨s.toks+1,by rw [List.size_toArray,hlen]⟩,q⟩
 ·obtain ⟨its,r',pl,hz⟩:=I.tuple hq
  have hlen:=r'.length
  exact len_tuple pl (by simp only [List.size_toArray] <;> omega) ⟨.int ys.length,H,I.tok _,⟨s.toks+1,by rw [List.size_toArray,hlen]⟩,q⟩
theorem call_tuple_of:CallR X (.type "tuple") (fun xs H Q=>∃p ys,xs=[.ref p]∧((SqL X.K H p ys∧∀l,H l=none→Q (.ref l) (upd H l (.tup ys)))∨(SqT X.K H p ys∧Q (.ref p) H))):=by
 intro pins s σ H xs us Q I r h
 obtain ⟨p,ys,rfl,h⟩:=h
 obtain ⟨u,rfl,rx⟩:=vals1 r
 cases rx
 rcases h with ⟨hq,q⟩ | ⟨hq,q⟩
 ·obtain ⟨its,r',pl,hz⟩:=I.list hq
  have hlen:=r'.length
  refine call_tuple_list pl.isList (fun h' kp=>?_) (by simp only [List.size_toArray] <;> omega)
  have I1:Inv X pins σ H { s with heap:=h' }:=I.kept (t':=s.toks) kp
  have I2:Inv X pins σ (upd H h'.objs.size (.tup ys)) { s with heap:=h'.push { cls:=.type "tuple",data:=.seq its.toArray } }:=
   I1.laid (t':=s.toks) (fun b o e=>Heap.get?_push_of_some _ e) (Nat.le_refl _) (show ObjOk X.prog X.w _ _ _ (.tup ys) from ⟨hz,its,r',IsTup.new _ _⟩)
  exact ⟨.ref h'.objs.size,_,I2,rfl,q _ (I1.hok.fresh (Nat.le_refl _))⟩
 ·obtain ⟨its,r',pl,hz⟩:=I.tuple hq
  exact call_tuple_same pl ⟨.ref p,H,I,rfl,q⟩
noncomputable def tyV (K:PySem.W.Frag) (T:String) (x:V) (H:Hp):Prop:=match x with
 | .str _=>T = "str"
 | .int _=>T = "int"
 | .ref p=>(T = "list"∧∃xs,SqL K H p xs)∨(T = "tuple"∧∃o,K.lookup p=some o∧o.cls=.type "tuple"∧o.dict=none)∨
   (T = "dict"∧((∃kvs,H p=some (.dK kvs))∨∃kvs,H p=some (.dT kvs)))∨(T = "set"∧∃S n,H p=some (.set S n))
 | _=>False
theorem tyV_is {pins:List (Addr×Obj)} {σ:St} {H:Hp} {s:Shared} {T:String} {x:V} {v:Value} (I:Inv X pins σ H s) (r:RelV x v) (ty:tyV X.K T x H) :
  s.TypeIs v T∧∀a,v=.ref a→∃ob,s.heap.get? a=some ob∧ob.dict=none:=by
 cases x with
 | str z=>
  obtain ⟨t,rfl⟩:=r
  cases (show T = "str" from ty)
  exact ⟨typeIs_str s z t,fun _ e=>nomatch e⟩
 | int i=>
  obtain ⟨t,rfl⟩:=r
  cases (show T = "int" from ty)
  exact ⟨typeIs_int s i t,fun _ e=>nomatch e⟩
 | ref p=>
  cases r
  rcases ty with ⟨rfl,xs,hq⟩ | ⟨rfl,o,hk,hc,hd⟩ | ⟨rfl,hk⟩ | ⟨rfl,S,n,hk⟩
  ·obtain ⟨its,_,pl,_⟩:=I.list hq
   refine ⟨pl.isList.typeIs,fun a e=>?_⟩
   cases e
   obtain ⟨o,n,e,c,hd,_⟩:=pl
   exact ⟨o,e,hd⟩
  ·refine ⟨⟨o,I.kIn p o hk,hc⟩,fun a e=>?_⟩
   cases e
   exact ⟨o,I.kIn _ o hk,hd⟩
  ·have z:∃o,s.heap.get? p=some o∧o.ExactDict:=by
    rcases hk with ⟨kvs,hk⟩ | ⟨kvs,hk⟩
    ·obtain ⟨_,_,_,_,o,_,_,e,ex,_⟩:=I.hok p _ hk
     exact ⟨o,e,ex⟩
    ·obtain ⟨_,_,_,_,o,_,_,e,ex,_⟩:=I.hok p _ hk
     exact ⟨o,e,ex⟩
   obtain ⟨o,e,ex⟩:=z
   refine ⟨⟨o,e,ex.1⟩,fun a e2=>?_⟩
   cases e2
   exact ⟨o,e,ex.2.1⟩
  ·obtain ⟨o,_,_,_,e,ex,_⟩:=I.hok p _ hk
   refine ⟨⟨o,e,ex.1⟩,fun a e2=>?_⟩
   cases e2
   exact ⟨o,e,ex.2.1⟩
 | _=>exact False.elim ty
noncomputable def tBM (K:PySem.W.Frag) (T:String) (r:V→List V→Hp→VK→Prop) (to:TE) (t:TA):TE:=fun σ H Q=>to σ H fun x H1=>tyV K T x H1∧t σ H1 fun xs H2=>r x xs H2 Q
variable {o e:Expr} {es:List Expr} {to:TE} {t:TA} {name:Str} {apos cpos:Pos} {T id:String} {r:V→List V→Hp→VK→Prop}
theorem pe_bm (pa:PlainAttrs T) (slot:Slot T name id) (hty:typeOf (.builtin id)=pure (.type "method_descriptor")) (hm:MtR X id r) (ho:PE X o to) (ha:PA X (e::es) t)
  (hbase:attributeBase o name X.env (eval o X.env)=eval o X.env:=by rfl)
  (hfew:((backTo cpos (starEach (e::es) X.env)).all (fun x=>!x.1)&&(backToKw cpos (keywordEach [] X.env)).all (fun x=>x.1.isSome)
   && decide ((e::es).length+([]:List Keyword).length+(if ([]:List Keyword).isEmpty then 0 else 1)<30))=true:=by rfl)
  (hline:(apos.endLine==cpos.line)=true:=by rfl) (hs:starEach (e::es) X.env=(false,eval e X.env)::starEach es X.env:=by rfl) (hplain:(backTo cpos (starEach es X.env)).any (·.1)=false:=by rfl) :
  PE X (.Call (.Attribute o name apos) (e::es) [] cpos) (tBM X.K T r to t):=by
 intro pins s σ H Q I h
 refine wpAny_Call_method_late hbase hfew hline rfl (thn (ho pins s σ H _ I h) fun v s1 ⟨x,H1,I1,r1,ty,q1⟩=>?_)
 obtain ⟨h1,h2⟩:=tyV_is I1 r1 ty
 refine ⟨T,id,pa,slot,hty,h1,h2,?_⟩
 have hA:=ha cpos pins s1 σ H1 _ I1 q1
 rw [hs] at hA ⊢
 refine Calls.callWith_builtin (by show (false||(backTo cpos (starEach es X.env)).any (·.1))=false;rw [hplain] <;> rfl) (Calls.evalArgs_plain ?_)
 exact thn hA fun us s2 ⟨vs,H2,I2,r2,q2⟩=>hm pins s2 σ H2 x vs v us Q I2 r1 r2 q2
end
end L2
namespace L2
open PySem PySem.Spec PyProof.Rows
noncomputable def MtM (X:Cx) (id:String) (r:V→List V→Hp→VK→Prop):Prop:=
 ∀(pins:List (Addr×Obj)) (s:Shared) (σ:St) (H:Hp) (x:V) (xs:List V) (v:Value) (us:List Value) (Q:VK),Inv X pins σ H s→RelV x v→Vals xs us→r x xs H Q→
  wpAny (model X.prog X.w) X.A (call (.builtin id) (v::us)) (EP X pins σ Q) X.xe s
theorem Vals.one:∀{x:V} {us:List Value},Vals [x] us→∃u,us=[u]∧RelV x u
 | _,_,.cons r .nil=>⟨_,rfl,r⟩
theorem Vals.two:∀{x y:V} {us:List Value},Vals [x,y] us→∃u v,us=[u,v]∧RelV x u∧RelV y v
 | _,_,_,.cons r (.cons q .nil)=>⟨_,_,rfl,r,q⟩
theorem Vals.eraseIdx:∀{xs:List V} {us:List Value} (i:Nat),Vals xs us→Vals (xs.eraseIdx i) (us.eraseIdx i)
 | _,_,_,.nil=>.nil
 | _,_,0,.cons _ t=>t
 | _,_,i+1,.cons r t=>.cons r (Vals.eraseIdx i t)
theorem len_erase {α:Type}:∀(l:List α) (i:Nat),(l.eraseIdx i).length≤l.length
 | [],_=>Nat.le_refl _
 | _::_,0=>Nat.le_succ _
 | _::r,i+1=>Nat.succ_le_succ (len_erase r i)
section
variable {X:Cx} {pins:List (Addr×Obj)} {σ:St} {H:Hp} {s:Shared} {l b:Addr} {xs ys zs:List V}
theorem Inv.lset {its its':List Value} {n:Nat} {f:Array Value→Array Value} {t':Nat} (I:Inv X pins σ H s) (hH:H l=some (.lst xs))
  (e:s.heap.get? l=some { cls:=.type "list",data:=.seq its.toArray n }) (hf:f its.toArray=its'.toArray) (hv:Vals ys its') (hz:ys.length≤sizeLine) :
  Inv X pins σ (upd H l (.lst ys)) { s with heap:=s.heap.update l (Obj.mapSeq f),toks:=t' }:=by
 have q:=PySem.IsL.update e f
 rw [hf] at q
 refine I.write (x:=l) (e:=l) (by rw [hH];exact trivial) (.inl rfl) (fun b' u hb hu=>(Heap.get?_update_other s.heap (Obj.mapSeq f) (Ne.symm hb)).trans hu) ⟨_,q⟩ ?_
 exact ⟨hz,its',_,hv,q⟩
theorem Inv.lnew {its:List Value} {t':Nat} (I:Inv X pins σ H s) (hv:Vals ys its) (hz:ys.length≤sizeLine) :
  Inv X pins σ (upd H s.heap.objs.size (.lst ys)) { s with heap:=s.heap.push { cls:=.type "list",data:=.seq its.toArray },toks:=t' }:=
 I.laid (fun _ _ q=>Heap.get?_push_of_some _ q) (Nat.le_refl _) ⟨hz,its,0,hv,Heap.get?_push_size _ rfl⟩
theorem Inv.fresh (I:Inv X pins σ H s):H s.heap.objs.size=none:=I.hok.fresh (Nat.le_refl _)
theorem Inv.lstM (I:Inv X pins σ H s) (hH:H l=some (.lst xs)):xs.length≤sizeLine∧∃(its:List Value) (n:Nat),Vals xs its∧xs.length=its.length∧s.heap.get? l=some { cls:=.type "list",data:=.seq its.toArray n }:=by
 obtain ⟨z,its,n,r,e⟩:=I.hok l _ hH
 exact ⟨z,its,n,r,r.length,e⟩
end
section
variable {X:Cx}
noncomputable def rAppend:V→List V→Hp→VK→Prop:=fun x vs H Q=>∃l xs y,x=.ref l∧vs=[y]∧H l=some (.lst xs)∧xs.length<sizeLine∧Q .non (upd H l (.lst (xs ++ [y])))
theorem mt_append:MtM X "list.append" rAppend:=by
 intro pins s σ H x vs v us Q I rx rv h
 obtain ⟨l,xs,y,rfl,rfl,hH,hz,q⟩:=h
 cases rx
 obtain ⟨u,rfl,ru⟩:=rv.one
 obtain ⟨z,its,n,r,hl,e⟩:=I.lstM hH
 refine call_meets F.slot_list_append ⟨_,e,rfl⟩ F.entry_list_append (F.args_list_append_2 _ _) (PySem.list_append l its.toArray n u (by rw [List.size_toArray];omega)) ⟨e,?_⟩
 refine ⟨.non,_,I.lset (its':=its ++ [u]) hH e (by simp) (r.append (.cons ru .nil)) ?_,rfl,q⟩
 rw [List.length_append,List.length_singleton]
 omega
noncomputable def rPopAt:V→List V→Hp→VK→Prop:=fun x vs H Q=>∃l xs i k y,x=.ref l∧vs=[.int i]∧H l=some (.lst xs)∧-(2 ^ 63)≤i∧i<2 ^ 63∧seqIndex? i xs.length=some k∧xs[k]?=some y∧Q y (upd H l (.lst (xs.eraseIdx k)))
theorem mt_popAt:MtM X "list.pop" rPopAt:=by
 intro pins s σ H x vs v us Q I rx rv h
 obtain ⟨l,xs,i,k,y,rfl,rfl,hH,h1,h2,hk,hy,q⟩:=h
 cases rx
 obtain ⟨u,rfl,ru⟩:=rv.one
 obtain ⟨t,rfl⟩:=ru
 obtain ⟨z,its,n,r,hl,e⟩:=I.lstM hH
 obtain ⟨w,hw,rw'⟩:=r.get hy
 refine call_meets F.slot_list_pop ⟨_,e,rfl⟩ F.entry_list_pop (F.args_list_pop_2 _ _)
  (MeetsSeq.list_pop_at l its.toArray n i t k w (fitsIndex_both h1 h2) (by rw [List.size_toArray,←hl];exact hk) (by rw [←Array.getElem?_toList];exact hw) (by rw [List.size_toArray];omega)) ⟨e,?_⟩
 refine ⟨y,_,I.lset (its':=its.eraseIdx k) hH e ?_ (r.eraseIdx k) ?_,rw',q⟩
 ·show its.toArray.eraseIdxIfInBounds k=(its.eraseIdx k).toArray
  rw [List.eraseIdxIfInBounds_toArray]
 ·have:=len_erase xs k
  omega
noncomputable def rCat:R2:=fun x y H Q=>∃l b xs zs,x=.ref l∧y=.ref b∧H l=some (.lst xs)∧H b=some (.lst zs)∧xs.length+zs.length≤sizeLine∧∀p,H p=none→Q (.ref p) (upd H p (.lst (xs++zs)))
theorem op_cat:OpR X (binaryOp .Add) rCat:=by
 intro pins s σ H x y v u Q I rx ry h
 obtain ⟨l,b,xs,zs,rfl,rfl,hH,hB,hz,q⟩:=h
 cases rx
 cases ry
 obtain ⟨z,its,n,r,hl,e⟩:=I.lstM hH
 obtain ⟨z2,its2,n2,r2,hl2,e2⟩:=I.lstM hB
 refine PySem.P.add_list e e2 ?_ (by rw [List.size_toArray,List.size_toArray];omega)
 have ea:its.toArray++its2.toArray=(its++its2).toArray:=by simp
 rw [ea]
 exact ⟨.ref _,_,I.lnew (t':=s.toks) (r.append r2) (by rw [List.length_append];omega),rfl,q _ I.fresh⟩
end
section
variable {prog:Program} {w:World} {A:Around} {E:Value→Shared→Prop} {s:Shared}
end
section
variable {X:Cx}
end
end L2
namespace L2
open PySem PySem.Spec PyProof.Rows
section
variable {κ:Type} [DecidableEq κ]
noncomputable def valV (kvs:List (κ×V)) (k:κ):Option V:=(kvs.find? fun kv=>decide (kv.1=k)).map (·.2)
noncomputable def putK (kvs:List (κ×V)) (k:κ) (v:V):List (κ×V):=
 if (kvs.any fun kv=>decide (kv.1=k))=true then kvs.map (fun kv=>if kv.1=k then (kv.1,v) else kv) else kvs ++ [(k,v)]
theorem valV_pos {p:κ×V} {r:List (κ×V)} {k:κ} (e:p.1=k):valV (p::r) k=some p.2:=by simp [valV,List.find?_cons,e]
theorem valV_neg {p:κ×V} {r:List (κ×V)} {k:κ} (e:¬p.1=k):valV (p::r) k=valV r k:=by simp [valV,List.find?_cons,e]
theorem valV_any (k:κ):∀kvs:List (κ×V),(kvs.any fun kv=>decide (kv.1=k))=(valV kvs k).isSome
 | []=>rfl
 | p::r=>by
  rw [List.any_cons]
  by_cases e:p.1=k
  ·simp only [valV_pos e,decide_eq_true e,Bool.true_or,Option.isSome_some]
  ·rw [valV_neg e,decide_eq_false e,Bool.false_or];exact valV_any k r
theorem valV_map (k j:κ) (y:V):∀kvs:List (κ×V),valV (kvs.map fun kv=>if kv.1=k then (kv.1,y) else kv) j=(valV kvs j).map fun x=>if j=k then y else x
 | []=>rfl
 | p::r=>by
  have ih:=valV_map k j y r
  rw [List.map_cons]
  by_cases h:p.1=k
  ·rw [if_pos h]
   by_cases e:p.1=j
   ·rw [valV_pos (p:=(p.1,y)) e,valV_pos e,Option.map_some,if_pos (e.symm.trans h)]
   ·rw [valV_neg (p:=(p.1,y)) e,valV_neg e,ih]
  ·rw [if_neg h]
   by_cases e:p.1=j
   ·rw [valV_pos (p:=p) e,valV_pos e,Option.map_some,if_neg (fun z=>h (e.trans z))]
   ·rw [valV_neg (p:=p) e,valV_neg e,ih]
theorem valV_snoc (k j:κ) (y:V):∀kvs:List (κ×V),valV kvs k=none→valV (kvs ++ [(k,y)]) j=if j=k then some y else valV kvs j
 | [],_=>by
  by_cases e:k=j
  ·rw [if_pos e.symm];exact valV_pos (p:=(k,y)) e
  ·rw [if_neg (fun z=>e z.symm)];exact valV_neg (p:=(k,y)) e
 | p::r,hn=>by
  rw [List.cons_append]
  have hk:¬p.1=k:=fun z=>by rw [valV_pos z] at hn;cases hn
  rw [valV_neg hk] at hn
  have ih:=valV_snoc k j y r hn
  by_cases e:p.1=j
  ·rw [valV_pos e,valV_pos e,if_neg (fun z=>hk (e.trans z))]
  ·rw [valV_neg e,valV_neg e,ih]
theorem valV_put (kvs:List (κ×V)) (k j:κ) (y:V):valV (putK kvs k y) j=if j=k then some y else valV kvs j:=by
 unfold putK
 by_cases a:(kvs.any fun kv=>decide (kv.1=k))=true
 ·rw [if_pos a,valV_map]
  rw [valV_any] at a
  by_cases e:j=k
  ·obtain ⟨x,hx⟩:=Option.isSome_iff_exists.mp a
   rw [if_pos e,e,hx,Option.map_some,if_pos rfl]
  ·rw [if_neg e]
   cases valV kvs j with
   | none=>rfl
   | some x=>rw [Option.map_some,if_neg e]
 ·rw [if_neg a]
  refine valV_snoc k j y kvs ?_
  rw [valV_any] at a
  cases q:valV kvs k with
  | none=>rfl
  | some x=>rw [q] at a;exact (a rfl).elim
theorem length_putK (kvs:List (κ×V)) (k:κ) (v:V):(putK kvs k v).length≤kvs.length+1:=by
 unfold putK
 split
 ·rw [List.length_map];omega
 ·rw [List.length_append,List.length_cons,List.length_nil];omega
theorem putK_new {kvs:List (κ×V)} {k:κ} (v:V) (h:valV kvs k=none):putK kvs k v=kvs ++ [(k,v)]:=by
 unfold putK
 rw [valV_any,h]
 exact if_neg (by decide)
theorem RelO.isSome_eq {o:Option V} {u:Option Value} (r:RelO o u):o.isSome=u.isSome:=by
 cases o with
 | none=>cases u with
  | none=>rfl
  | some _=>exact (show False from r).elim
 | some _=>cases u with
  | none=>exact (show False from r).elim
  | some _=>rfl
theorem KV.val {kvs:List (κ×V)} {vs:List (κ×Value)} (r:KV kvs vs) (k:κ):RelO (valV kvs k) (valueAt vs k):=by
 unfold KV at r
 induction r with
 | nil=>exact True.intro
 | @cons p q ps qs h t ih=>
  obtain ⟨h1,h2⟩:=h
  by_cases e:p.1=k
  ·have e':q.1=k:=h1.symm.trans e
   have b:valueAt (q::qs) k=some q.2:=by simp [valueAt,List.find?_cons,e']
   rw [valV_pos e,b];exact h2
  ·have e':¬q.1=k:=fun z=>e (h1.trans z)
   have b:valueAt (q::qs) k=valueAt qs k:=by simp [valueAt,List.find?_cons,e']
   rw [valV_neg e,b];exact ih
theorem KV.any {kvs:List (κ×V)} {vs:List (κ×Value)} (r:KV kvs vs) (k:κ):(kvs.any fun kv=>decide (kv.1=k))=vs.any fun kv=>decide (kv.1=k):=by
 unfold KV at r
 induction r with
 | nil=>rfl
 | cons h t ih=>rw [List.any_cons,List.any_cons,ih,h.1]
theorem KV.repl {kvs:List (κ×V)} {vs:List (κ×Value)} (r:KV kvs vs) (k:κ) {y:V} {u:Value} (ry:RelV y u) :
  KV (kvs.map fun kv=>if kv.1=k then (kv.1,y) else kv) (vs.map fun kv=>if kv.1=k then (kv.1,u) else kv):=by
 unfold KV at r ⊢
 induction r with
 | nil=>exact .nil
 | @cons p q ps qs h t ih=>
  rw [List.map_cons,List.map_cons]
  refine .cons ?_ ih
  obtain ⟨h1,h2⟩:=h
  by_cases e:p.1=k
  ·rw [if_pos e,if_pos (h1.symm.trans e)];exact ⟨h1,ry⟩
  ·rw [if_neg e,if_neg (fun z=>e (h1.trans z))];exact ⟨h1,h2⟩
theorem KV.put {kvs:List (κ×V)} {vs:List (κ×Value)} (r:KV kvs vs) (k:κ) {y:V} {u:Value} (ry:RelV y u):KV (putK kvs k y) (stored vs k u):=by
 unfold putK stored
 rw [r.any k]
 by_cases e:(vs.any fun kv=>decide (kv.1=k))=true
 ·rw [if_pos e,if_pos e];exact r.repl k ry
 ·rw [if_neg e,if_neg e];exact Paired.snoc r ⟨rfl,ry⟩
theorem KV.length {kvs:List (κ×V)} {vs:List (κ×Value)} (r:KV kvs vs):kvs.length=vs.length:=Paired.length r
end
theorem kV_is {P:Program} {w:World} {k:Key} {u:Value} (r:RelV (kV k) u):(mixKind P w).is k u=true:=by
 cases k with
 | inl i=>obtain ⟨t,e⟩:=(show ∃t,u=Value.int i t from r);subst e;exact mixKind_int P w i t
 | inr x=>obtain ⟨t,e⟩:=(show ∃t,u=Value.str x t from r);subst e;exact mixKind_str P w x t
theorem items_are {P:Program} {w:World}:∀{ks:List Key} {us:List Value},Vals (ks.map kV) us→ItemsAre (mixKind P w) ks us
 | [],_,r=>by rw [List.map_nil] at r;cases r;exact .nil
 | k::ks,_,r=>by
  rw [List.map_cons] at r
  cases r with
  | cons h t=>exact .cons (kV_is h) (items_are t)
noncomputable abbrev KT (H:Hp):List (List Key×V)→List (List Key×Addr×Value)→Prop:=Paired fun p q=>p.1=q.1∧H q.2.1=some (.tup (p.1.map kV))∧RelV p.2 q.2.2
theorem KT.val {H:Hp} {kvs:List (List Key×V)} {xs:List (List Key×Addr×Value)} (r:KT H kvs xs) (k:List Key):RelO (valV kvs k) ((atKey xs k).map (·.2)):=by
 induction r with
 | nil=>exact True.intro
 | @cons p q ps qs h t ih=>
  obtain ⟨h1,_,h2⟩:=h
  by_cases e:p.1=k
  ·have e':q.1=k:=h1.symm.trans e
   have b:atKey (q::qs) k=some q.2:=by simp [atKey,List.find?_cons,e']
   rw [valV_pos e,b];exact h2
  ·have e':¬q.1=k:=fun z=>e (h1.trans z)
   have b:atKey (q::qs) k=atKey qs k:=by simp [atKey,List.find?_cons,e']
   rw [valV_neg e,b];exact ih
theorem KT.repl {H:Hp} {kvs:List (List Key×V)} {xs:List (List Key×Addr×Value)} (r:KT H kvs xs) (k:List Key) {y:V} {u:Value} (ry:RelV y u) :
  KT H (kvs.map fun kv=>if kv.1=k then (kv.1,y) else kv) (xs.map (putAt k u)):=by
 induction r with
 | nil=>exact .nil
 | @cons p q ps qs h t ih=>
  rw [List.map_cons,List.map_cons]
  refine .cons ?_ ih
  obtain ⟨h1,h2,h3⟩:=h
  unfold putAt
  by_cases e:p.1=k
  ·rw [if_pos e,if_pos (h1.symm.trans e)];exact ⟨h1,h2,ry⟩
  ·rw [if_neg e,if_neg (fun z=>e (h1.trans z))];exact ⟨h1,h2,h3⟩
theorem KT.put {H:Hp} {kvs:List (List Key×V)} {xs:List (List Key×Addr×Value)} (r:KT H kvs xs) (k:List Key) {b:Addr} {y:V} {u:Value} (hb:H b=some (.tup (k.map kV))) (ry:RelV y u) :
  KT H (putK kvs k y) (storedH xs k b u):=by
 have e:(kvs.any fun kv=>decide (kv.1=k))=(atKey xs k).isSome:=by
  rw [valV_any,(r.val k).isSome_eq,Option.isSome_map]
 unfold putK storedH
 rw [e]
 by_cases q:(atKey xs k).isSome=true
 ·rw [if_pos q,if_pos q];exact r.repl k ry
 ·rw [if_neg q,if_neg q];exact Paired.snoc r ⟨rfl,hb,ry⟩
theorem KT.keeps {H H':Hp} {kvs:List (List Key×V)} {xs:List (List Key×Addr×Value)} (r:KT H kvs xs) (ht:∀b ys,H b=some (.tup ys)→H' b=some (.tup ys)):KT H' kvs xs:=
 Paired.mapP r fun _ _ z=>⟨z.1,ht _ _ z.2.1,z.2.2⟩
section
variable {P:Program} {w:World} {H:Hp} {h:Heap} {a:Addr}
theorem rd_of {u:HO} (ok:HOk P w H h) (e:Rd H a u):ObjOk P w H h a u:=e.ok ok
theorem dk_rd {kvs:List (Key×V)} (ok:HOk P w H h) (e:Rd H a (.dK kvs)):kvs.length≤sizeLine∧(a==sysModules)=false∧∃vs,KV kvs vs∧h.DictOf (mixKind P w) a vs:=
 show ObjOk P w H h a (.dK kvs) from rd_of ok e
theorem dk_of {kvs:List (Key×V)} (ok:HOk P w H h) (e:H a=some (.dK kvs)):kvs.length≤sizeLine∧(a==sysModules)=false∧∃vs,KV kvs vs∧h.DictOf (mixKind P w) a vs:=dk_rd ok (.inl e)
theorem key_of {ks:List Key} (ok:HOk P w H h) (e:H a=some (.tup (ks.map kV))):(tupleKind (mixKind P w)).is h ks a:=by
 obtain ⟨_,its,r,o,h1,h2,n,h3⟩:=(show ObjOk P w H h a (.tup (ks.map kV)) from ok a _ e)
 exact ⟨o,its.toArray,n,h1,h2,h3,by simpa using items_are r⟩
theorem dt_rd {kvs:List (List Key×V)} (ok:HOk P w H h) (e:Rd H a (.dT kvs)):kvs.length≤sizeLine∧(a==sysModules)=false∧
  ∃xs,KT H kvs xs∧h.DictOfH (tupleKind (mixKind P w)) a xs:=by
 obtain ⟨z,y,xs,r,o,es,ep,h1,h2,h3,h4,h5⟩:=(show ObjOk P w H h a (.dT kvs) from rd_of ok e)
 refine ⟨z,y,xs,r,o,es,ep,h1,h2,h3,h4,fun x hx=>?_,h5⟩
 have all:∀{l:List (List Key×V)} {m:List (List Key×Addr×Value)},KT H l m→∀x∈m,(tupleKind (mixKind P w)).is h x.1 x.2.1:=by
  intro l m q
  induction q with
  | nil=>intro x hx;exact nomatch hx
  | @cons p q ps qs hq t ih=>
   intro x hx
   rcases List.mem_cons.mp hx with e | hx
   ·subst e
    exact key_of ok (by rw [←hq.1];exact hq.2.1)
   ·exact ih x hx
 exact all r x hx
theorem dt_of {kvs:List (List Key×V)} (ok:HOk P w H h) (e:H a=some (.dT kvs)):kvs.length≤sizeLine∧(a==sysModules)=false∧
  ∃xs,KT H kvs xs∧h.DictOfH (tupleKind (mixKind P w)) a xs:=dt_rd ok (.inl e)
end
noncomputable def DGet (H:Hp) (a:Addr) (y:V) (r:Option V):Prop:=
 (∃kvs k,Rd H a (.dK kvs)∧y=kV k∧r=valV kvs k)∨∃kvs k b,Rd H a (.dT kvs)∧y=.ref b∧H b=some (.tup (k.map kV))∧r=valV kvs k
noncomputable def DPut (H:Hp) (a:Addr) (y v:V) (H':Hp):Prop:=
 (∃kvs k,H a=some (.dK kvs)∧y=kV k∧kvs.length<sizeLine∧H'=upd H a (.dK (putK kvs k v)))∨
 ∃kvs k b,H a=some (.dT kvs)∧y=.ref b∧H b=some (.tup (k.map kV))∧kvs.length<sizeLine∧H'=upd H a (.dT (putK kvs k v))
theorem DGet.k {H:Hp} {a:Addr} {kvs:List (Key×V)} {k:Key} (e:H a=some (.dK kvs)):DGet H a (kV k) (valV kvs k):=.inl ⟨kvs,k,.inl e,rfl,rfl⟩
theorem DGet.t {H:Hp} {a b:Addr} {kvs:List (List Key×V)} {k:List Key} (e:H a=some (.dT kvs)) (eb:H b=some (.tup (k.map kV))):DGet H a (.ref b) (valV kvs k):=.inr ⟨kvs,k,b,.inl e,rfl,eb,rfl⟩
theorem DPut.k {H:Hp} {a:Addr} {kvs:List (Key×V)} {k:Key} {v:V} (e:H a=some (.dK kvs)) (hl:kvs.length<sizeLine):DPut H a (kV k) v (upd H a (.dK (putK kvs k v))):=.inl ⟨kvs,k,e,rfl,hl,rfl⟩
theorem DPut.t {H:Hp} {a b:Addr} {kvs:List (List Key×V)} {k:List Key} {v:V} (e:H a=some (.dT kvs)) (eb:H b=some (.tup (k.map kV))) (hl:kvs.length<sizeLine) :
  DPut H a (.ref b) v (upd H a (.dT (putK kvs k v))):=.inr ⟨kvs,k,b,e,rfl,eb,hl,rfl⟩
section
variable {X:Cx} {pins:List (Addr×Obj)} {σ:St} {H:Hp} {s:Shared} {a:Addr} {y v:V} {u r:Value} {o:Option V} {A:Around} {E:Value→Shared→Prop}
theorem Inv.big (I:Inv X pins σ H s):sysModules<s.heap.objs.size:=by
 have h:mainGlobals<s.heap.objs.size:=(I.mod.glob.keeps I.bk).lt
 exact Nat.lt_trans (by decide) h
theorem d_getItem {Q:Value→Shared→Prop} (hu:A.units+1<cLine) (I:Inv X pins σ H s) (g:DGet H a y (some v)) (ry:RelV y u) (h:∀w' s',Inv X pins σ H s'→RelV v w'→Q w' s') :
  wpAny (model X.prog X.w) A (getItem (.ref a) u) Q E s:=by
 rcases g with ⟨kvs,k,e,ey,l⟩ | ⟨kvs,k,b,e,ey,eb,l⟩
 ·subst ey
  obtain ⟨z,hd,vs,rel,dd⟩:=dk_rd I.hok e
  obtain ⟨w',hw,rw'⟩:=RelO.some_of (v:=v) (o:=valueAt vs k) (by rw [l];exact rel.val k)
  exact wpAny_getItem_of (kV_is ry) dd.mapOf hw (h w' _ (I.tok _) rw')
 ·subst ey
  cases (show u=Value.ref b from ry)
  obtain ⟨z,hd,xs,rel,dd⟩:=dt_rd I.hok e
  obtain ⟨w',hw,rw'⟩:=RelO.some_of (v:=v) (o:=(atKey xs k).map (·.2)) (by rw [l];exact rel.val k)
  obtain ⟨p,hp,hp2⟩:=Option.map_eq_some_iff.mp hw
  refine wpAny_getItem_heap (tupleKind_room_in1 hu) (key_of I.hok eb) dd hp ?_
  rw [hp2]
  exact h w' _ (I.tok _) rw'
theorem d_in {Q:Value→Shared→Prop} (hu:A.units+1<cLine) (I:Inv X pins σ H s) (g:DGet H a y o) (ry:RelV y u) (h:∀s',Inv X pins σ H s'→Q (.bool o.isSome) s') :
  wpAny (model X.prog X.w) A (compareOp .In u (.ref a)) Q E s:=by
 rcases g with ⟨kvs,k,e,ey,l⟩ | ⟨kvs,k,b,e,ey,eb,l⟩
 ·subst ey
  obtain ⟨z,hd,vs,rel,dd⟩:=dk_rd I.hok e
  refine wpAny_in_of (kV_is ry) hd dd.mapOf ?_
  rw [←(rel.val k).isSome_eq,←l]
  exact h _ (I.tok _)
 ·subst ey
  cases (show u=Value.ref b from ry)
  obtain ⟨z,hd,xs,rel,dd⟩:=dt_rd I.hok e
  refine wpAny_in_heap (tupleKind_room_in1 hu) (key_of I.hok eb) hd dd ?_
  have q:=(rel.val k).isSome_eq
  rw [Option.isSome_map] at q
  rw [←q,←l]
  exact h _ (I.tok _)
theorem d_notIn {Q:Value→Shared→Prop} (hu:A.units+1<cLine) (I:Inv X pins σ H s) (g:DGet H a y o) (ry:RelV y u) (h:∀s',Inv X pins σ H s'→Q (.bool (!o.isSome)) s') :
  wpAny (model X.prog X.w) A (compareOp .NotIn u (.ref a)) Q E s:=by
 rcases g with ⟨kvs,k,e,ey,l⟩ | ⟨kvs,k,b,e,ey,eb,l⟩
 ·subst ey
  obtain ⟨z,hd,vs,rel,dd⟩:=dk_rd I.hok e
  refine wpAny_notIn_of (kV_is ry) hd dd.mapOf ?_
  rw [←(rel.val k).isSome_eq,←l]
  exact h _ (I.tok _)
 ·subst ey
  cases (show u=Value.ref b from ry)
  obtain ⟨z,hd,xs,rel,dd⟩:=dt_rd I.hok e
  refine wpAny_notIn_heap (tupleKind_room_in1 hu) (key_of I.hok eb) hd dd ?_
  have q:=(rel.val k).isSome_eq
  rw [Option.isSome_map] at q
  rw [←q,←l]
  exact h _ (I.tok _)
theorem d_write {h':Heap} {t':Nat} {ob:HO} (I:Inv X pins σ H s) (mu:Mut (H a)) (hs:Heap.SameBut a s.heap h') (he:∃q,h'.get? a=some q) (new:ObjOk X.prog X.w (upd H a ob) h' a ob) :
  Inv X pins σ (upd H a ob) { s with heap:=h',toks:=t' }:=
 I.write (x:=a) (e:=a) mu (.inl rfl) (fun b q hb z=>(hs.2 b hb).trans z) he new
theorem dk_new {P:Program} {w:World} {H':Hp} {h':Heap} {kvs:List (Key×V)} {vs:List (Key×Value)} (z:kvs.length≤sizeLine) (hd:(a==sysModules)=false) (rel:KV kvs vs) (dd:h'.DictOf (mixKind P w) a vs) :
  ObjOk P w H' h' a (.dK kvs):=⟨z,hd,vs,rel,dd⟩
theorem d_setItem {H':Hp} {Q:Unit→Shared→Prop} (hu:A.units+1<cLine) (I:Inv X pins σ H s) (g:DPut H a y v H') (ry:RelV y u) (rv:RelV v r) (h:∀s',Inv X pins σ H' s'→Q () s') :
  wpAny (model X.prog X.w) A (setItem (.ref a) u r) Q E s:=by
 rcases g with ⟨kvs,k,e,ey,l,eH⟩ | ⟨kvs,k,b,e,ey,eb,l,eH⟩
 ·subst ey eH
  obtain ⟨z,hd,vs,rel,dd⟩:=dk_of I.hok e
  have hz:vs.length≤sizeLine:=by rw [←rel.length];exact z
  have hl:(putK kvs k v).length≤sizeLine:=by have:=length_putK kvs k v;omega
  refine wpAny_setItem_pairs (hsz:=hz) (kV_is ry) dd fun h' dd' hs=>h _ ?_
  have he:∃q,h'.get? a=some q:=let ⟨q,_,_,hq,_⟩:=dd';⟨q,hq⟩
  exact d_write I (by rw [e];exact True.intro) hs he (dk_new hl hd (rel.put k rv) dd')
 ·subst ey eH
  cases (show u=Value.ref b from ry)
  obtain ⟨z,hd,xs,rel,dd⟩:=dt_of I.hok e
  have hz:xs.length≤sizeLine:=by rw [←Paired.length rel];exact z
  have hl:(putK kvs k v).length≤sizeLine:=by have:=length_putK kvs k v;omega
  refine wpAny_setItem_heap (hsz:=hz) (tupleKind_room_in1 hu) (key_of I.hok eb) dd fun h' dd' hs=>h _ ?_
  obtain ⟨q,es,ep,hq,h2,h3,h4,_,h5⟩:=dd'
  refine d_write I (by rw [e];exact True.intro) hs ⟨q,hq⟩ ⟨hl,hd,_,(rel.put k eb rv).keeps fun c ys ec=>?_,q,es,ep,hq,h2,h3,h4,h5⟩
  rw [upd_ne (ne_of ec e (fun z=>nomatch z))]
  exact ec
end
section
variable {X:Cx} {pins:List (Addr×Obj)} {σ:St} {H:Hp} {s:Shared} {a:Addr} {kvs:List (Key×V)} {k:Key} {u:Value} {A:Around} {E:Value→Shared→Prop}
end
noncomputable def NoSl (i:Expr):Prop:=∀ov iv,subscripted i false ov iv=operate [ov,iv] (getItem ov iv)
theorem subD_of {prog:Program} {w:World} {A:Around} {E:Value→Shared→Prop} {s:Shared} {env:Env} {value slice:Expr} {pos:Pos} {T id:String} {Q:Value→Shared→Prop}
  (hl:typeLookup (.type T) "__getitem__" = pure (some (.builtin id))) (hs:NoSl slice)
  (h:wpAny (model prog w) A (eval value env) (fun o s₁=>wpAny (model prog w) A (eval slice env) (fun i s₂=>s₂.TypeIs o T∧wpAny (model prog w) A (getItem o i) Q E s₂) E s₁) E s) :
  wpAny (model prog w) A (eval (.Subscript value slice pos) env) Q E s:=by
 refine Subscript_ (wpAny_mono h (fun o s₁ h₁=>wpAny_mono h₁ (fun i s₂ h₂=>?_) fun _ _ x=>x) fun _ _ x=>x)
 obtain ⟨hT,h₂⟩:=h₂
 unfold subscriptTail
 refine wpAny_bind ?_
 rw [getitemInPython_of_ne hT.not_modules]
 refine wpAny_bind (wpAny_specialOf hT hl ?_)
 have fin:wpAny (model prog w) A (subscripted slice false o i) (fun r s₃=>wpAny (model prog w) A (letTemporaryGo value o r >>= fun _=>pure r) Q E s₃) E s₂:=by
  rw [hs o i]
  exact wpAny_operating (wpAny_mono h₂ (fun r s₃ h₃=>wpAny_bind (wpAny_letTemporaryGo (wpAny_pure h₃))) fun _ _ x=>x)
 first
  | exact wpAny_pure (wpAny_bind fin)
  | exact wpAny_bind (wpAny_pure (wpAny_bind fin))
  | exact wpAny_bind fin
theorem dict_typeIs {X:Cx} {pins:List (Addr×Obj)} {σ:St} {H:Hp} {s:Shared} {a:Addr} {y:V} {o:Option V} (I:Inv X pins σ H s) (g:DGet H a y o):s.TypeIs (.ref a) "dict":=by
 rcases g with ⟨kvs,k,e,_,_⟩ | ⟨kvs,k,b,e,_,_,_⟩
 ·obtain ⟨_,_,vs,_,dd⟩:=dk_rd I.hok e
  exact dd.typeIs
 ·obtain ⟨_,_,xs,_,dd⟩:=dt_rd I.hok e
  exact dd.typeIs
noncomputable def tDGet (td ty:TE):TE:=fun σ H Q=>td σ H fun x H1=>ty σ H1 fun y H2=>∃a v,x=.ref a∧DGet H2 a y (some v)∧Q v H2
noncomputable def sDPut (td ty tv:TE):TS:=fun D σ H=>tv σ H fun v H1=>td σ H1 fun x H2=>ty σ H2 fun y H3=>∃a H4,x=.ref a∧DPut H3 a y v H4∧D.nx σ H4
section
variable {X:Cx} {o i e value:Expr} {pos pos' tpos:Pos} {td ty tv:TE}
theorem pe_dget (hu:X.A.units+1<cLine) (ho:PE X o td) (hi:PE X i ty) (hs:NoSl i):PE X (.Subscript o i pos) (tDGet td ty):=by
 intro pins s σ H Q I h
 refine subD_of PySem.F.slot_dict_getitem.lookup hs (thn (ho pins s σ H _ I h) fun u s1 ⟨x,H1,I1,rx,q1⟩=>thn (hi pins s1 σ H1 _ I1 q1) fun iv s2 ⟨y,H2,I2,ry,a,v,ex,g,q2⟩=>?_)
 subst ex
 obtain rfl:u=Value.ref a:=rx
 exact ⟨dict_typeIs I2 g,d_getItem hu I2 g ry fun w' s3 I3 rw'=>⟨v,H2,I3,rw',q2⟩⟩
theorem ps_dput (hu:X.A.units+1<cLine) (ho:PE X o td) (hi:PE X i ty) (hv:PE X value tv) (hs:swapsWith value (some (.Subscript o i pos')) pos.line X.env=pure false) :
  PS X (.Assign [.Subscript o i pos'] value pos) (sDPut td ty tv):=by
 intro pins s σ H D I h
 refine wpAny_Assign_Subscript (thn (hv pins s σ H _ I h) fun r s1 ⟨v,H1,I1,rv,q1⟩=>thn (ho pins s1 σ H1 _ I1 q1) fun u s2 ⟨x,H2,I2,rx,q2⟩=>thn (hi pins s2 σ H2 _ I2 q2) fun iv s3 ⟨y,H3,I3,ry,a,H4,ex,g,q3⟩=>?_) hs
 subst ex
 obtain rfl:u=Value.ref a:=rx
 exact d_setItem hu I3 g ry rv fun s4 I4=>⟨σ,H4,I4,q3⟩
end
theorem dk_empty {P:Program} {w:World} {H:Hp} (h:Heap) (hb:sysModules<h.objs.size):ObjOk P w H (h.push { cls:=.type "dict",data:=.dict #[] }) h.objs.size (.dK []):=
 ⟨Nat.zero_le _,beq_eq_false_iff_ne.mpr (Ne.symm (Nat.ne_of_lt hb)),[],.nil,Heap.DictOf.new h⟩
theorem dt_empty {P:Program} {w:World} {H:Hp} (h:Heap) (hb:sysModules<h.objs.size):ObjOk P w H (h.push { cls:=.type "dict",data:=.dict #[] }) h.objs.size (.dT []):=
 ⟨Nat.zero_le _,beq_eq_false_iff_ne.mpr (Ne.symm (Nat.ne_of_lt hb)),[],.nil,_,#[],0,Heap.get?_push_size _ rfl,⟨rfl,rfl,rfl⟩,rfl,rfl,List.nodup_nil⟩
noncomputable def tDNewK:TE:=fun _ H Q=>∀p,H p=none→Q (.ref p) (upd H p (.dK []))
section
variable {X:Cx} {pos:Pos}
theorem pe_dnewK:PE X (.Dict [] [] pos) tDNewK:=fun pins s σ H Q I h=>
 wpAny_Dict_empty ⟨.ref s.heap.objs.size,_,I.laid (a:=s.heap.objs.size) (o:=.dK []) (t':=s.toks) (fun _ _ q=>Heap.get?_push_of_some _ q) (Nat.le_refl _) (dk_empty s.heap I.big),rfl,h _ (I.hok.fresh (Nat.le_refl _))⟩
end
noncomputable def tPairs:List (TE×TE)→St→Hp→(List (V×V)→Hp→Prop)→Prop
 | [],_,H,Q=>Q [] H
 | (tk,tv)::r,σ,H,Q=>tk σ H fun x H1=>tv σ H1 fun y H2=>tPairs r σ H2 fun ps H3=>Q ((x,y)::ps) H3
noncomputable abbrev VV:List (V×V)→List (Value×Value)→Prop:=Paired fun p q=>RelV p.1 q.1∧RelV p.2 q.2
noncomputable def PPs (X:Cx) (pos:Pos) (keys:List (Option Expr)) (values:List Expr) (trs:List (TE×TE)):Prop:=
 ∀(pins:List (Addr×Obj)) (s:Shared) (σ:St) (H:Hp) (Q:List (V×V)→Hp→Prop),Inv X pins σ H s→tPairs trs σ H Q→
  wpAny (model X.prog X.w) X.A (evalPairs (pairTrees keys values X.env pos)) (fun vs s'=>∃ps H',Inv X pins σ H' s'∧VV ps vs∧Q ps H') X.xe s
theorem pps_nil {X:Cx} {pos:Pos}:PPs X pos [] [] []:=fun pins s σ H Q I h=>pairTrees_nil_walk ⟨[],H,I,.nil,h⟩
theorem pps_cons {X:Cx} {pos:Pos} {k v:Expr} {ks:List (Option Expr)} {vs:List Expr} {tk tv:TE} {trs:List (TE×TE)} (hk:PE X k tk) (hv:PE X v tv) (hr:PPs X pos ks vs trs) :
  PPs X pos (some k::ks) (v::vs) ((tk,tv)::trs):=fun pins s σ H Q I h=>
 pairTrees_cons_walk (thn (hk pins s σ H _ I h) fun u s1 ⟨x,H1,I1,rx,q1⟩=>thn (hv pins s1 σ H1 _ I1 q1) fun w2 s2 ⟨y,H2,I2,ry,q2⟩=>
  thn (hr pins s2 σ H2 _ I2 q2) fun ws s3 ⟨ps,H3,I3,rel,q3⟩=>⟨(x,y)::ps,H3,I3,.cons ⟨rx,ry⟩ rel,q3⟩)
noncomputable def mergeK (kvs more:List (Key×V)):List (Key×V):=more.foldl (fun acc kv=>putK acc kv.1 kv.2) kvs
theorem KV.merge:∀{more:List (Key×V)} {rs:List (Key×Value)} {kvs:List (Key×V)} {vs:List (Key×Value)},KV more rs→KV kvs vs→KV (mergeK kvs more) (merged vs rs):=by
 intro more rs kvs vs r
 unfold KV at r
 induction r generalizing kvs vs with
 | nil=>intro q;exact q
 | @cons p q ps qs h t ih=>
  intro r0
  have e:KV (putK kvs p.1 p.2) (stored vs q.1 q.2):=by
   have:=r0.put p.1 h.2
   rw [←h.1];exact this
  exact ih e
theorem length_mergeK:∀(more kvs:List (Key×V)),(mergeK kvs more).length≤kvs.length+more.length
 | [],kvs=>by show kvs.length≤kvs.length+0;omega
 | p::r,kvs=>by
  have h1:=length_mergeK r (putK kvs p.1 p.2)
  have h2:=length_putK kvs p.1 p.2
  show (mergeK (putK kvs p.1 p.2) r).length≤_
  rw [List.length_cons];omega
theorem carries_of {P:Program} {w:World}:∀{kvs:List (Key×V)} {ws:List (Value×Value)},VV (kvs.map fun kv=>(kV kv.1,kv.2)) ws→∃rs,Carries (mixKind P w) ws rs∧KV kvs rs
 | [],_,r=>by rw [List.map_nil] at r;cases r;exact ⟨[],True.intro,.nil⟩
 | p::kvs,_,r=>by
  rw [List.map_cons] at r
  cases r with
  | @cons a b as bs h t=>
   obtain ⟨rs,c,q⟩:=carries_of (P:=P) (w:=w) t
   obtain ⟨b1,b2⟩:=b
   exact ⟨(p.1,b2)::rs,⟨kV_is h.1,rfl,c⟩,.cons ⟨rfl,h.2⟩ q⟩
noncomputable def tDisp (trs:List (TE×TE)):TE:=fun σ H Q=>∀p,H p=none→tPairs trs σ (upd H p (.dK [])) fun ps H2=>H2 p=some (.dK [])∧∃kvs:List (Key×V),ps=kvs.map (fun kv=>(kV kv.1,kv.2))∧kvs.length≤15∧Q (.ref p) (upd H2 p (.dK (mergeK [] kvs)))
theorem pe_disp {X:Cx} {pos:Pos} {keys:List (Option Expr)} {values:List Expr} {trs:List (TE×TE)} (h:PPs X pos keys values trs) (hall:keys.all (·.isSome)=true) (hl:keys.length=values.length) (h0:keys≠[])
  (h15:keys.length≤15):PE X (.Dict keys values pos) (tDisp trs):=by
 intro pins s σ H Q I q
 have hn:=I.hok.fresh (Nat.le_refl s.heap.objs.size)
 have I1:=I.laid (a:=s.heap.objs.size) (o:=.dK []) (h':=s.heap.push { cls:=.type "dict",data:=.dict #[] }) (t':=s.toks) (fun _ _ q=>Heap.get?_push_of_some _ q) (Nat.le_refl _) (dk_empty s.heap I.big)
 refine wpAny_Dict_walk (knd:=mixKind X.prog X.w) hall hl h0 h15 (thn (h pins _ σ _ _ I1 (q _ hn)) fun ws s2 ⟨ps,H2,I2,rel,e,kvs,ep,lk,q2⟩=>?_)
 subst ep
 obtain ⟨rs,c,rk⟩:=carries_of (P:=X.prog) (w:=X.w) rel
 obtain ⟨z,hd,vs0,r0,dd⟩:=dk_of I2.hok e
 cases r0
 refine ⟨rs,c,dd,fun h' dd' hs=>⟨.ref s.heap.objs.size,_,?_,rfl,q2⟩⟩
 have hz:(mergeK [] kvs).length≤sizeLine:=by
  have h1:=length_mergeK kvs []
  rw [List.length_nil] at h1
  rw [sizeLine_eq];omega
 have he:∃q,h'.get? s.heap.objs.size=some q:=let ⟨q,_,_,hq,_⟩:=dd';⟨q,hq⟩
 exact d_write I2 (by rw [e];exact True.intro) hs he (dk_new hz hd (rk.merge .nil) dd')
section
variable {X:Cx} {pins:List (Addr×Obj)} {σ:St} {H:Hp} {s:Shared} {a:Addr} {y d:V} {u r:Value} {o:Option V} {A:Around} {E:Value→Shared→Prop}
end
section
variable {X:Cx} {o e f:Expr} {apos cpos:Pos} {td ty tx:TE}
end
section
variable {X:Cx} {pins:List (Addr×Obj)} {σ:St} {H:Hp} {s:Shared} {a:Addr} {kvs:List (Key×V)} {A:Around} {E:Value→Shared→Prop}
end
section
variable {X:Cx} {pins:List (Addr×Obj)} {σ:St} {H:Hp} {s:Shared} {a:Addr} {y:V} {u:Value} {A:Around} {E:Value→Shared→Prop}
end
end L2
namespace Att
open PySem PySem.W PySem.Calls PyProof.Rows
theorem ints_of_wellAll {P:Params} {h:Heap}:∀(ns:List Int) (vs:List Value),WellAll P h vs (ns.map WData.int)→IntsAre vs ns:=by
 intro ns
 induction ns with
 | nil=>
  intro vs w
  rw [List.map_nil] at w
  cases w
  exact .nil
 | cons n ns ih=>
  intro vs w
  rw [List.map_cons] at w
  cases w with
  | cons a b=>
   cases a
   exact .cons _ _ (ih _ b)
theorem script_of {l:OpenLaw} {n:Nat} (hn:l.most=some n) {P:Params} {h:Heap} {args:List WData} {vals:List Value}
  (hpre:l.row.toRowW.claim.pre args=true) (hwl:WellAll P h vals args) :
  ∃a vs ns,vals=[Value.ref a]∧args=[WData.list (ns.map WData.int)]∧h.get? a=some { cls:=.type "list",data:=.seq vs.toArray }∧IntsAre vs ns∧ns.length≤n:=by
 have hsh:WShape.hasAll [] args [.list .int]=true:=(pre_splitW hpre).1
 have hc:l.pre.holds [] { args:=args }=true:=(pre_splitW hpre).2
 obtain ⟨d,r,rfl,h1,h2⟩:=hasAllW_cons hsh
 obtain rfl:=hasAllW_nil h2
 obtain ⟨xs,rfl,h3⟩:=hasW_list h1
 obtain ⟨ns,rfl⟩:=items_int h3
 have hlen:ns.length≤n:=by
  unfold OpenLaw.pre at hc
  have h4:(WTm.not (.lt (.lit (.int (n:Int))) (.len (.arg 0)))).holds [] { args:=[.list (ns.map .int)] }=true:=by
   have h4:=(holds_andW hc).1
   rw [hn] at h4
   exact h4
  have h5:=condW_of h4 (w_not (w_lt w_lit (w_len_list (w_arg rfl))))
  rw [List.length_map] at h5
  refine Nat.le_of_not_lt fun q=>?_
  have q':(n:Int)<((ns.length:Nat):Int):=by omega
  first
   | (rw [decide_eq_true q'] at h5;exact absurd h5 (by decide))
   | (simp at h5;omega)
 cases hwl with
 | cons w1 w2=>
  cases w2
  cases w1 with
  | list ho hall=>exact ⟨_,_,ns,rfl,rfl,ho,ints_of_wellAll ns _ hall,hlen⟩
theorem post_true (l:OpenLaw) (args:List WData):l.row.toRowW.claim.post args (.bool true) args=true:=
 postW_of (r:=l.row.toRowW) (X:=(true==true))
  (show WShape.has [] (.bool true) .bool=true by first | rfl | decide | simp [WShape.has,WShape.arms,WShape.armsAll])
  (show (WTm.eq .res (.lit (.bool true))).value [] { args:=args,res:=some (.bool true),after:=args }=some (.bool (true==true)) from w_eq_bool (w_res rfl) w_lit) rfl
theorem attach_call {l:OpenLaw} {n:Nat} {q:Program} {loose:List Str} {XP:(Str→Option Value)→Heap→Prop} {YP:World→Heap→Prop} {d:DefRec}
  (hn:l.most=some n) (hdf:d.params.defaults=[])
  (call:∀(w:World) (s₀ s₁:Shared) (mg mb:Str→Option Value) (fa:Addr) (o:Obj) (pm cd doc:Value) (a:Addr) (vs:List Value) (ns:List Int),
   Ground q loose [] XP w s₀ mg mb s₁.heap→YP w s₁.heap→
   s₁.heap.get? fa=some o→o.data=.func (docDef d.name d.params d.body d.scope pm cd doc)→s₁.heap.CodeRec cd d.name→mg d.name=some (.ref fa)→
   s₁.heap.get? a=some { cls:=.type "list",data:=.seq vs.toArray }→IntsAre vs ns→ns.length≤n→s₁.gens = #[]→
   codeAny (model l.prog w) callerA (.call (.ref fa) ⟨[.ref a],[]⟩) (fun r s'=>r=.ok (.ret (.bool true))∧OldK s₁.heap s'.heap∧s'.os=s₁.os∧AllBare s'.gens) s₁) :
  WalkO q loose XP YP l.row.toRowW d [] (fun f vs=>PySem.call f vs):=by
 intro w s₀ s₁ mg mb G Y fa o pm cd doc dV kV ho hd hcd hD hmg hg args vals as hpre hlay hrd hwl hlo
 obtain rfl:dV=.none:=Dflts.none hD hdf
 obtain rfl:kV=.none:=Dflts.noKw hD
 obtain ⟨a,vs,ns,rfl,rfl,hobj,hints,hlen⟩:=script_of hn hpre hwl
 refine enter_call (codeAny_mono (call w s₀ s₁ mg mb fa o pm cd doc a vs ns G Y ho (fd_plain hd) hcd hmg hobj hints hlen hg) fun r s' hq=>?_)
 obtain ⟨rfl,h2,h3,h4⟩:=hq
 exact ⟨.inl ⟨.bool true,.bool true,[],rfl,fun _=>rfl,.bool true,post_true l _,fun _=>⟨List.Pairwise.nil,fun _ hm=>(nomatch hm)⟩⟩,h2,h3,h4⟩
section
variable {prog:Program} {w:World} {A:Around} {E:Value→Shared→Prop} {s:Shared} {K:Frag}
end
end Att
namespace L2
open PySem PySem.Spec PyProof.Rows
theorem vals_ints:∀{vs:List Value} {ns:List Int},IntsAre vs ns→Vals (ns.map V.int) vs
 | _,_,.nil=>.nil
 | _,_,.cons n t h=>.cons ⟨t,rfl⟩ (vals_ints h)
end L2
namespace L2
open PySem PySem.Spec PyProof.Rows
end L2
namespace L2
open PySem PySem.Spec PyProof.Rows
noncomputable def defArgs (s:Stmt):Arguments:=match s with
 | .FunctionDef _ a _ _ _ _ _ _ _ _=>a
 | _=>{ posonlyargs:=[],args:=[],vararg:=none,kwonlyargs:=[],kw_defaults:=[],kwarg:=none,defaults:=[] }
noncomputable def defBody (s:Stmt):List Stmt:=match s with
 | .FunctionDef _ _ b _ _ _ _ _ _ _=>b
 | _=>[]
noncomputable def defScope (s:Stmt):Scope:=match s with
 | .FunctionDef _ _ _ _ _ _ sc _ _ _=>sc
 | _=>{ kind:=.function,names:=[],isGenerator:=false,isCoroutine:=false }
noncomputable abbrev CX0:CXT:=fun _ _ _ _ _ _=>False
noncomputable abbrev E0:XK:=fun _ _ _=>False
theorem pass0 {X:Cx}:Passes CX0 X E0:=fun _ _ _ _ _ _ _ h=>h.elim
structure Fun (K:PySem.W.Frag) (x qual:Str) (st:Stmt) (f:Addr) (fd:FuncData):Prop where
 ex:∃(oc:Value) (od:Option Addr) (kV doc pm:Value) (an:Option Addr) (cdv ct:Value) (osl:Array (Option Value)),
  fd=PySem.W.fnOf x qual (defArgs st) (defBody st) (defScope st) .none kV doc pm an cdv ct∧K.lookup f=some ⟨oc,od,.func fd,osl⟩∧PySem.W.codeIn K cdv qual=true
 kp:PySem.W.keepIn K (.ref f)=true
section
variable {P:Program} {w:World} {K:PySem.W.Frag} {mg:Str→Option Value} {base:Heap}
theorem Fun.ok {x qual:Str} {st:Stmt} {f:Addr} {fd:FuncData} {N ps:List Str} {k:Nat} {sp:Sp} (F:Fun K x qual st f fd) (S:FnScope N ps (defScope st)) (len:∀vs H Q E,sp vs H Q E→vs.length=ps.length)
  (hbody:∀(cdv:Value) (A:Around) (outer:List Env) (s:Shared) (H:Hp) (vs:List V) (Q:VK) (E:XK),Room k (A.deeper (envOfC qual (defScope st) s.heap.objs.size f cdv))→sp vs H Q E→
   ∃t,PSs (cxOf CX0 P w K mg base N qual (defScope st) f cdv A outer s H E).nox (defBody st) t∧t { nx:=fun _ H'=>Q .non H',rt:=Q } (start N vs) H):FnOk P w K mg base CX0 (k+1) f fd ps sp:=by
 obtain ⟨oc,od,kV,doc,pm,an,cdv,ct,osl,rfl,lk,hcd⟩:=F.ex
 refine fn_of lk hcd S len fun A outer s H vs Q E hr hsp=>?_
 obtain ⟨t,h,q⟩:=hbody cdv A outer s H vs Q E hr hsp
 exact ⟨t,h.nox,q⟩
theorem Fun.binds {x qual:Str} {st:Stmt} {f:Addr} {fd:FuncData} {ps:List Str} (F:Fun K x qual st f fd)
  (h:∀(kV doc pm:Value) (an:Option Addr) (cdv ct:Value) (us:List Value),us.length=ps.length→bindArgs (PySem.W.fnOf x qual (defArgs st) (defBody st) (defScope st) .none kV doc pm an cdv ct) ⟨us,[]⟩=pure (ps.zip us)):Binds K fd ps []:=by
 obtain ⟨oc,od,kV,doc,pm,an,cdv,ct,osl,rfl,lk,hcd⟩:=F.ex
 exact .all (h kV doc pm an cdv ct)
theorem fun_mk {x qual:Str} {st:Stmt} {f:Addr} {oc:Value} {od an:Option Addr} {osl:Array (Option Value)} {kV doc pm cdv ct:Value} (l:K.lookup f=some ⟨oc,od,.func (PySem.W.fnOf x qual (defArgs st) (defBody st) (defScope st) .none kV doc pm an cdv ct),osl⟩)
  (c:PySem.W.codeIn K cdv qual=true) (k:PySem.W.keepIn K (.ref f)=true):Fun K x qual st f (PySem.W.fnOf x qual (defArgs st) (defBody st) (defScope st) .none kV doc pm an cdv ct):=⟨⟨oc,od,kV,doc,pm,an,cdv,ct,osl,rfl,l,c⟩,k⟩
end
theorem hu_of {A:Around} {k:Nat} (hr:Room k A):A.units+1<cLine:=Nat.lt_of_le_of_lt (Nat.add_le_add_left (by decide:1≤64) _) hr.units
section
variable {X:Cx}
theorem pv (i:Nat) {x:Str} {pos:Pos} (hN:X.N[i]?=some x:=by rfl) (hv:Vis X.env.scope x:=by first | exact Or.inl rfl | exact Or.inr (Or.inl rfl) | exact Or.inr (Or.inr rfl)) (hd:(x==("__debug__" : Str))=false:=by decide)
  (hcd:(x==("__classdict__" : Str))=false:=by decide):PE X (.Name x pos) (tVar i):=pe_var hN hv hd hcd
end
theorem iteF {A B:Prop} (h:B):if false=true then A else B:=by
 rw [if_neg Bool.false_ne_true]
 exact h
theorem iteT {A B:Prop} (h:A):if true=true then A else B:=by
 rw [if_pos rfl]
 exact h
section
variable {X:Cx}
end
section
variable {κ:Type} [DecidableEq κ]
end
end L2
namespace L2
open PySem PySem.Spec PyProof.Rows
theorem compLoop_go {prog:Program} {w:World} {A:Around} {R:Result→Shared→Prop} {s:Shared} {elt target iter:Expr} {ifs:List Expr} {scope:Scope} {pos:Pos} {it acc:Value} {env:Env} (I:Nat→Shared→Prop)
  (turn:∀n s,I n s→wpAny (model prog w) A (pyNext it) (fun r s₁=>match r with
   | none=>R (.ok .next) s₁
   | some v=>wpAny (model prog w) A (letOwnedTupleGo target it v) (fun _ s₁'=>wpAny (model prog w) A (assign target env v) (fun _ s₂=>
     wpAny (model prog w) A (forIn ifs true fun c r=>if r=true then do let ok←isTrue c env (eval c env);pure (ForInStep.yield ok) else pure (ForInStep.yield r)) (fun ok s₃=>
      if ok=true then wpAny (model prog w) A (eval elt env) (fun x s₄=>
       wpAny (model prog w) A (call (.builtin "list.append") [acc,x]) (fun _ s₅=>∃m,m<n∧I m s₅) (notedBy (model prog w) A env fun e s'=>R (.error e) s') s₄) (notedBy (model prog w) A env fun e s'=>R (.error e) s') s₃
      else ∃m,m<n∧I m s₃) (notedBy (model prog w) A env fun e s'=>R (.error e) s') s₂) (notedBy (model prog w) A env fun e s'=>R (.error e) s') s₁') (notedBy (model prog w) A env fun e s'=>R (.error e) s') s₁) (notedBy (model prog w) A env fun e s'=>R (.error e) s') s)
  (n:Nat) (h:I n s) :
  codeAny (model prog w) A (.compLoop (.ListComp elt [⟨target,iter,ifs,0⟩] scope pos) 0 it acc env) R s:=by
 refine codeAny_loop rfl I (fun n s hI=>?_) n h
 show wpAny _ A ((compTurn (.ListComp elt [⟨target,iter,ifs,0⟩] scope pos) 0 it acc env).onRaise (fun x=>do noteFrame x env;theTreesLotGoes x)) _ _ s
 refine wpAny_noted ?_
 rw [compTurn_list]
 refine wpAny_bind (wpAny_standAt (wpAny_bind (wpAny_mono (turn n s hI) (fun r s₁ h₁=>?_) fun _ _ h'=>h')))
 cases r with
 | none=>exact wpAny_pure h₁
 | some v=>
  refine wpAny_bind (wpAny_mono h₁ (fun _ s₁' h₁'=>?_) fun _ _ h'=>h')
  refine wpAny_bind (wpAny_mono h₁' (fun _ s₂ h₂=>wpAny_bind (wpAny_mono h₂ (fun ok s₃ h₃=>?_) fun _ _ h'=>h')) fun _ _ h'=>h')
  cases ok with
  | false=>exact wpAny_pure ⟨rfl,h₃⟩
  | true=>
   exact wpAny_bind (wpAny_bind (wpAny_mono h₃ (fun x s₄ h₄=>wpAny_bind (wpAny_mono h₄ (fun _ s₅ h₅=>wpAny_pure (wpAny_pure ⟨rfl,h₅⟩)) fun _ _ h'=>h')) fun _ _ h'=>h'))
noncomputable def blk (X:Cx) (pins:List (Addr×Obj)) (N':List Str) (scope:Scope) (cl:List (Str×Addr)) (C:Addr) (s:Shared) (H:Hp) (fp:List Addr):Cx where
 prog:=X.prog
 w:=X.w
 K:=X.K
 mg:=X.mg
 base:=X.base
 A:=X.A
 N:=N'
 s₀:=s
 H₀:=H
 env:=compEnvC scope cl C X.env
 outer:=X.stack
 stack:=X.stack
 ex:=fp
 fn:=fun _=>false
 calm:=X.calm
 pn:=X.pn++pins
 xe:=fun _ _=>False
noncomputable def PIfs (X:Cx) (ifs:List Expr) (t:TT):Prop:=
 ∀(pins:List (Addr×Obj)) (s:Shared) (σ:St) (H:Hp) (Q:Bool→Hp→Prop),Inv X pins σ H s→t σ H Q→
  wpAny (model X.prog X.w) X.A (forIn ifs true fun c r=>if r=true then do let ok←isTrue c X.env (eval c X.env);pure (ForInStep.yield ok) else pure (ForInStep.yield r)) (TP X pins σ Q) X.xe s
noncomputable def tTrue:TT:=fun _ H Q=>Q true H
theorem pifs_nil {X:Cx}:PIfs X [] tTrue:=fun _ _ _ H _ I h=>wpAny_pure ⟨H,I,h⟩
theorem pifs_one {X:Cx} {c:Expr} {t:TT} (h:PT X c t):PIfs X [c] t:=fun pins s σ H Q I hq=>wpAny_tests_one (h pins s σ H Q I hq)
structure BlkOk (X:Cx) (N':List Str) (src:List (Option Nat)) (scope:Scope) (cl:List (Str×Addr)):Prop where
 clos:closureFor scope X.env=pure cl
 nocell:∀y∈scope.names,y.2≠.cell
 kind:scope.kind=.function
 names:∀y∈scope.names,y.2=.local→scope.names.lookup y.1=some .local
 len:src.length=N'.length
 cells:∀x c,cl.lookup x=some c→X.env.cells.lookup x=some c
 has:∀x,((relabel scope X.env).names.lookup x=some .cell∨(relabel scope X.env).names.lookup x=some .free)→∃c,cl.lookup x=some c
 from_:∀(i j:Nat) x,src[i]?=some (some j)→N'[i]?=some x→X.N[j]?=some x∧(X.env.kindOf x=some .cell∨X.env.kindOf x=some .free)∧((relabel scope X.env).names.lookup x=some .cell∨(relabel scope X.env).names.lookup x=some .free)
noncomputable def blkSt (src:List (Option Nat)) (σ:St):St:=src.map fun o=>o.bind fun j=>(σ[j]?).bind id
theorem blk_inv {X:Cx} {pins:List (Addr×Obj)} {σ:St} {H:Hp} {s s1:Shared} {N':List Str} {src:List (Option Nat)} {scope:Scope} {cl:List (Str×Addr)} {C:Addr} {fp:List Addr} {m:Str→Option Value}
  (B:BlkOk X N' src scope cl) (I:Inv X pins σ H s) (hf:∀b∈fp,FpOk X pins H b) (hC:s.heap.objs.size≤C) (hCf:∀b∈fp,b≠C)
  (hs:s1.os=s.os) (hg:s1.gens=s.gens) (hk:∀b o,s.heap.get? b=some o→s1.heap.get? b=some o) (hn:s1.heap.Ns C m):Inv (blk X pins N' scope cl C s H fp) [] (blkSt src σ) H s1:=by
 have noC:∀b o,s.heap.get? b=some o→b≠C:=fun b o e=>Nat.ne_of_lt (Nat.lt_of_lt_of_le (Heap.lt_size e) hC)
 refine ⟨⟨I.ok.mod,B.kind,I.ok.glob,I.ok.blt,hC,fun x y c h1 h2=>I.ok.inj x y c (B.cells _ _ h1) (B.cells _ _ h2),fun x hx=>B.has x hx,fun x c hf _=>(by cases hf),I.ok.hd,I.ok.frames,.inl rfl,fun b hb=>?_,I.bs,Nat.le_trans I.ok.bsz I.sz,fun b o e hb=>?_,fun b hb z=>?_,I.stack,I.stkFree⟩,
  hs,by rw [hg];exact I.bare,Un.kept hk,⟨m,hn,fun i x v h1 h2 h3=>?_⟩,fun x c e=>?_,I.hok.fresh hC,fun x c e=>I.freeC x c (B.cells _ _ e),fun p hp=>?_,I.hok.kept hk,?_⟩
 ·obtain ⟨f0,f1,f2,f3,f4,f5⟩:=hf b hb
  exact ⟨hCf b hb,fun x c e=>f4 x c (B.cells _ _ e)⟩
 ·obtain ⟨f0,f1,f2,f3,f4,f5⟩:=hf b hb
  rcases f3 with z | z
  ·exact I.ok.noex b o e z
  ·exact absurd (Nat.lt_of_lt_of_le (Heap.lt_size (I.ok.bs b o e).1) z) (Nat.lt_irrefl _)
 ·obtain ⟨f0,f1,f2,f3,f4,f5⟩:=hf b hb
  rcases List.mem_cons.mp (I.stkSub b z) with e | e
  ·exact f1 e
  ·exact f2 e
 ·have h2':(blkSt src σ)[i]?=some (some v):=h2
  unfold blkSt at h2'
  rw [List.getElem?_map] at h2'
  cases e:src[i]? with
  | none=>rw [e] at h2';cases h2'
  | some o=>
   rw [e] at h2'
   cases o with
   | none=>simp at h2'
   | some j=>
    obtain ⟨q1,q2,q3⟩:=B.from_ i j x e h1
    have hj:σ[j]?=some (some v):=by
     simp only [Option.map_some,Option.bind_some,Option.some.injEq] at h2'
     cases e2:σ[j]? with
     | none=>rw [e2] at h2';cases h2'
     | some o2=>rw [e2] at h2';simp at h2';rw [h2']
    obtain ⟨mm,hnn,hl⟩:=I.loc
    have vis:Vis X.env.scope x:=by
     rcases q2 with z | z
     ·exact .inr (.inl z)
     ·exact .inr (.inr z)
    obtain ⟨u,r,l⟩:=hl j x v q1 hj vis
    refine ⟨u,r,?_⟩
    rcases l with ⟨k,_⟩ | ⟨_,c,ec,z⟩
    ·rcases q2 with z | z <;> rw [z] at k <;> cases k
    ·obtain ⟨c',ec'⟩:=B.has x q3
     have ee:c'=c:=by
      have:=B.cells _ _ ec'
      rw [ec] at this
      exact (Option.some.inj this).symm
     subst ee
     obtain ⟨o,ho,hd⟩:=z
     exact .inr ⟨q3,c',ec',o,hk _ _ ho,hd⟩
 ·obtain ⟨v,o,ho,hd⟩:=I.cell x c (B.cells _ _ e)
  exact ⟨v,o,hk _ _ ho,hd⟩
 ·have hp':p∈X.pn++pins:=by simpa [blk] using hp
  obtain ⟨e,n,ne,nf,d⟩:=I.pin p hp'
  refine ⟨hk _ _ e,n,noC _ _ e,fun z=>?_,d⟩
  rcases List.mem_cons.mp (I.stkSub p.1 z) with q | q
  ·exact ne q
  ·exact nf q
 ·show (blkSt src σ).length=N'.length
  unfold blkSt
  rw [List.length_map,B.len]
noncomputable def tComp (src:List (Option Nat)) (wi:TI) (g:TG) (tt:TT) (te:TE):TE:=fun σ H Q=>wi σ H fun J H1=>∀p,H1 p=none→
 ∃W:Nat→Nat→St→Hp→Prop,(∃m,W 0 m (blkSt src σ) (upd H1 p (.lst [])))∧∀i m σ2 H2,W i m σ2 H2→
  (J.stop i H2∧Q (.ref p) H2)∨(J.go i H2∧∀x H3,J.yld i H2 x H3→g x σ2 H3 fun σ4 H4=>tt σ4 H4 fun ok H5=>
   if ok=true then te σ4 H5 fun y H6=>∃xs,H6 p=some (.lst xs)∧xs.length<sizeLine∧∃m',m'<m∧W (i+1) m' σ4 (upd H6 p (.lst (xs ++ [y])))
   else ∃m',m'<m∧W (i+1) m' σ4 H5)
theorem comp_core {X:Cx} {elt tg iter:Expr} {ifs:List Expr} {scope:Scope} {pos:Pos} {N':List Str} {src:List (Option Nat)} {cl:List (Str×Addr)} {g:TG} {tt:TT} {te:TE}
  {pins:List (Addr×Obj)} {σ:St} {H2:Hp} {s₂:Shared} {it:Addr} {fp:List Addr} {tn:Nat→Heap→Prop} {J:It} {Qp:Addr→Hp→Prop} {RR:Value→Addr→Result→Shared→Prop} {E:Value→Shared→Prop}
  (hc:X.calm=true) (B:BlkOk X N' src scope cl)
  (hg:∀pins C s H fp,PG (blk X pins N' scope cl C s H fp) tg g) (ht:∀pins C s H fp,PIfs (blk X pins N' scope cl C s H fp) ifs tt) (he:∀pins C s H fp,PE (blk X pins N' scope cl C s H fp) elt te)
  (I2:Inv X pins σ H2 s₂) (T:Turn X.prog X.w X.K tg J fp it tn) (st2:tn 0 s₂.heap) (f2:∀b∈fp,FpOk X pins H2 b)
  (q2:∀p,H2 p=none→∃W:Nat→Nat→St→Hp→Prop,(∃m,W 0 m (blkSt src σ) (upd H2 p (.lst [])))∧∀i m σ2 H2,W i m σ2 H2→
   (J.stop i H2∧Qp p H2)∨(J.go i H2∧∀x H3,J.yld i H2 x H3→g x σ2 H3 fun σ4 H4=>tt σ4 H4 fun ok H5=>
    if ok=true then te σ4 H5 fun y H6=>∃xs,H6 p=some (.lst xs)∧xs.length<sizeLine∧∃m',m'<m∧W (i+1) m' σ4 (upd H6 p (.lst (xs ++ [y])))
    else ∃m',m'<m∧W (i+1) m' σ4 H5))
  (hfin:∀p C s6 H5 mm,Inv X pins σ H5 s6→s6.heap.Ns C mm→FpOk X pins H5 C→Qp p H5→RR (.ref p) C (.ok .next) s6) :
  wpAny (model X.prog X.w) X.A (newList []) (fun acc s₃=>wpAny (model X.prog X.w) X.A (newFunctionEnv scope X.env.globals cl [] X.env.qual none .none (some X.env)) (fun cenv s₄=>
   codeAny (model X.prog X.w) X.A (.compStart (.ListComp elt [⟨tg,iter,ifs,0⟩] scope pos) 0 (.ref it) acc { cenv with scope:=relabel scope X.env }) (RR acc cenv.locals) s₄) E s₃) E s₂:=by
 have fpold:∀b∈fp,b<s₂.heap.objs.size:=fun b hb=>by
  obtain ⟨o,e,_⟩:=T.obj _ _ st2 b hb
  exact Heap.lt_size e
 have q2:=q2 s₂.heap.objs.size (I2.hok.fresh (Nat.le_refl _))
 obtain ⟨W,⟨m0,w0⟩,turn⟩:=q2
 -- the new list
 refine wpAny_newObj_type ?_
 have I3:Inv X pins σ (upd H2 s₂.heap.objs.size (.lst [])) { s₂ with heap:=s₂.heap.push { cls:=.type "list",dict:=none,data:=.seq ([]:List Value).toArray } }:=
  I2.lnew (t':=s₂.toks) (ys:=[]) .nil (Nat.zero_le _)
 have st3:tn 0 (s₂.heap.push { cls:=.type "list",dict:=none,data:=.seq ([]:List Value).toArray }):=T.keep _ _ _ st2 fun b _ o e=>Heap.get?_push_of_some _ e
 have f3:∀b∈fp,FpOk X pins (upd H2 s₂.heap.objs.size (.lst [])) b:=fun b hb=>by
  obtain ⟨f0,f1⟩:=f2 b hb
  exact ⟨by rw [upd_ne (Nat.ne_of_lt (fpold b hb))];exact f0,f1⟩
 generalize hs3:({ s₂ with heap:=s₂.heap.push { cls:=.type "list",dict:=none,data:=.seq ([]:List Value).toArray } }:Shared)=s₃ at I3
 have st3':tn 0 s₃.heap:=by rw [←hs3];exact st3
 have lt3:s₂.heap.objs.size<s₃.heap.objs.size:=by rw [←hs3];show _<(Heap.push _ _).objs.size;rw [Heap.size_push];exact Nat.lt_succ_self _
 refine wpAny_newFunctionEnv B.nocell (by intro y hy;simp at hy) (fun h₁ hns₁ hsb₁=>?_) B.kind
 have kp1:∀b o,s₃.heap.get? b=some o→h₁.get? b=some o:=fun b o e=>hsb₁.extBut b o (Nat.ne_of_lt (Heap.lt_size e)) (Heap.get?_push_of_some _ e)
 have I4:=blk_inv (s1:={ s₃ with heap:=h₁,toks:=s₃.toks+([]:List (Str×Value)).length }) (C:=s₃.heap.objs.size) B I3 f3 (Nat.le_refl _) (fun b hb=>Nat.ne_of_lt (Nat.lt_trans (fpold b hb) lt3)) rfl rfl kp1 hns₁
 have st4:tn 0 h₁:=T.keep _ _ _ st3' fun b _ o e=>kp1 b o e
 show codeAny (model X.prog X.w) X.A (.compStart (.ListComp elt [⟨tg,iter,ifs,0⟩] scope pos) 0 (.ref it) (.ref s₂.heap.objs.size) (compEnvC scope cl s₃.heap.objs.size X.env)) (RR (.ref s₂.heap.objs.size) s₃.heap.objs.size) _
 generalize hs4:({ s₃ with heap:=h₁,toks:=s₃.toks+([]:List (Str×Value)).length }:Shared)=s₄ at I4
 have st4':tn 0 s₄.heap:=by rw [←hs4];exact st4
 have blkX:∀{b:Addr} {H':Hp},b∈fp→H' b=none→FpOk (blk X pins N' scope cl s₃.heap.objs.size s₃ (upd H2 s₂.heap.objs.size (.lst [])) fp) [] H' b:=fun {b H'} hb hn=>by
  obtain ⟨f0,f1,f2',f3',f4',f5'⟩:=f3 b hb
  refine ⟨hn,Nat.ne_of_lt (Nat.lt_trans (fpold b hb) lt3),fun z=>?_,.inl hb,fun x c e=>f4' x c (B.cells _ _ e),fun p hp=>?_⟩
  ·rcases List.mem_cons.mp (I3.stkSub b z) with e | e
   ·exact f1 e
   ·exact f2' e
  ·exact f5' p (by simpa [blk] using hp)
 have loop:codeAny (model X.prog X.w) X.A (.compLoop (.ListComp elt [⟨tg,iter,ifs,0⟩] scope pos) 0 (.ref it) (.ref s₂.heap.objs.size) (compEnvC scope cl s₃.heap.objs.size X.env)) (RR (.ref s₂.heap.objs.size) s₃.heap.objs.size) s₄:=by
  refine compLoop_go (fun n s'=>∃i σ' H',Inv (blk X pins N' scope cl s₃.heap.objs.size s₃ (upd H2 s₂.heap.objs.size (.lst [])) fp) [] σ' H' s'∧tn i s'.heap∧(∀b∈fp,H' b=none)∧W i n σ' H') ?_ m0 ⟨0,_,_,I4,st4',fun b hb=>(f3 b hb).1,w0⟩
  rintro n s5 ⟨i,σ5,H5,I5,st5,fr5,w5⟩
  rcases turn i n σ5 H5 w5 with ⟨stop,qn⟩ | ⟨go,step⟩
  ·refine wpAny_mono (T.done (blk X pins N' scope cl s₃.heap.objs.size s₃ (upd H2 s₂.heap.objs.size (.lst [])) fp) rfl rfl rfl hc i [] s5 σ5 H5 (fun _ _=>False) I5 (fun b hb=>blkX hb (fr5 b hb)) st5 stop) (fun r s6 ⟨hr,I6⟩=>?_) fun _ _ f=>f.elim
   subst hr
   obtain ⟨mm,hnn,_⟩:=id I6.loc
   have nC:H5 s₃.heap.objs.size=none:=I6.free
   have J1:Inv X pins σ H5 s6:=by
    refine I3.call' (ch:=fp) I6.os I6.base I6.hok I6.bare fun b hb=>?_
    obtain ⟨f0,f1,f2',f3',f4',f5'⟩:=f3 b hb
    exact ⟨f3',f1,f4',f5'⟩
   exact hfin _ _ s6 H5 mm J1 hnn (I3.fpOk (Nat.le_refl _) nC) qn
  ·refine wpAny_mono (T.item (blk X pins N' scope cl s₃.heap.objs.size s₃ (upd H2 s₂.heap.objs.size (.lst [])) fp) rfl rfl rfl hc i [] s5 σ5 H5 (fun _ _=>False) I5 (fun b hb=>blkX hb (fr5 b hb)) st5 go) (fun r s6 ⟨u,hr,h6⟩=>?_) fun _ _ f=>f.elim
   subst hr
   refine wpAny_mono h6 (fun _ s7 ⟨x,H7,I7,r7,y7,st7,fr7⟩=>?_) fun _ _ f=>f.elim
   have I7':=I7.pinned (fun b hb=>blkX hb (fr7 b hb)) (T.obj _ _ st7)
   refine wpAny_mono (hg _ _ _ _ _ _ s7 σ5 H7 x u _ I7' r7 (step x H7 y7)) (fun _ s8 ⟨σ8,H8,I8,q8⟩=>?_) fun _ _ f=>f.elim
   refine wpAny_mono (ht _ _ _ _ _ _ s8 σ8 H8 _ I8 q8) (fun ok s9 ⟨H9,I9,q9⟩=>?_) fun _ _ f=>f.elim
   have again:∀{σ7:St} {H7:Hp} {sz:Shared},Inv (blk X pins N' scope cl s₃.heap.objs.size s₃ (upd H2 s₂.heap.objs.size (.lst [])) fp) ([]++pinsAt fp s7.heap) σ7 H7 sz→(∃m',m'<n∧W (i+1) m' σ7 H7)→
     ∃m,m<n∧∃i σ' H',Inv (blk X pins N' scope cl s₃.heap.objs.size s₃ (upd H2 s₂.heap.objs.size (.lst [])) fp) [] σ' H' sz∧tn i sz.heap∧(∀b∈fp,H' b=none)∧W i m σ' H':=fun {σ7 H7 sz} Iz ⟨m',hm,wz⟩=>by
    refine ⟨m',hm,i+1,σ7,H7,Iz.unpinned,T.keep _ _ _ st7 fun b hb o e=>(Iz.pin (b,o) (List.mem_append_right _ (List.mem_append_right _ (mem_pinsAt hb e)))).1,fun b hb=>?_,wz⟩
    obtain ⟨o,e,d⟩:=T.obj _ _ st7 b hb
    exact (Iz.pin (b,o) (List.mem_append_right _ (List.mem_append_right _ (mem_pinsAt hb e)))).2.1
   cases ok with
   | false=>
    show ∃m,m<n∧_
    exact again I9 (by simpa using q9)
   | true=>
    have q9':te σ8 H9 fun y H6=>∃xs,H6 s₂.heap.objs.size=some (.lst xs)∧xs.length<sizeLine∧∃m',m'<n∧W (i+1) m' σ8 (upd H6 s₂.heap.objs.size (.lst (xs ++ [y]))):=by simpa using q9
    show wpAny _ _ _ _ _ _
    refine wpAny_mono (he _ _ _ _ _ _ s9 σ8 H9 _ I9 q9') (fun y sA ⟨yv,HA,IA,rA,xs,eA,zA,mA⟩=>?_) fun _ _ f=>f.elim
    refine wpAny_mono (mt_append (X:=blk X pins N' scope cl s₃.heap.objs.size s₃ (upd H2 s₂.heap.objs.size (.lst [])) fp) _ sA σ8 HA (.ref s₂.heap.objs.size) [yv] (.ref s₂.heap.objs.size) [y] (fun _ HB=>HB=upd HA s₂.heap.objs.size (.lst (xs ++ [yv]))) IA rfl (.cons rA .nil) ⟨_,xs,yv,rfl,rfl,eA,zA,rfl⟩) (fun _ sB ⟨_,HB,IB,_,eB⟩=>?_) fun _ _ f=>f.elim
    subst eB
    exact again IB mA
 exact codeAny_compStart_list loop (T.self _ 0 _ _ _ st4' loop)
theorem pe_comp {X:Cx} {elt tg iter:Expr} {ifs:List Expr} {scope:Scope} {pos:Pos} {N':List Str} {src:List (Option Nat)} {cl:List (Str×Addr)} {wi:TI} {g:TG} {tt:TT} {te:TE}
  (hc:X.calm=true) (B:BlkOk X N' src scope cl) (hi:PI X tg iter wi)
  (hg:∀pins C s H fp,PG (blk X pins N' scope cl C s H fp) tg g) (ht:∀pins C s H fp,PIfs (blk X pins N' scope cl C s H fp) ifs tt) (he:∀pins C s H fp,PE (blk X pins N' scope cl C s H fp) elt te)
  (hs:∀x,foldedSetIterable iter X.env x=pure x:=by intro _;rfl):PE X (.ListComp elt [⟨tg,iter,ifs,0⟩] scope pos) (tComp src wi g tt te):=by
 intro pins s σ H Q I h
 rw [eval_ListComp]
 refine wpAny_comprehension_free (use:=none) rfl hs B.clos B.kind B.names (wpAny_mono (hi pins s σ H _ I h) (fun xv s₁ h₁=>wpAny_mono h₁ (fun it s₂ h₂=>?_) fun _ _ e=>e) fun _ _ e=>e)
 obtain ⟨it,fp,tn,J,H2,e,I2,T,st2,f2,q2⟩:=h₂
 subst e
 refine comp_core (RR:=fun acc C=>compPost (model X.prog X.w) X.A X.xe none (EP X pins σ Q) acc C) (Qp:=fun p H=>Q (.ref p) H) hc B hg ht he I2 T st2 f2 q2 ?_
 intro p C s6 H5 mm J1 hnn fC qn
 refine ⟨mm,hnn,fun h' sb=>?_⟩
 obtain ⟨c0,c1,c2,c3,c4,c5⟩:=fC
 exact ⟨.ref p,H5,J1.turned (t':=s6.toks) (it:=C) (fun b o hb e=>(sb.2 b hb).trans e) c0 c1 c3 c4 c5,rfl,qn⟩
theorem ps_setC {X:Cx} {elt tg iter:Expr} {ifs:List Expr} {scope:Scope} {pos pos' spos:Pos} {N':List Str} {src:List (Option Nat)} {cl:List (Str×Addr)} {wi:TI} {g:TG} {tt:TT} {te:TE} {i:Nat} {x:Str}
  (hN:X.N.Nodup) (hi':X.N[i]?=some x) (hx:Loc X.env.scope x)
  (hc:X.calm=true) (B:BlkOk X N' src scope cl) (hi:PI X tg iter wi)
  (hg:∀pins C s H fp,PG (blk X pins N' scope cl C s H fp) tg g) (ht:∀pins C s H fp,PIfs (blk X pins N' scope cl C s H fp) ifs tt) (he:∀pins C s H fp,PE (blk X pins N' scope cl C s H fp) elt te)
  (hsw:swapsWith (.ListComp elt [⟨tg,iter,ifs,0⟩] scope pos) (some (.Name x pos')) spos.line X.env=pure true:=by rfl)
  (hs:∀x,foldedSetIterable iter X.env x=pure x:=by intro _;rfl)
  (hf:X.fn x=true∨X.env.scope.names.lookup x=some .local:=by first | exact .inl rfl | exact .inr rfl | assumption) :
  PS X (.Assign [.Name x pos'] (.ListComp elt [⟨tg,iter,ifs,0⟩] scope pos) spos) (fun D σ H=>tComp src wi g tt te σ H fun y H1=>D.nx (σ.set i (some y)) H1):=by
 intro pins s σ H D I h
 rw [exec_Assign_Name_used _ _ _ _ hsw]
 refine wpAny_bind (wpAny_standAt (wpAny_bind ?_))
 show wpAny _ _ (do let _←comprehension (.ListComp elt [⟨tg,iter,ifs,0⟩] scope pos) scope X.env _ (newList []) false (eval iter X.env) (some (assign (.Name x pos') X.env))) _ _ s
 refine wpAny_bind (wpAny_mono (wpAny_comprehension_free (use:=some (assign (.Name x pos') X.env)) (Q:=fun _ s'=>SP X pins D .next s') rfl hs B.clos B.kind B.names
  (wpAny_mono (hi pins s σ H _ I h) (fun xv s₁ h₁=>wpAny_mono h₁ (fun it s₂ h₂=>?_) fun _ _ e=>e) fun _ _ e=>e)) (fun _ s' hq=>wpAny_pure (wpAny_pure hq)) fun _ _ e=>e)
 obtain ⟨it,fp,tn,J,H2,e,I2,T,st2,f2,q2⟩:=h₂
 subst e
 refine comp_core (RR:=fun acc C=>compPost (model X.prog X.w) X.A X.xe (some (assign (.Name x pos') X.env)) (fun _ s'=>SP X pins D .next s') acc C) (Qp:=fun p H=>D.nx (σ.set i (some (.ref p))) H) hc B hg ht he I2 T st2 f2 q2 ?_
 intro p C s6 H5 mm J1 hnn fC qn
 obtain ⟨oC,es,ep,hoC,hdC,hrC⟩:=id hnn
 have fC':∀b∈[C],FpOk X pins H5 b:=by
  intro b hb
  have e:b=C:=by simpa using hb
  rw [e]
  exact fC
 have oC':∀b∈[C],∃o,s6.heap.get? b=some o∧∀v,o.data≠.cell v:=by
  intro b hb
  have e:b=C:=by simpa using hb
  rw [e]
  exact ⟨oC,hoC,fun v z=>by rw [hdC] at z;cases z⟩
 have J2:=J1.pinned (fp:=[C]) fC' oC'
 show wpAny _ _ (assign (.Name x pos') X.env (.ref p)) _ _ _
 refine wpAny_mono (pg_name (X:=X) (pos:=pos') hN hi' hx hf _ s6 σ H5 (.ref p) (.ref p) (fun σ' H'=>σ'=σ.set i (some (.ref p))∧H'=H5) J2 rfl ⟨rfl,rfl⟩) (fun _ s7 ⟨σ7,H7,I7,e7,e7'⟩=>?_) fun _ _ e=>e
 subst e7 e7'
 have pC:=I7.pin (C,oC) (List.mem_append_right _ (List.mem_append_right _ (mem_pinsAt (by simp) hoC)))
 refine ⟨mm,⟨oC,es,ep,pC.1,hdC,hrC⟩,fun h' sb=>?_⟩
 obtain ⟨c0,c1,c2,c3,c4,c5⟩:=fC
 exact ⟨_,_,(I7.unpinned).turned (t':=s7.toks) (it:=C) (fun b o hb e=>(sb.2 b hb).trans e) c0 c1 c3 c4 c5,qn⟩
end L2
namespace TF
open PySem PySem.Spec PyProof.Rows L2
inductive D where
 | non | bl (b:Bool) | int (i:Int) | str (x:Str) | tup (xs:List D) | lst (xs:List D)
 | dk (kvs:List (Key×V)) | dt (kvs:List (List Key×V)) | du (kvs:List (List Key×V)) | df (kvs:List (Key×V)) | pen | ty (n:String) | clo (t:Nat) (caps:List D)
noncomputable abbrev St:=L2.St
noncomputable abbrev Pn:=List Int×List Int
noncomputable abbrev M (α:Type):=Pn→Option (α×Pn)
noncomputable abbrev Rho:=List (Option D)
noncomputable def mret {α:Type} (a:α):M α:=fun s=>some (a,s)
noncomputable def mbind {α β:Type} (m:M α) (k:α→M β):M β:=fun s=>match m s with | none=>none | some p=>k p.1 p.2
noncomputable def mfail {α:Type}:M α:=fun _=>none
noncomputable def mOf {α:Type} (o:Option α):M α:=fun s=>match o with | none=>none | some a=>some (a,s)
theorem mbind_some {α β:Type} {m:M α} {k:α→M β} {s s':Pn} {b:β} (h:mbind m k s=some (b,s')):∃a s1,m s=some (a,s1)∧k a s1=some (b,s'):=by
 unfold mbind at h
 cases e:m s with
 | none=>rw [e] at h;cases h
 | some p=>rw [e] at h;exact ⟨p.1,p.2,rfl,h⟩
theorem mret_some {α:Type} {a b:α} {s s':Pn} (h:mret a s=some (b,s')):b=a∧s'=s:=by
 unfold mret at h
 cases h
 exact ⟨rfl,rfl⟩
theorem mOf_some {α:Type} {o:Option α} {b:α} {s s':Pn} (h:mOf o s=some (b,s')):o=some b∧s'=s:=by
 unfold mOf at h
 cases e:o with
 | none=>rw [e] at h;cases h
 | some a=>rw [e] at h;cases h;exact ⟨rfl,rfl⟩
structure Gh where
 fp:Addr→Prop
 rd:Addr→Prop
 pen:V
 st:Pn→Hp→Prop
 mono:∀s H H',st s H→(∀b o,rd b→H b=some o→H' b=some o)→(∀b φ,H b=some (.ext φ)→H' b=some (.ext φ))→st s H'
 sub:∀b,fp b→rd b
 dom:∀s H b,st s H→rd b→∃o,H b=some o
 ntp:∀s H b vs,st s H→fp b→H b≠some (.tup vs)
 clo:Nat→V→List V→Prop:=fun _ _ _=>False
mutual
noncomputable def Rep (G:Gh) (H:Hp):D→V→Prop
 | .non,v=>v=.non
 | .bl b,v=>v=.bl b
 | .int i,v=>v=.int i
 | .str x,v=>v=.str x
 | .tup ds,v=>∃a vs,v=.ref a∧¬G.fp a∧H a=some (.tup vs)∧RepL G H ds vs
 | .lst ds,v=>∃a vs,v=.ref a∧¬G.fp a∧H a=some (.lst vs)∧RepL G H ds vs
 | .dk kvs,v=>∃a,v=.ref a∧¬G.fp a∧H a=some (.dK kvs)
 | .dt kvs,v=>∃a o,v=.ref a∧¬G.fp a∧H a=some (.frz o (.dT kvs))
 | .du kvs,v=>∃a,v=.ref a∧¬G.fp a∧H a=some (.dT kvs)
 | .df kvs,v=>∃a o,v=.ref a∧¬G.fp a∧H a=some (.frz o (.dK kvs))
 | .pen,v=>v=G.pen
 | .ty n,v=>v=.ty n
 | .clo t ds,v=>∃vs,G.clo t v vs∧RepL G H ds vs
noncomputable def RepL (G:Gh) (H:Hp):List D→List V→Prop
 | [],vs=>vs=[]
 | d::ds,vs=>∃v r,vs=v::r∧Rep G H d v∧RepL G H ds r
end
noncomputable def Ext (G:Gh) (H H':Hp):Prop:=∀b o,¬G.fp b→H b=some o→H' b=some o
theorem Ext.refl (G:Gh) (H:Hp):Ext G H H:=fun _ _ _ e=>e
theorem Ext.trans {G:Gh} {H H1 H2:Hp} (a:Ext G H H1) (b:Ext G H1 H2):Ext G H H2:=fun c o n e=>b c o n (a c o n e)
mutual
theorem Rep.ext {G:Gh} {H H':Hp} (e:Ext G H H'):∀{d:D} {v:V},Rep G H d v→Rep G H' d v
 | .non,_,h=>h
 | .bl _,_,h=>h
 | .int _,_,h=>h
 | .str _,_,h=>h
 | .tup ds,v,h=>by
  unfold Rep at h ⊢
  obtain ⟨a,vs,e1,n,e2,r⟩:=h
  exact ⟨a,vs,e1,n,e _ _ n e2,RepL.ext e r⟩
 | .lst ds,v,h=>by
  unfold Rep at h ⊢
  obtain ⟨a,vs,e1,n,e2,r⟩:=h
  exact ⟨a,vs,e1,n,e _ _ n e2,RepL.ext e r⟩
 | .dk kvs,v,h=>by
  unfold Rep at h ⊢
  obtain ⟨a,e1,n,e2⟩:=h
  exact ⟨a,e1,n,e _ _ n e2⟩
 | .dt kvs,v,h=>by
  unfold Rep at h ⊢
  obtain ⟨a,o,e1,n,e2⟩:=h
  exact ⟨a,o,e1,n,e _ _ n e2⟩
 | .df kvs,v,h=>by
  unfold Rep at h ⊢
  obtain ⟨a,o,e1,n,e2⟩:=h
  exact ⟨a,o,e1,n,e _ _ n e2⟩
 | .du kvs,v,h=>by
  unfold Rep at h ⊢
  obtain ⟨a,e1,n,e2⟩:=h
  exact ⟨a,e1,n,e _ _ n e2⟩
 | .pen,_,h=>h
 | .ty _,_,h=>h
 | .clo t ds,v,h=>by
  unfold Rep at h ⊢
  obtain ⟨vs,c,r⟩:=h
  exact ⟨vs,c,RepL.ext e r⟩
theorem RepL.ext {G:Gh} {H H':Hp} (e:Ext G H H'):∀{ds:List D} {vs:List V},RepL G H ds vs→RepL G H' ds vs
 | [],_,h=>h
 | d::ds,vs,h=>by
  unfold RepL at h ⊢
  obtain ⟨v,r,e1,r1,r2⟩:=h
  exact ⟨v,r,e1,Rep.ext e r1,RepL.ext e r2⟩
end
section
variable {G:Gh} {H:Hp}
theorem Rep.tup_iff {ds:List D} {v:V}:Rep G H (.tup ds) v↔∃a vs,v=.ref a∧¬G.fp a∧H a=some (.tup vs)∧RepL G H ds vs:=by unfold Rep;exact Iff.rfl
theorem Rep.lst_iff {ds:List D} {v:V}:Rep G H (.lst ds) v↔∃a vs,v=.ref a∧¬G.fp a∧H a=some (.lst vs)∧RepL G H ds vs:=by unfold Rep;exact Iff.rfl
theorem Rep.dk_iff {kvs:List (Key×V)} {v:V}:Rep G H (.dk kvs) v↔∃a,v=.ref a∧¬G.fp a∧H a=some (.dK kvs):=by unfold Rep;exact Iff.rfl
theorem Rep.dt_iff {kvs:List (List Key×V)} {v:V}:Rep G H (.dt kvs) v↔∃a o,v=.ref a∧¬G.fp a∧H a=some (.frz o (.dT kvs)):=by unfold Rep;exact Iff.rfl
theorem Rep.du_iff {kvs:List (List Key×V)} {v:V}:Rep G H (.du kvs) v↔∃a,v=.ref a∧¬G.fp a∧H a=some (.dT kvs):=by unfold Rep;exact Iff.rfl
theorem Rep.df_iff {kvs:List (Key×V)} {v:V}:Rep G H (.df kvs) v↔∃a o,v=.ref a∧¬G.fp a∧H a=some (.frz o (.dK kvs)):=by unfold Rep;exact Iff.rfl
theorem Rep.int_iff {i:Int} {v:V}:Rep G H (.int i) v↔v=.int i:=by unfold Rep;exact Iff.rfl
theorem Rep.bl_iff {b:Bool} {v:V}:Rep G H (.bl b) v↔v=.bl b:=by unfold Rep;exact Iff.rfl
theorem Rep.str_iff {b:Str} {v:V}:Rep G H (.str b) v↔v=.str b:=by unfold Rep;exact Iff.rfl
theorem Rep.non_iff {v:V}:Rep G H .non v↔v=.non:=by unfold Rep;exact Iff.rfl
theorem Rep.pen_iff {v:V}:Rep G H .pen v↔v=G.pen:=by unfold Rep;exact Iff.rfl
theorem Rep.ty_iff {n:String} {v:V}:Rep G H (.ty n) v↔v=.ty n:=by unfold Rep;exact Iff.rfl
theorem Rep.clo_iff {t:Nat} {ds:List D} {v:V}:Rep G H (.clo t ds) v↔∃vs,G.clo t v vs∧RepL G H ds vs:=by unfold Rep;exact Iff.rfl
theorem RepL.nil_iff {vs:List V}:RepL G H [] vs↔vs=[]:=by unfold RepL;exact Iff.rfl
theorem RepL.cons_iff {d:D} {ds:List D} {vs:List V}:RepL G H (d::ds) vs↔∃v r,vs=v::r∧Rep G H d v∧RepL G H ds r:=by
 constructor
 ·intro h;unfold RepL at h;exact h
 ·intro h;unfold RepL;exact h
theorem RepL.length:∀{ds:List D} {vs:List V},RepL G H ds vs→ds.length=vs.length
 | [],vs,h=>by rw [RepL.nil_iff.mp h];rfl
 | d::ds,vs,h=>by
  obtain ⟨v,r,rfl,_,h2⟩:=RepL.cons_iff.mp h
  simp [RepL.length h2]
theorem RepL.get:∀{ds:List D} {vs:List V} {i:Nat} {d:D},RepL G H ds vs→ds[i]?=some d→∃v,vs[i]?=some v∧Rep G H d v
 | [],_,_,_,_,e=>by simp at e
 | d::ds,vs,0,d',h,e=>by
  obtain ⟨v,r,rfl,h1,_⟩:=RepL.cons_iff.mp h
  simp at e;subst e
  exact ⟨v,rfl,h1⟩
 | d::ds,vs,i+1,d',h,e=>by
  obtain ⟨v,r,rfl,_,h2⟩:=RepL.cons_iff.mp h
  obtain ⟨u,e1,e2⟩:=RepL.get h2 (i:=i) (d:=d') (by simpa using e)
  exact ⟨u,by simpa using e1,e2⟩
theorem RepL.append:∀{ds es:List D} {vs us:List V},RepL G H ds vs→RepL G H es us→RepL G H (ds++es) (vs++us)
 | [],es,vs,us,h,h'=>by rw [RepL.nil_iff.mp h];exact h'
 | d::ds,es,vs,us,h,h'=>by
  obtain ⟨v,r,rfl,h1,h2⟩:=RepL.cons_iff.mp h
  exact RepL.cons_iff.mpr ⟨v,r++us,rfl,h1,RepL.append h2 h'⟩
theorem RepL.one {d:D} {v:V} (h:Rep G H d v):RepL G H [d] [v]:=RepL.cons_iff.mpr ⟨v,[],rfl,h,RepL.nil_iff.mpr rfl⟩
theorem RepL.cons {d:D} {v:V} {ds:List D} {vs:List V} (h:Rep G H d v) (h2:RepL G H ds vs):RepL G H (d::ds) (v::vs):=RepL.cons_iff.mpr ⟨v,vs,rfl,h,h2⟩
theorem RepL.set:∀{ds:List D} {vs:List V} {d:D} {v:V} (i:Nat),RepL G H ds vs→Rep G H d v→RepL G H (ds.set i d) (vs.set i v)
 | [],vs,d,v,i,h,_=>by rw [RepL.nil_iff.mp h];exact RepL.nil_iff.mpr (by simp)
 | e::ds,vs,d,v,0,h,h'=>by
  obtain ⟨u,r,rfl,h1,h2⟩:=RepL.cons_iff.mp h
  exact RepL.cons h' h2
 | e::ds,vs,d,v,i+1,h,h'=>by
  obtain ⟨u,r,rfl,h1,h2⟩:=RepL.cons_iff.mp h
  exact RepL.cons h1 (RepL.set i h2 h')
end
noncomputable def Nt (o:Option HO):Prop:=∃u,o=some u∧∀vs,u≠.tup vs
theorem Nt.no {o:Option HO} (h:Nt o) (e:o=none):False:=by
 obtain ⟨u,q,_⟩:=h
 rw [e] at q;cases q
structure Gr (G:Gh) (Hf H Hf' H':Hp):Prop where
 hh:Ext G H H'
 ff:Ext G Hf Hf'
 fh:Ext G Hf' H'
 nw:∀b,¬G.fp b→Hf b=none→Nt (H b)→Hf' b=none
theorem Gr.refl {G:Gh} {Hf H:Hp} (e:Ext G Hf H):Gr G Hf H Hf H:=⟨.refl _ _,.refl _ _,e,fun _ _ h _=>h⟩
theorem Gr.trans {G:Gh} {Hf H Hf1 H1 Hf2 H2:Hp} (a:Gr G Hf H Hf1 H1) (b:Gr G Hf1 H1 Hf2 H2):Gr G Hf H Hf2 H2:=
 ⟨a.hh.trans b.hh,a.ff.trans b.ff,b.fh,fun c n h1 h2=>b.nw c n (a.nw c n h1 h2) (let ⟨u,e,nt⟩:=h2;⟨u,a.hh c u n e,nt⟩)⟩
theorem Gr.new {G:Gh} {Hf H:Hp} {p:Addr} {o:HO} (e:Ext G Hf H) (hp:H p=none) (nf:¬G.fp p):Gr G Hf H (upd Hf p o) (upd H p o) where
 hh:=fun b u n q=>by rw [upd_ne (ne_of_none q hp)];exact q
 ff:=fun b u n q=>by rw [upd_ne (ne_of_none (e b u n q) hp)];exact q
 fh:=fun b u n q=>by
  by_cases hb:b=p
  ·subst hb;rw [upd_same] at q ⊢;exact q
  ·rw [upd_ne hb] at q ⊢;exact e b u n q
 nw:=fun b n h1 h2=>by
  by_cases hb:b=p
  ·subst hb;exact (h2.no hp).elim
  ·rw [upd_ne hb];exact h1
theorem Gh.nofp {G:Gh} {s:Pn} {H:Hp} {p:Addr} (h:G.st s H) (hp:H p=none):¬G.fp p:=fun f=>by
 obtain ⟨o,e⟩:=G.dom s H p h (G.sub p f)
 rw [hp] at e;cases e
theorem Gh.nord {G:Gh} {s:Pn} {H:Hp} {p:Addr} (h:G.st s H) (hp:H p=none):¬G.rd p:=fun f=>by
 obtain ⟨o,e⟩:=G.dom s H p h f
 rw [hp] at e;cases e
theorem Gh.grow {G:Gh} {s:Pn} {H:Hp} {p:Addr} {o:HO} (h:G.st s H) (hp:H p=none):G.st s (upd H p o):=G.mono s H _ h (fun b u _ q=>by
 rw [upd_ne (ne_of_none q hp)];exact q) fun b φ q=>by
 rw [upd_ne (ne_of_none q hp)];exact q
noncomputable def isMut:D→Prop
 | .lst _=>True
 | .dk _=>True
 | .dt _=>True
 | .du _=>True
 | _=>False
noncomputable def FreshL (G:Gh) (H Hf':Hp) (d:D) (v:V):Prop:=∀a,v=.ref a→isMut d→H a=none∧∀ds,d=.lst ds→∃vs Hm,Hf' a=some (.lst vs)∧Hm a=none∧Ext G Hm Hf'∧RepL G Hm ds vs
theorem FreshL.old {G:Gh} {H H' Hf':Hp} {d:D} {v:V} (e:Ext G H H') (r:∀a,v=.ref a→isMut d→¬G.fp a) (h:FreshL G H' Hf' d v):FreshL G H Hf' d v:=fun a ea m=>by
 refine ⟨?_,(h a ea m).2⟩
 cases q:H a with
 | none=>rfl
 | some o=>
  have:=e a o (r a ea m) q
  rw [(h a ea m).1] at this;cases this
theorem Rep.nofp {G:Gh} {H:Hp} {d:D} {v:V} (r:Rep G H d v):∀a,v=.ref a→isMut d→¬G.fp a:=fun a e m=>by
 cases d with
 | lst ds=>obtain ⟨b,vs,e1,n,_⟩:=Rep.lst_iff.mp r;rw [e] at e1;cases e1;exact n
 | dk ds=>obtain ⟨b,e1,n,_⟩:=Rep.dk_iff.mp r;rw [e] at e1;cases e1;exact n
 | dt ds=>obtain ⟨b,_,e1,n,_⟩:=Rep.dt_iff.mp r;rw [e] at e1;cases e1;exact n
 | du ds=>obtain ⟨b,e1,n,_⟩:=Rep.du_iff.mp r;rw [e] at e1;cases e1;exact n
 | _=>exact m.elim
noncomputable def EnvR (G:Gh) (H:Hp) (σ:St) (ρ:Rho):Prop:=∀(i:Nat) (d:D),ρ[i]?=some (some d)→∃v,σ[i]?=some (some v)∧Rep G H d v
theorem EnvR.ext {G:Gh} {H H':Hp} {σ:St} {ρ:Rho} (h:EnvR G H σ ρ) (e:Ext G H H'):EnvR G H' σ ρ:=fun i d q=>let ⟨v,a,b⟩:=h i d q;⟨v,a,b.ext e⟩
noncomputable def PD (X:Cx) (G:Gh) (fr:Bool) (e:Expr) (f:Rho→M D):Prop:=
 ∃t,PE X e t∧∀(σ:St) (Hf H:Hp) (ρ:Rho) (s:Pn) (d:D) (s':Pn) (Q:VK),Ext G Hf H→EnvR G Hf σ ρ→G.st s H→f ρ s=some (d,s')→
  (∀v Hf' H',Gr G Hf H Hf' H'→G.st s' H'→Rep G Hf' d v→(fr=true→FreshL G H Hf' d v)→Q v H')→t σ H Q
noncomputable def PDT (X:Cx) (G:Gh) (e:Expr) (f:Rho→M Bool):Prop:=
 ∃t,PT X e t∧∀(σ:St) (Hf H:Hp) (ρ:Rho) (s:Pn) (b:Bool) (s':Pn) (Q:Bool→Hp→Prop),Ext G Hf H→EnvR G Hf σ ρ→G.st s H→f ρ s=some (b,s')→
  (∀Hf' H',Gr G Hf H Hf' H'→G.st s' H'→Q b H')→t σ H Q
noncomputable def PDA (X:Cx) (G:Gh) (es:List Expr) (f:Rho→M (List D)):Prop:=
 ∃t,PA X es t∧∀(σ:St) (Hf H:Hp) (ρ:Rho) (s:Pn) (ds:List D) (s':Pn) (Q:List V→Hp→Prop),Ext G Hf H→EnvR G Hf σ ρ→G.st s H→f ρ s=some (ds,s')→
  (∀vs Hf' H',Gr G Hf H Hf' H'→G.st s' H'→RepL G Hf' ds vs→Q vs H')→t σ H Q
section
variable {X:Cx} {G:Gh}
theorem PD.weak {e:Expr} {f:Rho→M D} {fr:Bool} (h:PD X G fr e f):PD X G false e f:=by
 obtain ⟨t,p,q⟩:=h
 exact ⟨t,p,fun σ Hf H ρ s d s' Q e1 e2 e3 e4 k=>q σ Hf H ρ s d s' Q e1 e2 e3 e4 fun v Hf' H' g1 g2 g3 _=>k v Hf' H' g1 g2 g3 (fun z=>by cases z)⟩
noncomputable def dVar (i:Nat):Rho→M D:=fun ρ=>mOf ((ρ[i]?).bind id)
noncomputable def dC (d:D):Rho→M D:=fun _=>mret d
theorem pd_var (i:Nat) {x:Str} {pos:Pos} (h:PE X (.Name x pos) (tVar i)):PD X G false (.Name x pos) (dVar i):=by
 refine ⟨_,h,fun σ Hf H ρ s d s' Q e1 e2 e3 e4 k=>?_⟩
 obtain ⟨e,rfl⟩:=mOf_some e4
 have e':ρ[i]?=some (some d):=by
  cases q:ρ[i]? with
  | none=>rw [q] at e;cases e
  | some o=>rw [q] at e;simp at e;rw [e]
 obtain ⟨v,h1,h2⟩:=e2 i d e'
 exact ⟨v,h1,k v Hf H (.refl e1) e3 h2 (fun z=>by cases z)⟩
theorem FreshL.scal {H Hf':Hp} {d:D} {v:V} (h:isMut d→False):FreshL G H Hf' d v:=fun _ _ m=>(h m).elim
theorem pd_int {i:Int} {j pos}:PD X G true (.Constant (.int i) j pos) (dC (.int i)):=by
 refine ⟨_,pe_int,fun σ Hf H ρ s d s' Q e1 e2 e3 e4 k=>?_⟩
 obtain ⟨rfl,rfl⟩:=mret_some e4
 exact k _ Hf H (.refl e1) e3 (Rep.int_iff.mpr rfl) fun _=>.scal fun z=>z
theorem pd_bl {b:Bool} {j pos}:PD X G true (.Constant (.bool b) j pos) (dC (.bl b)):=by
 refine ⟨_,pe_bl,fun σ Hf H ρ s d s' Q e1 e2 e3 e4 k=>?_⟩
 obtain ⟨rfl,rfl⟩:=mret_some e4
 exact k _ Hf H (.refl e1) e3 (Rep.bl_iff.mpr rfl) fun _=>.scal fun z=>z
theorem pd_non {j pos}:PD X G true (.Constant .none j pos) (dC .non):=by
 refine ⟨_,pe_non,fun σ Hf H ρ s d s' Q e1 e2 e3 e4 k=>?_⟩
 obtain ⟨rfl,rfl⟩:=mret_some e4
 exact k _ Hf H (.refl e1) e3 (Rep.non_iff.mpr rfl) fun _=>.scal fun z=>z
noncomputable def dNil:Rho→M (List D):=fun _=>mret []
noncomputable def dCons (f:Rho→M D) (g:Rho→M (List D)):Rho→M (List D):=fun ρ=>mbind (f ρ) fun d=>mbind (g ρ) fun ds=>mret (d::ds)
theorem pda_nil:PDA X G [] dNil:=by
 refine ⟨_,pa_nil,fun σ Hf H ρ s d s' Q e1 e2 e3 e4 k=>?_⟩
 obtain ⟨rfl,rfl⟩:=mret_some e4
 exact k _ Hf H (.refl e1) e3 (RepL.nil_iff.mpr rfl)
theorem pda_cons {e:Expr} {es:List Expr} {f:Rho→M D} {g:Rho→M (List D)} {fr:Bool} (h:PD X G fr e f) (hr:PDA X G es g) (hs:starEach (e::es) X.env=(false,eval e X.env)::starEach es X.env:=by rfl):PDA X G (e::es) (dCons f g):=by
 obtain ⟨t,p,q⟩:=h
 obtain ⟨u,p2,q2⟩:=hr
 refine ⟨_,pa_cons p p2 hs,fun σ Hf H ρ s ds s' Q e1 e2 e3 e4 k=>?_⟩
 obtain ⟨d,s1,a1,a2⟩:=mbind_some e4
 obtain ⟨r,s2,a3,a4⟩:=mbind_some a2
 obtain ⟨rfl,rfl⟩:=mret_some a4
 refine q σ Hf H ρ s d s1 _ e1 e2 e3 a1 fun v Hf1 H1 g1 st1 r1 _=>?_
 refine q2 σ Hf1 H1 ρ s1 r _ _ g1.fh (e2.ext g1.ff) st1 a3 fun vs Hf2 H2 g2 st2 r2=>?_
 exact k _ Hf2 H2 (g1.trans g2) st2 (RepL.cons (r1.ext g2.ff) r2)
noncomputable def dTup (f:Rho→M (List D)):Rho→M D:=fun ρ=>mbind (f ρ) fun ds=>if ds.length≤sizeLine then mret (.tup ds) else mfail
noncomputable def dLst (f:Rho→M (List D)):Rho→M D:=fun ρ=>mbind (f ρ) fun ds=>if ds.length≤sizeLine then mret (.lst ds) else mfail
theorem mif_some {α:Type} {c:Prop} [Decidable c] {a:M α} {s s':Pn} {b:α} (h:(if c then a else mfail) s=some (b,s')):c∧a s=some (b,s'):=by
 split at h
 ·rename_i hc;exact ⟨hc,h⟩
 ·cases h
theorem FreshL.mk {Hf H:Hp} {p:Addr} {vs:List V} {ds:List D} (e:Ext G Hf H) (hp:H p=none) (nf:¬G.fp p) (r:RepL G Hf ds vs):FreshL G H (upd Hf p (.lst vs)) (.lst ds) (.ref p):=fun a ea _=>by
 cases ea
 refine ⟨hp,fun ds' ed=>?_⟩
 cases ed
 have hf:Hf p=none:=by
  cases q:Hf p with
  | none=>rfl
  | some o=>rw [e p o nf q] at hp;cases hp
 exact ⟨vs,Hf,upd_same,hf,fun b o n q=>by rw [upd_ne (ne_of_none q hf)];exact q,r⟩
theorem pd_tup {es:List Expr} {f:Rho→M (List D)} {x1:Nat} {pos:Pos} (h:PDA X G es f):PD X G true (.Tuple es x1 pos) (dTup f):=by
 obtain ⟨t,p,q⟩:=h
 refine ⟨_,pe_tup p,fun σ Hf H ρ s d s' Q e1 e2 e3 e4 k=>?_⟩
 obtain ⟨ds,s1,a1,a2⟩:=mbind_some e4
 obtain ⟨hl,a3⟩:=mif_some a2
 obtain ⟨rfl,rfl⟩:=mret_some a3
 refine q σ Hf H ρ s ds s' _ e1 e2 e3 a1 fun vs Hf1 H1 g1 st1 r1=>⟨by rw [←r1.length];exact hl,fun p hp=>?_⟩
 have nf:=Gh.nofp st1 hp
 have g2:=Gr.new (o:=.tup vs) g1.fh hp nf
 exact k (.ref p) _ _ (g1.trans g2) (Gh.grow st1 hp) (Rep.tup_iff.mpr ⟨p,vs,rfl,nf,upd_same,r1.ext g2.ff⟩) fun _=>.scal fun z=>z
theorem pd_lst {es:List Expr} {f:Rho→M (List D)} {pos:Pos} (h:PDA X G es f):PD X G true (.List es pos) (dLst f):=by
 obtain ⟨t,p,q⟩:=h
 refine ⟨_,pe_lst p,fun σ Hf H ρ s d s' Q e1 e2 e3 e4 k=>?_⟩
 obtain ⟨ds,s1,a1,a2⟩:=mbind_some e4
 obtain ⟨hl,a3⟩:=mif_some a2
 obtain ⟨rfl,rfl⟩:=mret_some a3
 refine q σ Hf H ρ s ds s' _ e1 e2 e3 a1 fun vs Hf1 H1 g1 st1 r1=>⟨by rw [←r1.length];exact hl,fun p hp=>?_⟩
 have nf:=Gh.nofp st1 hp
 have g2:=Gr.new (o:=.lst vs) g1.fh hp nf
 refine k (.ref p) _ _ (g1.trans g2) (Gh.grow st1 hp) (Rep.lst_iff.mpr ⟨p,vs,rfl,nf,upd_same,r1.ext g2.ff⟩) fun _=>FreshL.old g1.hh (fun a ea _=>by cases ea;exact nf) (FreshL.mk g1.fh hp nf r1)
noncomputable def OpD (X:Cx) (G:Gh) (f:Value→Value→Sem Value) (g:D→D→Option D):Prop:=
 ∃r,OpR X f r∧∀(Hf H:Hp) (s:Pn) (x y:V) (d e c:D) (Q:VK),Ext G Hf H→G.st s H→Rep G Hf d x→Rep G Hf e y→g d e=some c→
  (∀v Hf' H',Gr G Hf H Hf' H'→G.st s H'→Rep G Hf' c v→FreshL G H Hf' c v→Q v H')→r x y H Q
noncomputable def dOp (g:D→D→Option D) (a b:Rho→M D):Rho→M D:=fun ρ=>mbind (a ρ) fun d=>mbind (b ρ) fun e=>mOf (g d e)
theorem op2D {fa fb:Rho→M D} {g:D→D→Option D} {ta tb:TE} {r:R2}
  (qa:∀(σ:St) (Hf H:Hp) (ρ:Rho) (s:Pn) (d:D) (s':Pn) (Q:VK),Ext G Hf H→EnvR G Hf σ ρ→G.st s H→fa ρ s=some (d,s')→(∀v Hf' H',Gr G Hf H Hf' H'→G.st s' H'→Rep G Hf' d v→Q v H')→ta σ H Q)
  (qb:∀(σ:St) (Hf H:Hp) (ρ:Rho) (s:Pn) (d:D) (s':Pn) (Q:VK),Ext G Hf H→EnvR G Hf σ ρ→G.st s H→fb ρ s=some (d,s')→(∀v Hf' H',Gr G Hf H Hf' H'→G.st s' H'→Rep G Hf' d v→Q v H')→tb σ H Q)
  (qo:∀(Hf H:Hp) (s:Pn) (x y:V) (d e c:D) (Q:VK),Ext G Hf H→G.st s H→Rep G Hf d x→Rep G Hf e y→g d e=some c→(∀v Hf' H',Gr G Hf H Hf' H'→G.st s H'→Rep G Hf' c v→FreshL G H Hf' c v→Q v H')→r x y H Q)
  (σ:St) (Hf H:Hp) (ρ:Rho) (s:Pn) (d:D) (s':Pn) (Q:VK) (e1:Ext G Hf H) (e2:EnvR G Hf σ ρ) (e3:G.st s H) (e4:dOp g fa fb ρ s=some (d,s'))
  (k:∀v Hf' H',Gr G Hf H Hf' H'→G.st s' H'→Rep G Hf' d v→FreshL G H Hf' d v→Q v H'):tOp r ta tb σ H Q:=by
 obtain ⟨da,s1,a1,a2⟩:=mbind_some e4
 obtain ⟨db,s2,a3,a4⟩:=mbind_some a2
 obtain ⟨a5,rfl⟩:=mOf_some a4
 refine qa σ Hf H ρ s da s1 _ e1 e2 e3 a1 fun x Hf1 H1 g1 st1 r1=>?_
 refine qb σ Hf1 H1 ρ s1 db _ _ g1.fh (e2.ext g1.ff) st1 a3 fun y Hf2 H2 g2 st2 r2=>?_
 refine qo Hf2 H2 _ x y da db d Q g2.fh st2 (r1.ext g2.ff) r2 a5 fun v Hf3 H3 g3 st3 r3 fz=>?_
 exact k v Hf3 H3 ((g1.trans g2).trans g3) st3 r3 (FreshL.old (g1.hh.trans g2.hh) r3.nofp fz)
theorem PD.drop {e:Expr} {f:Rho→M D} {fr:Bool} (h:PD X G fr e f):∃t,PE X e t∧∀(σ:St) (Hf H:Hp) (ρ:Rho) (s:Pn) (d:D) (s':Pn) (Q:VK),Ext G Hf H→EnvR G Hf σ ρ→G.st s H→f ρ s=some (d,s')→
  (∀v Hf' H',Gr G Hf H Hf' H'→G.st s' H'→Rep G Hf' d v→Q v H')→t σ H Q:=by
 obtain ⟨t,p,q⟩:=h
 exact ⟨t,p,fun σ Hf H ρ s d s' Q a b c d' k=>q σ Hf H ρ s d s' Q a b c d' fun v Hf' H' g1 g2 g3 _=>k v Hf' H' g1 g2 g3⟩
theorem pd_op {a b:Expr} {op:Operator} {pos:Pos} {fa fb:Rho→M D} {g:D→D→Option D} {r1 r2:Bool} (ho:OpD X G (binaryOp op) g) (ha:PD X G r1 a fa) (hb:PD X G r2 b fb):PD X G true (.BinOp a op b pos) (dOp g fa fb):=by
 obtain ⟨r,po,qo⟩:=ho
 obtain ⟨ta,pa,qa⟩:=ha.drop
 obtain ⟨tb,pb,qb⟩:=hb.drop
 exact ⟨_,pe_op po pa pb,fun σ Hf H ρ s d s' Q e1 e2 e3 e4 k=>op2D qa qb qo σ Hf H ρ s d s' Q e1 e2 e3 e4 fun v Hf' H' g1 g2 g3 fz=>k v Hf' H' g1 g2 g3 fun _=>fz⟩
theorem pd_cmp {a b:Expr} {op:CmpOp} {pos:Pos} {fa fb:Rho→M D} {g:D→D→Option D} {r1 r2:Bool} (ho:OpD X G (compareOp op) g) (ha:PD X G r1 a fa) (hb:PD X G r2 b fb)
  (hm:behindInMarks op b=false:=by first | exact nomark _ | with_unfolding_all rfl):PD X G true (.Compare a [op] [b] pos) (dOp g fa fb):=by
 obtain ⟨r,po,qo⟩:=ho
 obtain ⟨ta,pa,qa⟩:=ha.drop
 obtain ⟨tb,pb,qb⟩:=hb.drop
 exact ⟨_,pe_cmpR po pa pb hm,fun σ Hf H ρ s d s' Q e1 e2 e3 e4 k=>op2D qa qb qo σ Hf H ρ s d s' Q e1 e2 e3 e4 fun v Hf' H' g1 g2 g3 fz=>k v Hf' H' g1 g2 g3 fun _=>fz⟩
noncomputable def asB (f:Rho→M D):Rho→M Bool:=fun ρ=>mbind (f ρ) fun d=>match d with | .bl b=>mret b | _=>mfail
theorem asB_some {f:Rho→M D} {ρ:Rho} {s s':Pn} {b:Bool} (h:asB f ρ s=some (b,s')):f ρ s=some (.bl b,s'):=by
 obtain ⟨d,s1,a1,a2⟩:=mbind_some h
 cases d with
 | bl c=>obtain ⟨rfl,rfl⟩:=mret_some a2;exact a1
 | _=>cases a2
theorem pdt_cmp {a b:Expr} {op:CmpOp} {pos:Pos} {fa fb:Rho→M D} {g:D→D→Option D} {r1 r2:Bool} (ho:OpD X G (compareOp op) g) (ha:PD X G r1 a fa) (hb:PD X G r2 b fb)
  (hm:behindInMarks op b=false:=by first | exact nomark _ | with_unfolding_all rfl):PDT X G (.Compare a [op] [b] pos) (asB (dOp g fa fb)):=by
 obtain ⟨r,po,qo⟩:=ho
 obtain ⟨ta,pa,qa⟩:=ha.drop
 obtain ⟨tb,pb,qb⟩:=hb.drop
 refine ⟨_,pt_cmpR po pa pb hm,fun σ Hf H ρ s c s' Q e1 e2 e3 e4 k=>?_⟩
 exact op2D qa qb qo σ Hf H ρ s (.bl c) s' _ e1 e2 e3 (asB_some e4) fun v Hf' H' g1 g2 g3 fz=>⟨c,Rep.bl_iff.mp g3,k Hf' H' g1 g2⟩
theorem pdt_val {e:Expr} {f:Rho→M D} {fr:Bool} (h:PD X G fr e f) (he:∀whole,isTrue e X.env whole=(do let v←whole;standAt e.pos;holding [v] (truthy v)):=by intro _;rfl):PDT X G e (asB f):=by
 obtain ⟨t,p,q⟩:=h
 refine ⟨_,pt_val p he,fun σ Hf H ρ s c s' Q e1 e2 e3 e4 k=>?_⟩
 exact q σ Hf H ρ s (.bl c) s' _ e1 e2 e3 (asB_some e4) fun v Hf' H' g1 g2 g3 fz=>⟨c,Rep.bl_iff.mp g3,k Hf' H' g1 g2⟩
noncomputable def bNot (f:Rho→M Bool):Rho→M Bool:=fun ρ=>mbind (f ρ) fun b=>mret (!b)
theorem pdt_not {a:Expr} {pos:Pos} {f:Rho→M Bool} (h:PDT X G a f):PDT X G (.UnaryOp .Not a pos) (bNot f):=by
 obtain ⟨t,p,q⟩:=h
 refine ⟨_,pt_not p,fun σ Hf H ρ s c s' Q e1 e2 e3 e4 k=>?_⟩
 obtain ⟨b,s1,a1,a2⟩:=mbind_some e4
 obtain ⟨rfl,rfl⟩:=mret_some a2
 exact q σ Hf H ρ s b s' _ e1 e2 e3 a1 fun Hf' H' g1 g2=>k Hf' H' g1 g2
noncomputable def bAnd (f g:Rho→M Bool):Rho→M Bool:=fun ρ=>mbind (f ρ) fun b=>if b=true then g ρ else mret false
noncomputable def bOr (f g:Rho→M Bool):Rho→M Bool:=fun ρ=>mbind (f ρ) fun b=>if b=true then mret true else g ρ
noncomputable def PDW (X:Cx) (G:Gh) (e:Expr) (f:Rho→M Bool):Prop:=
 ∃t,PW X e t∧∀(σ:St) (Hf H:Hp) (ρ:Rho) (s:Pn) (b:Bool) (s':Pn) (Q:Bool→Hp→Prop),Ext G Hf H→EnvR G Hf σ ρ→G.st s H→f ρ s=some (b,s')→
  (∀Hf' H',Gr G Hf H Hf' H'→G.st s' H'→Q b H')→t σ H Q
theorem PDW.pt {e:Expr} {f:Rho→M Bool} (h:PDW X G e f):PDT X G e f:=by
 obtain ⟨t,p,q⟩:=h
 exact ⟨t,p.pt,q⟩
theorem pdw_and1 {a:Expr} {pos:Pos} {f:Rho→M Bool} (h:PDT X G a f):PDW X G (.BoolOp .And [a] pos) f:=by
 obtain ⟨t,p,q⟩:=h
 exact ⟨t,pw_and1 p,q⟩
theorem pdw_or1 {a:Expr} {pos:Pos} {f:Rho→M Bool} (h:PDT X G a f):PDW X G (.BoolOp .Or [a] pos) f:=by
 obtain ⟨t,p,q⟩:=h
 exact ⟨t,pw_or1 p,q⟩
theorem pdw_and {a b:Expr} {rest:List Expr} {pos:Pos} {f g:Rho→M Bool} (h:PDT X G a f) (h2:PDW X G (.BoolOp .And (b::rest) pos) g):PDW X G (.BoolOp .And (a::b::rest) pos) (bAnd f g):=by
 obtain ⟨t,p,q⟩:=h
 obtain ⟨u,p2,q2⟩:=h2
 refine ⟨_,pw_and p p2,fun σ Hf H ρ s c s' Q e1 e2 e3 e4 k=>?_⟩
 obtain ⟨b,s1,a1,a2⟩:=mbind_some e4
 refine q σ Hf H ρ s b s1 _ e1 e2 e3 a1 fun Hf1 H1 g1 st1=>?_
 cases b with
 | true=>exact q2 σ Hf1 H1 ρ s1 c s' _ g1.fh (e2.ext g1.ff) st1 a2 fun Hf2 H2 g2 st2=>k Hf2 H2 (g1.trans g2) st2
 | false=>obtain ⟨rfl,rfl⟩:=mret_some a2;exact k Hf1 H1 g1 st1
theorem pdw_or {a b:Expr} {rest:List Expr} {pos:Pos} {f g:Rho→M Bool} (h:PDT X G a f) (h2:PDW X G (.BoolOp .Or (b::rest) pos) g):PDW X G (.BoolOp .Or (a::b::rest) pos) (bOr f g):=by
 obtain ⟨t,p,q⟩:=h
 obtain ⟨u,p2,q2⟩:=h2
 refine ⟨_,pw_or p p2,fun σ Hf H ρ s c s' Q e1 e2 e3 e4 k=>?_⟩
 obtain ⟨b,s1,a1,a2⟩:=mbind_some e4
 refine q σ Hf H ρ s b s1 _ e1 e2 e3 a1 fun Hf1 H1 g1 st1=>?_
 cases b with
 | true=>obtain ⟨rfl,rfl⟩:=mret_some a2;exact k Hf1 H1 g1 st1
 | false=>exact q2 σ Hf1 H1 ρ s1 c s' _ g1.fh (e2.ext g1.ff) st1 a2 fun Hf2 H2 g2 st2=>k Hf2 H2 (g1.trans g2) st2
noncomputable def vAnd (f g:Rho→M D):Rho→M D:=fun ρ=>mbind (f ρ) fun d=>match d with | .bl true=>g ρ | .bl false=>mret (.bl false) | _=>mfail
noncomputable def vOr (f g:Rho→M D):Rho→M D:=fun ρ=>mbind (f ρ) fun d=>match d with | .bl true=>mret (.bl true) | .bl false=>g ρ | _=>mfail
noncomputable def vNot (f:Rho→M D):Rho→M D:=fun ρ=>mbind (f ρ) fun d=>match d with | .bl b=>mret (.bl (!b)) | _=>mfail
theorem pd_one {op} {a:Expr} {pos:Pos} {fr:Bool} {f:Rho→M D} (h:PD X G fr a f):PD X G false (.BoolOp op [a] pos) f:=by
 obtain ⟨t,p,q⟩:=h.weak
 exact ⟨t,pe_one p,q⟩
theorem pd_and {a b:Expr} {rest:List Expr} {pos:Pos} {r1 r2:Bool} {f g:Rho→M D} (h:PD X G r1 a f) (h2:PD X G r2 (.BoolOp .And (b::rest) pos) g):PD X G false (.BoolOp .And (a::b::rest) pos) (vAnd f g):=by
 obtain ⟨t,p,q⟩:=h.drop
 obtain ⟨u,p2,q2⟩:=h2.drop
 refine ⟨_,pe_and p p2,fun σ Hf H ρ s c s' Q e1 e2 e3 e4 k=>?_⟩
 obtain ⟨d,s1,a1,a2⟩:=mbind_some e4
 refine q σ Hf H ρ s d s1 _ e1 e2 e3 a1 fun v Hf1 H1 g1 st1 r1=>?_
 cases d with
 | bl b=>
  cases b with
  | true=>exact ⟨true,Rep.bl_iff.mp r1,iteT (q2 σ Hf1 H1 ρ s1 c s' _ g1.fh (e2.ext g1.ff) st1 a2 fun v Hf2 H2 g2 st2 r2=>k v Hf2 H2 (g1.trans g2) st2 r2 (fun z=>by cases z))⟩
  | false=>obtain ⟨rfl,rfl⟩:=mret_some a2;exact ⟨false,Rep.bl_iff.mp r1,iteF (k _ Hf1 H1 g1 st1 (Rep.bl_iff.mpr rfl) (fun z=>by cases z))⟩
 | _=>cases a2
theorem pd_not {a:Expr} {pos:Pos} {r1:Bool} {f:Rho→M D} (h:PD X G r1 a f):PD X G true (.UnaryOp .Not a pos) (vNot f):=by
 obtain ⟨t,p,q⟩:=h.drop
 refine ⟨_,pe_not p,fun σ Hf H ρ s c s' Q e1 e2 e3 e4 k=>?_⟩
 obtain ⟨d,s1,a1,a2⟩:=mbind_some e4
 refine q σ Hf H ρ s d s1 _ e1 e2 e3 a1 fun v Hf1 H1 g1 st1 r1=>?_
 cases d with
 | bl b=>obtain ⟨rfl,rfl⟩:=mret_some a2;exact ⟨b,Rep.bl_iff.mp r1,k _ Hf1 H1 g1 st1 (Rep.bl_iff.mpr rfl) fun _=>.scal fun z=>z⟩
 | _=>cases a2
noncomputable def CallD (X:Cx) (G:Gh) (f:Value) (g:List D→Option D):Prop:=
 ∃r,CallR X f r∧∀(Hf H:Hp) (s:Pn) (xs:List V) (ds:List D) (c:D) (Q:VK),Ext G Hf H→G.st s H→RepL G Hf ds xs→g ds=some c→
  (∀v Hf' H',Gr G Hf H Hf' H'→G.st s H'→Rep G Hf' c v→FreshL G H Hf' c v→Q v H')→r xs H Q
noncomputable def dCall (g:List D→Option D) (fs:Rho→M (List D)):Rho→M D:=fun ρ=>mbind (fs ρ) fun ds=>mOf (g ds)
theorem pd_callB {id:String} {x:Str} {p pos:Pos} {e:Expr} {es:List Expr} {g:List D→Option D} {fs:Rho→M (List D)} (hc:CallD X G (.builtin id) g) (hg:Gl X x) (hm:X.mg x=none) (hv:bootBuiltins x=some (.builtin id)) (ha:PDA X G (e::es) fs)
  (hn:x≠"__name__":=by decide) (hdb:(x==("__debug__" : Str))=false:=by decide)
  (he:starEach (e::es) X.env=(false,eval e X.env)::starEach es X.env:=by rfl) (hpl:(backTo pos (starEach es X.env)).any (·.1)=false:=by rfl):PD X G true (.Call (.Name x p) (e::es) [] pos) (dCall g fs):=by
 obtain ⟨r,pr,qr⟩:=hc
 obtain ⟨t,pa,qa⟩:=ha
 refine ⟨_,pe_callB pr hg hm hv pa hn hdb he hpl,fun σ Hf H ρ s d s' Q e1 e2 e3 e4 k=>?_⟩
 obtain ⟨ds,s1,a1,a2⟩:=mbind_some e4
 obtain ⟨a3,rfl⟩:=mOf_some a2
 refine qa σ Hf H ρ s ds _ _ e1 e2 e3 a1 fun vs Hf1 H1 g1 st1 r1=>?_
 exact qr Hf1 H1 _ vs ds d Q g1.fh st1 r1 a3 fun v Hf2 H2 g2 st2 r2 fz=>k v Hf2 H2 (g1.trans g2) st2 r2 fun _=>FreshL.old g1.hh r2.nofp fz
theorem pd_callTy {T:String} {x:Str} {p pos:Pos} {e:Expr} {es:List Expr} {g:List D→Option D} {fs:Rho→M (List D)} (hc:CallD X G (.type T) g) (hg:Gl X x) (hm:X.mg x=none) (hv:bootBuiltins x=some (.type T)) (ha:PDA X G (e::es) fs)
  (hn:x≠"__name__":=by decide) (hdb:(x==("__debug__" : Str))=false:=by decide)
  (he:starEach (e::es) X.env=(false,eval e X.env)::starEach es X.env:=by rfl) (hpl:(backTo pos (starEach es X.env)).any (·.1)=false:=by rfl):PD X G true (.Call (.Name x p) (e::es) [] pos) (dCall g fs):=by
 obtain ⟨r,pr,qr⟩:=hc
 obtain ⟨t,pa,qa⟩:=ha
 refine ⟨_,pe_callTy pr hg hm hv pa hn hdb he hpl,fun σ Hf H ρ s d s' Q e1 e2 e3 e4 k=>?_⟩
 obtain ⟨ds,s1,a1,a2⟩:=mbind_some e4
 obtain ⟨a3,rfl⟩:=mOf_some a2
 refine qa σ Hf H ρ s ds _ _ e1 e2 e3 a1 fun vs Hf1 H1 g1 st1 r1=>?_
 exact qr Hf1 H1 _ vs ds d Q g1.fh st1 r1 a3 fun v Hf2 H2 g2 st2 r2 fz=>k v Hf2 H2 (g1.trans g2) st2 r2 fun _=>FreshL.old g1.hh r2.nofp fz
noncomputable def IxD (X:Cx) (G:Gh) (g:D→D→Option D):Prop:=
 ∃r,IxR X r∧∀(Hf H:Hp) (s:Pn) (x y:V) (d e c:D) (Q:VK),Ext G Hf H→G.st s H→Rep G Hf d x→Rep G Hf e y→g d e=some c→
  (∀v,Rep G Hf c v→Q v H)→r x y H Q
theorem pd_ix {a b:Expr} {pos:Pos} {fa fb:Rho→M D} {g:D→D→Option D} {r1 r2:Bool} (ho:IxD X G g) (ha:PD X G r1 a fa) (hb:PD X G r2 b fb) (hs:PlainIx b:=by intro _ _;rfl):PD X G false (.Subscript a b pos) (dOp g fa fb):=by
 obtain ⟨r,po,qo⟩:=ho
 obtain ⟨ta,pa,qa⟩:=ha.drop
 obtain ⟨tb,pb,qb⟩:=hb.drop
 refine ⟨_,pe_ix po pa pb hs,fun σ Hf H ρ s d s' Q e1 e2 e3 e4 k=>?_⟩
 obtain ⟨da,s1,a1,a2⟩:=mbind_some e4
 obtain ⟨db,s2,a3,a4⟩:=mbind_some a2
 obtain ⟨a5,rfl⟩:=mOf_some a4
 refine qa σ Hf H ρ s da s1 _ e1 e2 e3 a1 fun x Hf1 H1 g1 st1 r1=>?_
 refine qb σ Hf1 H1 ρ s1 db _ _ g1.fh (e2.ext g1.ff) st1 a3 fun y Hf2 H2 g2 st2 r2=>?_
 exact qo Hf2 H2 _ x y da db d Q g2.fh st2 (r1.ext g2.ff) r2 a5 fun v r3=>k v Hf2 H2 (g1.trans g2) st2 r3 (fun z=>by cases z)
noncomputable def spD (n:Nat) (fr:Bool) (GG:Gh→Prop) (F:List D→M D):Sp:=fun vs H Q _=>∃(G:Gh) (Hf:Hp) (ds:List D) (s:Pn) (d:D) (s':Pn),GG G∧vs.length=n∧Ext G Hf H∧RepL G Hf ds vs∧G.st s H∧F ds s=some (d,s')∧
 ∀v Hf' H',Gr G Hf H Hf' H'→G.st s' H'→Rep G Hf' d v→(fr=true→FreshL G H Hf' d v)→Q v H'
noncomputable def dFn (F:List D→M D) (fs:Rho→M (List D)):Rho→M D:=fun ρ=>mbind (fs ρ) F
theorem pd_call {CX:CXT} {k:Nat} {f:Addr} {fd:FuncData} {ps:List Str} {n:Nat} {fr:Bool} {GG:Gh→Prop} {F:List D→M D} {E:XK} {x:Str} {p pos:Pos} {e:Expr} {es:List Expr} {fs:Rho→M (List D)}
  (FN:FnOk X.prog X.w X.K X.mg X.base CX k f fd ps (spD n fr GG F)) (hG:GG G) (hr:Room k X.A) (hg:Gl X x) (hm:X.mg x=some (.ref f)) (hk:PySem.W.keepIn X.K (.ref f)=true) (hb:Binds X.K fd ps []) (hx:Passes CX X E)
  (ha:PDA X G (e::es) fs) (hlen:(e::es).length=n:=by rfl) (hal:∀ρ s ds s',fs ρ s=some (ds,s')→ds.length=(e::es).length)
  (hdb:(x==("__debug__" : Str))=false:=by decide) (he:starEach (e::es) X.env=(false,eval e X.env)::starEach es X.env:=by rfl) (hpl:(backTo pos (starEach es X.env)).any (·.1)=false:=by rfl) :
  PD X G fr (.Call (.Name x p) (e::es) [] pos) (dFn F fs):=by
 obtain ⟨t,pa,qa⟩:=ha
 refine ⟨_,pe_call FN hr hg hm hk hb .nil hx pa hdb he hpl,fun σ Hf H ρ s d s' Q e1 e2 e3 e4 k=>?_⟩
 obtain ⟨ds,s1,a1,a2⟩:=mbind_some e4
 refine qa σ Hf H ρ s ds _ _ e1 e2 e3 a1 fun vs Hf1 H1 g1 st1 r1=>?_
 refine ⟨G,Hf1,ds,s1,d,s',hG,by rw [List.append_nil,←r1.length,hal _ _ _ _ a1];exact hlen,g1.fh,by rw [List.append_nil];exact r1,st1,a2,fun v Hf2 H2 g2 st2 r2 fz=>?_⟩
 exact k v Hf2 H2 (g1.trans g2) st2 r2 fun z=>FreshL.old g1.hh r2.nofp (fz z)
theorem dCons_len {f:Rho→M D} {g:Rho→M (List D)} {n:Nat} (h:∀ρ s ds s',g ρ s=some (ds,s')→ds.length=n):∀ρ s ds s',dCons f g ρ s=some (ds,s')→ds.length=n+1:=fun ρ s ds s' q=>by
 obtain ⟨d,s1,a1,a2⟩:=mbind_some q
 obtain ⟨r,s2,a3,a4⟩:=mbind_some a2
 obtain ⟨rfl,rfl⟩:=mret_some a4
 simp [h _ _ _ _ a3]
theorem dNil_len:∀ρ s ds s',dNil ρ s=some (ds,s')→ds.length=0:=fun ρ s ds s' q=>by
 obtain ⟨rfl,rfl⟩:=mret_some q
 rfl
end
mutual
noncomputable def noMut:D→Bool
 | .tup ds=>noMuts ds
 | .lst _=>false
 | .dk _=>false
 | .dt _=>false
 | .du _=>false
 | .df _=>false
 | .clo _ _=>false
 | _=>true
noncomputable def noMuts:List D→Bool
 | []=>true
 | d::ds=>noMut d&&noMuts ds
end
mutual
theorem Rep.only {G:Gh} {H H':Hp} (e:∀b vs,¬G.fp b→H b=some (.tup vs)→H' b=some (.tup vs)):∀{d:D} {v:V},noMut d=true→Rep G H d v→Rep G H' d v
 | .non,_,_,h=>h
 | .bl _,_,_,h=>h
 | .int _,_,_,h=>h
 | .str _,_,_,h=>h
 | .tup ds,v,n,h=>by
  obtain ⟨a,vs,e1,nf,e2,r⟩:=Rep.tup_iff.mp h
  exact Rep.tup_iff.mpr ⟨a,vs,e1,nf,e _ _ nf e2,RepL.only e (by simpa [noMut] using n) r⟩
 | .lst ds,v,n,h=>by simp [noMut] at n
 | .dk kvs,v,n,h=>by simp [noMut] at n
 | .dt kvs,v,n,h=>by simp [noMut] at n
 | .du kvs,v,n,h=>by simp [noMut] at n
 | .df kvs,v,n,h=>by simp [noMut] at n
 | .pen,_,_,h=>h
 | .ty _,_,_,h=>h
 | .clo _ _,v,n,h=>by simp [noMut] at n
theorem RepL.only {G:Gh} {H H':Hp} (e:∀b vs,¬G.fp b→H b=some (.tup vs)→H' b=some (.tup vs)):∀{ds:List D} {vs:List V},noMuts ds=true→RepL G H ds vs→RepL G H' ds vs
 | [],_,_,h=>h
 | d::ds,vs,n,h=>by
  obtain ⟨v,r,e1,r1,r2⟩:=RepL.cons_iff.mp h
  have n':noMut d=true∧noMuts ds=true:=by simpa [noMuts] using n
  exact RepL.cons_iff.mpr ⟨v,r,e1,Rep.only e n'.1 r1,RepL.only e n'.2 r2⟩
end
noncomputable def OwnRep (G:Gh) (Hf H:Hp) (a:Addr):D→Prop
 | .lst ds=>∃vs,H a=some (.lst vs)∧RepL G Hf ds vs
 | .dk kvs=>H a=some (.dK kvs)
 | .dt kvs=>∃o,H a=some (.frz o (.dT kvs))
 | .du kvs=>H a=some (.dT kvs)
 | _=>False
theorem OwnRep.there {G:Gh} {Hf H:Hp} {a:Addr} {d:D} (h:OwnRep G Hf H a d):∃o,H a=some o∧∀vs,o≠.tup vs:=by
 cases d with
 | lst ds=>obtain ⟨vs,e,_⟩:=h;exact ⟨_,e,fun _ z=>by cases z⟩
 | dk kvs=>exact ⟨_,h,fun _ z=>by cases z⟩
 | dt kvs=>obtain ⟨o,h⟩:=h;exact ⟨_,h,fun _ z=>by cases z⟩
 | du kvs=>exact ⟨_,h,fun _ z=>by cases z⟩
 | _=>exact h.elim
theorem OwnRep.keep {G:Gh} {Hf H Hf' H':Hp} {a:Addr} {d:D} (h:OwnRep G Hf H a d) (e:Ext G Hf Hf') (ha:∀o,H a=some o→H' a=some o):OwnRep G Hf' H' a d:=by
 cases d with
 | lst ds=>obtain ⟨vs,q,r⟩:=h;exact ⟨vs,ha _ q,r.ext e⟩
 | dk kvs=>exact ha _ h
 | dt kvs=>obtain ⟨o,h⟩:=h;exact ⟨o,ha _ h⟩
 | du kvs=>exact ha _ h
 | _=>exact h.elim
theorem OwnRep.rep {G:Gh} {Hf H Hf':Hp} {a:Addr} {d:D} (h:OwnRep G Hf H a d) (nf:¬G.fp a) (e:Ext G Hf Hf') (ha:∀o,H a=some o→Hf' a=some o):Rep G Hf' d (.ref a):=by
 cases d with
 | lst ds=>obtain ⟨vs,q,r⟩:=h;exact Rep.lst_iff.mpr ⟨a,vs,rfl,nf,ha _ q,r.ext e⟩
 | dk kvs=>exact Rep.dk_iff.mpr ⟨a,rfl,nf,ha _ h⟩
 | dt kvs=>obtain ⟨o,h⟩:=h;exact Rep.dt_iff.mpr ⟨a,o,rfl,nf,ha _ h⟩
 | du kvs=>exact Rep.du_iff.mpr ⟨a,rfl,nf,ha _ h⟩
 | _=>exact h.elim
structure Jf (G:Gh) (own:List Nat) (kn Hf0 H0:Hp) (σ:St) (Hf H:Hp) (ρ:Rho):Prop where
 len:σ.length=ρ.length
 kn:Ext G kn Hf
 gr:Gr G Hf0 H0 Hf H
 fz:∀(i:Nat) (d:D),i∉own→ρ[i]?=some (some d)→∃v,σ[i]?=some (some v)∧Rep G Hf d v
 ow:∀(i:Nat) (d:D),i∈own→ρ[i]?=some (some d)→∃a,σ[i]?=some (some (.ref a))∧¬G.rd a∧Hf a=none∧H0 a=none∧OwnRep G Hf H a d
 ne:∀(i j:Nat) (a:Addr) (di dj:D),i∈own→j∈own→i≠j→ρ[i]?=some (some di)→ρ[j]?=some (some dj)→σ[i]?=some (some (.ref a))→σ[j]?=some (some (.ref a))→False
noncomputable def J (G:Gh) (own:List Nat) (kn Hf0 H0:Hp) (σ:St) (H:Hp) (ρ:Rho):Prop:=∃Hf,Jf G own kn Hf0 H0 σ Hf H ρ
noncomputable def hide (own:List Nat) (ρ:Rho):Rho:=ρ.mapIdx fun i o=>if i∈own then none else o
theorem hide_nil (ρ:Rho):hide [] ρ=ρ:=by
 unfold hide
 apply List.ext_getElem?
 intro i
 simp
theorem hide_get {own:List Nat} {ρ:Rho} {i:Nat} {d:D} (h:(hide own ρ)[i]?=some (some d)):i∉own∧ρ[i]?=some (some d):=by
 unfold hide at h
 rw [List.getElem?_mapIdx] at h
 cases e:ρ[i]? with
 | none=>rw [e] at h;cases h
 | some o=>
  rw [e] at h
  simp only [Option.map_some,Option.some.injEq] at h
  split at h
  ·cases h
  ·rename_i hn;exact ⟨hn,by rw [h]⟩
section
variable {X:Cx} {G:Gh} {own:List Nat} {kn Hf0 H0 Hf H:Hp} {σ:St} {ρ:Rho}
theorem Jf.envA (j:Jf G own kn Hf0 H0 σ Hf H ρ):EnvR G Hf σ (hide own ρ):=fun i d e=>by
 obtain ⟨n,q⟩:=hide_get e
 exact j.fz i d n q
theorem Gh.sub' {G:Gh} {a:Addr} (h:¬G.rd a):¬G.fp a:=fun z=>h (G.sub a z)
theorem Jf.grow {Hf' H':Hp} (j:Jf G own kn Hf0 H0 σ Hf H ρ) (g:Gr G Hf H Hf' H'):Jf G own kn Hf0 H0 σ Hf' H' ρ where
 len:=j.len
 kn:=j.kn.trans g.ff
 gr:=j.gr.trans g
 fz:=fun i d n e=>let ⟨v,a,b⟩:=j.fz i d n e;⟨v,a,b.ext g.ff⟩
 ow:=fun i d m e=>by
  obtain ⟨a,h1,h2,h3,h4,h5⟩:=j.ow i d m e
  have nf:=Gh.sub' h2
  refine ⟨a,h1,h2,?_,h4,h5.keep g.ff fun o q=>g.hh a o nf q⟩
  exact g.nw a nf h3 h5.there
 ne:=j.ne
noncomputable def wide (Hf0 H0 H:Hp):Hp:=fun b=>open Classical in if Hf0 b=none∧Nt (H0 b) then none else H b
theorem wide_ext {Hf0 H0 H:Hp}:Ext G (wide Hf0 H0 H) H:=fun b o _ e=>by
 unfold wide at e
 split at e
 ·cases e
 ·exact e
theorem Jf.wideF (j:Jf G own kn Hf0 H0 σ Hf H ρ):Ext G Hf (wide Hf0 H0 H):=fun b o n e=>by
 unfold wide
 split
 ·rename_i h
  rw [j.gr.nw b n h.1 h.2] at e;cases e
 ·exact j.gr.fh b o n e
theorem Jf.envB (j:Jf G own kn Hf0 H0 σ Hf H ρ):EnvR G (wide Hf0 H0 H) σ ρ:=fun i d e=>by
 by_cases m:i∈own
 ·obtain ⟨a,h1,h2,h3,h4,h5⟩:=j.ow i d m e
  refine ⟨_,h1,h5.rep (Gh.sub' h2) j.wideF fun o q=>?_⟩
  unfold wide
  rw [if_neg (fun z=>z.2.no h4)]
  exact q
 ·obtain ⟨v,h1,h2⟩:=j.fz i d m e
  exact ⟨v,h1,h2.ext j.wideF⟩
theorem Jf.grW {Hf' H':Hp} (j:Jf G own kn Hf0 H0 σ Hf H ρ) (g:Gr G (wide Hf0 H0 H) H Hf' H'):Gr G Hf0 H0 Hf' H' where
 hh:=j.gr.hh.trans g.hh
 ff:=fun b o n e=>g.ff b o n (j.wideF b o n (j.gr.ff b o n e))
 fh:=g.fh
 nw:=fun b n h1 h2=>g.nw b n (by unfold wide;rw [if_pos ⟨h1,h2⟩]) (let ⟨u,e,nt⟩:=h2;⟨u,j.gr.hh b u n e,nt⟩)
noncomputable def okB:D→Bool
 | .lst ds=>noMuts ds
 | .dk _=>true
 | .dt _=>true
 | .du _=>true
 | _=>false
theorem okB_mut {d:D} (h:okB d=true):isMut d:=by
 cases d <;> first | trivial | (simp [okB] at h)
theorem Jf.growB {Hf' H':Hp} (j:Jf G own kn Hf0 H0 σ Hf H ρ) (g:Gr G (wide Hf0 H0 H) H Hf' H') :
  ∃Hf'',Jf G own kn Hf0 H0 σ Hf'' H' ρ∧Ext G Hf Hf''∧(∀d v,noMut d=true→Rep G Hf' d v→Rep G Hf'' d v)∧∀d v,okB d=true→FreshL G H Hf' d v→Rep G Hf' d v→Rep G Hf'' d v∧FreshL G H Hf'' d v:=by
 classical
 -- the owned addresses are left out again
 let OA:Addr→Prop:=fun b=>∃i d,i∈own∧ρ[i]?=some (some d)∧σ[i]?=some (some (.ref b))
 have oaH:∀b,OA b→Hf b=none∧¬G.rd b∧∃o,H b=some o∧∀vs,o≠.tup vs:=fun b ⟨i,d,m,e,q⟩=>by
  obtain ⟨a,h1,h2,h3,h4,h5⟩:=j.ow i d m e
  rw [q] at h1;cases h1
  exact ⟨h3,h2,h5.there⟩
 have W:=j.grW g
 refine ⟨fun b=>if OA b then none else Hf' b,?_⟩
 have fF:Ext G Hf (fun b=>if OA b then none else Hf' b):=fun b o n e=>by
  have:¬OA b:=fun z=>by rw [(oaH b z).1] at e;cases e
  show (if OA b then none else Hf' b)=_
  rw [if_neg this]
  exact g.ff b o n (j.wideF b o n e)
 have Fh:Ext G (fun b=>if OA b then none else Hf' b) H':=fun b o n e=>by
  have e':(if OA b then none else Hf' b)=some o:=e
  split at e'
  ·cases e'
  ·exact g.fh b o n e'
 have tupK:∀b vs,¬G.fp b→Hf' b=some (.tup vs)→(if OA b then none else Hf' b)=some (.tup vs):=fun b vs nf e=>by
  have:¬OA b:=fun z=>by
   obtain ⟨_,_,o,q,nt⟩:=oaH b z
   have q1:=g.hh b o nf q
   have q2:=g.fh b _ nf e
   rw [q1] at q2
   exact nt vs (Option.some.inj q2)
  rw [if_neg this]
  exact e
 have frK:∀a,H a=none→¬OA a:=fun a e z=>by
  obtain ⟨_,_,o,q,nt⟩:=oaH a z
  rw [e] at q;cases q
 refine ⟨⟨j.len,j.kn.trans fF,⟨W.hh,j.gr.ff.trans fF,Fh,fun b n h1 h2=>?_⟩,fun i d n e=>?_,fun i d m e=>?_,j.ne⟩,fF,fun d v n r=>Rep.only tupK n r,fun d v ok fr r=>?_⟩
 ·show (if OA b then none else Hf' b)=none
  split
  ·rfl
  ·exact W.nw b n h1 h2
 ·obtain ⟨v,a,b⟩:=j.fz i d n e
  exact ⟨v,a,b.ext fF⟩
 ·obtain ⟨a,h1,h2,h3,h4,h5⟩:=j.ow i d m e
  refine ⟨a,h1,h2,?_,h4,h5.keep fF fun o q=>g.hh a o (Gh.sub' h2) q⟩
  show (if OA a then none else Hf' a)=none
  rw [if_pos ⟨i,d,m,e,h1⟩]
 ·cases d with
  | lst ds=>
   obtain ⟨a,vs,e,n,q,r'⟩:=Rep.lst_iff.mp r
   have na:=frK a (fr a e trivial).1
   have ea:(if OA a then none else Hf' a)=some (.lst vs):=by rw [if_neg na];exact q
   refine ⟨Rep.lst_iff.mpr ⟨a,vs,e,n,ea,RepL.only tupK ok r'⟩,fun b eb m=>?_⟩
   rw [e] at eb;cases eb
   refine ⟨(fr a e trivial).1,fun ds' ed=>?_⟩
   cases ed
   refine ⟨vs,fun b=>if b=a then none else if OA b then none else Hf' b,ea,if_pos rfl,fun b o nb eb=>?_,?_⟩
   ·have eb':(if b=a then none else if OA b then none else Hf' b)=some o:=eb
    split at eb'
    ·cases eb'
    ·exact eb'
   ·refine RepL.only (fun b ws nb eb=>?_) ok r'
    have hba:b≠a:=fun z=>by rw [z,q] at eb;cases eb
    show (if b=a then none else if OA b then none else Hf' b)=_
    rw [if_neg hba]
    exact tupK b ws nb eb
  | dk ds=>
   obtain ⟨a,e,n,q⟩:=Rep.dk_iff.mp r
   have na:=frK a (fr a e trivial).1
   refine ⟨Rep.dk_iff.mpr ⟨a,e,n,?_⟩,fun b eb m=>⟨(fr b eb m).1,fun ds' ed=>by cases ed⟩⟩
   show (if OA a then none else Hf' a)=_
   rw [if_neg na];exact q
  | dt ds=>
   obtain ⟨a,o,e,n,q⟩:=Rep.dt_iff.mp r
   have na:=frK a (fr a e trivial).1
   refine ⟨Rep.dt_iff.mpr ⟨a,o,e,n,?_⟩,fun b eb m=>⟨(fr b eb m).1,fun ds' ed=>by cases ed⟩⟩
   show (if OA a then none else Hf' a)=_
   rw [if_neg na];exact q
  | du ds=>
   obtain ⟨a,e,n,q⟩:=Rep.du_iff.mp r
   have na:=frK a (fr a e trivial).1
   refine ⟨Rep.du_iff.mpr ⟨a,e,n,?_⟩,fun b eb m=>⟨(fr b eb m).1,fun ds' ed=>by cases ed⟩⟩
   show (if OA a then none else Hf' a)=_
   rw [if_neg na];exact q
  | _=>exact absurd (okB_mut ok) (fun z=>z)
theorem Jf.set {i:Nat} {d:D} {v:V} {own':List Nat} (j:Jf G own kn Hf0 H0 σ Hf H ρ) (ho:∀k,k∈own'→k≠i∧k∈own) (hk:∀k,k∈own→k≠i→k∈own') (r:Rep G Hf d v):Jf G own' kn Hf0 H0 (σ.set i (some v)) Hf H (ρ.set i (some d)) where
 len:=by simp [j.len]
 kn:=j.kn
 gr:=j.gr
 fz:=fun k c n e=>by
  by_cases h:i=k
  ·subst h
   have hl:i < ρ.length:=by
    have:=(List.getElem?_eq_some_iff.mp e).1
    simpa using this
   rw [List.getElem?_set_self hl] at e
   cases e
   exact ⟨v,List.getElem?_set_self (by rw [j.len];exact hl),r⟩
  ·rw [List.getElem?_set_ne h] at e ⊢
   exact j.fz k c (fun z=>n (hk k z (Ne.symm h))) e
 ow:=fun k c m e=>by
  have h:i≠k:=Ne.symm (ho k m).1
  rw [List.getElem?_set_ne h] at e ⊢
  exact j.ow k c (ho k m).2 e
 ne:=fun k l a dk dl mk ml n ek el sk sl=>by
  have h:i≠k:=Ne.symm (ho k mk).1
  have h':i≠l:=Ne.symm (ho l ml).1
  rw [List.getElem?_set_ne h] at ek sk
  rw [List.getElem?_set_ne h'] at el sl
  exact j.ne k l a dk dl (ho k mk).2 (ho l ml).2 n ek el sk sl
noncomputable def isMutB:D→Bool
 | .lst _=>true
 | .dk _=>true
 | .dt _=>true
 | .du _=>true
 | _=>false
theorem isMutB_mut {d:D} (h:isMutB d=true):isMut d:=by
 cases d <;> first | trivial | (simp [isMutB] at h)
theorem Jf.setOwn {i:Nat} {d:D} {v:V} {Hb Hq:Hp} {s:Pn} {own':List Nat} (j0:Jf G own kn Hf0 H0 σ Hq Hb ρ) (j:Jf G own kn Hf0 H0 σ Hf H ρ) (ho:∀k,k∈own'↔k=i∨k∈own) (st:G.st s Hb) (hb:Ext G Hb H) (hq:Ext G Hq Hf)
  (r:Rep G Hf d v) (fr:FreshL G Hb Hf d v) (ok:isMutB d=true):∃Hf',Jf G own' kn Hf0 H0 (σ.set i (some v)) Hf' H (ρ.set i (some d)):=by
 classical
 have mu:=isMutB_mut ok
 obtain ⟨a,ea,nfa⟩:∃a,v=.ref a∧¬G.fp a:=by
  cases d with
  | lst ds=>obtain ⟨a,vs,e,n,_⟩:=Rep.lst_iff.mp r;exact ⟨a,e,n⟩
  | dk ds=>obtain ⟨a,e,n,_⟩:=Rep.dk_iff.mp r;exact ⟨a,e,n⟩
  | dt ds=>obtain ⟨a,_,e,n,_⟩:=Rep.dt_iff.mp r;exact ⟨a,e,n⟩
  | du ds=>obtain ⟨a,e,n,_⟩:=Rep.du_iff.mp r;exact ⟨a,e,n⟩
  | _=>exact mu.elim
 subst ea
 have fra:Hb a=none:=(fr a rfl mu).1
 have hqa:Hq a=none:=by
  cases e:Hq a with
  | none=>rfl
  | some o=>rw [j0.gr.fh a o nfa e] at fra;cases fra
 have h0a:H0 a=none:=by
  cases e:H0 a with
  | none=>rfl
  | some o=>rw [j0.gr.hh a o nfa e] at fra;cases fra
 have qF:Ext G Hq (fun b=>if b=a then none else Hf b):=fun b o n e=>by
  have:b≠a:=fun z=>by rw [z,hqa] at e;cases e
  show (if b=a then none else Hf b)=_
  rw [if_neg this];exact hq b o n e
 have oldA:∀k c,k∈own→ρ[k]?=some (some c)→σ[k]?≠some (some (.ref a)):=fun k c m e z=>by
  obtain ⟨b,h1,_,_,_,h5⟩:=j0.ow k c m e
  rw [z] at h1;cases h1
  obtain ⟨o,q,_⟩:=h5.there
  rw [fra] at q;cases q
 refine ⟨fun b=>if b=a then none else Hf b,by simp [j.len],j0.kn.trans qF,⟨j.gr.hh,j0.gr.ff.trans qF,fun b o n e=>?_,fun b n h1 h2=>?_⟩,fun k c n e=>?_,fun k c m e=>?_,fun k l b dk dl mk ml n ek el sk sl=>?_⟩
 ·have e':(if b=a then none else Hf b)=some o:=e
  split at e'
  ·cases e'
  ·exact j.gr.fh b o n e'
 ·show (if b=a then none else Hf b)=none
  split
  ·rfl
  ·exact j.gr.nw b n h1 h2
 ·have h:i≠k:=fun z=>n ((ho k).mpr (.inl z.symm))
  rw [List.getElem?_set_ne h] at e ⊢
  obtain ⟨v,q1,q2⟩:=j0.fz k c (fun z=>n ((ho k).mpr (.inr z))) e
  exact ⟨v,q1,q2.ext qF⟩
 ·by_cases h:i=k
  ·subst h
   have hl:i < ρ.length:=by
    have:=(List.getElem?_eq_some_iff.mp e).1
    simpa using this
   rw [List.getElem?_set_self hl] at e
   cases e
   refine ⟨a,List.getElem?_set_self (by rw [j.len];exact hl),Gh.nord st fra,by show (if a=a then none else Hf a)=none;rw [if_pos rfl],h0a,?_⟩
   cases d with
   | lst ds=>
    obtain ⟨a',vs,e',n',q',r'⟩:=Rep.lst_iff.mp r
    cases e'
    obtain ⟨ws,Hm,f1,f2,f3,f4⟩:=(fr a rfl mu).2 ds rfl
    rw [q'] at f1;cases f1
    refine ⟨vs,j.gr.fh a _ n' q',f4.ext fun b o nb eb=>?_⟩
    have:b≠a:=fun z=>by rw [z,f2] at eb;cases eb
    show (if b=a then none else Hf b)=_
    rw [if_neg this];exact f3 b o nb eb
   | dk ds=>obtain ⟨a',e',n',q'⟩:=Rep.dk_iff.mp r;cases e';exact j.gr.fh a _ n' q'
   | dt ds=>obtain ⟨a',o',e',n',q'⟩:=Rep.dt_iff.mp r;cases e';exact ⟨o',j.gr.fh a _ n' q'⟩
   | du ds=>obtain ⟨a',e',n',q'⟩:=Rep.du_iff.mp r;cases e';exact j.gr.fh a _ n' q'
   | _=>exact mu.elim
  ·have m':k∈own:=((ho k).mp m).resolve_left (Ne.symm h)
   rw [List.getElem?_set_ne h] at e ⊢
   obtain ⟨b,h1,h2,h3,h4,h5⟩:=j0.ow k c m' e
   obtain ⟨b',g1,g2,g3,g4,g5⟩:=j.ow k c m' e
   rw [h1] at g1;cases g1
   refine ⟨b,h1,h2,?_,h4,h5.keep qF fun o q=>hb b o (Gh.sub' h2) q⟩
   show (if b=a then none else Hf b)=none
   split
   ·rfl
   ·exact g3
 ·by_cases hk:i=k
  ·subst hk
   have h':i≠l:=n
   have hl:i < σ.length:=by
    have:=(List.getElem?_eq_some_iff.mp sk).1
    simpa using this
   rw [List.getElem?_set_self hl] at sk
   cases sk
   rw [List.getElem?_set_ne h'] at el sl
   exact oldA l dl (((ho l).mp ml).resolve_left (Ne.symm h')) el sl
  ·by_cases hl':i=l
   ·subst hl'
    have hl:i < σ.length:=by
     have:=(List.getElem?_eq_some_iff.mp sl).1
     simpa using this
    rw [List.getElem?_set_self hl] at sl
    cases sl
    rw [List.getElem?_set_ne hk] at ek sk
    exact oldA k dk (((ho k).mp mk).resolve_left (Ne.symm hk)) ek sk
   ·rw [List.getElem?_set_ne hk] at ek sk
    rw [List.getElem?_set_ne hl'] at el sl
    exact j.ne k l b dk dl (((ho k).mp mk).resolve_left (Ne.symm hk)) (((ho l).mp ml).resolve_left (Ne.symm hl')) n ek el sk sl
theorem Jf.freeze {own':List Nat} (j:Jf G own kn Hf0 H0 σ Hf H ρ) (ho:∀k,k∈own'→k∈own):∃Hf',Jf G own' kn Hf0 H0 σ Hf' H ρ:=by
 classical
 let OA:Addr→Prop:=fun b=>∃i d,i∈own∧i∉own'∧ρ[i]?=some (some d)∧σ[i]?=some (some (.ref b))
 have oaH:∀b,OA b→Hf b=none∧H0 b=none:=fun b ⟨i,d,m,_,e,q⟩=>by
  obtain ⟨a,h1,h2,h3,h4,h5⟩:=j.ow i d m e
  rw [q] at h1;cases h1
  exact ⟨h3,h4⟩
 have fF:Ext G Hf (fun b=>if OA b then H b else Hf b):=fun b o n e=>by
  have:¬OA b:=fun z=>by rw [(oaH b z).1] at e;cases e
  show (if OA b then H b else Hf b)=_
  rw [if_neg this];exact e
 refine ⟨fun b=>if OA b then H b else Hf b,j.len,j.kn.trans fF,⟨j.gr.hh,j.gr.ff.trans fF,fun b o n e=>?_,fun b n h1 h2=>?_⟩,fun k c n e=>?_,fun k c m e=>?_,fun k l b dk dl mk ml=>j.ne k l b dk dl (ho k mk) (ho l ml)⟩
 ·have e':(if OA b then H b else Hf b)=some o:=e
  split at e'
  ·exact e'
  ·exact j.gr.fh b o n e'
 ·have:¬OA b:=fun z=>h2.no (oaH b z).2
  show (if OA b then H b else Hf b)=none
  rw [if_neg this];exact j.gr.nw b n h1 h2
 ·by_cases m:k∈own
  ·obtain ⟨a,h1,h2,h3,h4,h5⟩:=j.ow k c m e
   refine ⟨_,h1,h5.rep (Gh.sub' h2) fF fun o q=>?_⟩
   show (if OA a then H a else Hf a)=_
   rw [if_pos ⟨k,c,m,n,e,h1⟩];exact q
  ·obtain ⟨v,h1,h2⟩:=j.fz k c m e
   exact ⟨v,h1,h2.ext fF⟩
 ·obtain ⟨a,h1,h2,h3,h4,h5⟩:=j.ow k c (ho k m) e
  refine ⟨a,h1,h2,?_,h4,h5.keep fF fun o q=>q⟩
  have:¬OA a:=fun ⟨i,d,mi,ni,ei,qi⟩=>j.ne i k a d c mi (ho k m) (fun z=>ni (z▸m)) ei e qi h1
  show (if OA a then H a else Hf a)=none
  rw [if_neg this];exact h3
end
theorem Jf.setF {G:Gh} {own:List Nat} {kn Hf0 H0 Hf H:Hp} {σ:St} {ρ:Rho} {i:Nat} {d:D} {v:V} (j:Jf G own kn Hf0 H0 σ Hf H ρ) (hi:i∉own) (r:Rep G Hf d v):Jf G own kn Hf0 H0 (σ.set i (some v)) Hf H (ρ.set i (some d)):=
 j.set (own':=own) (fun k m=>⟨fun z=>hi (by rw [←z];exact m),m⟩) (fun k m _=>m) r
noncomputable def Yld (G:Gh) (fr:Bool) (t:TE) (f:Rho→M D):Prop:=
 ∀(σ:St) (Hf H:Hp) (ρ:Rho) (s:Pn) (d:D) (s':Pn) (Q:VK),Ext G Hf H→EnvR G Hf σ ρ→G.st s H→f ρ s=some (d,s')→
  (∀v Hf' H',Gr G Hf H Hf' H'→G.st s' H'→Rep G Hf' d v→(fr=true→FreshL G H Hf' d v)→Q v H')→t σ H Q
noncomputable def YldJ (G:Gh) (own:List Nat) (fr:Bool) (t:TE) (f:Rho→M D):Prop:=
 ∀(kn Hf0 H0:Hp) (σ:St) (Hf H:Hp) (ρ:Rho) (s:Pn) (d:D) (s':Pn) (Q:VK),Jf G own kn Hf0 H0 σ Hf H ρ→G.st s H→f ρ s=some (d,s')→
  (∀v Hf' H',Jf G own kn Hf0 H0 σ Hf' H' ρ→Ext G Hf Hf'→Ext G H H'→G.st s' H'→Rep G Hf' d v→(fr=true→FreshL G H Hf' d v)→Q v H')→t σ H Q
section
variable {X:Cx} {G:Gh} {own:List Nat} {fr:Bool} {t:TE} {f:Rho→M D}
theorem Yld.a (h:Yld G fr t f):YldJ G own fr t (fun ρ=>f (hide own ρ)):=fun kn Hf0 H0 σ Hf H ρ s d s' Q j st e k=>
 h σ Hf H (hide own ρ) s d s' Q j.gr.fh j.envA st e fun v Hf' H' g st' r fz=>k v Hf' H' (j.grow g) g.ff g.hh st' r fz
theorem Yld.n (h:Yld G fr t f):YldJ G [] fr t f:=fun kn Hf0 H0 σ Hf H ρ s d s' Q j st e k=>
 h.a kn Hf0 H0 σ Hf H ρ s d s' Q j st (by show f (hide [] ρ) s=_;rw [hide_nil];exact e) k
theorem noMut_mut {d:D} (h:noMut d=true):¬isMut d:=by
 cases d <;> first | exact (fun z=>z) | (simp [noMut] at h)
noncomputable def chk (fr:Bool) (f:Rho→M D):Rho→M D:=fun ρ=>mbind (f ρ) fun d=>if (noMut d||(fr&&okB d))=true then mret d else mfail
theorem chk_of {fr:Bool} {f:Rho→M D} {ρ:Rho} {s s':Pn} {d:D} (h:f ρ s=some (d,s')) (c:(noMut d||(fr&&okB d))=true):chk fr f ρ s=some (d,s'):=by
 unfold chk mbind
 rw [h]
 show (if (noMut d||(fr&&okB d))=true then mret d else mfail) s'=_
 rw [if_pos c]
 rfl
theorem Yld.b (h:Yld G fr t f):YldJ G own fr t (chk fr f):=fun kn Hf0 H0 σ Hf H ρ s d s' Q j st e k=>by
 obtain ⟨d1,s1,a1,a2⟩:=mbind_some e
 obtain ⟨c,a3⟩:=mif_some a2
 obtain ⟨rfl,rfl⟩:=mret_some a3
 refine h σ _ H ρ s d s' Q wide_ext j.envB st a1 fun v Hf' H' g st' r fz=>?_
 obtain ⟨F,j',fF,q1,q2⟩:=j.growB g
 rcases Bool.or_eq_true_iff.mp c with c | c
 ·exact k v F H' j' fF g.hh st' (q1 d v c r) fun z a ea m=>absurd m (noMut_mut c)
 ·obtain ⟨c1,c2⟩:=Bool.and_eq_true_iff.mp c
  obtain ⟨x1,x2⟩:=q2 d v c2 (fz c1) r
  exact k v F H' j' fF g.hh st' x1 fun _=>x2
inductive Out where
 | nx (ρ:Rho) | rt (d:D) | bk (ρ:Rho) | ct (ρ:Rho)
noncomputable def Post (G:Gh) (ob own':List Nat) (kn Hf0 H0:Hp) (fr:Bool) (out:Out) (s':Pn) (E:Ends):Prop:=match out with
 | .nx ρ=>∀σ H,J G own' kn Hf0 H0 σ H ρ→G.st s' H→E.nx σ H
 | .bk ρ=>∀σ H,J G ob kn Hf0 H0 σ H ρ→G.st s' H→E.bk σ H
 | .ct ρ=>∀σ H,J G ob kn Hf0 H0 σ H ρ→G.st s' H→E.ct σ H
 | .rt d=>∀v Hf' H',Gr G Hf0 H0 Hf' H'→G.st s' H'→Rep G Hf' d v→(fr=true→FreshL G H0 Hf' d v)→E.rt v H'
noncomputable def Dos (G:Gh) (ob own own':List Nat) (fr:Bool) (t:TS) (g:Rho→M Out):Prop:=
 ∀(kn Hf0 H0:Hp) (σ:St) (H:Hp) (ρ:Rho) (s:Pn) (out:Out) (s':Pn) (E:Ends),J G own kn Hf0 H0 σ H ρ→G.st s H→g ρ s=some (out,s')→Post G ob own' kn Hf0 H0 fr out s' E→t E σ H
noncomputable def PDS (X:Cx) (G:Gh) (ob own own':List Nat) (fr:Bool) (st:Stmt) (g:Rho→M Out):Prop:=∃t,PS X st t∧Dos G ob own own' fr t g
noncomputable def PDSs (X:Cx) (G:Gh) (ob own own':List Nat) (fr:Bool) (sts:List Stmt) (g:Rho→M Out):Prop:=∃t,PSs X sts t∧Dos G ob own own' fr t g
variable {ob own' own2:List Nat}
theorem PDS.frz {st:Stmt} {g:Rho→M Out} (h:PDS X G ob own2 own' fr st g) (hs:∀k,k∈own2→k∈own:=by decide):PDS X G ob own own' fr st g:=by
 obtain ⟨t,p,q⟩:=h
 exact ⟨t,p,fun kn Hf0 H0 σ H ρ s out s' E ⟨Hf,j⟩ st e po=>q kn Hf0 H0 σ H ρ s out s' E (j.freeze hs) st e po⟩
noncomputable def sNext:Rho→M Out:=fun ρ=>mret (.nx ρ)
noncomputable def sSeq (g1 g2:Rho→M Out):Rho→M Out:=fun ρ=>mbind (g1 ρ) fun o=>match o with | .nx ρ'=>g2 ρ' | .rt d=>mret (.rt d) | .bk ρ'=>mret (.bk ρ') | .ct ρ'=>mret (.ct ρ')
theorem pdss_nil (hs:∀k,k∈own'→k∈own:=by decide):PDSs X G ob own own' fr [] sNext:=⟨_,pss_nil,fun kn Hf0 H0 σ H ρ s out s' E ⟨Hf,j⟩ st e p=>by
 obtain ⟨rfl,rfl⟩:=mret_some e
 exact p σ H (j.freeze hs) st⟩
theorem pdss_cons {st:Stmt} {sts:List Stmt} {g1 g2:Rho→M Out} (h:PDS X G ob own own2 fr st g1) (h2:PDSs X G ob own2 own' fr sts g2):PDSs X G ob own own' fr (st::sts) (sSeq g1 g2):=by
 obtain ⟨t,p,q⟩:=h
 obtain ⟨u,p2,q2⟩:=h2
 refine ⟨_,pss_cons p p2,fun kn Hf0 H0 σ H ρ s out s' E j st e po=>?_⟩
 obtain ⟨o,s1,a1,a2⟩:=mbind_some e
 refine q kn Hf0 H0 σ H ρ s o s1 _ j st a1 ?_
 cases o with
 | nx ρ1=>exact fun σ1 H1 j1 st1=>q2 kn Hf0 H0 σ1 H1 ρ1 s1 out s' E j1 st1 a2 po
 | rt d=>obtain ⟨rfl,rfl⟩:=mret_some a2;exact po
 | bk ρ1=>obtain ⟨rfl,rfl⟩:=mret_some a2;exact po
 | ct ρ1=>obtain ⟨rfl,rfl⟩:=mret_some a2;exact po
noncomputable def sRet (f:Rho→M D):Rho→M Out:=fun ρ=>mbind (f ρ) fun d=>mret (.rt d)
theorem pds_ret {e:Expr} {pos:Pos} (h:PD X G fr e f):PDS X G ob own own' fr (.Return (some e) pos) (sRet f):=by
 obtain ⟨t,p,q⟩:=h
 refine ⟨_,ps_ret p,fun kn Hf0 H0 σ H ρ s out s' E ⟨Hf,j⟩ st e po=>?_⟩
 obtain ⟨d,s1,a1,a2⟩:=mbind_some e
 obtain ⟨rfl,rfl⟩:=mret_some a2
 exact q σ _ H ρ s d s' _ wide_ext j.envB st a1 fun v Hf' H' g st' r fz=>po v Hf' H' (j.grW g) st' r fun z=>FreshL.old j.gr.hh r.nofp (fz z)
theorem pds_retOwn {i:Nat} {x:Str} {pos pos':Pos} (hi:i∈own) (h:PE X (.Name x pos') (tVar i)):PDS X G ob own own' true (.Return (some (.Name x pos')) pos) (sRet (dVar i)):=by
 refine ⟨_,ps_ret h,fun kn Hf0 H0 σ H ρ s out s' E ⟨Hf,j⟩ st e po=>?_⟩
 obtain ⟨d,s1,a1,a2⟩:=mbind_some e
 obtain ⟨rfl,rfl⟩:=mret_some a2
 obtain ⟨e1,rfl⟩:=mOf_some a1
 have e':ρ[i]?=some (some d):=by
  cases q:ρ[i]? with
  | none=>rw [q] at e1;cases e1
  | some o=>rw [q] at e1;simp at e1;rw [e1]
 obtain ⟨v,h1,h2⟩:=j.envB i d e'
 obtain ⟨a,g1,g2,g3,g4,g5⟩:=j.ow i d hi e'
 rw [g1] at h1;cases h1
 refine ⟨_,g1,po (.ref a) _ H (j.grW (.refl wide_ext)) st h2 fun _ b eb _=>?_⟩
 cases eb
 refine ⟨g4,fun ds ed=>?_⟩
 subst ed
 obtain ⟨vs,q1,q2⟩:=g5
 refine ⟨vs,Hf,?_,g3,j.wideF,q2⟩
 unfold wide
 rw [if_neg (fun z=>z.2.no g4)]
 exact q1
noncomputable def sIf (c:Rho→M Bool) (g1 g2:Rho→M Out):Rho→M Out:=fun ρ=>mbind (c ρ) fun b=>if b=true then g1 ρ else g2 ρ
theorem pds_if {c:Expr} {a b:List Stmt} {pos:Pos} {fc:Rho→M Bool} {g1 g2:Rho→M Out} (hc:PDT X G c fc) (ha:PDSs X G ob own own' fr a g1) (hb:PDSs X G ob own own' fr b g2):PDS X G ob own own' fr (.If c a b pos) (sIf fc g1 g2):=by
 obtain ⟨tc,pc,qc⟩:=hc
 obtain ⟨ta,pa,qa⟩:=ha
 obtain ⟨tb,pb,qb⟩:=hb
 refine ⟨_,ps_if pc pa pb,fun kn Hf0 H0 σ H ρ s out s' E ⟨Hf,j⟩ st e po=>?_⟩
 obtain ⟨b,s1,a1,a2⟩:=mbind_some e
 refine qc σ _ H ρ s b s1 _ wide_ext j.envB st a1 fun Hf' H' g st'=>?_
 obtain ⟨F,j',fF,q1,q2⟩:=j.growB g
 cases b with
 | true=>exact iteT (qa kn Hf0 H0 σ H' ρ s1 out s' E ⟨F,j'⟩ st' a2 po)
 | false=>exact iteF (qb kn Hf0 H0 σ H' ρ s1 out s' E ⟨F,j'⟩ st' a2 po)
noncomputable def PAsg (X:Cx) (G:Gh) (fr:Bool) (i:Nat) (st:Stmt) (f:Rho→M D):Prop:=∃te,PS X st (fun E σ H=>te σ H fun y H1=>E.nx (σ.set i (some y)) H1)∧Yld G fr te f
theorem pasg_set {i:Nat} {x:Str} {e:Expr} {pos pos':Pos} (hN:X.N.Nodup) (hi:X.N[i]?=some x) (hx:Loc X.env.scope x) (he:PD X G fr e f) (hs:swapsWith e (some (.Name x pos')) pos.line X.env=pure false:=by rfl)
  (hf:X.fn x=true∨X.env.scope.names.lookup x=some .local:=by first | exact .inl rfl | exact .inr rfl | assumption):PAsg X G fr i (.Assign [.Name x pos'] e pos) f:=by
 obtain ⟨t,p,q⟩:=he
 exact ⟨t,ps_set hN hi hx p hs hf,q⟩
noncomputable def sSet (i:Nat) (f:Rho→M D):Rho→M Out:=fun ρ=>mbind (f ρ) fun d=>mret (.nx (ρ.set i (some d)))
theorem pds_setJ {i:Nat} {st:Stmt} {te:TE} (hp:PS X st (fun E σ H=>te σ H fun y H1=>E.nx (σ.set i (some y)) H1)) (hy:YldJ G own fr te f) (hi:i∉own) {fr':Bool}:PDS X G ob own own fr' st (sSet i f):=
 ⟨_,hp,fun kn Hf0 H0 σ H ρ s out s' E ⟨Hf,j⟩ st e po=>by
  obtain ⟨d,s1,a1,a2⟩:=mbind_some e
  obtain ⟨rfl,rfl⟩:=mret_some a2
  exact hy kn Hf0 H0 σ Hf H ρ s d s' _ j st a1 fun v Hf' H' j' e1 e2 st' r fz=>po _ H' ⟨Hf',j'.setF hi r⟩ st'⟩
theorem pds_set0 {i:Nat} {st:Stmt} {fr':Bool} (h:PAsg X G fr i st f):PDS X G ob [] [] fr' st (sSet i f):=let ⟨_,p,q⟩:=h;pds_setJ p q.n (by simp)
theorem pds_setA {i:Nat} {st:Stmt} {fr':Bool} (h:PAsg X G fr i st f) (hi:i∉own:=by decide):PDS X G ob own own fr' st (sSet i (fun ρ=>f (hide own ρ))):=let ⟨_,p,q⟩:=h;pds_setJ p q.a hi
theorem pds_setB {i:Nat} {st:Stmt} {fr':Bool} (h:PAsg X G fr i st f) (hi:i∉own:=by decide):PDS X G ob own own fr' st (sSet i (chk fr f)):=let ⟨_,p,q⟩:=h;pds_setJ p q.b hi
noncomputable def sOwn (i:Nat) (f:Rho→M D):Rho→M Out:=fun ρ=>mbind (f ρ) fun d=>if isMutB d=true then mret (.nx (ρ.set i (some d))) else mfail
theorem pds_ownJ {i:Nat} {st:Stmt} {te:TE} (hp:PS X st (fun E σ H=>te σ H fun y H1=>E.nx (σ.set i (some y)) H1)) (hy:YldJ G own true te f) (ho:∀k,k∈own'↔k=i∨k∈own) {fr':Bool}:PDS X G ob own own' fr' st (sOwn i f):=
 ⟨_,hp,fun kn Hf0 H0 σ H ρ s out s' E ⟨Hf,j⟩ st e po=>by
  obtain ⟨d,s1,a1,a2⟩:=mbind_some e
  obtain ⟨ok,a3⟩:=mif_some a2
  obtain ⟨rfl,rfl⟩:=mret_some a3
  exact hy kn Hf0 H0 σ Hf H ρ s d s' _ j st a1 fun v Hf' H' j' e1 e2 st' r fz=>po _ H' (j.setOwn j' ho st e2 e1 r (fz rfl) ok) st'⟩
theorem pds_own0 {i:Nat} {st:Stmt} {fr':Bool} (h:PAsg X G true i st f):PDS X G ob [] [i] fr' st (sOwn i f):=let ⟨_,p,q⟩:=h;pds_ownJ p q.n (by intro k;simp)
inductive Sets (G:Gh) (Hf:Hp) (ok:Nat→Prop):St→Rho→St→Rho→Prop
 | nil {σ ρ}:Sets G Hf ok σ ρ σ ρ
 | cons {σ ρ σ' ρ'} {i:Nat} {d:D} {v:V}:ok i→Rep G Hf d v→Sets G Hf ok (σ.set i (some v)) (ρ.set i (some d)) σ' ρ'→Sets G Hf ok σ ρ σ' ρ'
noncomputable def PDG (X:Cx) (G:Gh) (tg:Expr) (ok:Nat→Prop) (τ:D→Rho→Option Rho):Prop:=
 ∃g,PG X tg g∧∀(x:V) (σ:St) (Hf H:Hp) (d:D) (ρ ρ':Rho) (Q:St→Hp→Prop),Ext G Hf H→Rep G Hf d x→τ d ρ=some ρ'→(∀σ',Sets G Hf ok σ ρ σ' ρ'→Q σ' H)→g x σ H Q
noncomputable def gOne (i:Nat):D→Rho→Option Rho:=fun d ρ=>some (ρ.set i (some d))
theorem pdg_name {i:Nat} {x:Str} {pos:Pos} {ok:Nat→Prop} (hN:X.N.Nodup) (hi:X.N[i]?=some x) (hx:Loc X.env.scope x) (oi:ok i) (hf:X.fn x=true∨X.env.scope.names.lookup x=some .local:=by first | exact .inl rfl | exact .inr rfl | assumption):PDG X G (.Name x pos) ok (gOne i):=
 ⟨_,pg_name hN hi hx hf,fun x σ Hf H d ρ ρ' Q e r q k=>by
  cases q
  exact k _ (.cons oi r .nil)⟩
noncomputable def gPair (i j:Nat):D→Rho→Option Rho:=fun d ρ=>match d with | .tup [a,b]=>some ((ρ.set i (some a)).set j (some b)) | _=>none
theorem pdg_pair {i j:Nat} {x y:Str} {pos px py:Pos} {k:Nat} {ok:Nat→Prop} (hc:X.calm=true) (hN:X.N.Nodup) (hi:X.N[i]?=some x) (hj:X.N[j]?=some y) (hx:Loc X.env.scope x) (hy:Loc X.env.scope y) (oi:ok i) (oj:ok j)
  (hfx:X.fn x=true∨X.env.scope.names.lookup x=some .local:=by first | exact .inl rfl | exact .inr rfl | assumption) (hfy:X.fn y=true∨X.env.scope.names.lookup y=some .local:=by first | exact .inl rfl | exact .inr rfl | assumption)
  (hn:(assignEach [.Name x px,.Name y py] X.env).length=2:=by rfl) (hst:(assignEach [.Name x px,.Name y py] X.env).findIdx? (·.1)=none:=by rfl)
  (hp:PGs X [.Name x px,.Name y py] (gCons (gName i) (gCons (gName j) gNil))):PDG X G (.Tuple [.Name x px,.Name y py] k pos) ok (gPair i j):=
 ⟨_,pg_tup hc hp hn hst,fun x σ Hf H d ρ ρ' Q e r q k=>by
  match d,q,r with
  | .tup [a,b],q,r=>
   cases q
   obtain ⟨ad,vs,rfl,n,h,rl⟩:=Rep.tup_iff.mp r
   obtain ⟨v1,r1,rfl,q1,q2⟩:=RepL.cons_iff.mp rl
   obtain ⟨v2,r2,rfl,q3,q4⟩:=RepL.cons_iff.mp q2
   have:=RepL.nil_iff.mp q4
   subst this
   exact ⟨ad,_,rfl,SqT.of (e _ _ n h),rfl,v1,_,rfl,v2,_,rfl,rfl,k _ (.cons oi q1 (.cons oj q3 .nil))⟩⟩
theorem Sets.jf {kn Hf0 H0 Hf H:Hp} {σ σ':St} {ρ ρ':Rho} (h:Sets G Hf (fun i=>i∉own) σ ρ σ' ρ'):Jf G own kn Hf0 H0 σ Hf H ρ→Jf G own kn Hf0 H0 σ' Hf H ρ':=by
 induction h with
 | nil=>exact fun j=>j
 | cons o r _ ih=>exact fun j=>ih (j.setF o r)
noncomputable def ItOk (G:Gh) (J:It) (Hf':Hp) (ds:List D):Prop:=
 ∀(i:Nat) (Hf2 H2:Hp) (s:Pn),Ext G Hf' Hf2→Ext G Hf2 H2→G.st s H2→
  (∀d,ds[i]?=some d→J.go i H2∧∀x H3,J.yld i H2 x H3→∃Hf3,Gr G Hf2 H2 Hf3 H3∧G.st s H3∧Rep G Hf3 d x)∧(i=ds.length→J.stop i H2)
noncomputable def PDI (X:Cx) (G:Gh) (tg iter:Expr) (f:Rho→M (List D)):Prop:=
 ∃wi,PI X tg iter wi∧∀(σ:St) (Hf H:Hp) (ρ:Rho) (s:Pn) (ds:List D) (s':Pn) (R:It→Hp→Prop),Ext G Hf H→EnvR G Hf σ ρ→G.st s H→f ρ s=some (ds,s')→
  (∀J Hf' H',Gr G Hf H Hf' H'→G.st s' H'→ItOk G J Hf' ds→R J H')→wi σ H R
theorem ItOk.range {lo:Int} {n:Nat} {Hf:Hp} {ds:List D} (e:ds=(List.range n).map fun (i:Nat)=>D.int (lo+i)):ItOk G (Itr lo n) Hf ds:=fun i Hf2 H2 s e1 e2 st=>by
 subst e
 refine ⟨fun d q=>?_,fun q=>by show n≤i;rw [q];simp⟩
 have hi:i<n:=by
  have:=(List.getElem?_eq_some_iff.mp q).1
  simpa using this
 have hd:d=.int (lo+i):=by
  rw [List.getElem?_map,List.getElem?_range hi] at q
  simp at q;exact q.symm
 subst hd
 refine ⟨hi,fun x H3 y=>?_⟩
 obtain ⟨y1,y2⟩:=y
 subst y1 y2
 exact ⟨Hf2,.refl e2,st,Rep.int_iff.mpr rfl⟩
theorem ItOk.list {K:PySem.W.Frag} {a:Addr} {vs:List V} {Hf:Hp} {ds:List D} (nf:¬G.fp a) (h:Hf a=some (.lst vs)) (r:RepL G Hf ds vs):ItOk G (Itl K a) Hf ds:=fun i Hf2 H2 s e1 e2 st=>by
 have h2:SqL K H2 a vs:=SqL.of (e2 _ _ nf (e1 _ _ nf h))
 refine ⟨fun d q=>?_,fun q=>⟨vs,h2,by rw [q,r.length];exact Nat.le_refl _⟩⟩
 obtain ⟨v,q1,q2⟩:=r.get q
 refine ⟨⟨vs,v,h2,q1⟩,fun x H3 ⟨y1,y2⟩=>?_⟩
 subst y1
 have e:=y2 vs h2
 rw [q1] at e;cases e
 exact ⟨Hf2,.refl e2,st,q2.ext e1⟩
theorem ItOk.tup {K:PySem.W.Frag} {a:Addr} {vs:List V} {Hf:Hp} {ds:List D} (nf:¬G.fp a) (h:Hf a=some (.tup vs)) (r:RepL G Hf ds vs):ItOk G (Itt K a) Hf ds:=fun i Hf2 H2 s e1 e2 st=>by
 have h2:SqT K H2 a vs:=SqT.of (e2 _ _ nf (e1 _ _ nf h))
 refine ⟨fun d q=>?_,fun q=>⟨vs,h2,by rw [q,r.length];exact Nat.le_refl _⟩⟩
 obtain ⟨v,q1,q2⟩:=r.get q
 refine ⟨⟨vs,v,h2,q1⟩,fun x H3 ⟨y1,y2⟩=>?_⟩
 subst y1
 have e:=y2 vs h2
 rw [q1] at e;cases e
 exact ⟨Hf2,.refl e2,st,q2.ext e1⟩
noncomputable def dRange (lo:Int) (n:Nat):List D:=(List.range n).map fun (i:Nat)=>D.int (lo+i)
noncomputable def iRange1 (f:Rho→M D):Rho→M (List D):=fun ρ=>mbind (f ρ) fun d=>match d with | .int j=>if -(2 ^ 62)≤j∧j<2 ^ 62 then mret (dRange 0 j.toNat) else mfail | _=>mfail
theorem pdi_range1 {tg a:Expr} {p pos:Pos} {r1:Bool} (hg:Gl X "range") (hm:X.mg "range" = none) (ha:PD X G r1 a f) (hs:starEach [a] X.env=[(false,eval a X.env)]:=by rfl):PDI X G tg (.Call (.Name "range" p) [a] [] pos) (iRange1 f):=by
 obtain ⟨t,pa,qa⟩:=ha.drop
 refine ⟨_,pi_range1 hg hm (pa_cons pa pa_nil (by rw [hs];rfl)) hs,fun σ Hf H ρ s ds s' R e1 e2 e3 e4 k=>?_⟩
 obtain ⟨d,s1,a1,a2⟩:=mbind_some e4
 cases d with
 | int j=>
  obtain ⟨c,a3⟩:=mif_some a2
  obtain ⟨rfl,rfl⟩:=mret_some a3
  refine qa σ Hf H ρ s _ _ _ e1 e2 e3 a1 fun v Hf1 H1 g st r=>?_
  rw [Rep.int_iff.mp r]
  exact ⟨j,rfl,c.1,c.2,k _ Hf1 H1 g st (.range rfl)⟩
 | _=>cases a2
noncomputable def iRange2 (f g:Rho→M D):Rho→M (List D):=fun ρ=>mbind (f ρ) fun d=>mbind (g ρ) fun e=>match d,e with | .int i,.int j=>if -(2 ^ 62)≤i∧i<2 ^ 62∧-(2 ^ 62)≤j∧j<2 ^ 62 then mret (dRange i (j-i).toNat) else mfail | _,_=>mfail
noncomputable def iSeqL (f:Rho→M D):Rho→M (List D):=fun ρ=>mbind (f ρ) fun d=>match d with | .lst ds=>mret ds | _=>mfail
noncomputable def iSeqT (f:Rho→M D):Rho→M (List D):=fun ρ=>mbind (f ρ) fun d=>match d with | .tup ds=>mret ds | _=>mfail
theorem pdi_list {tg l:Expr} {r1:Bool} (hl:PD X G r1 l f):PDI X G tg l (iSeqL f):=by
 obtain ⟨t,pa,qa⟩:=hl.drop
 refine ⟨_,pi_list pa,fun σ Hf H ρ s ds s' R e1 e2 e3 e4 k=>?_⟩
 obtain ⟨d,s1,a1,a2⟩:=mbind_some e4
 cases d with
 | lst es=>
  obtain ⟨rfl,rfl⟩:=mret_some a2
  refine qa σ Hf H ρ s _ _ _ e1 e2 e3 a1 fun v Hf1 H1 g st r=>?_
  obtain ⟨a,vs,rfl,nf,h,rl⟩:=Rep.lst_iff.mp r
  exact ⟨a,rfl,⟨vs,SqL.of (g.fh _ _ nf h)⟩,k _ Hf1 H1 g st (.list nf h rl)⟩
 | _=>cases a2
theorem pdi_tup {tg l:Expr} {r1:Bool} (hl:PD X G r1 l f):PDI X G tg l (iSeqT f):=by
 obtain ⟨t,pa,qa⟩:=hl.drop
 refine ⟨_,pi_tup pa,fun σ Hf H ρ s ds s' R e1 e2 e3 e4 k=>?_⟩
 obtain ⟨d,s1,a1,a2⟩:=mbind_some e4
 cases d with
 | tup es=>
  obtain ⟨rfl,rfl⟩:=mret_some a2
  refine qa σ Hf H ρ s _ _ _ e1 e2 e3 a1 fun v Hf1 H1 g st r=>?_
  obtain ⟨a,vs,rfl,nf,h,rl⟩:=Rep.tup_iff.mp r
  exact ⟨a,rfl,⟨vs,SqT.of (g.fh _ _ nf h)⟩,k _ Hf1 H1 g st (.tup nf h rl)⟩
 | _=>cases a2
noncomputable def mFor (τ:D→Rho→Option Rho) (body:Rho→M Out):List D→Rho→M Out
 | [],ρ=>mret (.nx ρ)
 | d::ds,ρ=>mbind (mOf (τ d ρ)) fun ρ1=>mbind (body ρ1) fun o=>match o with | .nx ρ2=>mFor τ body ds ρ2 | .ct ρ2=>mFor τ body ds ρ2 | .bk ρ2=>mret (.nx ρ2) | .rt d=>mret (.rt d)
noncomputable def sFor (fi:Rho→M (List D)) (τ:D→Rho→Option Rho) (body:Rho→M Out):Rho→M Out:=fun ρ=>mbind (fi ρ) fun ds=>mFor τ body ds ρ
noncomputable def PDIJ (X:Cx) (G:Gh) (own:List Nat) (tg iter:Expr) (f:Rho→M (List D)):Prop:=
 ∃wi,PI X tg iter wi∧∀(kn Hf0 H0:Hp) (σ:St) (Hf H:Hp) (ρ:Rho) (s:Pn) (ds:List D) (s':Pn) (R:It→Hp→Prop),Jf G own kn Hf0 H0 σ Hf H ρ→G.st s H→f ρ s=some (ds,s')→
  (∀J Hf' H',Jf G own kn Hf0 H0 σ Hf' H' ρ→Ext G Hf Hf'→G.st s' H'→ItOk G J Hf' ds→R J H')→wi σ H R
theorem PDI.a {tg iter:Expr} {fi:Rho→M (List D)} (h:PDI X G tg iter fi):PDIJ X G own tg iter (fun ρ=>fi (hide own ρ)):=by
 obtain ⟨wi,p,q⟩:=h
 exact ⟨wi,p,fun kn Hf0 H0 σ Hf H ρ s ds s' R j st e k=>q σ Hf H _ s ds s' R j.gr.fh j.envA st e fun J Hf' H' g st' it=>k J Hf' H' (j.grow g) g.ff st' it⟩
theorem PDI.n {tg iter:Expr} {fi:Rho→M (List D)} (h:PDI X G tg iter fi):PDIJ X G [] tg iter fi:=by
 obtain ⟨wi,p,q⟩:=h.a (own:=[])
 exact ⟨wi,p,fun kn Hf0 H0 σ Hf H ρ s ds s' R j st e k=>q kn Hf0 H0 σ Hf H ρ s ds s' R j st (by show fi (hide [] ρ) s=_;rw [hide_nil];exact e) k⟩
theorem pdij_range1 {tg a:Expr} {p pos:Pos} {r1:Bool} (hg:Gl X "range") (hm:X.mg "range" = none) (ha:PD X G r1 a f) (hs:starEach [a] X.env=[(false,eval a X.env)]:=by rfl):PDIJ X G own tg (.Call (.Name "range" p) [a] [] pos) (iRange1 f):=by
 obtain ⟨t,pa,qa⟩:=ha.drop
 refine ⟨_,pi_range1 hg hm (pa_cons pa pa_nil (by rw [hs];rfl)) hs,fun kn Hf0 H0 σ Hf H ρ s ds s' R j st e4 k=>?_⟩
 obtain ⟨d,s1,a1,a2⟩:=mbind_some e4
 cases d with
 | int i=>
  obtain ⟨c,a3⟩:=mif_some a2
  obtain ⟨rfl,rfl⟩:=mret_some a3
  refine qa σ _ H ρ s _ _ _ wide_ext j.envB st a1 fun v Hf1 H1 g st r=>?_
  obtain ⟨F,j',fF,q1,q2⟩:=j.growB g
  rw [Rep.int_iff.mp r]
  exact ⟨i,rfl,c.1,c.2,k _ F H1 j' fF st (.range rfl)⟩
 | _=>cases a2
theorem pdij_range2 {tg a b:Expr} {p pos:Pos} {r1 r2:Bool} {f2:Rho→M D} (hg:Gl X "range") (hm:X.mg "range" = none) (ha:PD X G r1 a f) (hb:PD X G r2 b f2)
  (hs:starEach [a,b] X.env=[(false,eval a X.env),(false,eval b X.env)]:=by rfl) (hs2:starEach [b] X.env=[(false,eval b X.env)]:=by rfl):PDIJ X G own tg (.Call (.Name "range" p) [a,b] [] pos) (iRange2 f f2):=by
 obtain ⟨t,pa,qa⟩:=ha.drop
 obtain ⟨u,pb,qb⟩:=hb.drop
 refine ⟨_,pi_range2 hg hm (pa_cons pa (pa_cons pb pa_nil (by rw [hs2];rfl)) (by rw [hs,hs2])) hs hs2,fun kn Hf0 H0 σ Hf H ρ s ds s' R j st e4 k=>?_⟩
 obtain ⟨d,s1,a1,a2⟩:=mbind_some e4
 obtain ⟨d2,s2,a3,a4⟩:=mbind_some a2
 match d,d2,a4,a1,a3 with
 | .int i,.int l,a4,a1,a3=>
  obtain ⟨c,a5⟩:=mif_some a4
  obtain ⟨rfl,rfl⟩:=mret_some a5
  refine qa σ _ H ρ s _ _ _ wide_ext j.envB st a1 fun v Hf1 H1 g st r=>?_
  refine qb σ Hf1 H1 ρ s1 _ _ _ g.fh (j.envB.ext g.ff) st a3 fun v2 Hf2 H2 g2 st2 r2=>?_
  obtain ⟨F,j',fF,q1,q2⟩:=j.growB (g.trans g2)
  rw [Rep.int_iff.mp r,Rep.int_iff.mp r2]
  exact ⟨i,l,rfl,c,k _ F H2 j' fF st2 (.range rfl)⟩
theorem Jf.weak {kn kn' Hf0 H0 Hf H:Hp} {σ:St} {ρ:Rho} (j:Jf G own kn' Hf0 H0 σ Hf H ρ) (e:Ext G kn kn'):Jf G own kn Hf0 H0 σ Hf H ρ:=⟨j.len,e.trans j.kn,j.gr,j.fz,j.ow,j.ne⟩
theorem pds_for {tg iter:Expr} {body:List Stmt} {pos:Pos} {fi:Rho→M (List D)} {τ:D→Rho→Option Rho} {g:Rho→M Out} (hp:PassesOwn (model X.prog X.w) X.A X.env X.xe) (hc:X.calm=true) (hi:PDIJ X G own tg iter fi) (hg:PDG X G tg (fun i=>i∉own) τ) (hb:PDSs X G own own own fr body g)
  (hs:∀x,foldedSetIterable iter X.env x=pure x:=by intro _;rfl):PDS X G ob own own fr (.For tg iter body [] pos) (sFor fi τ g):=by
 obtain ⟨wi,pi,qi⟩:=hi
 obtain ⟨gt,pg,qg⟩:=hg
 obtain ⟨tb,pb,qb⟩:=hb
 refine ⟨_,ps_for hp hc pi pg pb hs,fun kn Hf0 H0 σ H ρ s out s' E ⟨Hf,j⟩ st e po=>?_⟩
 obtain ⟨ds,s1,a1,a2⟩:=mbind_some e
 refine qi kn Hf0 H0 σ Hf H ρ s ds s1 _ j st a1 fun Jt Hf1 H1 j1 e1 st1 it=>?_
 refine ⟨fun i m σ2 H2=>∃ρ2 s2,J G own Hf1 Hf0 H0 σ2 H2 ρ2∧G.st s2 H2∧mFor τ g (ds.drop i) ρ2 s2=some (out,s')∧i≤ds.length∧m=ds.length-i,⟨_,ρ,s1,⟨Hf1,⟨j1.len,.refl _ _,j1.gr,j1.fz,j1.ow,j1.ne⟩⟩,st1,a2,Nat.zero_le _,rfl⟩,?_⟩
 rintro i m σ2 H2 ⟨ρ2,s2,⟨Hf2,j2⟩,st2,eq2,hle,rfl⟩
 obtain ⟨i1,i2⟩:=it i Hf2 H2 s2 j2.kn j2.gr.fh st2
 by_cases hlt:i<ds.length
 ·have hd:ds.drop i=ds[i]::ds.drop (i+1):=List.drop_eq_getElem_cons hlt
  rw [hd] at eq2
  obtain ⟨ρ3,s3,b1,b2⟩:=mbind_some eq2
  obtain ⟨b1',e3⟩:=mOf_some b1
  subst e3
  obtain ⟨o,s4,b3,b4⟩:=mbind_some b2
  obtain ⟨go,yl⟩:=i1 ds[i] (by simp [hlt])
  refine .inr ⟨go,fun σ' H'=>∃ρ5 s5,J G own Hf1 Hf0 H0 σ' H' ρ5∧G.st s5 H'∧mFor τ g (ds.drop (i+1)) ρ5 s5=some (out,s'),fun σ' H' ⟨ρ5,s5,j5,st5,q5⟩=>⟨_,by omega,ρ5,s5,j5,st5,q5,hlt,rfl⟩,fun x H3 y3=>?_⟩
  obtain ⟨Hf3,g3,st3,r3⟩:=yl x H3 y3
  have j3:=j2.grow g3
  refine qg x σ2 Hf3 H3 ds[i] ρ2 ρ3 _ g3.fh r3 b1' fun σ3 sets=>?_
  have j4:=sets.jf j3
  refine qb Hf1 Hf0 H0 σ3 H3 ρ3 s3 o s4 _ ⟨Hf3,j4⟩ st3 b3 ?_
  cases o with
  | nx ρ5=>exact fun σ5 H5 j5 st5=>⟨ρ5,s4,j5,st5,b4⟩
  | ct ρ5=>exact fun σ5 H5 j5 st5=>⟨ρ5,s4,j5,st5,b4⟩
  | bk ρ5=>
   obtain ⟨rfl,rfl⟩:=mret_some b4
   exact fun σ5 H5 ⟨Hf5,j5⟩ st5=>po σ5 H5 ⟨Hf5,j5.weak (j.kn.trans e1)⟩ st5
  | rt d=>
   obtain ⟨rfl,rfl⟩:=mret_some b4
   exact po
 ·have hd:ds.drop i=[]:=List.drop_eq_nil_iff.mpr (by omega)
  rw [hd] at eq2
  obtain ⟨rfl,rfl⟩:=mret_some eq2
  exact .inl ⟨i2 (by omega),po σ2 H2 ⟨Hf2,j2.weak (j.kn.trans e1)⟩ st2⟩
end
noncomputable def runB (n k:Nat) (g:Rho→M Out):List D→M D:=fun ds=>if ds.length=k then mbind (g (ds.map some++List.replicate (n-k) none)) fun o=>match o with | .rt d=>mret d | .nx _=>mret .non | _=>mfail else mfail
theorem fnD {P:Program} {w:World} {K:PySem.W.Frag} {mg:Str→Option Value} {base:Heap} {x qual:Str} {st:Stmt} {f:Addr} {fd:FuncData} {N ps:List Str} {k:Nat} {own:List Nat} {fr:Bool} {GG:Gh→Prop} {g:Rho→M Out}
  (F:Fun K x qual st f fd) (S:FnScope N ps (defScope st))
  (hb:∀(cdv:Value) (A:Around) (outer:List Env) (s:Shared) (H:Hp) (E:XK),Room k (A.deeper (envOfC qual (defScope st) s.heap.objs.size f cdv))→∀G,GG G→PDSs (cxOf CX0 P w K mg base N qual (defScope st) f cdv A outer s H E).nox G [] [] own fr (defBody st) g) :
  FnOk P w K mg base CX0 (k+1) f fd ps (spD ps.length fr GG (runB N.length ps.length g)):=by
 refine F.ok S (fun vs H Q E h=>?_) fun cdv A outer s H vs Q E hr h=>?_
 ·obtain ⟨G,Hf,ds,pn,d,pn',_,e,_⟩:=h
  exact e
 ·obtain ⟨G,Hf,ds,pn,d,pn',hG,el,e1,r,st',eF,k'⟩:=h
  obtain ⟨t,p,q⟩:=hb cdv A outer s H E hr G hG
  refine ⟨t,p,?_⟩
  obtain ⟨hl,a0⟩:=mif_some eF
  obtain ⟨o,s1,a1,a2⟩:=mbind_some a0
  have hpl:ps.length≤N.length:=by have:=congrArg List.length S.pre;rw [List.length_take] at this;omega
  have j0:Jf G [] Hf Hf H (L2.start N vs) Hf H (ds.map some++List.replicate (N.length-ps.length) none):=by
   refine ⟨?_,.refl _ _,.refl e1,fun i d n e=>?_,fun i d m e=>?_,fun i j a di dj mi mj n e=>?_⟩
   ·unfold L2.start;simp;omega
   ·have hi:i<ds.length:=by
     by_cases hi:i<ds.length
     ·exact hi
     ·rw [List.getElem?_append_right (by simpa using hi),List.getElem?_replicate] at e
      split at e <;> cases e
    have e':ds[i]?=some d:=by
     rw [List.getElem?_append_left (by simpa using hi),List.getElem?_map] at e
     cases q:ds[i]? with
     | none=>rw [q] at e;cases e
     | some c=>rw [q] at e;simp at e;rw [e]
    obtain ⟨v,h1,h2⟩:=r.get e'
    refine ⟨v,?_,h2⟩
    unfold L2.start
    rw [List.getElem?_append_left (by simp;rw [←r.length];exact hi),List.getElem?_map,h1]
    rfl
   ·exact absurd m (by simp)
   ·exact absurd mi (by simp)
  refine q Hf Hf H (L2.start N vs) H _ pn o s1 _ ⟨Hf,j0⟩ st' a1 ?_
  cases o with
  | rt c=>
   obtain ⟨rfl,rfl⟩:=mret_some a2
   exact fun v Hf' H' g' st2 r2 fz=>k' v Hf' H' g' st2 r2 fz
  | nx ρ'=>
   obtain ⟨rfl,rfl⟩:=mret_some a2
   exact fun σ' H' ⟨Hf',j'⟩ st2=>k' .non Hf' H' j'.gr st2 (Rep.non_iff.mpr rfl) fun _=>.scal fun z=>z
  | bk ρ'=>cases a2
  | ct ρ'=>cases a2
noncomputable def tOf (G:Gh) (fr:Bool) (f:Rho→M D):TE:=fun σ H Q=>∃(Hf:Hp) (ρ:Rho) (s:Pn) (d:D) (s':Pn),Ext G Hf H∧EnvR G Hf σ ρ∧G.st s H∧f ρ s=some (d,s')∧
 ∀v Hf' H',Gr G Hf H Hf' H'→G.st s' H'→Rep G Hf' d v→(fr=true→FreshL G H Hf' d v)→Q v H'
noncomputable def tOfT (G:Gh) (f:Rho→M Bool):TT:=fun σ H Q=>∃(Hf:Hp) (ρ:Rho) (s:Pn) (b:Bool) (s':Pn),Ext G Hf H∧EnvR G Hf σ ρ∧G.st s H∧f ρ s=some (b,s')∧
 ∀Hf' H',Gr G Hf H Hf' H'→G.st s' H'→Q b H'
noncomputable def gOf (G:Gh) (ok:Nat→Prop) (τ:D→Rho→Option Rho):TG:=fun x σ H Q=>∃(Hf:Hp) (d:D) (ρ ρ':Rho),Ext G Hf H∧Rep G Hf d x∧τ d ρ=some ρ'∧∀σ',Sets G Hf ok σ ρ σ' ρ'→Q σ' H
section
variable {X:Cx} {G:Gh} {own:List Nat} {fr:Bool} {f:Rho→M D}
theorem PD.canon {e:Expr} (h:PD X G fr e f):PE X e (tOf G fr f):=by
 obtain ⟨t,p,q⟩:=h
 exact fun pins s σ H Q I ⟨Hf,ρ,pn,d,pn',a1,a2,a3,a4,k⟩=>p pins s σ H Q I (q σ Hf H ρ pn d pn' Q a1 a2 a3 a4 k)
theorem PDT.canon {e:Expr} {f:Rho→M Bool} (h:PDT X G e f):PT X e (tOfT G f):=by
 obtain ⟨t,p,q⟩:=h
 exact fun pins s σ H Q I ⟨Hf,ρ,pn,d,pn',a1,a2,a3,a4,k⟩=>p pins s σ H Q I (q σ Hf H ρ pn d pn' Q a1 a2 a3 a4 k)
theorem PDG.canon {tg:Expr} {ok:Nat→Prop} {τ:D→Rho→Option Rho} (h:PDG X G tg ok τ):PG X tg (gOf G ok τ):=by
 obtain ⟨t,p,q⟩:=h
 exact fun pins s σ H v u Q I r ⟨Hf,d,ρ,ρ',a1,a2,a3,k⟩=>p pins s σ H v u Q I r (q v σ Hf H d ρ ρ' Q a1 a2 a3 k)
noncomputable def blkRho (src:List (Option Nat)) (ρ:Rho):Rho:=src.map fun o=>o.bind fun j=>(ρ[j]?).bind id
theorem blkRho_env {Hf:Hp} {σ:St} {ρ:Rho} {src:List (Option Nat)} (h:EnvR G Hf σ ρ):EnvR G Hf (blkSt src σ) (blkRho src ρ):=fun i d e=>by
 unfold blkRho at e
 rw [List.getElem?_map] at e
 cases q:src[i]? with
 | none=>rw [q] at e;cases e
 | some o=>
  rw [q] at e
  cases o with
  | none=>simp at e
  | some j=>
   simp only [Option.map_some,Option.bind_some,Option.some.injEq] at e
   have hj:ρ[j]?=some (some d):=by
    cases e2:ρ[j]? with
    | none=>rw [e2] at e;cases e
    | some o2=>rw [e2] at e;simp at e;rw [e]
   obtain ⟨v,h1,h2⟩:=h j d hj
   refine ⟨v,?_,h2⟩
   unfold blkSt
   rw [List.getElem?_map,q]
   simp [h1]
theorem Sets.len {Hf:Hp} {ok:Nat→Prop} {σ σ':St} {ρ ρ':Rho} (h:Sets G Hf ok σ ρ σ' ρ'):(σ.length=ρ.length→σ'.length=ρ'.length)∧σ'.length=σ.length:=by
 induction h with
 | nil=>exact ⟨fun e=>e,rfl⟩
 | cons _ _ _ ih=>exact ⟨fun e=>ih.1 (by simp [e]),ih.2.trans (by simp)⟩
theorem Sets.env {Hf:Hp} {ok:Nat→Prop} {σ σ':St} {ρ ρ':Rho} (h:Sets G Hf ok σ ρ σ' ρ'):σ.length=ρ.length→EnvR G Hf σ ρ→EnvR G Hf σ' ρ':=by
 induction h with
 | nil=>exact fun _ e=>e
 | @cons σ ρ σ' ρ' i d v o r _ ih=>
  intro hl he
  refine ih (by simp [hl]) fun k c e=>?_
  by_cases h:i=k
  ·subst h
   have hk:i < ρ.length:=by
    have:=(List.getElem?_eq_some_iff.mp e).1
    simpa using this
   rw [List.getElem?_set_self hk] at e
   cases e
   exact ⟨v,List.getElem?_set_self (by rw [hl];exact hk),r⟩
  ·rw [List.getElem?_set_ne h] at e ⊢
   exact he k c e
theorem Sets.envOld {Hf:Hp} {ok:Nat→Prop} {σ σ':St} {ρ ρ' ρ0:Rho} (h:Sets G Hf ok σ ρ σ' ρ') (h0:∀i d,ok i→ρ0[i]?≠some (some d)):EnvR G Hf σ ρ0→EnvR G Hf σ' ρ0:=by
 induction h with
 | nil=>exact fun e=>e
 | @cons σ ρ σ' ρ' i d v o r _ ih=>
  intro he
  refine ih fun k c e=>?_
  have hne:i≠k:=fun z=>h0 k c (z▸o) e
  rw [List.getElem?_set_ne hne]
  exact he k c e
noncomputable def mComp (τ:D→Rho→Option Rho) (ft:Rho→M Bool) (fe:Rho→M D) (ρ:Rho):List D→M (List D)
 | []=>mret []
 | d::ds=>mbind (mOf (τ d ρ)) fun ρ1=>mbind (ft ρ1) fun b=>if b=true then mbind (fe ρ1) fun c=>mbind (mComp τ ft fe ρ ds) fun r=>mret (c::r) else mComp τ ft fe ρ ds
noncomputable def dComp (src:List (Option Nat)) (fi:Rho→M (List D)) (τ:D→Rho→Option Rho) (ft:Rho→M Bool) (fe:Rho→M D):Rho→M D:=fun ρ=>
 mbind (fi ρ) fun ds=>if ds.length≤sizeLine then mbind (mComp τ ft fe (blkRho src ρ) ds) fun r=>mret (.lst r) else mfail
noncomputable def bTrue:Rho→M Bool:=fun _=>mret true
theorem comp_yld {src:List (Option Nat)} {wi:TI} {fi:Rho→M (List D)} {τ:D→Rho→Option Rho} {ft:Rho→M Bool} {fe:Rho→M D} {r1:Bool}
  (qi:∀(σ:St) (Hf H:Hp) (ρ:Rho) (s:Pn) (ds:List D) (s':Pn) (R:It→Hp→Prop),Ext G Hf H→EnvR G Hf σ ρ→G.st s H→fi ρ s=some (ds,s')→
   (∀J Hf' H',Gr G Hf H Hf' H'→G.st s' H'→ItOk G J Hf' ds→R J H')→wi σ H R) :
  Yld G true (tComp src wi (gOf G (fun i=>src[i]?=some none) τ) (tOfT G ft) (tOf G r1 fe)) (dComp src fi τ ft fe):=by
 intro σ Hf H ρ s d s' Q e1 e2 e3 e4 k
 obtain ⟨ds,s1,a1,a2⟩:=mbind_some e4
 obtain ⟨hz,a3⟩:=mif_some a2
 obtain ⟨r,s2,a4,a5⟩:=mbind_some a3
 obtain ⟨rfl,rfl⟩:=mret_some a5
 refine qi σ Hf H ρ s ds s1 _ e1 e2 e3 a1 fun Jt Hf1 H1 g1 st1 it=>?_
 intro p hp
 have nrp:=Gh.nord st1 hp
 have nfp:=Gh.sub' nrp
 have hf1p:Hf1 p=none:=by
  cases e:Hf1 p with
  | none=>rfl
  | some o=>rw [g1.fh p o nfp e] at hp;cases hp
 have h0:∀(i:Nat) (d:D),src[i]?=some none→(blkRho src ρ)[i]?≠some (some d):=fun i d e q=>by
  unfold blkRho at q
  rw [List.getElem?_map,e] at q
  simp at q
 refine ⟨fun i m σ2 H2=>∃(Hf2:Hp) (s2:Pn) (vs:List V) (acc rest:List D),i≤ds.length∧m=ds.length-i∧Gr G Hf1 H1 Hf2 H2∧EnvR G Hf2 σ2 (blkRho src ρ)∧σ2.length=(blkRho src ρ).length∧G.st s2 H2∧Hf2 p=none∧H2 p=some (.lst vs)∧RepL G Hf2 acc vs∧acc.length≤i∧
  mComp τ ft fe (blkRho src ρ) (ds.drop i) s2=some (rest,s')∧acc++rest=r,⟨_,Hf1,s1,[],[],r,Nat.zero_le _,rfl,?_,?_,?_,Gh.grow st1 hp,hf1p,upd_same,RepL.nil_iff.mpr rfl,Nat.le_refl _,a4,rfl⟩,?_⟩
 ·refine ⟨fun b o n e=>?_,.refl _ _,fun b o n e=>?_,fun b n h1 h2=>h1⟩
  ·rw [upd_ne (ne_of_none e hp)];exact e
  ·rw [upd_ne (ne_of_none e hf1p)];exact g1.fh b o n e
 ·exact blkRho_env (e2.ext g1.ff)
 ·unfold blkSt blkRho;simp
 ·rintro i m σ2 H2 ⟨Hf2,sz,vs,acc,rest,hle,rfl,g2,env2,len2,st2,hfp2,hp2,racc,hacc,eq2,hr⟩
  obtain ⟨i1,i2⟩:=it i Hf2 H2 sz g2.ff g2.fh st2
  by_cases hlt:i<ds.length
  ·have hd:ds.drop i=ds[i]::ds.drop (i+1):=List.drop_eq_getElem_cons hlt
   rw [hd] at eq2
   obtain ⟨ρ3,s3,b1,b2⟩:=mbind_some eq2
   obtain ⟨b1',e3'⟩:=mOf_some b1
   subst e3'
   obtain ⟨bo,s4,b3,b4⟩:=mbind_some b2
   obtain ⟨go,yl⟩:=i1 ds[i] (by simp [hlt])
   refine .inr ⟨go,fun x H3 y3=>?_⟩
   obtain ⟨Hf3,g3,st3,r3⟩:=yl x H3 y3
   refine ⟨Hf3,ds[i],blkRho src ρ,ρ3,g3.fh,r3,b1',fun σ4 sets=>?_⟩
   have env2':=env2.ext g3.ff
   have env4:=sets.env len2 env2'
   have env4':=sets.envOld h0 env2'
   refine ⟨Hf3,ρ3,s3,bo,s4,g3.fh,env4,st3,b3,fun Hf5 H5 g5 st5=>?_⟩
   have g25:=g3.trans g5
   have hfp5:Hf5 p=none:=g25.nw p nfp hfp2 ⟨_,hp2,fun _ z=>by cases z⟩
   have hp5:H5 p=some (.lst vs):=g25.hh p _ nfp hp2
   cases bo with
   | false=>
    refine iteF ⟨ds.length-(i+1),by omega,Hf5,s4,vs,acc,rest,hlt,rfl,g2.trans g25,env4'.ext g5.ff,by rw [←len2];exact sets.len.2,st5,hfp5,hp5,racc.ext g25.ff,by omega,?_,hr⟩
    exact b4
   | true=>
    have b4':mbind (fe ρ3) (fun c=>mbind (mComp τ ft fe (blkRho src ρ) (ds.drop (i+1))) fun r=>mret (c::r)) s4=some (rest,s'):=b4
    obtain ⟨c,s6,b5,b6⟩:=mbind_some b4'
    obtain ⟨rr,s7,b7,b8⟩:=mbind_some b6
    obtain ⟨rfl,rfl⟩:=mret_some b8
    refine iteT ⟨Hf5,ρ3,s4,c,s6,g5.fh,env4.ext g5.ff,st5,b5,fun v Hf6 H6 g6 st6 r6 _=>?_⟩
    have hfp6:Hf6 p=none:=g6.nw p nfp hfp5 ⟨_,hp5,fun _ z=>by cases z⟩
    have hp6:H6 p=some (.lst vs):=g6.hh p _ nfp hp5
    have hl:vs.length<sizeLine:=by rw [←racc.length];omega
    refine ⟨vs,hp6,hl,ds.length-(i+1),by omega,Hf6,s6,vs ++ [v],acc ++ [c],rr,hlt,rfl,?_,(env4'.ext g5.ff).ext g6.ff,by rw [←len2];exact sets.len.2,?_,hfp6,upd_same,(racc.ext (g25.ff.trans g6.ff)).append (.one r6),by simp;omega,b7,by rw [←hr];simp⟩
    ·have gg:=(g2.trans g25).trans g6
     refine ⟨fun b o n e=>?_,gg.ff,fun b o n e=>?_,gg.nw⟩
     ·rw [upd_ne (ne_of_none e hp)];exact gg.hh b o n e
     ·rw [upd_ne (ne_of_none e hfp6)];exact gg.fh b o n e
    ·refine G.mono _ _ _ st6 (fun b o rb e=>?_) fun b φ e=>?_
     ·have:b≠p:=fun z=>nrp (z▸rb)
      rw [upd_ne this];exact e
     ·have:b≠p:=fun z=>by rw [z,hp6] at e;cases e
      rw [upd_ne this];exact e
  ·have hd:ds.drop i=[]:=List.drop_eq_nil_iff.mpr (by omega)
   rw [hd] at eq2
   obtain ⟨rfl,rfl⟩:=mret_some eq2
   refine .inl ⟨i2 (by omega),?_⟩
   rw [List.append_nil] at hr
   subst hr
   refine k (.ref p) (upd Hf2 p (.lst vs)) H2 (g1.trans ⟨g2.hh,fun b o n e=>?_,fun b o n e=>?_,fun b n h1 h2=>?_⟩) st2 (Rep.lst_iff.mpr ⟨p,vs,rfl,nfp,upd_same,racc.ext fun b o n e=>?_⟩) fun _ a ea _=>?_
   ·rw [upd_ne (ne_of_none (g2.ff b o n e) hfp2)];exact g2.ff b o n e
   ·by_cases hb:b=p
    ·subst hb;rw [upd_same] at e;rw [hp2];exact e
    ·rw [upd_ne hb] at e;exact g2.fh b o n e
   ·have:b≠p:=fun z=>h2.no (z▸hp)
    rw [upd_ne this];exact g2.nw b n h1 h2
   ·rw [upd_ne (ne_of_none e hfp2)];exact e
   ·cases ea
    refine ⟨?_,fun ds' ed=>?_⟩
    ·cases q:H p with
     | none=>rfl
     | some o=>rw [g1.hh p o nfp q] at hp;cases hp
    ·cases ed
     exact ⟨vs,Hf2,upd_same,hfp2,fun b o n e=>by rw [upd_ne (ne_of_none e hfp2)];exact e,racc⟩
theorem pifs0:PIfs X [] (tOfT G bTrue):=fun pins s σ H Q I ⟨Hf,ρ,pn,b,pn',a1,a2,a3,a4,k⟩=>by
 obtain ⟨rfl,rfl⟩:=mret_some a4
 exact pifs_nil pins s σ H Q I (k Hf H (.refl a1) a3)
theorem pifs1 {c:Expr} {ft:Rho→M Bool} (h:PDT X G c ft):PIfs X [c] (tOfT G ft):=pifs_one h.canon
theorem Jf.put {kn Hf0 H0 Hf H:Hp} {σ:St} {ρ:Rho} {i:Nat} {a:Addr} {d d':D} {o':HO} (j:Jf G own kn Hf0 H0 σ Hf H ρ) (hi:i∈own) (e:ρ[i]?=some (some d)) (sa:σ[i]?=some (some (.ref a)))
  (new:OwnRep G Hf (upd H a o') a d'):Jf G own kn Hf0 H0 σ Hf (upd H a o') (ρ.set i (some d')):=by
 obtain ⟨a',h1,h2,h3,h4,h5⟩:=j.ow i d hi e
 rw [sa] at h1;cases h1
 have il:i < ρ.length:=(List.getElem?_eq_some_iff.mp e).1
 refine ⟨by simp [j.len],j.kn,⟨fun b o n q=>?_,j.gr.ff,fun b o n q=>?_,j.gr.nw⟩,fun k c n q=>?_,fun k c m q=>?_,fun k l b dk dl mk ml n ek el sk sl=>?_⟩
 ·rw [upd_ne (ne_of_none q h4)];exact j.gr.hh b o n q
 ·rw [upd_ne (ne_of_none q h3)];exact j.gr.fh b o n q
 ·have hne:i≠k:=fun z=>n (z▸hi)
  rw [List.getElem?_set_ne hne] at q
  exact j.fz k c n q
 ·by_cases hk:i=k
  ·subst hk
   rw [List.getElem?_set_self il] at q
   cases q
   exact ⟨a,sa,h2,h3,h4,new⟩
  ·rw [List.getElem?_set_ne hk] at q
   obtain ⟨b,g1,g2,g3,g4,g5⟩:=j.ow k c m q
   have hab:b≠a:=fun z=>j.ne i k a d c hi m hk e q sa (z▸g1)
   exact ⟨b,g1,g2,g3,g4,g5.keep (.refl _ _) fun o z=>by rw [upd_ne hab];exact z⟩
 ·have ek':∃d,ρ[k]?=some (some d):=by
   by_cases hk:i=k
   ·exact ⟨d,hk▸e⟩
   ·rw [List.getElem?_set_ne hk] at ek;exact ⟨_,ek⟩
  have el':∃d,ρ[l]?=some (some d):=by
   by_cases hl:i=l
   ·exact ⟨d,hl▸e⟩
   ·rw [List.getElem?_set_ne hl] at el;exact ⟨_,el⟩
  obtain ⟨_,ek'⟩:=ek'
  obtain ⟨_,el'⟩:=el'
  exact j.ne k l b _ _ mk ml n ek' el' sk sl
theorem own_get {kn Hf0 H0 Hf H:Hp} {σ:St} {ρ:Rho} {i:Nat} {ds:List D} (j:Jf G own kn Hf0 H0 σ Hf H ρ) (hi:i∈own) (e:ρ[i]?=some (some (.lst ds))) :
  ∃a vs,σ[i]?=some (some (.ref a))∧¬G.rd a∧H a=some (.lst vs)∧RepL G Hf ds vs:=by
 obtain ⟨a,h1,h2,h3,h4,vs,h5,h6⟩:=j.ow i _ hi e
 exact ⟨a,vs,h1,h2,h5,h6⟩
theorem bind_id {ρ:Rho} {i:Nat} {d:D} (h:(ρ[i]?).bind id=some d):ρ[i]?=some (some d):=by
 cases q:ρ[i]? with
 | none=>rw [q] at h;cases h
 | some o=>rw [q] at h;simp at h;rw [h]
theorem Gh.other {s:Pn} {H:Hp} {a:Addr} {o:HO} (st:G.st s H) (h:¬G.rd a)
  (hx:∀φ,H a≠some (.ext φ):=by intro φ z;first | (have z2:=z.symm.trans (by assumption:_=some (L2.HO.lst _));cases z2) | (have z2:=z.symm.trans (by assumption:_=some (L2.HO.dK _));cases z2) | (have z2:=z.symm.trans (by assumption:_=some (L2.HO.dT _));cases z2)):G.st s (upd H a o):=G.mono _ _ _ st (fun b u rb e=>by
 have:b≠a:=fun z=>h (z▸rb)
 rw [upd_ne this];exact e) fun b φ e=>by
 have:b≠a:=fun z=>hx φ (z▸e)
 rw [upd_ne this];exact e
noncomputable def sApp (i:Nat) (f:Rho→M D):Rho→M Out:=fun ρ=>mbind (f ρ) fun d=>match (ρ[i]?).bind id with
 | some (.lst ds)=>if ds.length<sizeLine then mret (.nx (ρ.set i (some (.lst (ds ++ [d]))))) else mfail
 | _=>mfail
theorem app_yld {i:Nat} {ob:List Nat} {te:TE} {r1:Bool} (hi:i∈own) (hy:YldJ G own r1 te f) :
  Dos G ob own own fr (tDrop (tBM X.K "list" rAppend (tVar i) (tCons te tNil))) (sApp i f):=fun kn Hf0 H0 σ H ρ s out s' E ⟨Hf,j⟩ st e po=>by
 obtain ⟨d,s1,a1,a2⟩:=mbind_some e
 cases hb:(ρ[i]?).bind id with
 | none=>rw [hb] at a2;cases a2
 | some c=>
  rw [hb] at a2
  cases c with
  | lst ds=>
   have a2':(if ds.length<sizeLine then mret (.nx (ρ.set i (some (.lst (ds ++ [d]))))) else mfail) s1=some (out,s'):=a2
   obtain ⟨c2,a3⟩:=mif_some a2'
   obtain ⟨rfl,rfl⟩:=mret_some a3
   have ei:=bind_id hb
   obtain ⟨a,vs,h1,h2,h3,h4⟩:=own_get j hi ei
   refine ⟨_,h1,.inl ⟨rfl,vs,SqL.of h3⟩,?_⟩
   refine hy kn Hf0 H0 σ Hf H ρ s d s' _ j st a1 fun v Hf' H' j' e1 e2 st' r fz=>?_
   obtain ⟨a',vs',h1',h2',h3',h4'⟩:=own_get j' hi ei
   rw [h1] at h1';cases h1'
   refine ⟨a,vs',v,rfl,rfl,h3',by rw [←h4'.length];exact c2,?_⟩
   exact po σ _ ⟨Hf',j'.put hi ei h1 ⟨vs' ++ [v],upd_same,h4'.append (.one r)⟩⟩ (Gh.other st' h2)
  | _=>cases a2
theorem ps_append {i:Nat} {x:Str} {e:Expr} {pos p1 p2 p3:Pos} {te:TE} (hv:PE X (.Name x p1) (tVar i)) (p:PE X e te)
  (hbase:attributeBase (.Name x p1) "append" X.env (eval (.Name x p1) X.env)=eval (.Name x p1) X.env:=by rfl)
  (hfew:((backTo p3 (starEach [e] X.env)).all (fun x=>!x.1)&&(backToKw p3 (keywordEach [] X.env)).all (fun x=>x.1.isSome)
   && decide ([e].length+([]:List Keyword).length+(if ([]:List Keyword).isEmpty then 0 else 1)<30))=true:=by rfl)
  (hline:(p2.endLine==p3.line)=true:=by rfl) (hs:starEach [e] X.env=(false,eval e X.env)::starEach [] X.env:=by rfl)
  (hsw:swapsWith (.Call (.Attribute (.Name x p1) "append" p2) [e] [] p3) none pos.line X.env=pure false:=by rfl) :
  PS X (.Expr (.Call (.Attribute (.Name x p1) "append" p2) [e] [] p3) pos) (tDrop (tBM X.K "list" rAppend (tVar i) (tCons te tNil))):=
 ps_expr (pe_bm PySem.F.plainAttrs_list PySem.F.slot_list_append PySem.F.type_list_append mt_append hv (pa_cons p pa_nil hs) hbase hfew hline hs rfl) hsw
section
variable {i:Nat} {x:Str} {e:Expr} {pos p1 p2 p3:Pos} {r1:Bool} {ob:List Nat} {st:Stmt}
theorem pds_appA (hi:i∈own) (he:PD X G r1 e f) (hp:∀te,PE X e te→PS X st (tDrop (tBM X.K "list" rAppend (tVar i) (tCons te tNil)))):PDS X G ob own own fr st (sApp i (fun ρ=>f (hide own ρ))):=by
 obtain ⟨t,p,q⟩:=he
 exact ⟨_,hp t p,app_yld hi (Yld.a q)⟩
end
end
section
variable {X:Cx} {G:Gh}
noncomputable def dI (C:Int→Int→Bool) (g:Int→Int→D):D→D→Option D
 | .int i,.int j=>if C i j=true then some (g i j) else none
 | _,_=>none
theorem dI_some {C:Int→Int→Bool} {g:Int→Int→D} {d e c:D} (h:dI C g d e=some c):∃i j,d=.int i∧e=.int j∧C i j=true∧c=g i j:=by
 match d,e,h with
 | .int i,.int j,h=>
  have h':(if C i j=true then some (g i j) else none)=some c:=h
  split at h'
  ·rename_i hc;cases h';exact ⟨i,j,rfl,rfl,hc,rfl⟩
  ·cases h'
theorem opd_i {f:Value→Value→Sem Value} {C:Int→Int→Prop} {Cb:Int→Int→Bool} {g:Int→Int→Int} (h:OpR X f (rI C fun i j=>.int (g i j))) (hc:∀i j,Cb i j=true→C i j):OpD X G f (dI Cb fun i j=>.int (g i j)):=
 ⟨_,h,fun Hf H s x y d e c Q e1 st rx ry q k=>by
  obtain ⟨i,j,rfl,rfl,hcb,rfl⟩:=dI_some q
  exact ⟨i,j,Rep.int_iff.mp rx,Rep.int_iff.mp ry,hc i j hcb,k _ Hf H (.refl e1) st (Rep.int_iff.mpr rfl) (.scal fun z=>z)⟩⟩
theorem opd_b0 {f:Value→Value→Sem Value} {g:Int→Int→Bool} (h:OpR X f (rI0 fun i j=>.bl (g i j))):OpD X G f (dI (fun _ _=>true) fun i j=>.bl (g i j)):=
 ⟨_,h,fun Hf H s x y d e c Q e1 st rx ry q k=>by
  obtain ⟨i,j,rfl,rfl,hcb,rfl⟩:=dI_some q
  exact ⟨i,j,Rep.int_iff.mp rx,Rep.int_iff.mp ry,k _ Hf H (.refl e1) st (Rep.bl_iff.mpr rfl) (.scal fun z=>z)⟩⟩
noncomputable def dSub:=dI (fun _ _=>true) fun i j=>.int (i-j)
noncomputable def cMulB (i j:Int):Bool:=(decide (-(2 ^ 64)<i)&&decide (i<2 ^ 64))||(decide (-(2 ^ 64)<j)&&decide (j<2 ^ 64))
noncomputable def dMul:=dI cMulB fun i j=>.int (i*j)
noncomputable def dMod:=dI (fun _ j=>decide (0<j)) fun i j=>.int (i % j)
noncomputable def dPow:=dI (fun i j=>decide (0≤j)&&decide (j≤1000000)&&decide (i.natAbs<2 ^ 64)) fun i j=>.int (i ^ j.toNat)
theorem opd_mul:OpD X G (binaryOp .Mult) dMul:=opd_i op_mul fun i j h=>by
 simp only [cMulB,Bool.or_eq_true,Bool.and_eq_true,decide_eq_true_eq] at h
 exact h
theorem opd_pow:OpD X G (binaryOp .Pow) dPow:=opd_i op_pow fun i j h=>by
 simp only [Bool.and_eq_true,decide_eq_true_eq] at h
 exact ⟨h.1.1,h.1.2,h.2⟩
noncomputable def dLe:=dI (fun _ _=>true) fun i j=>.bl (decide (i≤j))
theorem opd_le:OpD X G (compareOp .LtE) dLe:=opd_b0 op_le
noncomputable def intsOf:List D→Option (List Int)
 | []=>some []
 | .int i::ds=>(intsOf ds).map (i :: ·)
 | _::_=>none
theorem intsOf_eq:∀{ds:List D} {ns:List Int},intsOf ds=some ns→ds=ns.map D.int
 | [],ns,h=>by simp [intsOf] at h;subst h;rfl
 | .int i::ds,ns,h=>by
  cases e:intsOf ds with
  | none=>simp [intsOf,e] at h
  | some ms=>simp [intsOf,e] at h;subst h;simp [intsOf_eq e]
 | .non::_,_,h=>by simp [intsOf] at h
 | .bl _::_,_,h=>by simp [intsOf] at h
 | .str _::_,_,h=>by simp [intsOf] at h
 | .tup _::_,_,h=>by simp [intsOf] at h
 | .lst _::_,_,h=>by simp [intsOf] at h
 | .dk _::_,_,h=>by simp [intsOf] at h
 | .dt _::_,_,h=>by simp [intsOf] at h
 | .du _::_,_,h=>by simp [intsOf] at h
 | .df _::_,_,h=>by simp [intsOf] at h
 | .pen::_,_,h=>by simp [intsOf] at h
 | .ty _::_,_,h=>by simp [intsOf] at h
theorem intsOf_map (ns:List Int):intsOf (ns.map D.int)=some ns:=by
 induction ns with
 | nil=>rfl
 | cons n ns ih=>simp [intsOf,ih]
theorem RepL.ints {H:Hp}:∀{ns:List Int} {vs:List V},RepL G H (ns.map D.int) vs→vs=ns.map V.int
 | [],vs,h=>RepL.nil_iff.mp h
 | n::ns,vs,h=>by
  obtain ⟨v,r,rfl,h1,h2⟩:=RepL.cons_iff.mp h
  rw [Rep.int_iff.mp h1,RepL.ints h2]
  rfl
noncomputable def dLt:D→D→Option D
 | .int i,.int j=>some (.bl (decide (i<j)))
 | .tup a,.tup b=>match intsOf a,intsOf b with | some ns,some ms=>some (.bl (HT.lexLt ns ms)) | _,_=>none
 | _,_=>none
theorem opd_lt (hu:X.A.units<cLine):OpD X G (compareOp .Lt) dLt:=
 ⟨_,op_lt.or (op_ltT hu),fun Hf H s x y d e c Q e1 st rx ry q k=>by
  match d,e,q,rx,ry with
  | .int i,.int j,q,rx,ry=>
   cases q
   exact .inl ⟨i,j,Rep.int_iff.mp rx,Rep.int_iff.mp ry,k _ Hf H (.refl e1) st (Rep.bl_iff.mpr rfl) (.scal fun z=>z)⟩
  | .tup a,.tup b,q,rx,ry=>
   have q:(match intsOf a,intsOf b with | some ns,some ms=>some (D.bl (HT.lexLt ns ms)) | _,_=>none)=some c:=q
   cases ea:intsOf a with
   | none=>rw [ea] at q;simp at q
   | some ns=>
    cases eb:intsOf b with
    | none=>rw [ea,eb] at q;simp at q
    | some ms=>
     rw [ea,eb] at q
     cases q
     rw [intsOf_eq ea] at rx
     rw [intsOf_eq eb] at ry
     obtain ⟨p,vs,rfl,np,hp,rp⟩:=Rep.tup_iff.mp rx
     obtain ⟨p2,vs2,rfl,np2,hp2,rp2⟩:=Rep.tup_iff.mp ry
     rw [RepL.ints rp] at hp
     rw [RepL.ints rp2] at hp2
     exact .inr ⟨p,p2,ns,ms,rfl,rfl,SqT.of (e1 _ _ np hp),SqT.of (e1 _ _ np2 hp2),k _ Hf H (.refl e1) st (Rep.bl_iff.mpr rfl) (.scal fun z=>z)⟩⟩
theorem op_catE:OpR X (binaryOp .Add) (fun x y H Q=>∃a b ys,x=.ref a∧y=.ref b∧SqT X.K H a []∧SqT X.K H b ys∧Q (.ref b) H):=by
 intro pins s σ H x y v u Q I rx ry h
 obtain ⟨a,b,ys,rfl,rfl,ha,hb,q⟩:=h
 cases rx
 cases ry
 obtain ⟨its,r1,p1,_⟩:=I.tuple ha
 obtain ⟨its2,r2,p2,_⟩:=I.tuple hb
 have e0:its=[]:=by cases r1;rfl
 subst e0
 obtain ⟨⟨cls,dd,data,sl⟩,ho,hc,n,hd⟩:=id p1
 obtain ⟨⟨cls2,dd2,data2,sl2⟩,ho2,hc2,n2,hd2⟩:=id p2
 simp only at hc hd hc2 hd2
 subst hc hd hc2 hd2
 exact concat_meets ⟨_,ho,rfl⟩ ⟨_,ho2,rfl⟩ noFill_tuple_add seq_tuple_add PySem.F.slot_tuple_add PySem.F.entry_tuple_add (PySem.F.args_tuple_add_2 _ _)
   (tuple_addW0 a b ([]:List Value).toArray its2.toArray n n2 dd dd2 sl sl2 rfl) ⟨ho,ho2,⟨.ref b,H,I,rfl,q⟩⟩
noncomputable def dAdd:D→D→Option D
 | .int i,.int j=>some (.int (i+j))
 | .tup a,.tup b=>if a.length+b.length≤sizeLine then some (.tup (a++b)) else none
 | .lst a,.lst b=>if a.length+b.length≤sizeLine then some (.lst (a++b)) else none
 | _,_=>none
theorem opd_add:OpD X G (binaryOp .Add) dAdd:=
 ⟨_,op_add.or (op_cat.or (op_catT.or op_catE)),fun Hf H s x y d e c Q e1 st rx ry q k=>by
  match d,e,q,rx,ry with
  | .int i,.int j,q,rx,ry=>
   cases q
   exact .inl ⟨i,j,Rep.int_iff.mp rx,Rep.int_iff.mp ry,k _ Hf H (.refl e1) st (Rep.int_iff.mpr rfl) (.scal fun z=>z)⟩
  | .lst a,.lst b,q,rx,ry=>
   have q:(if a.length+b.length≤sizeLine then some (D.lst (a++b)) else none)=some c:=q
   split at q
   ·rename_i hz
    cases q
    obtain ⟨p,vs,rfl,np,hp,rp⟩:=Rep.lst_iff.mp rx
    obtain ⟨p2,vs2,rfl,np2,hp2,rp2⟩:=Rep.lst_iff.mp ry
    refine .inr (.inl ⟨p,p2,vs,vs2,rfl,rfl,e1 _ _ np hp,e1 _ _ np2 hp2,by rw [←rp.length,←rp2.length];exact hz,fun l hl=>?_⟩)
    have nf:=Gh.nofp st hl
    have g2:=Gr.new (o:=.lst (vs++vs2)) e1 hl nf
    have rr:=rp.append rp2
    exact k (.ref l) _ _ g2 (Gh.grow st hl) (Rep.lst_iff.mpr ⟨l,_,rfl,nf,upd_same,rr.ext g2.ff⟩) (FreshL.mk e1 hl nf rr)
   ·cases q
  | .tup a,.tup b,q,rx,ry=>
   have q:(if a.length+b.length≤sizeLine then some (D.tup (a++b)) else none)=some c:=q
   split at q
   ·rename_i hz
    cases q
    obtain ⟨p,vs,rfl,np,hp,rp⟩:=Rep.tup_iff.mp rx
    obtain ⟨p2,vs2,rfl,np2,hp2,rp2⟩:=Rep.tup_iff.mp ry
    by_cases hv:vs=[]
    ·subst hv
     have ea:a=[]:=List.length_eq_zero_iff.mp (by rw [rp.length];rfl)
     subst ea
     exact .inr (.inr (.inr ⟨p,p2,vs2,rfl,rfl,SqT.of (e1 _ _ np hp),SqT.of (e1 _ _ np2 hp2),k _ Hf H (.refl e1) st ry (.scal fun z=>z)⟩))
    ·refine .inr (.inr (.inl ⟨p,p2,vs,vs2,rfl,rfl,SqT.of (e1 _ _ np hp),SqT.of (e1 _ _ np2 hp2),hv,by rw [←rp.length,←rp2.length];exact hz,fun z=>?_,fun _ l hl=>?_⟩))
     ·subst z
      have eb:b=[]:=List.length_eq_zero_iff.mp (by rw [rp2.length];rfl)
      subst eb
      rw [List.append_nil] at k
      exact k _ Hf H (.refl e1) st rx (.scal fun z=>z)
     ·have nf:=Gh.nofp st hl
      have g2:=Gr.new (o:=.tup (vs++vs2)) e1 hl nf
      exact k (.ref l) _ _ g2 (Gh.grow st hl) (Rep.tup_iff.mpr ⟨l,_,rfl,nf,upd_same,(rp.append rp2).ext g2.ff⟩) (.scal fun z=>z)
   ·cases q⟩
noncomputable def dIx:D→D→Option D
 | .lst ds,.int i=>atI ds i
 | .tup ds,.int i=>atI ds i
 | _,_=>none
theorem atI_rep {Hf:Hp} {ds:List D} {vs:List V} {i:Int} {c:D} (r:RepL G Hf ds vs) (h:atI ds i=some c):∃v,atI vs i=some v∧Rep G Hf c v:=by
 unfold atI at h ⊢
 rw [←r.length]
 cases e:ixN ds.length i with
 | none=>rw [e] at h;cases h
 | some j=>
  rw [e] at h
  obtain ⟨v,h1,h2⟩:=r.get (i:=j) (d:=c) h
  exact ⟨v,h1,h2⟩
theorem ixd:IxD X G dIx:=
 ⟨_,ix_list.or ix_tup,fun Hf H s x y d e c Q e1 st rx ry q k=>by
  match d,e,q,rx,ry with
  | .lst ds,.int i,q,rx,ry=>
   obtain ⟨p,vs,rfl,np,hp,rp⟩:=Rep.lst_iff.mp rx
   obtain ⟨v,h1,h2⟩:=atI_rep rp q
   exact .inl ⟨p,vs,i,v,rfl,Rep.int_iff.mp ry,SqL.of (e1 _ _ np hp),h1,k v h2⟩
  | .tup ds,.int i,q,rx,ry=>
   obtain ⟨p,vs,rfl,np,hp,rp⟩:=Rep.tup_iff.mp rx
   obtain ⟨v,h1,h2⟩:=atI_rep rp q
   exact .inr ⟨p,vs,i,v,rfl,Rep.int_iff.mp ry,SqT.of (e1 _ _ np hp),h1,k v h2⟩⟩
theorem RepL.one_inv {H:Hp} {d:D} {xs:List V} (h:RepL G H [d] xs):∃v,xs=[v]∧Rep G H d v:=by
 obtain ⟨v,r,rfl,h1,h2⟩:=RepL.cons_iff.mp h
 rw [RepL.nil_iff.mp h2]
 exact ⟨v,rfl,h1⟩
theorem RepL.two_inv {H:Hp} {d e:D} {xs:List V} (h:RepL G H [d,e] xs):∃v w,xs=[v,w]∧Rep G H d v∧Rep G H e w:=by
 obtain ⟨v,r,rfl,h1,h2⟩:=RepL.cons_iff.mp h
 obtain ⟨w,rfl,h3⟩:=RepL.one_inv h2
 exact ⟨v,w,rfl,h1,h3⟩
noncomputable def dLen:List D→Option D
 | [.lst ds]=>some (.int ds.length)
 | [.tup ds]=>some (.int ds.length)
 | _=>none
theorem call_lenDD:CallD X G (.builtin "len") dLen:=
 ⟨_,call_len_seq,fun Hf H s xs ds c Q e1 st r q k=>by
  match ds,q,r with
  | [.lst es],q,r=>
   cases q
   obtain ⟨v,rfl,rv⟩:=RepL.one_inv r
   obtain ⟨p,vs,rfl,np,hp,rp⟩:=Rep.lst_iff.mp rv
   exact ⟨p,vs,rfl,.inl (SqL.of (e1 _ _ np hp)),k _ Hf H (.refl e1) st (Rep.int_iff.mpr (by rw [rp.length])) (.scal fun z=>z)⟩
  | [.tup es],q,r=>
   cases q
   obtain ⟨v,rfl,rv⟩:=RepL.one_inv r
   obtain ⟨p,vs,rfl,np,hp,rp⟩:=Rep.tup_iff.mp rv
   exact ⟨p,vs,rfl,.inr (SqT.of (e1 _ _ np hp)),k _ Hf H (.refl e1) st (Rep.int_iff.mpr (by rw [rp.length])) (.scal fun z=>z)⟩⟩
noncomputable def dTuple:List D→Option D
 | [.lst ds]=>some (.tup ds)
 | [.tup ds]=>some (.tup ds)
 | _=>none
theorem call_tupleDD:CallD X G (.type "tuple") dTuple:=
 ⟨_,call_tuple_of,fun Hf H s xs ds c Q e1 st r q k=>by
  match ds,q,r with
  | [.lst es],q,r=>
   cases q
   obtain ⟨v,rfl,rv⟩:=RepL.one_inv r
   obtain ⟨p,vs,rfl,np,hp,rp⟩:=Rep.lst_iff.mp rv
   refine ⟨p,vs,rfl,.inl ⟨SqL.of (e1 _ _ np hp),fun l hl=>?_⟩⟩
   have nf:=Gh.nofp st hl
   have g2:=Gr.new (o:=.tup vs) e1 hl nf
   exact k (.ref l) _ _ g2 (Gh.grow st hl) (Rep.tup_iff.mpr ⟨l,_,rfl,nf,upd_same,rp.ext g2.ff⟩) (.scal fun z=>z)
  | [.tup es],q,r=>
   cases q
   obtain ⟨v,rfl,rv⟩:=RepL.one_inv r
   obtain ⟨p,vs,rfl,np,hp,rp⟩:=Rep.tup_iff.mp rv
   exact ⟨p,vs,rfl,.inr ⟨SqT.of (e1 _ _ np hp),k _ Hf H (.refl e1) st rv (.scal fun z=>z)⟩⟩⟩
noncomputable def dMax2:List D→Option D
 | [.int i,.int j]=>some (.int (if j > i then j else i))
 | _=>none
noncomputable def dMin2:List D→Option D
 | [.int i,.int j]=>some (.int (if j<i then j else i))
 | _=>none
theorem call_max2D (hc:X.calm=true):CallD X G (.builtin "max") dMax2:=
 ⟨_,call_max2 hc,fun Hf H s xs ds c Q e1 st r q k=>by
  match ds,q,r with
  | [.int i,.int j],q,r=>
   cases q
   obtain ⟨v,w,rfl,rv,rw'⟩:=RepL.two_inv r
   rw [Rep.int_iff.mp rv,Rep.int_iff.mp rw']
   exact ⟨i,j,rfl,k _ Hf H (.refl e1) st (Rep.int_iff.mpr rfl) (.scal fun z=>z)⟩⟩
theorem call_min2D (hc:X.calm=true):CallD X G (.builtin "min") dMin2:=
 ⟨_,call_min2 hc,fun Hf H s xs ds c Q e1 st r q k=>by
  match ds,q,r with
  | [.int i,.int j],q,r=>
   cases q
   obtain ⟨v,w,rfl,rv,rw'⟩:=RepL.two_inv r
   rw [Rep.int_iff.mp rv,Rep.int_iff.mp rw']
   exact ⟨i,j,rfl,k _ Hf H (.refl e1) st (Rep.int_iff.mpr rfl) (.scal fun z=>z)⟩⟩
noncomputable def dInt1:List D→Option D
 | [.int i]=>some (.int i)
 | [.bl b]=>some (.int (if b then 1 else 0))
 | _=>none
theorem call_int1D:CallD X G (.type "int") dInt1:=
 ⟨_,call_int1,fun Hf H s xs ds c Q e1 st r q k=>by
  match ds,q,r with
  | [.int i],q,r=>
   cases q
   obtain ⟨v,rfl,rv⟩:=RepL.one_inv r
   rw [Rep.int_iff.mp rv]
   exact .inl ⟨i,rfl,k _ Hf H (.refl e1) st (Rep.int_iff.mpr rfl) (.scal fun z=>z)⟩
  | [.bl i],q,r=>
   cases q
   obtain ⟨v,rfl,rv⟩:=RepL.one_inv r
   rw [Rep.bl_iff.mp rv]
   exact .inr ⟨i,rfl,k _ Hf H (.refl e1) st (Rep.int_iff.mpr rfl) (.scal fun z=>z)⟩⟩
noncomputable def boolsOf:List D→Option (List Bool)
 | []=>some []
 | .bl b::ds=>(boolsOf ds).map (b :: ·)
 | _::_=>none
theorem boolsOf_eq:∀{ds:List D} {ns:List Bool},boolsOf ds=some ns→ds=ns.map D.bl
 | [],ns,h=>by simp [boolsOf] at h;subst h;rfl
 | .bl i::ds,ns,h=>by
  cases e:boolsOf ds with
  | none=>simp [boolsOf,e] at h
  | some ms=>simp [boolsOf,e] at h;subst h;simp [boolsOf_eq e]
 | .non::_,_,h=>by simp [boolsOf] at h
 | .int _::_,_,h=>by simp [boolsOf] at h
 | .str _::_,_,h=>by simp [boolsOf] at h
 | .tup _::_,_,h=>by simp [boolsOf] at h
 | .lst _::_,_,h=>by simp [boolsOf] at h
 | .dk _::_,_,h=>by simp [boolsOf] at h
 | .dt _::_,_,h=>by simp [boolsOf] at h
 | .du _::_,_,h=>by simp [boolsOf] at h
 | .df _::_,_,h=>by simp [boolsOf] at h
 | .pen::_,_,h=>by simp [boolsOf] at h
 | .ty _::_,_,h=>by simp [boolsOf] at h
theorem boolsOf_map (ns:List Bool):boolsOf (ns.map D.bl)=some ns:=by
 induction ns with
 | nil=>rfl
 | cons n ns ih=>simp [boolsOf,ih]
theorem RepL.bools {H:Hp}:∀{ns:List Bool} {vs:List V},RepL G H (ns.map D.bl) vs→vs=ns.map V.bl
 | [],vs,h=>RepL.nil_iff.mp h
 | n::ns,vs,h=>by
  obtain ⟨v,r,rfl,h1,h2⟩:=RepL.cons_iff.mp h
  rw [Rep.bl_iff.mp h1,RepL.bools h2]
  rfl
theorem vals_bools:∀{bs:List Bool} {us:List Value},Vals (bs.map V.bl) us→us=bs.map Value.bool
 | [],_,.nil=>rfl
 | b::bs,_,.cons r t=>by
  cases (show _=Value.bool b from r)
  rw [vals_bools t]
  rfl
theorem walk_bools {hc:X.calm=true} {pins:List (Addr×Obj)} {s:Shared} {σ:St} {H:Hp} {p:Addr} {bs:List Bool} {Q:Value→Shared→Prop} {E:Value→Shared→Prop} (fin:Bool) (I:Inv X pins σ H s) (h:H p=some (.lst (bs.map V.bl)))
  (fn:(Nat→Bool)→List Nat→Bool) (hq:∀s',Inv X pins σ H s'→Q (.bool (fn (fun i=>bs.getD i false) (List.range bs.length))) s') :
  wpAny (model X.prog X.w) X.A.in1 (pyIter (.ref p)) (fun it s₂=>∃I fp wr n P St tr,it=.ref I∧Walks X.prog X.w X.A.in1 I fp wr n P St∧St 0 s₂.heap∧TruthOf X.prog X.w X.A.in1 P tr∧
   ∀h' tk,(∀b o,b∉wr→s₂.heap.get? b=some o→h'.get? b=some o)→Q (.bool (fn tr (List.range n))) { s₂ with heap:=h',toks:=tk }) E s:=by
 obtain ⟨its,rv,pl,hz⟩:=I.list (SqL.of h)
 have eu:=vals_bools rv
 subst eu
 refine wpAny_pyIter_list pl.isList ?_
 have hne:p≠s.heap.objs.size:=Nat.ne_of_lt (by
  obtain ⟨o,ho,_⟩:=pl.isList
  exact Heap.lt_size ho)
 refine ⟨s.heap.objs.size,_,_,_,_,_,fun i=>bs.getD i false,rfl,Walks.list (A:=X.A.in1) (I.ok.hd hc) s.heap.objs.size p hne _,⟨⟨_,Heap.get?_push_size _ rfl,rfl,rfl⟩,pl.isList.at fun o e=>Heap.get?_push_of_some _ e⟩,?_,?_⟩
 ·intro i v s' Q' E' hP hQ'
  have hv:v=.bool (bs.getD i false):=by
   have e:(bs.map Value.bool).toArray[i]?=some v:=hP
   rw [List.getElem?_toArray,List.getElem?_map] at e
   cases q:bs[i]? with
   | none=>rw [q] at e;cases e
   | some b=>rw [q] at e;cases e;simp [List.getD,q]
  subst hv
  exact wpAny_truthy_bool hQ'
 ·intro h' tk hk
  have:(List.map Value.bool bs).toArray.size=bs.length:=by simp
  rw [this]
  have I1:Inv X pins σ H { s with heap:=s.heap.push { cls:=.type "list_iterator",data:=.fields #[.ref p,.int 0 0] } }:=I.kept (t':=s.toks) fun b o e=>Heap.get?_push_of_some _ e
  refine hq _ (I.kept (t':=tk) fun b o e=>hk b o ?_ (Heap.get?_push_of_some _ e))
  have:=Nat.ne_of_lt (Heap.lt_size e)
  simpa using this
theorem all_getD (bs:List Bool):(List.range bs.length).all (fun i=>bs.getD i false)=bs.all id:=by
 induction bs with
 | nil=>rfl
 | cons b bs ih=>
  rw [List.length_cons,List.range_succ_eq_map,List.all_cons,List.all_map]
  show (b&&(List.range bs.length).all fun i=>bs.getD i false)=_
  rw [ih];rfl
theorem call_allR (hc:X.calm=true):CallR X (.builtin "all") (fun xs H Q=>∃(p:Addr) (bs:List Bool),xs=[.ref p]∧H p=some (.lst (bs.map V.bl))∧Q (.bl (bs.all id)) H):=by
 intro pins s σ H xs us Q I r h
 obtain ⟨p,bs,rfl,hp,q⟩:=h
 obtain ⟨u,rfl,ru⟩:=vals1 r
 cases ru
 refine call_all_walk (walk_bools (hc:=hc) true I hp (fun t l=>l.all t) fun s' I'=>⟨.bl (bs.all id),H,I',?_,q⟩)
 show Value.bool _=_
 rw [all_getD]
noncomputable def dAll:List D→Option D
 | [.lst ds]=>(boolsOf ds).map fun bs=>.bl (bs.all id)
 | _=>none
theorem call_allD (hc:X.calm=true):CallD X G (.builtin "all") dAll:=
 ⟨_,call_allR hc,fun Hf H s xs ds c Q e1 st r q k=>by
  match ds,q,r with
  | [.lst es],q,r=>
   obtain ⟨v,rfl,rv⟩:=RepL.one_inv r
   obtain ⟨p,vs,rfl,np,hp,rp⟩:=Rep.lst_iff.mp rv
   cases e:boolsOf es with
   | none=>simp [dAll,e] at q
   | some bs=>
    simp [dAll,e] at q
    subst q
    rw [boolsOf_eq e] at rp
    rw [RepL.bools rp] at hp
    exact ⟨p,bs,rfl,e1 _ _ np hp,k _ Hf H (.refl e1) st (Rep.bl_iff.mpr rfl) (.scal fun z=>z)⟩⟩
theorem pd_ty {x:Str} {n:String} {pos:Pos} (hg:Gl X x) (hm:X.mg x=none) (hv:bootBuiltins x=some (.type n)) (hn:x≠"__name__":=by decide) (hd:(x==("__debug__" : Str))=false:=by decide):PD X G true (.Name x pos) (dC (.ty n)):=by
 refine ⟨_,pe_bltn (v:=.ty n) hg hm hv rfl hn hd,fun σ Hf H ρ s d s' Q e1 e2 e3 e4 k=>?_⟩
 obtain ⟨rfl,rfl⟩:=mret_some e4
 exact k _ Hf H (.refl e1) e3 (Rep.ty_iff.mpr rfl) fun _=>.scal fun z=>z
noncomputable def tyName:D→Option String
 | .non=>some "NoneType"
 | .bl _=>some "bool"
 | .int _=>some "int"
 | .str _=>some "str"
 | .tup _=>some "tuple"
 | .lst _=>some "list"
 | .dk _=>some "dict"
 | .dt _=>none
 | .du _=>none
 | .df _=>none
 | _=>none
noncomputable def kinds:List String:=["int","bool","str","tuple","list","dict"]
noncomputable def dIsi:List D→Option D
 | [d,.ty T]=>match tyName d with
  | some n=>if kinds.contains T then some (.bl (n==T||(n == "bool" && T == "int"))) else none
  | none=>none
 | _=>none
theorem kit_tab (K:PySem.W.Frag):∀n∈["NoneType","bool","int","str","tuple","list","dict"],∀T∈kinds,PySem.W.kitOne K (.type n) (.type T)=some (n==T||(n == "bool" && T == "int")):=by
 intro n hn T hT
 simp only [kinds,List.mem_cons,List.not_mem_nil,or_false] at hn hT
 rcases hn with rfl | rfl | rfl | rfl | rfl | rfl | rfl <;> rcases hT with rfl | rfl | rfl | rfl | rfl | rfl <;> rfl
theorem tyName_of {Hf H:Hp} {d:D} {v:V} {n:String} (e1:Ext G Hf H) (r:Rep G Hf d v) (h:tyName d=some n):TyOf X.K H v (.type n)∧n∈["NoneType","bool","int","str","tuple","list","dict"]:=by
 cases d with
 | non=>cases h;rw [Rep.non_iff.mp r];exact ⟨.non,by decide⟩
 | bl b=>cases h;rw [Rep.bl_iff.mp r];exact ⟨.bl b,by decide⟩
 | int b=>cases h;rw [Rep.int_iff.mp r];exact ⟨.int b,by decide⟩
 | str b=>cases h;rw [Rep.str_iff.mp r];exact ⟨.str b,by decide⟩
 | tup ds=>cases h;obtain ⟨p,vs,rfl,np,hp,rp⟩:=Rep.tup_iff.mp r;exact ⟨.tup (e1 _ _ np hp),by decide⟩
 | lst ds=>cases h;obtain ⟨p,vs,rfl,np,hp,rp⟩:=Rep.lst_iff.mp r;exact ⟨.lst (e1 _ _ np hp),by decide⟩
 | dk ds=>cases h;obtain ⟨p,rfl,np,hp⟩:=Rep.dk_iff.mp r;exact ⟨.dK (e1 _ _ np hp),by decide⟩
 | dt ds=>cases h
 | du ds=>cases h
 | df ds=>cases h
 | pen=>cases h
 | ty _=>cases h
 | clo _ _=>cases h
theorem call_isiR:CallR X (.builtin "isinstance") (fun xs H Q=>∃x n T,xs=[x,.ty T]∧TyOf X.K H x (.type n)∧n∈["NoneType","bool","int","str","tuple","list","dict"]∧T∈kinds∧Q (.bl (n==T||(n == "bool" && T == "int"))) H):=by
 intro pins s σ H xs us Q I r h
 obtain ⟨x,n,T,rfl,ty,hn,hT,q⟩:=h
 obtain ⟨u,w',rfl,ru,rw'⟩:=vals2 r
 cases (show w'=Value.type T from rw')
 exact isinst_ok I ru ty (kit_tab X.K n hn T hT) fun tk=>⟨.bl _,H,I.tok tk,rfl,q⟩
theorem call_isiD:CallD X G (.builtin "isinstance") dIsi:=
 ⟨_,call_isiR,fun Hf H s xs ds c Q e1 st r q k=>by
  match ds,q,r with
  | [d,.ty T],q,r=>
   obtain ⟨v,w,rfl,rv,rw'⟩:=RepL.two_inv r
   rw [Rep.ty_iff.mp rw']
   have q:(match tyName d with | some n=>if kinds.contains T then some (D.bl (n==T||(n == "bool" && T == "int"))) else none | none=>none)=some c:=q
   cases e:tyName d with
   | none=>rw [e] at q;cases q
   | some n=>
    rw [e] at q
    simp only at q
    split at q
    ·rename_i hk
     cases q
     obtain ⟨t1,t2⟩:=tyName_of (X:=X) e1 rv e
     exact ⟨v,n,T,rfl,t1,t2,by simpa using hk,k _ Hf H (.refl e1) st (Rep.bl_iff.mpr rfl) (.scal fun z=>z)⟩
    ·cases q⟩
end
mutual
noncomputable def plainD:D→Bool
 | .non=>true
 | .bl _=>true
 | .int _=>true
 | .str _=>true
 | .tup ds=>plainDs ds
 | .lst ds=>plainDs ds
 | _=>false
noncomputable def plainDs:List D→Bool
 | []=>true
 | d::ds=>plainD d&&plainDs ds
end
mutual
noncomputable def dep:D→Nat
 | .tup ds=>deps ds+1
 | .lst ds=>deps ds+1
 | _=>0
noncomputable def deps:List D→Nat
 | []=>0
 | d::ds=>max (dep d) (deps ds)
end
theorem dep_mem:∀{ds:List D} {d:D},d∈ds→dep d≤deps ds
 | e::ds,d,h=>by
  rcases List.mem_cons.mp h with rfl | h
  ·simp only [deps];omega
  ·have:=dep_mem h
   simp only [deps];omega
theorem plain_mem:∀{ds:List D} {d:D},plainDs ds=true→d∈ds→plainD d=true
 | e::ds,d,n,h=>by
  have n':plainD e=true∧plainDs ds=true:=by simpa [plainDs] using n
  rcases List.mem_cons.mp h with rfl | h
  ·exact n'.1
  ·exact plain_mem n'.2 h
mutual
noncomputable def dEq:D→D→Bool
 | .non,.non=>true
 | .bl a,.bl b=>a==b
 | .bl a,.int i=>(if a then 1 else 0)==i
 | .int i,.bl b=>i==(if b then 1 else 0)
 | .int i,.int j=>i==j
 | .str x,.str y=>x==y
 | .tup a,.tup b=>dEqs a b
 | .lst a,.lst b=>dEqs a b
 | _,_=>false
noncomputable def dEqs:List D→List D→Bool
 | [],[]=>true
 | a::as,b::bs=>dEq a b&&dEqs as bs
 | _,_=>false
end
mutual
theorem dEq_refl:∀d:D,plainD d=true→dEq d d=true
 | .non,_=>by simp [dEq]
 | .bl _,_=>by simp [dEq]
 | .int _,_=>by simp [dEq]
 | .str _,_=>by simp [dEq]
 | .tup ds,h=>by simp only [dEq];exact dEqs_refl ds (by simpa [plainD] using h)
 | .lst ds,h=>by simp only [dEq];exact dEqs_refl ds (by simpa [plainD] using h)
 | .dk _,h=>by simp [plainD] at h
 | .dt _,h=>by simp [plainD] at h
 | .du _,h=>by simp [plainD] at h
 | .df _,h=>by simp [plainD] at h
 | .pen,h=>by simp [plainD] at h
 | .ty _,h=>by simp [plainD] at h
 | .clo _ _,h=>by simp [plainD] at h
theorem dEqs_refl:∀ds:List D,plainDs ds=true→dEqs ds ds=true
 | [],_=>by simp [dEqs]
 | d::ds,h=>by
  have n':plainD d=true∧plainDs ds=true:=by simpa [plainDs] using h
  simp only [dEqs,dEq_refl d n'.1,dEqs_refl ds n'.2,Bool.and_self]
end
theorem dEqs_len:∀{a b:List D},dEqs a b=true→a.length=b.length
 | [],[],_=>rfl
 | a::as,b::bs,h=>by
  have:dEq a b=true∧dEqs as bs=true:=by simpa [dEqs] using h
  simp [dEqs_len this.2]
 | [],_::_,h=>by simp [dEqs] at h
 | _::_,[],h=>by simp [dEqs] at h
theorem dEqs_range:∀(a b:List D),a.length=b.length→(List.range a.length).all (fun j=>dEq (a.getD j .non) (b.getD j .non))=dEqs a b
 | [],[],_=>rfl
 | a::as,b::bs,h=>by
  have h':as.length=bs.length:=by simpa using h
  rw [List.length_cons,List.range_succ_eq_map,List.all_cons,List.all_map,dEqs,←dEqs_range as bs h']
  rfl
 | [],_::_,h=>by simp at h
 | _::_,[],h=>by simp at h
theorem dEqs_range':∀(a b:List D),((List.range (min a.length b.length)).all (fun j=>dEq (a.getD j .non) (b.getD j .non))&&a.length==b.length)=dEqs a b:=fun a b=>by
 by_cases h:a.length=b.length
 ·rw [←dEqs_range a b h,h];simp
 ·have:dEqs a b=false:=by
   cases e:dEqs a b with
   | false=>rfl
   | true=>exact absurd (dEqs_len e) h
  rw [this];simp [h]
mutual
theorem Rep.inj {G:Gh} {H:Hp}:∀{d e:D} {v:V},plainD d=true→plainD e=true→Rep G H d v→Rep G H e v→d=e
 | .non,e,v,_,pe,h,h'=>by
  rw [Rep.non_iff.mp h] at h'
  cases e <;> first | rfl | (simp [plainD] at pe;done) | (simp [Rep] at h')
 | .bl b,e,v,_,pe,h,h'=>by
  rw [Rep.bl_iff.mp h] at h'
  cases e <;> first | (simp [plainD] at pe;done) | (simp [Rep] at h';rw [h']) | (simp [Rep] at h')
 | .int b,e,v,_,pe,h,h'=>by
  rw [Rep.int_iff.mp h] at h'
  cases e <;> first | (simp [plainD] at pe;done) | (simp [Rep] at h';rw [h']) | (simp [Rep] at h')
 | .str b,e,v,_,pe,h,h'=>by
  rw [Rep.str_iff.mp h] at h'
  cases e <;> first | (simp [plainD] at pe;done) | (simp [Rep] at h';rw [h']) | (simp [Rep] at h')
 | .tup ds,e,v,pd,pe,h,h'=>by
  obtain ⟨a,vs,rfl,n,q,r⟩:=Rep.tup_iff.mp h
  cases e with
  | tup es=>
   obtain ⟨a',vs',e',n',q',r'⟩:=Rep.tup_iff.mp h'
   cases e'
   rw [q] at q';cases q'
   rw [RepL.inj (by simpa [plainD] using pd) (by simpa [plainD] using pe) r r']
  | lst es=>
   obtain ⟨a',vs',e',n',q',r'⟩:=Rep.lst_iff.mp h'
   cases e'
   rw [q] at q';cases q'
  | _=>first | (simp [Rep] at h';done) | (simp [plainD] at pe;done)
 | .lst ds,e,v,pd,pe,h,h'=>by
  obtain ⟨a,vs,rfl,n,q,r⟩:=Rep.lst_iff.mp h
  cases e with
  | lst es=>
   obtain ⟨a',vs',e',n',q',r'⟩:=Rep.lst_iff.mp h'
   cases e'
   rw [q] at q';cases q'
   rw [RepL.inj (by simpa [plainD] using pd) (by simpa [plainD] using pe) r r']
  | tup es=>
   obtain ⟨a',vs',e',n',q',r'⟩:=Rep.tup_iff.mp h'
   cases e'
   rw [q] at q';cases q'
  | _=>first | (simp [Rep] at h';done) | (simp [plainD] at pe;done)
 | .dk _,_,_,pd,_,_,_=>by simp [plainD] at pd
 | .dt _,_,_,pd,_,_,_=>by simp [plainD] at pd
 | .du _,_,_,pd,_,_,_=>by simp [plainD] at pd
 | .df _,_,_,pd,_,_,_=>by simp [plainD] at pd
 | .pen,_,_,pd,_,_,_=>by simp [plainD] at pd
 | .ty _,_,_,pd,_,_,_=>by simp [plainD] at pd
 | .clo _ _,_,_,pd,_,_,_=>by simp [plainD] at pd
theorem RepL.inj {G:Gh} {H:Hp}:∀{ds es:List D} {vs:List V},plainDs ds=true→plainDs es=true→RepL G H ds vs→RepL G H es vs→ds=es
 | [],es,vs,_,pe,h,h'=>by
  rw [RepL.nil_iff.mp h] at h'
  cases es with
  | nil=>rfl
  | cons e es=>obtain ⟨v,r,e1,_⟩:=RepL.cons_iff.mp h';cases e1
 | d::ds,es,vs,pd,pe,h,h'=>by
  obtain ⟨v,r,rfl,r1,r2⟩:=RepL.cons_iff.mp h
  have pd':plainD d=true∧plainDs ds=true:=by simpa [plainDs] using pd
  cases es with
  | nil=>have:=RepL.nil_iff.mp h';cases this
  | cons e es=>
   obtain ⟨v',r',e1,r1',r2'⟩:=RepL.cons_iff.mp h'
   cases e1
   have pe':plainD e=true∧plainDs es=true:=by simpa [plainDs] using pe
   rw [Rep.inj pd'.1 pe'.1 r1 r1',RepL.inj pd'.2 pe'.2 r2 r2']
end
section
variable {X:Cx} {G:Gh} {pins:List (Addr×Obj)} {σ:St} {Hf H:Hp} {s:Shared}
theorem in1_units (A:Around):A.in1.units=A.units+1:=rfl
theorem item_at {ds:List D} {vs:List V} {us:List Value} (r:RepL G Hf ds vs) (rv:Vals vs us) {j:Nat} (h:j<us.toArray.size):∃v,Rep G Hf (ds.getD j .non) v∧RelV v us.toArray[j]∧ds.getD j .non∈ds:=by
 have hl:j<ds.length:=by rw [r.length,rv.length];simpa using h
 have e:ds[j]?=some (ds.getD j .non):=by simp [List.getD,hl]
 obtain ⟨v,h1,h2⟩:=r.get e
 obtain ⟨u,h3,h4⟩:=rv.get h1
 refine ⟨v,h2,?_,?_⟩
 ·have:us.toArray[j]=u:=by
   have h':j<us.length:=by simpa using h
   have q:us[j]?=some us[j]:=by simp [h']
   rw [h3] at q
   simpa using (Option.some.inj q).symm
  rw [this];exact h4
 ·simp [List.getD,hl]
theorem eqAtD (I:Inv X pins σ H s) (e1:Ext G Hf H):∀(n:Nat) (A:Around) (d e:D) (x y:V) (u v:Value),dep d≤n→dep e≤n→A.units+n+1<cLine→plainD d=true→plainD e=true→Rep G Hf d x→Rep G Hf e y→RelV x u→RelV y v→
  SeqAt.EqAt A s u v (dEq d e)∧SeqAt.RcAt A s u v (dEq d e)∧SeqAt.RcNeAt A s u v (!dEq d e):=by
 intro n
 induction n with
 | zero=>
  intro A d e x y u v hd he hu pd pe rd re ru rv
  have hu':A.units<cLine:=by omega
  cases d with
  | tup ds=>simp [dep] at hd
  | lst ds=>simp [dep] at hd
  | dk _=>simp [plainD] at pd
  | dt _=>simp [plainD] at pd
  | du _=>simp [plainD] at pd
  | df _=>simp [plainD] at pd
  | pen=>simp [plainD] at pd
  | ty _=>simp [plainD] at pd
  | clo _ _=>simp [plainD] at pd
  | non=>
   rw [Rep.non_iff.mp rd] at ru
   cases (show u=Value.none from ru)
   cases e with
   | tup ds=>simp [dep] at he
   | lst ds=>simp [dep] at he
   | dk _=>simp [plainD] at pe
   | dt _=>simp [plainD] at pe
   | du _=>simp [plainD] at pe
   | df _=>simp [plainD] at pe
   | pen=>simp [plainD] at pe
   | ty _=>simp [plainD] at pe
   | clo _ _=>simp [plainD] at pe
   | non=>rw [Rep.non_iff.mp re] at rv;cases (show v=Value.none from rv);simp only [dEq];exact ⟨.same _,.none_none,.none_none⟩
   | bl b=>rw [Rep.bl_iff.mp re] at rv;cases (show v=Value.bool b from rv);simp only [dEq];exact ⟨.none_bool b,.none_bool b,.none_bool b⟩
   | int b=>rw [Rep.int_iff.mp re] at rv;obtain ⟨t,rfl⟩:=rv;simp only [dEq];exact ⟨.none_int b t,.none_int b t,.none_int b t⟩
   | str b=>rw [Rep.str_iff.mp re] at rv;obtain ⟨t,rfl⟩:=rv;simp only [dEq];exact ⟨.none_str b t,.none_str b t,.none_str b t⟩
  | bl a=>
   rw [Rep.bl_iff.mp rd] at ru
   cases (show u=Value.bool a from ru)
   cases e with
   | tup ds=>simp [dep] at he
   | lst ds=>simp [dep] at he
   | dk _=>simp [plainD] at pe
   | dt _=>simp [plainD] at pe
   | du _=>simp [plainD] at pe
   | df _=>simp [plainD] at pe
   | pen=>simp [plainD] at pe
   | ty _=>simp [plainD] at pe
   | clo _ _=>simp [plainD] at pe
   | non=>rw [Rep.non_iff.mp re] at rv;cases (show v=Value.none from rv);simp only [dEq];exact ⟨.bool_none a,.bool_none a,.bool_none a⟩
   | bl b=>rw [Rep.bl_iff.mp re] at rv;cases (show v=Value.bool b from rv);simp only [dEq];exact ⟨.bool_bool a b,.bool_bool a b,.bool_bool a b⟩
   | int b=>rw [Rep.int_iff.mp re] at rv;obtain ⟨t,rfl⟩:=rv;simp only [dEq];exact ⟨.bool_int a b t,.bool_int a b t,.bool_int a b t⟩
   | str b=>rw [Rep.str_iff.mp re] at rv;obtain ⟨t,rfl⟩:=rv;simp only [dEq];exact ⟨.bool_str a b t,.bool_str a b t,.bool_str a b t⟩
  | int a=>
   rw [Rep.int_iff.mp rd] at ru
   obtain ⟨ta,rfl⟩:=ru
   cases e with
   | tup ds=>simp [dep] at he
   | lst ds=>simp [dep] at he
   | dk _=>simp [plainD] at pe
   | dt _=>simp [plainD] at pe
   | du _=>simp [plainD] at pe
   | df _=>simp [plainD] at pe
   | pen=>simp [plainD] at pe
   | ty _=>simp [plainD] at pe
   | clo _ _=>simp [plainD] at pe
   | non=>rw [Rep.non_iff.mp re] at rv;cases (show v=Value.none from rv);simp only [dEq];exact ⟨.int_none a ta,.int_none a ta,.int_none a ta⟩
   | bl b=>rw [Rep.bl_iff.mp re] at rv;cases (show v=Value.bool b from rv);simp only [dEq];exact ⟨.int_bool a ta b,.int_bool a ta b,.int_bool a ta b⟩
   | int b=>rw [Rep.int_iff.mp re] at rv;obtain ⟨t,rfl⟩:=rv;simp only [dEq];exact ⟨.int_int a ta b t,.int_int a ta b t,.int_int a ta b t⟩
   | str b=>rw [Rep.str_iff.mp re] at rv;obtain ⟨t,rfl⟩:=rv;simp only [dEq];exact ⟨.int_str a ta b t,.int_str a ta b t,.int_str a ta b t⟩
  | str a=>
   rw [Rep.str_iff.mp rd] at ru
   obtain ⟨ta,rfl⟩:=ru
   cases e with
   | tup ds=>simp [dep] at he
   | lst ds=>simp [dep] at he
   | dk _=>simp [plainD] at pe
   | dt _=>simp [plainD] at pe
   | du _=>simp [plainD] at pe
   | df _=>simp [plainD] at pe
   | pen=>simp [plainD] at pe
   | ty _=>simp [plainD] at pe
   | clo _ _=>simp [plainD] at pe
   | non=>rw [Rep.non_iff.mp re] at rv;cases (show v=Value.none from rv);simp only [dEq];exact ⟨.str_none a ta,.str_none a ta,.str_none a ta⟩
   | bl b=>rw [Rep.bl_iff.mp re] at rv;cases (show v=Value.bool b from rv);simp only [dEq];exact ⟨.str_bool a ta b,.str_bool a ta b,.str_bool a ta b⟩
   | int b=>rw [Rep.int_iff.mp re] at rv;obtain ⟨t,rfl⟩:=rv;simp only [dEq];exact ⟨.str_int a ta b t,.str_int a ta b t,.str_int a ta b t⟩
   | str b=>rw [Rep.str_iff.mp re] at rv;obtain ⟨t,rfl⟩:=rv;simp only [dEq];exact ⟨.str_str a ta b t,.str_str a ta b t,.str_str a ta b t⟩
 | succ n ih=>
  intro A d e x y u v hd he hu pd pe rd re ru rv
  have hu':A.units<cLine:=by omega
  by_cases hs:dep d≤n∧dep e≤n
  ·exact ih A d e x y u v hs.1 hs.2 (by omega) pd pe rd re ru rv
  -- two refs
  have same:∀{l b:Addr},x=.ref l→y=.ref b→l=b→dEq d e=true:=fun ex ey el=>by
   subst ex ey el
   have:=Rep.inj pd pe rd re
   subst this
   exact dEq_refl d pd
  cases d with
  | dk _=>simp [plainD] at pd
  | dt _=>simp [plainD] at pd
  | du _=>simp [plainD] at pd
  | df _=>simp [plainD] at pd
  | pen=>simp [plainD] at pd
  | ty _=>simp [plainD] at pd
  | clo _ _=>simp [plainD] at pd
  | tup ds=>
   obtain ⟨l,vs,rfl,nl,hl,rl⟩:=Rep.tup_iff.mp rd
   cases (show u=Value.ref l from ru)
   obtain ⟨its,rits,pits,_⟩:=I.tuple (SqT.of (K:=X.K) (e1 _ _ nl hl))
   have il:s.heap.IsTuple l its.toArray:=pits
   cases e with
   | dk _=>simp [plainD] at pe
   | dt _=>simp [plainD] at pe
   | du _=>simp [plainD] at pe
   | df _=>simp [plainD] at pe
   | pen=>simp [plainD] at pe
   | ty _=>simp [plainD] at pe
   | clo _ _=>simp [plainD] at pe
   | non=>rw [Rep.non_iff.mp re] at rv;cases (show v=Value.none from rv);simp only [dEq];exact ⟨.tuple_none il hu',.tuple_none il hu',.tuple_none il hu'⟩
   | bl b=>rw [Rep.bl_iff.mp re] at rv;cases (show v=Value.bool b from rv);simp only [dEq];exact ⟨.tuple_bool b il hu',.tuple_bool b il hu',.tuple_bool b il hu'⟩
   | int b=>rw [Rep.int_iff.mp re] at rv;obtain ⟨t,rfl⟩:=rv;simp only [dEq];exact ⟨.tuple_int b t il hu',.tuple_int b t il hu',.tuple_int b t il hu'⟩
   | str b=>rw [Rep.str_iff.mp re] at rv;obtain ⟨t,rfl⟩:=rv;simp only [dEq];exact ⟨.tuple_str b t il hu',.tuple_str b t il hu',.tuple_str b t il hu'⟩
   | lst es=>
    obtain ⟨b,ws,rfl,nb,hb,rb⟩:=Rep.lst_iff.mp re
    cases (show v=Value.ref b from rv)
    obtain ⟨its2,rits2,pits2,_⟩:=I.list (SqL.of (K:=X.K) (e1 _ _ nb hb))
    simp only [dEq];exact ⟨.tuple_list il pits2.isList hu',.tuple_list il pits2.isList hu',.tuple_list il pits2.isList hu'⟩
   | tup es=>
    obtain ⟨b,ws,rfl,nb,hb,rb⟩:=Rep.tup_iff.mp re
    cases (show v=Value.ref b from rv)
    obtain ⟨its2,rits2,pits2,_⟩:=I.tuple (SqT.of (K:=X.K) (e1 _ _ nb hb))
    have ib:s.heap.IsTuple b its2.toArray:=pits2
    have hit:∀j (h1:j<its.toArray.size) (h2:j<its2.toArray.size),SeqAt.EqAt A.in1 s its.toArray[j] its2.toArray[j] ((fun j=>dEq (ds.getD j .non) (es.getD j .non)) j):=fun j h1 h2=>by
     obtain ⟨v1,a1,a2,a3⟩:=item_at rl rits h1
     obtain ⟨v2,b1,b2,b3⟩:=item_at rb rits2 h2
     exact (ih A.in1 _ _ v1 v2 _ _ (Nat.le_trans (dep_mem a3) (by simp [dep] at hd;omega)) (Nat.le_trans (dep_mem b3) (by simp [dep] at he;omega)) (by rw [in1_units];omega)
      (plain_mem (by simpa [plainD] using pd) a3) (plain_mem (by simpa [plainD] using pe) b3) a1 b1 a2 b2).1
    have sz1:its.toArray.size=ds.length:=by rw [rl.length,rits.length];simp
    have sz2:its2.toArray.size=es.length:=by rw [rb.length,rits2.length];simp
    have rc:=SeqAt.RcAt.tuples (e:=fun j=>dEq (ds.getD j .non) (es.getD j .non)) il ib hu' hit
    have rn:=SeqAt.RcNeAt.tuples (e:=fun j=>dEq (ds.getD j .non) (es.getD j .non)) il ib hu' hit
    rw [sz1,sz2,dEqs_range'] at rc rn
    simp only [dEq]
    refine ⟨?_,rc,rn⟩
    by_cases hlb:l=b
    ·have q:=same rfl rfl hlb
     simp only [dEq] at q
     subst hlb
     rw [q];exact .same _
    ·exact .of_refs hlb rc
  | lst ds=>
   obtain ⟨l,vs,rfl,nl,hl,rl⟩:=Rep.lst_iff.mp rd
   cases (show u=Value.ref l from ru)
   obtain ⟨its,rits,pits,_⟩:=I.list (SqL.of (K:=X.K) (e1 _ _ nl hl))
   have il:=pits.isList
   cases e with
   | dk _=>simp [plainD] at pe
   | dt _=>simp [plainD] at pe
   | du _=>simp [plainD] at pe
   | df _=>simp [plainD] at pe
   | pen=>simp [plainD] at pe
   | ty _=>simp [plainD] at pe
   | clo _ _=>simp [plainD] at pe
   | non=>rw [Rep.non_iff.mp re] at rv;cases (show v=Value.none from rv);simp only [dEq];exact ⟨.list_none il hu',.list_none il hu',.list_none il hu'⟩
   | bl b=>rw [Rep.bl_iff.mp re] at rv;cases (show v=Value.bool b from rv);simp only [dEq];exact ⟨.list_bool b il hu',.list_bool b il hu',.list_bool b il hu'⟩
   | int b=>rw [Rep.int_iff.mp re] at rv;obtain ⟨t,rfl⟩:=rv;simp only [dEq];exact ⟨.list_int b t il hu',.list_int b t il hu',.list_int b t il hu'⟩
   | str b=>rw [Rep.str_iff.mp re] at rv;obtain ⟨t,rfl⟩:=rv;simp only [dEq];exact ⟨.list_str b t il hu',.list_str b t il hu',.list_str b t il hu'⟩
   | tup es=>
    obtain ⟨b,ws,rfl,nb,hb,rb⟩:=Rep.tup_iff.mp re
    cases (show v=Value.ref b from rv)
    obtain ⟨its2,rits2,pits2,_⟩:=I.tuple (SqT.of (K:=X.K) (e1 _ _ nb hb))
    have ib:s.heap.IsTuple b its2.toArray:=pits2
    simp only [dEq];exact ⟨.list_tuple il ib hu',.list_tuple il ib hu',.list_tuple il ib hu'⟩
   | lst es=>
    obtain ⟨b,ws,rfl,nb,hb,rb⟩:=Rep.lst_iff.mp re
    cases (show v=Value.ref b from rv)
    obtain ⟨its2,rits2,pits2,_⟩:=I.list (SqL.of (K:=X.K) (e1 _ _ nb hb))
    have ib:=pits2.isList
    have hit:∀j (h1:j<its.toArray.size) (h2:j<its2.toArray.size),SeqAt.EqAt A.in1 s its.toArray[j] its2.toArray[j] ((fun j=>dEq (ds.getD j .non) (es.getD j .non)) j):=fun j h1 h2=>by
     obtain ⟨v1,a1,a2,a3⟩:=item_at rl rits h1
     obtain ⟨v2,b1,b2,b3⟩:=item_at rb rits2 h2
     exact (ih A.in1 _ _ v1 v2 _ _ (Nat.le_trans (dep_mem a3) (by simp [dep] at hd;omega)) (Nat.le_trans (dep_mem b3) (by simp [dep] at he;omega)) (by rw [in1_units];omega)
      (plain_mem (by simpa [plainD] using pd) a3) (plain_mem (by simpa [plainD] using pe) b3) a1 b1 a2 b2).1
    have sz1:its.toArray.size=ds.length:=by rw [rl.length,rits.length];simp
    have sz2:its2.toArray.size=es.length:=by rw [rb.length,rits2.length];simp
    have key:SeqAt.RcAt A s (.ref l) (.ref b) (dEqs ds es)∧SeqAt.RcNeAt A s (.ref l) (.ref b) (!dEqs ds es):=by
     by_cases hsz:ds.length=es.length
     ·have rc:=SeqAt.RcAt.lists (e:=fun j=>dEq (ds.getD j .non) (es.getD j .non)) il ib (by rw [sz1,sz2];exact hsz) hu' hit
      have rn:=SeqAt.RcNeAt.lists (e:=fun j=>dEq (ds.getD j .non) (es.getD j .non)) il ib (by rw [sz1,sz2];exact hsz) hu' hit
      rw [sz1,dEqs_range ds es hsz] at rc rn
      exact ⟨rc,rn⟩
     ·have hne:(its.toArray.size != its2.toArray.size)=true:=by rw [sz1,sz2];simpa using hsz
      have hf:dEqs ds es=false:=by
       cases e:dEqs ds es with
       | false=>rfl
       | true=>exact absurd (dEqs_len e) hsz
      rw [hf]
      exact ⟨.lists_lengths il ib hne hu',.lists_lengths il ib hne hu'⟩
    simp only [dEq]
    refine ⟨?_,key.1,key.2⟩
    by_cases hlb:l=b
    ·have q:=same rfl rfl hlb
     simp only [dEq] at q
     subst hlb
     rw [q];exact .same _
    ·exact .of_refs hlb key.1
  | non=>
   rw [Rep.non_iff.mp rd] at ru
   cases (show u=Value.none from ru)
   cases e with
   | tup es=>
    obtain ⟨b,ws,rfl,nb,hb,rb⟩:=Rep.tup_iff.mp re
    cases (show v=Value.ref b from rv)
    obtain ⟨its2,rits2,pits2,_⟩:=I.tuple (SqT.of (K:=X.K) (e1 _ _ nb hb))
    have ib:s.heap.IsTuple b its2.toArray:=pits2
    simp only [dEq];exact ⟨.none_tuple ib hu',.none_tuple ib hu',.none_tuple ib hu'⟩
   | lst es=>
    obtain ⟨b,ws,rfl,nb,hb,rb⟩:=Rep.lst_iff.mp re
    cases (show v=Value.ref b from rv)
    obtain ⟨its2,rits2,pits2,_⟩:=I.list (SqL.of (K:=X.K) (e1 _ _ nb hb))
    have ib:=pits2.isList
    simp only [dEq];exact ⟨.none_list ib hu',.none_list ib hu',.none_list ib hu'⟩
   | _=>simp [dep] at hs
  | bl a=>
   rw [Rep.bl_iff.mp rd] at ru
   cases (show u=Value.bool a from ru)
   cases e with
   | tup es=>
    obtain ⟨b,ws,rfl,nb,hb,rb⟩:=Rep.tup_iff.mp re
    cases (show v=Value.ref b from rv)
    obtain ⟨its2,rits2,pits2,_⟩:=I.tuple (SqT.of (K:=X.K) (e1 _ _ nb hb))
    have ib:s.heap.IsTuple b its2.toArray:=pits2
    simp only [dEq];exact ⟨.bool_tuple a ib hu',.bool_tuple a ib hu',.bool_tuple a ib hu'⟩
   | lst es=>
    obtain ⟨b,ws,rfl,nb,hb,rb⟩:=Rep.lst_iff.mp re
    cases (show v=Value.ref b from rv)
    obtain ⟨its2,rits2,pits2,_⟩:=I.list (SqL.of (K:=X.K) (e1 _ _ nb hb))
    have ib:=pits2.isList
    simp only [dEq];exact ⟨.bool_list a ib hu',.bool_list a ib hu',.bool_list a ib hu'⟩
   | _=>simp [dep] at hs
  | int a=>
   rw [Rep.int_iff.mp rd] at ru
   obtain ⟨ta,rfl⟩:=ru
   cases e with
   | tup es=>
    obtain ⟨b,ws,rfl,nb,hb,rb⟩:=Rep.tup_iff.mp re
    cases (show v=Value.ref b from rv)
    obtain ⟨its2,rits2,pits2,_⟩:=I.tuple (SqT.of (K:=X.K) (e1 _ _ nb hb))
    have ib:s.heap.IsTuple b its2.toArray:=pits2
    simp only [dEq];exact ⟨.int_tuple a ta ib hu',.int_tuple a ta ib hu',.int_tuple a ta ib hu'⟩
   | lst es=>
    obtain ⟨b,ws,rfl,nb,hb,rb⟩:=Rep.lst_iff.mp re
    cases (show v=Value.ref b from rv)
    obtain ⟨its2,rits2,pits2,_⟩:=I.list (SqL.of (K:=X.K) (e1 _ _ nb hb))
    have ib:=pits2.isList
    simp only [dEq];exact ⟨.int_list a ta ib hu',.int_list a ta ib hu',.int_list a ta ib hu'⟩
   | _=>simp [dep] at hs
  | str a=>
   rw [Rep.str_iff.mp rd] at ru
   obtain ⟨ta,rfl⟩:=ru
   cases e with
   | tup es=>
    obtain ⟨b,ws,rfl,nb,hb,rb⟩:=Rep.tup_iff.mp re
    cases (show v=Value.ref b from rv)
    obtain ⟨its2,rits2,pits2,_⟩:=I.tuple (SqT.of (K:=X.K) (e1 _ _ nb hb))
    have ib:s.heap.IsTuple b its2.toArray:=pits2
    simp only [dEq];exact ⟨.str_tuple a ta ib hu',.str_tuple a ta ib hu',.str_tuple a ta ib hu'⟩
   | lst es=>
    obtain ⟨b,ws,rfl,nb,hb,rb⟩:=Rep.lst_iff.mp re
    cases (show v=Value.ref b from rv)
    obtain ⟨its2,rits2,pits2,_⟩:=I.list (SqL.of (K:=X.K) (e1 _ _ nb hb))
    have ib:=pits2.isList
    simp only [dEq];exact ⟨.str_list a ta ib hu',.str_list a ta ib hu',.str_list a ta ib hu'⟩
   | _=>simp [dep] at hs
end
section
variable {X:Cx} {G:Gh}
noncomputable def okEq (d e:D):Bool:=plainD d&&plainD e&&decide (dep d≤60)&&decide (dep e≤60)
theorem okEq_some {d e:D} (h:okEq d e=true):plainD d=true∧plainD e=true∧dep d≤60∧dep e≤60:=by
 simp only [okEq,Bool.and_eq_true,decide_eq_true_eq] at h
 exact ⟨h.1.1.1,h.1.1.2,h.1.2,h.2⟩
noncomputable def dEqO (d e:D):Option D:=if okEq d e=true then some (.bl (dEq d e)) else none
noncomputable def dNeO (d e:D):Option D:=if okEq d e=true then some (.bl (!dEq d e)) else none
noncomputable def rEqD (G:Gh) (neg:Bool):R2:=fun x y H Q=>∃Hf d e,Ext G Hf H∧okEq d e=true∧Rep G Hf d x∧Rep G Hf e y∧Q (.bl (if neg then !dEq d e else dEq d e)) H
theorem op_eqD (hu:X.A.units+64<cLine):OpR X (compareOp .Eq) (rEqD G false):=by
 intro pins s σ H x y v u Q I rx ry h
 obtain ⟨Hf,d,e,e1,ok,rd,re,q⟩:=h
 obtain ⟨o1,o2,o3,o4⟩:=okEq_some ok
 exact (eqAtD I e1 60 X.A d e x y v u o3 o4 (by omega) o1 o2 rd re rx ry).2.1 _ _ _ _ ⟨.bl (dEq d e),H,I,rfl,q⟩
theorem op_neD (hu:X.A.units+64<cLine):OpR X (compareOp .NotEq) (rEqD G true):=by
 intro pins s σ H x y v u Q I rx ry h
 obtain ⟨Hf,d,e,e1,ok,rd,re,q⟩:=h
 obtain ⟨o1,o2,o3,o4⟩:=okEq_some ok
 exact (eqAtD I e1 60 X.A d e x y v u o3 o4 (by omega) o1 o2 rd re rx ry).2.2 _ _ _ _ ⟨.bl (!dEq d e),H,I,rfl,q⟩
theorem opd_eq (hu:X.A.units+64<cLine):OpD X G (compareOp .Eq) dEqO:=
 ⟨_,op_eqD (G:=G) hu,fun Hf H s x y d e c Q e1 st rx ry q k=>by
  unfold dEqO at q
  split at q
  ·rename_i ok
   cases q
   exact ⟨Hf,d,e,e1,ok,rx,ry,k _ Hf H (.refl e1) st (Rep.bl_iff.mpr rfl) (.scal fun z=>z)⟩
  ·cases q⟩
theorem opd_ne (hu:X.A.units+64<cLine):OpD X G (compareOp .NotEq) dNeO:=
 ⟨_,op_neD (G:=G) hu,fun Hf H s x y d e c Q e1 st rx ry q k=>by
  unfold dNeO at q
  split at q
  ·rename_i ok
   cases q
   exact ⟨Hf,d,e,e1,ok,rx,ry,k _ Hf H (.refl e1) st (Rep.bl_iff.mpr rfl) (.scal fun z=>z)⟩
  ·cases q⟩
noncomputable def okIn (x:D) (ds:List D):Bool:=plainD x&&plainDs ds&&decide (dep x≤60)&&decide (deps ds≤60)
noncomputable def inD (x:D) (ds:List D):Bool:=ds.any fun d=>dEq d x
theorem okIn_some {x:D} {ds:List D} (h:okIn x ds=true):plainD x=true∧plainDs ds=true∧dep x≤60∧deps ds≤60:=by
 simp only [okIn,Bool.and_eq_true,decide_eq_true_eq] at h
 exact ⟨h.1.1.1,h.1.1.2,h.1.2,h.2⟩
open Classical in
noncomputable def ansU (G:Gh) (Hf:Hp) (x:D) (u:Value):Bool:=if h:∃d v,plainD d=true∧Rep G Hf d v∧RelV v u then dEq h.choose x else false
theorem ansU_of {Hf:Hp} {x d:D} {v:V} {u:Value} (pd:plainD d=true) (r:Rep G Hf d v) (ru:RelV v u):ansU G Hf x u=dEq d x:=by
 have h:∃d v,plainD d=true∧Rep G Hf d v∧RelV v u:=⟨d,v,pd,r,ru⟩
 unfold ansU
 rw [dif_pos h]
 obtain ⟨v',p',r',ru'⟩:=h.choose_spec
 have ev:v'=v:=RelV.inj ru' ru
 subst ev
 rw [Rep.inj p' pd r' r]
theorem any_ansU {Hf:Hp} {x:D}:∀{ds:List D} {vs:List V} {us:List Value},plainDs ds=true→RepL G Hf ds vs→Vals vs us→us.any (ansU G Hf x)=inD x ds
 | [],vs,us,_,r,rv=>by
  rw [RepL.nil_iff.mp r] at rv
  cases rv
  rfl
 | d::ds,vs,us,p,r,rv=>by
  obtain ⟨v,rr,rfl,r1,r2⟩:=RepL.cons_iff.mp r
  have p':plainD d=true∧plainDs ds=true:=by simpa [plainDs] using p
  cases rv with
  | cons a b=>
   rw [List.any_cons,ansU_of p'.1 r1 a,any_ansU p'.2 r2 b]
   rfl
theorem mem_vals {Hf:Hp}:∀{ds:List D} {vs:List V} {us:List Value} {u:Value},RepL G Hf ds vs→Vals vs us→u∈us→∃d v,d∈ds∧Rep G Hf d v∧RelV v u
 | [],vs,us,u,r,rv,m=>by
  rw [RepL.nil_iff.mp r] at rv
  cases rv
  simp at m
 | d::ds,vs,us,u,r,rv,m=>by
  obtain ⟨v,rr,rfl,r1,r2⟩:=RepL.cons_iff.mp r
  cases rv with
  | cons a b=>
   rcases List.mem_cons.mp m with e | m
   ·subst e;exact ⟨d,v,by simp,r1,a⟩
   ·obtain ⟨d',v',m',h1,h2⟩:=mem_vals r2 b m
    exact ⟨d',v',by simp [m'],h1,h2⟩
noncomputable def rInD (G:Gh) (neg:Bool):R2:=fun x y H Q=>∃Hf d ds,Ext G Hf H∧okIn d ds=true∧Rep G Hf d x∧(Rep G Hf (.lst ds) y∨Rep G Hf (.tup ds) y)∧Q (.bl (if neg then !inD d ds else inD d ds)) H
theorem in_core {pins:List (Addr×Obj)} {s:Shared} {σ:St} {Hf H:Hp} {d:D} {ds:List D} {x:V} {v:Value} {vs:List V} {its:List Value} (hu:X.A.units+64<cLine) (I:Inv X pins σ H s) (e1:Ext G Hf H) (ok:okIn d ds=true) (rd:Rep G Hf d x) (rx:RelV x v)
  (rl:RepL G Hf ds vs) (rv:Vals vs its):(∀y,y∈its.toArray→SeqAt.EqAt X.A.in1 s y v (ansU G Hf d y))∧its.toArray.any (ansU G Hf d)=inD d ds:=by
 obtain ⟨o1,o2,o3,o4⟩:=okIn_some ok
 refine ⟨fun y hy=>?_,?_⟩
 ·obtain ⟨c,w,m,h1,h2⟩:=mem_vals rl rv (by simpa using hy)
  rw [ansU_of (plain_mem o2 m) h1 h2]
  exact (eqAtD I e1 60 X.A.in1 c d w x y v (Nat.le_trans (dep_mem m) o4) o3 (by rw [in1_units];omega) (plain_mem o2 m) o1 h1 rd h2 rx).1
 ·rw [show its.toArray.any (ansU G Hf d)=its.any (ansU G Hf d) by simp,any_ansU o2 rl rv]
theorem op_inD (hu:X.A.units+64<cLine):OpR X (compareOp .In) (rInD G false):=by
 intro pins s σ H x y v u Q I rx ry h
 obtain ⟨Hf,d,ds,e1,ok,rd,hl,q⟩:=h
 rcases hl with hl | hl
 ·obtain ⟨p,vs,rfl,np,hp,rp⟩:=Rep.lst_iff.mp hl
  cases (show u=Value.ref p from ry)
  obtain ⟨its,rv,pl,hz⟩:=I.list (SqL.of (K:=X.K) (e1 _ _ np hp))
  obtain ⟨c1,c2⟩:=in_core hu I e1 ok rd rx rp rv
  refine SeqAt.in_listAt _ pl.isList c1 ⟨.bl _,H,I,rfl,?_⟩
  rw [c2];exact q
 ·obtain ⟨p,vs,rfl,np,hp,rp⟩:=Rep.tup_iff.mp hl
  cases (show u=Value.ref p from ry)
  obtain ⟨its,rv,pl,hz⟩:=I.tuple (SqT.of (K:=X.K) (e1 _ _ np hp))
  obtain ⟨c1,c2⟩:=in_core hu I e1 ok rd rx rp rv
  refine SeqAt.in_tupleAt _ pl c1 ⟨.bl _,H,I,rfl,?_⟩
  rw [c2];exact q
theorem op_notInD (hu:X.A.units+64<cLine):OpR X (compareOp .NotIn) (rInD G true):=by
 intro pins s σ H x y v u Q I rx ry h
 obtain ⟨Hf,d,ds,e1,ok,rd,hl,q⟩:=h
 rcases hl with hl | hl
 ·obtain ⟨p,vs,rfl,np,hp,rp⟩:=Rep.lst_iff.mp hl
  cases (show u=Value.ref p from ry)
  obtain ⟨its,rv,pl,hz⟩:=I.list (SqL.of (K:=X.K) (e1 _ _ np hp))
  obtain ⟨c1,c2⟩:=in_core hu I e1 ok rd rx rp rv
  refine SeqAt.notIn_listAt _ pl.isList c1 ⟨.bl _,H,I,rfl,?_⟩
  rw [c2];exact q
 ·obtain ⟨p,vs,rfl,np,hp,rp⟩:=Rep.tup_iff.mp hl
  cases (show u=Value.ref p from ry)
  obtain ⟨its,rv,pl,hz⟩:=I.tuple (SqT.of (K:=X.K) (e1 _ _ np hp))
  obtain ⟨c1,c2⟩:=in_core hu I e1 ok rd rx rp rv
  refine SeqAt.notIn_tupleAt _ pl c1 ⟨.bl _,H,I,rfl,?_⟩
  rw [c2];exact q
mutual
noncomputable def toPy:D→PyData
 | .bl b=>.bool b
 | .int i=>.int i
 | .str x=>.str x
 | .tup ds=>.tuple (toPys ds)
 | .lst ds=>.list (toPys ds)
 | _=>.none
noncomputable def toPys:List D→List PyData
 | []=>[]
 | d::ds=>toPy d::toPys ds
end
mutual
theorem reads_of {X:Cx} {G:Gh} {pins:List (Addr×Obj)} {s:Shared} {σ:St} {Hf H:Hp} (I:Inv X pins σ H s) (e1:Ext G Hf H):∀{d:D} {x:V} {u:Value},plainD d=true→Rep G Hf d x→RelV x u→∃as,Reads s.heap u (toPy d) as
 | .non,x,u,_,r,ru=>by rw [Rep.non_iff.mp r] at ru;cases (show u=Value.none from ru);exact ⟨_,.none⟩
 | .bl b,x,u,_,r,ru=>by rw [Rep.bl_iff.mp r] at ru;cases (show u=Value.bool b from ru);exact ⟨_,.bool b⟩
 | .int i,x,u,_,r,ru=>by rw [Rep.int_iff.mp r] at ru;obtain ⟨t,rfl⟩:=ru;exact ⟨_,.int i t⟩
 | .str y,x,u,_,r,ru=>by rw [Rep.str_iff.mp r] at ru;obtain ⟨t,rfl⟩:=ru;exact ⟨_,.str y t⟩
 | .tup ds,x,u,p,r,ru=>by
  obtain ⟨l,vs,rfl,nl,hl,rl⟩:=Rep.tup_iff.mp r
  cases (show u=Value.ref l from ru)
  obtain ⟨its,rits,pits,_⟩:=I.tuple (SqT.of (K:=X.K) (e1 _ _ nl hl))
  obtain ⟨as,ra⟩:=readsL_of I e1 (by simpa [plainD] using p) rl rits
  obtain ⟨o,ho,hc,n,hd⟩:=pits
  exact ⟨_,.tuple ho hc hd (by simpa using ra)⟩
 | .lst ds,x,u,p,r,ru=>by
  obtain ⟨l,vs,rfl,nl,hl,rl⟩:=Rep.lst_iff.mp r
  cases (show u=Value.ref l from ru)
  obtain ⟨its,rits,pits,_⟩:=I.list (SqL.of (K:=X.K) (e1 _ _ nl hl))
  obtain ⟨as,ra⟩:=readsL_of I e1 (by simpa [plainD] using p) rl rits
  obtain ⟨o,ho,hc,n,hd⟩:=pits.isList
  exact ⟨_,.list ho hc hd (by simpa using ra)⟩
 | .dk _,_,_,p,_,_=>by simp [plainD] at p
 | .dt _,_,_,p,_,_=>by simp [plainD] at p
 | .du _,_,_,p,_,_=>by simp [plainD] at p
 | .df _,_,_,p,_,_=>by simp [plainD] at p
 | .pen,_,_,p,_,_=>by simp [plainD] at p
 | .ty _,_,_,p,_,_=>by simp [plainD] at p
 | .clo _ _,_,_,p,_,_=>by simp [plainD] at p
theorem readsL_of {X:Cx} {G:Gh} {pins:List (Addr×Obj)} {s:Shared} {σ:St} {Hf H:Hp} (I:Inv X pins σ H s) (e1:Ext G Hf H):∀{ds:List D} {xs:List V} {us:List Value},plainDs ds=true→RepL G Hf ds xs→Vals xs us→∃as,ReadsAll s.heap us (toPys ds) as
 | [],xs,us,_,r,ru=>by rw [RepL.nil_iff.mp r] at ru;cases ru;exact ⟨_,.nil⟩
 | d::ds,xs,us,p,r,ru=>by
  obtain ⟨v,rr,rfl,r1,r2⟩:=RepL.cons_iff.mp r
  have p':plainD d=true∧plainDs ds=true:=by simpa [plainDs] using p
  cases ru with
  | cons a b=>
   obtain ⟨as,q1⟩:=reads_of I e1 p'.1 r1 a
   obtain ⟨bs,q2⟩:=readsL_of I e1 p'.2 r2 b
   exact ⟨_,.cons q1 q2⟩
end
mutual
theorem toPy_noDict:∀d:D,(toPy d).hasDict=false
 | .non=>by simp [toPy,PyData.hasDict]
 | .bl _=>by simp [toPy,PyData.hasDict]
 | .int _=>by simp [toPy,PyData.hasDict]
 | .str _=>by simp [toPy,PyData.hasDict]
 | .tup ds=>by simp only [toPy,PyData.hasDict];exact toPys_noDict ds
 | .lst ds=>by simp only [toPy,PyData.hasDict];exact toPys_noDict ds
 | .dk _=>by simp [toPy,PyData.hasDict]
 | .dt _=>by simp [toPy,PyData.hasDict]
 | .du _=>by simp [toPy,PyData.hasDict]
 | .df _=>by simp [toPy,PyData.hasDict]
 | .pen=>by simp [toPy,PyData.hasDict]
 | .ty _=>by simp [toPy,PyData.hasDict]
 | .clo _ _=>by simp [toPy,PyData.hasDict]
theorem toPys_noDict:∀ds:List D,PyData.hasDictAll (toPys ds)=false
 | []=>by simp [toPys,PyData.hasDictAll]
 | d::ds=>by simp [toPys,PyData.hasDictAll,toPy_noDict d,toPys_noDict ds]
end
noncomputable def okRepr (d:D):Bool:=plainD d&&(toPy d).showable&&decide ((toPy d).depth≤40)&&decide ((toPy d).shown.length≤sizeLine)
noncomputable def dRepr:List D→Option D
 | [d]=>if okRepr d=true then some (.str (toPy d).shown) else none
 | _=>none
theorem call_reprR (hr:X.A.guards=some []) (hu:X.A.units+64<cLine):CallR X (.builtin "repr") (fun xs H Q=>∃x Hf d,xs=[x]∧Ext G Hf H∧Rep G Hf d x∧okRepr d=true∧Q (.str (toPy d).shown) H):=by
 intro pins s σ H xs us Q I r h
 obtain ⟨x,Hf,d,rfl,e1,rd,ok,q⟩:=h
 obtain ⟨u,rfl,ru⟩:=vals1 r
 simp only [okRepr,Bool.and_eq_true,decide_eq_true_eq] at ok
 obtain ⟨⟨⟨o1,o2⟩,o3⟩,o4⟩:=ok
 cases d with
 | non=>
  rw [Rep.non_iff.mp rd] at ru;cases (show u=Value.none from ru)
  exact PySem.P.repr_of_none ⟨.str _,H,I.tok _,⟨_,rfl⟩,q⟩
 | bl b=>
  rw [Rep.bl_iff.mp rd] at ru;cases (show u=Value.bool b from ru)
  refine PySem.P.repr_of_bool ⟨.str _,H,I.tok _,⟨_,rfl⟩,?_⟩
  cases b <;> exact q
 | int i=>
  rw [Rep.int_iff.mp rd] at ru;obtain ⟨t,rfl⟩:=ru
  exact PySem.P.repr_of_int (by simpa [toPy,PyData.showable] using o2) ⟨.str _,H,I.tok _,⟨_,rfl⟩,q⟩
 | str y=>
  rw [Rep.str_iff.mp rd] at ru;obtain ⟨t,rfl⟩:=ru
  exact PySem.P.repr_of_str ⟨.str _,H,I.tok _,⟨_,rfl⟩,q⟩ o4
 | tup ds=>
  obtain ⟨as,ra⟩:=reads_of I e1 o1 rd ru
  obtain ⟨l,vs,rfl,nl,hl,rl⟩:=Rep.tup_iff.mp rd
  cases (show u=Value.ref l from ru)
  exact repr_of_reads' ra o2 (PyData.noDict_hsm (toPy_noDict _)) hr (by omega) (fun _ _ e=>e) (fun h' u tk hk=>⟨.str _,H,I.kept hk,⟨_,rfl⟩,q⟩) o4
 | lst ds=>
  obtain ⟨as,ra⟩:=reads_of I e1 o1 rd ru
  obtain ⟨l,vs,rfl,nl,hl,rl⟩:=Rep.lst_iff.mp rd
  cases (show u=Value.ref l from ru)
  exact repr_of_reads' ra o2 (PyData.noDict_hsm (toPy_noDict _)) hr (by omega) (fun _ _ e=>e) (fun h' u tk hk=>⟨.str _,H,I.kept hk,⟨_,rfl⟩,q⟩) o4
 | dk _=>simp [plainD] at o1
 | dt _=>simp [plainD] at o1
 | du _=>simp [plainD] at o1
 | df _=>simp [plainD] at o1
 | pen=>simp [plainD] at o1
 | ty _=>simp [plainD] at o1
 | clo _ _=>simp [plainD] at o1
theorem call_reprD (hr:X.A.guards=some []) (hu:X.A.units+64<cLine):CallD X G (.builtin "repr") dRepr:=
 ⟨_,call_reprR (G:=G) hr hu,fun Hf H s xs ds c Q e1 st r q k=>by
  match ds,q,r with
  | [d],q,r=>
   obtain ⟨v,rfl,rv⟩:=RepL.one_inv r
   have q:(if okRepr d=true then some (D.str (toPy d).shown) else none)=some c:=q
   split at q
   ·rename_i ok
    cases q
    exact ⟨v,Hf,d,rfl,e1,rv,ok,k _ Hf H (.refl e1) st (Rep.str_iff.mpr rfl) (.scal fun z=>z)⟩
   ·cases q⟩
end
theorem keys_none:typeLookup (.type "list") "keys" = pure none:=by rw [typeLookup_type,builtinLookup_eq_fast];kernel_rfl
theorem entry_update_loop:entryFor table "dict.update.loop" = some Builtin.«dict.update.loop»:=entryFor_of_tree (by kernel_rfl)
theorem plain_update_loop:plainId "dict.update.loop" = true:=by decide +kernel
set_option maxHeartbeats 4000000 in
theorem getAttrQ_miss_list {prog:Program} {w:World} {A:Around} {E:Value→Shared→Prop} {s:Shared} {a:Addr} {o:Obj} {xs:Array Value} {k:Nat} {Q:Option Value→Shared→Prop}
  (hx:s.heap.get? a=some o) (hc:o.cls=.type "list") (hdat:o.data=.seq xs k) (hd:o.dict=none) (hA:A.handled=none)
  (h:∀h' tk,(∀b o,s.heap.get? b=some o→h'.get? b=some o)→Q none { s with heap:=h',toks:=tk }) :
  wpAny (model prog w) A (getAttr? (.ref a) "keys") Q E s:=by
 have hmiss:=keys_none
 have hname:(["__module__","__name__","__qualname__","__doc__","__annotations__"]:List Str).contains ("keys" : Str)=false:=by decide +kernel
 have hsz:("keys" : Str).length+100≤sizeLine:=by decide +kernel
 obtain ⟨c,dct,dat,sl⟩:=o
 simp only at hc hdat hd
 subst hc hdat hd
 obtain ⟨hp,g,d,tk,os⟩:=s
 have hT:∀tk',(⟨hp,g,d,tk',os⟩:Shared).TypeIs (.ref a) "list":=fun _=>⟨_,hx,rfl⟩
 have f1:=sub_AttributeError
 have f3:=F.slot_list_getattribute.lookup
 have f4:=F.slot_list_getattribute.bind (.ref a)
 have f5:=am_list_getattr_none
 unfold getAttr? getAttrBy?
 refine wpAny_bind ?_
 refine wpAny_mkText ?_
 refine wpAny_bind (wpAny_attempt ?_)
 unfold getAttrBy
 repeat (any_goals (first | assumption | exact hT _ | ((with_reducible show wpAny _ _ (call (Value.builtin "list.__getattribute__") _ _) _ _ _);refine call_meets F.slot_list_getattribute (hT _) am_entry_list_getattribute (F.args_list_getattribute_2 _ _) (meets_getattribute_miss_list a xs k sl "keys" _ hmiss hname hsz) ⟨hx,hA,fun h' tk' e hx'=>?_⟩) | wp_step))
 obtain ⟨t',u',he⟩:=hx'.there
 have hTe:∀tk',(⟨h',g,d,tk',os⟩:Shared).TypeIs (.ref e) "AttributeError":=fun _=>⟨_,he,rfl⟩
 have fin:∀tk',wpAny (model prog w) A (do
   let b←isInstance (.ref e) (.type "AttributeError")
   if b=true then pure none else throw (.ref e)) Q E ⟨h',g,d,tk',os⟩:=fun tk'=>by
  refine wpAny_bind (wpAny_isInstance (hTe _) f1 ?_)
  simp only [if_true]
  exact wpAny_pure (h h' tk' hx'.of.keeps)
 show wpAny _ _ (getattributeRaised _ _ _ _ _ _ _) _ _ _
 unfold getattributeRaised
 repeat (any_goals (first | assumption | exact fin _ | wp_step))
section
variable {X:Cx} {pins:List (Addr×Obj)} {σ:St} {H:Hp} {s:Shared} {A:Around} {E:Value→Shared→Prop} {a:Addr} {y v:V} {u r:Value}
theorem d_dictSet {H':Hp} {Q:Unit→Shared→Prop} (hu:A.units<cLine) (I:Inv X pins σ H s) (g:DPut H a y v H') (ry:RelV y u) (rv:RelV v r) (h:∀s',Inv X pins σ H' s'→Q () s') :
  wpAny (model X.prog X.w) A (dictSet a u r) Q E s:=by
 rcases g with ⟨kvs,k,e,ey,l,eH⟩ | ⟨kvs,k,b,e,ey,eb,l,eH⟩
 ·subst ey eH
  obtain ⟨z,hd,vs,rel,dd⟩:=dk_of I.hok e
  have hz:vs.length≤sizeLine:=by rw [←rel.length];exact z
  have hl:(putK kvs k v).length≤sizeLine:=by have:=length_putK kvs k v;omega
  refine wpAny_dictSet_pairs (hsz:=hz) (kV_is ry) dd fun h' dd' hs=>h _ ?_
  have he:∃q,h'.get? a=some q:=let ⟨q,_,_,hq,_⟩:=dd';⟨q,hq⟩
  exact d_write I (by rw [e];exact True.intro) hs he (dk_new hl hd (rel.put k rv) dd')
 ·subst ey eH
  cases (show u=Value.ref b from ry)
  obtain ⟨z,hd,xs,rel,dd⟩:=dt_of I.hok e
  have hz:xs.length≤sizeLine:=by rw [←Paired.length rel];exact z
  have hl:(putK kvs k v).length≤sizeLine:=by have:=length_putK kvs k v;omega
  refine wpAny_dictSet_heap (hsz:=hz) (knd:=tupleKind (mixKind X.prog X.w)) hu (key_of I.hok eb) dd fun h' dd' hs=>h _ ?_
  obtain ⟨q,es,ep,hq,h2,h3,h4,_,h5⟩:=dd'
  refine d_write I (by rw [e];exact True.intro) hs ⟨q,hq⟩ ⟨hl,hd,_,(rel.put k eb rv).keeps fun c ys ec=>?_,q,es,ep,hq,h2,h3,h4,h5⟩
  rw [upd_ne (ne_of ec e (fun z=>nomatch z))]
  exact ec
end
section
variable {X:Cx} {pins:List (Addr×Obj)} {σ:St}
inductive Puts (d:Addr):Hp→List V→Hp→Prop
 | nil {H:Hp}:Puts d H [] H
 | cons {H H1 H2:Hp} {b:Addr} {k v:V} {r:List V}:H b=some (.tup [k,v])→DPut H d k v H1→Puts d H1 r H2→Puts d H (.ref b::r) H2
theorem upd_loop {d l it:Addr} {vs:List V} {E:Value→Shared→Prop} {Q:Shared→Prop} {H':Hp} {A:Around} (hA:A.handled=none) (hu:A.units+1<cLine)
  (hQ:∀s',Inv X pins σ H' s'→Q s') (hfp:∀Hx:Hp,Hx it=none→FpOk X pins Hx it) :
  ∀(k i:Nat) (s:Shared) (H:Hp),vs.length-i=k→i≤vs.length→Inv X pins σ H s→H it=none→s.heap.IsListIter it l i→H l=some (.lst vs)→l≠d→(∀Hx Hy y v,DPut Hx d y v Hy→Hx l=some (.lst vs)→Hy l=some (.lst vs))→Puts d H (vs.drop i) H'→
   codeAny (model X.prog X.w) A (.builtin "dict.update.loop" ⟨[.ref d,.ref it,rawInt i,.none],[]⟩) (wants (fun r s₂=>r=.none∧Q s₂) E) s:=by
 intro k
 induction k with
 | zero=>
  intro i s H hk hi I hit st hl hne hkeep hp
  have hil:i=vs.length:=by omega
  obtain ⟨its,rv,pl,hz⟩:=I.list (SqL.of (K:=X.K) hl)
  refine codeAny_builtin entry_update_loop ?_
  rw [Around.under_plainId plain_update_loop _]
  show wpAny _ A.in1 (pyNext (.ref it) >>= _) _ _ s
  obtain ⟨f0,f1,f2,f3,f4,f5⟩:=hfp H hit
  have hlen:=rv.length
  refine wpAny_bind (wpAny_pyNext_list_end (A:=A.in1) hA st pl.isList (by simp;omega) fun h' eb=>?_)
  have I2:Inv X pins σ H { s with heap:=h' }:=I.turned (t':=s.toks) (fun b o hb e=>eb b o hb e) f0 f1 f3 f4 f5
  have e0:vs.drop i=[]:=by rw [hil];simp
  rw [e0] at hp
  cases hp
  show wpAny _ _ (Builtin.Dict.addKeywords d [] >>= _) _ _ _
  refine wpAny_bind (wpAny_pure ?_)
  exact wpAny_pure ⟨rfl,hQ _ I2⟩
 | succ k ih=>
  intro i s H hk hi I hit st hl hne hkeep hp
  have hlt:i<vs.length:=by omega
  obtain ⟨its,rv,pl,hz⟩:=I.list (SqL.of (K:=X.K) hl)
  have hlen:=rv.length
  refine codeAny_builtin entry_update_loop ?_
  rw [Around.under_plainId plain_update_loop _]
  show wpAny _ A.in1 (pyNext (.ref it) >>= _) _ _ s
  obtain ⟨f0,f1,f2,f3,f4,f5⟩:=hfp H hit
  have hd:vs.drop i=vs[i]::vs.drop (i+1):=List.drop_eq_getElem_cons hlt
  rw [hd] at hp
  generalize hvi:vs[i]=x at hp
  generalize hrest:vs.drop (i+1)=rest at hp
  cases hp with
  | @cons _ H1 _ b k0 v0 _ hb hput hrec=>
   have gx:vs[i]?=some (.ref b):=by rw [List.getElem?_eq_getElem hlt,hvi]
   obtain ⟨u,hu1,ru⟩:=rv.get gx
   cases (show u=Value.ref b from ru)
   refine wpAny_bind (wpAny_pyNext_list_item (A:=A.in1) st pl.isList (x:=.ref b) (by simpa using hu1) fun h' st' sb=>?_)
   have I1:Inv X pins σ H { s with heap:=h' }:=I.turned (t':=s.toks) (fun c o hc e=>(sb.2 c hc).trans e) f0 f1 f3 f4 f5
   obtain ⟨its2,rv2,pt,_⟩:=I1.tuple (SqT.of (K:=X.K) hb)
   obtain ⟨ku,vu,e2,rk,rvv⟩:=rv2.two
   subst e2
   obtain ⟨o,ho,hoc,n,hod⟩:=id pt
   show wpAny _ _ (holding [Value.ref b] _ >>= _) _ _ _
   refine wpAny_bind (wpAny_holding ?_)
   refine wpAny_bind (wpAny_tryCatch ?_)
   unfold Builtin.Dict.pairItems
   refine wpAny_bind (wpAny_typeOf (T:="tuple") ⟨o,ho,hoc⟩ ?_)
   rw [if_pos (by decide)]
   refine wpAny_bind (wpAny_seqItems ho hod ?_)
   refine wpAny_pure ?_
   show wpAny _ _ (holding [ku,vu] (dictSet d ku vu)) _ _ _
   refine wpAny_holding ?_
   obtain ⟨oi,hoi,ci,di⟩:=id st'
   have Ip:=I1.pinned (fp:=[it]) (fun c hc=>by
    have e:c=it:=by simpa using hc
    subst e
    exact hfp H hit) (fun c hc=>by
    have e:c=it:=by simpa using hc
    subst e
    exact ⟨oi,hoi,fun w z=>by rw [di] at z;cases z⟩)
   refine d_dictSet (by rw [in1_units];exact hu) Ip hput rk rvv fun s2 I2=>?_
   have pit:=I2.pin (it,oi) (List.mem_append_right _ (List.mem_append_right _ (mem_pinsAt (by simp) hoi)))
   have ec:((i:Int)+1)=((i+1:Nat):Int):=by push_cast;rfl
   show wpAny _ _ (again (.builtin "dict.update.loop" ⟨[.ref d,.ref it,rawInt ((i:Int)+1),.none],[]⟩)) _ _ _
   rw [ec]
   refine wpAny_pure ⟨plainId_quiet plain_update_loop _,?_⟩
   refine ih (i+1) s2 H1 (by omega) hlt I2.unpinned pit.2.1 ⟨oi,pit.1,ci,di⟩ (hkeep _ _ _ _ hput hl) hne hkeep ?_
   rw [hrest]
   exact hrec
theorem call_dictR (hc:X.calm=true) (hu:X.A.units+64<cLine) (tk:Bool):CallR X (.type "dict") (fun xs H Q=>∃l vs,xs=[.ref l]∧H l=some (.lst vs)∧∀p,H p=none→∃H',Puts p (upd H p (if tk then .dT [] else .dK [])) vs H'∧Q (.ref p) H'):=by
 intro pins s σ H xs us Q I r h
 obtain ⟨l,vs,rfl,hl,q⟩:=h
 obtain ⟨u,rfl,ru⟩:=vals1 r
 cases (show u=Value.ref l from ru)
 obtain ⟨H',puts,q'⟩:=q s.heap.objs.size (I.hok.fresh (Nat.le_refl _))
 have hA:=I.ok.hd hc
 refine callType_codes (Q₁:=fun obj s₁=>obj=.ref s.heap.objs.size∧s₁ = { s with heap:=s.heap.push { cls:=.type "dict",data:=.dict #[] } }) F.kt_called_dict (F.kt_typeCall_dict_1 _) F.entry_dict_init (kt_code_dict_new _ ⟨rfl,rfl⟩) ?_
 rintro obj s₁ ⟨rfl,rfl⟩
 have hbig:=I.big
 have I1:Inv X pins σ (upd H s.heap.objs.size (if tk then .dT [] else .dK [])) { s with heap:=s.heap.push { cls:=.type "dict",data:=.dict #[] } }:=
  I.laid (t':=s.toks) (fun b o e=>Heap.get?_push_of_some _ e) (Nat.le_refl _) (by
   cases tk
   ·exact dk_empty s.heap hbig
   ·exact dt_empty s.heap hbig)
 have hnew:(s.heap.push { cls:=.type "dict",data:=.dict #[] }).get? s.heap.objs.size=some { cls:=.type "dict",data:=.dict #[] }:=Heap.get?_push_size _ rfl
 have hTd:({ s with heap:=s.heap.push { cls:=.type "dict",data:=.dict #[] } }:Shared).TypeIs (.ref s.heap.objs.size) "dict":=⟨_,hnew,rfl⟩
 have hld:l≠s.heap.objs.size:=ne_of_none hl (I.hok.fresh (Nat.le_refl _))
 have hl1:(upd H s.heap.objs.size (if tk then HO.dT [] else HO.dK [])) l=some (.lst vs):=by rw [upd_ne hld];exact hl
 obtain ⟨zz,its,n,rits,hlo⟩:=(show ObjOk X.prog X.w _ _ l (.lst vs) from I1.hok l _ hl1)
 refine ⟨hTd,F.args_dict_init_2 _ _,?_⟩
 unfold Builtin.«dict.__init__»
 refine wpAny_bind ?_
 unfold Builtin.Dict.selfAndRest
 refine wpAny_bind (wpAny_notOrdered_dict hTd ?_)
 show wpAny _ _ (pure (s.heap.objs.size,[Value.ref l])) _ _ _
 refine wpAny_pure ?_
 show wpAny _ _ (Builtin.Dict.updateFrom "dict.__init__" s.heap.objs.size (.ref l) [] .none) _ _ _
 unfold Builtin.Dict.updateFrom
 have hTl:({ s with heap:=s.heap.push { cls:=.type "dict",data:=.dict #[] } }:Shared).TypeIs (.ref l) "list":=⟨_,hlo,rfl⟩
 refine wpAny_bind (wpAny_typeOf hTl ?_)
 rw [if_pos (by decide)]
 refine wpAny_bind (getAttrQ_miss_list hlo rfl rfl rfl hA fun h2 tk2 kp2=>?_)
 simp only [Option.isNone_none,if_true]
 refine wpAny_bind (wpAny_rule ?_)
 have I2:Inv X pins σ (upd H s.heap.objs.size (if tk then .dT [] else .dK [])) { s with heap:=h2,toks:=tk2 }:=I1.kept kp2
 obtain ⟨its',rv',pl',hz'⟩:=I2.list (SqL.of (K:=X.K) hl1)
 refine wpAny_bind (wpAny_pyIter_list pl'.isList ?_)
 refine wpAny_pure ⟨plainId_quiet plain_update_loop _,?_⟩
 have I3:Inv X pins σ (upd H s.heap.objs.size (if tk then .dT [] else .dK [])) { s with heap:=h2.push { cls:=.type "list_iterator",data:=.fields #[.ref l,.int 0 0] },toks:=tk2 }:=I2.kept (t':=tk2) fun b o e=>Heap.get?_push_of_some _ e
 have hfresh:(upd H s.heap.objs.size (if tk then HO.dT [] else HO.dK [])) h2.objs.size=none:=I2.hok.fresh (Nat.le_refl _)
 have hst:(h2.push { cls:=.type "list_iterator",data:=.fields #[.ref l,.int 0 0] }).IsListIter h2.objs.size l 0:=⟨_,Heap.get?_push_size _ rfl,rfl,rfl⟩
 refine upd_loop (l:=l) (vs:=vs) (H':=H') (A:=X.A.in1) (pins:=pins) (σ:=σ) hA (by rw [in1_units];omega) (fun s' I'=>⟨.ref s.heap.objs.size,H',I',rfl,q'⟩) (fun Hx hn=>I2.fpOk (Nat.le_refl _) hn) vs.length 0 _ _ rfl (Nat.zero_le _) I3 hfresh hst hl1 hld ?_ puts
 intro Hx Hy y v hput hxl
 rcases hput with ⟨kvs,k,e,ey,l',eH⟩ | ⟨kvs,k,b,e,ey,eb,l',eH⟩
 ·subst eH;rw [upd_ne hld];exact hxl
 ·subst eH;rw [upd_ne hld];exact hxl
end
section
variable {X:Cx} {G:Gh}
noncomputable def keyOf:D→Option Key
 | .int i=>some (.inl i)
 | .str x=>some (.inr x)
 | _=>none
noncomputable def keysOf:List D→Option (List Key)
 | []=>some []
 | d::ds=>match keyOf d,keysOf ds with | some k,some ks=>some (k::ks) | _,_=>none
noncomputable def valOf:D→Option V
 | .int i=>some (.int i)
 | .bl b=>some (.bl b)
 | .str x=>some (.str x)
 | .non=>some .non
 | _=>none
theorem keyOf_rep {H:Hp} {d:D} {v:V} {k:Key} (h:keyOf d=some k) (r:Rep G H d v):v=kV k:=by
 cases d with
 | int i=>cases h;rw [Rep.int_iff.mp r];rfl
 | str i=>cases h;rw [Rep.str_iff.mp r];rfl
 | _=>cases h
theorem keysOf_rep {H:Hp}:∀{ds:List D} {vs:List V} {ks:List Key},keysOf ds=some ks→RepL G H ds vs→vs=ks.map kV
 | [],vs,ks,h,r=>by cases h;exact RepL.nil_iff.mp r
 | d::ds,vs,ks,h,r=>by
  obtain ⟨v,rr,rfl,r1,r2⟩:=RepL.cons_iff.mp r
  unfold keysOf at h
  cases e1:keyOf d with
  | none=>rw [e1] at h;cases h
  | some k=>
   cases e2:keysOf ds with
   | none=>rw [e1,e2] at h;cases h
   | some ks'=>
    rw [e1,e2] at h
    cases h
    rw [keyOf_rep e1 r1,keysOf_rep e2 r2]
    rfl
theorem valOf_rep {H:Hp} {d:D} {v w:V} (h:valOf d=some w) (r:Rep G H d v):v=w:=by
 cases d with
 | int i=>cases h;exact Rep.int_iff.mp r
 | str i=>cases h;exact Rep.str_iff.mp r
 | bl i=>cases h;exact Rep.bl_iff.mp r
 | non=>cases h;exact Rep.non_iff.mp r
 | _=>cases h
noncomputable def pairT:D→Option (List Key×V)
 | .tup [.tup ks,v]=>match keysOf ks,valOf v with | some k,some w=>some (k,w) | _,_=>none
 | _=>none
noncomputable def putsT:List (List Key×V)→List D→Option (List (List Key×V))
 | acc,[]=>some acc
 | acc,d::ds=>match pairT d with | some (k,v)=>putsT (putK acc k v) ds | none=>none
theorem pairT_some {d:D} {k:List Key} {v:V} (h:pairT d=some (k,v)):∃ks w,d=.tup [.tup ks,w]∧keysOf ks=some k∧valOf w=some v:=by
 match d,h with
 | .tup [.tup ks,w],h=>
  have h':(match keysOf ks,valOf w with | some k,some w=>some (k,w) | _,_=>none)=some (k,v):=h
  cases e1:keysOf ks with
  | none=>rw [e1] at h';cases h'
  | some k'=>
   cases e2:valOf w with
   | none=>rw [e1,e2] at h';cases h'
   | some w'=>rw [e1,e2] at h';cases h';exact ⟨ks,w,rfl,e1,e2⟩
theorem puts_T {Hf H:Hp} {p:Addr} (e1:Ext G Hf H) (hp:H p=none):∀{ds:List D} {vs:List V} {acc res:List (List Key×V)},RepL G Hf ds vs→putsT acc ds=some res→acc.length+ds.length≤sizeLine→Puts p (upd H p (.dT acc)) vs (upd H p (.dT res))
 | [],vs,acc,res,r,h,_=>by
  rw [RepL.nil_iff.mp r]
  cases h
  exact .nil
 | d::ds,vs,acc,res,r,h,hl=>by
  obtain ⟨v,rr,rfl,r1,r2⟩:=RepL.cons_iff.mp r
  unfold putsT at h
  cases e:pairT d with
  | none=>rw [e] at h;cases h
  | some kv=>
   obtain ⟨k,w⟩:=kv
   rw [e] at h
   have h:putsT (putK acc k w) ds=some res:=h
   obtain ⟨ks,wd,rfl,q1,q2⟩:=pairT_some e
   obtain ⟨b,ws,rfl,nb,hb,rb⟩:=Rep.tup_iff.mp r1
   obtain ⟨v1,v2,rfl,rk,rv⟩:=RepL.two_inv rb
   obtain ⟨c,cs,rfl,nc,hcx,rc⟩:=Rep.tup_iff.mp rk
   have ec:=keysOf_rep q1 rc
   subst ec
   have ev:=valOf_rep q2 rv
   subst ev
   have hb':=e1 _ _ nb hb
   have hc':=e1 _ _ nc hcx
   have ll:=length_putK acc k v2
   have hl':acc.length+(ds.length+1)≤sizeLine:=by simpa using hl
   refine .cons (by rw [upd_ne (ne_of_none hb' hp)];exact hb') (DPut.t (k:=k) upd_same (by rw [upd_ne (ne_of_none hc' hp)];exact hc') (by omega)) ?_
   rw [upd_upd]
   exact puts_T e1 hp r2 h (by omega)
noncomputable def dDictT:List D→Option D
 | [.lst ds]=>if ds.length≤sizeLine then (putsT [] ds).map .dt else none
 | _=>none
theorem call_dictF (hc:X.calm=true) (hu:X.A.units+64<cLine):CallR X (.type "dict") (fun xs H Q=>∃l vs,xs=[.ref l]∧H l=some (.lst vs)∧∀p,H p=none→∃kvs,Puts p (upd H p (.dT [])) vs (upd H p (.dT kvs))∧∀o,Q (.ref p) (upd H p (.frz o (.dT kvs)))):=by
 intro pins s σ H xs us Q I r h
 obtain ⟨l,vs,ex,hl,hp⟩:=h
 refine thn (call_dictR hc hu true pins s σ H xs us (fun v H'=>∃p kvs,v=.ref p∧H'=upd H p (.dT kvs)∧∀o,Q (.ref p) (upd H p (.frz o (.dT kvs)))) I r ⟨l,vs,ex,hl,fun p hn=>?_⟩) fun u s1 ⟨v,H1,I1,r1,p,kvs,ev,eH,q⟩=>?_
 ·obtain ⟨kvs,pu,q⟩:=hp p hn
  exact ⟨_,pu,p,kvs,rfl,rfl,q⟩
 ·subst ev eH
  have ok:=I1.hok p (.dT kvs) upd_same
  obtain ⟨_,_,xs',_,o,es,ep,h1,_⟩:=(show ObjOk X.prog X.w _ s1.heap p (.dT kvs) from ok)
  have I2:=I1.write (x:=p) (e:=p) (o:=.frz o (.dT kvs)) (h':=s1.heap) (t':=s1.toks) (by rw [upd_same];trivial) (.inl rfl) (fun _ _ _ e=>e) ⟨o,h1⟩ ⟨h1,ok.stay (fun _ _ _ e=>e) (fun b e=>?_) fun b xs e=>?_⟩
  ·rw [upd_upd] at I2
   exact ⟨.ref p,_,I2,r1,q o⟩
  ·have:b≠p:=fun z=>by rw [z,upd_same] at e;cases e
   rw [upd_ne this];exact e
  ·have:b≠p:=fun z=>by rw [z,upd_same] at e;cases e
   rw [upd_ne this];exact e
theorem call_dictT (hc:X.calm=true) (hu:X.A.units+64<cLine):CallD X G (.type "dict") dDictT:=
 ⟨_,call_dictF hc hu,fun Hf H s xs ds c Q e1 st r q k=>by
  match ds,q,r with
  | [.lst es],q,r=>
   have q:(if es.length≤sizeLine then (putsT [] es).map D.dt else none)=some c:=q
   split at q
   ·rename_i hz
    cases e:putsT [] es with
    | none=>rw [e] at q;cases q
    | some res=>
     rw [e] at q
     cases q
     obtain ⟨v,rfl,rv⟩:=RepL.one_inv r
     obtain ⟨l,vs,rfl,nl,hl,rl⟩:=Rep.lst_iff.mp rv
     refine ⟨l,vs,rfl,e1 _ _ nl hl,fun p hp=>⟨_,puts_T e1 hp rl e (by simpa using hz),fun o=>?_⟩⟩
     have nf:=Gh.nofp st hp
     have g2:=Gr.new (o:=.frz o (.dT res)) e1 hp nf
     exact k (.ref p) _ _ g2 (Gh.grow st hp) (Rep.dt_iff.mpr ⟨p,o,rfl,nf,upd_same⟩) fun a ea _=>by cases ea;exact ⟨hp,fun ds ed=>by cases ed⟩
   ·cases q⟩
theorem op_din (hu:X.A.units+1<cLine):OpR X (compareOp .In) (fun x y H Q=>∃a o,y=.ref a∧DGet H a x o∧Q (.bl o.isSome) H):=by
 intro pins s σ H x y v u Q I rx ry h
 obtain ⟨a,o,rfl,g,q⟩:=h
 cases (show u=Value.ref a from ry)
 exact d_in hu I g rx fun s' I'=>⟨.bl _,H,I',rfl,q⟩
theorem op_dnotin (hu:X.A.units+1<cLine):OpR X (compareOp .NotIn) (fun x y H Q=>∃a o,y=.ref a∧DGet H a x o∧Q (.bl (!o.isSome)) H):=by
 intro pins s σ H x y v u Q I rx ry h
 obtain ⟨a,o,rfl,g,q⟩:=h
 cases (show u=Value.ref a from ry)
 exact d_notIn hu I g rx fun s' I'=>⟨.bl _,H,I',rfl,q⟩
noncomputable def dInB:D→D→Option Bool
 | x,.lst ds=>if okIn x ds=true then some (inD x ds) else none
 | x,.tup ds=>if okIn x ds=true then some (inD x ds) else none
 | .tup ks,.dt kvs=>(keysOf ks).map fun k=>(valV kvs k).isSome
 | .tup ks,.du kvs=>(keysOf ks).map fun k=>(valV kvs k).isSome
 | x,.dk kvs=>(keyOf x).map fun k=>(valV kvs k).isSome
 | _,_=>none
noncomputable def dIn (x y:D):Option D:=(dInB x y).map .bl
noncomputable def dNotIn (x y:D):Option D:=(dInB x y).map fun b=>.bl (!b)
theorem inB_cases {Hf H:Hp} {x y:V} {d e:D} {b:Bool} (e1:Ext G Hf H) (rx:Rep G Hf d x) (ry:Rep G Hf e y) (h:dInB d e=some b) :
  (∃ds,okIn d ds=true∧(Rep G Hf (.lst ds) y∨Rep G Hf (.tup ds) y)∧b=inD d ds)∨∃a o,y=.ref a∧DGet H a x o∧b=o.isSome:=by
 cases e with
 | lst ds=>
  have h:(if okIn d ds=true then some (inD d ds) else none)=some b:=by cases d <;> exact h
  split at h
  ·rename_i ok;cases h;exact .inl ⟨ds,ok,.inl ry,rfl⟩
  ·cases h
 | tup ds=>
  have h:(if okIn d ds=true then some (inD d ds) else none)=some b:=by cases d <;> exact h
  split at h
  ·rename_i ok;cases h;exact .inl ⟨ds,ok,.inr ry,rfl⟩
  ·cases h
 | dt kvs=>
  obtain ⟨a,o,rfl,na,ha⟩:=Rep.dt_iff.mp ry
  cases d with
  | tup ks=>
   have h:(keysOf ks).map (fun k=>(valV kvs k).isSome)=some b:=h
   cases q:keysOf ks with
   | none=>rw [q] at h;cases h
   | some k=>
    rw [q] at h;cases h
    obtain ⟨c,cs,rfl,nc,hcx,rc⟩:=Rep.tup_iff.mp rx
    have ec:=keysOf_rep q rc
    subst ec
    exact .inr ⟨a,_,rfl,.inr ⟨kvs,k,c,.inr ⟨o,e1 _ _ na ha⟩,rfl,e1 _ _ nc hcx,rfl⟩,rfl⟩
  | _=>cases h
 | du kvs=>
  obtain ⟨a,rfl,na,ha⟩:=Rep.du_iff.mp ry
  cases d with
  | tup ks=>
   have h:(keysOf ks).map (fun k=>(valV kvs k).isSome)=some b:=h
   cases q:keysOf ks with
   | none=>rw [q] at h;cases h
   | some k=>
    rw [q] at h;cases h
    obtain ⟨c,cs,rfl,nc,hcx,rc⟩:=Rep.tup_iff.mp rx
    have ec:=keysOf_rep q rc
    subst ec
    exact .inr ⟨a,_,rfl,DGet.t (e1 _ _ na ha) (e1 _ _ nc hcx),rfl⟩
  | _=>cases h
 | dk kvs=>
  obtain ⟨a,rfl,na,ha⟩:=Rep.dk_iff.mp ry
  have h:(keyOf d).map (fun k=>(valV kvs k).isSome)=some b:=by cases d <;> exact h
  cases q:keyOf d with
  | none=>rw [q] at h;cases h
  | some k=>
   rw [q] at h;cases h
   have ek:=keyOf_rep q rx
   subst ek
   exact .inr ⟨a,_,rfl,DGet.k (e1 _ _ na ha),rfl⟩
 | _=>cases d <;> cases h
theorem opd_in (hu:X.A.units+64<cLine):OpD X G (compareOp .In) dIn:=
 ⟨_,(op_inD (G:=G) hu).or (op_din (by omega)),fun Hf H s x y d e c Q e1 st rx ry q k=>by
  unfold dIn at q
  cases h:dInB d e with
  | none=>rw [h] at q;cases q
  | some b=>
   rw [h] at q;cases q
   have kk:=k (.bl b) Hf H (.refl e1) st (Rep.bl_iff.mpr rfl) (.scal fun z=>z)
   rcases inB_cases e1 rx ry h with ⟨ds,ok,hl,rfl⟩ | ⟨a,o,ey,g,rfl⟩
   ·exact .inl ⟨Hf,d,ds,e1,ok,rx,hl,kk⟩
   ·exact .inr ⟨a,o,ey,g,kk⟩⟩
theorem opd_notIn (hu:X.A.units+64<cLine):OpD X G (compareOp .NotIn) dNotIn:=
 ⟨_,(op_notInD (G:=G) hu).or (op_dnotin (by omega)),fun Hf H s x y d e c Q e1 st rx ry q k=>by
  unfold dNotIn at q
  cases h:dInB d e with
  | none=>rw [h] at q;cases q
  | some b=>
   rw [h] at q;cases q
   have kk:=k (.bl (!b)) Hf H (.refl e1) st (Rep.bl_iff.mpr rfl) (.scal fun z=>z)
   rcases inB_cases e1 rx ry h with ⟨ds,ok,hl,rfl⟩ | ⟨a,o,ey,g,rfl⟩
   ·exact .inl ⟨Hf,d,ds,e1,ok,rx,hl,kk⟩
   ·exact .inr ⟨a,o,ey,g,kk⟩⟩
end
section
variable {X:Cx} {G:Gh} {own ob:List Nat} {fr:Bool} {f:Rho→M D}
noncomputable def tRange1 (ta:TA):TE:=fun σ H Q=>ta σ H fun vs H1=>∃j:Int,vs=[.int j]∧∀p,H1 p=none→Q (.ref p) (upd H1 p (.rng 0 j))
theorem pe_range1 {a:Expr} {ta:TA} {p pos:Pos} (hg:Gl X "range") (hm:X.mg "range" = none) (ha:PA X [a] ta) (hs:starEach [a] X.env=[(false,eval a X.env)]:=by rfl):PE X (.Call (.Name "range" p) [a] [] pos) (tRange1 ta):=by
 intro pins s σ H Q I h
 refine Call_ (ld_blt I hg hm boot_range (PyProof.Rows.callWith_type1 (thn (ha pos pins s σ H _ I h) fun us s1 ⟨vs,H1,I1,r1,q1⟩=>?_) hs rfl))
 obtain ⟨j,e,q⟩:=q1
 subst e
 cases r1 with
 | cons r rr=>
  cases rr
  obtain ⟨t,rfl⟩:=r
  refine call_range_1 ⟨.ref s1.heap.objs.size,upd H1 s1.heap.objs.size (.rng 0 j),I1.laid (t':=s1.toks+1+1) (fun b o e=>Heap.get?_push_of_some _ e) (Nat.le_refl _) ?_,rfl,q _ (I1.hok.fresh (Nat.le_refl _))⟩
  exact ⟨_,_,_,Heap.get?_push_size _ rfl⟩
theorem vals_range:∀(ys:List Value) (lo:Int),(∀(j:Nat) v,ys[j]?=some v→∃t,v=.int (lo+j) t)→Vals ((List.range ys.length).map fun (i:Nat)=>V.int (lo+i)) ys
 | [],lo,_=>.nil
 | y::ys,lo,h=>by
  obtain ⟨t,e⟩:=h 0 y rfl
  rw [List.length_cons,List.range_succ_eq_map,List.map_cons,List.map_map]
  refine .cons ⟨t,by rw [e]⟩ ?_
  have q:=vals_range ys (lo+1) fun j v hv=>by
   obtain ⟨t,e⟩:=h (j+1) v (by simpa using hv)
   exact ⟨t,by rw [e];congr 1;push_cast;omega⟩
  have ee:((fun (i:Nat)=>V.int (lo+i))∘Nat.succ)=fun (i:Nat)=>V.int (lo+1+i):=by
   funext i
   show V.int (lo+(Nat.succ i:Nat))=V.int (lo+1+i)
   congr 1;push_cast;omega
  rw [ee];exact q
theorem call_listRng (hc:X.calm=true):CallR X (.type "list") (fun xs H Q=>∃r j,xs=[.ref r]∧H r=some (.rng 0 j)∧-(2 ^ 62)≤j∧j≤2 ^ 24∧∀l,H l=none→Q (.ref l) (upd H l (.lst ((List.range j.toNat).map fun (i:Nat)=>V.int (0+i))))):=by
 intro pins s σ H xs us Q I r h
 obtain ⟨rr,j,rfl,hr,h1,h2,q⟩:=h
 obtain ⟨u,rfl,ru⟩:=vals1 r
 cases (show u=Value.ref rr from ru)
 obtain ⟨t,u',v',hro⟩:=(show ObjOk X.prog X.w H s.heap rr (.rng 0 j) from I.hok rr _ hr)
 have hn:Builtin.Range.rangeSize 0 j 1=((j.toNat:Nat):Int):=by rw [rangeSize_one];split <;> omega
 refine call_list_range (I.ok.hd hc) (show IsRange s.heap rr 0 j 1 t u' v' from hro) (small_one (by omega) (by omega) h1 (by omega)) hn (by omega) fun h' tk acc' c' hk hS hacc=>?_
 obtain ⟨sz,hit⟩:=hacc
 have rv:=vals_range acc'.toList 0 fun i v hv=>by
  obtain ⟨t,e⟩:=hit i v (by simpa using hv)
  exact ⟨t,by rw [e];simp⟩
 have el:acc'.toList.length=j.toNat:=by simpa using sz
 rw [el] at rv
 refine ⟨.ref s.heap.objs.size,upd H s.heap.objs.size (.lst ((List.range j.toNat).map fun (i:Nat)=>V.int (0+i))),I.laid hk (Nat.le_refl _) ?_,rfl,q _ (I.hok.fresh (Nat.le_refl _))⟩
 refine ⟨?_,acc'.toList,c',rv,?_⟩
 ·rw [List.length_map,List.length_range]
  show j.toNat≤2 ^ 24
  omega
 ·rw [Array.toArray_toList]
  exact hS
noncomputable def dListRange (f:Rho→M D):Rho→M D:=fun ρ=>mbind (f ρ) fun d=>match d with | .int j=>if -(2 ^ 62)≤j∧j≤2 ^ 24 then mret (.lst (dRange 0 j.toNat)) else mfail | _=>mfail
theorem repL_range {Hf:Hp} (lo:Int):∀(l:List Nat),RepL G Hf (l.map fun (i:Nat)=>D.int (lo+i)) (l.map fun (i:Nat)=>V.int (lo+i))
 | []=>RepL.nil_iff.mpr rfl
 | i::l=>RepL.cons (Rep.int_iff.mpr rfl) (repL_range lo l)
theorem pd_listRange {a:Expr} {p1 p2 pos1 pos:Pos} {r1:Bool} (hc:X.calm=true) (hg:Gl X "range") (hm:X.mg "range" = none) (hg2:Gl X "list") (hm2:X.mg "list" = none) (hv2:bootBuiltins "list" = some (.type "list")) (ha:PD X G r1 a f)
  (hs:starEach [a] X.env=[(false,eval a X.env)]:=by rfl)
  (he:starEach [.Call (.Name "range" p1) [a] [] pos1] X.env=(false,eval (.Call (.Name "range" p1) [a] [] pos1) X.env)::starEach [] X.env:=by rfl):PD X G true (.Call (.Name "list" p2) [.Call (.Name "range" p1) [a] [] pos1] [] pos) (dListRange f):=by
 obtain ⟨t,pa,qa⟩:=ha.drop
 refine ⟨_,pe_callTy (call_listRng hc) hg2 hm2 hv2 (pa_cons (pe_range1 hg hm (pa_cons pa pa_nil (by rw [hs];rfl)) hs) pa_nil he) (by decide) (by decide) he rfl,fun σ Hf H ρ s d s' Q e1 e2 e3 e4 k=>?_⟩
 obtain ⟨dj,s1,a1,a2⟩:=mbind_some e4
 cases dj with
 | int j=>
  obtain ⟨c,a3⟩:=mif_some a2
  obtain ⟨rfl,rfl⟩:=mret_some a3
  refine qa σ Hf H ρ s _ _ _ e1 e2 e3 a1 fun v Hf1 H1 g st r=>?_
  rw [Rep.int_iff.mp r]
  refine ⟨j,rfl,fun p hp=>⟨p,j,rfl,upd_same,c.1,c.2,fun l hl=>?_⟩⟩
  have hlp:l≠p:=fun z=>by rw [z,upd_same] at hl;cases hl
  have hl1:H1 l=none:=by rw [upd_ne hlp] at hl;exact hl
  have st2:G.st s' (upd H1 p (.rng 0 j)):=Gh.grow st hp
  have nf:=Gh.nofp st2 hl
  have fp:Hf1 p=none:=by
   cases q:Hf1 p with
   | none=>rfl
   | some o=>rw [g.fh p o (Gh.nofp st hp) q] at hp;cases hp
  have gA:Gr G Hf1 H1 Hf1 (upd H1 p (.rng 0 j)):=⟨fun b o n q=>by rw [upd_ne (ne_of_none q hp)];exact q,.refl _ _,fun b o n q=>by rw [upd_ne (ne_of_none q fp)];exact g.fh b o n q,fun b n h1 h2=>h1⟩
  have gB:=Gr.new (o:=.lst ((List.range j.toNat).map fun (i:Nat)=>V.int (0+i))) gA.fh hl nf
  have rr:RepL G Hf1 (dRange 0 j.toNat) ((List.range j.toNat).map fun (i:Nat)=>V.int (0+i)):=repL_range 0 _
  refine k (.ref l) _ _ ((g.trans gA).trans gB) (Gh.grow st2 hl) (Rep.lst_iff.mpr ⟨l,_,rfl,nf,upd_same,rr.ext gB.ff⟩) fun _=>?_
  exact FreshL.old (g.trans gA).hh (fun a ea _=>by cases ea;exact nf) (FreshL.mk gA.fh hl nf rr)
 | _=>cases a2
end
structure BlkS (X:Cx) (XN:List Str) (NS:List (Str×NameKind)) (N':List Str) (src:List (Option Nat)) (scope:Scope):Prop where
 xn:X.N=XN
 ns:X.env.scope.names=NS
 nocell:∀y∈scope.names,y.2≠.cell
 kind:scope.kind=.function
 names:∀y∈scope.names,y.2=.local→scope.names.lookup y.1=some .local
 len:src.length=N'.length
 free:∀y∈scope.names,y.2=.free→NS.lookup y.1=some .cell∨NS.lookup y.1=some .free
 from_:(src.zip N').all (fun p=>match p.1 with | some j=>decide (XN[j]?=some p.2)&&(decide (NS.lookup p.2=some .cell)||decide (NS.lookup p.2=some .free))&&decide (scope.names.lookup p.2=some .free) | none=>true)=true
theorem lookup_relabel_free {env:Env}:∀{names:List (Str×NameKind)} {x:Str},names.lookup x=some .free→
  (names.map fun (n,k)=>if (k==NameKind.free&&env.scope.kind == .function&&env.kindOf n==some .cell) then (n,NameKind.cell) else (n,k)).lookup x=some .cell∨
  (names.map fun (n,k)=>if (k==NameKind.free&&env.scope.kind == .function&&env.kindOf n==some .cell) then (n,NameKind.cell) else (n,k)).lookup x=some .free
 | [],_,h=>by simp at h
 | (n,k)::r,x,h=>by
  have ih:=@lookup_relabel_free env r x
  show List.lookup x ((if (k==NameKind.free&&env.scope.kind == .function&&env.kindOf n==some .cell)=true then (n,NameKind.cell) else (n,k))::_)=_∨List.lookup x ((if (k==NameKind.free&&env.scope.kind == .function&&env.kindOf n==some .cell)=true then (n,NameKind.cell) else (n,k))::_)=_
  cases hx:x==n with
  | true=>
   simp only [List.lookup_cons,hx] at h
   cases h
   by_cases hc:(NameKind.free==NameKind.free&&env.scope.kind == .function&&env.kindOf n==some .cell)=true
   ·rw [if_pos hc];left;simp [List.lookup_cons,hx]
   ·rw [if_neg hc];right;simp [List.lookup_cons,hx]
  | false=>
   simp only [List.lookup_cons,hx] at h
   by_cases hc:(k==NameKind.free&&env.scope.kind == .function&&env.kindOf n==some .cell)=true
   ·rw [if_pos hc];simp only [List.lookup_cons,hx];exact ih h
   ·rw [if_neg hc];simp only [List.lookup_cons,hx];exact ih h
theorem lookup_relabel_back {env:Env}:∀{names:List (Str×NameKind)} {x:Str} {k':NameKind},(∀y∈names,y.2≠.cell)→(k'=.cell∨k'=.free)→
  (names.map fun (n,k)=>if (k==NameKind.free&&env.scope.kind == .function&&env.kindOf n==some .cell) then (n,NameKind.cell) else (n,k)).lookup x=some k'→names.lookup x=some .free
 | [],_,_,_,_,h=>by simp at h
 | (n,k)::r,x,k',nc,hk,h=>by
  have ih:=@lookup_relabel_back env r x k' (fun y hy=>nc y (List.mem_cons_of_mem _ hy)) hk
  have h:List.lookup x ((if (k==NameKind.free&&env.scope.kind == .function&&env.kindOf n==some .cell)=true then (n,NameKind.cell) else (n,k))::_)=_:=h
  cases hx:x==n with
  | true=>
   by_cases hc:(k==NameKind.free&&env.scope.kind == .function&&env.kindOf n==some .cell)=true
   ·have:k=.free:=by
     simp only [Bool.and_eq_true,beq_iff_eq] at hc
     exact hc.1.1
    subst this
    simp [List.lookup_cons,hx]
   ·rw [if_neg hc] at h
    simp only [List.lookup_cons,hx] at h ⊢
    cases h
    rcases hk with rfl | rfl
    ·exact absurd rfl (nc _ List.mem_cons_self)
    ·rfl
  | false=>
   by_cases hc:(k==NameKind.free&&env.scope.kind == .function&&env.kindOf n==some .cell)=true
   ·rw [if_pos hc] at h;simp only [List.lookup_cons,hx] at h ⊢;exact ih h
   ·rw [if_neg hc] at h;simp only [List.lookup_cons,hx] at h ⊢;exact ih h
theorem closure_loop {env:Env}:∀(names:List (Str×NameKind)) (acc:List (Str×Addr)),(∀y∈names,y.2=.free→∃c,env.cells.lookup y.1=some c)→
  (∀x c,acc.lookup x=some c→env.cells.lookup x=some c)→
  ∃cl,(forIn names acc fun (p:Str×NameKind) (cs:List (Str×Addr))=>(if (p.2==NameKind.free)=true then do let a←cellOf env p.1;pure (ForInStep.yield ((p.1,a)::cs)) else pure (ForInStep.yield cs):Sem (ForInStep (List (Str×Addr)))))=pure cl∧
   (∀x c,cl.lookup x=some c→env.cells.lookup x=some c)∧(∀x c,acc.lookup x=some c→∃c',cl.lookup x=some c')∧∀y∈names,y.2=.free→∃c,cl.lookup y.1=some c
 | [],acc,_,h2=>⟨acc,by simp,h2,fun x c h=>⟨c,h⟩,fun y hy=>by simp at hy⟩
 | (n,k)::r,acc,h1,h2=>by
  by_cases hk:k=.free
  ·subst hk
   obtain ⟨c,hc⟩:=h1 (n,.free) List.mem_cons_self rfl
   have hcell:cellOf env n=pure c:=by unfold cellOf;rw [hc]
   obtain ⟨cl,q1,q2,q3,q4⟩:=closure_loop (env:=env) r ((n,c)::acc) (fun y hy=>h1 y (List.mem_cons_of_mem _ hy)) fun x c' h=>by
    cases hx:x==n with
    | true=>
     simp only [List.lookup_cons,hx] at h
     cases h
     have:x=n:=by simpa using hx
     rw [this];exact hc
    | false=>simp only [List.lookup_cons,hx] at h;exact h2 x c' h
   refine ⟨cl,?_,q2,fun x c' h=>?_,fun y hy hf=>?_⟩
   ·rw [List.forIn_cons]
    simp only [beq_self_eq_true,if_true,hcell,pure_bind]
    exact q1
   ·cases hx:x==n with
    | true=>exact q3 x c (by simp [List.lookup_cons,hx])
    | false=>exact q3 x c' (by simp only [List.lookup_cons,hx];exact h)
   ·rcases List.mem_cons.mp hy with e | hy
    ·subst e;exact q3 n c (by simp [List.lookup_cons])
    ·exact q4 y hy hf
  ·obtain ⟨cl,q1,q2,q3,q4⟩:=closure_loop (env:=env) r acc (fun y hy=>h1 y (List.mem_cons_of_mem _ hy)) h2
   refine ⟨cl,?_,q2,q3,fun y hy hf=>?_⟩
   ·rw [List.forIn_cons]
    have:(k==NameKind.free)=false:=by simpa using hk
    simp only [this,Bool.false_eq_true,if_false,pure_bind]
    exact q1
   ·rcases List.mem_cons.mp hy with e | hy
    ·subst e;exact absurd hf hk
    ·exact q4 y hy hf
theorem BlkS.ok {X:Cx} {XN:List Str} {NS:List (Str×NameKind)} {N':List Str} {src:List (Option Nat)} {scope:Scope} (B:BlkS X XN NS N' src scope) (ok:X.Ok):∃cl,BlkOk X N' src scope cl:=by
 have hcells:∀y∈scope.names,y.2=.free→∃c,X.env.cells.lookup y.1=some c:=fun y hy hf=>ok.has y.1 (by
  have:=B.free y hy hf
  rw [←B.ns] at this
  exact this)
 obtain ⟨cl,q1,q2,q3,q4⟩:=closure_loop (env:=X.env) scope.names [] hcells (fun x c h=>by simp at h)
 refine ⟨cl,?_,B.nocell,B.kind,B.names,B.len,q2,fun x hx=>?_,fun i j x e1 e2=>?_⟩
 ·unfold closureFor
  show (forIn scope.names [] _ >>= _)=_
  rw [show (forIn scope.names ([]:List (Str×Addr)) fun (x:Str×NameKind) (r:List (Str×Addr))=>_)=_ from q1]
  rfl
 ·have hf:scope.names.lookup x=some .free:=by
   rcases hx with h | h
   ·exact lookup_relabel_back B.nocell (.inl rfl) h
   ·exact lookup_relabel_back B.nocell (.inr rfl) h
  exact q4 (x,.free) (PySem.mem_of_lookup hf) rfl
 ·have hm:(some j,x)∈src.zip N':=by
   have:(src.zip N')[i]?=some (some j,x):=by
    rw [List.getElem?_zip_eq_some]
    exact ⟨e1,e2⟩
   exact List.mem_of_getElem? this
  have q:=List.all_eq_true.mp B.from_ _ hm
  simp only [Bool.and_eq_true,Bool.or_eq_true,decide_eq_true_eq] at q
  obtain ⟨⟨p1,p2⟩,p3⟩:=q
  refine ⟨by rw [B.xn];exact p1,?_,lookup_relabel_free p3⟩
  show X.env.scope.names.lookup x=_∨X.env.scope.names.lookup x=_
  rw [B.ns]
  exact p2
section
variable {X:Cx} {G:Gh} {elt tg iter:Expr} {ifs:List Expr} {scope:Scope} {pos pos' spos:Pos} {XN:List Str} {NS:List (Str×NameKind)} {N':List Str} {src:List (Option Nat)} {fi:Rho→M (List D)} {τ:D→Rho→Option Rho} {ft:Rho→M Bool} {fe:Rho→M D} {r1:Bool} {i:Nat} {x:Str}
theorem pd_compS (hc:X.calm=true) (B:BlkS X XN NS N' src scope) (hi:PDI X G tg iter fi)
  (hg:∀cl pins C s H fp,PDG (blk X pins N' scope cl C s H fp) G tg (fun i=>src[i]?=some none) τ) (ht:∀cl pins C s H fp,PIfs (blk X pins N' scope cl C s H fp) ifs (tOfT G ft)) (he:∀cl pins C s H fp,PD (blk X pins N' scope cl C s H fp) G r1 elt fe)
  (hs:∀x,foldedSetIterable iter X.env x=pure x:=by intro _;rfl):PD X G true (.ListComp elt [⟨tg,iter,ifs,0⟩] scope pos) (dComp src fi τ ft fe):=by
 obtain ⟨wi,pi,qi⟩:=hi
 refine ⟨_,fun pins s σ H Q I h=>?_,comp_yld (r1:=r1) qi⟩
 obtain ⟨cl,B'⟩:=B.ok I.ok
 exact pe_comp hc B' pi (fun pins C s H fp=>(hg cl pins C s H fp).canon) (ht cl) (fun pins C s H fp=>(he cl pins C s H fp).canon) hs pins s σ H Q I h
theorem pasg_compS (hN:X.N.Nodup) (hi':X.N[i]?=some x) (hx:Loc X.env.scope x)
  (hc:X.calm=true) (B:BlkS X XN NS N' src scope) (hi:PDI X G tg iter fi)
  (hg:∀cl pins C s H fp,PDG (blk X pins N' scope cl C s H fp) G tg (fun i=>src[i]?=some none) τ) (ht:∀cl pins C s H fp,PIfs (blk X pins N' scope cl C s H fp) ifs (tOfT G ft)) (he:∀cl pins C s H fp,PD (blk X pins N' scope cl C s H fp) G r1 elt fe)
  (hsw:swapsWith (.ListComp elt [⟨tg,iter,ifs,0⟩] scope pos) (some (.Name x pos')) spos.line X.env=pure true:=by rfl)
  (hs:∀x,foldedSetIterable iter X.env x=pure x:=by intro _;rfl)
  (hf:X.fn x=true∨X.env.scope.names.lookup x=some .local:=by first | exact .inl rfl | exact .inr rfl | assumption) :
  PAsg X G true i (.Assign [.Name x pos'] (.ListComp elt [⟨tg,iter,ifs,0⟩] scope pos) spos) (dComp src fi τ ft fe):=by
 obtain ⟨wi,pi,qi⟩:=hi
 refine ⟨_,fun pins s σ H D I h=>?_,comp_yld (r1:=r1) qi⟩
 obtain ⟨cl,B'⟩:=B.ok I.ok
 exact ps_setC hN hi' hx hc B' pi (fun pins C s H fp=>(hg cl pins C s H fp).canon) (ht cl) (fun pins C s H fp=>(he cl pins C s H fp).canon) hsw hs hf pins s σ H D I h
end
noncomputable def Cal (P:Program) (w:World) (K:PySem.W.Frag) (mg:Str→Option Value) (base:Heap) (k:Nat) (x:Str) (n:Nat) (fr:Bool) (GG:Gh→Prop) (F:List D→M D):Prop:=
 ∃f fd ps,FnOk P w K mg base CX0 k f fd ps (spD n fr GG F)∧mg x=some (.ref f)∧PySem.W.keepIn K (.ref f)=true∧Binds K fd ps []
theorem Cal.mono {P:Program} {w:World} {K:PySem.W.Frag} {mg:Str→Option Value} {base:Heap} {j k:Nat} {x:Str} {n:Nat} {fr:Bool} {GG:Gh→Prop} {F:List D→M D} (c:Cal P w K mg base j x n fr GG F) (h:j≤k:=by decide):Cal P w K mg base k x n fr GG F:=
 let ⟨f,fd,ps,a,b,c,d⟩:=c
 ⟨f,fd,ps,a.mono h,b,c,d⟩
theorem pd_cal {X:Cx} {G:Gh} {k:Nat} {x:Str} {n:Nat} {fr:Bool} {GG:Gh→Prop} {F:List D→M D} {p pos:Pos} {e:Expr} {es:List Expr} {fs:Rho→M (List D)} (c:Cal X.prog X.w X.K X.mg X.base k x n fr GG F) (hG:GG G) (hr:Room k X.A) (hg:Gl X x)
  (ha:PDA X G (e::es) fs) (hal:∀ρ s ds s',fs ρ s=some (ds,s')→ds.length=(e::es).length) (hlen:(e::es).length=n:=by rfl)
  (hdb:(x==("__debug__" : Str))=false:=by decide) (he:starEach (e::es) X.env=(false,eval e X.env)::starEach es X.env:=by rfl) (hpl:(backTo pos (starEach es X.env)).any (·.1)=false:=by rfl) :
  PD X G fr (.Call (.Name x p) (e::es) [] pos) (dFn F fs):=by
 obtain ⟨f,fd,ps,a,b,c,d⟩:=c
 exact pd_call a hG hr hg b c d pass0 ha hlen hal hdb he hpl
noncomputable def hidB (h base:Heap) (as:List Addr):Heap:=PySem.W.hideAll h ((List.range h.objs.size).filter fun a=>!((base.get? a).isSome||decide (a∈as)))
theorem hidB_size {h base:Heap} {as:List Addr}:(hidB h base as).objs.size=h.objs.size:=PySem.W.hideAll_size _ _
theorem hidB_get {h base:Heap} {as:List Addr} {b:Addr} {o:Obj} (e:h.get? b=some o) (n:(∃u,base.get? b=some u)∨b∈as):(hidB h base as).get? b=some o:=
 PySem.W.hideAll_get _ e fun hm=>by
  have q:=(List.mem_filter.mp hm).2
  rcases n with ⟨u,n⟩ | n
  ·simp [n] at q
  ·simp [n] at q
theorem of_hidB {h base:Heap} {as:List Addr} {b:Addr} {o:Obj} (e:(hidB h base as).get? b=some o):h.get? b=some o∧((∃u,base.get? b=some u)∨b∈as):=by
 have e':h.get? b=some o:=PySem.W.of_hideAll _ e
 refine ⟨e',?_⟩
 by_cases c:((base.get? b).isSome||decide (b∈as))=true
 ·rcases Bool.or_eq_true_iff.mp c with c | c
  ·exact .inl (Option.isSome_iff_exists.mp c)
  ·exact .inr (of_decide_eq_true c)
 ·have z:(hidB h base as).get? b=none:=PySem.W.hideAll_none _ (List.mem_filter.mpr ⟨List.mem_range.mpr (Heap.lt_size e'),by simpa using c⟩)
  rw [z] at e;cases e
theorem Env0.more {P:Program} {w:World} {K:PySem.W.Frag} {mg:Str→Option Value} {base:Heap} {A:Around} {outer:List Env} {s:Shared} {H:Hp} {as:List Addr} (e:Env0 P w K mg base A outer s H) (ha:∀b∈as,H b=none) (hf:∀b∈as,b∉frs outer) :
  Env0 P w K mg (hidB s.heap base as) A outer s H:=by
 have up:∀b o,base.get? b=some o→(hidB s.heap base as).get? b=some o:=fun b o q=>hidB_get (e.bs b o q).1 (.inl ⟨o,q⟩)
 refine ⟨e.frames,⟨e.mod.kin.keeps up,e.mod.glob.keeps up,let ⟨mb,h1,h2⟩:=e.mod.blt;⟨mb,h1.keeps up,h2⟩,e.mod.nolimit.keeps up⟩,fun b o q=>?_,Nat.le_of_eq hidB_size,?_,e.frf,e.hok,e.bare⟩
 ·obtain ⟨q1,q2⟩:=of_hidB q
  refine ⟨q1,?_⟩
  rcases q2 with ⟨u,q2⟩ | q2
  ·exact (e.bs b u q2).2
  ·exact ha b q2
 ·have all:∀l:List Env,(∀b∈frs l,b∈frs outer)→s.heap.FunFrames base l→s.heap.FunFrames (hidB s.heap base as) l:=by
   intro l
   induction l with
   | nil=>intro _ _;trivial
   | cons env r ih=>
    intro hs hl
    obtain ⟨hk,⟨L,o,hf',hn,ho,hd⟩,hr⟩:=hl
    have hL:L∈frs outer:=hs L (by unfold frs;rw [List.filterMap_cons,hf'];exact List.mem_cons_self)
    refine ⟨hk,⟨L,o,hf',?_,ho,hd⟩,ih (fun b hb=>hs b (by unfold frs;rw [List.filterMap_cons,hf'];exact List.mem_cons_of_mem _ hb)) hr⟩
    cases q:(hidB s.heap base as).get? L with
    | none=>rfl
    | some u=>
     rcases (of_hidB q).2 with ⟨u',q'⟩ | q'
     ·rw [hn] at q';cases q'
     ·exact absurd hL (hf L q')
  exact all outer (fun _ h=>h) e.funs
noncomputable def fnφ (p:Addr) (fd:FuncData):Heap→Prop:=fun h=>∃oc od sl,h.get? p=some ⟨oc,od,.func fd,sl⟩
noncomputable def codeφ (c:Addr) (q:Str):Heap→Prop:=fun h=>h.CodeRec (.ref c) q
theorem fnφ_at {P:Program} {w:World} {H:Hp} {h:Heap} {p:Addr} {fd:FuncData} (ok:HOk P w H h) (e:H p=some (.ext (fnφ p fd))):fnφ p fd h:=(ok p _ e).1
theorem codeφ_at {P:Program} {w:World} {H:Hp} {h:Heap} {c:Addr} {q:Str} (ok:HOk P w H h) (e:H c=some (.ext (codeφ c q))):h.CodeRec (.ref c) q:=(ok c _ e).1
structure CloScope (N ps:List Str) (sc:Scope):Prop where
 kind:sc.kind=.function
 co:sc.isCoroutine=false
 gen:sc.isGenerator=false
 nd:N.Nodup
 pre:N.take ps.length=ps
 par:∀x∈ps,sc.names.lookup x=some .local
 nocell:∀y∈sc.names,y.2≠.cell
noncomputable def cxC (CX:CXT) (P:Program) (w:World) (K:PySem.W.Frag) (mg:Str→Option Value) (base:Heap) (N:List Str) (qual:Str) (scope:Scope) (f:Addr) (cd:Value) (cl:List (Str×Addr)) (A:Around) (outer:List Env) (s:Shared) (H:Hp) (E:XK):Cx where
 prog:=P
 w:=w
 K:=K
 mg:=mg
 base:=base
 A:=A.deeper (PySem.W.envX qual scope s.heap.objs.size f cd cl)
 N:=N
 s₀:=s
 H₀:=H
 env:=PySem.W.envX qual scope s.heap.objs.size f cd cl
 outer:=outer
 stack:=PySem.W.envX qual scope s.heap.objs.size f cd cl::outer
 ex:=[]
 calm:=true
 fn:=fun _=>false
 pn:=[]
 xe:=fun e s'=>wpAny (model P w) (A.deeper (PySem.W.envX qual scope s.heap.objs.size f cd cl)) (leaving (PySem.W.envX qual scope s.heap.objs.size f cd cl) e) (fun _ s''=>CX outer H s E e s'') (fun e' s''=>CX outer H s E e' s'') s'
structure CloAt (base:Heap) (cl:List (Str×Addr)) (sc:Scope) (N ps:List Str) (cvs:List V):Prop where
 inj:∀x y c,cl.lookup x=some c→cl.lookup y=some c→x=y
 cell:∀x c,cl.lookup x=some c→∃v,base.IsCell c v
 has:∀x,sc.names.lookup x=some .free→∃c,cl.lookup x=some c
 cap:∀(i:Nat) (x:Str) (v:V),N[ps.length+i]?=some x→cvs[i]?=some v→sc.names.lookup x=some .free∧∃c u,cl.lookup x=some c∧base.IsCell c (some u)∧RelV v u
 len:N.length=ps.length+cvs.length
theorem lookup_of_nd {α:Type}:∀{l:List (Str×α)} {x:Str} {u:α},(l.map (·.1)).Nodup→(x,u)∈l→l.lookup x=some u
 | [],_,_,_,h=>by simp at h
 | (y,w)::l,x,u,nd,h=>by
  rw [List.map_cons,List.nodup_cons] at nd
  rcases List.mem_cons.mp h with e | hm
  ·cases e;simp [List.lookup_cons]
  ·have hne:(x==y)=false:=by
    simp only [beq_eq_false_iff_ne]
    rintro rfl
    exact nd.1 (List.mem_map_of_mem (f:=(·.1)) hm)
   rw [List.lookup_cons,hne]
   exact lookup_of_nd nd.2 hm
theorem zip_fst_sub:∀(ps:List Str) (us:List Value),((ps.zip us).map (·.1)).Sublist ps
 | [],_=>by simp
 | _::_,[]=>by simp
 | p::ps,u::us=>by simpa using zip_fst_sub ps us
theorem zip_rev_lookup {ps:List Str} {us:List Value} {i:Nat} {x:Str} {u:Value} (nd:ps.Nodup) (h1:ps[i]?=some x) (h2:us[i]?=some u):(ps.zip us).reverse.lookup x=some u:=by
 refine lookup_of_nd ?_ ?_
 ·rw [List.map_reverse]
  refine List.pairwise_reverse.mpr ?_
  exact (nd.sublist (zip_fst_sub _ _)).imp Ne.symm
 ·rw [List.mem_reverse]
  exact List.mem_of_getElem? (i:=i) (List.getElem?_zip_eq_some.mpr ⟨h1,h2⟩)
theorem inv_clo {CX:CXT} {P:Program} {w:World} {K:PySem.W.Frag} {mg:Str→Option Value} {base:Heap} {N ps:List Str} {qual:Str} {scope:Scope} {f:Addr} {cd:Value} {cl:List (Str×Addr)} {A:Around} {outer:List Env} {s:Shared} {H:Hp} {E:XK} {us:List Value} {vs cvs:List V} {h':Heap} {tk:Nat}
  (S:CloScope N ps scope) (C:CloAt base cl scope N ps cvs) (hd:A.handled=none) (e0:Env0 P w K mg base A outer s H) (hl:vs.length=ps.length) (r:Vals vs us)
  (hns:h'.Ns s.heap.objs.size (fun x=>(ps.zip us).reverse.lookup x)) (hk:∀b o,s.heap.get? b=some o→h'.get? b=some o) :
  Inv (cxC CX P w K mg base N qual scope f cd cl A outer s H E) [] (vs.map some++cvs.map some) H { s with heap:=h',toks:=tk }:=by
 have noA:∀b:Addr,b∉(cxC CX P w K mg base N qual scope f cd cl A outer s H E).ex:=fun b z=>absurd (show b∈([]:List Addr) from z) (by simp)
 have up:∀b o,base.get? b=some o→h'.get? b=some o:=fun b o q=>hk b o (e0.bs b o q).1
 have cellAt:∀x c,cl.lookup x=some c→∃v,base.IsCell c v:=C.cell
 refine ⟨⟨e0.mod,S.kind,rfl,rfl,Nat.le_refl _,fun y z c h1 h2=>C.inj y z c h1 h2,fun y hy=>?_,fun y c z _=>(by cases z),fun _=>hd,Around.frames_deeper e0.frames,.inr ⟨rfl,rfl⟩,fun b z=>absurd z (noA b),e0.bs,e0.bsz,fun b _ _=>noA b,fun b z=>absurd z (noA b),e0.funs,e0.frf⟩,
  rfl,e0.bare,Un.kept hk,⟨_,hns,fun i y v h1 h2 h3=>?_⟩,fun y c h=>?_,e0.hok.fresh (Nat.le_refl _),fun y c h=>?_,fun p hp=>absurd (show p∈([]:List (Addr×Obj)) from hp) (by simp),e0.hok.kept hk,?_⟩
 ·have hy:scope.names.lookup y=some .cell∨scope.names.lookup y=some .free:=hy
  rcases hy with hy | hy
  ·exact absurd rfl (S.nocell _ (PySem.mem_of_lookup hy))
  ·exact C.has y hy
 ·have h1:N[i]?=some y:=h1
  by_cases hi:i<vs.length
  ·have ha:vs[i]?=some v:=by
    rw [List.getElem?_append_left (by simpa using hi),List.getElem?_map] at h2
    cases e:vs[i]? with
    | none=>rw [e] at h2;cases h2
    | some a=>rw [e] at h2;cases h2;rfl
   obtain ⟨u,hu,rv⟩:=r.get ha
   have hp:ps[i]?=some y:=by
    rw [←S.pre,List.getElem?_take_of_lt (by omega)];exact h1
   have ndP:ps.Nodup:=by rw [←S.pre];exact S.nd.sublist (List.take_sublist _ _)
   exact ⟨u,rv,.inl ⟨S.par y (List.mem_of_getElem? hp),zip_rev_lookup ndP hp hu⟩⟩
  ·rw [List.getElem?_append_right (by simpa using hi),List.getElem?_map,List.length_map] at h2
   have hc:cvs[i-vs.length]?=some v:=by
    cases e:cvs[i-vs.length]? with
    | none=>rw [e] at h2;cases h2
    | some a=>rw [e] at h2;cases h2;rfl
   obtain ⟨q1,c,u,q2,q3,q4⟩:=C.cap (i-vs.length) y v (by rw [show ps.length+(i-vs.length)=i by omega];exact h1) hc
   exact ⟨u,q4,.inr ⟨.inr q1,c,q2,q3.keeps up⟩⟩
 ·obtain ⟨v,q⟩:=C.cell y c h
  exact ⟨v,q.keeps up⟩
 ·obtain ⟨v,o,q,_⟩:=C.cell y c h
  exact (e0.bs c o q).2
 ·show _=N.length
  rw [C.len];simp [hl]
theorem fn_cloE {CX:CXT} {P:Program} {w:World} {K:PySem.W.Frag} {mg:Str→Option Value} {base:Heap} {k:Nat} {f:Addr} {name qual:Str} {params:Arguments} {body:Expr} {scope:Scope} {cl:List (Str×Addr)} {pm ct:Value} {c':Addr} {N ps:List Str} {cvs:List V} {sp:Sp}
  (S:CloScope N ps scope) (C:CloAt base cl scope N ps cvs) (len:∀vs H Q E,sp vs H Q E→vs.length=ps.length)
  (at_:∀vs H Q E,sp vs H Q E→H f=some (.ext (fnφ f (PySem.W.kla_fn name qual params body scope cl pm (.ref c') ct)))∧H c'=some (.ext (codeφ c' qual)))
  (hbody:∀(A:Around) (outer:List Env) (s:Shared) (H:Hp) (vs:List V) (Q:VK) (E:XK),Room k (A.deeper (PySem.W.envX qual scope s.heap.objs.size f (.ref c') cl))→sp vs H Q E→
   ∃t,PE (cxC CX P w K mg base N qual scope f (.ref c') cl A outer s H E) body t∧t (vs.map some++cvs.map some) H Q) :
  FnOk P w K mg base CX (k+1) f (PySem.W.kla_fn name qual params body scope cl pm (.ref c') ct) ps sp:=by
 refine ⟨len,fun A outer s H args us vs Q E hr e0 hb r hsp=>?_⟩
 have hl:=len _ _ _ _ hsp
 obtain ⟨a1,a2⟩:=at_ _ _ _ _ hsp
 obtain ⟨oc,od,sl,ho⟩:=fnφ_at e0.hok a1
 have lim:s.heap.NoLimit:=e0.mod.nolimit.keeps fun b o e=>(e0.bs b o e).1
 have hkind:∀y∈ps.zip us,scope.names.lookup y.1=some .local:=fun ⟨n,v⟩ hy=>S.par n (List.of_mem_zip hy).1
 refine PySem.W.kla_callFunE hr.depth ho rfl S.co S.gen rfl (codeφ_at e0.hok a2) (hb _ _ _ _ ?_)
 refine wpAny_newFunctionEnv S.nocell hkind (fun h' hns hsb=>?_) S.kind
 have hk:∀b o,s.heap.get? b=some o→h'.get? b=some o:=fun b o e=>hsb.extBut b o (Nat.ne_of_lt (Heap.lt_size e)) (Heap.get?_push_of_some _ e)
 refine ⟨lim.keeps hk,?_⟩
 show codeAny _ _ (.expr body (PySem.W.envX qual scope s.heap.objs.size f (.ref c') cl)) _ _
 obtain ⟨t,ht,hq⟩:=hbody A outer s H vs Q E (hr.deeper _) hsp
 refine PySem.W.kla_codeExpr (wpAny_mono (ht [] _ _ H Q (inv_clo S C hr.hd e0 hl r hns hk) hq) (fun u s' hs=>?_) fun e s' hs=>hs)
 obtain ⟨v,H',J,rv,q⟩:=hs
 exact ⟨v,H',J.os,J.bare,J.base,J.hok,rv,q⟩
structure Mk0 (X:Cx) (c P:Addr):Prop where
 code:X.env.code=.ref c
 hd:PySem.W.CodeHd X.base c P
 bm:∃bm o,X.mg "__builtins__" = some (.ref bm)∧bm≠builtinsNs∧bm≠mainGlobals∧X.base.get? bm=some o∧o.cls=.type "module"∧o.dict=some builtinsNs∧o.data=.plain
noncomputable def Slot (P:Addr) (q:Str) (lpos:Pos) (ps:Array Value) (H Hm:Hp) (c':Addr):Prop:=
 (Hm=H∧codeAmong lpos ps.toList=some (.ref c')∧H c'=some (.ext (codeφ c' q)))∨(codeAmong lpos ps.toList=none∧H c'=none∧c'≠P∧Hm=upd (upd H P (.tbl (ps ++ #[rawInt lpos.line,rawInt lpos.col,.ref c']))) c' (.ext (codeφ c' q)))
noncomputable def MadeQ (P:Addr) (q:Str) (lpos:Pos) (isFd:FuncData→Addr→Prop) (H:Hp) (R:Addr→Addr→FuncData→Hp→Prop):Prop:=
 ∃ps,H P=some (.tbl ps)∧TriplesOk ps.toList∧(∀cv,codeAmong lpos ps.toList=some cv→∃c',cv=.ref c'∧H c'=some (.ext (codeφ c' q)))∧
  ∀p c' fd Hm,isFd fd c'→Slot P q lpos ps H Hm c'→Hm p=none→R p c' fd (upd Hm p (.ext (fnφ p fd)))
section
variable {X:Cx} {pins:List (Addr×Obj)} {σ:St} {H:Hp} {s:Shared} {c P:Addr} {ps:Array Value}
theorem Mk0.bat (M:Mk0 X c P) (I:Inv X pins σ H s) (hP:H P=some (.tbl ps)):s.heap.BuiltinsAt X.mg P:=by
 obtain ⟨bm,o,e1,e2,e3,e4,e5⟩:=M.bm
 refine ⟨bm,o,e1,e2,e3,fun z=>?_,I.bk _ _ e4,e5⟩
 have:=(I.bs _ _ e4).2
 rw [z,hP] at this;cases this
theorem gne (I:Inv X pins σ H s) (hP:H P=some (.tbl ps)):mainGlobals≠P:=fun z=>by
 obtain ⟨o,es,ep,e,_⟩:=I.mod.glob
 have:=(I.bs _ _ e).2
 rw [z,hP] at this;cases this
theorem ext_ok {P0:Program} {w:World} {H':Hp} {h:Heap} {a:Addr} {φ:Heap→Prop} (h1:φ h) (h2:∃o,h.get? a=some o) (h3:∀h1 h2:Heap,φ h1→(∀o,h1.get? a=some o→h2.get? a=some o)→φ h2):ObjOk P0 w H' h a (.ext φ):=⟨h1,h2,h3⟩
theorem fnφ_keep {p:Addr} {fd:FuncData}:∀h1 h2:Heap,fnφ p fd h1→(∀o,h1.get? p=some o→h2.get? p=some o)→fnφ p fd h2:=fun h1 h2 ⟨oc,od,sl,e⟩ k=>⟨oc,od,sl,k _ e⟩
theorem codeφ_keep {p:Addr} {q:Str}:∀h1 h2:Heap,codeφ p q h1→(∀o,h1.get? p=some o→h2.get? p=some o)→codeφ p q h2:=fun h1 h2 ⟨a,o,vs,t,e,e1,r⟩ k=>by
 cases e
 exact ⟨p,o,vs,t,rfl,k _ e1,r⟩
theorem codeφ_there {p:Addr} {q:Str} {h:Heap} (x:codeφ p q h):∃o,h.get? p=some o:=by
 obtain ⟨a,o,vs,t,e,e1,r⟩:=x
 cases e
 exact ⟨o,e1⟩
theorem inv_row {h':Heap} {tk:Nat} {c':Addr} {more:Array Value} {q:Str} (I:Inv X pins σ H s) (hP:H P=some (.tbl ps)) (hx:Heap.ExtBut P s.heap h') (hge:s.heap.objs.size≤c') (hc:h'.CodeRec (.ref c') q) (ht:h'.get? P=some (PySem.W.tabObj (ps++more))) :
  Inv X pins σ (upd (upd H P (.tbl (ps++more))) c' (.ext (codeφ c' q))) { s with heap:=h',toks:=tk }∧H c'=none∧c'≠P:=by
 have hc0:H c'=none:=I.hok.fresh hge
 have hcP:c'≠P:=fun z=>by rw [z,hP] at hc0;cases hc0
 have old:∀{b:Addr} {u:HO},H b=some u→b≠c':=fun e z=>by rw [z,hc0] at e;cases e
 have get:∀{b:Addr} {u:HO},H b=some u→b≠P→upd (upd H P (.tbl (ps++more))) c' (.ext (codeφ c' q)) b=some u:=fun {b u} e n=>by rw [upd_ne (old e),upd_ne n];exact e
 refine ⟨I.call (g':=s.gens) (d':=s.drawn) (ch:=[]) ?_ ?_ I.bare (fun b hb=>absurd hb (by simp)),hc0,hcP⟩
 ·refine ⟨fun b o e n _ _=>hx b o (fun z=>by rw [z,hP] at n;cases n) e,fun b o e n _ _=>⟨o.slots,hx b o (fun z=>by rw [z,hP] at n;cases n) e⟩,fun b o e n _=>?_,fun b o e _=>?_,fun b xs e=>get e (fun z=>by rw [z,hP] at e;cases e),fun b o u e=>get e (fun z=>by rw [z,hP] at e;cases e),fun b ps' e=>?_⟩
  ·rw [upd_ne (Nat.ne_of_lt (Nat.lt_of_lt_of_le (Heap.lt_size e) hge)),upd_ne (fun z=>by rw [z,hP] at n;cases n)];exact n
  ·by_cases hb:b=P
   ·exact ⟨_,hb▸ht⟩
   ·exact ⟨o,hx b o hb e⟩
  ·by_cases hb:b=P
   ·subst hb
    rw [hP] at e;cases e
    exact ⟨more,by rw [upd_ne (old hP),upd_same]⟩
   ·exact ⟨#[],by rw [get e hb];simp⟩
 ·intro a o e
  by_cases ha:a=c'
  ·subst ha
   rw [upd_same] at e;cases e
   exact ext_ok hc (codeφ_there hc) codeφ_keep
  ·rw [upd_ne ha] at e
   by_cases hb:a=P
   ·subst hb
    rw [upd_same] at e;cases e
    exact ht
   ·rw [upd_ne hb] at e
    refine (I.hok a o e).stay (fun b u hb' r=>hx b u ?_ r) (fun b r=>get r (fun z=>by rw [z,hP] at r;cases r)) fun b xs r=>get r (fun z=>by rw [z,hP] at r;cases r)
    rcases hb' with rfl | hb'
    ·exact hb
    ·intro z;rw [z,hP] at hb';cases hb'
structure CloOf (X:Cx) (scope:Scope) (cl:List (Str×Addr)):Prop where
 of:∀x c,cl.lookup x=some c→X.env.cells.lookup x=some c
 has:∀y∈scope.names,y.2=.free→∃c,cl.lookup y.1=some c
theorem clo_get {scope:Scope} (ok:X.Ok) (hfree:∀y∈scope.names,y.2=.free→X.env.kindOf y.1=some .cell∨X.env.kindOf y.1=some .free):∃cl,closureFor scope X.env=pure cl∧CloOf X scope cl:=by
 obtain ⟨cl,q1,q2,q3,q4⟩:=closure_loop (env:=X.env) scope.names [] (fun y hy hf=>ok.has y.1 (hfree y hy hf)) (fun x c h=>by simp at h)
 refine ⟨cl,?_,q2,q4⟩
 unfold closureFor
 show (forIn scope.names [] _ >>= _)=_
 rw [show (forIn scope.names ([]:List (Str×Addr)) fun (x:Str×NameKind) (r:List (Str×Addr))=>_)=_ from q1]
 rfl
theorem pe_lam {params:Arguments} {body:Expr} {scope:Scope} {lpos:Pos} {q:Str} (M:Mk0 X c P) (hq:X.env.qual ++ "<lambda>" = q) (hfree:∀y∈scope.names,y.2=.free→X.env.kindOf y.1=some .cell∨X.env.kindOf y.1=some .free) (hdef:defaultsOf params X.env=([],[]):=by rfl) :
  PE X (.Lambda params body scope lpos) (fun σ H Q=>MadeQ P q lpos (fun fd c'=>∃cl pm ctv,CloOf X scope cl∧fd=PySem.W.kla_fn "<lambda>" q params body scope cl pm (.ref c') ctv) H fun p _ _ H'=>Q (.ref p) H'):=by
 intro pins s σ H Q I ⟨ps,hP,ht,hhit,h⟩
 obtain ⟨cl,hcl,co⟩:=clo_get I.ok hfree
 have hP':s.heap.get? P=some (PySem.W.tabObj ps):=I.hok P _ hP
 have hg:s.heap.Ns mainGlobals X.mg:=I.mod.glob.keeps I.bk
 have hb:=M.bat I hP
 refine PySem.W.kla_eval hdef ?_
 rw [hq]
 cases hc:codeAmong lpos ps.toList with
 | some cv=>
  obtain ⟨c',rfl,hc'⟩:=hhit cv hc
  refine PySem.W.kla_makeFunctionHit hcl I.ok.glob hg M.code (M.hd.keeps I.bk) hP' ht hc hb fun ctv h' tk hk hsz=>?_
  refine ⟨.ref h'.objs.size,upd H h'.objs.size (.ext (fnφ _ _)),I.laid (t':=tk) (fun b u e=>Heap.get?_push_of_some _ (hk b u e)) hsz (ext_ok ⟨_,_,_,Heap.get?_push_size _ rfl⟩ ⟨_,Heap.get?_push_size _ rfl⟩ fnφ_keep),rfl,h _ c' _ H ⟨cl,_,_,co,rfl⟩ (.inl ⟨rfl,hc,hc'⟩) (I.hok.fresh hsz)⟩
 | none=>
  refine PySem.W.kla_makeFunction hcl I.ok.glob hg M.code (M.hd.keeps I.bk) hP' ht hc (gne I hP) hb fun c' ctv h' tk hx hge hlt hrec htb=>?_
  obtain ⟨I1,hc0,hcP⟩:=inv_row (tk:=tk) I hP hx hge hrec htb
  refine ⟨.ref h'.objs.size,upd _ h'.objs.size (.ext (fnφ _ _)),I1.laid (t':=tk) (fun b u e=>Heap.get?_push_of_some _ e) (Nat.le_refl _) (ext_ok ⟨_,_,_,Heap.get?_push_size _ rfl⟩ ⟨_,Heap.get?_push_size _ rfl⟩ fnφ_keep),rfl,h _ c' _ _ ⟨cl,_,_,co,rfl⟩ (.inr ⟨hc,hc0,hcP,rfl⟩) (I1.hok.fresh (Nat.le_refl _))⟩
end
structure Cells (X:Cx) (σ:St) (base':Heap):Prop where
 inj:∀x y c,X.env.cells.lookup x=some c→X.env.cells.lookup y=some c→x=y
 cell:∀x c,X.env.cells.lookup x=some c→∃v,base'.IsCell c v
 has:∀x,(X.env.kindOf x=some .cell∨X.env.kindOf x=some .free)→∃c,X.env.cells.lookup x=some c
 val:∀(i:Nat) (x:Str) (v:V),X.N[i]?=some x→σ[i]?=some (some v)→X.env.kindOf x=some .cell→∃c u,X.env.cells.lookup x=some c∧base'.IsCell c (some u)∧RelV v u
section
variable {X:Cx} {pins:List (Addr×Obj)} {σ:St} {H:Hp} {s:Shared}
noncomputable def celAs (X:Cx):List Addr:=X.env.cells.filterMap fun p=>X.env.cells.lookup p.1
theorem celAs_mem {x:Str} {c:Addr} (e:X.env.cells.lookup x=some c):c∈celAs X:=List.mem_filterMap.mpr ⟨(x,c),PySem.mem_of_lookup e,e⟩
theorem celAs_of {c:Addr} (h:c∈celAs X):∃x,X.env.cells.lookup x=some c:=by
 obtain ⟨p,_,e⟩:=List.mem_filterMap.mp h
 exact ⟨p.1,e⟩
theorem inv_cells (I:Inv X pins σ H s) (hfn:∀x,X.fn x=true):Env0 X.prog X.w X.K X.mg (hidB s.heap X.base (celAs X)) X.A X.stack s H∧Cells X σ (hidB s.heap X.base (celAs X)):=by
 have cellK:∀x c v,X.env.cells.lookup x=some c→s.heap.IsCell c v→(hidB s.heap X.base (celAs X)).IsCell c v:=fun x c v e ⟨o,ho,hd⟩=>⟨o,hidB_get ho (.inr (celAs_mem e)),hd⟩
 refine ⟨Env0.more I.env0 (fun b hb=>?_) fun b hb hf=>?_,⟨I.ok.inj,fun x c e=>?_,I.ok.has,fun i x v h1 h2 h3=>?_⟩⟩
 ·obtain ⟨x,e⟩:=celAs_of hb
  exact I.freeC x b e
 ·obtain ⟨x,e⟩:=celAs_of hb
  rcases List.mem_cons.mp (I.stkSub b hf) with z | z
  ·exact I.cne x b e z
  ·obtain ⟨_,o,ho,_⟩:=I.ok.funs.mem z
   exact absurd (Nat.lt_of_lt_of_le (Heap.lt_size ho) (I.ok.cab x b (hfn x) e)) (Nat.lt_irrefl _)
 ·obtain ⟨v,q⟩:=I.cell x c e
  exact ⟨v,cellK x c v e q⟩
 ·obtain ⟨m,_,hl⟩:=I.loc
  obtain ⟨u,r,l⟩:=hl i x v h1 h2 (.inr (.inl h3))
  rcases l with ⟨hk,_⟩ | ⟨_,c,hc,hcell⟩
  ·rw [h3] at hk;cases hk
  ·exact ⟨c,u,hc,cellK x c _ hc hcell,r⟩
theorem pe_callC {x:Str} {p pos:Pos} {e:Expr} {es:List Expr} {t:TA} {k:Nat} {f:Addr} {fd:FuncData} {ps:List Str} {sp:Heap→Sp} (F:∀base,FnOk X.prog X.w X.K X.mg base CX0 k f fd ps (sp base)) (hfn:∀x,X.fn x=true) (hr:Room k X.A) (hg:Gl X x) (hm:X.mg x=some (.ref f)) (hk:PySem.W.keepIn X.K (.ref f)=true) (hb:Binds X.K fd ps [])
  (ha:PA X (e::es) t) (hdb:(x==("__debug__" : Str))=false:=by decide) (he:starEach (e::es) X.env=(false,eval e X.env)::starEach es X.env:=by rfl) (hpl:(backTo pos (starEach es X.env)).any (·.1)=false:=by rfl) :
  PE X (.Call (.Name x p) (e::es) [] pos) (fun σ H Q=>t σ H fun vs H1=>∀base',Cells X σ base'→sp base' vs H1 Q E0):=by
 intro pins s σ H Q I h
 refine wpAny_Call_Name_kw (ld_glob I hg hm ?_ hdb)
 refine PySem.W.callWith_K (h₀:=X.base) I.ok.mod.kin hk (thn (ha pos pins s σ H _ I h) fun us s1 ⟨vs,H1,I1,r,q⟩=>⟨I1.kIn,?_⟩) he hpl
 obtain ⟨e0,cs⟩:=inv_cells I1 hfn
 have q':=q _ cs
 have hl:(us ++ []).length=ps.length:=by rw [List.append_nil,←r.length];exact (F _).len _ _ _ _ q'
 refine wpAny_call (codeAny_mono ((F _).run X.A X.stack s1 H1 ⟨us,[]⟩ us vs Q E0 hr e0 (by have:=hb s1 us I1.kIn hl;rw [List.append_nil] at this;exact this) r q') fun r s' hq=>?_)
 cases r with
 | error e=>exact hq.elim
 | ok fl=>
  cases fl with
  | ret u=>exact I1.after hq
  | next=>exact False.elim hq
  | brk=>exact False.elim hq
  | cont=>exact False.elim hq
theorem pe_callV {x:Str} {p pos:Pos} {e:Expr} {es:List Expr} {t:TA} {k i:Nat} (hf:PE X (.Name x p) (tVar i)) (hr:Room k X.A) (ha:PA X (e::es) t)
  (he:starEach (e::es) X.env=(false,eval e X.env)::starEach es X.env:=by rfl) (hpl:(backTo pos (starEach es X.env)).any (·.1)=false:=by rfl) :
  PE X (.Call (.Name x p) (e::es) [] pos) (fun σ H Q=>∃f fd ps sp,σ[i]?=some (some (.ref f))∧Binds X.K fd ps []∧FnOk X.prog X.w X.K X.mg X.base CX0 k f fd ps sp∧(∀h:Heap,HOk X.prog X.w H h→X.K.In h→fnφ f fd h)∧
   t σ H fun vs H1=>(∀h:Heap,HOk X.prog X.w H1 h→X.K.In h→fnφ f fd h)∧sp vs H1 Q E0):=by
 intro pins s σ H Q I ⟨f,fd,ps,sp,e,hb,F,h0,h⟩
 refine wpAny_Call_Name_kw (thn (hf pins s σ H (fun v H'=>v=.ref f∧H'=H) I ⟨_,e,rfl,rfl⟩) fun u s1 ⟨v,H1,I1,rv,ev,eH⟩=>?_)
 subst ev eH
 cases (show u=Value.ref f from rv)
 have at1:∀{pins σ H s},Inv X pins σ H s→(∀h:Heap,HOk X.prog X.w H h→X.K.In h→fnφ f fd h)→PySem.W.FnAt f s.heap:=fun I z=>by
  obtain ⟨oc,od,sl,q⟩:=z _ I.hok I.kIn
  exact ⟨oc,od,fd,sl,q⟩
 refine PySem.W.callWith_F (at1 I1 h0) (thn (ha pos pins s1 σ _ _ I1 h) fun us s2 ⟨vs,H2,I2,r,h2,q⟩=>⟨at1 I2 h2,?_⟩) he hpl
 exact run_fn F hr hb .nil pass0 I2 r (by rw [List.append_nil];exact q)
end
mutual
noncomputable def noClo:D→Bool
 | .tup ds=>noClos ds
 | .lst ds=>noClos ds
 | .clo _ _=>false
 | _=>true
noncomputable def noClos:List D→Bool
 | []=>true
 | d::ds=>noClo d&&noClos ds
end
mutual
theorem Rep.re {G G':Gh} {H:Hp} (hf:G'.fp=G.fp) (hp:G'.pen=G.pen):∀{d:D} {v:V},noClo d=true→Rep G H d v→Rep G' H d v
 | .non,_,_,h=>Rep.non_iff.mpr (Rep.non_iff.mp h)
 | .bl _,_,_,h=>Rep.bl_iff.mpr (Rep.bl_iff.mp h)
 | .int _,_,_,h=>Rep.int_iff.mpr (Rep.int_iff.mp h)
 | .str _,_,_,h=>Rep.str_iff.mpr (Rep.str_iff.mp h)
 | .tup ds,v,n,h=>by
  obtain ⟨a,vs,e1,nf,e2,r⟩:=Rep.tup_iff.mp h
  exact Rep.tup_iff.mpr ⟨a,vs,e1,by rw [hf];exact nf,e2,RepL.re hf hp (by simpa [noClo] using n) r⟩
 | .lst ds,v,n,h=>by
  obtain ⟨a,vs,e1,nf,e2,r⟩:=Rep.lst_iff.mp h
  exact Rep.lst_iff.mpr ⟨a,vs,e1,by rw [hf];exact nf,e2,RepL.re hf hp (by simpa [noClo] using n) r⟩
 | .dk _,_,_,h=>by
  obtain ⟨a,e1,nf,e2⟩:=Rep.dk_iff.mp h
  exact Rep.dk_iff.mpr ⟨a,e1,by rw [hf];exact nf,e2⟩
 | .dt _,_,_,h=>by
  obtain ⟨a,o,e1,nf,e2⟩:=Rep.dt_iff.mp h
  exact Rep.dt_iff.mpr ⟨a,o,e1,by rw [hf];exact nf,e2⟩
 | .du _,_,_,h=>by
  obtain ⟨a,e1,nf,e2⟩:=Rep.du_iff.mp h
  exact Rep.du_iff.mpr ⟨a,e1,by rw [hf];exact nf,e2⟩
 | .df _,_,_,h=>by
  obtain ⟨a,o,e1,nf,e2⟩:=Rep.df_iff.mp h
  exact Rep.df_iff.mpr ⟨a,o,e1,by rw [hf];exact nf,e2⟩
 | .pen,_,_,h=>Rep.pen_iff.mpr ((Rep.pen_iff.mp h).trans hp.symm)
 | .ty _,_,_,h=>Rep.ty_iff.mpr (Rep.ty_iff.mp h)
 | .clo _ _,_,n,_=>by simp [noClo] at n
theorem RepL.re {G G':Gh} {H:Hp} (hf:G'.fp=G.fp) (hp:G'.pen=G.pen):∀{ds:List D} {vs:List V},noClos ds=true→RepL G H ds vs→RepL G' H ds vs
 | [],_,_,h=>RepL.nil_iff.mpr (RepL.nil_iff.mp h)
 | d::ds,vs,n,h=>by
  obtain ⟨v,r,e,h1,h2⟩:=RepL.cons_iff.mp h
  have n':noClo d=true∧noClos ds=true:=by simpa [noClos] using n
  exact RepL.cons_iff.mpr ⟨v,r,e,Rep.re hf hp n'.1 h1,RepL.re hf hp n'.2 h2⟩
end
theorem Gr.re {G G':Gh} {Hf H Hf' H':Hp} (hf:G'.fp=G.fp) (g:Gr G Hf H Hf' H'):Gr G' Hf H Hf' H':=
 ⟨fun b o n=>g.hh b o (by rw [←hf];exact n),fun b o n=>g.ff b o (by rw [←hf];exact n),fun b o n=>g.fh b o (by rw [←hf];exact n),fun b n=>g.nw b (by rw [←hf];exact n)⟩
theorem Ext.re {G G':Gh} {H H':Hp} (hf:G'.fp=G.fp) (g:Ext G H H'):Ext G' H H':=fun b o n=>g b o (by rw [←hf];exact n)
theorem FreshL.re {G G':Gh} {H Hf':Hp} {d:D} {v:V} (hf:G'.fp=G.fp) (hp:G'.pen=G.pen) (n:noClo d=true) (h:FreshL G H Hf' d v):FreshL G' H Hf' d v:=fun a e m=>by
 obtain ⟨h1,h2⟩:=h a e m
 refine ⟨h1,fun ds ed=>?_⟩
 obtain ⟨vs,Hm,q1,q2,q3,q4⟩:=h2 ds ed
 subst ed
 exact ⟨vs,Hm,q1,q2,q3.re hf,q4.re hf hp (by simpa [noClo] using n)⟩
noncomputable def spK (n:Nat) (G:Gh) (cvs:List V) (F:List D→M D):Sp:=fun us H Q _=>∃(Hf:Hp) (ds cds:List D) (s:Pn) (d:D) (s':Pn),us.length=n∧Ext G Hf H∧RepL G Hf ds us∧RepL G Hf cds cvs∧G.st s H∧F (ds++cds) s=some (d,s')∧
 ∀v Hf' H',Gr G Hf H Hf' H'→G.st s' H'→Rep G Hf' d v→Q v H'
noncomputable def CloG (P:Program) (w:World) (K:PySem.W.Frag) (mg:Str→Option Value) (k n:Nat) (T:Nat→List D→M D) (base:Heap) (G:Gh):Prop:=
 ∀t v cvs,G.clo t v cvs→∃f fd ps,v=.ref f∧ps.length=n∧Binds K fd ps []∧(∀s H,G.st s H→∀h:Heap,HOk P w H h→K.In h→fnφ f fd h)∧FnOk P w K mg base CX0 k f fd ps (spK n G cvs (T t))
noncomputable def dApp (T:Nat→List D→M D) (i:Nat) (fs:Rho→M (List D)):Rho→M D:=fun ρ=>mbind (dVar i ρ) fun c=>mbind (fs ρ) fun ds=>match c with | .clo t cds=>T t (ds++cds) | _=>mfail
theorem dVar_some {i:Nat} {ρ:Rho} {s s':Pn} {d:D} (h:dVar i ρ s=some (d,s')):ρ[i]?=some (some d)∧s'=s:=by
 obtain ⟨e,rfl⟩:=mOf_some h
 refine ⟨?_,rfl⟩
 cases q:ρ[i]? with
 | none=>rw [q] at e;cases e
 | some o=>rw [q] at e;simp at e;rw [e]
section
variable {X:Cx} {G:Gh}
theorem pd_callV {T:Nat→List D→M D} {k n i:Nat} {x:Str} {p pos:Pos} {e:Expr} {es:List Expr} {fs:Rho→M (List D)} (hG:CloG X.prog X.w X.K X.mg k n T X.base G) (hr:Room k X.A) (hf:PE X (.Name x p) (tVar i)) (ha:PDA X G (e::es) fs)
  (hal:∀ρ s ds s',fs ρ s=some (ds,s')→ds.length=(e::es).length) (hlen:(e::es).length=n:=by rfl)
  (he:starEach (e::es) X.env=(false,eval e X.env)::starEach es X.env:=by rfl) (hpl:(backTo pos (starEach es X.env)).any (·.1)=false:=by rfl) :
  PD X G false (.Call (.Name x p) (e::es) [] pos) (dApp T i fs):=by
 obtain ⟨t,pa,qa⟩:=ha
 refine ⟨_,pe_callV hf hr pa he hpl,fun σ Hf H ρ s d s' Q e1 e2 e3 e4 k=>?_⟩
 obtain ⟨c,s0,b0,b1⟩:=mbind_some e4
 obtain ⟨a0,rfl⟩:=dVar_some b0
 obtain ⟨ds,s1,a1,a2⟩:=mbind_some b1
 cases c with
 | clo t cds=>
  obtain ⟨v,hσ,r⟩:=e2 i _ a0
  obtain ⟨cvs,hc,rc⟩:=Rep.clo_iff.mp r
  obtain ⟨f,fd,ps,rfl,hl,hb,hat,F⟩:=hG t v cvs hc
  refine ⟨f,fd,ps,_,hσ,hb,F,hat _ H e3,qa σ Hf H ρ _ ds s1 _ e1 e2 e3 a1 fun vs Hf1 H1 g1 st1 r1=>⟨hat _ H1 st1,Hf1,ds,cds,s1,d,s',?_,g1.fh,r1,rc.ext g1.ff,st1,a2,fun v Hf2 H2 g2 st2 r2=>k v Hf2 H2 (g1.trans g2) st2 r2 (fun z=>by cases z)⟩⟩
  rw [←r1.length,hal _ _ _ _ a1];exact hlen
 | _=>cases a2
end
noncomputable def runE (n:Nat) (f:Rho→M D):List D→M D:=fun ds=>if ds.length=n then f (ds.map some) else mfail
theorem envR_of {G:Gh} {Hf:Hp} {ds:List D} {vs:List V} (r:RepL G Hf ds vs):EnvR G Hf (vs.map some) (ds.map some):=fun i d e=>by
 rw [List.getElem?_map] at e
 cases q:ds[i]? with
 | none=>rw [q] at e;cases e
 | some d'=>
  rw [q] at e;cases e
  obtain ⟨v,h1,h2⟩:=r.get q
  exact ⟨v,by rw [List.getElem?_map,h1];rfl,h2⟩
theorem fnKE {P:Program} {w:World} {K:PySem.W.Frag} {mg:Str→Option Value} {base:Heap} {k:Nat} {f:Addr} {name qual:Str} {params:Arguments} {body:Expr} {scope:Scope} {cl:List (Str×Addr)} {pm ct:Value} {c':Addr} {N ps:List Str} {cvs:List V} {G:Gh} {fr:Bool} {fe:Rho→M D}
  (S:CloScope N ps scope) (C:CloAt base cl scope N ps cvs) (hG:∀s H,G.st s H→H f=some (.ext (fnφ f (PySem.W.kla_fn name qual params body scope cl pm (.ref c') ct)))∧H c'=some (.ext (codeφ c' qual)))
  (hb:∀(A:Around) (outer:List Env) (s:Shared) (H:Hp) (E:XK),Room k (A.deeper (PySem.W.envX qual scope s.heap.objs.size f (.ref c') cl))→PD (cxC CX0 P w K mg base N qual scope f (.ref c') cl A outer s H E).nox G fr body fe) :
  FnOk P w K mg base CX0 (k+1) f (PySem.W.kla_fn name qual params body scope cl pm (.ref c') ct) ps (spK ps.length G cvs (runE N.length fe)):=by
 refine fn_cloE (cvs:=cvs) S C (fun vs H Q E ⟨_,_,_,_,_,_,h,_⟩=>h) (fun vs H Q E ⟨_,_,_,s,_,_,_,_,_,_,st,_⟩=>hG s H st) fun A outer s H vs Q E hr h=>?_
 obtain ⟨Hf,ds,cds,pn,d,pn',el,e1,r1,r2,st,eF,k'⟩:=h
 obtain ⟨t,p,q⟩:=hb A outer s H E hr
 refine ⟨t,p.nox,?_⟩
 obtain ⟨hl,a0⟩:=mif_some eF
 have env:=envR_of (r1.append r2)
 rw [List.map_append] at env
 exact q _ Hf H _ pn d pn' Q e1 env st a0 fun v Hf' H' g st' r _=>k' v Hf' H' g st' r
structure TabG (P:Addr) (q:Str) (G:Gh):Prop where
 get:∀s H,G.st s H→∃ps,H P=some (.tbl ps)∧TriplesOk ps.toList∧∀pos cv,codeAmong pos ps.toList=some cv→∃c',cv=.ref c'∧H c'=some (.ext (codeφ c' q))∧¬G.fp c'
 fp:G.fp P
 put:∀s H ps (pos:Pos) c',G.st s H→H P=some (.tbl ps)→H c'=none→codeAmong pos ps.toList=none→G.st s (upd (upd H P (.tbl (ps ++ #[rawInt pos.line,rawInt pos.col,.ref c']))) c' (.ext (codeφ c' q)))
noncomputable def cloG (G:Gh) (t:Nat) (p c':Addr) (fd:FuncData) (q:Str) (cvs:List V):Gh where
 fp:=G.fp
 rd:=G.rd
 pen:=G.pen
 st:=fun s H=>G.st s H∧H p=some (.ext (fnφ p fd))∧H c'=some (.ext (codeφ c' q))
 mono:=fun s H H' ⟨h1,h2,h3⟩ k1 k2=>⟨G.mono s H H' h1 k1 k2,k2 _ _ h2,k2 _ _ h3⟩
 sub:=G.sub
 dom:=fun s H b h=>G.dom s H b h.1
 ntp:=fun s H b vs h=>G.ntp s H b vs h.1
 clo:=fun t' v cs=>t'=t∧v=.ref p∧cs=cvs
noncomputable def gloG (G:Gh) (t:Nat) (p:Addr):Gh where
 fp:=G.fp
 rd:=G.rd
 pen:=G.pen
 st:=G.st
 mono:=G.mono
 sub:=G.sub
 dom:=G.dom
 ntp:=G.ntp
 clo:=fun t' v cs=>t'=t∧v=.ref p∧cs=[]
noncomputable def CalA (P:Program) (w:World) (K:PySem.W.Frag) (mg:Str→Option Value) (k:Nat) (x:Str) (n:Nat) (fr:Bool) (GG:Heap→Gh→Prop) (F:List D→M D):Prop:=
 ∃f fd ps,(∀base,FnOk P w K mg base CX0 k f fd ps (spD n fr (GG base) F))∧mg x=some (.ref f)∧PySem.W.keepIn K (.ref f)=true∧Binds K fd ps []
theorem CalA.mono {P:Program} {w:World} {K:PySem.W.Frag} {mg:Str→Option Value} {j k:Nat} {x:Str} {n:Nat} {fr:Bool} {GG:Heap→Gh→Prop} {F:List D→M D} (c:CalA P w K mg j x n fr GG F) (h:j≤k:=by decide):CalA P w K mg k x n fr GG F:=
 let ⟨f,fd,ps,a,b,c,d⟩:=c
 ⟨f,fd,ps,fun base=>(a base).mono h,b,c,d⟩
structure CapS (X:Cx) (XN:List Str) (NS:List (Str×NameKind)) (N ps:List Str) (cix:List Nat) (scope:Scope):Prop where
 xn:X.N=XN
 ns:X.env.scope.names=NS
 len:N.length=ps.length+cix.length
 at_:(cix.zip (N.drop ps.length)).all (fun p=>decide (XN[p.1]?=some p.2)&&decide (NS.lookup p.2=some .cell)&&decide (scope.names.lookup p.2=some .free))=true
 free:∀y∈scope.names,y.2=.free→NS.lookup y.1=some .cell∨NS.lookup y.1=some .free
theorem CapS.hfree {X:Cx} {XN:List Str} {NS:List (Str×NameKind)} {N ps:List Str} {cix:List Nat} {scope:Scope} (B:CapS X XN NS N ps cix scope):∀y∈scope.names,y.2=.free→X.env.kindOf y.1=some .cell∨X.env.kindOf y.1=some .free:=fun y hy hf=>by
 have:=B.free y hy hf
 rw [←B.ns] at this
 exact this
theorem CapS.cloAt {X:Cx} {XN:List Str} {NS:List (Str×NameKind)} {N ps:List Str} {cix:List Nat} {scope:Scope} {σ:St} {base':Heap} {cl:List (Str×Addr)} {cvs:List V} (B:CapS X XN NS N ps cix scope) (cs:Cells X σ base') (co:CloOf X scope cl) (hl:cvs.length=cix.length)
  (hv:∀(i j:Nat) (v:V),cix[i]?=some j→cvs[i]?=some v→σ[j]?=some (some v)):CloAt base' cl scope N ps cvs:=by
 refine ⟨fun x y c h1 h2=>cs.inj x y c (co.of x c h1) (co.of y c h2),fun x c h=>cs.cell x c (co.of x c h),fun x h=>co.has (x,.free) (PySem.mem_of_lookup h) rfl,fun i x v h1 h2=>?_,by rw [B.len,hl]⟩
 have hi:i<cix.length:=by rw [←hl];exact (List.getElem?_eq_some_iff.mp h2).1
 have hj:cix[i]?=some cix[i]:=List.getElem?_eq_getElem hi
 have hx:(N.drop ps.length)[i]?=some x:=by rw [List.getElem?_drop];exact h1
 have q:=List.all_eq_true.mp B.at_ (cix[i],x) (List.mem_of_getElem? (i:=i) (List.getElem?_zip_eq_some.mpr ⟨hj,hx⟩))
 simp only [Bool.and_eq_true,decide_eq_true_eq] at q
 obtain ⟨⟨q1,q2⟩,q3⟩:=q
 refine ⟨q3,?_⟩
 obtain ⟨c,u,e1,e2,e3⟩:=cs.val cix[i] x v (by rw [B.xn];exact q1) (hv i _ v hj h2) (by show X.env.scope.names.lookup x=_;rw [B.ns];exact q2)
 obtain ⟨c2,e4⟩:=co.has (x,.free) (PySem.mem_of_lookup q3) rfl
 have e5:=co.of x c2 e4
 rw [e1] at e5;cases e5
 exact ⟨c,u,e4,e2,e3⟩
noncomputable def capsD (ρ:Rho):List Nat→Option (List D)
 | []=>some []
 | i::r=>((ρ[i]?).bind id).bind fun d=>(capsD ρ r).map (d :: ·)
theorem caps_rep {G:Gh} {Hf:Hp} {σ:St} {ρ:Rho} (e:EnvR G Hf σ ρ):∀{cix:List Nat} {cds:List D},capsD ρ cix=some cds→∃cvs,cvs.length=cix.length∧RepL G Hf cds cvs∧∀(i j:Nat) (v:V),cix[i]?=some j→cvs[i]?=some v→σ[j]?=some (some v)
 | [],cds,h=>by cases h;exact ⟨[],rfl,RepL.nil_iff.mpr rfl,fun i j v h1=>by simp at h1⟩
 | a::r,cds,h=>by
  unfold capsD at h
  cases q:(ρ[a]?).bind id with
  | none=>rw [q] at h;cases h
  | some d=>
   rw [q] at h
   cases q2:capsD ρ r with
   | none=>rw [q2] at h;cases h
   | some ds=>
    rw [q2] at h;cases h
    obtain ⟨v,h1,h2⟩:=e a d (by
     cases q3:ρ[a]? with
     | none=>rw [q3] at q;cases q
     | some o=>rw [q3] at q;simp at q;rw [q])
    obtain ⟨cvs,l1,l2,l3⟩:=caps_rep e q2
    refine ⟨v::cvs,by simp [l1],RepL.cons h2 l2,fun i j u e1 e2=>?_⟩
    cases i with
    | zero=>simp at e1 e2;subst e1;subst e2;exact h1
    | succ i=>exact l3 i j u (by simpa using e1) (by simpa using e2)
noncomputable def dFnC (F:List D→M D) (t:Nat) (cix:List Nat) (f:Rho→M D):Rho→M D:=fun ρ=>mbind (f ρ) fun d=>mbind (mOf (capsD ρ cix)) fun cds=>if (noClo d&&noClos cds)=true then mbind (F [d,.clo t cds]) fun c=>if noClo c=true then mret c else mfail else mfail
section
variable {X:Cx} {G:Gh} {P c:Addr} {q:Str}
theorem slot_st {lpos:Pos} {ps:Array Value} {H Hm:Hp} {c':Addr} {s:Pn} (TG:TabG P q G) (st:G.st s H) (hP:H P=some (.tbl ps)) (sl:Slot P q lpos ps H Hm c'):G.st s Hm∧Hm c'=some (.ext (codeφ c' q))∧Ext G H Hm:=by
 rcases sl with ⟨rfl,h1,h2⟩ | ⟨h1,h2,h3,rfl⟩
 ·exact ⟨st,h2,.refl _ _⟩
 ·refine ⟨TG.put s H ps lpos c' st hP h2 h1,upd_same,fun b o n e=>?_⟩
  rw [upd_ne (ne_of_none e h2),upd_ne (fun z=>n (by rw [z];exact TG.fp))]
  exact e
theorem made_gr {Hf H Hm:Hp} {p:Addr} {o:HO} (e1:Ext G Hf H) (ex:Ext G H Hm) (hp:Hm p=none):Gr G Hf H Hf (upd Hm p o):=by
 have hh:Ext G H (upd Hm p o):=fun b u n e=>by
  have:=ex b u n e
  rw [upd_ne (ne_of_none this hp)];exact this
 exact ⟨hh,.refl _ _,e1.trans hh,fun _ _ h _=>h⟩
variable {k kl:Nat} {x:Str} {fr frb:Bool} {F:List D→M D} {T:Nat→List D→M D} {t:Nat} {e1:Expr} {f1:Rho→M D} {r1:Bool} {params:Arguments} {scope:Scope} {lpos ppos pos:Pos} {XN N ps:List Str} {NS:List (Str×NameKind)} {cix:List Nat}
theorem toCL {t:Nat} {p c':Addr} {fd:FuncData} {cvs:List V} {H:Hp} {d:List D} {v:List V} (n:noClos d=true) (r:RepL G H d v):RepL (cloG G t p c' fd q cvs) H d v:=RepL.re (G:=G) (G':=cloG G t p c' fd q cvs) rfl rfl n r
theorem grC {t:Nat} {p c':Addr} {fd:FuncData} {cvs:List V} {Hf H Hf' H':Hp} (g:Gr (cloG G t p c' fd q cvs) Hf H Hf' H'):Gr G Hf H Hf' H':=Gr.re (G:=cloG G t p c' fd q cvs) (G':=G) rfl g
end
theorem boot_len:bootBuiltins "len" = some (.builtin "len"):=by decide +kernel
theorem boot_isinstance:bootBuiltins "isinstance" = some (.builtin "isinstance"):=by decide +kernel
theorem boot_all:bootBuiltins "all" = some (.builtin "all"):=by decide +kernel
theorem boot_repr:bootBuiltins "repr" = some (.builtin "repr"):=by decide +kernel
theorem boot_max:bootBuiltins "max" = some (.builtin "max"):=by decide +kernel
theorem boot_min:bootBuiltins "min" = some (.builtin "min"):=by decide +kernel
theorem boot_set:bootBuiltins "set" = some (.type "set"):=by decide +kernel
theorem boot_sorted:bootBuiltins "sorted" = some (.builtin "sorted"):=by decide +kernel
theorem boot_tuple:bootBuiltins "tuple" = some (.type "tuple"):=by decide +kernel
theorem boot_list:bootBuiltins "list" = some (.type "list"):=by decide +kernel
theorem boot_int:bootBuiltins "int" = some (.type "int"):=by decide +kernel
theorem boot_bool:bootBuiltins "bool" = some (.type "bool"):=by decide +kernel
theorem boot_str:bootBuiltins "str" = some (.type "str"):=by decide +kernel
theorem boot_dict:bootBuiltins "dict" = some (.type "dict"):=by decide +kernel
noncomputable abbrev AnyG:Gh→Prop:=fun _=>True
noncomputable def dosOf (G:Gh) (ob own own':List Nat) (fr:Bool) (g:Rho→M Out):TS:=fun E σ H=>∃kn Hf0 H0 ρ s out s',J G own kn Hf0 H0 σ H ρ∧G.st s H∧g ρ s=some (out,s')∧Post G ob own' kn Hf0 H0 fr out s' E
end TF
namespace TF
open PySem L2
noncomputable def Ok {α:Type} (m:M α) (s:Pn) (Q:α→Pn→Prop):Prop:=∃a s',m s=some (a,s')∧Q a s'
theorem Ok.bind {α β:Type} {m:M α} {k:α→M β} {s:Pn} {Q:β→Pn→Prop} (h:Ok m s fun a s1=>Ok (k a) s1 Q):Ok (mbind m k) s Q:=by
 obtain ⟨a,s1,e,b,s2,e2,q⟩:=h
 exact ⟨b,s2,by unfold mbind;rw [e];exact e2,q⟩
theorem Ok.ret {α:Type} {a:α} {s:Pn} {Q:α→Pn→Prop} (h:Q a s):Ok (mret a) s Q:=⟨a,s,rfl,h⟩
theorem Ok.eq {α:Type} {m:M α} {s s':Pn} {a:α} {Q:α→Pn→Prop} (e:m s=some (a,s')) (h:Q a s'):Ok m s Q:=⟨a,s',e,h⟩
theorem Ok.mono {α:Type} {m:M α} {s:Pn} {Q Q':α→Pn→Prop} (h:Ok m s Q) (k:∀a s',Q a s'→Q' a s'):Ok m s Q':=let ⟨a,s',e,q⟩:=h;⟨a,s',e,k a s' q⟩
theorem Ok.of {α:Type} {o:Option α} {a:α} {s:Pn} {Q:α→Pn→Prop} (e:o=some a) (h:Q a s):Ok (mOf o) s Q:=⟨a,s,by unfold mOf;rw [e],h⟩
theorem Ok.ite {α:Type} {c:Prop} [Decidable c] {m:M α} {s:Pn} {Q:α→Pn→Prop} (hc:c) (h:Ok m s Q):Ok (if c then m else mfail) s Q:=by rw [if_pos hc];exact h
section
variable {ρ:Rho} {s:Pn} {Q:Out→Pn→Prop} {f:Rho→M D} {g1 g2:Rho→M Out}
theorem Ok.seq (h:Ok (g1 ρ) s fun o s1=>match o with | .nx ρ'=>Ok (g2 ρ') s1 Q | .rt d=>Q (.rt d) s1 | .bk ρ'=>Q (.bk ρ') s1 | .ct ρ'=>Q (.ct ρ') s1):Ok (sSeq g1 g2 ρ) s Q:=by
 refine Ok.bind (h.mono fun o s1 q=>?_)
 cases o with
 | nx ρ'=>exact q
 | rt d=>exact .ret q
 | bk ρ'=>exact .ret q
 | ct ρ'=>exact .ret q
theorem Ok.next (h:Q (.nx ρ) s):Ok (sNext ρ) s Q:=.ret h
theorem Ok.sset {i:Nat} (h:Ok (f ρ) s fun d s1=>Q (.nx (ρ.set i (some d))) s1):Ok (sSet i f ρ) s Q:=.bind (h.mono fun _ _ q=>.ret q)
theorem Ok.sown {i:Nat} (h:Ok (f ρ) s fun d s1=>isMutB d=true∧Q (.nx (ρ.set i (some d))) s1):Ok (sOwn i f ρ) s Q:=.bind (h.mono fun _ _ q=>.ite q.1 (.ret q.2))
theorem Ok.sret (h:Ok (f ρ) s fun d s1=>Q (.rt d) s1):Ok (sRet f ρ) s Q:=.bind (h.mono fun _ _ q=>.ret q)
theorem Ok.sif {c:Rho→M Bool} (h:Ok (c ρ) s fun b s1=>if b=true then Ok (g1 ρ) s1 Q else Ok (g2 ρ) s1 Q):Ok (sIf c g1 g2 ρ) s Q:=by
 refine .bind (h.mono fun b s1 q=>?_)
 cases b with
 | true=>simpa using q
 | false=>simpa using q
theorem Ok.sapp {i:Nat} {ds:List D} (hi:(ρ[i]?).bind id=some (.lst ds)) (hl:ds.length<sizeLine) (h:Ok (f ρ) s fun d s1=>Q (.nx (ρ.set i (some (.lst (ds ++ [d]))))) s1):Ok (sApp i f ρ) s Q:=by
 refine .bind (h.mono fun d s1 q=>?_)
 simp only [hi]
 exact .ite hl (.ret q)
theorem Ok.loop {τ:D→Rho→Option Rho} {body:Rho→M Out} (I:Nat→Rho→Pn→Prop):∀(ds:List D) (k:Nat) (ρ:Rho) (s:Pn),I k ρ s→
  (∀i d ρ s,ds[i]?=some d→I (k+i) ρ s→∃ρ1,τ d ρ=some ρ1∧Ok (body ρ1) s fun o s'=>∃ρ',o=.nx ρ'∧I (k+i+1) ρ' s')→Ok (mFor τ body ds ρ) s fun o s'=>∃ρ',o=.nx ρ'∧I (k+ds.length) ρ' s'
 | [],k,ρ,s,h0,_=>.ret ⟨ρ,rfl,h0⟩
 | d::ds,k,ρ,s,h0,h=>by
  obtain ⟨ρ1,e1,ok⟩:=h 0 d ρ s rfl h0
  refine Ok.bind (.of e1 (.bind (ok.mono fun o s' q=>?_)))
  obtain ⟨ρ',rfl,q⟩:=q
  refine (Ok.loop I ds (k+1) ρ' s' q fun i d' ρ2 s2 e2 q2=>?_).mono fun o s2 q2=>?_
  ·have:=h (i+1) d' ρ2 s2 (by simpa using e2) (by rw [show k+(i+1)=k+1+i by omega];exact q2)
   rw [show k+(i+1)+1=k+1+i+1 by omega] at this
   exact this
  ·rw [show k+(d::ds).length=k+1+ds.length by simp;omega]
   exact q2
theorem Ok.sfor {fi:Rho→M (List D)} {τ:D→Rho→Option Rho} {body:Rho→M Out} (I:Nat→Rho→Pn→Prop) (h:Ok (fi ρ) s fun ds s1=>I 0 ρ s1∧(∀i d ρ s,ds[i]?=some d→I i ρ s→∃ρ1,τ d ρ=some ρ1∧Ok (body ρ1) s fun o s'=>∃ρ',o=.nx ρ'∧I (i+1) ρ' s')∧
  ∀ρ' s',I ds.length ρ' s'→Q (.nx ρ') s'):Ok (sFor fi τ body ρ) s Q:=by
 refine .bind (h.mono fun ds s1 q=>?_)
 obtain ⟨q0,q1,q2⟩:=q
 refine (Ok.loop I ds 0 ρ s1 q0 fun i d ρ s e=>?_).mono fun o s' q=>?_
 ·rw [Nat.zero_add];exact q1 i d ρ s e
 ·obtain ⟨ρ',rfl,q⟩:=q
  rw [Nat.zero_add] at q
  exact q2 ρ' s' q
end
section
variable {ρ ρ':Rho} {s s1 s2:Pn} {f f2:Rho→M D} {g1 g2:Rho→M Out} {d e c:D} {r:Option (Out×Pn)}
theorem runB_eq {n k:Nat} {g:Rho→M Out} {ds:List D} (hl:ds.length=k) (h:g (ds.map some++List.replicate (n-k) none) s=some (.rt d,s1)):runB n k g ds s=some (d,s1):=by
 unfold runB
 rw [if_pos hl]
 unfold mbind
 rw [h]
 rfl
theorem sRet_eq (h:f ρ s=some (d,s1)):sRet f ρ s=some (.rt d,s1):=by unfold sRet mbind;rw [h];rfl
theorem sSeq_rt (h:g1 ρ s=some (.rt d,s1)):sSeq g1 g2 ρ s=some (.rt d,s1):=by unfold sSeq mbind;rw [h];rfl
theorem sSeq_nx (h:g1 ρ s=some (.nx ρ',s1)) (h2:g2 ρ' s1=r):sSeq g1 g2 ρ s=r:=by unfold sSeq mbind;rw [h];exact h2
theorem sSet_eq {i:Nat} (h:f ρ s=some (d,s1)):sSet i f ρ s=some (.nx (ρ.set i (some d)),s1):=by unfold sSet mbind;rw [h];rfl
theorem op_eq' {g:D→D→Option D} (h1:f ρ s=some (d,s1)) (h2:f2 ρ s1=some (e,s2)) (h:g d e=some c):dOp g f f2 ρ s=some (c,s2):=by
 unfold dOp mbind;rw [h1];simp only;rw [h2];simp only;unfold mOf;rw [h]
theorem call_eq {g:List D→Option D} {fs:Rho→M (List D)} {ds:List D} (h1:fs ρ s=some (ds,s1)) (h:g ds=some c):dCall g fs ρ s=some (c,s1):=by
 unfold dCall mbind;rw [h1];simp only;unfold mOf;rw [h]
theorem fn_eq {F:List D→M D} {fs:Rho→M (List D)} {ds:List D} {q:Option (D×Pn)} (h1:fs ρ s=some (ds,s1)) (h:F ds s1=q):dFn F fs ρ s=q:=by
 unfold dFn mbind;rw [h1];exact h
theorem cons_eq {fs:Rho→M (List D)} {ds:List D} (h1:f ρ s=some (d,s1)) (h2:fs ρ s1=some (ds,s2)):dCons f fs ρ s=some (d::ds,s2):=by
 unfold dCons mbind;rw [h1];simp only;rw [h2];rfl
theorem tup_eq {fs:Rho→M (List D)} {ds:List D} (h1:fs ρ s=some (ds,s1)) (hl:ds.length≤sizeLine):dTup fs ρ s=some (.tup ds,s1):=by
 unfold dTup mbind;rw [h1];simp only;rw [if_pos hl];rfl
theorem lst_eq {fs:Rho→M (List D)} {ds:List D} (h1:fs ρ s=some (ds,s1)) (hl:ds.length≤sizeLine):dLst fs ρ s=some (.lst ds,s1):=by
 unfold dLst mbind;rw [h1];simp only;rw [if_pos hl];rfl
theorem asB_eq {b:Bool} (h:f ρ s=some (.bl b,s1)):asB f ρ s=some (b,s1):=by unfold asB mbind;rw [h];rfl
theorem not_eq' {fb:Rho→M Bool} {b:Bool} (h:fb ρ s=some (b,s1)):bNot fb ρ s=some (!b,s1):=by unfold bNot mbind;rw [h];rfl
end
theorem comp_pure {τ:D→Rho→Option Rho} {ft:Rho→M Bool} {fe:Rho→M D} {ρ:Rho} {s:Pn} (r:D→Rho) (b:D→Bool) (c:D→D):∀(ds:List D),(∀d∈ds,τ d ρ=some (r d)∧ft (r d) s=some (b d,s)∧(b d=true→fe (r d) s=some (c d,s)))→
  mComp τ ft fe ρ ds s=some ((ds.filter b).map c,s)
 | [],_=>rfl
 | d::ds,h=>by
  obtain ⟨h1,h2,h3⟩:=h d (by simp)
  have ih:=comp_pure r b c ds fun d' m=>h d' (by simp [m])
  unfold mComp
  simp only [mbind,mOf,h1,h2]
  cases hb:b d with
  | true=>simp [mbind,h3 hb,ih,hb,mret]
  | false=>simp [ih,hb]
end TF
namespace TP
open PySem L2 TF
noncomputable def g_pairs_of:Rho→M Out:=(sSeq (sOwn 1 (dLst dNil))
 (sSeq (sFor (iRange1 (dCall dLen (dCons (dVar 0) dNil))) (gOne 2)
 (sSeq (sFor (iRange2 (dOp dAdd (dVar 2) (dC (.int 1))) (dCall dLen (dCons (dVar 0) dNil))) (gOne 3)
 (sSeq (sApp 1 (fun ρ=>(dTup (dCons (dOp dIx (dVar 0) (dVar 2)) (dCons (dOp dIx (dVar 0) (dVar 3)) dNil))) (hide [1] ρ)))
 sNext))
 sNext))
 (sSeq (sRet (dVar 1))
 sNext)))
noncomputable def F_pairs_of:List D→M D:=runB 4 1 g_pairs_of
noncomputable def g_are_tied:Rho→M Out:=(sSeq (sRet (dOp dIn (dTup (dCons (dCall dMin2 (dCons (dVar 1) (dCons (dVar 2) dNil))) (dCons (dCall dMax2 (dCons (dVar 1) (dCons (dVar 2) dNil))) dNil))) (dVar 0)))
 sNext)
noncomputable def F_are_tied:List D→M D:=runB 3 3 g_are_tied
noncomputable def g_near:Rho→M Out:=(sSeq (sRet (dComp [none,some 0,some 1] (iRange1 (dOp dIx (dVar 0) (dC (.int 0)))) (gOne 0) (asB (dFn F_are_tied (dCons (dOp dIx (dVar 1) (dC (.int 1))) (dCons (dVar 2) (dCons (dVar 0) dNil))))) (dVar 0)))
 sNext)
noncomputable def F_near:List D→M D:=runB 2 2 g_near
noncomputable def g_marked_ties:Rho→M Out:=(sSeq (sRet (dCall dDictT (dCons (dComp [none] (iSeqT (dOp dIx (dVar 0) (dC (.int 1)))) (gOne 0) bTrue (dTup (dCons (dVar 0) (dCons (dC (.bl true)) dNil)))) dNil)))
 sNext)
noncomputable def F_marked_ties:List D→M D:=runB 1 1 g_marked_ties
end TP
namespace TP
open PySem L2 TF
local macro_rules | `(tactic| walk_at "ev")=>`(tactic| simp [runB,sSeq,sRet,sSet,sNext,sIf,asB,dOp,dCall,dCons,dNil,dTup,dLst,dVar,dC,dFn,mbind,mret,mOf,dAdd,dSub,dI,hide,blkRho,vOr,vAnd,vNot,bAnd,bOr,bNot])
noncomputable def pairD (p:Nat×Nat):D:=.tup [.int p.1,.int p.2]
noncomputable def webD (n:Nat) (ties:List (Nat×Nat)):D:=.tup [.int n,.tup (ties.map pairD)]
noncomputable def tied (ties:List (Nat×Nat)) (a b:Nat):Bool:=decide ((min a b,max a b)∈ties)
theorem atI_0 {α:Type} (x:α) (xs:List α):atI (x::xs) 0=some x:=atI_nat (j:=0) rfl
theorem atI_1 {α:Type} (x y:α) (xs:List α):atI (x::y::xs) 1=some y:=atI_nat (j:=1) rfl
theorem two_le:2≤sizeLine:=by decide
theorem minmax_tup (a b:Nat):D.tup [.int (if b<a then (b:Int) else a),.int (if a<b then (b:Int) else a)]=pairD (min a b,max a b):=by
 unfold pairD
 congr 2
 ·congr 1;split <;> omega
 ·congr 2;split <;> omega
theorem ev_comp {src:List (Option Nat)} {fi:Rho→M (List D)} {τ:D→Rho→Option Rho} {ft:Rho→M Bool} {fe:Rho→M D} {ρ:Rho} {s:Pn} {ds:List D} (r:D→Rho) (b:D→Bool) (c:D→D) (hi:fi ρ s=some (ds,s)) (hl:ds.length≤sizeLine)
  (h:∀d∈ds,τ d (blkRho src ρ)=some (r d)∧ft (r d) s=some (b d,s)∧(b d=true→fe (r d) s=some (c d,s))):dComp src fi τ ft fe ρ s=some (.lst ((ds.filter b).map c),s):=by
 unfold dComp
 simp only [mbind,hi,hl,if_true,comp_pure r b c ds h,mret]
theorem small_int (n:Nat) (h:n≤100000):-(2 ^ 62)≤(n:Int)∧(n:Int)<2 ^ 62:=by omega
theorem sizeLine_v:sizeLine=16777216:=by decide
theorem ev_range1 {f:Rho→M D} {ρ:Rho} {s:Pn} {n:Nat} (h:f ρ s=some (.int n,s)) (hn:n≤100000):iRange1 f ρ s=some (dRange 0 n,s):=by
 unfold iRange1
 simp only [mbind,h]
 show (if -(2 ^ 62)≤(n:Int)∧(n:Int)<2 ^ 62 then mret (dRange 0 (n:Int).toNat) else mfail) s=_
 rw [if_pos (small_int n hn)]
 rfl
theorem ev_range2 {f g:Rho→M D} {ρ:Rho} {s:Pn} {a n:Nat} (h:f ρ s=some (.int a,s)) (h2:g ρ s=some (.int n,s)) (ha:a≤100000) (hn:n≤100000):iRange2 f g ρ s=some (dRange a (n-a),s):=by
 unfold iRange2
 simp only [mbind,h,h2]
 show (if -(2 ^ 62)≤(a:Int)∧(a:Int)<2 ^ 62∧-(2 ^ 62)≤(n:Int)∧(n:Int)<2 ^ 62 then mret (dRange a ((n:Int)-a).toNat) else mfail) s=_
 rw [if_pos (by omega),show ((n:Int)-(a:Int)).toNat=n-a by omega]
 rfl
theorem dRange_len (lo:Int) (n:Nat):(dRange lo n).length=n:=by simp [dRange]
theorem dRange_get {lo n i:Nat} {d:D} (h:(dRange lo n)[i]?=some d):i<n∧d=.int ((lo+i:Nat):Int):=by
 have hi:i<n:=by
  have:=(List.getElem?_eq_some_iff.mp h).1
  simpa [dRange] using this
 refine ⟨hi,?_⟩
 unfold dRange at h
 rw [List.getElem?_map,List.getElem?_range hi] at h
 simp at h
 rw [←h];simp
theorem dRange_mem {n:Nat} {d:D} (h:d∈dRange 0 n):∃i:Nat,i<n∧d=.int (i:Int):=by
 unfold dRange at h
 obtain ⟨i,hi,e⟩:=List.mem_map.mp h
 exact ⟨i,by simpa using hi,by rw [←e];simp⟩
theorem dRange0 (n:Nat):dRange 0 n=(List.range n).map fun (i:Nat)=>D.int (i:Int):=by
 unfold dRange
 simp
noncomputable def nat0:D→Nat
 | .int i=>i.toNat
 | _=>0
theorem filter_ints (n:Nat) (p:Nat→Bool):((dRange 0 n).filter fun d=>p (nat0 d)).map (fun d=>d)=((List.range n).filter p).map fun (i:Nat)=>D.int (i:Int):=by
 rw [dRange0,List.filter_map]
 simp only [List.map_id']
 congr 1
end TP
namespace TP
open PySem L2 TF
theorem Ok.toEq {α:Type} {m:M α} {s s':Pn} {a:α} (h:Ok m s fun b t=>b=a∧t=s'):m s=some (a,s'):=by
 obtain ⟨b,t,e,rfl,rfl⟩:=h
 exact e
theorem rng_len {n:Nat} (hn:n≤100000):(dRange 0 n).length≤sizeLine:=by rw [dRange_len,sizeLine_v];omega
noncomputable def SeqD (row:D) (ds:List D):Prop:=row=.lst ds∨row=.tup ds
theorem SeqD.len {row:D} {ds:List D} (h:SeqD row ds):dLen [row]=some (.int ds.length):=by
 rcases h with rfl | rfl <;> rfl
theorem SeqD.ix {row:D} {ds:List D} (h:SeqD row ds) {i:Nat} (hi:i<ds.length):dIx row (.int (i:Int))=some (ds.getD i .non):=by
 have e:ds[i]?=some (ds.getD i .non):=by simp [List.getD,hi]
 rcases h with rfl | rfl <;> exact atI_nat e
noncomputable def preP (n i:Nat):List (Nat×Nat):=(List.range i).flatMap fun a=>(List.range (n-(a+1))).map fun k=>(a,a+1+k)
noncomputable def allP (n:Nat):List (Nat×Nat):=preP n n
theorem preP_succ (n i:Nat):preP n (i+1)=preP n i++(List.range (n-(i+1))).map fun k=>(i,i+1+k):=by
 unfold preP
 rw [List.range_succ,List.flatMap_append]
 simp
theorem preP_len (n:Nat):∀i,(preP n i).length≤i*n
 | 0=>by simp [preP]
 | i+1=>by
  have:=preP_len n i
  rw [preP_succ,List.length_append,List.length_map,List.length_range]
  have e:(i+1)*n=i*n+n:=Nat.succ_mul i n
  omega
noncomputable def prD (ds:List D) (p:Nat×Nat):D:=.tup [ds.getD p.1 .non,ds.getD p.2 .non]
theorem app_len (n i j:Nat) (hn:n≤1000) (hi:i<n) (hj:j≤n):(preP n i).length+j<sizeLine:=by
 have h1:=preP_len n i
 have h2:i*n≤1000*1000:=Nat.mul_le_mul (by omega) hn
 rw [sizeLine_v];omega
theorem pairs_of_eq (row:D) (ds:List D) (h:SeqD row ds) (hn:ds.length≤1000) (s:Pn):F_pairs_of [row] s=some (.lst ((allP ds.length).map (prD ds)),s):=by
 refine runB_eq rfl (Ok.toEq ?_)
 refine Ok.seq (.sown (.eq (a:=.lst []) rfl ⟨rfl,?_⟩))
 show Ok _ s _
 refine Ok.seq (.sfor (fun i ρ s'=>s=s'∧∃o2 o3,ρ=[some row,some (.lst ((preP ds.length i).map (prD ds))),o2,o3]) (.eq (ev_range1 (call_eq (cons_eq rfl rfl) h.len) (by omega)) ⟨⟨rfl,none,none,rfl⟩,fun i d ρ s' hd hI=>?_,fun ρ' s' hI=>?_⟩))
 ·obtain ⟨rfl,o2,o3,rfl⟩:=hI
  obtain ⟨hi,rfl⟩:=dRange_get hd
  refine ⟨_,rfl,?_⟩
  refine Ok.seq (.sfor (fun j ρ s'=>s=s'∧∃o3,ρ=[some row,some (.lst ((preP ds.length i).map (prD ds)++(List.range j).map fun k=>prD ds (i,i+1+k))),some (.int ((0+i:Nat):Int)),o3]) (.eq (ev_range2 (a:=i+1) (op_eq' (d:=.int ((0+i:Nat):Int)) (e:=.int 1) (c:=.int ((i+1:Nat):Int)) rfl rfl (by simp [dAdd])) (call_eq (cons_eq rfl rfl) h.len) (by omega) (by omega)) ⟨⟨rfl,o3,by simp⟩,fun j d ρ s' hd hJ=>?_,fun ρ' s' hJ=>?_⟩))
  ·obtain ⟨rfl,o3,rfl⟩:=hJ
   obtain ⟨hj,rfl⟩:=dRange_get hd
   refine ⟨_,rfl,?_⟩
   refine Ok.seq (.sapp (ds:=(preP ds.length i).map (prD ds)++(List.range j).map fun k=>prD ds (i,i+1+k)) rfl (by simp only [List.length_append,List.length_map,List.length_range];exact app_len _ _ _ hn hi (by omega)) (.eq (tup_eq (cons_eq (op_eq' (d:=row) (e:=.int ((0+i:Nat):Int)) rfl rfl (by rw [Nat.zero_add];exact h.ix hi)) (cons_eq (op_eq' (d:=row) (e:=.int ((i+1+j:Nat):Int)) rfl rfl (h.ix (by omega))) rfl)) two_le) ?_))
   refine Ok.next ⟨_,rfl,rfl,some (.int ((i+1+j:Nat):Int)),?_⟩
   rw [List.range_succ,List.map_append,←List.append_assoc]
   rfl
  ·obtain ⟨rfl,o3',rfl⟩:=hJ
   refine Ok.next ⟨_,rfl,rfl,some (.int ((0+i:Nat):Int)),o3',?_⟩
   rw [preP_succ,List.map_append,List.map_map,dRange_len]
   rfl
 ·obtain ⟨rfl,o2,o3,rfl⟩:=hI
  refine Ok.seq (.sret (.eq rfl ⟨?_,rfl⟩))
  rw [dRange_len];rfl
end TP
namespace TP
open PySem L2 TF
noncomputable def keyP (p:Nat×Nat):List Key:=[.inl (p.1:Int),.inl (p.2:Int)]
theorem keyP_inj {p q:Nat×Nat} (h:keyP p=keyP q):p=q:=by
 simp only [keyP,List.cons.injEq,Sum.inl.injEq,and_true] at h
 obtain ⟨a,b⟩:=p
 obtain ⟨c,d⟩:=q
 simp only at h
 have h1:a=c:=by omega
 have h2:b=d:=by omega
 rw [h1,h2]
noncomputable def kvT (acc:List (List Key×V)) (ties:List (Nat×Nat)):List (List Key×V):=ties.foldl (fun acc p=>putK acc (keyP p) (.bl true)) acc
theorem pairT_p (p:Nat×Nat):pairT (.tup [pairD p,.bl true])=some (keyP p,.bl true):=rfl
theorem puts_ties:∀(ties:List (Nat×Nat)) (acc:List (List Key×V)),putsT acc (ties.map fun p=>D.tup [pairD p,.bl true])=some (kvT acc ties)
 | [],acc=>rfl
 | t::ts,acc=>by
  rw [List.map_cons]
  unfold putsT
  rw [pairT_p]
  exact puts_ties ts _
theorem kvT_look (p:Nat×Nat):∀(ties:List (Nat×Nat)) (acc:List (List Key×V)),(valV (kvT acc ties) (keyP p)).isSome=(decide (p∈ties)||(valV acc (keyP p)).isSome)
 | [],acc=>by simp [kvT]
 | t::ts,acc=>by
  have ih:=kvT_look p ts (putK acc (keyP t) (.bl true))
  have e:kvT acc (t::ts)=kvT (putK acc (keyP t) (.bl true)) ts:=rfl
  rw [e,ih,valV_put]
  by_cases h:p=t
  ·subst h;simp
  ·have hk:¬keyP p=keyP t:=fun z=>h (keyP_inj z)
   rw [if_neg hk]
   simp [h]
theorem marked_eq (n:Nat) (ties:List (Nat×Nat)) (s:Pn) (hl:ties.length≤100000):F_marked_ties [webD n ties] s=some (.dt (kvT [] ties),s):=by
 have hc:dComp [none] (iSeqT (dOp dIx (dVar 0) (dC (.int 1)))) (gOne 0) bTrue (dTup (dCons (dVar 0) (dCons (dC (.bl true)) dNil))) [some (webD n ties)] s=some (.lst ((ties.map pairD).map fun d=>D.tup [d,.bl true]),s):=by
  have q:=ev_comp (src:=[none]) (fi:=iSeqT (dOp dIx (dVar 0) (dC (.int 1)))) (τ:=gOne 0) (ft:=bTrue) (fe:=dTup (dCons (dVar 0) (dCons (dC (.bl true)) dNil))) (ρ:=[some (webD n ties)]) (s:=s) (ds:=ties.map pairD) (fun d=>[some d]) (fun _=>true) (fun d=>D.tup [d,.bl true])
   (by unfold iSeqT mbind;rw [op_eq' (d:=webD n ties) (e:=.int 1) (c:=.tup (ties.map pairD)) rfl rfl (by unfold webD;exact atI_1 _ _ _)];rfl) (by rw [List.length_map,sizeLine_v];omega)
   (fun d hd=>⟨rfl,rfl,fun _=>tup_eq (cons_eq rfl (cons_eq rfl rfl)) two_le⟩)
  have q2:(ties.map pairD).filter (fun _=>true)=ties.map pairD:=List.filter_eq_self.mpr (by simp)
  rw [q,q2]
 refine runB_eq rfl (sSeq_rt (sRet_eq (call_eq (cons_eq hc rfl) ?_)))
 rw [List.map_map]
 show (if ((ties.map ((fun d=>D.tup [d,.bl true])∘pairD)).length≤sizeLine) then (putsT [] _).map D.dt else none)=_
 rw [if_pos (by rw [List.length_map,sizeLine_v];omega)]
 have e:=puts_ties ties []
 show (putsT [] (ties.map fun p=>D.tup [pairD p,.bl true])).map D.dt=_
 rw [e];rfl
theorem mem_preP {n i:Nat} {p:Nat×Nat} (h:p∈preP n i):p.1<i∧p.1<p.2∧p.2<n:=by
 unfold preP at h
 obtain ⟨a,ha,h⟩:=List.mem_flatMap.mp h
 obtain ⟨k,hk,rfl⟩:=List.mem_map.mp h
 simp at ha hk
 exact ⟨ha,by simp;omega,by simp;omega⟩
theorem prD_range {n:Nat} {p:Nat×Nat} (h:p∈allP n):prD (dRange 0 n) p=pairD p:=by
 obtain ⟨h1,h2,h3⟩:=mem_preP h
 have g:∀i,i<n→(dRange 0 n).getD i .non=.int (i:Int):=fun i hi=>by
  rw [dRange0]
  simp [List.getD,hi]
 unfold prD pairD
 rw [g _ h1,g _ h3]
theorem pairs_range {n:Nat} (s:Pn) (hn:n≤1000):F_pairs_of [.lst (dRange 0 n)] s=some (.lst ((allP n).map pairD),s):=by
 rw [pairs_of_eq _ _ (.inl rfl) (by rw [dRange_len];exact hn) s,dRange_len]
 congr 3
 exact List.map_congr_left fun p hp=>prD_range hp
theorem listRange_eq {f:Rho→M D} {ρ:Rho} {s:Pn} {n:Nat} (h:f ρ s=some (.int n,s)) (hn:n≤1000):dListRange f ρ s=some (.lst (dRange 0 n),s):=by
 unfold dListRange mbind
 rw [h]
 show (if -(2 ^ 62)≤(n:Int)∧(n:Int)≤2 ^ 24 then mret (D.lst (dRange 0 (n:Int).toNat)) else mfail) s=_
 rw [if_pos (by omega)]
 rfl
theorem allP_len (n:Nat) (hn:n≤1000):(allP n).length≤1000000:=by
 have h1:=preP_len n n
 have h2:n*n≤1000*1000:=Nat.mul_le_mul hn hn
 unfold allP
 omega
theorem filter_pairs (l:List (Nat×Nat)) (b:D→Bool) (q:Nat×Nat→Bool) (h:∀p,b (pairD p)=q p):((l.map pairD).filter b).map (fun d=>d)=(l.filter q).map pairD:=by
 rw [List.filter_map,List.map_id']
 congr 1
 exact List.filter_congr fun p _=>h p
noncomputable def nat2:D→Nat×Nat
 | .tup [a,b]=>(nat0 a,nat0 b)
 | _=>(0,0)
theorem nat2_pair (p:Nat×Nat):nat2 (pairD p)=p:=rfl
end TP
namespace TF
open PySem L2
theorem Ok.runB {n k:Nat} {g:Rho→M Out} {ds:List D} {s:Pn} {Q:D→Pn→Prop} (hl:ds.length=k) (h:Ok (g (ds.map some++List.replicate (n-k) none)) s fun o s'=>match o with | .rt d=>Q d s' | .nx _=>Q .non s' | _=>False):Ok (runB n k g ds) s Q:=by
 unfold TF.runB
 rw [if_pos hl]
 refine .bind (h.mono fun o s' q=>?_)
 cases o with
 | rt d=>exact .ret q
 | nx ρ=>exact .ret q
 | bk ρ=>exact q.elim
 | ct ρ=>exact q.elim
theorem Ok.fn {F:List D→M D} {fs:Rho→M (List D)} {ρ:Rho} {s s1:Pn} {ds:List D} {Q:D→Pn→Prop} (h1:fs ρ s=some (ds,s1)) (h:Ok (F ds) s1 Q):Ok (dFn F fs ρ) s Q:=by
 obtain ⟨a,s',e,q⟩:=h
 exact ⟨a,s',fn_eq h1 e,q⟩
theorem Ok.op {g:D→D→Option D} {f f2:Rho→M D} {ρ:Rho} {s:Pn} {Q:D→Pn→Prop} (h:Ok (f ρ) s fun d s1=>Ok (f2 ρ) s1 fun e s2=>∃c,g d e=some c∧Q c s2):Ok (dOp g f f2 ρ) s Q:=
 .bind (h.mono fun d s1 q=>.bind (q.mono fun e s2 q=>let ⟨c,e1,q⟩:=q;.of e1 q))
theorem Ok.cons {f:Rho→M D} {fs:Rho→M (List D)} {ρ:Rho} {s:Pn} {Q:List D→Pn→Prop} (h:Ok (f ρ) s fun d s1=>Ok (fs ρ) s1 fun ds s2=>Q (d::ds) s2):Ok (dCons f fs ρ) s Q:=
 .bind (h.mono fun d s1 q=>.bind (q.mono fun e s2 q=>.ret q))
theorem Ok.nil {ρ:Rho} {s:Pn} {Q:List D→Pn→Prop} (h:Q [] s):Ok (dNil ρ) s Q:=.ret h
theorem Ok.asB {f:Rho→M D} {ρ:Rho} {s:Pn} {Q:Bool→Pn→Prop} (h:Ok (f ρ) s fun d s1=>∃b,d=.bl b∧Q b s1):Ok (asB f ρ) s Q:=
 .bind (h.mono fun d s1 q=>by obtain ⟨b,rfl,q⟩:=q;exact .ret q)
end TF
namespace TP
open PySem L2 TF
theorem preP_nodup (n:Nat):∀i,(preP n i).Nodup
 | 0=>by simp [preP]
 | i+1=>by
  rw [preP_succ,List.nodup_append]
  refine ⟨preP_nodup n i,?_,?_⟩
  ·refine List.pairwise_map.mpr (List.Pairwise.imp ?_ List.nodup_range)
   intro a b h e
   have:=congrArg Prod.snd e
   simp at this
   exact h this
  ·intro a ha b hb e
   have h1:=(mem_preP ha).1
   obtain ⟨k,_,rfl⟩:=List.mem_map.mp hb
   rw [e] at h1
   simp at h1
theorem allP_nodup (n:Nat):(allP n).Nodup:=preP_nodup n n
theorem mem_allP {n:Nat} {p:Nat×Nat}:p∈allP n↔p.1<p.2∧p.2<n:=by
 constructor
 ·intro h;exact (mem_preP h).2
 ·intro ⟨h1,h2⟩
  unfold allP preP
  refine List.mem_flatMap.mpr ⟨p.1,by simp;omega,List.mem_map.mpr ⟨p.2-(p.1+1),by simp;omega,?_⟩⟩
  obtain ⟨a,b⟩:=p
  simp only at h1 h2 ⊢
  rw [show a+1+(b-(a+1))=b by omega]
theorem dRange_get0 {n i:Nat} {d:D} (h:(dRange 0 n)[i]?=some d):i<n∧d=.int (i:Int):=by
 have:=dRange_get (lo:=0) h
 rw [Nat.zero_add] at this
 exact this
noncomputable def IsWeb (n:Nat) (ties:List (Nat×Nat)):Prop:=ties.Sublist (allP n)
theorem IsWeb.len {n:Nat} {ties:List (Nat×Nat)} (h:IsWeb n ties) (hn:n≤24):ties.length≤576:=by
 have h1:=h.length_le
 have h2:=preP_len n n
 have h3:n*n≤24*24:=Nat.mul_le_mul hn hn
 unfold allP at h1
 omega
theorem IsWeb.filter {n:Nat} (f:Nat×Nat→Bool):IsWeb n ((allP n).filter f):=List.filter_sublist
theorem tied_lt {ties:List (Nat×Nat)} {a b:Nat} (h:a<b):tied ties a b=decide ((a,b)∈ties):=by
 unfold tied
 rw [show min a b=a by omega,show max a b=b by omega]
theorem tied_comm (ties:List (Nat×Nat)) (a b:Nat):tied ties a b=tied ties b a:=by
 unfold tied
 rw [show min a b=min b a by omega,show max a b=max b a by omega]
theorem web0 {n:Nat} {ties:List (Nat×Nat)}:dIx (webD n ties) (.int 0)=some (.int n):=by unfold webD;exact atI_0 _ _
theorem web1 {n:Nat} {ties:List (Nat×Nat)}:dIx (webD n ties) (.int 1)=some (.tup (ties.map pairD)):=by unfold webD;exact atI_1 _ _ _
end TP
namespace TP
open PySem L2 TF
end TP
namespace HT
open PySem PySem.Spec PyProof.Rows
section
variable {prog:Program} {w:World} {A:Around} {E:Value→Shared→Prop} {s:Shared}
end
end HT
namespace TF
open PySem PySem.Spec PyProof.Rows L2
section
variable {X:Cx} {G:Gh}
noncomputable def PCh (X:Cx) (ops:List CmpOp) (rs:List Expr) (t:V→TT):Prop:=
 ∀(pos:Pos) (pins:List (Addr×Obj)) (s:Shared) (σ:St) (H:Hp) (y:V) (v:Value) (Q:Bool→Hp→Prop),Inv X pins σ H s→RelV y v→t y σ H Q→wpAny (model X.prog X.w) X.A (testChain pos v ops (evalEach rs X.env)) (TP X pins σ Q) X.xe s
theorem pch_one {op:CmpOp} {r:R2} {c:Expr} {tc:TE} (ho:OpR X (compareOp op) r) (hc:PE X c tc):PCh X [op] [c] (fun y σ H Q=>tc σ H fun z H1=>r y z H1 fun w H2=>∃k,w=.bl k∧Q k H2):=by
 intro pos pins s σ H y v Q I r1 h
 refine test_last (thn (hc pins s σ H _ I h) fun u s2 ⟨z,H2,I2,r2,q2⟩=>thn (ho pins s2 σ H2 y z v u _ I2 r1 r2 q2) fun d s3 ⟨z',H3,I3,r3,k,e,q3⟩=>?_)
 subst e
 cases r3
 exact wpAny_truthy_bool ⟨H3,I3,q3⟩
theorem pch_cons {op op':CmpOp} {ops:List CmpOp} {r:R2} {b c:Expr} {rs:List Expr} {tb:TE} {t:V→TT} (ho:OpR X (compareOp op) r) (hb:PE X b tb) (hr:PCh X (op'::ops) (c::rs) t) :
  PCh X (op::op'::ops) (b::c::rs) (fun y σ H Q=>tb σ H fun z H1=>r y z H1 fun w H2=>∃k,w=.bl k∧(if k=true then t z σ H2 Q else Q false H2)):=by
 intro pos pins s σ H y v Q I r1 h
 refine test_link (thn (hb pins s σ H _ I h) fun u s2 ⟨z,H2,I2,r2,q2⟩=>thn (ho pins s2 σ H2 y z v u _ I2 r1 r2 q2) fun d s3 ⟨z',H3,I3,r3,k,e,q3⟩=>?_)
 subst e
 cases r3
 refine wpAny_truthy_bool ?_
 cases k with
 | false=>exact ite_ff ⟨H3,I3,q3⟩
 | true=>exact ite_tt (hr pos pins s3 σ H3 z u Q I3 r2 q3)
theorem pt_chainN {op op':CmpOp} {ops:List CmpOp} {a b c:Expr} {rs:List Expr} {pos:Pos} {ta:TE} {t:V→TT} (ha:PE X a ta) (hr:PCh X (op::op'::ops) (b::c::rs) t)
  (hm:lastMarks (op::op'::ops) (b::c::rs)=false:=by with_unfolding_all rfl):PT X (.Compare a (op::op'::ops) (b::c::rs) pos) (fun σ H Q=>ta σ H fun y H1=>t y σ H1 Q):=by
 intro pins s σ H Q I h
 exact isTrue_chain (thn (ha pins s σ H _ I h) fun v s1 ⟨y,H1,I1,r1,q1⟩=>hr pos pins s1 σ H1 y v Q I1 r1 q1) hm
noncomputable def PDCh (X:Cx) (G:Gh) (ops:List CmpOp) (rs:List Expr) (f:D→Rho→M Bool):Prop:=
 ∃t,PCh X ops rs t∧∀(y:V) (σ:St) (Hf H:Hp) (d:D) (ρ:Rho) (s:Pn) (b:Bool) (s':Pn) (Q:Bool→Hp→Prop),Ext G Hf H→Rep G Hf d y→EnvR G Hf σ ρ→G.st s H→f d ρ s=some (b,s')→
  (∀Hf' H',Gr G Hf H Hf' H'→G.st s' H'→Q b H')→t y σ H Q
noncomputable def mBl (o:Option D):M Bool:=match o with | some (.bl k)=>mret k | _=>mfail
theorem mBl_some {o:Option D} {s s':Pn} {b:Bool} (h:mBl o s=some (b,s')):o=some (.bl b)∧s'=s:=by
 unfold mBl at h
 split at h
 ·obtain ⟨rfl,rfl⟩:=mret_some h
  exact ⟨rfl,rfl⟩
 ·cases h
noncomputable def cLast (g:D→D→Option D) (fc:Rho→M D):D→Rho→M Bool:=fun d ρ=>mbind (fc ρ) fun e=>mBl (g d e)
noncomputable def cLink (g:D→D→Option D) (fb:Rho→M D) (f:D→Rho→M Bool):D→Rho→M Bool:=fun d ρ=>mbind (fb ρ) fun e=>mbind (mBl (g d e)) fun k=>if k=true then f e ρ else mret false
noncomputable def bChain (fa:Rho→M D) (f:D→Rho→M Bool):Rho→M Bool:=fun ρ=>mbind (fa ρ) fun d=>f d ρ
theorem pdch_one {op:CmpOp} {g:D→D→Option D} {c:Expr} {fc:Rho→M D} {r1:Bool} (ho:OpD X G (compareOp op) g) (hc:PD X G r1 c fc):PDCh X G [op] [c] (cLast g fc):=by
 obtain ⟨r,po,qo⟩:=ho
 obtain ⟨tc,pc,qc⟩:=hc.drop
 refine ⟨_,pch_one po pc,fun y σ Hf H d ρ s b s' Q e1 ry e2 e3 e4 k=>?_⟩
 obtain ⟨e,s1,a1,a2⟩:=mbind_some e4
 obtain ⟨a3,rfl⟩:=mBl_some a2
 refine qc σ Hf H ρ s e _ _ e1 e2 e3 a1 fun z Hf1 H1 g1 st1 r1=>?_
 exact qo Hf1 H1 _ y z d e _ _ g1.fh st1 (ry.ext g1.ff) r1 a3 fun v Hf2 H2 g2 st2 r2 _=>⟨b,Rep.bl_iff.mp r2,k Hf2 H2 (g1.trans g2) st2⟩
theorem pdch_cons {op op':CmpOp} {ops:List CmpOp} {g:D→D→Option D} {b c:Expr} {rs:List Expr} {fb:Rho→M D} {f:D→Rho→M Bool} {r1:Bool} (ho:OpD X G (compareOp op) g) (hb:PD X G r1 b fb) (hr:PDCh X G (op'::ops) (c::rs) f) :
  PDCh X G (op::op'::ops) (b::c::rs) (cLink g fb f):=by
 obtain ⟨r,po,qo⟩:=ho
 obtain ⟨tb,pb,qb⟩:=hb.drop
 obtain ⟨t,pt,qt⟩:=hr
 refine ⟨_,pch_cons po pb pt,fun y σ Hf H d ρ s b' s' Q e1 ry e2 e3 e4 k=>?_⟩
 obtain ⟨e,s1,a1,a2⟩:=mbind_some e4
 obtain ⟨k1,s2,a3',a4⟩:=mbind_some a2
 obtain ⟨a3,rfl⟩:=mBl_some a3'
 refine qb σ Hf H ρ s e _ _ e1 e2 e3 a1 fun z Hf1 H1 g1 st1 r1=>?_
 refine qo Hf1 H1 _ y z d e _ _ g1.fh st1 (ry.ext g1.ff) r1 a3 fun v Hf2 H2 g2 st2 r2 _=>⟨k1,Rep.bl_iff.mp r2,?_⟩
 cases k1 with
 | false=>
  obtain ⟨rfl,rfl⟩:=mret_some a4
  rw [if_neg (by decide)]
  exact k Hf2 H2 (g1.trans g2) st2
 | true=>
  rw [if_pos rfl] at a4 ⊢
  exact qt z σ Hf2 H2 e ρ _ _ _ Q (g1.trans g2).fh (r1.ext g2.ff) ((e2.ext g1.ff).ext g2.ff) st2 a4 fun Hf3 H3 g3 st3=>k Hf3 H3 ((g1.trans g2).trans g3) st3
theorem pdt_chain {op op':CmpOp} {ops:List CmpOp} {a b c:Expr} {rs:List Expr} {pos:Pos} {fa:Rho→M D} {f:D→Rho→M Bool} {r1:Bool} (ha:PD X G r1 a fa) (hr:PDCh X G (op::op'::ops) (b::c::rs) f)
  (hm:lastMarks (op::op'::ops) (b::c::rs)=false:=by with_unfolding_all rfl):PDT X G (.Compare a (op::op'::ops) (b::c::rs) pos) (bChain fa f):=by
 obtain ⟨ta,pa,qa⟩:=ha.drop
 obtain ⟨t,pt,qt⟩:=hr
 refine ⟨_,pt_chainN pa pt hm,fun σ Hf H ρ s b s' Q e1 e2 e3 e4 k=>?_⟩
 obtain ⟨d,s1,a1,a2⟩:=mbind_some e4
 refine qa σ Hf H ρ s d _ _ e1 e2 e3 a1 fun y Hf1 H1 g1 st1 r1=>?_
 exact qt y σ Hf1 H1 d ρ s1 b s' Q g1.fh r1 (e2.ext g1.ff) st1 a2 fun Hf2 H2 g2 st2=>k Hf2 H2 (g1.trans g2) st2
noncomputable def sUnp (τ:D→Rho→Option Rho) (f:Rho→M D):Rho→M Out:=fun ρ=>mbind (f ρ) fun d=>match τ d ρ with | some ρ'=>mret (.nx ρ') | none=>mfail
theorem pds_unp {ob own:List Nat} {fr r1:Bool} {tg e:Expr} {pos:Pos} {τ:D→Rho→Option Rho} {f:Rho→M D} (he:PD X G r1 e f) (hg:PDG X G tg (fun i=>i∉own) τ) (hs:swapsWithSole [tg] e pos.line X.env=pure false:=by rfl) (hw:swappedStores [tg] e X.env=pure none:=by rfl)
  (h1:(assignEach [tg] X.env).map (·.2)=[assign tg X.env]:=by rfl):PDS X G ob own own fr (.Assign [tg] e pos) (sUnp τ (fun ρ=>f (hide own ρ))):=by
 obtain ⟨t,p,q⟩:=he
 obtain ⟨g,pg,qg⟩:=hg
 have hy:Yld G r1 t f:=q
 refine ⟨_,ps_asg p pg hs hw h1,fun kn Hf0 H0 σ H ρ s out s' E ⟨Hf,j⟩ st e po=>?_⟩
 obtain ⟨d,s1,a1,a2⟩:=mbind_some e
 refine hy.a kn Hf0 H0 σ Hf H ρ s d s1 _ j st a1 fun v Hf' H' j' e1 e2 st' r fz=>?_
 cases eq:τ d ρ with
 | none=>rw [eq] at a2;cases a2
 | some ρ'=>
  rw [eq] at a2
  obtain ⟨rfl,rfl⟩:=mret_some a2
  exact qg v σ Hf' H' d ρ ρ' _ j'.gr.fh r eq fun σ' hs'=>po σ' H' ⟨Hf',hs'.jf j'⟩ st'
theorem pds_unp0 {ob:List Nat} {fr r1:Bool} {tg e:Expr} {pos:Pos} {τ:D→Rho→Option Rho} {f:Rho→M D} (he:PD X G r1 e f) (hg:PDG X G tg (fun i=>i∉([]:List Nat)) τ) (hs:swapsWithSole [tg] e pos.line X.env=pure false:=by rfl) (hw:swappedStores [tg] e X.env=pure none:=by rfl)
  (h1:(assignEach [tg] X.env).map (·.2)=[assign tg X.env]:=by rfl):PDS X G ob [] [] fr (.Assign [tg] e pos) (sUnp τ f):=by
 have h:=pds_unp (ob:=ob) (fr:=fr) he hg hs hw h1
 have e:(fun ρ=>f (hide [] ρ))=f:=by funext ρ;rw [hide_nil]
 rw [e] at h
 exact h
theorem Cal.none {P:Program} {w:World} {K:PySem.W.Frag} {mg:Str→Option Value} {base:Heap} {k:Nat} {x:Str} {n:Nat} {fr:Bool} {GG:Gh→Prop} {f:Addr} {fd:FuncData} {ps:List Str} (hm:mg x=some (.ref f)) (hk:PySem.W.keepIn K (.ref f)=true) (hb:Binds K fd ps []) :
  Cal P w K mg base k x n fr GG (fun _=>mfail):=by
 refine ⟨f,fd,ps,⟨fun vs H Q E h=>?_,fun A outer s H args us vs Q E _ _ _ _ h=>?_⟩,hm,hk,hb⟩
 ·obtain ⟨G,Hf,ds,s,d,s',_,_,_,_,_,h,_⟩:=h
  cases h
 ·obtain ⟨G,Hf,ds,s,d,s',_,_,_,_,_,h,_⟩:=h
  cases h
end
end TF
namespace TF
open PySem PySem.Spec PyProof.Rows L2 PySem.SeqAt
open AutoSeq1 (wpAny_loadPart')
section
variable {X:Cx} {G:Gh}
end
end TF
namespace TF
open PySem PySem.Spec PyProof.Rows L2
section
variable {X:Cx} {G:Gh}
theorem pd_neg {i:Int} {j p pos}:PD X G true (.UnaryOp .USub (.Constant (.int i) j p) pos) (dC (.int (-i))):=by
 refine ⟨_,pe_un un_neg pe_int,fun σ Hf H ρ s d s' Q e1 e2 e3 e4 k=>?_⟩
 obtain ⟨rfl,rfl⟩:=mret_some e4
 exact ⟨i,rfl,k _ Hf H (.refl e1) e3 (Rep.int_iff.mpr rfl) fun _=>.scal fun z=>z⟩
end
end TF
namespace TF
open PySem L2
section
variable {f g:Rho→M D} {ρ:Rho} {s s1:Pn} {a b:Bool} {r:Option (D×Pn)}
theorem vAnd_t (h:f ρ s=some (.bl true,s1)) (h2:g ρ s1=r):vAnd f g ρ s=r:=by unfold vAnd mbind;rw [h];exact h2
theorem vAnd_f (h:f ρ s=some (.bl false,s1)):vAnd f g ρ s=some (.bl false,s1):=by unfold vAnd mbind;rw [h];rfl
theorem vAnd_eq (h:f ρ s=some (.bl a,s)) (h2:a=true→g ρ s=some (.bl b,s)):vAnd f g ρ s=some (.bl (a&&b),s):=by
 cases a with
 | false=>exact vAnd_f h
 | true=>rw [Bool.true_and];exact vAnd_t h (h2 rfl)
theorem vNot_eq (h:f ρ s=some (.bl a,s1)):vNot f ρ s=some (.bl (!a),s1):=by unfold vNot mbind;rw [h];rfl
end
section
variable {f g:Rho→M Bool} {ρ:Rho} {s s1:Pn} {a b:Bool} {r:Option (Bool×Pn)}
theorem band_f (h:f ρ s=some (false,s1)):bAnd f g ρ s=some (false,s1):=by unfold bAnd mbind;rw [h];rfl
theorem band_t (h:f ρ s=some (true,s1)) (h2:g ρ s1=r):bAnd f g ρ s=r:=by unfold bAnd mbind;rw [h];exact h2
theorem bor_t (h:f ρ s=some (true,s1)):bOr f g ρ s=some (true,s1):=by unfold bOr mbind;rw [h];rfl
theorem bor_f (h:f ρ s=some (false,s1)) (h2:g ρ s1=r):bOr f g ρ s=r:=by unfold bOr mbind;rw [h];exact h2
theorem band_eq (h:f ρ s=some (a,s)) (h2:a=true→g ρ s=some (b,s)):bAnd f g ρ s=some (a&&b,s):=by
 cases a with
 | false=>exact band_f h
 | true=>rw [Bool.true_and];exact band_t h (h2 rfl)
end
section
variable {c:Rho→M Bool} {g1 g2:Rho→M Out} {ρ:Rho} {s s1:Pn} {r:Option (Out×Pn)}
theorem sIf_t (h:c ρ s=some (true,s1)) (h2:g1 ρ s1=r):sIf c g1 g2 ρ s=r:=by unfold sIf mbind;rw [h];exact h2
theorem sIf_f (h:c ρ s=some (false,s1)) (h2:g2 ρ s1=r):sIf c g1 g2 ρ s=r:=by unfold sIf mbind;rw [h];exact h2
end
section
variable {fa fb:Rho→M D} {f:D→Rho→M Bool} {g:D→D→Option D} {ρ:Rho} {s s1 s2:Pn} {d e:D} {k:Bool} {r:Option (Bool×Pn)}
theorem bChain_eq (h:fa ρ s=some (d,s1)) (h2:f d ρ s1=r):bChain fa f ρ s=r:=by unfold bChain mbind;rw [h];exact h2
theorem cLast_eq (h:fb ρ s=some (e,s1)) (h2:g d e=some (.bl k)):cLast g fb d ρ s=some (k,s1):=by unfold cLast mbind;rw [h];show mBl (g d e) s1=_;rw [h2];rfl
theorem cLink_eq (h:fb ρ s=some (e,s)) (h2:g d e=some (.bl k)) {b:Bool} (h3:k=true→f e ρ s=some (b,s)):cLink g fb f d ρ s=some (k&&b,s):=by
 unfold cLink mbind
 simp only [h,h2,mBl,mret]
 cases k with
 | false=>rfl
 | true=>simp [h3 rfl]
end
theorem eqi (a b:Int):dEqO (.int a) (.int b)=some (.bl (a==b)):=by
 unfold dEqO
 rw [if_pos (by simp [okEq,plainD,dep])]
 simp [dEq]
theorem nei (a b:Int):dNeO (.int a) (.int b)=some (.bl (!(a==b))):=by
 unfold dNeO
 rw [if_pos (by simp [okEq,plainD,dep])]
 simp [dEq]
theorem neb (a b:Bool):dNeO (.bl a) (.bl b)=some (.bl (!(a==b))):=by
 unfold dNeO
 rw [if_pos (by simp [okEq,plainD,dep])]
 simp [dEq]
theorem pick_ix {ds:List D} {r:Nat} (h:r<ds.length):∃d∈ds,dIx (.lst ds) (.int (r:Int))=some d:=
 ⟨ds[r],List.getElem_mem h,atI_nat (List.getElem?_eq_getElem h)⟩
theorem seqT_eq {f:Rho→M D} {ρ:Rho} {s s1:Pn} {ds:List D} (h:f ρ s=some (.tup ds,s1)):iSeqT f ρ s=some (ds,s1):=by unfold iSeqT mbind;rw [h];rfl
theorem seqL_eq {f:Rho→M D} {ρ:Rho} {s s1:Pn} {ds:List D} (h:f ρ s=some (.lst ds,s1)):iSeqL f ρ s=some (ds,s1):=by unfold iSeqL mbind;rw [h];rfl
end TF
namespace TP
open PySem L2 TF
noncomputable def kindD:D→Bool
 | .non=>true | .bl _=>true | .int _=>true | .str _=>true | .tup _=>true | .lst _=>true | _=>false
noncomputable def intB:D→Bool | .int _=>true | .bl _=>true | _=>false
noncomputable def boolB:D→Bool | .bl _=>true | _=>false
theorem isi_int {d:D} (h:kindD d=true):dIsi [d,.ty "int"]=some (.bl (intB d)):=by
 cases d <;> first | rfl | cases h
theorem isi_bool {d:D} (h:kindD d=true):dIsi [d,.ty "bool"]=some (.bl (boolB d)):=by
 cases d <;> first | rfl | cases h
noncomputable def placeB (n:Int):D→Bool | .int i=>decide (0≤i)&&decide (i<n) | _=>false
theorem filter_tt {α:Type} (l:List α):l.filter (fun _=>true)=l:=List.filter_eq_self.mpr (by simp)
end TP
namespace TF
open PySem L2
section
variable {f:Rho→M D} {fs:Rho→M (List D)} {ρ:Rho} {s:Pn}
theorem Ok.tup {Q:D→Pn→Prop} (h:Ok (fs ρ) s fun ds s1=>ds.length≤sizeLine∧Q (.tup ds) s1):Ok (dTup fs ρ) s Q:=.bind (h.mono fun _ _ q=>.ite q.1 (.ret q.2))
theorem Ok.call {g:List D→Option D} {Q:D→Pn→Prop} (h:Ok (fs ρ) s fun ds s1=>∃c,g ds=some c∧Q c s1):Ok (dCall g fs ρ) s Q:=.bind (h.mono fun _ _ q=>let ⟨c,e,q⟩:=q;.of e q)
theorem Ok.sunp {τ:D→Rho→Option Rho} {Q:Out→Pn→Prop} (h:Ok (f ρ) s fun d s1=>∃ρ',τ d ρ=some ρ'∧Q (.nx ρ') s1):Ok (sUnp τ f ρ) s Q:=
 .bind (h.mono fun d s1 q=>by obtain ⟨ρ',e,q⟩:=q;rw [e];exact .ret q)
theorem Ok.range1 {Q:List D→Pn→Prop} (h:Ok (f ρ) s fun d s1=>∃n:Nat,d=.int (n:Int)∧n≤100000∧Q (dRange 0 n) s1):Ok (iRange1 f ρ) s Q:=
 .bind (h.mono fun d s1 q=>by
  obtain ⟨n,rfl,hn,q⟩:=q
  exact .ite (TP.small_int n hn) (.ret (by simpa using q)))
end
end TF
namespace TF
open PySem PySem.Spec PyProof.Rows L2
noncomputable def penKv (m t:Int) (wa:Addr):List (Key×V):=[(.inr (Str.ofString "mixed"),.int m),(.inr (Str.ofString "turn"),.int t),(.inr (Str.ofString "wide"),.ref wa)]
theorem k_mt:¬((Sum.inr (Str.ofString "mixed"):Key)=Sum.inr (Str.ofString "turn")):=by decide
theorem k_mw:¬((Sum.inr (Str.ofString "mixed"):Key)=Sum.inr (Str.ofString "wide")):=by decide
theorem k_tw:¬((Sum.inr (Str.ofString "turn"):Key)=Sum.inr (Str.ofString "wide")):=by decide
theorem pen_m (m t:Int) (wa:Addr):valV (penKv m t wa) (.inr (Str.ofString "mixed"))=some (.int m):=valV_pos rfl
theorem pen_t (m t:Int) (wa:Addr):valV (penKv m t wa) (.inr (Str.ofString "turn"))=some (.int t):=(valV_neg k_mt).trans (valV_pos rfl)
theorem pen_w (m t:Int) (wa:Addr):valV (penKv m t wa) (.inr (Str.ofString "wide"))=some (.ref wa):=(valV_neg k_mw).trans ((valV_neg k_tw).trans (valV_pos rfl))
theorem pen_put (m t t':Int) (wa:Addr):putK (penKv m t wa) (.inr (Str.ofString "turn")) (.int t')=penKv m t' wa:=by
 have h2:¬((Sum.inr (Str.ofString "wide"):Key)=Sum.inr (Str.ofString "turn")):=fun z=>k_tw z.symm
 unfold putK penKv
 rw [if_pos (by simp)]
 have h3:¬(Str.ofString "mixed" = Str.ofString "turn"):=by decide
 have h4:¬(Str.ofString "wide" = Str.ofString "turn"):=by decide
 simp [h3,h4]
noncomputable def stD (p wa:Addr) (s:Pn) (H:Hp):Prop:=∃m t,s.1=[m,t]∧H p=some (.dK (penKv m t wa))∧H wa=some (.lst (s.2.map V.int))∧p≠wa
noncomputable def penD (p wa:Addr):Gh where
 fp:=fun b=>b=p∨b=wa
 rd:=fun b=>b=p∨b=wa
 pen:=.ref p
 st:=stD p wa
 mono:=fun s H H' ⟨m,t,e0,e1,e2,ne⟩ k _=>⟨m,t,e0,k p _ (.inl rfl) e1,k wa _ (.inr rfl) e2,ne⟩
 sub:=fun b h=>h
 dom:=fun s H b ⟨m,t,e0,e1,e2,ne⟩ hb=>by
  rcases hb with rfl | rfl
  ·exact ⟨_,e1⟩
  ·exact ⟨_,e2⟩
 ntp:=fun s H b vs ⟨m,t,e0,e1,e2,ne⟩ hb z=>by
  rcases hb with r | r
  ·rw [r,e1] at z;cases z
  ·rw [r,e2] at z;cases z
noncomputable def PenD:Gh→Prop:=fun G=>∃p wa,G=penD p wa
noncomputable def drawW (k:Int):List Int→List Int
 | c::r=>if c<k then r else c::r
 | []=>[]
noncomputable def lastF (m t:Int):Int:=
 let one:=(m+7919*t*t) % 2147483629
 let two:=(one*one+40692*t+3) % 998244353
 (two*two+one) % 2147483587 / 16
noncomputable def drawS (k m t:Int) (w:List Int):D×Pn:=match drawW k w with
 | c::r=>(.int (c % k),([m,t],(c / k)::r))
 | []=>(.int (lastF m (t+1) % k),([m,t+1],[]))
noncomputable def drawF:List D→M D:=fun ds s=>match ds,s with
 | [.pen,.int k],([m,t],w)=>if 0<k∧k<1073741824∧0≤t∧t<2 ^ 60 then some (drawS k m t w) else none
 | _,_=>none
theorem drawF_some {ds:List D} {s s':Pn} {d:D} (h:drawF ds s=some (d,s')):∃k m t w,ds=[.pen,.int k]∧s=([m,t],w)∧0<k∧k<1073741824∧0≤t∧t<2 ^ 60∧drawS k m t w=(d,s'):=by
 unfold drawF at h
 split at h
 ·split at h
  ·rename_i k m t w c
   exact ⟨k,m,t,w,rfl,rfl,c.1,c.2.1,c.2.2.1,c.2.2.2,Option.some.inj h⟩
  ·cases h
 ·cases h
noncomputable def okD (T:Nat) (s:Pn):Prop:=∃m t:Int,s.1=[m,t]∧0≤t∧t≤T
theorem okD.mono {T T':Nat} {s:Pn} (h:okD T s) (hT:T≤T'):okD T' s:=by
 obtain ⟨m,t,e,h1,h2⟩:=h
 exact ⟨m,t,e,h1,by omega⟩
theorem draw_ok {T:Nat} {s:Pn} {k:Int} (ok:okD T s) (hT:T<1000000000) (h1:0<k) (h2:k<1073741824):∃r s',drawF [.pen,.int k] s=some (.int r,s')∧0≤r∧r<k∧okD (T+1) s':=by
 obtain ⟨l,w⟩:=s
 obtain ⟨m,t,e,t0,tT⟩:=ok
 simp only at e
 subst e
 have hd:drawF [.pen,.int k] ([m,t],w)=some (drawS k m t w):=if_pos ⟨h1,h2,t0,by omega⟩
 unfold drawS at hd
 split at hd
 ·exact ⟨_,_,hd,Int.emod_nonneg _ (by omega),Int.emod_lt_of_pos _ h1,m,t,rfl,t0,by omega⟩
 ·exact ⟨_,_,hd,Int.emod_nonneg _ (by omega),Int.emod_lt_of_pos _ h1,m,t+1,rfl,by omega,by omega⟩
theorem Ok.drawD {fs:Rho→M (List D)} {ρ:Rho} {s:Pn} {m T:Nat} {Q:D→Pn→Prop} (ok:okD T s) (hT:T<1000000000) (h1:fs ρ s=some ([.pen,.int (m:Int)],s)) (hm:0<m) (hm2:m<1073741824) (h:∀(r:Nat) s',r<m→okD (T+1) s'→Q (.int (r:Int)) s'):Ok (dFn drawF fs ρ) s Q:=by
 obtain ⟨r,s1,e,r0,r1,ok1⟩:=draw_ok ok hT (show 0<(m:Int) by omega) (show (m:Int)<1073741824 by omega)
 obtain ⟨n,rfl⟩:=Int.eq_ofNat_of_zero_le r0
 exact .fn h1 (.eq e (h n s1 (by omega) ok1))
theorem pss_anyG {X:Cx} {GG:Gh→Prop} {ob own own':List Nat} {fr:Bool} {sts:List Stmt} {g:Rho→M Out} (h:∀G,GG G→PDSs X G ob own own' fr sts g):PSs X sts (fun E σ H=>∃G,GG G∧dosOf G ob own own' fr g E σ H):=by
 intro pins s σ H D I ⟨G,hG,kn,Hf0,H0,ρ,pn,out,pn',j,st,e,po⟩
 obtain ⟨t,p,q⟩:=h G hG
 exact p pins s σ H D I (q kn Hf0 H0 σ H ρ pn out pn' D j st e po)
noncomputable def wideOf (ns:List Int):List Int:=ns.filter fun c=>decide (10 ^ 15≤c)
noncomputable def spPen (K:PySem.W.Frag):Sp:=fun vs H Q _=>∃(a:Addr) (ns:List Int),vs=[.ref a]∧SqL K H a (ns.map V.int)∧ns.length≤63∧
 ∀(p wa:Addr) (m:Int) (H':Hp),stD p wa ([m,0],wideOf ns) H'→(∀b u,H b=some u→H' b=some u)→H p=none→H wa=none→Q (.ref p) H'
noncomputable def tW:TE:=tDGet (tVar 0) (tC (.str (Str.ofString "wide")))
noncomputable def tTn:TE:=tDGet (tVar 0) (tC (.str (Str.ofString "turn")))
noncomputable def tMx:TE:=tDGet (tVar 0) (tC (.str (Str.ofString "mixed")))
noncomputable def tLenW (K:PySem.W.Frag):TE:=tCB (fun xs H Q=>∃p ys,xs=[.ref p]∧(SqL K H p ys∨SqT K H p ys)∧Q (.int ys.length) H) (tCons tW tNil)
noncomputable def tW0 (K:PySem.W.Frag):TE:=tOp (rIxL K) tW (tC (.int 0))
noncomputable def tail3:TS:=tSeq (sDPut (tVar 0) (tC (.str (Str.ofString "turn"))) (tOp (rI0 fun i j=>.int (i+j)) tTn (tC (.int 1))))
 (tSeq (tAsg (tOp (rI (fun _ j=>0<j) fun i j=>.int (i % j)) (tOp (rI0 fun i j=>.int (i+j)) tMx (tOp (rI CMul fun i j=>.int (i*j)) (tOp (rI CMul fun i j=>.int (i*j)) (tC (.int 7919)) tTn) tTn)) (tC (.int 2147483629))) (gName 3))
 (tSeq (tAsg (tOp (rI (fun _ j=>0<j) fun i j=>.int (i % j)) (tOp (rI0 fun i j=>.int (i+j)) (tOp (rI0 fun i j=>.int (i+j)) (tOp (rI CMul fun i j=>.int (i*j)) (tVar 3) (tVar 3)) (tOp (rI CMul fun i j=>.int (i*j)) (tC (.int 40692)) tTn)) (tC (.int 3))) (tC (.int 998244353))) (gName 4))
 (tRet (tOp (rI (fun _ j=>0<j) fun i j=>.int (i % j)) (tOp (rI CDiv fun i j=>.int (i / j)) (tOp (rI (fun _ j=>0<j) fun i j=>.int (i % j)) (tOp (rI0 fun i j=>.int (i+j)) (tOp (rI CMul fun i j=>.int (i*j)) (tVar 4) (tVar 4)) (tVar 3)) (tC (.int 2147483587))) (tC (.int 16))) (tVar 1)))))
noncomputable def tail2 (K : PySem.W.Frag) : TS := tSeq (tIfS (tTest (tOp (rI0 fun i j => .bl (decide (j < i))) (tLenW K) (tC (.int 0))))
    (tSeq (tAsg (tOp (rI (fun _ j => 0 < j) fun i j => .int (i % j)) (tW0 K) (tVar 1)) (gName 2)) (tSeq (tAsg (tOp (rI CDiv fun i j => .int (i / j)) (tW0 K) (tVar 1)) (gSub tW (tC (.int 0)) rSetL)) (tRet (tVar 2)))) tNext) tail3
noncomputable def tdrawT (K : PySem.W.Frag) : TS := tSeq (tIfS (tAnd (tTest (tOp (rI0 fun i j => .bl (decide (j < i))) (tLenW K) (tC (.int 0)))) (tTest (tOp (rI0 fun i j => .bl (decide (i < j))) (tW0 K) (tVar 1))))
    (tDrop (tBM K "list" rPopAt tW (tCons (tC (.int 0)) tNil))) tNext) (tail2 K)
theorem dg_w {H:Hp} {p wa:Addr} {m t:Int} (h:H p=some (.dK (penKv m t wa))):DGet H p (.str (Str.ofString "wide")) (some (.ref wa)):=by have:=DGet.k (k:=.inr (Str.ofString "wide")) h;rwa [pen_w] at this
theorem dg_t {H:Hp} {p wa:Addr} {m t:Int} (h:H p=some (.dK (penKv m t wa))):DGet H p (.str (Str.ofString "turn")) (some (.int t)):=by have:=DGet.k (k:=.inr (Str.ofString "turn")) h;rwa [pen_t] at this
theorem dg_m {H:Hp} {p wa:Addr} {m t:Int} (h:H p=some (.dK (penKv m t wa))):DGet H p (.str (Str.ofString "mixed")) (some (.int m)):=by have:=DGet.k (k:=.inr (Str.ofString "mixed")) h;rwa [pen_m] at this
theorem dp_t {H:Hp} {p wa:Addr} {m t t':Int} (h:H p=some (.dK (penKv m t wa))):DPut H p (.str (Str.ofString "turn")) (.int t') (upd H p (.dK (penKv m t' wa))):=by
 have:=DPut.k (k:=.inr (Str.ofString "turn")) (v:=.int t') h (by show 3<sizeLine;decide)
 rwa [pen_put] at this
theorem tail3_sem {p wa:Addr} {m x t:Int} {Q:VK} {N:St→Hp→Prop} {H:Hp} {o2:Option V} (m0:0<m) (m1:m<1073741824) (t0:0≤t) (t1:t<2 ^ 60) (hp:H p=some (.dK (penKv x t wa)))
  (k:Q (.int (lastF x (t+1) % m)) (upd H p (.dK (penKv x (t+1) wa)))):tail3 { nx:=N,rt:=Q } [some (.ref p),some (.int m),o2,none,none] H:=by
 have hp2:upd H p (.dK (penKv x (t+1) wa)) p=some (.dK (penKv x (t+1) wa)):=upd_same
 generalize hT:t+1=T at hp2 k
 have b1:∀z:Int,0≤z % 2147483629∧z % 2147483629<2147483629:=fun z=>⟨Int.emod_nonneg _ (by decide),Int.emod_lt_of_pos _ (by decide)⟩
 have b2:∀z:Int,0≤z % 998244353∧z % 998244353<998244353:=fun z=>⟨Int.emod_nonneg _ (by decide),Int.emod_lt_of_pos _ (by decide)⟩
 refine ⟨.ref p,rfl,p,.int t,rfl,dg_t hp,t,1,rfl,rfl,.ref p,rfl,p,upd H p (.dK (penKv x T wa)),rfl,by rw [←hT];exact dp_t hp,?_⟩
 refine ⟨.ref p,rfl,p,.int x,rfl,dg_m hp2,.ref p,rfl,p,.int T,rfl,dg_t hp2,7919,T,rfl,rfl,.inl ⟨by decide,by decide⟩,.ref p,rfl,p,.int T,rfl,dg_t hp2,7919*T,T,rfl,rfl,.inr ⟨by omega,by omega⟩,x,7919*T*T,rfl,rfl,x+7919*T*T,2147483629,rfl,rfl,(by show (0:Int)<2147483629;decide),?_⟩
 have h1:=b1 (x+7919*T*T)
 have h2:=b2 (((x+7919*T*T) % 2147483629)*((x+7919*T*T) % 2147483629)+40692*T+3)
 refine ⟨.int ((x+7919*T*T) % 2147483629),rfl,.int ((x+7919*T*T) % 2147483629),rfl,((x+7919*T*T) % 2147483629),((x+7919*T*T) % 2147483629),rfl,rfl,.inl ⟨by omega,by omega⟩,.ref p,rfl,p,.int T,rfl,dg_t hp2,40692,T,rfl,rfl,.inl ⟨by decide,by decide⟩,((x+7919*T*T) % 2147483629)*((x+7919*T*T) % 2147483629),40692*T,rfl,rfl,((x+7919*T*T) % 2147483629)*((x+7919*T*T) % 2147483629)+40692*T,3,rfl,rfl,((x+7919*T*T) % 2147483629)*((x+7919*T*T) % 2147483629)+40692*T+3,998244353,rfl,rfl,(by show (0:Int)<998244353;decide),?_⟩
 refine ⟨.int ((((x+7919*T*T) % 2147483629)*((x+7919*T*T) % 2147483629)+40692*T+3) % 998244353),rfl,.int ((((x+7919*T*T) % 2147483629)*((x+7919*T*T) % 2147483629)+40692*T+3) % 998244353),rfl,((((x+7919*T*T) % 2147483629)*((x+7919*T*T) % 2147483629)+40692*T+3) % 998244353),((((x+7919*T*T) % 2147483629)*((x+7919*T*T) % 2147483629)+40692*T+3) % 998244353),rfl,rfl,.inl ⟨by omega,by omega⟩,.int ((x+7919*T*T) % 2147483629),rfl,((((x+7919*T*T) % 2147483629)*((x+7919*T*T) % 2147483629)+40692*T+3) % 998244353)*((((x+7919*T*T) % 2147483629)*((x+7919*T*T) % 2147483629)+40692*T+3) % 998244353),((x+7919*T*T) % 2147483629),rfl,rfl,((((x+7919*T*T) % 2147483629)*((x+7919*T*T) % 2147483629)+40692*T+3) % 998244353)*((((x+7919*T*T) % 2147483629)*((x+7919*T*T) % 2147483629)+40692*T+3) % 998244353)+((x+7919*T*T) % 2147483629),2147483587,rfl,rfl,(by show (0:Int)<2147483587;decide),(((((x+7919*T*T) % 2147483629)*((x+7919*T*T) % 2147483629)+40692*T+3) % 998244353)*((((x+7919*T*T) % 2147483629)*((x+7919*T*T) % 2147483629)+40692*T+3) % 998244353)+((x+7919*T*T) % 2147483629)) % 2147483587,16,rfl,rfl,(by show (0:Int)<16∧(16:Int)<1073741824;decide),.int m,rfl,(((((x+7919*T*T) % 2147483629)*((x+7919*T*T) % 2147483629)+40692*T+3) % 998244353)*((((x+7919*T*T) % 2147483629)*((x+7919*T*T) % 2147483629)+40692*T+3) % 998244353)+((x+7919*T*T) % 2147483629)) % 2147483587 / 16,m,rfl,rfl,m0,?_⟩
 exact k
theorem len_map_int (w:List Int):((w.map V.int).length:Int)=(w.length:Int):=by simp
theorem ix0 (c:Int) (r:List Int):ixN ((c::r).map V.int).length 0=some 0:=by
 unfold ixN
 rw [if_pos (by decide),if_pos (by rw [len_map_int];simp)]
 rfl
theorem tail2_sem {K:PySem.W.Frag} {p wa:Addr} {m x t:Int} {w1:List Int} {Q:VK} {N:St→Hp→Prop} {H:Hp} (m0:0<m) (m1:m<1073741824) (t0:0≤t) (t1:t<2 ^ 60) (hp:H p=some (.dK (penKv x t wa))) (hw:H wa=some (.lst (w1.map V.int))) (ne:p≠wa)
  (k1:∀c r,w1=c::r→Q (.int (c % m)) (upd H wa (.lst (((c / m)::r).map V.int)))) (k2:w1=[]→Q (.int (lastF x (t+1) % m)) (upd H p (.dK (penKv x (t+1) wa)))) :
  tail2 K { nx:=N,rt:=Q } [some (.ref p),some (.int m),none,none,none] H:=by
 refine ⟨.ref p,rfl,p,.ref wa,rfl,dg_w hp,wa,w1.map V.int,rfl,.inl (SqL.of hw),_,0,rfl,rfl,_,rfl,?_⟩
 cases w1 with
 | nil=>
  refine iteF ?_
  exact tail3_sem m0 m1 t0 t1 hp (k2 rfl)
 | cons c r=>
  have e:decide ((0:Int)<(((c::r).map V.int).length:Int))=true:=by rw [decide_eq_true_eq,len_map_int];simp
  rw [e]
  refine iteT ?_
  have hi:atI ((c::r).map V.int) 0=some (.int c):=atI_nat (j:=0) rfl
  refine ⟨.ref p,rfl,p,.ref wa,rfl,dg_w hp,wa,_,0,.int c,rfl,rfl,SqL.of hw,hi,.int m,rfl,c,m,rfl,rfl,m0,?_⟩
  refine ⟨.ref p,rfl,p,.ref wa,rfl,dg_w hp,wa,_,0,.int c,rfl,rfl,SqL.of hw,hi,.int m,rfl,c,m,rfl,rfl,⟨m0,m1⟩,.ref p,rfl,p,.ref wa,rfl,dg_w hp,wa,(c::r).map V.int,0,0,rfl,rfl,hw,ix0 c r,?_⟩
  exact ⟨_,rfl,k1 c r rfl⟩
theorem draw_sem {K:PySem.W.Frag} {p wa:Addr} {m x t:Int} {ww:List Int} {d:D} {pn':Pn} {Q:VK} {N:St→Hp→Prop} {H:Hp} (m0:0<m) (m1:m<1073741824) (t0:0≤t) (t1:t<2 ^ 60) (eS:drawS m x t ww=(d,pn')) (hp:H p=some (.dK (penKv x t wa))) (hw:H wa=some (.lst (ww.map V.int))) (ne:p≠wa)
  (k:∀(i:Int) (H':Hp),d=.int i→(∀b,b≠p→b≠wa→H' b=H b)→stD p wa pn' H'→Q (.int i) H') :
  tdrawT K { nx:=N,rt:=Q } [some (.ref p),some (.int m),none,none,none] H:=by
 have fin:∀(H1:Hp) (w1:List Int),w1=drawW m ww→H1 p=some (.dK (penKv x t wa))→H1 wa=some (.lst (w1.map V.int))→(∀b,b≠p→b≠wa→H1 b=H b)→tail2 K { nx:=N,rt:=Q } [some (.ref p),some (.int m),none,none,none] H1:=by
  intro H1 w1 e1 hp1 hw1 ag
  refine tail2_sem m0 m1 t0 t1 hp1 hw1 ne (fun c r ec=>?_) fun ec=>?_
  ·have:drawS m x t ww=(.int (c % m),([x,t],(c / m)::r)):=by unfold drawS;rw [←e1,ec]
   rw [this] at eS
   cases eS
   refine k _ _ rfl (fun b h1 h2=>by rw [upd_ne h2];exact ag b h1 h2) ⟨x,t,rfl,by rw [upd_ne ne];exact hp1,upd_same,ne⟩
  ·have:drawS m x t ww=(.int (lastF x (t+1) % m),([x,t+1],[])):=by unfold drawS;rw [←e1,ec]
   rw [this] at eS
   cases eS
   subst ec
   refine k _ _ rfl (fun b h1 h2=>by rw [upd_ne h1];exact ag b h1 h2) ⟨x,t+1,rfl,upd_same,by rw [upd_ne (Ne.symm ne)];exact hw1,ne⟩
 refine ⟨.ref p,rfl,p,.ref wa,rfl,dg_w hp,wa,ww.map V.int,rfl,.inl (SqL.of hw),_,0,rfl,rfl,_,rfl,?_⟩
 cases ww with
 | nil=>
  refine iteF ?_
  refine iteF ?_
  exact fin H [] rfl hp hw fun _ _ _=>rfl
 | cons c r=>
  have e:decide ((0:Int)<(((c::r).map V.int).length:Int))=true:=by rw [decide_eq_true_eq,len_map_int];simp
  rw [e]
  refine iteT ?_
  have hi:atI ((c::r).map V.int) 0=some (.int c):=atI_nat (j:=0) rfl
  refine ⟨.ref p,rfl,p,.ref wa,rfl,dg_w hp,wa,_,0,.int c,rfl,rfl,SqL.of hw,hi,.int m,rfl,c,m,rfl,rfl,_,rfl,?_⟩
  by_cases hc:c<m
  ·rw [decide_eq_true hc]
   refine iteT ?_
   refine ⟨.ref p,rfl,p,.ref wa,rfl,dg_w hp,.inl ⟨rfl,_,SqL.of hw⟩,wa,(c::r).map V.int,0,0,.int c,rfl,rfl,hw,by decide,by decide,seqIndex_of (by decide) (by rw [len_map_int];simp),rfl,?_⟩
   refine fin _ r (by show r=if c<m then r else c::r;rw [if_pos hc]) (by rw [upd_ne ne];exact hp) (by rw [upd_same];rfl) fun b h1 h2=>by rw [upd_ne h2]
  ·rw [decide_eq_false hc]
   refine iteF ?_
   exact fin H (c::r) (by show c::r=if c<m then r else c::r;rw [if_neg hc]) hp hw fun _ _ _=>rfl
theorem gr_off {p wa:Addr} {Hf H H':Hp} (e1:Ext (penD p wa) Hf H) (ag:∀b,b≠p→b≠wa→H' b=H b):Gr (penD p wa) Hf H Hf H':=
 have no:∀b,¬(penD p wa).fp b→b≠p∧b≠wa:=fun b n=>⟨fun z=>n (.inl z),fun z=>n (.inr z)⟩
 ⟨fun b u n q=>by rw [ag b (no b n).1 (no b n).2];exact q,.refl _ _,fun b u n q=>by rw [ag b (no b n).1 (no b n).2];exact e1 b u n q,fun b n h1 h2=>h1⟩
theorem draw_spec {K:PySem.W.Frag} {vs:List V} {H:Hp} {Q:VK} {E:XK} {N:St→Hp→Prop} (h:spD 2 true PenD drawF vs H Q E):∃p m,vs=[.ref p,.int m]∧tdrawT K { nx:=N,rt:=Q } [some (.ref p),some (.int m),none,none,none] H:=by
 obtain ⟨G,Hf,ds,pn,d,pn',hG,el,e1,r,st',eF,k'⟩:=h
 obtain ⟨p,wa,rfl⟩:=hG
 obtain ⟨m,x,t,ww,rfl,rfl,m0,m1,t0,t1,eS⟩:=drawF_some eF
 obtain ⟨v1,v2,rfl,r1,r2⟩:=RepL.two_inv r
 cases (Rep.pen_iff.mp r1)
 cases (Rep.int_iff.mp r2)
 obtain ⟨x',t',ea,hp,hw,ne⟩:=st'
 simp only [List.cons.injEq,and_true] at ea
 obtain ⟨rfl,rfl⟩:=ea
 refine ⟨p,m,rfl,draw_sem m0 m1 t0 t1 eS hp hw ne fun i H' ed ag st=>?_⟩
 exact k' _ Hf H' (gr_off e1 ag) st (by rw [ed];exact Rep.int_iff.mpr rfl) fun _=>.scal fun z=>by rw [ed] at z;exact z
theorem pe_compS {X:Cx} {XN:List Str} {NS:List (Str×NameKind)} {elt tg iter:Expr} {ifs:List Expr} {scope:Scope} {pos:Pos} {N':List Str} {src:List (Option Nat)} {wi:TI} {g:TG} {tt:TT} {te:TE} (hc:X.calm=true) (B:BlkS X XN NS N' src scope) (hi:PI X tg iter wi)
  (hg:∀cl pins C s H fp,PG (L2.blk X pins N' scope cl C s H fp) tg g) (ht:∀cl pins C s H fp,PIfs (L2.blk X pins N' scope cl C s H fp) ifs tt) (he:∀cl pins C s H fp,PE (L2.blk X pins N' scope cl C s H fp) elt te)
  (hs:∀x,foldedSetIterable iter X.env x=pure x:=by intro _;rfl):PE X (.ListComp elt [⟨tg,iter,ifs,0⟩] scope pos) (tComp src wi g tt te):=by
 intro pins s σ H Q I h
 obtain ⟨cl,B'⟩:=B.ok I.ok
 exact pe_comp hc B' hi (hg cl) (ht cl) (he cl) hs pins s σ H Q I h
noncomputable def tpenW (K:PySem.W.Frag):TE:=tComp [none] (iList K (tVar 0)) (gName 0) (tTest (tOp (rI0 fun i j=>.bl (decide (j≤i))) (tVar 0) (tOp (rI CPow fun i j=>.int (i ^ j.toNat)) (tC (.int 10)) (tC (.int 15))))) (tVar 0)
noncomputable def tpenT (K:PySem.W.Frag):TS:=tSeq (tAsg (tC (.int 7)) (gName 1))
 (tSeq (tFor (iList K (tVar 0)) (gName 2) (tAsg (tOp (rI (fun _ j=>0<j) fun i j=>.int (i % j)) (tOp (rI0 fun i j=>.int (i+j)) (tOp (rI0 fun i j=>.int (i+j)) (tOp (rI CMul fun i j=>.int (i*j)) (tVar 1) (tC (.int 48271))) (tOp (rI (fun _ j=>0<j) fun i j=>.int (i % j)) (tVar 2) (tC (.int 1000000007)))) (tC (.int 11))) (tC (.int 2147483629))) (gName 1)))
 (tRet (tDisp [(tC (.str (Str.ofString "mixed")),tVar 1),(tC (.str (Str.ofString "turn")),tC (.int 0)),(tC (.str (Str.ofString "wide")),tpenW K)])))
theorem sq_upd {K:PySem.W.Frag} {H:Hp} {a p:Addr} {xs:List V} {o:HO} (sq:SqL K H a xs) (hp:H p=none):SqL K (upd H p o) a xs:=by
 have hne:∀u,H a=some u→a≠p:=fun u e z=>by rw [z,hp] at e;cases e
 rcases sq with (q | ⟨o',q⟩) | q
 ·exact .inl (.inl (by rw [upd_ne (hne _ q)];exact q))
 ·exact .inl (.inr ⟨o',by rw [upd_ne (hne _ q)];exact q⟩)
 ·exact .inr q
theorem upd_upd' {H:Hp} {p:Addr} {o o':HO}:upd (upd H p o) p o'=upd H p o':=by
 funext b
 by_cases h:b=p
 ·subst h;rw [upd_same,upd_same]
 ·rw [upd_ne h,upd_ne h,upd_ne h]
theorem merge_pen (m t:Int) (wa:Addr):mergeK [] (penKv m t wa)=penKv m t wa:=by
 have h3:¬(Str.ofString "mixed" = Str.ofString "turn"):=by decide
 have h4:¬(Str.ofString "mixed" = Str.ofString "wide"):=by decide
 have h5:¬(Str.ofString "turn" = Str.ofString "wide"):=by decide
 simp [mergeK,penKv,putK,h3,h4,h5]
theorem wide_take (ns:List Int) (i:Nat) (c:Int) (h:ns[i]?=some c):wideOf (ns.take (i+1))=wideOf (ns.take i)++(if decide (10 ^ 15≤c)=true then [c] else []):=by
 unfold wideOf
 rw [List.take_succ,h,List.filter_append]
 congr 1
 by_cases hc:(10:Int) ^ 15≤c
 ·rw [if_pos (decide_eq_true hc)]
  exact List.filter_cons_of_pos (decide_eq_true hc)
 ·rw [if_neg (by simpa using hc)]
  exact List.filter_cons_of_neg (by simpa using hc)
theorem penW_sem {K:PySem.W.Frag} {a:Addr} {ns:List Int} {H:Hp} {Q:VK} {o1 o2:Option V} (sq:SqL K H a (ns.map V.int)) (hl:ns.length≤63) (k:∀p,H p=none→Q (.ref p) (upd H p (.lst ((wideOf ns).map V.int)))):tpenW K [some (.ref a),o1,o2] H Q:=by
 refine ⟨.ref a,rfl,a,rfl,⟨_,sq⟩,fun p hp=>?_⟩
 refine ⟨fun i n σ2 H2=>i≤ns.length∧n=ns.length-i∧(∃o,σ2=[o])∧H2=upd H p (.lst ((wideOf (ns.take i)).map V.int)),⟨ns.length,Nat.zero_le _,by omega,⟨none,rfl⟩,rfl⟩,fun i n σ2 H2 ⟨hi,hn,⟨o,hσ⟩,hH⟩=>?_⟩
 subst hσ hH
 have sq2:SqL K (upd H p (.lst ((wideOf (ns.take i)).map V.int))) a (ns.map V.int):=sq_upd sq hp
 by_cases he:i=ns.length
 ·refine .inl ⟨⟨_,sq2,by rw [List.length_map];omega⟩,?_⟩
  subst he
  rw [List.take_length]
  exact k p hp
 ·have hlt:i<ns.length:=by omega
  have gi:(ns.map V.int)[i]?=some (.int ns[i]):=by rw [List.getElem?_map,List.getElem?_eq_getElem hlt];rfl
  refine .inr ⟨⟨_,_,sq2,gi⟩,fun x H3 ⟨y1,y2⟩=>?_⟩
  subst y1
  have ex:=y2 _ sq2
  rw [gi] at ex
  cases ex
  refine ⟨.int ns[i],rfl,10,15,rfl,rfl,⟨by decide,by decide,by decide⟩,ns[i],10 ^ (15:Int).toNat,rfl,rfl,_,rfl,?_⟩
  have ew:=wide_take ns i ns[i] (List.getElem?_eq_getElem hlt)
  by_cases hc:(10:Int) ^ 15≤ns[i]
  ·have hd:decide ((10:Int) ^ (15:Int).toNat≤ns[i])=true:=decide_eq_true hc
   rw [hd]
   refine iteT ?_
   refine ⟨.int ns[i],rfl,(wideOf (ns.take i)).map V.int,upd_same,?_,n-1,by omega,by omega,by omega,⟨_,rfl⟩,?_⟩
   ·have:(wideOf (ns.take i)).length≤(ns.take i).length:=List.length_filter_le ..
    rw [List.length_map,sizeLine_eq]
    have:=List.length_take_le i ns
    omega
   ·rw [upd_upd',ew,if_pos (decide_eq_true hc),List.map_append]
    rfl
  ·have hd:decide ((10:Int) ^ (15:Int).toNat≤ns[i])=false:=decide_eq_false hc
   rw [hd]
   refine iteF ?_
   refine ⟨n-1,by omega,by omega,by omega,⟨_,rfl⟩,?_⟩
   rw [ew,if_neg (by simpa using hc),List.append_nil]
theorem pen_sem {K:PySem.W.Frag} {a:Addr} {ns:List Int} {H:Hp} {Q:VK} {N:St→Hp→Prop} (sq:SqL K H a (ns.map V.int)) (hl:ns.length≤63) (k:∀(p wa:Addr) (m:Int) (H':Hp),stD p wa ([m,0],wideOf ns) H'→(∀b u,H b=some u→H' b=some u)→H p=none→H wa=none→Q (.ref p) H') :
  tpenT K { nx:=N,rt:=Q } [some (.ref a),none,none] H:=by
 refine ⟨.ref a,rfl,a,rfl,⟨_,sq⟩,?_⟩
 refine ⟨fun i n σ2 H2=>i≤ns.length∧n=ns.length-i∧(∃x o2,σ2=[some (.ref a),some (.int x),o2])∧H2=H,⟨ns.length,Nat.zero_le _,by omega,⟨7,none,rfl⟩,rfl⟩,fun i n σ2 H2 ⟨hi,hn,⟨x,o2,hσ⟩,hH⟩=>?_⟩
 subst hσ hH
 by_cases he:i=ns.length
 ·refine .inl ⟨⟨_,sq,by rw [List.length_map];omega⟩,?_⟩
  intro p hp
  refine ⟨.int x,rfl,?_⟩
  have hp2:(upd H2 p (.dK [])) p=some (.dK []):=upd_same
  show tpenW K [some (.ref a),some (.int x),o2] (upd H2 p (.dK [])) (fun y H3=>H3 p=some (.dK [])∧∃kvs:List (Key×V),[(V.str (Str.ofString "mixed"),V.int x),(V.str (Str.ofString "turn"),V.int 0),(V.str (Str.ofString "wide"),y)]=kvs.map (fun kv=>(kV kv.1,kv.2))∧kvs.length≤15∧Q (.ref p) (upd H3 p (.dK (mergeK [] kvs))))
  refine penW_sem (sq_upd sq hp) hl fun wa hwa=>?_
  have ne:p≠wa:=fun z=>by rw [←z,upd_same] at hwa;cases hwa
  refine ⟨by rw [upd_ne ne];exact hp2,penKv x 0 wa,rfl,by show 3≤15;decide,?_⟩
  rw [merge_pen]
  have hwa0:H2 wa=none:=by rw [upd_ne (Ne.symm ne)] at hwa;exact hwa
  exact k p wa x _ ⟨x,0,rfl,upd_same,by rw [upd_ne (Ne.symm ne)];exact upd_same,ne⟩ (fun b u e=>by rw [upd_ne (ne_of_none e hp),upd_ne (ne_of_none e hwa0),upd_ne (ne_of_none e hp)];exact e) hp hwa0
 ·have hlt:i<ns.length:=by omega
  have gi:(ns.map V.int)[i]?=some (.int ns[i]):=by rw [List.getElem?_map,List.getElem?_eq_getElem hlt];rfl
  refine .inr ⟨⟨_,_,sq,gi⟩,fun σ' H'=>(∃x o2,σ'=[some (.ref a),some (.int x),o2])∧H'=H2,fun σ' H' h=>⟨n-1,by omega,by omega,by omega,h.1,h.2⟩,fun x' H' ⟨y1,y2⟩=>?_⟩
  subst y1
  have ex:=y2 _ sq
  rw [gi] at ex
  cases ex
  refine ⟨.int x,rfl,x,48271,rfl,rfl,.inr ⟨by decide,by decide⟩,.int ns[i],rfl,ns[i],1000000007,rfl,rfl,(by show (0:Int)<1000000007;decide),x*48271,ns[i] % 1000000007,rfl,rfl,x*48271+ns[i] % 1000000007,11,rfl,rfl,x*48271+ns[i] % 1000000007+11,2147483629,rfl,rfl,(by show (0:Int)<2147483629;decide),⟨_,_,rfl⟩,rfl⟩
noncomputable def inT (L:List (Addr×Str)) (b:Addr):Prop:=∃q,(b,q)∈L
noncomputable def TabSt (G0:Gh) (L:List (Addr×Str)) (P:Addr) (q:Str) (H:Hp):Prop:=∃ps,H P=some (.tbl ps)∧TriplesOk ps.toList∧∀pos cv,codeAmong pos ps.toList=some cv→∃c',cv=.ref c'∧H c'=some (.ext (codeφ c' q))∧¬G0.fp c'∧¬inT L c'
noncomputable def tabsG (G0:Gh) (L:List (Addr×Str)):Gh where
 fp:=fun b=>G0.fp b∨inT L b
 rd:=fun b=>G0.rd b∨inT L b
 pen:=G0.pen
 st:=fun s H=>G0.st s H∧∀P q,(P,q)∈L→TabSt G0 L P q H
 mono:=fun s H H' ⟨h1,h2⟩ k1 k2=>⟨G0.mono s H H' h1 (fun b o r=>k1 b o (.inl r)) k2,fun P q m=>by
  obtain ⟨ps,e,t,h⟩:=h2 P q m
  refine ⟨ps,k1 P _ (.inr ⟨q,m⟩) e,t,fun pos cv hc=>?_⟩
  obtain ⟨c',z1,z2,z3⟩:=h pos cv hc
  exact ⟨c',z1,k2 _ _ z2,z3⟩⟩
 sub:=fun b h=>h.elim (fun z=>.inl (G0.sub b z)) .inr
 dom:=fun s H b ⟨h1,h2⟩ hb=>by
  rcases hb with z | ⟨q,m⟩
  ·exact G0.dom s H b h1 z
  ·obtain ⟨ps,e,_⟩:=h2 b q m
   exact ⟨_,e⟩
 ntp:=fun s H b vs ⟨h1,h2⟩ hb=>by
  rcases hb with z | ⟨q,m⟩
  ·exact G0.ntp s H b vs h1 z
  ·obtain ⟨ps,e,_⟩:=h2 b q m
   rw [e];intro z;cases z
theorem codeAmong_put {pos pos':Pos} {c:Value} (l:List Value) (h:TriplesOk l) {cv:Value} (hc:codeAmong pos' (l ++ [rawInt pos.line,rawInt pos.col,c])=some cv):codeAmong pos' l=some cv∨cv=c:=by
 fun_induction TriplesOk l with
 | case1=>
  simp only [List.nil_append,rawInt,codeAmong] at hc
  split at hc
  ·exact .inr (Option.some.inj hc).symm
  ·cases hc
 | case2 a b d e f rest ih=>
  simp only [List.cons_append,codeAmong] at hc ⊢
  split at hc
  ·rename_i h1;rw [if_pos h1];exact .inl hc
  ·rename_i h1;rw [if_neg h1];exact ih h hc
 | case3=>cases h
theorem triples_put {pos:Pos} {c:Value} (l:List Value) (h:TriplesOk l):TriplesOk (l ++ [rawInt pos.line,rawInt pos.col,c]):=by
 fun_induction TriplesOk l with
 | case1=>simp [TriplesOk,rawInt]
 | case2 a b d e f rest ih=>simp only [List.cons_append,TriplesOk];exact ih h
 | case3=>cases h
noncomputable def LOk (L:List (Addr×Str)):Prop:=∀P q q',(P,q)∈L→(P,q')∈L→q=q'
noncomputable def PenT (GG0:Gh→Prop) (L:List (Addr×Str)) (G:Gh):Prop:=∃G0,GG0 G0∧(∀b,inT L b→¬G0.rd b)∧G=tabsG G0 L
theorem tabG_of {G0:Gh} {L:List (Addr×Str)} {P:Addr} {q:Str} (lo:LOk L) (hrd:∀b,inT L b→¬G0.rd b) (m:(P,q)∈L):TabG P q (tabsG G0 L):=by
 refine ⟨fun s H st=>?_,.inr ⟨q,m⟩,fun s H ps pos c' st hP hc hn=>?_⟩
 ·obtain ⟨ps,e,t,h⟩:=st.2 P q m
  refine ⟨ps,e,t,fun pos cv hc=>?_⟩
  obtain ⟨c',z1,z2,z3,z4⟩:=h pos cv hc
  exact ⟨c',z1,z2,fun z=>z.elim z3 z4⟩
 ·have hcP:c'≠P:=fun z=>by rw [z,hP] at hc;cases hc
  have notL:¬inT L c':=fun ⟨q',m'⟩=>by
   obtain ⟨_,e,_⟩:=st.2 c' q' m'
   rw [hc] at e;cases e
  have k2:∀b φ,H b=some (.ext φ)→upd (upd H P (.tbl (ps ++ #[rawInt pos.line,rawInt pos.col,.ref c']))) c' (.ext (codeφ c' q)) b=some (.ext φ):=fun b φ e=>by
   rw [upd_ne (ne_of_none e hc),upd_ne (fun z=>by rw [z,hP] at e;cases e)];exact e
  refine ⟨G0.mono s H _ st.1 (fun b o r e=>?_) k2,fun P' q' m'=>?_⟩
  ·rw [upd_ne (ne_of_none e hc),upd_ne (fun z=>hrd P ⟨q,m⟩ (by rw [←z];exact r))];exact e
  ·by_cases hb:P'=P
   ·subst hb
    have:=lo P' q q' m m'
    subst this
    obtain ⟨ps',e,t,h⟩:=st.2 P' q m
    rw [hP] at e;cases e
    refine ⟨_,by rw [upd_ne (Ne.symm hcP),upd_same],?_,fun pos' cv hcv=>?_⟩
    ·rw [Array.toList_append];exact triples_put _ t
    ·rw [Array.toList_append] at hcv
     rcases codeAmong_put (pos:=pos) _ t hcv with z | z
     ·obtain ⟨c2,z1,z2,z3⟩:=h pos' cv z
      exact ⟨c2,z1,k2 _ _ z2,z3⟩
     ·exact ⟨c',z,upd_same,Gh.nofp st.1 hc,notL⟩
   ·obtain ⟨ps',e,t,h⟩:=st.2 P' q' m'
    refine ⟨ps',by rw [upd_ne (ne_of_none e hc),upd_ne hb];exact e,t,fun pos' cv hcv=>?_⟩
    obtain ⟨c2,z1,z2,z3⟩:=h pos' cv hcv
    exact ⟨c2,z1,k2 _ _ z2,z3⟩
noncomputable def TabsG (L:List (Addr×Str)) (G:Gh):Prop:=∀P q,(P,q)∈L→TabG P q G
theorem PenT.tabs {GG0:Gh→Prop} {L:List (Addr×Str)} {G:Gh} (lo:LOk L) (h:PenT GG0 L G):TabsG L G:=by
 obtain ⟨G0,_,hrd,rfl⟩:=h
 exact fun P q m=>tabG_of lo hrd m
mutual
theorem Rep.tr {G G':Gh} {H H':Hp} (h:∀a o,¬G.fp a→H a=some o→(∀ps,o≠.tbl ps)→¬G'.fp a∧H' a=some o) (hp:G'.pen=G.pen):∀{d:D} {v:V},noClo d=true→Rep G H d v→Rep G' H' d v
 | .non,_,_,r=>Rep.non_iff.mpr (Rep.non_iff.mp r)
 | .bl _,_,_,r=>Rep.bl_iff.mpr (Rep.bl_iff.mp r)
 | .int _,_,_,r=>Rep.int_iff.mpr (Rep.int_iff.mp r)
 | .str _,_,_,r=>Rep.str_iff.mpr (Rep.str_iff.mp r)
 | .tup ds,v,n,r=>by
  obtain ⟨a,vs,e1,nf,e2,r⟩:=Rep.tup_iff.mp r
  obtain ⟨z1,z2⟩:=h a _ nf e2 (fun _ z=>by cases z)
  exact Rep.tup_iff.mpr ⟨a,vs,e1,z1,z2,RepL.tr h hp (by simpa [noClo] using n) r⟩
 | .lst ds,v,n,r=>by
  obtain ⟨a,vs,e1,nf,e2,r⟩:=Rep.lst_iff.mp r
  obtain ⟨z1,z2⟩:=h a _ nf e2 (fun _ z=>by cases z)
  exact Rep.lst_iff.mpr ⟨a,vs,e1,z1,z2,RepL.tr h hp (by simpa [noClo] using n) r⟩
 | .dk _,_,_,r=>by
  obtain ⟨a,e1,nf,e2⟩:=Rep.dk_iff.mp r
  obtain ⟨z1,z2⟩:=h a _ nf e2 (fun _ z=>by cases z)
  exact Rep.dk_iff.mpr ⟨a,e1,z1,z2⟩
 | .dt _,_,_,r=>by
  obtain ⟨a,o,e1,nf,e2⟩:=Rep.dt_iff.mp r
  obtain ⟨z1,z2⟩:=h a _ nf e2 (fun _ z=>by cases z)
  exact Rep.dt_iff.mpr ⟨a,o,e1,z1,z2⟩
 | .du _,_,_,r=>by
  obtain ⟨a,e1,nf,e2⟩:=Rep.du_iff.mp r
  obtain ⟨z1,z2⟩:=h a _ nf e2 (fun _ z=>by cases z)
  exact Rep.du_iff.mpr ⟨a,e1,z1,z2⟩
 | .df _,_,_,r=>by
  obtain ⟨a,o,e1,nf,e2⟩:=Rep.df_iff.mp r
  obtain ⟨z1,z2⟩:=h a _ nf e2 (fun _ z=>by cases z)
  exact Rep.df_iff.mpr ⟨a,o,e1,z1,z2⟩
 | .pen,_,_,r=>Rep.pen_iff.mpr ((Rep.pen_iff.mp r).trans hp.symm)
 | .ty _,_,_,r=>Rep.ty_iff.mpr (Rep.ty_iff.mp r)
 | .clo _ _,_,n,_=>by simp [noClo] at n
theorem RepL.tr {G G':Gh} {H H':Hp} (h:∀a o,¬G.fp a→H a=some o→(∀ps,o≠.tbl ps)→¬G'.fp a∧H' a=some o) (hp:G'.pen=G.pen):∀{ds:List D} {vs:List V},noClos ds=true→RepL G H ds vs→RepL G' H' ds vs
 | [],_,_,r=>RepL.nil_iff.mpr (RepL.nil_iff.mp r)
 | d::ds,vs,n,r=>by
  obtain ⟨v,rr,e,h1,h2⟩:=RepL.cons_iff.mp r
  have n':noClo d=true∧noClos ds=true:=by simpa [noClos] using n
  exact RepL.cons_iff.mpr ⟨v,rr,e,Rep.tr h hp n'.1 h1,RepL.tr h hp n'.2 h2⟩
end
open Classical in
noncomputable def hidL (L:List (Addr×Str)) (H H2:Hp):Hp:=fun b=>if inT L b then H2 b else H b
theorem hidL_in {L:List (Addr×Str)} {H H2:Hp} {b:Addr} (h:inT L b):hidL L H H2 b=H2 b:=by unfold hidL;rw [if_pos h]
theorem hidL_out {L:List (Addr×Str)} {H H2:Hp} {b:Addr} (h:¬inT L b):hidL L H H2 b=H b:=by unfold hidL;rw [if_neg h]
theorem fn_tabs {P:Program} {w:World} {K:PySem.W.Frag} {mg:Str→Option Value} {base:Heap} {k:Nat} {f:Addr} {fd:FuncData} {ps:List Str} {n:Nat} {fr:Bool} {GG0:Gh→Prop} {L:List (Addr×Str)} {F:List D→M D} (FN:FnOk P w K mg base CX0 k f fd ps (spD n fr GG0 F))
  (hF:∀ds s d s',F ds s=some (d,s')→noClos ds=true∧noClo d=true):FnOk P w K mg base CX0 k f fd ps (spD n fr (PenT GG0 L) F):=by
 refine FN.imp fun vs H Q E h=>?_
 obtain ⟨G,Hf,ds,s,d,s',⟨G0,hG0,hrd,rfl⟩,hl,e1,r,st,eF,k⟩:=h
 obtain ⟨n1,n2⟩:=hF _ _ _ _ eF
 have nfp:∀b,inT L b→¬G0.fp b:=fun b m z=>hrd b m (G0.sub b z)
 have e1':Ext G0 (hidL L Hf fun _=>none) H:=fun b o nb q=>by
  by_cases m:inT L b
  ·rw [hidL_in m] at q;cases q
  ·rw [hidL_out m] at q;exact e1 b o (fun z=>z.elim nb m) q
 refine ⟨G0,hidL L Hf fun _=>none,ds,s,d,s',hG0,hl,e1',RepL.tr (G:=tabsG G0 L) (G':=G0) (fun a o na q _=>?_) rfl n1 r,st.1,eF,fun v Hf' H' g st' r' fz=>?_⟩
 ·have m:¬inT L a:=fun z=>na (.inr z)
  exact ⟨fun z=>na (.inl z),by rw [hidL_out m];exact q⟩
 ·have tab:∀b,inT L b→∃ps,H' b=some (.tbl ps):=fun b ⟨q,m⟩=>by
   obtain ⟨ps,e,_⟩:=st.2 b q m
   exact ⟨ps,g.hh b _ (nfp b ⟨q,m⟩) e⟩
  have out:∀a o,¬G0.fp a→Hf' a=some o→(∀ps,o≠.tbl ps)→¬inT L a:=fun a o na q no m=>by
   obtain ⟨ps,e⟩:=tab a m
   rw [g.fh a o na q] at e
   exact no ps (Option.some.inj e)
  have tr:∀a o,¬G0.fp a→Hf' a=some o→(∀ps,o≠.tbl ps)→¬(tabsG G0 L).fp a∧hidL L Hf' Hf a=some o:=fun a o na q no=>by
   have m:=out a o na q no
   exact ⟨fun z=>z.elim na m,by rw [hidL_out m];exact q⟩
  refine k v (hidL L Hf' Hf) H' ⟨fun b o nb q=>g.hh b o (fun z=>nb (.inl z)) q,fun b o nb q=>?_,fun b o nb q=>?_,fun b nb q1 q2=>?_⟩ ⟨st',fun P q m=>?_⟩ (Rep.tr (G:=G0) (G':=tabsG G0 L) tr rfl n2 r') fun z a ea mu=>?_
  ·have m:¬inT L b:=fun z=>nb (.inr z)
   rw [hidL_out m]
   exact g.ff b o (fun z=>nb (.inl z)) (by rw [hidL_out m];exact q)
  ·have m:¬inT L b:=fun z=>nb (.inr z)
   rw [hidL_out m] at q
   exact g.fh b o (fun z=>nb (.inl z)) q
  ·have m:¬inT L b:=fun z=>nb (.inr z)
   rw [hidL_out m]
   exact g.nw b (fun z=>nb (.inl z)) (by rw [hidL_out m];exact q1) q2
  ·obtain ⟨ps,e,t,h⟩:=st.2 P q m
   refine ⟨ps,g.hh P _ (nfp P ⟨q,m⟩) e,t,fun pos cv hc=>?_⟩
   obtain ⟨c',z1,z2,z3,z4⟩:=h pos cv hc
   exact ⟨c',z1,g.hh c' _ z3 z2,z3,z4⟩
  ·obtain ⟨h1,h2⟩:=fz z a ea mu
   refine ⟨h1,fun xs ed=>?_⟩
   obtain ⟨us,Hm,q1,q2,q3,q4⟩:=h2 xs ed
   have na:¬inT L a:=fun m=>by
    obtain ⟨q,m⟩:=m
    obtain ⟨ps,e,_⟩:=st.2 a q m
    rw [h1] at e;cases e
   refine ⟨us,hidL L Hm fun _=>none,by rw [hidL_out na];exact q1,by rw [hidL_out na];exact q2,fun b o nb q=>?_,?_⟩
   ·have m:¬inT L b:=fun z=>nb (.inr z)
    rw [hidL_out m] at q ⊢
    exact q3 b o (fun z=>nb (.inl z)) q
   ·subst ed
    refine RepL.tr (G:=G0) (G':=tabsG G0 L) (fun b o nb q no=>?_) rfl (by simpa [noClo] using n2) q4
    have m:=out b o nb (q3 b o nb q) no
    exact ⟨fun z=>z.elim nb m,by rw [hidL_out m];exact q⟩
theorem cal_tabs {P:Program} {w:World} {K:PySem.W.Frag} {mg:Str→Option Value} {base:Heap} {k:Nat} {x:Str} {n:Nat} {fr:Bool} {GG0:Gh→Prop} {L:List (Addr×Str)} {F:List D→M D} (c:Cal P w K mg base k x n fr GG0 F) (hF:∀ds s d s',F ds s=some (d,s')→noClos ds=true∧noClo d=true):Cal P w K mg base k x n fr (PenT GG0 L) F:=
 let ⟨f,fd,ps,a,b,c,d⟩:=c
 ⟨f,fd,ps,fn_tabs a hF,b,c,d⟩
theorem drawF_no:∀ds s d s',drawF ds s=some (d,s')→noClos ds=true∧noClo d=true:=fun ds s d s' h=>by
 obtain ⟨k,m,t,w,rfl,rfl,_,_,_,_,e⟩:=drawF_some h
 refine ⟨rfl,?_⟩
 unfold drawS at e
 split at e <;> (cases e;rfl)
theorem fnD_body {N ps:List Str} {own:List Nat} {fr:Bool} {G:Gh} {t:TS} {g:Rho→M Out} {vs:List V} {ds:List D} {Hf H:Hp} {pn pn':Pn} {d:D} {Q:VK} (hpl:ps.length≤N.length) (q:Dos G [] [] own fr t g) (e1:Ext G Hf H) (r:RepL G Hf ds vs) (st':G.st pn H) (eF:runB N.length ps.length g ds pn=some (d,pn'))
  (k':∀v Hf' H',Gr G Hf H Hf' H'→G.st pn' H'→Rep G Hf' d v→(fr=true→FreshL G H Hf' d v)→Q v H'):t { nx:=fun _ H'=>Q .non H',rt:=Q } (L2.start N vs) H:=by
 obtain ⟨hl,a0⟩:=mif_some eF
 obtain ⟨o,s1,a1,a2⟩:=mbind_some a0
 have j0:Jf G [] Hf Hf H (L2.start N vs) Hf H (ds.map some++List.replicate (N.length-ps.length) none):=by
  refine ⟨?_,.refl _ _,.refl e1,fun i d n e=>?_,fun i d m e=>absurd m (by simp),fun i j a di dj mi mj n e=>absurd mi (by simp)⟩
  ·have:=r.length
   unfold L2.start;simp;omega
  ·have hi:i<ds.length:=by
    by_cases hi:i<ds.length
    ·exact hi
    ·rw [List.getElem?_append_right (by simpa using hi),List.getElem?_replicate] at e
     split at e <;> cases e
   have e':ds[i]?=some d:=by
    rw [List.getElem?_append_left (by simpa using hi),List.getElem?_map] at e
    cases q:ds[i]? with
    | none=>rw [q] at e;cases e
    | some c=>rw [q] at e;simp at e;rw [e]
   obtain ⟨v,h1,h2⟩:=r.get e'
   refine ⟨v,?_,h2⟩
   unfold L2.start
   rw [List.getElem?_append_left (by simp;rw [←r.length];exact hi),List.getElem?_map,h1]
   rfl
 refine q Hf Hf H (L2.start N vs) H _ pn o s1 _ ⟨Hf,j0⟩ st' a1 ?_
 cases o with
 | rt c=>
  obtain ⟨rfl,rfl⟩:=mret_some a2
  exact fun v Hf' H' g' st2 r2 fz=>k' v Hf' H' g' st2 r2 fz
 | nx ρ'=>
  obtain ⟨rfl,rfl⟩:=mret_some a2
  exact fun σ' H' ⟨Hf',j'⟩ st2=>k' .non Hf' H' j'.gr st2 (Rep.non_iff.mpr rfl) fun _=>.scal fun z=>z
 | bk ρ'=>cases a2
 | ct ρ'=>cases a2
theorem fnDC {P:Program} {w:World} {K:PySem.W.Frag} {mg:Str→Option Value} {base:Heap} {x qual:Str} {st:Stmt} {f:Addr} {fd:FuncData} {N ps:List Str} {k:Nat} {own:List Nat} {fr:Bool} {GG:Gh→Prop} {g:Rho→M Out}
  (F:Fun K x qual st f fd) (S:FnScope N ps (defScope st))
  (hb:∀(A:Around) (outer:List Env) (s:Shared) (H:Hp) (E:XK),Room k (A.deeper (envOfC qual (defScope st) s.heap.objs.size f fd.code))→∀G,GG G→PDSs (cxOf CX0 P w K mg base N qual (defScope st) f fd.code A outer s H E).nox G [] [] own fr (defBody st) g) :
  FnOk P w K mg base CX0 (k+1) f fd ps (spD ps.length fr GG (runB N.length ps.length g)):=by
 obtain ⟨oc,od,kV,doc,pm,an,cdv,ct,osl,rfl,lk,hcd⟩:=F.ex
 refine fn_of lk hcd S (fun vs H Q E ⟨_,_,_,_,_,_,_,e,_⟩=>e) fun A outer s H vs Q E hr h=>?_
 obtain ⟨G,Hf,ds,pn,d,pn',hG,el,e1,r,st',eF,k'⟩:=h
 obtain ⟨t,p,q⟩:=hb A outer s H E hr G hG
 exact ⟨t,p.nox,fnD_body (by have:=congrArg List.length S.pre;rw [List.length_take] at this;omega) q e1 r st' eF k'⟩
noncomputable def CalG (P:Program) (w:World) (K:PySem.W.Frag) (mg:Str→Option Value) (k:Nat) (x:Str) (n:Nat) (F:List D→M D):Prop:=
 ∃f fd ps fr,(∀base,FnOk P w K mg base CX0 k f fd ps (spD n fr AnyG F))∧ps.length=n∧mg x=some (.ref f)∧(∃oc od sl,K.lookup f=some ⟨oc,od,.func fd,sl⟩)∧Binds K fd ps []
section
variable {X:Cx} {G:Gh} {P c:Addr} {q:Str} {k kl n:Nat} {x:Str} {fr frb:Bool} {F:List D→M D} {T:Nat→List D→M D} {t:Nat} {e1:Expr} {f1:Rho→M D} {r1:Bool} {params:Arguments} {scope:Scope} {lpos ppos pos:Pos} {XN N ps:List Str} {NS:List (Str×NameKind)} {cix:List Nat}
theorem glo_ok {P:Program} {w:World} {K:PySem.W.Frag} {mg:Str→Option Value} {base':Heap} {y:Str} {FF:List D→M D} (h:CalG P w K mg k y n FF) (hT:T t=FF):∃f,mg y=some (.ref f)∧CloG P w K mg k n T base' (gloG G t f):=by
 obtain ⟨f,fd,ps,fr,FN,hl,hm,⟨oc,od,sl,lk⟩,hb⟩:=h
 refine ⟨f,hm,?_⟩
 rintro t' v cs ⟨rfl,rfl,rfl⟩
 refine ⟨f,fd,ps,rfl,hl,hb,fun s H st h ok KX=>⟨oc,od,sl,KX _ _ lk⟩,?_⟩
 rw [hT]
 refine (FN base').imp fun us H Q E ⟨Hf,ds,cds,s,d,s',l,e1,r1,r2,st,eF,kk⟩=>?_
 have:cds=[]:=by
  cases cds with
  | nil=>rfl
  | cons a b=>obtain ⟨_,_,e,_⟩:=RepL.cons_iff.mp r2;cases e
 subst this
 rw [List.append_nil] at eF
 exact ⟨_,Hf,ds,s,d,s',trivial,l,e1,r1,st,eF,fun v Hf' H' g st' r _=>kk v Hf' H' g st' r⟩
theorem pd_callGlo {y:Str} {FF:List D→M D} {ypos:Pos} (hW:CalA X.prog X.w X.K X.mg k x 2 fr (CloG X.prog X.w X.K X.mg kl n T) F) (hY:CalG X.prog X.w X.K X.mg kl y n FF) (hT:T t=FF) (hfn:∀x,X.fn x=true) (hr:Room k X.A) (hg:Gl X x) (hgy:Gl X y) (h1:PD X G r1 e1 f1)
  (hdb:(x==("__debug__" : Str))=false:=by decide) (hdy:(y==("__debug__" : Str))=false:=by decide)
  (he:starEach [e1,.Name y ypos] X.env=(false,eval e1 X.env)::starEach [.Name y ypos] X.env:=by rfl) (he2:starEach [Expr.Name y ypos] X.env=(false,eval (.Name y ypos) X.env)::starEach [] X.env:=by rfl)
  (hpl:(backTo pos (starEach [Expr.Name y ypos] X.env)).any (·.1)=false:=by rfl) :
  PD X G fr (.Call (.Name x ppos) [e1,.Name y ypos] [] pos) (dFnC F t [] f1):=by
 obtain ⟨t1,p1,q1⟩:=h1.drop
 obtain ⟨f,fd0,ps0,FN,hm,hk,hbd⟩:=hW
 obtain ⟨fy,hmy,_⟩:=glo_ok (base':=X.base) (G:=G) hY hT
 refine ⟨_,pe_callC FN hfn hr hg hm hk hbd (pa_cons p1 (pa_cons (pe_glob (v:=.ref fy) hgy hmy rfl hdy) pa_nil he2) he) hdb he hpl,fun σ Hf H ρ s d s' Q x1 x2 x3 x4 k=>?_⟩
 obtain ⟨d1,s1,a1,a2⟩:=mbind_some x4
 obtain ⟨cds,s2,b3,a4⟩:=mbind_some a2
 obtain ⟨a3,rfl⟩:=mOf_some b3
 cases a3
 obtain ⟨hn,a5⟩:=mif_some a4
 obtain ⟨cc,s3,a6,a7⟩:=mbind_some a5
 obtain ⟨hn2,a8⟩:=mif_some a7
 obtain ⟨rfl,rfl⟩:=mret_some a8
 obtain ⟨hn0,hn1⟩:=Bool.and_eq_true_iff.mp hn
 refine q1 σ Hf H ρ s d1 _ _ x1 x2 x3 a1 fun v1 Hf1 H1 g1 st1 rv1=>?_
 intro base' cs
 obtain ⟨fy2,hmy2,hC⟩:=glo_ok (base':=base') (G:=G) hY hT
 rw [hmy] at hmy2;cases hmy2
 refine ⟨gloG G t fy,Hf1,[d1,.clo t []],_,d,_,hC,rfl,g1.fh,?_,st1,a6,fun v Hf3 H3 g3 st3 r3 fz=>?_⟩
 ·exact .cons (Rep.re (G:=G) (G':=gloG G t fy) rfl rfl hn0 rv1) (.one (Rep.clo_iff.mpr ⟨[],⟨rfl,rfl,rfl⟩,RepL.nil_iff.mpr rfl⟩))
 ·have g3':Gr G Hf1 H1 Hf3 H3:=Gr.re (G:=gloG G t fy) (G':=G) rfl g3
  have rr:Rep G Hf3 d v:=Rep.re (G:=gloG G t fy) (G':=G) rfl rfl hn2 r3
  exact k v Hf3 H3 (g1.trans g3') st3 rr fun z=>FreshL.old g1.hh rr.nofp (FreshL.re (G:=gloG G t fy) (G':=G) rfl rfl hn2 (fz z))
end
noncomputable def BMn (mg:Str→Option Value) (h:Heap):Prop:=∃bm o,mg "__builtins__" = some (.ref bm)∧bm≠builtinsNs∧bm≠mainGlobals∧h.get? bm=some o∧o.cls=.type "module"∧o.dict=some builtinsNs∧o.data=.plain
theorem law_callT {P:Program} {w:World} {K:PySem.W.Frag} {mg mb:Str→Option Value} {CX:CXT} {k:Nat} {fa a:Addr} {fd:FuncData} {x:Str} {sp:Sp} {s₁:Shared} {vs:List Value} {ns:List Int} {tb:List (Addr×Addr)}
  (KX:K.In s₁.heap) (hns:s₁.heap.Ns mainGlobals mg) (hb:s₁.heap.Ns builtinsNs mb) (hbb:∀x:Str,x≠"__name__"→mb x=bootBuiltins x) (hlim:s₁.heap.NoLimit) (hg:s₁.gens = #[])
  (hT:∀e∈tb,PySem.W.CodeHd s₁.heap e.1 e.2∧s₁.heap.get? e.2=some (PySem.W.tabObj #[])) (hKt:PySem.W.noTabs K=true) (hbm:BMn mg s₁.heap)
  (ha:s₁.heap.get? a=some { cls:=.type "list",data:=.seq vs.toArray }) (hi:IntsAre vs ns) (hl:ns.length≤sizeLine) (hr:Room k callerA)
  (F:∀base:Heap,K.In base→base.Ns mainGlobals mg→(∀e∈tb,PySem.W.CodeHd base e.1 e.2)→BMn mg base→FnOk P w K mg base CX k fa fd [x] sp) (hbind:∀(s:Shared) (u:Value),BindsTo s fd ⟨[u],[]⟩ [(x,u)])
  (hsp:∀H:Hp,SqL K H a (ns.map V.int)→(∀e∈tb,H e.2=some (.tbl #[]))→sp [.ref a] H (fun v _=>v=.bl true) fun _ _ _=>False)
  (hCX:∀H e s',CX [] H s₁ (fun _ _ _=>False) e s'→False) :
  codeAny (model P w) callerA (.call (.ref fa) ⟨[.ref a],[]⟩) (fun r s'=>r=.ok (.ret (.bool true))∧OldK s₁.heap s'.heap∧s'.os=s₁.os∧AllBare s'.gens) s₁:=by
 have rv:=vals_ints hi
 have lenV:=hi.length
 have tabne:∀e∈tb,e.2≠a:=fun e he z=>by
  have:=(hT e he).2
  rw [z,ha] at this;cases this
 have noK:∀e∈tb,K.lookup e.2=none:=fun e he=>by
  cases q:K.lookup e.2 with
  | none=>rfl
  | some o=>
   have h2:=List.all_eq_true.mp hKt (e.2,o) (PySem.W.mem_of_lookupK q)
   have e1:=KX _ _ q
   rw [(hT e he).2] at e1
   cases e1
   exact absurd (show false=true from h2) Bool.false_ne_true
 have core:∀H:Hp,(∀b u,H b=some u→(b=a∧u=.frz { cls:=.type "list",data:=.seq vs.toArray } (.lst (ns.map V.int))∧K.lookup a=none)∨(u=.tbl #[]∧∃e∈tb,e.2=b))→SqL K H a (ns.map V.int)→(∀e∈tb,H e.2=some (.tbl #[]))→
   codeAny (model P w) callerA (.call (.ref fa) ⟨[.ref a],[]⟩) (fun r s'=>r=.ok (.ret (.bool true))∧OldK s₁.heap s'.heap∧s'.os=s₁.os∧AllBare s'.gens) s₁:=by
  intro H hO hS hTb
  have hok:HOk P w H s₁.heap:=fun b u e=>by
   rcases hO b u e with ⟨rfl,rfl,_⟩ | ⟨rfl,e',he,rfl⟩
   ·exact ⟨ha,by rw [List.length_map];exact hl,vs,_,rv,ha⟩
   ·exact (hT e' he).2
  have base_of:∀{b:Addr} {o:Obj},s₁.heap.get? b=some o→H b=none→(hidT s₁.heap H).get? b=some o:=fun e n=>hidT_get e n
  have noA:∀{b:Addr} {o:Obj},s₁.heap.get? b=some o→(∀vs n,o.data≠.seq vs n)→(∀vs,o.data≠.fields vs∨o.cls≠.none)→H b=none:=fun {b o} e d1 d2=>by
   cases q:H b with
   | none=>rfl
   | some u=>
    rcases hO b u q with ⟨rfl,_,_⟩ | ⟨_,e',he,rfl⟩
    ·rw [ha] at e;cases e;exact absurd rfl (d1 _ _)
    ·rw [(hT e' he).2] at e;cases e
     rcases d2 #[] with z | z
     ·exact absurd rfl z
     ·exact absurd rfl z
  have nsK:∀{b:Addr} {m:Str→Option Value},s₁.heap.Ns b m→(hidT s₁.heap H).Ns b m:=fun {b m} ⟨o,es,ep,e,d,r⟩=>⟨o,es,ep,base_of e (noA e (fun _ _ z=>by rw [d] at z;cases z) fun _=>.inl fun z=>by rw [d] at z;cases z),d,r⟩
  have hKb:K.In (hidT s₁.heap H):=fun b o e=>base_of (KX b o e) (by
   cases q:H b with
   | none=>rfl
   | some u=>
    rcases hO b u q with ⟨rfl,_,z⟩ | ⟨_,e',he,rfl⟩
    ·rw [z] at e;cases e
    ·rw [noK e' he] at e;cases e)
  have hM:Mod K mg (hidT s₁.heap H):=⟨hKb,nsK hns,⟨mb,nsK hb,hbb⟩,let ⟨mc,h1,h2⟩:=hlim;⟨mc,nsK h1,h2⟩⟩
  have e0:Env0 P w K mg (hidT s₁.heap H) callerA [] s₁ H:=⟨rfl,hM,fun b o e=>of_hidT e,Nat.le_of_eq (hidT_size _ _),trivial,fun b hb=>absurd (show b∈([]:List Addr) from hb) (by simp),hok,.of_eq hg⟩
  have hCd:∀e∈tb,PySem.W.CodeHd (hidT s₁.heap H) e.1 e.2:=fun e he=>by
   obtain ⟨o,vs',file,tf,flags,tg,inF,text,tt,e1,r1,r2,r3⟩:=(hT e he).1
   exact ⟨o,vs',file,tf,flags,tg,inF,text,tt,base_of e1 (noA e1 (fun _ _ z=>by rw [r2] at z;cases z) fun _=>.inr (by rw [r1];nofun)),r1,r2,r3⟩
  have hBm:BMn mg (hidT s₁.heap H):=by
   obtain ⟨bm,o,e1,e2,e3,e4,e5,e6,e7⟩:=hbm
   exact ⟨bm,o,e1,e2,e3,base_of e4 (noA e4 (fun _ _ z=>by rw [e7] at z;cases z) fun _=>.inl fun z=>by rw [e7] at z;cases z),e5,e6,e7⟩
  refine codeAny_mono ((F _ hKb (nsK hns) hCd hBm).run callerA [] s₁ H ⟨[.ref a],[]⟩ [.ref a] [.ref a] _ _ hr e0 (hbind s₁ (.ref a)) (.cons rfl .nil) (hsp H hS hTb)) fun r s' h=>?_
  cases r with
  | error e=>exact (hCX H e s' h).elim
  | ok fl=>
   cases fl with
   | next=>exact False.elim h
   | brk=>exact False.elim h
   | cont=>exact False.elim h
   | ret u=>
    obtain ⟨v,H',os,bare,un,hok',r',q⟩:=h
    have q':v=.bl true:=q
    subst q'
    obtain rfl:u=Value.bool true:=r'
    refine ⟨rfl,⟨fun b o e=>?_,fun b o e=>un.there b o e (by simp)⟩,os,bare⟩
    cases q:H b with
    | none=>exact .inl (un.keep b o e q (by intro z;exact absurd (show b∈([]:List Addr) from z) (by simp)) (by simp))
    | some u=>
     rcases hO b u q with ⟨rfl,rfl,_⟩ | ⟨rfl,e',he,rfl⟩
     ·have z2:=un.frzs b _ _ q
      obtain ⟨e1,_⟩:=hok b _ q
      obtain ⟨e2,_⟩:=hok' b _ z2
      rw [e] at e1;cases e1
      exact .inl e2
     ·obtain ⟨more,z⟩:=un.tbls _ _ q
      have z2:s'.heap.get? e'.2=some (PySem.W.tabObj (#[]++more)):=hok' _ _ z
      have e1:=(hT e' he).2
      rw [e] at e1;cases e1
      exact .inr (.inl ⟨((hT e' he).1.tab (hT e' he).2).isCodeTable,rfl,#[],more,rfl,z2⟩)
 cases hk:K.lookup a with
 | some o=>
  have e:=KX a o hk
  rw [ha] at e
  cases e
  refine core (fun b=>open Classical in if ∃e∈tb,e.2=b then some (.tbl #[]) else none) (fun b u z=>?_) (.inr ⟨_,vs.toArray,_,hk,rfl,rfl,rfl,by rw [List.size_toArray,lenV];exact hl,by simpa using rv⟩) (fun e he=>if_pos ⟨e,he,rfl⟩)
  by_cases h:∃e∈tb,e.2=b
  ·rw [if_pos h] at z;cases z;exact .inr ⟨rfl,h⟩
  ·rw [if_neg h] at z;cases z
 | none=>
  refine core (fun b=>open Classical in if ∃e∈tb,e.2=b then some (.tbl #[]) else if b=a then some (.frz { cls:=.type "list",data:=.seq vs.toArray } (.lst (ns.map V.int))) else none) (fun b u z=>?_) (.inl (.inr ⟨{ cls:=.type "list",data:=.seq vs.toArray },?_⟩)) (fun e he=>if_pos ⟨e,he,rfl⟩)
  ·by_cases h:∃e∈tb,e.2=b
   ·rw [if_pos h] at z;cases z;exact .inr ⟨rfl,h⟩
   ·rw [if_neg h] at z
    by_cases hb:b=a
    ·rw [if_pos hb] at z;cases z;exact .inl ⟨hb,rfl,hk⟩
    ·rw [if_neg hb] at z;cases z
  ·show (if ∃e∈tb,e.2=a then _ else _)=_
   rw [if_neg (fun ⟨e,he,z⟩=>tabne e he z),if_pos rfl]
theorem walk_ofT {l : PySem.W.OpenLaw} {n k : Nat} {q : Program} {loose : List Str} {XP : (Str → Option Value) → Heap → Prop} {YP : World → Heap → Prop} {d : DefRec} {K : Params → PySem.W.Frag} {CX : World → CXT} {sp : World → Sp} {x : Str} {tb : List (Str × Addr × Addr)}
    (hn : l.most = some n) (hn2 : n ≤ sizeLine) (hdf : d.params.defaults = []) (hr : Room k callerA)
    (hY : ∀ (w : World) (h : Heap), YP w h → (K w.params).In h)
    (hrec : ∀ e ∈ tb, ∃ d, (recsOf q).find? (fun r => r.name == e.1) = some d) (htab : ∀ w : World, ∀ e ∈ tb, PySem.W.tabIn (K w.params) e.1 = some e.2) (hno : ∀ w : World, PySem.W.noTabs (K w.params) = true)
    (F : ∀ (w : World) (mg : Str → Option Value) (fa : Addr) (h : Heap), (K w.params).In h → h.Ns mainGlobals mg → mg d.name = some (.ref fa) →
      ∃ fd : FuncData, (∀ (s : Shared) (u : Value), BindsTo s fd ⟨[u], []⟩ [(x, u)]) ∧
        ∀ base : Heap, (K w.params).In base → base.Ns mainGlobals mg → (∀ e ∈ tb, PySem.W.CodeHd base e.2.1 e.2.2) → BMn mg base → FnOk l.prog w (K w.params) mg base (CX w) k fa fd [x] (sp w))
    (hsp : ∀ (w : World) (H : Hp) (a : Addr) (ns : List Int), ns.length ≤ n → SqL (K w.params) H a (ns.map V.int) → (∀ e ∈ tb, H e.2.2 = some (.tbl #[])) → sp w [.ref a] H (fun v _ => v = .bl true) fun _ _ _ => False)
    (hCX : ∀ (w : World) (H : Hp) (s : Shared) (e : Value) (s' : Shared), CX w [] H s (fun _ _ _ => False) e s' → False) :
    PySem.W.WalkO q loose XP YP l.row.toRowW d [] (fun f vs => PySem.call f vs) := by
  refine Att.attach_call hn hdf fun w s₀ s₁ mg mb fa o pm cd doc a vs ns G Y ho hd hcd hmg hobj hints hlen hg => ?_
  have KX := hY w _ Y
  obtain ⟨fd, hb, hF⟩ := F w mg fa _ KX G.T.g hmg
  have hT : ∀ e ∈ tb.map (·.2), PySem.W.CodeHd s₁.heap e.1 e.2 ∧ s₁.heap.get? e.2 = some (PySem.W.tabObj #[]) := fun e he => by
    obtain ⟨e', he', rfl⟩ := List.mem_map.mp he
    obtain ⟨d', hd'⟩ := hrec e' he'
    exact PySem.W.tab_of G.T KX hd' (htab w e' he')
  exact law_callT (tb := tb.map (·.2)) KX G.T.g G.T.b G.T.builtins G.T.nolimit hg hT (hno w) (let ⟨bm, ob, a, b, c, d, e, f⟩ := G.T.bmain; ⟨bm, ob, a, b, (fun z => by
      obtain ⟨o, es, ep, e', hd', _⟩ := G.T.g
      rw [z, e'] at c; cases c; rw [hd'] at f; cases f), c, d, e, f⟩) hobj hints (Nat.le_trans hlen hn2) hr
    (fun base h1 h2 h3 h4 => hF base h1 h2 (fun e he => h3 e.2 (List.mem_map_of_mem (f := (·.2)) he)) h4) hb (fun H hS hTb => hsp w H a ns hlen hS fun e he => hTb e.2 (List.mem_map_of_mem (f := (·.2)) he)) fun H e s' => hCX w H s₁ e s'
end TF
namespace L2
open PySem PySem.Spec PyProof.Rows
section
variable {X:Cx} {pins:List (Addr×Obj)} {σ:St} {H:Hp} {s:Shared} {h':Heap}
theorem Inv.turnedN {t':Nat} {fp:List Addr} (I:Inv X pins σ H s) (k:∀b o,b∉fp→s.heap.get? b=some o→h'.get? b=some o) (hf:∀b∈fp,FpOk X pins H b):Inv X pins σ H { s with heap:=h',toks:=t' }:=by
 have nit:∀b u,H b=some u→b∉fp:=fun b u e z=>by rw [(hf b z).1] at e;cases e
 refine I.step (g':=s.gens) (d':=s.drawn) (ch:=fp) (fun b hb=>?_) (fun b o _ _ hc e _=>k b o hc e) (fun b o _ _ hc e _=>⟨o.slots,k b o hc e⟩) (fun _ _ _ _ n=>n)
  (fun b o hc e=>⟨o,k b o hc e⟩) (fun _ _ e=>e) (fun _ _ _ e=>e) (fun b ps e=>⟨#[],by rw [e];simp⟩) (fun m hm=>?_) (fun b u e=>?_) I.bare
 ·obtain ⟨f0,f1,f2,f3,f4,f5⟩:=hf b hb
  exact ⟨f3,f1,f4,f5⟩
 ·obtain ⟨o,es,ep,ho,r⟩:=hm
  exact ⟨o,es,ep,k _ o (fun z=>(hf _ z).2.1 rfl) ho,r⟩
 ·refine (I.hok b u e).stay (fun c v hc q=>k c v ?_ q) (fun _ q=>q) fun _ _ q=>q
  rcases hc with z | z
  ·rw [z];exact nit b u e
  ·exact nit c _ z
theorem Inv.turnedT {t':Nat} {fp:List Addr} {T:Addr} {o:HO} (I:Inv X pins σ H s) (k:∀b o,b∉fp→s.heap.get? b=some o→h'.get? b=some o) (hf:∀b∈fp,FpOk X pins H b) (hT:s.heap.objs.size≤T) (new:ObjOk X.prog X.w (upd H T o) h' T o):Inv X pins σ (upd H T o) { s with heap:=h',toks:=t' }:=by
 have hn:=I.hok.fresh hT
 have nit:∀b u,H b=some u→b∉fp:=fun b u e z=>by rw [(hf b z).1] at e;cases e
 refine I.step (g':=s.gens) (d':=s.drawn) (ch:=fp) (fun b hb=>?_) (fun b o _ _ hc e _=>k b o hc e) (fun b o _ _ hc e _=>⟨o.slots,k b o hc e⟩) (fun b u _ q n=>by rw [upd_ne (Nat.ne_of_lt (Nat.lt_of_lt_of_le (Heap.lt_size q) hT))];exact n)
  (fun b o hc e=>⟨o,k b o hc e⟩) (fun b xs q=>by rw [upd_ne (ne_of_none q hn)];exact q) (fun b u xs q=>by rw [upd_ne (ne_of_none q hn)];exact q) (fun b ps q=>⟨#[],by rw [upd_ne (ne_of_none q hn),q];simp⟩) (fun m hm=>?_) (fun b u e=>?_) I.bare
 ·obtain ⟨f0,f1,f2,f3,f4,f5⟩:=hf b hb
  exact ⟨f3,f1,f4,f5⟩
 ·obtain ⟨o,es,ep,ho,r⟩:=hm
  exact ⟨o,es,ep,k _ o (fun z=>(hf _ z).2.1 rfl) ho,r⟩
 ·by_cases hb:b=T
  ·subst hb;rw [upd_same] at e;cases e;exact new
  ·rw [upd_ne hb] at e
   refine (I.hok b u e).stay (fun c v hc q=>k c v ?_ q) (fun c q=>by rw [upd_ne (ne_of_none q hn)];exact q) fun c xs q=>by rw [upd_ne (ne_of_none q hn)];exact q
   rcases hc with z | z
   ·rw [z];exact nit b u e
   ·exact nit c _ z
end
noncomputable def Itz (K:PySem.W.Frag) (a b:Addr):It where
 go:=fun i H=>∃xs ys x y,SqL K H a xs∧SqL K H b ys∧xs[i]?=some x∧ys[i]?=some y
 yld:=fun i H v H'=>∃T x y,H T=none∧v=.ref T∧H'=upd H T (.tup [x,y])∧(∀xs,SqL K H a xs→xs[i]?=some x)∧(∀ys,SqL K H b ys→ys[i]?=some y)
 stop:=fun i H=>∃xs ys,SqL K H a xs∧SqL K H b ys∧i=min xs.length ys.length
structure ZDist (z TI TO i1 i2:Addr):Prop where
 TIz:TI≠z
 TOz:TO≠z
 i1z:i1≠z
 i2z:i2≠z
 TITO:TI≠TO
 TIi1:TI≠i1
 TIi2:TI≠i2
 TOi1:TO≠i1
 TOi2:TO≠i2
 i12:i1≠i2
theorem zdist (n:Nat):ZDist (n+4) (n+2) (n+3) n (n+1):=by
 have h:∀a b:Nat,a≠b→(a:Addr)≠(b:Addr):=fun _ _ h=>h
 exact ⟨h _ _ (by omega),h _ _ (by omega),h _ _ (by omega),h _ _ (by omega),h _ _ (by omega),h _ _ (by omega),h _ _ (by omega),h _ _ (by omega),h _ _ (by omega),h _ _ (by omega)⟩
noncomputable def zipTn (z TI TO i1 i2 a b:Addr) (i:Nat) (h:Heap):Prop:=IsZip h z TI TO .none∧IsPair h TI (.ref i1) (.ref i2)∧(∃x y,IsPair h TO x y)∧h.IsListIter i1 a i∧h.IsListIter i2 b i
theorem cls_ne {h:Heap} {a b:Addr} {o:Obj} {T:String} (ha:∃oa,h.get? a=some oa∧oa.cls=.type "list") (hb:h.get? b=some o) (hc:o.cls=.type T) (hT:T≠"list"):a≠b:=fun z=>by
 obtain ⟨oa,e,c⟩:=ha
 rw [z,hb] at e
 cases e
 rw [hc] at c
 exact hT (Value.type.inj c)
theorem zip_apart {h:Heap} {z TI TO i1 i2 a b:Addr} {i:Nat} {xs ys:Array Value} (D:ZDist z TI TO i1 i2) (st:zipTn z TI TO i1 i2 a b i h) (ha:h.IsList a xs) (hb:h.IsList b ys):ZipApart z TI TO i1 i2 a b:=by
 obtain ⟨hz,hTI,⟨x,y,hTO⟩,h1,h2⟩:=st
 obtain ⟨o1,e1,c1,d1⟩:=h1
 obtain ⟨o2,e2,c2,d2⟩:=h2
 have la:∃oa,h.get? a=some oa∧oa.cls=.type "list":=let ⟨o,e,c,_⟩:=ha;⟨o,e,c⟩
 have lb:∃oa,h.get? b=some oa∧oa.cls=.type "list":=let ⟨o,e,c,_⟩:=hb;⟨o,e,c⟩
 exact ⟨D.TIz,D.TOz,D.i1z,D.i2z,D.TITO,D.TIi1,D.TIi2,D.TOi1,D.TOi2,D.i12,cls_ne la hz rfl (by decide),cls_ne la hTO rfl (by decide),cls_ne la e1 c1 (by decide),cls_ne la e2 c2 (by decide),cls_ne lb hz rfl (by decide),cls_ne lb hTO rfl (by decide),cls_ne lb e1 c1 (by decide),cls_ne lb e2 c2 (by decide)⟩
theorem turn_zip {P:Program} {w:World} {K:PySem.W.Frag} {elts:List Expr} {k:Nat} {pos:Pos} (a b z TI TO i1 i2:Addr) (D:ZDist z TI TO i1 i2):Turn P w K (.Tuple elts k pos) (Itz K a b) [z,TI,TO,i1,i2] z (zipTn z TI TO i1 i2 a b) where
 mem:=by simp
 obj:=fun i h st c hc=>by
  obtain ⟨hz,hTI,⟨x,y,hTO⟩,⟨o1,e1,c1,d1⟩,⟨o2,e2,c2,d2⟩⟩:=st
  simp only [List.mem_cons,List.not_mem_nil,or_false] at hc
  rcases hc with rfl | rfl | rfl | rfl | rfl
  ·exact ⟨_,hz,fun v q=>by cases q⟩
  ·exact ⟨_,hTI,fun v q=>by cases q⟩
  ·exact ⟨_,hTO,fun v q=>by cases q⟩
  ·exact ⟨_,e1,fun v q=>by rw [d1] at q;cases q⟩
  ·exact ⟨_,e2,fun v q=>by rw [d2] at q;cases q⟩
 keep:=fun i h h' st kk=>by
  obtain ⟨hz,hTI,⟨x,y,hTO⟩,h1,h2⟩:=st
  exact ⟨kk z (by simp) _ hz,kk TI (by simp) _ hTI,⟨x,y,kk TO (by simp) _ hTO⟩,h1.at fun o e=>kk i1 (by simp) o e,h2.at fun o e=>kk i2 (by simp) o e⟩
 item:=by
  intro X hP hw hK hc i pins s σ H E I hf st hg
  subst hP hw hK
  obtain ⟨xs,ys,x,y,hq,hq2,hx,hy⟩:=hg
  obtain ⟨its,rv,p,hz⟩:=I.list hq
  obtain ⟨its2,rv2,p2,hz2⟩:=I.list hq2
  obtain ⟨u,hu,ru⟩:=rv.get hx
  obtain ⟨u2,hu2,ru2⟩:=rv2.get hy
  have A:=zip_apart D st p.isList p2.isList
  have W:=WalksT.zip2 (prog:=X.prog) (w:=X.w) (I.ok.hd hc) z TI TO i1 i2 a b A its.toArray its2.toArray
  obtain ⟨t1,t2,t3,t4,t5⟩:=st
  have hl1:i<its.length:=(List.getElem?_eq_some_iff.mp hu).1
  have hl2:i<its2.length:=(List.getElem?_eq_some_iff.mp hu2).1
  refine W.item i s _ _ (by simp only [List.size_toArray];omega) ⟨t1,t2,t3,t4,t5,p.isList,p2.isList⟩ fun T vals h1 tk hp hT hI hM kk=>⟨_,rfl,?_⟩
  obtain ⟨v1,v2,g1,g2,rfl⟩:=hp
  have e1:v1=u:=by simpa [hu] using g1.symm
  have e2:v2=u2:=by simpa [hu2] using g2.symm
  subst e1 e2
  have hap:=W.apart i T h1 hM
  refine W.go elts k pos i T _ _ _ hM fun h2 hS kk2=>?_
  have hI2:h2.IsTuple T #[v1,v2]:=hI.at fun o e=>kk2 T o hap e
  have hfw:∀c,c∉[z,TI,TO,i1,i2]→c∉[z,TO,i1,i2]:=fun c hc hm=>hc (by
   simp only [List.mem_cons,List.not_mem_nil,or_false] at hm ⊢
   rcases hm with r | r | r | r <;> simp [r])
  have I1:Inv X pins σ (upd H T (.tup [x,y])) { s with heap:=h2,toks:=tk }:=I.turnedT (fp:=[z,TI,TO,i1,i2]) (fun c o hc e=>kk2 c o (hfw c hc) (kk c o (hfw c hc) e)) hf hT ⟨by show 2≤sizeLine;decide,[v1,v2],.cons ru (.cons ru2 .nil),hI2⟩
  have hTn:H T=none:=I.hok.fresh hT
  refine ⟨.ref T,_,I1,rfl,⟨T,x,y,hTn,rfl,rfl,fun xs' h=>by rw [I.list_inj h hq];exact hx,fun ys' h=>by rw [I.list_inj h hq2];exact hy⟩,⟨hS.1,hS.2.1,hS.2.2.1,hS.2.2.2.1,hS.2.2.2.2.1⟩,fun c hc=>?_⟩
  rw [upd_ne ?_]
  ·exact (hf c hc).1
  ·intro zc
   subst zc
   have old:∃o,s.heap.get? c=some o:=by
    obtain ⟨o1,e1,_⟩:=t4
    obtain ⟨o2,e2,_⟩:=t5
    obtain ⟨q1,q2,q3⟩:=t3
    simp only [List.mem_cons,List.not_mem_nil,or_false] at hc
    rcases hc with r | r | r | r | r
    ·rw [r];exact ⟨_,t1⟩
    ·rw [r];exact ⟨_,t2⟩
    ·rw [r];exact ⟨_,q3⟩
    ·rw [r];exact ⟨_,e1⟩
    ·rw [r];exact ⟨_,e2⟩
   obtain ⟨o,e⟩:=old
   exact absurd (Heap.lt_size e) (Nat.not_lt.mpr hT)
 done:=by
  intro X hP hw hK hc i pins s σ H E I hf st hg
  subst hP hw hK
  obtain ⟨xs,ys,hq,hq2,rfl⟩:=hg
  obtain ⟨its,rv,p,hz⟩:=I.list hq
  obtain ⟨its2,rv2,p2,hz2⟩:=I.list hq2
  have A:=zip_apart D st p.isList p2.isList
  have W:=WalksT.zip2 (prog:=X.prog) (w:=X.w) (I.ok.hd hc) z TI TO i1 i2 a b A its.toArray its2.toArray
  obtain ⟨t1,t2,t3,t4,t5⟩:=st
  have e:min its.toArray.size its2.toArray.size=min xs.length ys.length:=by rw [List.size_toArray,List.size_toArray,rv.length,rv2.length]
  refine W.done s _ _ (by rw [e];exact ⟨t1,t2,t3,t4,t5,p.isList,p2.isList⟩) fun h1 tk kk=>⟨rfl,?_⟩
  exact I.turnedN (fp:=[z,TI,TO,i1,i2]) (fun c o hc e=>kk c o (fun hm=>hc (by
   simp only [List.mem_cons,List.not_mem_nil,or_false] at hm ⊢
   rcases hm with r | r | r | r <;> simp [r])) e) hf
 self:=fun A i s Q E st h=>wpAny_pyIter_zip st.1 h
noncomputable def iZip (K:PySem.W.Frag) (ta:TA):TI:=fun σ H R=>ta σ H fun vs H1=>∃a b,vs=[.ref a,.ref b]∧(∃xs,SqL K H1 a xs)∧(∃ys,SqL K H1 b ys)∧R (Itz K a b) H1
theorem boot_zip:bootBuiltins "zip" = some (.type "zip"):=by decide +kernel
theorem pi_zip {X:Cx} {elts:List Expr} {k:Nat} {tp:Pos} {a b:Expr} {ta:TA} {p pos:Pos} (hg:Gl X "zip") (hm:X.mg "zip" = none) (ha:PA X [a,b] ta) (hs:starEach [a,b] X.env=[(false,eval a X.env),(false,eval b X.env)]:=by rfl) (hs2:starEach [b] X.env=[(false,eval b X.env)]:=by rfl) :
  PI X (.Tuple elts k tp) (.Call (.Name "zip" p) [a,b] [] pos) (iZip X.K ta):=by
 intro pins s σ H R I h
 refine Call_ (ld_blt I hg hm boot_zip (PyProof.Rows.callWith_type1 (thn (ha pos pins s σ H _ I h) fun us s1 ⟨vs,H1,I1,r1,q1⟩=>?_) (by rw [hs,hs2]) (by rw [hs2];rfl)))
 obtain ⟨a',b',e,⟨xs,hq⟩,⟨ys,hq2⟩,q⟩:=q1
 subst e
 cases r1 with
 | cons r rr=>
  cases rr with
  | cons r' rr=>
   cases rr
   cases r
   cases r'
   obtain ⟨its,rv,p1,hz⟩:=I1.list hq
   obtain ⟨its2,rv2,p2,hz2⟩:=I1.list hq2
   refine call_zip_2 p1.isList p2.isList fun h' g1 g2 g3 g4 g5 g6 g7=>?_
   refine wpAny_pyIter_zip g1 ?_
   have I2:Inv X pins σ H1 { s1 with heap:=h' }:=I1.kept (t':=s1.toks) g7
   refine ⟨s1.heap.objs.size+4,[s1.heap.objs.size+4,s1.heap.objs.size+2,s1.heap.objs.size+3,s1.heap.objs.size,s1.heap.objs.size+1],_,_,H1,rfl,I2,turn_zip a' b' (s1.heap.objs.size+4) (s1.heap.objs.size+2) (s1.heap.objs.size+3) s1.heap.objs.size (s1.heap.objs.size+1) (zdist _),⟨g1,g2,⟨_,_,g3⟩,g4,g5⟩,fun c hc=>?_,q⟩
   simp only [List.mem_cons,List.not_mem_nil,or_false] at hc
   have hle:s1.heap.objs.size≤c:=by rcases hc with r | r | r | r | r <;> rw [r] <;> first | exact Nat.le_refl _ | exact Nat.le_add_right _ _
   exact I1.fpOk hle (I1.hok.fresh hle)
end L2
namespace TF
open PySem PySem.Spec PyProof.Rows L2
section
variable {X:Cx} {G:Gh}
noncomputable def zipD (xs ys:List D):List D:=List.zipWith (fun x y=>D.tup [x,y]) xs ys
theorem ItOk.zip {K:PySem.W.Frag} {a b:Addr} {vs us:List V} {Hf:Hp} {ds es:List D} (na:¬G.fp a) (h:Hf a=some (.lst vs)) (r:RepL G Hf ds vs) (nb:¬G.fp b) (h':Hf b=some (.lst us)) (r':RepL G Hf es us):ItOk G (Itz K a b) Hf (zipD ds es):=fun i Hf2 H2 s e1 e2 st=>by
 have h2:SqL K H2 a vs:=SqL.of (e2 _ _ na (e1 _ _ na h))
 have h3:SqL K H2 b us:=SqL.of (e2 _ _ nb (e1 _ _ nb h'))
 refine ⟨fun d q=>?_,fun q=>⟨vs,us,h2,h3,by rw [q];unfold zipD;rw [List.length_zipWith,r.length,r'.length]⟩⟩
 unfold zipD at q
 rw [List.getElem?_zipWith] at q
 cases qa:ds[i]? with
 | none=>rw [qa] at q;simp at q
 | some x=>
  cases qb:es[i]? with
  | none=>rw [qa,qb] at q;simp at q
  | some y=>
   rw [qa,qb] at q
   simp at q
   subst q
   obtain ⟨v,q1,q2⟩:=r.get qa
   obtain ⟨u,q3,q4⟩:=r'.get qb
   refine ⟨⟨vs,us,v,u,h2,h3,q1,q3⟩,fun z H3 ⟨T,v',u',hT,y0,y1,y2,y3⟩=>?_⟩
   have ev:=y2 vs h2
   have eu:=y3 us h3
   rw [q1] at ev;cases ev
   rw [q3] at eu;cases eu
   subst y0 y1
   have nf:=Gh.nofp st hT
   have g2:=Gr.new (o:=.tup [v,u]) e2 hT nf
   refine ⟨upd Hf2 T (.tup [v,u]),g2,Gh.grow st hT,Rep.tup_iff.mpr ⟨T,_,rfl,nf,upd_same,?_⟩⟩
   exact .cons ((q2.ext e1).ext g2.ff) (.one ((q4.ext e1).ext g2.ff))
end
section
variable {X:Cx} {G:Gh}
noncomputable def isNon:D→Option Bool
 | .non=>some true
 | .pen=>none
 | .ty _=>none
 | .clo _ _=>none
 | _=>some false
noncomputable def dIsN (d e:D):Option D:=match e with | .non=>(isNon d).map .bl | _=>none
theorem isNon_rep {Hf:Hp} {d:D} {v:V} {b:Bool} (h:isNon d=some b) (r:Rep G Hf d v):decide (v=.non)=b:=by
 cases d with
 | non=>cases h;rw [Rep.non_iff.mp r];rfl
 | bl _=>cases h;rw [Rep.bl_iff.mp r];rfl
 | int _=>cases h;rw [Rep.int_iff.mp r];rfl
 | str _=>cases h;rw [Rep.str_iff.mp r];rfl
 | tup _=>cases h;obtain ⟨p,vs,rfl,_⟩:=Rep.tup_iff.mp r;rfl
 | lst _=>cases h;obtain ⟨p,vs,rfl,_⟩:=Rep.lst_iff.mp r;rfl
 | dk _=>cases h;obtain ⟨p,rfl,_⟩:=Rep.dk_iff.mp r;rfl
 | dt _=>cases h;obtain ⟨p,_,rfl,_⟩:=Rep.dt_iff.mp r;rfl
 | du _=>cases h;obtain ⟨p,rfl,_⟩:=Rep.du_iff.mp r;rfl
 | df _=>cases h;obtain ⟨p,_,rfl,_⟩:=Rep.df_iff.mp r;rfl
 | pen=>cases h
 | ty _=>cases h
 | clo _ _=>cases h
theorem opd_isN:OpD X G (compareOp .Is) dIsN:=
 ⟨_,op_isN,fun Hf H s x y d e c Q e1 st rx ry q k=>by
  cases e with
  | non=>
   have q:(isNon d).map D.bl=some c:=q
   cases hb:isNon d with
   | none=>rw [hb] at q;cases q
   | some b=>
    rw [hb] at q
    cases q
    refine ⟨Rep.non_iff.mp ry,?_⟩
    rw [isNon_rep hb rx]
    exact k _ Hf H (.refl e1) st (Rep.bl_iff.mpr rfl) (.scal fun z=>z)
  | _=>cases q⟩
noncomputable def maxI (n:Int) (r:List Int):Int:=r.foldl max n
theorem maxI_ge (r:List Int):∀n,n≤maxI n r∧∀a∈r,a≤maxI n r:=by
 induction r with
 | nil=>intro n;exact ⟨Int.le_refl _,by simp⟩
 | cons b r ih=>
  intro n
  obtain ⟨h1,h2⟩:=ih (max n b)
  refine ⟨?_,fun a ha=>?_⟩
  ·show n≤maxI (max n b) r;omega
  ·show a≤maxI (max n b) r
   rcases List.mem_cons.mp ha with rfl | ha
   ·omega
   ·exact h2 a ha
theorem maxI_mem (r:List Int):∀n,maxI n r∈n::r:=by
 induction r with
 | nil=>intro n;simp [maxI]
 | cons b r ih=>
  intro n
  have h:=ih (max n b)
  show maxI (max n b) r∈n::b::r
  rcases List.mem_cons.mp h with h | h
  ·rw [h]
   rcases Int.le_total n b with z | z
   ·rw [Int.max_eq_right z];simp
   ·rw [Int.max_eq_left z];simp
  ·exact List.mem_cons_of_mem _ (List.mem_cons_of_mem _ h)
theorem max_uniq {n M:Int} {r:List Int} (h1:M∈n::r) (h2:∀a∈n::r,a≤M):M=maxI n r:=by
 obtain ⟨g1,g2⟩:=maxI_ge r n
 have g3:=h2 _ (maxI_mem r n)
 have g4:M≤maxI n r:=by
  rcases List.mem_cons.mp h1 with h | h
  ·rw [h];exact g1
  ·exact g2 M h
 omega
noncomputable def dMaxL:List D→Option D
 | [.lst ds]=>match intsOf ds with | some (n::r)=>some (.int (maxI n r)) | _=>none
 | _=>none
theorem call_maxR (hc:X.calm=true):CallR X (.builtin "max") (fun xs H Q=>∃p n r,xs=[.ref p]∧SqL X.K H p ((n::r).map V.int)∧Q (.int (maxI n r)) H):=by
 intro pins s σ H xs us Q I r h
 obtain ⟨p,n,rr,rfl,hp,q⟩:=h
 obtain ⟨u,rfl,ru⟩:=vals1 r
 cases ru
 obtain ⟨its,rv,pl,hz⟩:=I.list hp
 have hi:IntsAre its (n::rr):=intsAre_of rv
 obtain ⟨xs,e⟩:=hi.allInts.items
 have hns:n::rr=xs.toList.map (·.1):=by rw [←hi.numsOf,←nums_intItems,←e]
 have hl:=pl.isList
 rw [e] at hl
 have hsz:0<xs.size:=by
  have h3:0<(n::rr).length:=by simp
  rw [hns,List.length_map,Array.length_toList] at h3;exact h3
 refine max_intList (I.ok.hd hc) hl hsz fun v h' tk hv hk=>?_
 obtain ⟨t,rfl⟩:=intItems_at hv
 obtain ⟨h1,h2⟩:=argBest_gt (numAt xs) (xs.size-1)
 have e2:numAt xs (argBest (fun i j=>decide (numAt xs i > numAt xs j)) (xs.size-1))=maxI n rr:=by
  refine max_uniq ?_ fun a ha=>?_
  ·rw [hns,numAt_eq];exact getD_mem (by rw [List.length_map,Array.length_toList];omega)
  ·rw [hns] at ha
   obtain ⟨j,hj,rfl⟩:=mem_getD ha
   rw [List.length_map,Array.length_toList] at hj
   rw [←numAt_eq];exact h2 j (by omega)
 rw [e2]
 exact ⟨.int (maxI n rr),H,I.kept (t':=tk) hk,⟨_,rfl⟩,q⟩
theorem call_maxLD (hc:X.calm=true):CallD X G (.builtin "max") dMaxL:=
 ⟨_,call_maxR hc,fun Hf H s xs ds c Q e1 st r q k=>by
  match ds,q,r with
  | [.lst es],q,r=>
   have q:(match intsOf es with | some (n::r)=>some (D.int (maxI n r)) | _=>none)=some c:=q
   cases he:intsOf es with
   | none=>rw [he] at q;cases q
   | some ns=>
    cases ns with
    | nil=>rw [he] at q;cases q
    | cons n rr=>
     rw [he] at q
     cases q
     obtain ⟨v,rfl,rv⟩:=RepL.one_inv r
     obtain ⟨p,vs,rfl,np,hp,rp⟩:=Rep.lst_iff.mp rv
     rw [intsOf_eq he] at rp
     rw [RepL.ints rp] at hp
     exact ⟨p,n,rr,rfl,SqL.of (e1 _ _ np hp),k _ Hf H (.refl e1) st (Rep.int_iff.mpr rfl) (.scal fun z=>z)⟩⟩
noncomputable def sSetI (i:Nat) (fx fv:Rho→M D):Rho→M Out:=fun ρ=>mbind (fv ρ) fun v=>mbind (fx ρ) fun x=>match x,(ρ[i]?).bind id with
 | .int k,some (.lst ds)=>match ixN ds.length k with | some j=>mret (.nx (ρ.set i (some (.lst (ds.set j v))))) | none=>mfail
 | _,_=>mfail
theorem pds_setI {ob own:List Nat} {fr r1 r2:Bool} {i:Nat} {x:Str} {ex ev:Expr} {p1 p2 pos:Pos} {fx fv:Rho→M D} (hi:i∈own) (hn:PE X (.Name x p1) (tVar i)) (hx:PD X G r1 ex fx) (hv:PD X G r2 ev fv)
  (hs:swapsWithSole [.Subscript (.Name x p1) ex p2] ev pos.line X.env=pure false:=by rfl) (hw:swappedStores [.Subscript (.Name x p1) ex p2] ev X.env=pure none:=by rfl)
  (h1:(assignEach [.Subscript (.Name x p1) ex p2] X.env).map (·.2)=[assign (.Subscript (.Name x p1) ex p2) X.env]:=by rfl)
  (ha:∀v,assign (.Subscript (.Name x p1) ex p2) X.env v=(do
   let ov←holding [v] (eval (.Name x p1) X.env)
   let iv←holding [v,ov] (eval ex X.env)
   standAt p2
   holding [v,ov,iv] (setItem ov iv v)
   release [v,ov,iv] []):=by intro _;rfl) :
  PDS X G ob own own fr (.Assign [.Subscript (.Name x p1) ex p2] ev pos) (sSetI i (fun ρ=>fx (hide own ρ)) (fun ρ=>fv (hide own ρ))):=by
 obtain ⟨tv,pv',qv⟩:=hv
 obtain ⟨tx,px,qx⟩:=hx
 have yv:Yld G r2 tv fv:=qv
 have yx:Yld G r1 tx fx:=qx
 refine ⟨_,ps_asg pv' (pg_sub hn px set_list ha) hs hw h1,fun kn Hf0 H0 σ H ρ s out s' E ⟨Hf,j⟩ st e po=>?_⟩
 obtain ⟨v,s1,a1,a2⟩:=mbind_some e
 obtain ⟨xx,s2,a3,a4⟩:=mbind_some a2
 refine yv.a kn Hf0 H0 σ Hf H ρ s v s1 _ j st a1 fun w Hf1 H1 j1 e1 e2 st1 r1 _=>?_
 match xx,a4,a3 with
 | .int k,a4,a3=>
  cases hb:(ρ[i]?).bind id with
  | none=>rw [hb] at a4;cases a4
  | some c=>
   rw [hb] at a4
   cases c with
   | lst ds=>
    have a4':(match ixN ds.length k with | some j=>mret (Out.nx (ρ.set i (some (.lst (ds.set j v))))) | none=>mfail) s2=some (out,s'):=a4
    cases hj:ixN ds.length k with
    | none=>rw [hj] at a4';cases a4'
    | some jj=>
     rw [hj] at a4'
     obtain ⟨rfl,rfl⟩:=mret_some a4'
     have ei:=bind_id hb
     obtain ⟨a,vs,h1,h2,h3,h4⟩:=own_get j1 hi ei
     refine ⟨_,h1,?_⟩
     refine yx.a kn Hf0 H0 σ Hf1 H1 ρ s1 _ _ _ j1 st1 a3 fun w2 Hf2 H2 j2 e3 e4 st2 r2 _=>?_
     rw [Rep.int_iff.mp r2]
     obtain ⟨a',vs',h1',h2',h3',h4'⟩:=own_get j2 hi ei
     rw [h1] at h1';cases h1'
     refine ⟨a,vs',k,jj,rfl,rfl,h3',by rw [←h4'.length];exact hj,?_⟩
     exact po σ _ ⟨Hf2,j2.put hi ei h1 ⟨vs'.set jj w,upd_same,h4'.set jj (r1.ext e3)⟩⟩ (Gh.other st2 h2)
   | _=>cases a4
end
section
variable {X:Cx} {G:Gh}
theorem repL_ints {Hf:Hp}:∀ns:List Int,RepL G Hf (ns.map D.int) (ns.map V.int)
 | []=>RepL.nil_iff.mpr rfl
 | n::ns=>.cons (Rep.int_iff.mpr rfl) (repL_ints ns)
end
end TF
namespace HT
open PySem PySem.Spec PyProof.Rows
section
variable {prog:Program} {w:World} {A:Around} {E:Value→Shared→Prop} {s:Shared}
end
end HT
namespace TF
open PySem PySem.Spec PyProof.Rows L2
section
variable {X:Cx} {G:Gh}
end
end TF
namespace L2
open PySem PySem.Spec PyProof.Rows
open AutoSeq1 (wpAny_loadPart')
section
variable {prog:Program} {w:World} {A:Around} {E:Value→Shared→Prop} {s:Shared}
theorem nextT_item {q t:Addr} {i:Nat} {ys:Array Value} {x:Value} {Q:Value→Shared→Prop} (hq:s.heap.IsTupleIter q t i) (ht:s.heap.IsTuple t ys) (hx:ys[i]?=some x)
  (k:∀h',h'.IsTupleIter q t (i+1)→Heap.SameBut q s.heap h'→Q x { s with heap:=h' }):wpAny (model prog w) A (Builtin.SmallTypes.nextOf (.ref q)) Q E s:=by
 obtain ⟨o,ho,hc,hd⟩:=id hq;obtain ⟨ol,hol,_,nl,hdl⟩:=ht
 unfold Builtin.SmallTypes.nextOf;refine wpAny_bind (wpAny_callSpecial?_slot (name:=Str.ofString "__next__") hq.typeIs F.slot_tuple_iterator_next (wpAny_call_entry F.slot_tuple_iterator_next hq.typeIs F.entry_tuple_iterator_next ?_ (F.args_tuple_iterator_next_1 _)))
 show wpAny _ _ (field (.ref q) 0 >>= _) _ _ s;refine wpAny_bind (wpAny_field ho hd (x:=.ref t) rfl ?_);show wpAny _ _ (if (Value.ref t==Value.none)=true then _ else _) _ _ s;rw [if_neg (show ¬((Value.ref t==Value.none)=true) from Bool.false_ne_true)]
 show wpAny _ _ (field (.ref q) 1 >>= _) _ _ s;refine wpAny_bind (wpAny_field ho hd (x:=.int i 0) rfl ?_);show wpAny _ _ (seqItems? (.ref t) >>= _) _ _ s;refine wpAny_bind (wpAny_seqItems hol hdl ?_);simp only [Int.toNat_natCast,hx]
 exact wpAny_bind (wpAny_setField ho hd (by simp) (wpAny_pure ⟨x,rfl,wpAny_pure (k _ ⟨_,Heap.get?_update_self _ ho (Obj.isFreed_of_fields (Obj.data_mapFields hd _)),(Obj.cls_mapFields ..).trans hc,by rw [Obj.data_mapFields hd];simp [rawInt]⟩ (Heap.SameBut.update ..))⟩))
theorem nextT_end {q t:Addr} {i:Nat} {ys:Array Value} {Q:Value→Shared→Prop} (hh:A.handled=none) (hq:s.heap.IsTupleIter q t i) (ht:s.heap.IsTuple t ys) (hx:ys[i]?=none)
  (hE:∀h' e,Heap.ExtBut q s.heap h'→(∃o,h'.get? e=some o∧o.cls=.type "StopIteration")→E (.ref e) { s with heap:=h' }):wpAny (model prog w) A (Builtin.SmallTypes.nextOf (.ref q)) Q E s:=by
 obtain ⟨o,ho,hc,hd⟩:=id hq;obtain ⟨ol,hol,_,nl,hdl⟩:=ht
 unfold Builtin.SmallTypes.nextOf;refine wpAny_bind (wpAny_callSpecial?_slot (name:=Str.ofString "__next__") hq.typeIs F.slot_tuple_iterator_next (wpAny_call_entry F.slot_tuple_iterator_next hq.typeIs F.entry_tuple_iterator_next ?_ (F.args_tuple_iterator_next_1 _)))
 show wpAny _ _ (field (.ref q) 0 >>= _) _ _ s;refine wpAny_bind (wpAny_field ho hd (x:=.ref t) rfl ?_);show wpAny _ _ (if (Value.ref t==Value.none)=true then _ else _) _ _ s;rw [if_neg (show ¬((Value.ref t==Value.none)=true) from Bool.false_ne_true)]
 show wpAny _ _ (field (.ref q) 1 >>= _) _ _ s;refine wpAny_bind (wpAny_field ho hd (x:=.int i 0) rfl ?_);show wpAny _ _ (seqItems? (.ref t) >>= _) _ _ s;refine wpAny_bind (wpAny_seqItems hol hdl ?_);simp only [Int.toNat_natCast,hx]
 refine wpAny_bind (wpAny_rule (wpAny_bind (wpAny_setField ho hd (by simp) ?_)));show wpAny _ _ (newExc (.type "StopIteration") [] >>= _) _ _ _;refine wpAny_bind ?_;simp only [newExc,newTuple];refine wpAny_bind (wpAny_newObj_type ?_ (by size_fits))
 refine wpAny_bind (m:=firstArgMember _ _) (wpAny_of_eq (a:=Value.none) (by first | rfl | (simp only [firstArgMember];rfl)) ?_);refine wpAny_newObj_type ?_ (by size_fits);simp only [raiseNew];refine wpAny_bind (wpAny_handled ?_)
 first | rw [show A.in1.handled=none from hh];refine wpAny_bind (wpAny_pure (wpAny_throw ?_)) | rw [hh];refine wpAny_bind (wpAny_pure (wpAny_throw ?_))
 exact hE _ _ (((Heap.SameBut.update ..).extBut.push _).push _) ⟨_,Heap.get?_push_size _ rfl,rfl⟩
end
theorem drawsT {prog:Program} {w:World} {A:Around} (hh:A.handled=none) (q t:Addr) (hne:t≠q) (ys:Array Value):Draws prog w A q [q,t] ys.size (fun i v=>ys[i]?=some v) (fun i h=>h.IsTupleIter q t i∧h.IsTuple t ys) where
 live:=fun _ _ st=>let ⟨o,ho,_⟩:=st.1;⟨o,ho⟩
 frame:=fun _ _ _ st k=>⟨st.1.at fun o e=>k q (by simp) o e,st.2.at fun o e=>k t (by simp) o e⟩
 item:=fun i s Q E hi st k=>nextT_item st.1 st.2 (x:=ys[i]) (by simp [hi]) fun h' g sb=>k _ h' s.toks (by simp [hi]) ⟨g,st.2.at fun o e=>(sb.2 t hne).trans e⟩ sb
 done:=fun s Q E st hE=>nextT_end hh st.1 st.2 (by simp) hE
end L2
namespace TF
open PySem PySem.Spec PyProof.Rows L2
section
variable {X:Cx} {G:Gh}
end
section
variable {X:Cx} {G:Gh}
noncomputable def dNeg (f:Rho→M D):Rho→M D:=fun ρ=>mbind (f ρ) fun d=>match d with | .int i=>mret (.int (-i)) | _=>mfail
theorem pd_negE {a:Expr} {pos:Pos} {f:Rho→M D} {r1:Bool} (ha:PD X G r1 a f):PD X G true (.UnaryOp .USub a pos) (dNeg f):=by
 obtain ⟨t,p,q⟩:=ha.drop
 refine ⟨_,pe_un un_neg p,fun σ Hf H ρ s d s' Q e1 e2 e3 e4 k=>?_⟩
 obtain ⟨d0,s1,a1,a2⟩:=mbind_some e4
 refine q σ Hf H ρ s d0 s1 _ e1 e2 e3 a1 fun v Hf1 H1 g1 st1 r1=>?_
 match d0,a2,r1 with
 | .int i,a2,r1=>
  obtain ⟨rfl,rfl⟩:=mret_some a2
  exact ⟨i,Rep.int_iff.mp r1,k _ Hf1 H1 g1 st1 (Rep.int_iff.mpr rfl) fun _=>.scal fun z=>z⟩
end
end TF
namespace L2
open PySem PySem.Spec PyProof.Rows
section
variable {prog:Program} {w:World} {A:Around} {E:Value→Shared→Prop} {s:Shared}
theorem collectT {t:Addr} {vs:List Value} {Q:List Value→Shared→Prop} (ht:s.heap.IsTuple t vs.toArray) (k:Q vs { s with heap:=(s.heap.push (seqObj "list" #[] 0)).update s.heap.objs.size (Obj.mapSeq (· ++ vs.toArray)) }) (hz:vs.length≤sizeLine):wpAny (model prog w) A (collect (.ref t)) Q E s:=by
 obtain ⟨o,ho,hc,n,hd⟩:=id ht
 unfold collect;refine wpAny_bind (wpAny_runValue (codeAny_builtin entry_proto_collect' ?_));show wpAny _ _ (do again (.builtin "list.__iadd__" ⟨[←newList [],.ref t],[]⟩)) _ _ s
 refine wpAny_bind (wpAny_newList (wpAny_pure ⟨Code.quiet_builtin _ (by decide +kernel),codeAny_builtin entry_list_iadd' ?_⟩));show wpAny _ _ (Builtin.List.listExtendWith (.ref s.heap.objs.size) (.ref t) (.ref s.heap.objs.size)) _ _ { s with heap:=s.heap.push (seqObj "list" #[] 0) }
 unfold Builtin.List.listExtendWith;have ho':(s.heap.push (seqObj "list" #[] 0)).get? t=some o:=Heap.get?_push_of_some _ ho
 refine wpAny_bind (wpAny_typeOf (T:="tuple") ⟨o,ho',hc⟩ ?_);have hb:(Value.type "tuple" == Value.type "tuple")=true:=by rfl
 rw [if_pos (by rw [hb];simp)];refine wpAny_bind (listItems_at ho' hd ?_);refine wpAny_bind (listItems_at (xs:=#[]) (n:=0) (Heap.get?_push_size _ rfl) rfl ?_);rw [if_neg (by simp)]
 refine wpAny_bind (listUpdate_at (xs:=#[]) (n:=0) (Heap.get?_push_size _ rfl) rfl ?_ (Nat.zero_le _) (by show (#[]++vs.toArray).size≤sizeLine+1;simp only [Array.size_append,List.size_toArray,List.length_nil];omega));refine wpAny_pure ?_
 show wpAny (model prog w) A (do let o←load s.heap.objs.size;match o.data with | .seq xs _=>pure xs.toList | _=>unsupported "internal:collect") Q E { s with heap:=(s.heap.push (seqObj "list" #[] 0)).update s.heap.objs.size (Obj.mapSeq (· ++ vs.toArray)) }
 refine wpAny_bind (wpAny_load (get?_update_seq (Heap.get?_push_size _ rfl) _) ?_);show wpAny _ _ (pure ((#[]:Array Value)++vs.toArray).toList) Q E _;rw [show ((#[]:Array Value)++vs.toArray).toList=vs by simp];exact wpAny_pure k
end
end L2
namespace TF
open PySem PySem.Spec PyProof.Rows L2
section
variable {X:Cx} {G:Gh}
end
end TF
namespace L2
open PySem PySem.Spec PyProof.Rows
end L2
namespace TF
open PySem PySem.Spec PyProof.Rows L2
section
variable {X:Cx} {G:Gh}
end
end TF
namespace L2
open PySem PySem.Spec PyProof.Rows
section
variable {prog:Program} {w:World} {A:Around} {E:Value→Shared→Prop} {s:Shared} {o:Obj} {es:Array DictEntry} {d it:Addr} {ep i:Nat}
end
section
variable {X:Cx} {tg:Expr}
end
end L2
namespace TF
open PySem PySem.Spec PyProof.Rows L2
section
variable {X:Cx} {G:Gh}
end
end TF
namespace L2
open PySem PySem.Spec PyProof.Rows
structure ZG (z TI TO i1 i2:Addr) (f1 f2:List Addr):Prop extends ZDist z TI TO i1 i2 where
 f1n:∀c∈f1,c≠z∧c≠TO∧c≠i2
 f2n:∀c∈f2,c≠z∧c≠TO∧c≠i1
section
variable {prog:Program} {w:World} {A:Around} {E:Value→Shared→Prop} {s:Shared} {z TI TO i1 i2:Addr} {f1 f2:List Addr} {n1 n2 k:Nat} {P1 P2:Nat→Value→Prop} {S1 S2:Nat→Heap→Prop} {a b:Value}
theorem zipG_item {Q:Value→Shared→Prop} (D1:Draws prog w A i1 f1 n1 P1 S1) (D2:Draws prog w A i2 f2 n2 P2 S2) (Z:ZG z TI TO i1 i2 f1 f2) (hz:IsZip s.heap z TI TO .none) (hTI:IsPair s.heap TI (.ref i1) (.ref i2)) (hTO:IsPair s.heap TO a b) (h1:S1 k s.heap) (h2:S2 k s.heap) (k1:k<n1) (k2:k<n2)
  (hQ:∀h' tk x y,P1 k x→P2 k y→IsZip h' z TI TO (rawInt s.heap.objs.size)→IsPair h' TO x y→S1 (k+1) h'→S2 (k+1) h'→IsPair h' s.heap.objs.size x y→
   (∀c o,c≠z→c≠TO→c≠i1→c≠i2→s.heap.get? c=some o→h'.get? c=some o)→Q (.ref s.heap.objs.size) { s with heap:=h',toks:=tk }) :
  wpAny (model prog w) A (Builtin.«zip.__next__» ⟨[.ref z],[]⟩) (fun fin s'=>∃v,fin=.done (.ret v)∧Q v s') E s:=by
 show wpAny _ _ (field (.ref z) 2 >>= _) _ _ _;refine wpAny_bind (wpAny_field hz rfl (x:=.bool false) rfl ?_);show wpAny _ _ (field (.ref z) 3 >>= _) _ _ _
 refine wpAny_bind (wpAny_field hz rfl (x:=.ref TI) rfl ?_);refine wpAny_bind (wpAny_seqItems hTI rfl ?_);show wpAny _ _ (Builtin.SmallTypes.ownedTupleIsFree (.ref z) >>= _) _ _ _;refine wpAny_bind ?_
 unfold Builtin.SmallTypes.ownedTupleIsFree;refine wpAny_bind (wpAny_field hz rfl (x:=.none) rfl (wpAny_pure ?_));simp only [if_true];refine wpAny_bind (wpAny_rule ?_)
 refine wpAny_bind (wpAny_field hz rfl (x:=.ref TO) rfl ?_);refine wpAny_bind (wpAny_setField_rec hz (by simp) fun g1 q1 b1=>?_);replace q1:IsZip g1 z TI TO .ellipsis:=q1
 refine wpAny_bind ?_;simp only [List.zipIdx_cons,List.zipIdx_nil,List.forIn_cons,List.forIn_nil]
 refine wpAny_bind (wpAny_bind (wpAny_onRaise ?_));show wpAny _ _ (Builtin.SmallTypes.nextOf (.ref i1) >>= _) _ _ _
 have s1:S1 k g1:=D1.frame _ _ _ h1 fun c m o e=>b1.extBut _ _ (Z.f1n c m).1 e
 refine wpAny_bind (D1.item k { s with heap:=g1 } _ _ k1 s1 fun x g2 t2 px s1' b2=>wpAny_pure ?_)
 have c2:IsPair g2 TO a b:=b2.extBut _ _ Z.TOi1 (b1.extBut _ _ Z.TOz hTO)
 refine wpAny_bind (wpAny_seqItems c2 rfl ?_);refine wpAny_bind (wpAny_updateSeq_pair c2 fun g3 c3 b3=>?_);replace c3:IsPair g3 TO x b:=c3
 refine wpAny_bind (wpAny_letGo (wpAny_pure ?_));refine wpAny_bind (wpAny_bind (wpAny_onRaise ?_));show wpAny _ _ (Builtin.SmallTypes.nextOf (.ref i2) >>= _) _ _ _
 have s2:S2 k g3:=D2.frame _ _ _ h2 fun c m o e=>b3.extBut _ _ (Z.f2n c m).2.1 (b2.extBut _ _ (Z.f2n c m).2.2 (b1.extBut _ _ (Z.f2n c m).1 e))
 refine wpAny_bind (D2.item k { s with heap:=g3,toks:=t2 } _ _ k2 s2 fun y g4 t4 py s2' b4=>wpAny_pure ?_)
 have c4:IsPair g4 TO x b:=b4.extBut _ _ Z.TOi2 c3
 refine wpAny_bind (wpAny_seqItems c4 rfl ?_);refine wpAny_bind (wpAny_updateSeq_pair c4 fun g5 c5 b5=>?_);replace c5:IsPair g5 TO x y:=c5
 refine wpAny_bind (wpAny_letGo (wpAny_pure (wpAny_pure ?_)));refine wpAny_bind (wpAny_seqItems c5 rfl ?_);refine wpAny_bind (wpAny_newTuple ?_)
 have hsz:g5.objs.size=s.heap.objs.size:=by rw [b5.1,b4.1,b3.1,b2.1,b1.1]
 have q5:IsZip g5 z TI TO .ellipsis:=b5.extBut _ _ Z.TOz.symm (b4.extBut _ _ Z.i2z.symm (b3.extBut _ _ Z.TOz.symm (b2.extBut _ _ Z.i1z.symm q1)))
 have keep5:∀c o,c≠z→c≠TO→c≠i1→c≠i2→s.heap.get? c=some o→g5.get? c=some o:=fun c o u1 u2 u3 u4 e=>b5.extBut _ _ u2 (b4.extBut _ _ u4 (b3.extBut _ _ u2 (b2.extBut _ _ u3 (b1.extBut _ _ u1 e))))
 have s15:S1 (k+1) g5:=D1.frame _ _ _ s1' fun c m o e=>b5.extBut _ _ (Z.f1n c m).2.1 (b4.extBut _ _ (Z.f1n c m).2.2 (b3.extBut _ _ (Z.f1n c m).2.1 e))
 have s25:S2 (k+1) g5:=D2.frame _ _ _ s2' fun c m o e=>b5.extBut _ _ (Z.f2n c m).2.1 e
 have zlt:z<g5.objs.size:=Heap.lt_size q5
 show wpAny _ _ (Builtin.SmallTypes.ownedTupleHandOut (.ref z) (.ref g5.objs.size) >>= _) _ _ _;refine wpAny_bind ?_;unfold Builtin.SmallTypes.ownedTupleHandOut
 have q6:IsZip (g5.push { cls:=.type "tuple",data:=.seq #[x,y] }) z TI TO .ellipsis:=Heap.get?_push_of_some _ q5
 refine wpAny_bind (wpAny_setField_rec q6 (by simp) fun g7 q7 b7=>?_);replace q7:IsZip g7 z TI TO (rawInt g5.objs.size):=q7
 refine wpAny_setField_rec q7 (by simp) fun g8 q8 b8=>?_;replace q8:IsZip g8 z TI TO (rawInt g5.objs.size):=q8
 have up:∀c o,c≠z→g5.get? c=some o→g8.get? c=some o:=fun c o u e=>b8.extBut _ _ u (b7.extBut _ _ u (Heap.get?_push_of_some _ e))
 have hT:IsPair g8 g5.objs.size x y:=b8.extBut _ _ (Nat.ne_of_gt zlt) (b7.extBut _ _ (Nat.ne_of_gt zlt) (Heap.get?_push_size _ rfl))
 rw [hsz] at q8 hT
 refine wpAny_pure ⟨_,rfl,?_⟩;show Q (.ref g5.objs.size) _;rw [hsz]
 exact hQ g8 t4 x y px py q8 (up _ _ Z.TOz c5) (D1.frame _ _ _ s15 fun c m o e=>up c o (Z.f1n c m).1 e) (D2.frame _ _ _ s25 fun c m o e=>up c o (Z.f2n c m).1 e) hT fun c o u1 u2 u3 u4 e=>up c o u1 (keep5 c o u1 u2 u3 u4 e)
theorem zipG_end {Q:PySem.Fin→Shared→Prop} (D1:Draws prog w A i1 f1 n1 P1 S1) (D2:Draws prog w A i2 f2 n2 P2 S2) (Z:ZG z TI TO i1 i2 f1 f2) (hz:IsZip s.heap z TI TO .none) (hTI:IsPair s.heap TI (.ref i1) (.ref i2)) (hTO:IsPair s.heap TO a b) (h1:S1 k s.heap) (h2:S2 k s.heap) (hk:k=n1∨(k<n1∧k=n2))
  (hE:∀h' tk e,(∀c o,c≠z→c≠TO→c≠i1→c≠i2→s.heap.get? c=some o→h'.get? c=some o)→(∃o,h'.get? e=some o∧o.cls=.type "StopIteration")→E (.ref e) { s with heap:=h',toks:=tk }) :
  wpAny (model prog w) A (Builtin.«zip.__next__» ⟨[.ref z],[]⟩) Q E s:=by
 show wpAny _ _ (field (.ref z) 2 >>= _) _ _ _;refine wpAny_bind (wpAny_field hz rfl (x:=.bool false) rfl ?_);show wpAny _ _ (field (.ref z) 3 >>= _) _ _ _
 refine wpAny_bind (wpAny_field hz rfl (x:=.ref TI) rfl ?_);refine wpAny_bind (wpAny_seqItems hTI rfl ?_);show wpAny _ _ (Builtin.SmallTypes.ownedTupleIsFree (.ref z) >>= _) _ _ _;refine wpAny_bind ?_
 unfold Builtin.SmallTypes.ownedTupleIsFree;refine wpAny_bind (wpAny_field hz rfl (x:=.none) rfl (wpAny_pure ?_));simp only [if_true];refine wpAny_bind (wpAny_rule ?_)
 refine wpAny_bind (wpAny_field hz rfl (x:=.ref TO) rfl ?_);refine wpAny_bind (wpAny_setField_rec hz (by simp) fun g1 q1 b1=>?_);replace q1:IsZip g1 z TI TO .ellipsis:=q1
 refine wpAny_bind ?_;simp only [List.zipIdx_cons,List.zipIdx_nil,List.forIn_cons,List.forIn_nil]
 refine wpAny_bind (wpAny_bind (wpAny_onRaise ?_));show wpAny _ _ (Builtin.SmallTypes.nextOf (.ref i1) >>= _) _ _ _
 have s1:S1 k g1:=D1.frame _ _ _ h1 fun c m o e=>b1.extBut _ _ (Z.f1n c m).1 e
 rcases hk with hk | ⟨hk1,hk⟩
 ·subst hk
  refine wpAny_bind (D1.done { s with heap:=g1 } _ _ s1 fun g2 e b2 he=>?_)
  obtain ⟨oe,hoe,hce⟩:=he
  have q2:IsZip g2 z TI TO .ellipsis:=b2 _ _ Z.i1z.symm q1
  have hez:e≠z:=fun x=>by rw [x,q2] at hoe;cases hoe;exact absurd (Value.type.inj hce) (by decide)
  exact wpAny_setField_rec q2 (by simp) fun g3 _ b3=>hE g3 s.toks e (fun c o u1 _ u3 _ x=>b3.extBut _ _ u1 (b2 _ _ u3 (b1.extBut _ _ u1 x))) ⟨oe,b3.extBut _ _ hez hoe,hce⟩
 ·subst hk
  refine wpAny_bind (D1.item k { s with heap:=g1 } _ _ hk1 s1 fun x g2 t2 px s1' b2=>wpAny_pure ?_)
  have c2:IsPair g2 TO a b:=b2.extBut _ _ Z.TOi1 (b1.extBut _ _ Z.TOz hTO)
  refine wpAny_bind (wpAny_seqItems c2 rfl ?_);refine wpAny_bind (wpAny_updateSeq_pair c2 fun g3 c3 b3=>?_);refine wpAny_bind (wpAny_letGo (wpAny_pure ?_));refine wpAny_bind (wpAny_bind (wpAny_onRaise ?_))
  show wpAny _ _ (Builtin.SmallTypes.nextOf (.ref i2) >>= _) _ _ _
  have s2:S2 k g3:=D2.frame _ _ _ h2 fun c m o e=>b3.extBut _ _ (Z.f2n c m).2.1 (b2.extBut _ _ (Z.f2n c m).2.2 (b1.extBut _ _ (Z.f2n c m).1 e))
  refine wpAny_bind (D2.done { s with heap:=g3,toks:=t2 } _ _ s2 fun g4 e b4 he=>?_)
  obtain ⟨oe,hoe,hce⟩:=he
  have q4:IsZip g4 z TI TO .ellipsis:=b4 _ _ Z.i2z.symm (b3.extBut _ _ Z.TOz.symm (b2.extBut _ _ Z.i1z.symm q1))
  have hez:e≠z:=fun x=>by rw [x,q4] at hoe;cases hoe;exact absurd (Value.type.inj hce) (by decide)
  exact wpAny_setField_rec q4 (by simp) fun g5 _ b5=>hE g5 t2 e (fun c o u1 u2 u3 u4 x=>b5.extBut _ _ u1 (b4 _ _ u4 (b3.extBut _ _ u2 (b2.extBut _ _ u3 (b1.extBut _ _ u1 x))))) ⟨oe,b5.extBut _ _ hez hoe,hce⟩
theorem nextZ_item {Q:Option Value→Shared→Prop} (D1:Draws prog w A.in1 i1 f1 n1 P1 S1) (D2:Draws prog w A.in1 i2 f2 n2 P2 S2) (Z:ZG z TI TO i1 i2 f1 f2) (hz:IsZip s.heap z TI TO .none) (hTI:IsPair s.heap TI (.ref i1) (.ref i2)) (hTO:IsPair s.heap TO a b) (h1:S1 k s.heap) (h2:S2 k s.heap) (k1:k<n1) (k2:k<n2)
  (hQ:∀h' tk x y,P1 k x→P2 k y→IsZip h' z TI TO (rawInt s.heap.objs.size)→IsPair h' TO x y→S1 (k+1) h'→S2 (k+1) h'→IsPair h' s.heap.objs.size x y→
   (∀c o,c≠z→c≠TO→c≠i1→c≠i2→s.heap.get? c=some o→h'.get? c=some o)→Q (some (.ref s.heap.objs.size)) { s with heap:=h',toks:=tk }):wpAny (model prog w) A (pyNext (.ref z)) Q E s:=by
 have hT:s.TypeIs (.ref z) "zip":=⟨_,hz,rfl⟩
 unfold pyNext;exact wpAny_bind (wpAny_attempt (wpAny_callSpecial?_slot (name:=Str.ofString "__next__") hT F.slot_zip_next (wpAny_call_entry F.slot_zip_next hT F.entry_zip_next (zipG_item D1 D2 Z hz hTI hTO h1 h2 k1 k2 fun h' tk x y a0 a1 a2 a3 a4 a5 a6 a7=>wpAny_pure (hQ h' tk x y a0 a1 a2 a3 a4 a5 a6 a7)) (F.args_zip_next_1 _))))
theorem nextZ_end {Q:Option Value→Shared→Prop} (D1:Draws prog w A.in1 i1 f1 n1 P1 S1) (D2:Draws prog w A.in1 i2 f2 n2 P2 S2) (Z:ZG z TI TO i1 i2 f1 f2) (hz:IsZip s.heap z TI TO .none) (hTI:IsPair s.heap TI (.ref i1) (.ref i2)) (hTO:IsPair s.heap TO a b) (h1:S1 k s.heap) (h2:S2 k s.heap) (hk:k=n1∨(k<n1∧k=n2))
  (hQ:∀h' tk,(∀c o,c≠z→c≠TO→c≠i1→c≠i2→s.heap.get? c=some o→h'.get? c=some o)→Q none { s with heap:=h',toks:=tk }):wpAny (model prog w) A (pyNext (.ref z)) Q E s:=by
 have hT:s.TypeIs (.ref z) "zip":=⟨_,hz,rfl⟩
 unfold pyNext;refine wpAny_bind (wpAny_attempt (wpAny_callSpecial?_slot (name:=Str.ofString "__next__") hT F.slot_zip_next (wpAny_call_entry F.slot_zip_next hT F.entry_zip_next (zipG_end D1 D2 Z hz hTI hTO h1 h2 hk fun h' tk e kk he=>?_) (F.args_zip_next_1 _))))
 obtain ⟨o,ho,hc⟩:=he
 refine wpAny_bind (wpAny_isInstance (T:="StopIteration") (b:=true) ⟨o,ho,hc⟩ isSubtype_stop ?_);exact wpAny_pure (hQ _ _ kk)
end
noncomputable def tit (l:Addr):Obj:={ cls:=.type "tuple_iterator",data:=.fields #[.ref l,.int 0 0] }
noncomputable def pairO (x y:Value):Obj:={ cls:=.type "tuple",data:=.seq #[x,y] }
noncomputable def zipO (a b:Addr):Obj:={ cls:=.type "zip",data:=.fields #[.none,.bool false,.bool false,.ref a,.ref b] }
noncomputable def zipHT (h:Heap) (l1 l2:Addr):Heap:=((((h.push (tit l1)).push (tit l2)).push (pairO (.ref h.objs.size) (.ref (h.push (tit l1)).objs.size))).push (pairO .none .none)).push (zipO ((h.push (tit l1)).push (tit l2)).objs.size (((h.push (tit l1)).push (tit l2)).push (pairO (.ref h.objs.size) (.ref (h.push (tit l1)).objs.size))).objs.size)
theorem newZT (l1 l2:Addr) (xs ys:Array Value) :
  Meets (Builtin.«zip.__new__» ⟨[.type "zip",.ref l1,.ref l2],[]⟩) (fun _ R s=>s.heap.IsTuple l1 xs∧s.heap.IsTuple l2 ys∧
   R (.ok (.ret (.ref ((((s.heap.push (tit l1)).push (tit l2)).push (pairO (.ref s.heap.objs.size) (.ref (s.heap.push (tit l1)).objs.size))).push (pairO .none .none)).objs.size))) { s with heap:=zipHT s.heap l1 l2 }):=
 .of_wp fun prog w A R s h=>by
  obtain ⟨hp,g,d,tk,os⟩:=s;obtain ⟨hl1,hl2,h⟩:=h;have hsub:=sub_zip
  have hT1:Heap.IsTuple (Shared.heap ⟨hp,g,d,tk,os⟩) l1 xs:=hl1
  have hT2:Heap.IsTuple (Shared.heap ⟨hp.push { cls:=.type "tuple_iterator",data:=.fields #[.ref l1,.int 0 0] },g,d,tk,os⟩) l2 ys:=hl2.at fun o e=>Heap.get?_push_of_some _ e
  wp_walk using wpAny_pyIter_tuple hT1,wpAny_pyIter_tuple hT2
  exact ⟨_,rfl,h⟩
section
variable {prog:Program} {w:World} {A:Around} {E:Value→Shared→Prop} {s:Shared}
theorem call_zipT {l1 l2:Addr} {xs ys:Array Value} {Q:Value→Shared→Prop} (hl1:s.heap.IsTuple l1 xs) (hl2:s.heap.IsTuple l2 ys)
  (h:∀h',IsZip h' (s.heap.objs.size+4) (s.heap.objs.size+2) (s.heap.objs.size+3) .none→IsPair h' (s.heap.objs.size+2) (.ref s.heap.objs.size) (.ref (s.heap.objs.size+1))→IsPair h' (s.heap.objs.size+3) .none .none→
   h'.IsTupleIter s.heap.objs.size l1 0→h'.IsTupleIter (s.heap.objs.size+1) l2 0→(∀c o,s.heap.get? c=some o→h'.get? c=some o)→Q (.ref (s.heap.objs.size+4)) { s with heap:=h' }):wpAny (model prog w) A (call (.type "zip") [.ref l1,.ref l2]) Q E s:=by
 refine callType_new F.called_zip (by decide) (F.typeCall_zip_2 _ _) (F.newCall_zip_2 _ _) (fun obj=>F.args_object_init_3 obj _ _) F.entry_zip_new (newZT l1 l2 xs ys) ⟨hl1,hl2,?_⟩
 have z1:(s.heap.push (tit l1)).objs.size=s.heap.objs.size+1:=Heap.size_push ..
 have z2:((s.heap.push (tit l1)).push (tit l2)).objs.size=s.heap.objs.size+2:=by rw [Heap.size_push,z1]
 have z3:(((s.heap.push (tit l1)).push (tit l2)).push (pairO (.ref s.heap.objs.size) (.ref (s.heap.push (tit l1)).objs.size))).objs.size=s.heap.objs.size+3:=by rw [Heap.size_push,z2]
 have z4:((((s.heap.push (tit l1)).push (tit l2)).push (pairO (.ref s.heap.objs.size) (.ref (s.heap.push (tit l1)).objs.size))).push (pairO .none .none)).objs.size=s.heap.objs.size+4:=by rw [Heap.size_push,z3]
 have g5:(zipHT s.heap l1 l2).get? (s.heap.objs.size+4)=some (zipO (s.heap.objs.size+2) (s.heap.objs.size+3)):=by
  unfold zipHT
  have e:=Heap.get?_push_size ((((s.heap.push (tit l1)).push (tit l2)).push (pairO (.ref s.heap.objs.size) (.ref (s.heap.push (tit l1)).objs.size))).push (pairO .none .none)) (o:=zipO (s.heap.objs.size+2) (s.heap.objs.size+3)) rfl
  rw [z4] at e
  rw [z3,z2];exact e
 have g4:(zipHT s.heap l1 l2).get? (s.heap.objs.size+3)=some (pairO .none .none):=by
  rw [←z3];exact Heap.get?_push_of_some _ (Heap.get?_push_size _ rfl)
 have g3:(zipHT s.heap l1 l2).get? (s.heap.objs.size+2)=some (pairO (.ref s.heap.objs.size) (.ref (s.heap.objs.size+1))):=by
  have e:=Heap.get?_push_size ((s.heap.push (tit l1)).push (tit l2)) (o:=pairO (.ref s.heap.objs.size) (.ref (s.heap.push (tit l1)).objs.size)) rfl
  rw [z2] at e
  unfold zipHT
  rw [Heap.get?_push_of_some _ (Heap.get?_push_of_some _ e),z1]
 have g2:(zipHT s.heap l1 l2).get? (s.heap.objs.size+1)=some (tit l2):=by
  rw [←z1];exact Heap.get?_push_of_some _ (Heap.get?_push_of_some _ (Heap.get?_push_of_some _ (Heap.get?_push_size _ rfl)))
 have g1:(zipHT s.heap l1 l2).get? s.heap.objs.size=some (tit l1):=Heap.get?_push_of_some _ (Heap.get?_push_of_some _ (Heap.get?_push_of_some _ (Heap.get?_push_of_some _ (Heap.get?_push_size _ rfl))))
 show _∧_
 rw [z4]
 exact ⟨⟨_,g5,rfl⟩,h _ g5 g3 g4 ⟨_,g1,rfl,rfl⟩ ⟨_,g2,rfl,rfl⟩ fun c o x=>Heap.get?_push_of_some _ (Heap.get?_push_of_some _ (Heap.get?_push_of_some _ (Heap.get?_push_of_some _ (Heap.get?_push_of_some _ x))))⟩
end
end L2
namespace L2
open PySem PySem.Spec PyProof.Rows
noncomputable def Itzt (a b:Addr):It where
 go:=fun i H=>∃xs ys x y,H a=some (.tup xs)∧H b=some (.tup ys)∧xs[i]?=some x∧ys[i]?=some y
 yld:=fun i H v H'=>∃T x y,H T=none∧v=.ref T∧H'=upd H T (.tup [x,y])∧(∀xs,H a=some (.tup xs)→xs[i]?=some x)∧(∀ys,H b=some (.tup ys)→ys[i]?=some y)
 stop:=fun i H=>∃xs ys,H a=some (.tup xs)∧H b=some (.tup ys)∧i=min xs.length ys.length
noncomputable def zipTt (z TI TO i1 i2 a b:Addr) (i:Nat) (h:Heap):Prop:=IsZip h z TI TO .none∧IsPair h TI (.ref i1) (.ref i2)∧(∃x y,IsPair h TO x y)∧h.IsTupleIter i1 a i∧h.IsTupleIter i2 b i
theorem zg_of {z TI TO i1 i2 a b:Addr} {H:Hp} {xs ys:List V} (D:ZDist z TI TO i1 i2) (hf:∀c∈[z,TI,TO,i1,i2],H c=none) (ha:H a=some (.tup xs)) (hb:H b=some (.tup ys)):ZG z TI TO i1 i2 [i1,a] [i2,b] where
 toZDist:=D
 f1n:=fun c m=>by
  simp only [List.mem_cons,List.not_mem_nil,or_false] at m
  rcases m with r | r
  ·rw [r];exact ⟨D.i1z,D.TOi1.symm,D.i12⟩
  ·rw [r];exact ⟨ne_of_none ha (hf _ (by simp)),ne_of_none ha (hf _ (by simp)),ne_of_none ha (hf _ (by simp))⟩
 f2n:=fun c m=>by
  simp only [List.mem_cons,List.not_mem_nil,or_false] at m
  rcases m with r | r
  ·rw [r];exact ⟨D.i2z,D.TOi2.symm,D.i12.symm⟩
  ·rw [r];exact ⟨ne_of_none hb (hf _ (by simp)),ne_of_none hb (hf _ (by simp)),ne_of_none hb (hf _ (by simp))⟩
theorem turn_zipT {P:Program} {w:World} {K:PySem.W.Frag} {elts:List Expr} {k:Nat} {pos:Pos} (a b z TI TO i1 i2:Addr) (D:ZDist z TI TO i1 i2):Turn P w K (.Tuple elts k pos) (Itzt a b) [z,TI,TO,i1,i2] z (zipTt z TI TO i1 i2 a b) where
 mem:=by simp
 obj:=fun i h st c hc=>by
  obtain ⟨hz,hTI,⟨x,y,hTO⟩,⟨o1,e1,c1,d1⟩,⟨o2,e2,c2,d2⟩⟩:=st
  simp only [List.mem_cons,List.not_mem_nil,or_false] at hc
  rcases hc with rfl | rfl | rfl | rfl | rfl
  ·exact ⟨_,hz,fun v q=>by cases q⟩
  ·exact ⟨_,hTI,fun v q=>by cases q⟩
  ·exact ⟨_,hTO,fun v q=>by cases q⟩
  ·exact ⟨_,e1,fun v q=>by rw [d1] at q;cases q⟩
  ·exact ⟨_,e2,fun v q=>by rw [d2] at q;cases q⟩
 keep:=fun i h h' st kk=>by
  obtain ⟨hz,hTI,⟨x,y,hTO⟩,h1,h2⟩:=st
  exact ⟨kk z (by simp) _ hz,kk TI (by simp) _ hTI,⟨x,y,kk TO (by simp) _ hTO⟩,h1.at fun o e=>kk i1 (by simp) o e,h2.at fun o e=>kk i2 (by simp) o e⟩
 item:=by
  intro X hP hw hK hc i pins s σ H E I hf st hg
  subst hP hw hK
  obtain ⟨xs,ys,x,y,hq,hq2,hx,hy⟩:=hg
  obtain ⟨its,rv,p,hz⟩:=I.tuple (SqT.of hq)
  obtain ⟨its2,rv2,p2,hz2⟩:=I.tuple (SqT.of hq2)
  obtain ⟨u,hu,ru⟩:=rv.get hx
  obtain ⟨u2,hu2,ru2⟩:=rv2.get hy
  have hn:∀c∈[z,TI,TO,i1,i2],H c=none:=fun c m=>(hf c m).1
  have Z:=zg_of D hn hq hq2
  have hh:=I.ok.hd hc
  obtain ⟨t1,t2,⟨p1,q1,t3⟩,t4,t5⟩:=id st
  have hl1:i<its.length:=(List.getElem?_eq_some_iff.mp hu).1
  have hl2:i<its2.length:=(List.getElem?_eq_some_iff.mp hu2).1
  have D1:=drawsT (prog:=X.prog) (w:=X.w) (A:=X.A.in1) (show X.A.in1.handled=none from hh) i1 a (ne_of_none hq (hn i1 (by simp))) its.toArray
  have D2:=drawsT (prog:=X.prog) (w:=X.w) (A:=X.A.in1) (show X.A.in1.handled=none from hh) i2 b (ne_of_none hq2 (hn i2 (by simp))) its2.toArray
  refine nextZ_item D1 D2 Z t1 t2 t3 ⟨t4,show s.heap.IsTuple a its.toArray from p⟩ ⟨t5,show s.heap.IsTuple b its2.toArray from p2⟩ (by simpa using hl1) (by simpa using hl2) fun h' tk v1 v2 g1 g2 a1 a2 a3 a4 a5 kk=>⟨_,rfl,?_⟩
  have e1:v1=u:=by simpa [hu] using g1.symm
  have e2:v2=u2:=by simpa [hu2] using g2.symm
  subst e1 e2
  have hT:s.heap.objs.size≤s.heap.objs.size:=Nat.le_refl _
  refine wpAny_letOwnedTupleGo_zip a1 fun h2 hz' hs'=>?_
  have ltz:z<s.heap.objs.size:=Heap.lt_size t1
  have hI2:h2.IsTuple s.heap.objs.size #[v1,v2]:=⟨_,hs'.extBut _ _ (Nat.ne_of_gt ltz) a5,rfl,_,rfl⟩
  have kp:∀c o,c∉[z,TI,TO,i1,i2]→s.heap.get? c=some o→h2.get? c=some o:=fun c o hm e=>by
   simp only [List.mem_cons,List.not_mem_nil,or_false,not_or] at hm
   exact hs'.extBut _ _ hm.1 (kk c o hm.1 hm.2.2.1 hm.2.2.2.1 hm.2.2.2.2 e)
  have I1:Inv X pins σ (upd H s.heap.objs.size (.tup [x,y])) { s with heap:=h2,toks:=tk }:=I.turnedT (fp:=[z,TI,TO,i1,i2]) kp hf hT ⟨by show 2≤sizeLine;decide,[v1,v2],.cons ru (.cons ru2 .nil),hI2⟩
  have up:∀c o,c≠z→h'.get? c=some o→h2.get? c=some o:=fun c o n e=>hs'.extBut _ _ n e
  refine ⟨.ref s.heap.objs.size,_,I1,rfl,⟨s.heap.objs.size,x,y,I.hok.fresh hT,rfl,rfl,fun xs' h=>by rw [hq] at h;cases h;exact hx,fun ys' h=>by rw [hq2] at h;cases h;exact hy⟩,⟨hz',up _ _ D.TIz (kk _ _ D.TIz D.TITO D.TIi1 D.TIi2 t2),⟨_,_,up _ _ D.TOz a2⟩,a3.1.at fun o e=>up _ o D.i1z e,a4.1.at fun o e=>up _ o D.i2z e⟩,fun c hc=>?_⟩
  rw [upd_ne ?_]
  ·exact hn c hc
  ·intro zc
   subst zc
   have old:∃o,s.heap.get? s.heap.objs.size=some o:=by
    obtain ⟨o1,e1,_⟩:=t4
    obtain ⟨o2,e2,_⟩:=t5
    generalize s.heap.objs.size=c at hc
    simp only [List.mem_cons,List.not_mem_nil,or_false] at hc
    rcases hc with r | r | r | r | r
    ·rw [r];exact ⟨_,t1⟩
    ·rw [r];exact ⟨_,t2⟩
    ·rw [r];exact ⟨_,t3⟩
    ·rw [r];exact ⟨_,e1⟩
    ·rw [r];exact ⟨_,e2⟩
   obtain ⟨o,e⟩:=old
   exact absurd (Heap.lt_size e) (Nat.lt_irrefl _)
 done:=by
  intro X hP hw hK hc i pins s σ H E I hf st hg
  subst hP hw hK
  obtain ⟨xs,ys,hq,hq2,hi⟩:=hg
  obtain ⟨its,rv,p,hz⟩:=I.tuple (SqT.of hq)
  obtain ⟨its2,rv2,p2,hz2⟩:=I.tuple (SqT.of hq2)
  have hn:∀c∈[z,TI,TO,i1,i2],H c=none:=fun c m=>(hf c m).1
  have Z:=zg_of D hn hq hq2
  have hh:=I.ok.hd hc
  obtain ⟨t1,t2,⟨p1,q1,t3⟩,t4,t5⟩:=id st
  have D1:=drawsT (prog:=X.prog) (w:=X.w) (A:=X.A.in1) (show X.A.in1.handled=none from hh) i1 a (ne_of_none hq (hn i1 (by simp))) its.toArray
  have D2:=drawsT (prog:=X.prog) (w:=X.w) (A:=X.A.in1) (show X.A.in1.handled=none from hh) i2 b (ne_of_none hq2 (hn i2 (by simp))) its2.toArray
  have l1:=rv.length
  have l2:=rv2.length
  refine nextZ_end D1 D2 Z t1 t2 t3 ⟨t4,show s.heap.IsTuple a its.toArray from p⟩ ⟨t5,show s.heap.IsTuple b its2.toArray from p2⟩ (by rw [List.size_toArray,List.size_toArray];omega) fun h' tk kk=>⟨rfl,I.turnedN (fp:=[z,TI,TO,i1,i2]) (fun c o hm e=>?_) hf⟩
  simp only [List.mem_cons,List.not_mem_nil,or_false,not_or] at hm
  exact kk c o hm.1 hm.2.2.1 hm.2.2.2.1 hm.2.2.2.2 e
 self:=fun A i s Q E st h=>wpAny_pyIter_zip st.1 h
noncomputable def iZipT (ta:TA):TI:=fun σ H R=>ta σ H fun vs H1=>∃a b,vs=[.ref a,.ref b]∧(∃xs,H1 a=some (.tup xs))∧(∃ys,H1 b=some (.tup ys))∧R (Itzt a b) H1
theorem pi_zipT {X:Cx} {elts:List Expr} {k:Nat} {tp:Pos} {a b:Expr} {ta:TA} {p pos:Pos} (hg:Gl X "zip") (hm:X.mg "zip" = none) (ha:PA X [a,b] ta) (hs:starEach [a,b] X.env=[(false,eval a X.env),(false,eval b X.env)]:=by rfl) (hs2:starEach [b] X.env=[(false,eval b X.env)]:=by rfl) :
  PI X (.Tuple elts k tp) (.Call (.Name "zip" p) [a,b] [] pos) (iZipT ta):=by
 intro pins s σ H R I h
 refine Call_ (ld_blt I hg hm boot_zip (PyProof.Rows.callWith_type1 (thn (ha pos pins s σ H _ I h) fun us s1 ⟨vs,H1,I1,r1,q1⟩=>?_) (by rw [hs,hs2]) (by rw [hs2];rfl)))
 obtain ⟨a',b',e,⟨xs,hq⟩,⟨ys,hq2⟩,q⟩:=q1
 subst e
 cases r1 with
 | cons r rr=>
  cases rr with
  | cons r' rr=>
   cases rr
   cases r
   cases r'
   obtain ⟨its,rv,p1,hz⟩:=I1.tuple (SqT.of hq)
   obtain ⟨its2,rv2,p2,hz2⟩:=I1.tuple (SqT.of hq2)
   refine call_zipT (show s1.heap.IsTuple a' its.toArray from p1) (show s1.heap.IsTuple b' its2.toArray from p2) fun h' g1 g2 g3 g4 g5 g7=>?_
   refine wpAny_pyIter_zip g1 ?_
   have I2:Inv X pins σ H1 { s1 with heap:=h' }:=I1.kept (t':=s1.toks) g7
   refine ⟨s1.heap.objs.size+4,[s1.heap.objs.size+4,s1.heap.objs.size+2,s1.heap.objs.size+3,s1.heap.objs.size,s1.heap.objs.size+1],_,_,H1,rfl,I2,turn_zipT a' b' (s1.heap.objs.size+4) (s1.heap.objs.size+2) (s1.heap.objs.size+3) s1.heap.objs.size (s1.heap.objs.size+1) (zdist _),⟨g1,g2,⟨_,_,g3⟩,g4,g5⟩,fun c hc=>?_,q⟩
   simp only [List.mem_cons,List.not_mem_nil,or_false] at hc
   have hle:s1.heap.objs.size≤c:=by rcases hc with r | r | r | r | r <;> rw [r] <;> first | exact Nat.le_refl _ | exact Nat.le_add_right _ _
   exact I1.fpOk hle (I1.hok.fresh hle)
end L2
namespace TF
open PySem PySem.Spec PyProof.Rows L2
section
variable {X:Cx} {G:Gh}
theorem ItOk.zipT {a b:Addr} {vs us:List V} {Hf:Hp} {ds es:List D} (na:¬G.fp a) (h:Hf a=some (.tup vs)) (r:RepL G Hf ds vs) (nb:¬G.fp b) (h':Hf b=some (.tup us)) (r':RepL G Hf es us):ItOk G (Itzt a b) Hf (zipD ds es):=fun i Hf2 H2 s e1 e2 st=>by
 have h2:H2 a=some (.tup vs):=e2 _ _ na (e1 _ _ na h)
 have h3:H2 b=some (.tup us):=e2 _ _ nb (e1 _ _ nb h')
 refine ⟨fun d q=>?_,fun q=>⟨vs,us,h2,h3,by rw [q];unfold zipD;rw [List.length_zipWith,r.length,r'.length]⟩⟩
 unfold zipD at q
 rw [List.getElem?_zipWith] at q
 cases qa:ds[i]? with
 | none=>rw [qa] at q;simp at q
 | some x=>
  cases qb:es[i]? with
  | none=>rw [qa,qb] at q;simp at q
  | some y=>
   rw [qa,qb] at q
   simp at q
   subst q
   obtain ⟨v,q1,q2⟩:=r.get qa
   obtain ⟨u,q3,q4⟩:=r'.get qb
   refine ⟨⟨vs,us,v,u,h2,h3,q1,q3⟩,fun z H3 ⟨T,v',u',hT,y0,y1,y2,y3⟩=>?_⟩
   have ev:=y2 vs h2
   have eu:=y3 us h3
   rw [q1] at ev;cases ev
   rw [q3] at eu;cases eu
   subst y0 y1
   have nf:=Gh.nofp st hT
   have g2:=Gr.new (o:=.tup [v,u]) e2 hT nf
   refine ⟨upd Hf2 T (.tup [v,u]),g2,Gh.grow st hT,Rep.tup_iff.mpr ⟨T,_,rfl,nf,upd_same,?_⟩⟩
   exact .cons ((q2.ext e1).ext g2.ff) (.one ((q4.ext e1).ext g2.ff))
theorem PI.or {tg iter:Expr} {w1 w2:TI} (h1:PI X tg iter w1) (h2:PI X tg iter w2):PI X tg iter (fun σ H R=>w1 σ H R∨w2 σ H R):=fun pins s σ H R I h=>h.elim (h1 pins s σ H R I) (h2 pins s σ H R I)
noncomputable def iZipS (f g:Rho→M D):Rho→M (List D):=fun ρ=>mbind (f ρ) fun d=>mbind (g ρ) fun e=>match d,e with | .lst ds,.lst es=>mret (zipD ds es) | .tup ds,.tup es=>mret (zipD ds es) | _,_=>mfail
theorem pdi_zipS {elts:List Expr} {k:Nat} {tp:Pos} {a b:Expr} {p pos:Pos} {r1 r2:Bool} {f f2:Rho→M D} (hg:Gl X "zip") (hm:X.mg "zip" = none) (ha:PD X G r1 a f) (hb:PD X G r2 b f2)
  (hs:starEach [a,b] X.env=[(false,eval a X.env),(false,eval b X.env)]:=by rfl) (hs2:starEach [b] X.env=[(false,eval b X.env)]:=by rfl):PDI X G (.Tuple elts k tp) (.Call (.Name "zip" p) [a,b] [] pos) (iZipS f f2):=by
 obtain ⟨t,pa,qa⟩:=ha.drop
 obtain ⟨u,pb,qb⟩:=hb.drop
 have pp:=pa_cons pa (pa_cons pb pa_nil (by rw [hs2];rfl)) (by rw [hs,hs2])
 refine ⟨_,PI.or (pi_zip hg hm pp hs hs2) (pi_zipT hg hm pp hs hs2),fun σ Hf H ρ s ds s' R e1 e2 e3 e4 k=>?_⟩
 obtain ⟨d,s1,a1,a2⟩:=mbind_some e4
 obtain ⟨d2,s2,a3,a4⟩:=mbind_some a2
 match d,d2,a4,a1,a3 with
 | .lst xs,.lst ys,a4,a1,a3=>
  obtain ⟨rfl,rfl⟩:=mret_some a4
  left
  refine qa σ Hf H ρ s _ _ _ e1 e2 e3 a1 fun v Hf1 H1 g st r=>?_
  refine qb σ Hf1 H1 ρ s1 _ _ _ g.fh (e2.ext g.ff) st a3 fun v2 Hf2 H2 g2 st2 r2=>?_
  obtain ⟨p1,vs,rfl,n1,h1,rl1⟩:=Rep.lst_iff.mp (r.ext g2.ff)
  obtain ⟨p2,us,rfl,n2,h2,rl2⟩:=Rep.lst_iff.mp r2
  exact ⟨p1,p2,rfl,⟨vs,SqL.of (g2.fh _ _ n1 h1)⟩,⟨us,SqL.of (g2.fh _ _ n2 h2)⟩,k _ Hf2 H2 (g.trans g2) st2 (.zip n1 h1 rl1 n2 h2 rl2)⟩
 | .tup xs,.tup ys,a4,a1,a3=>
  obtain ⟨rfl,rfl⟩:=mret_some a4
  right
  refine qa σ Hf H ρ s _ _ _ e1 e2 e3 a1 fun v Hf1 H1 g st r=>?_
  refine qb σ Hf1 H1 ρ s1 _ _ _ g.fh (e2.ext g.ff) st a3 fun v2 Hf2 H2 g2 st2 r2=>?_
  obtain ⟨p1,vs,rfl,n1,h1,rl1⟩:=Rep.tup_iff.mp (r.ext g2.ff)
  obtain ⟨p2,us,rfl,n2,h2,rl2⟩:=Rep.tup_iff.mp r2
  exact ⟨p1,p2,rfl,⟨vs,g2.fh _ _ n1 h1⟩,⟨us,g2.fh _ _ n2 h2⟩,k _ Hf2 H2 (g.trans g2) st2 (.zipT n1 h1 rl1 n2 h2 rl2)⟩
end
end TF
namespace TS
open PySem PySem.W PyProof.Rows
noncomputable def Tri {α:Type} (lt:Nat→Nat→Bool) (n:Nat):KasT α→(α→Prop)→Prop
 | .ret a,Q=>Q a
 | .ask i j k,Q=>i<n∧j<n∧Tri lt n (k (lt i j)) Q
theorem Tri.bind {α β:Type} {lt:Nat→Nat→Bool} {n:Nat} {f:α→KasT β} {Q:β→Prop}:∀{t:KasT α},Tri lt n t (fun a=>Tri lt n (f a) Q)→Tri lt n (t.bind f) Q
 | .ret _,h=>h
 | .ask i j k,h=>⟨h.1,h.2.1,Tri.bind (t:=k (lt i j)) h.2.2⟩
theorem Tri.mono {α:Type} {lt:Nat→Nat→Bool} {n:Nat} {Q R:α→Prop} (hr:∀a,Q a→R a):∀{t:KasT α},Tri lt n t Q→Tri lt n t R
 | .ret _,h=>hr _ h
 | .ask i j k,h=>⟨h.1,h.2.1,Tri.mono hr (t:=k (lt i j)) h.2.2⟩
theorem Tri.wp {α:Type} {lt:Nat→Nat→Bool} {n:Nat} {Q:α→Prop} {R:α→Shared→Prop} {s:Shared} {cmp:Nat→Nat→(Bool→Shared→Prop)→Shared→Prop} (hc:∀i j,i<n→j<n→∀C:Bool→Shared→Prop,C (lt i j) s→cmp i j C s) (hr:∀a,Q a→R a s):∀{t:KasT α},Tri lt n t Q→t.kasWp cmp R s
 | .ret _,h=>hr _ h
 | .ask i j k,h=>hc i j h.1 h.2.1 _ (Tri.wp hc hr (t:=k (lt i j)) h.2.2)
noncomputable def g (p:Array Nat) (k:Nat):Nat:=p.getD k 0
theorem g_eq {p q:Array Nat} {i j:Nat} (h:p[i]?=q[j]?):g p i=g q j:=by
 have e:∀(r:Array Nat) (k:Nat),g r k=(r[k]?).getD 0:=fun r k=>by unfold g;simp [Array.getD_eq_getD_getElem?]
 rw [e,e,h]
structure Pm (n:Nat) (p:Array Nat):Prop where
 pos:0<n
 pm:p.toList.Perm (List.range n)
section
variable {lt:Nat→Nat→Bool} {n:Nat} {p q:Array Nat}
theorem Pm.size (h:Pm n p):p.size=n:=by
 have:=h.pm.length_eq
 simpa using this
theorem Pm.of (h:Pm n p) (e:q.Perm p):Pm n q:=⟨h.pos,(Array.perm_iff_toList_perm.mp e).trans h.pm⟩
theorem Pm.bd (h:Pm n p) (k:Nat):g p k<n:=by
 unfold g
 by_cases hk:k<p.size
 ·have:p.getD k 0=p[k]:=by simp [Array.getD,hk]
  rw [this]
  have m:p[k]∈p.toList:=by simp
  have:=h.pm.mem_iff.mp m
  simpa using this
 ·have:p.getD k 0=0:=by simp [Array.getD,hk]
  rw [this];exact h.pos
theorem g_rev (hj:q.size=n) {m:Nat} (hm:m≤n) (k:Nat):g (kas_rev q 0 m) k=if k<m then g q (m-1-k) else g q k:=by
 have e:=getElem?_mirror_all (xs:=q) (i:=0) (j:=m) (by omega) k
 unfold kas_rev
 by_cases hk:k<m
 ·rw [if_pos ⟨by omega,hk⟩] at e
  rw [if_pos hk]
  exact g_eq (by rw [e];congr 1;omega)
 ·rw [if_neg (fun z=>hk z.2)] at e
  rw [if_neg hk]
  exact g_eq e
end
end TS
namespace TS
open PySem PySem.W PyProof.Rows
noncomputable def lexB:List Int→List Int→Bool
 | [],[]=>false
 | [],_::_=>true
 | _::_,[]=>false
 | a::as,b::bs=>if a=b then lexB as bs else decide (a<b)
theorem lexB_irr:∀a,lexB a a=false
 | []=>rfl
 | a::as=>by unfold lexB;rw [if_pos rfl];exact lexB_irr as
theorem lexB_tr:∀a b c,lexB a b=true→lexB b c=true→lexB a c=true
 | [],[],_,h,_=>by cases h
 | [],_::_,[],_,h=>by cases h
 | [],_::_,_::_,_,_=>rfl
 | _::_,[],_,h,_=>by cases h
 | _::_,_::_,[],_,h=>by cases h
 | a::as,b::bs,c::cs,h1,h2=>by
  unfold lexB at h1 h2 ⊢
  split at h1
  ·rename_i e;subst e
   split at h2
   ·rename_i e;subst e;rw [if_pos rfl];exact lexB_tr as bs cs h1 h2
   ·rename_i e;rw [if_neg e];exact h2
  ·rename_i e1
   split at h2
   ·rename_i e;subst e;rw [if_neg e1];exact h1
   ·rename_i e2
    simp at h1 h2
    rw [if_neg (by omega)]
    simp;omega
theorem lexB_to:∀a b,a≠b→lexB a b=false→lexB b a=true
 | [],[],n,_=>absurd rfl n
 | [],_::_,_,h=>by cases h
 | _::_,[],_,_=>rfl
 | a::as,b::bs,n,h=>by
  unfold lexB at h ⊢
  split at h
  ·rename_i e;subst e;rw [if_pos rfl]
   exact lexB_to as bs (fun z=>n (by rw [z])) h
  ·rename_i e
   simp at h
   rw [if_neg (Ne.symm e)]
   simp;omega
theorem lexB_asy {a b:List Int} (h:lexB a b=true):lexB b a=false:=by
 cases e:lexB b a with
 | false=>rfl
 | true=>have:=lexB_tr _ _ _ h e;rw [lexB_irr] at this;cases this
noncomputable def leT (a b:List Int):Bool:=!lexB b a
theorem leT_tr (a b c:List Int) (h1:leT a b=true) (h2:leT b c=true):leT a c=true:=by
 unfold leT at h1 h2 ⊢
 simp at h1 h2 ⊢
 by_cases e1:a=b
 ·subst e1;exact h2
 ·by_cases e2:b=c
  ·subst e2;exact h1
  ·exact lexB_asy (lexB_tr _ _ _ (lexB_to b a (Ne.symm e1) h1) (lexB_to c b (Ne.symm e2) h2))
noncomputable def TupAt (h:Heap) (v:Value) (ns:List Int):Prop:=∃a xs,v=.ref a∧h.IsTuple a (List.toArray xs)∧IntsAre xs ns
section
variable {prog:Program} {w:World} {A:Around} {E:Value→Shared→Prop} {s:Shared}
theorem lex_T {fin:Bool} {Q:Bool→Shared→Prop}:∀{as bs:List Int} {xs ys:List Value} (i:Nat),IntsAre xs as→IntsAre ys bs→fin=decide (as.length<bs.length)→Q (lexB as bs) s→KatLex prog w A true fin Q (xs.zip ys) i s
 | [],[],_,_,i,.nil,.nil,e,h=>by subst e;exact kat_nil h
 | [],_::_,_,_,i,.nil,.cons _ _ _,e,h=>by subst e;exact kat_nil h
 | _::_,[],_,_,i,.cons _ _ _,.nil,e,h=>by subst e;exact kat_nil h
 | a::as,b::bs,_,_,i,.cons _ t hx,.cons _ u hy,e,h=>by
  unfold lexB at h
  refine kat_cons (wpAny_eqBool_int ?_)
  by_cases q:a=b
  ·rw [if_pos q] at h
   rw [show (a==b)=true by simp [q]]
   exact kat_yes (lex_T (i+1) hx hy (by rw [e];simp) h)
  ·rw [if_neg q] at h
   rw [show (a==b)=false by simp [q]]
   refine kat_no ?_
   by_cases hi:i=0
   ·subst hi
    exact oneLt_int h
   ·rw [show (true&&i==0)=false by simp [hi]]
    exact kat_one _ _ (lt_int h)
theorem ask_T {x y:Value} {as bs:List Int} {C:Bool→Shared→Prop} (hx:TupAt s.heap x as) (hy:TupAt s.heap y bs) (h:C (lexB as bs) s):wpAny (model prog w) A (keyLt' (tuples' true) x y) C E s:=by
 obtain ⟨a,xs,rfl,⟨o,ho,hc,n,hd⟩,ix⟩:=hx
 obtain ⟨b,ys,rfl,⟨o',ho',hc',n',hd'⟩,iy⟩:=hy
 refine kat_lt ho hd ho' hd' ?_
 have e:decide ((List.toArray xs).size<(List.toArray ys).size)=decide (as.length<bs.length):=by rw [List.size_toArray,List.size_toArray,ix.length,iy.length]
 exact lex_T 0 ix iy e h
theorem tups_T {h:Heap}:∀{vs:List Value} {nss:List (List Int)},Paired (TupAt h) vs nss→(∀ns∈nss,ns≠[])→∃fs,KatTups h vs fs∧fs.length=vs.length∧∀v∈fs,∃n t,v=Value.int n t
 | _,_,.nil,_=>⟨[],.nil,rfl,fun _ z=>by simp at z⟩
 | _,_,.cons (a:=v) (b:=ns) hv r,hne=>by
  obtain ⟨fs,h1,h2,h3⟩:=tups_T r fun ns' m=>hne ns' (List.mem_cons_of_mem _ m)
  obtain ⟨a,xs,rfl,⟨o,ho,hc,n,hd⟩,ix⟩:=hv
  cases ix with
  | nil=>exact absurd rfl (hne [] (by simp))
  | cons m t r'=>
   refine ⟨.int m t::fs,.cons ho hc hd (by simp) h1,by simp [h2],fun v hv=>?_⟩
   rcases List.mem_cons.mp hv with rfl | hv
   ·exact ⟨m,t,rfl⟩
   ·exact h3 v hv
theorem kind_T {vs:List Value} {nss:List (List Int)} {Q:SortKind→Shared→Prop} (h:Paired (TupAt s.heap) vs nss) (hne:∀ns∈nss,ns≠[]) (h0:0<vs.length) (q:Q (tuples' true) s):wpAny (model prog w) A (keyKind' vs.toArray) Q E s:=by
 obtain ⟨fs,h1,h2,h3⟩:=tups_T h hne
 refine kat_kind (T:=.type "int") h1 (by omega) (fun v hv=>?_) rfl ?_
 ·obtain ⟨n,t,rfl⟩:=h3 v hv
  exact Looks.of_pure rfl
 ·exact q
theorem Paired.get3 {α β:Type} {F:α→β→Prop}:∀{l:List α} {r:List β} {i:Nat} (d:α) (d':β),Paired F l r→i<l.length→F (l.getD i d) (r.getD i d')
 | _,_,i,_,_,.nil,e=>absurd e (by simp)
 | _,_,0,_,_,.cons h t,e=>h
 | _,_,i+1,d,d',.cons h t,e=>by
  have:=Paired.get3 d d' t (i:=i) (by simpa using e)
  simpa using this
theorem range_getD {α:Type} (vs:List α) (d:α):((List.range vs.length).map fun i=>vs.getD i d)=vs:=by
 refine List.ext_getElem (by simp) fun i h1 h2=>?_
 simp [h2]
end
end TS
namespace TS
open PySem PySem.W PyProof.Rows
section
variable {prog:Program} {w:World} {A:Around} {E:Value→Shared→Prop} {s:Shared}
end
end TS
namespace TF
open PySem PySem.Spec PyProof.Rows L2 TS
section
variable {X:Cx} {G:Gh}
theorem tupsAt_of {pins:List (Addr×Obj)} {s:Shared} {σ:St} {H:Hp} {T:V→List Int→Prop} (I:Inv X pins σ H s) (hT:∀v ns,T v ns→∃a,v=.ref a∧SqT X.K H a (ns.map V.int)):∀{vs:List V} {its:List Value} {nss:List (List Int)},Vals vs its→Paired T vs nss→Paired (TupAt s.heap) its nss
 | _,_,_,.nil,.nil=>.nil
 | _,_,_,.cons r rr,.cons t tt=>by
  refine .cons ?_ (tupsAt_of I hT rr tt)
  obtain ⟨a,rfl,hq⟩:=hT _ _ t
  cases r
  obtain ⟨xs,rv,pl,hz⟩:=I.tuple hq
  exact ⟨a,xs,rfl,show s.heap.IsTuple a xs.toArray from pl,intsAre_of rv⟩
noncomputable def tupI (ns:List Int):D:=.tup (ns.map .int)
noncomputable def tupsOf:List D→Option (List (List Int))
 | []=>some []
 | .tup ds::r=>match intsOf ds,tupsOf r with | some ns,some nss=>some (ns::nss) | _,_=>none
 | _::_=>none
theorem tupsOf_eq:∀{ds:List D} {nss:List (List Int)},tupsOf ds=some nss→ds=nss.map tupI
 | [],nss,h=>by
  have h:some []=some nss:=h
  cases h;rfl
 | d::r,nss,h=>by
  cases d with
  | tup ds=>
   have h:(match intsOf ds,tupsOf r with | some ns,some nss=>some (ns::nss) | _,_=>none)=some nss:=h
   cases e1:intsOf ds with
   | none=>rw [e1] at h;cases h
   | some ns=>
    cases e2:tupsOf r with
    | none=>rw [e1,e2] at h;cases h
    | some ms=>
     rw [e1,e2] at h;cases h
     rw [List.map_cons,←tupsOf_eq e2]
     unfold tupI
     rw [←intsOf_eq e1]
  | _=>cases h
theorem repT_pair {Hf:Hp}:∀{nss:List (List Int)} {vs:List V},RepL G Hf (nss.map tupI) vs→Paired (fun v ns=>Rep G Hf (tupI ns) v) vs nss
 | [],vs,h=>by
  rw [RepL.nil_iff.mp h];exact .nil
 | ns::nss,vs,h=>by
  obtain ⟨v,r,rfl,h1,h2⟩:=RepL.cons_iff.mp h
  exact .cons h1 (repT_pair h2)
end
end TF
namespace TF
open PySem PySem.Spec PyProof.Rows L2
section
variable {X:Cx} {G:Gh} {own:List Nat} {fr:Bool}
end
section
variable {X:Cx} {G:Gh}
noncomputable def vD:V→Option D
 | .int i=>some (.int i)
 | .bl b=>some (.bl b)
 | .str x=>some (.str x)
 | .non=>some .non
 | _=>none
theorem vD_rep {H:Hp} {v:V} {c:D} (h:vD v=some c):Rep G H c v:=by
 cases v with
 | int i=>cases h;exact Rep.int_iff.mpr rfl
 | bl i=>cases h;exact Rep.bl_iff.mpr rfl
 | str i=>cases h;exact Rep.str_iff.mpr rfl
 | non=>cases h;exact Rep.non_iff.mpr rfl
 | _=>cases h
noncomputable def dIxK:D→D→Option D
 | .dk kvs,y=>match keyOf y with | some k=>(valV kvs k).bind vD | none=>none
 | .df kvs,y=>match keyOf y with | some k=>(valV kvs k).bind vD | none=>none
 | .dt kvs,.tup ks=>match keysOf ks with | some k=>(valV kvs k).bind vD | none=>none
 | .du kvs,.tup ks=>match keysOf ks with | some k=>(valV kvs k).bind vD | none=>none
 | _,_=>none
theorem pd_dget {a b:Expr} {pos:Pos} {fa fb:Rho→M D} {r1 r2:Bool} (hu:X.A.units+1<cLine) (ha:PD X G r1 a fa) (hb:PD X G r2 b fb) (hs:NoSl b:=by intro _ _;rfl):PD X G false (.Subscript a b pos) (dOp dIxK fa fb):=by
 obtain ⟨ta,pa,qa⟩:=ha.drop
 obtain ⟨tb,pb,qb⟩:=hb.drop
 refine ⟨_,pe_dget hu pa pb hs,fun σ Hf H ρ s d s' Q e1 e2 e3 e4 k=>?_⟩
 obtain ⟨da,s1,a1,a2⟩:=mbind_some e4
 obtain ⟨db,s2,a3,a4⟩:=mbind_some a2
 obtain ⟨a5,rfl⟩:=mOf_some a4
 refine qa σ Hf H ρ s da s1 _ e1 e2 e3 a1 fun x Hf1 H1 g1 st1 r1=>?_
 refine qb σ Hf1 H1 ρ s1 db _ _ g1.fh (e2.ext g1.ff) st1 a3 fun y Hf2 H2 g2 st2 r2=>?_
 have r1:=r1.ext g2.ff
 have fin:∀v c,d=c→vD v=some c→Q v H2:=fun v c ec h=>by
  subst ec
  exact k v Hf2 H2 (g1.trans g2) st2 (vD_rep h) (fun z=>by cases z)
 match da,a5,r1 with
 | .dk kvs,a5,r1=>
  obtain ⟨p,rfl,np,hp⟩:=Rep.dk_iff.mp r1
  have a5:(match keyOf db with | some k=>(valV kvs k).bind vD | none=>none)=some d:=a5
  cases ek:keyOf db with
  | none=>rw [ek] at a5;cases a5
  | some ky=>
   rw [ek] at a5
   obtain ⟨v,ev,e6⟩:=Option.bind_eq_some_iff.mp a5
   have ey:=keyOf_rep ek r2
   subst ey
   refine ⟨p,v,rfl,?_,fin v d rfl e6⟩
   rw [←ev]
   exact DGet.k (g2.fh _ _ np hp)
 | .df kvs,a5,r1=>
  obtain ⟨p,o,rfl,np,hp⟩:=Rep.df_iff.mp r1
  have a5:(match keyOf db with | some k=>(valV kvs k).bind vD | none=>none)=some d:=a5
  cases ek:keyOf db with
  | none=>rw [ek] at a5;cases a5
  | some ky=>
   rw [ek] at a5
   obtain ⟨v,ev,e6⟩:=Option.bind_eq_some_iff.mp a5
   have ey:=keyOf_rep ek r2
   subst ey
   exact ⟨p,v,rfl,.inl ⟨kvs,ky,.inr ⟨o,g2.fh _ _ np hp⟩,rfl,ev.symm⟩,fin v d rfl e6⟩
 | .du kvs,a5,r1=>
  obtain ⟨p,rfl,np,hp⟩:=Rep.du_iff.mp r1
  match db,a5,r2 with
  | .tup ks,a5,r2=>
   have a5:(match keysOf ks with | some k=>(valV kvs k).bind vD | none=>none)=some d:=a5
   obtain ⟨q,vs,rfl,nq,hq,rq⟩:=Rep.tup_iff.mp r2
   cases ek:keysOf ks with
   | none=>rw [ek] at a5;cases a5
   | some ky=>
    rw [ek] at a5
    obtain ⟨v,ev,e6⟩:=Option.bind_eq_some_iff.mp a5
    have ey:=keysOf_rep ek rq
    subst ey
    refine ⟨p,v,rfl,?_,fin v d rfl e6⟩
    rw [←ev]
    exact DGet.t (g2.fh _ _ np hp) (g2.fh _ _ nq hq)
 | .dt kvs,a5,r1=>
  obtain ⟨p,o,rfl,np,hp⟩:=Rep.dt_iff.mp r1
  match db,a5,r2 with
  | .tup ks,a5,r2=>
   have a5:(match keysOf ks with | some k=>(valV kvs k).bind vD | none=>none)=some d:=a5
   obtain ⟨q,vs,rfl,nq,hq,rq⟩:=Rep.tup_iff.mp r2
   cases ek:keysOf ks with
   | none=>rw [ek] at a5;cases a5
   | some ky=>
    rw [ek] at a5
    obtain ⟨v,ev,e6⟩:=Option.bind_eq_some_iff.mp a5
    have ey:=keysOf_rep ek rq
    subst ey
    exact ⟨p,v,rfl,.inr ⟨kvs,ky,q,.inr ⟨o,g2.fh _ _ np hp⟩,rfl,g2.fh _ _ nq hq,ev.symm⟩,fin v d rfl e6⟩
end
section
variable {X:Cx} {G:Gh} {ob:List Nat} {fr:Bool}
end
section
variable {X:Cx} {G:Gh} {ob own:List Nat} {fr:Bool}
end
section
variable {X:Cx} {G:Gh} {ob own:List Nat} {fr:Bool}
theorem pd_dnewK {pos:Pos}:PD X G true (.Dict [] [] pos) (dC (.dk [])):=by
 refine ⟨_,pe_dnewK,fun σ Hf H ρ s d s' Q e1 e2 e3 e4 k=>?_⟩
 obtain ⟨rfl,rfl⟩:=mret_some e4
 intro p hp
 have nf:=Gh.nofp e3 hp
 have g2:=Gr.new (o:=.dK []) e1 hp nf
 exact k (.ref p) _ _ g2 (Gh.grow e3 hp) (Rep.dk_iff.mpr ⟨p,rfl,nf,upd_same⟩) fun _ a ea _=>by cases ea;exact ⟨hp,fun ds ed=>by cases ed⟩
noncomputable def sPutK (i:Nat) (fx fv:Rho→M D):Rho→M Out:=fun ρ=>mbind (fv ρ) fun v=>mbind (fx ρ) fun x=>match (ρ[i]?).bind id with
 | some (.dk kvs)=>match keyOf x,valOf v with | some k,some w=>if kvs.length<sizeLine then mret (.nx (ρ.set i (some (.dk (putK kvs k w))))) else mfail | _,_=>mfail
 | _=>mfail
theorem pds_putJ {r1 r2:Bool} {i:Nat} {x:Str} {ex ev:Expr} {p1 p2 pos:Pos} {fx fv:Rho→M D} {tx tv:TE} (hu:X.A.units+1<cLine) (hi:i∈own) (hn:PE X (.Name x p1) (tVar i)) (px:PE X ex tx) (yx:YldJ G own r1 tx fx) (pv':PE X ev tv) (yv:YldJ G own r2 tv fv)
  (hs:swapsWith ev (some (.Subscript (.Name x p1) ex p2)) pos.line X.env=pure false) :
  PDS X G ob own own fr (.Assign [.Subscript (.Name x p1) ex p2] ev pos) (sPutK i fx fv):=by
 refine ⟨_,ps_dput hu hn px pv' hs,fun kn Hf0 H0 σ H ρ s out s' E ⟨Hf,j⟩ st e po=>?_⟩
 obtain ⟨v,s1,a1,a2⟩:=mbind_some e
 obtain ⟨xx,s2,a3,a4⟩:=mbind_some a2
 refine yv kn Hf0 H0 σ Hf H ρ s v s1 _ j st a1 fun w Hf1 H1 j1 e1 e2 st1 r1 _=>?_
 cases hb:(ρ[i]?).bind id with
 | none=>rw [hb] at a4;cases a4
 | some c=>
  rw [hb] at a4
  cases c with
  | dk kvs=>
   have a4':(match keyOf xx,valOf v with | some k,some w=>if kvs.length<sizeLine then mret (Out.nx (ρ.set i (some (.dk (putK kvs k w))))) else mfail | _,_=>mfail) s2=some (out,s'):=a4
   cases hk:keyOf xx with
   | none=>rw [hk] at a4';cases a4'
   | some k=>
    cases hw:valOf v with
    | none=>rw [hk,hw] at a4';cases a4'
    | some w'=>
     rw [hk,hw] at a4'
     obtain ⟨hl,a5⟩:=mif_some a4'
     obtain ⟨rfl,rfl⟩:=mret_some a5
     have ei:=bind_id hb
     obtain ⟨a,h1,h2,h3,h4,h5⟩:=j1.ow i _ hi ei
     refine ⟨_,h1,?_⟩
     refine yx kn Hf0 H0 σ Hf1 H1 ρ s1 _ _ _ j1 st1 a3 fun w2 Hf2 H2 j2 e3 e4 st2 r2 _=>?_
     obtain ⟨a',h1',h2',h3',h4',h5'⟩:=j2.ow i _ hi ei
     rw [h1] at h1';cases h1'
     have ek:=keyOf_rep hk r2
     subst ek
     have ew:=valOf_rep hw r1
     subst ew
     refine ⟨a,_,rfl,DPut.k (k:=k) (show H2 a=some (.dK kvs) from h5') (by omega),?_⟩
     exact po σ _ ⟨Hf2,j2.put hi ei h1 (show upd H2 a (.dK (putK kvs k w)) a=some (.dK (putK kvs k w)) from upd_same)⟩ (Gh.other st2 h2)
  | _=>cases a4
theorem pds_putAB {r1 r2:Bool} {i:Nat} {x:Str} {ex ev:Expr} {p1 p2 pos:Pos} {fx fv:Rho→M D} (hu:X.A.units+1<cLine) (hi:i∈own) (hn:PE X (.Name x p1) (tVar i)) (hx:PD X G r1 ex fx) (hv:PD X G r2 ev fv)
  (hs:swapsWith ev (some (.Subscript (.Name x p1) ex p2)) pos.line X.env=pure false:=by rfl) :
  PDS X G ob own own fr (.Assign [.Subscript (.Name x p1) ex p2] ev pos) (sPutK i (fun ρ=>fx (hide own ρ)) (chk r2 fv)):=by
 obtain ⟨tv,pv',qv⟩:=hv
 obtain ⟨tx,px,qx⟩:=hx
 have yv:Yld G r2 tv fv:=qv
 have yx:Yld G r1 tx fx:=qx
 exact pds_putJ hu hi hn px yx.a pv' yv.b hs
noncomputable def minI (n:Int) (r:List Int):Int:=r.foldl min n
theorem minI_le (r:List Int):∀n,minI n r≤n∧∀a∈r,minI n r≤a:=by
 induction r with
 | nil=>intro n;exact ⟨Int.le_refl _,by simp⟩
 | cons b r ih=>
  intro n
  obtain ⟨h1,h2⟩:=ih (min n b)
  refine ⟨?_,fun a ha=>?_⟩
  ·show minI (min n b) r≤n;omega
  ·show minI (min n b) r≤a
   rcases List.mem_cons.mp ha with rfl | ha
   ·omega
   ·exact h2 a ha
theorem minI_mem (r:List Int):∀n,minI n r∈n::r:=by
 induction r with
 | nil=>intro n;simp [minI]
 | cons b r ih=>
  intro n
  have h:=ih (min n b)
  show minI (min n b) r∈n::b::r
  rcases List.mem_cons.mp h with h | h
  ·rw [h]
   rcases Int.le_total n b with z | z
   ·rw [Int.min_eq_left z];simp
   ·rw [Int.min_eq_right z];simp
  ·exact List.mem_cons_of_mem _ (List.mem_cons_of_mem _ h)
theorem min_uniq {n M:Int} {r:List Int} (h1:M∈n::r) (h2:∀a∈n::r,M≤a):M=minI n r:=by
 obtain ⟨g1,g2⟩:=minI_le r n
 have g3:=h2 _ (minI_mem r n)
 have g4:minI n r≤M:=by
  rcases List.mem_cons.mp h1 with h | h
  ·rw [h];exact g1
  ·exact g2 M h
 omega
noncomputable def dMinL:List D→Option D
 | [.lst ds]=>match intsOf ds with | some (n::r)=>some (.int (minI n r)) | _=>none
 | _=>none
theorem call_minR (hc:X.calm=true):CallR X (.builtin "min") (fun xs H Q=>∃p n r,xs=[.ref p]∧SqL X.K H p ((n::r).map V.int)∧Q (.int (minI n r)) H):=by
 intro pins s σ H xs us Q I r h
 obtain ⟨p,n,rr,rfl,hp,q⟩:=h
 obtain ⟨u,rfl,ru⟩:=vals1 r
 cases ru
 obtain ⟨its,rv,pl,hz⟩:=I.list hp
 have hi:IntsAre its (n::rr):=intsAre_of rv
 obtain ⟨xs,e⟩:=hi.allInts.items
 have hns:n::rr=xs.toList.map (·.1):=by rw [←hi.numsOf,←nums_intItems,←e]
 have hl:=pl.isList
 rw [e] at hl
 have hsz:0<xs.size:=by
  have h3:0<(n::rr).length:=by simp
  rw [hns,List.length_map,Array.length_toList] at h3;exact h3
 refine min_intList (I.ok.hd hc) hl hsz fun v h' tk hv hk=>?_
 obtain ⟨t,rfl⟩:=intItems_at hv
 obtain ⟨h1,h2⟩:=argBest_lt (numAt xs) (xs.size-1)
 have e2:numAt xs (argBest (fun i j=>decide (numAt xs i<numAt xs j)) (xs.size-1))=minI n rr:=by
  refine min_uniq ?_ fun a ha=>?_
  ·rw [hns,numAt_eq];exact getD_mem (by rw [List.length_map,Array.length_toList];omega)
  ·rw [hns] at ha
   obtain ⟨j,hj,rfl⟩:=mem_getD ha
   rw [List.length_map,Array.length_toList] at hj
   rw [←numAt_eq];exact h2 j (by omega)
 rw [e2]
 exact ⟨.int (minI n rr),H,I.kept (t':=tk) hk,⟨_,rfl⟩,q⟩
theorem call_minLD (hc:X.calm=true):CallD X G (.builtin "min") dMinL:=
 ⟨_,call_minR hc,fun Hf H s xs ds c Q e1 st r q k=>by
  match ds,q,r with
  | [.lst es],q,r=>
   have q:(match intsOf es with | some (n::r)=>some (D.int (minI n r)) | _=>none)=some c:=q
   cases he:intsOf es with
   | none=>rw [he] at q;cases q
   | some ns=>
    cases ns with
    | nil=>rw [he] at q;cases q
    | cons n rr=>
     rw [he] at q
     cases q
     obtain ⟨v,rfl,rv⟩:=RepL.one_inv r
     obtain ⟨p,vs,rfl,np,hp,rp⟩:=Rep.lst_iff.mp rv
     rw [intsOf_eq he] at rp
     rw [RepL.ints rp] at hp
     exact ⟨p,n,rr,rfl,SqL.of (e1 _ _ np hp),k _ Hf H (.refl e1) st (Rep.int_iff.mpr rfl) (.scal fun z=>z)⟩⟩
end
section
variable {X:Cx} {G:Gh} {ob own:List Nat} {fr:Bool}
end
end TF
namespace HT
open PySem PySem.Spec PyProof.Rows
theorem subT_set:isSubtype (.type "tuple") (.type "set")=pure false:=by rw [isSubtype_type];kernel_rfl
theorem subT_frozen:isSubtype (.type "tuple") (.type "frozenset")=pure false:=by rw [isSubtype_type];kernel_rfl
section
variable {prog:Program} {w:World} {A:Around} {E:Value→Shared→Prop} {s:Shared}
noncomputable abbrev newSet (led:Bool):Obj:={ cls:=.type "set",dict:=none,data:=.set #[] 0 (.fresh 0 0 led) }
set_option maxHeartbeats 3200000 in
theorem set_of_tuple {l:Addr} {items:Array Value} {ns:List Int} {Q:Value→Shared→Prop} (hh:A.handled=none) (hl:s.heap.IsTuple l items) (hi:IntsAre items.toList ns) (hb:items.size+1<scanBound)
  (h:∀(h':Heap) (tk:Nat),h'.SetOf (intKind prog w) s.heap.objs.size (fun k'=>(firstMet (fun i=>ns.getD i 0) items.size).any (· == k')) (firstMet (fun i=>ns.getD i 0) items.size).length→(∀b o,b<s.heap.objs.size→s.heap.get? b=some o→h'.get? b=some o)→Q (.ref s.heap.objs.size) { s with heap:=h',toks:=tk }) :
  wpAny (model prog w) A (call (.type "set") [.ref l]) Q E s:=by
 obtain ⟨c,tl,hmro⟩:=PySem.F.called_set.mro;have hmade:=PySem.F.called_set.made;have hsub:=PySem.F.called_set.sub
 refine wpAny_call (codeAny_of_tree ?_);show wpAny _ _ (callAny (.type "set") _) _ _ _
 refine wpAny_pure ⟨Code.quiet_builtin _ (by decide +kernel),codeAny_builtin PySem.F.entry_type_call ?_⟩;rw [Around.under_plain (weight_type_call_type "set" [.ref l] []) rfl]
 have h1:=PySem.F.called_set.notType;have h2:=PySem.F.called_set.canCreate;have hct:=PySem.F.typeCall_set_1 (.ref l)
 repeat (any_goals (first | assumption | wp_step))
 refine codeAny_mono (code_set_new_1 (.ref l) (E:=E) (Q₁:=fun obj s₁=>∃led:Bool,obj=.ref s.heap.objs.size∧s₁ = { s with heap:=s.heap.push (newSet led) }) fun led=>⟨led,rfl,rfl⟩) fun r s₁ hr=>?_
 cases r with
 | error e=>exact hr
 | ok fl=>
  cases fl with
  | ret obj=>
   obtain ⟨led,rfl,rfl⟩:=hr;have hS:(s.heap.push (newSet led)).get? s.heap.objs.size=some (newSet led):=Heap.get?_push_size _ rfl
   have hT:Shared.TypeIs { s with heap:=s.heap.push (newSet led) } (.ref s.heap.objs.size) "set":=⟨_,hS,rfl⟩
   have hli:=PySem.F.called_set.init.lookup;have hbi:=PySem.F.called_set.init.bind (.ref s.heap.objs.size)
   repeat (any_goals (first | assumption | wp_step))
   refine codeAny_mono (codeAny_call_builtin (R:=wants (fun r s₂=>r=.none∧∃h' tk,s₂ = { s with heap:=h',toks:=tk }∧h'.SetOf (intKind prog w) s.heap.objs.size (fun k'=>(firstMet (fun i=>ns.getD i 0) items.size).any (· == k')) (firstMet (fun i=>ns.getD i 0) items.size).length∧(∀b o,b<s.heap.objs.size→s.heap.get? b=some o→h'.get? b=some o)) E) PySem.F.called_set.init.plain PySem.F.entry_set_init (check_set_init_1 hT ?_)) fun r₂ s₂ hr₂=>?_
   ·obtain ⟨ol,hol,hcl,nl,hdl⟩:=hl;obtain ⟨ocls,odict,odata,oslots⟩:=ol
    simp only at hcl hdl;subst hcl;subst hdl
    have hol':(s.heap.push (newSet led)).get? l=some { cls:=.type "tuple",dict:=odict,data:=.seq items nl,slots:=oslots }:=Heap.get?_push_of_some _ hol
    have z1:=subT_set;have z2:=subT_frozen;have hne:(Value.type "tuple" == Value.type "dict")=false:=by decide
    have hl1:(s.heap.push (newSet led)).IsTuple l items:=⟨_,hol',rfl,nl,rfl⟩
    unfold Builtin.«set.__init__» noKeywords Builtin.Frozenset.updateFrom
    generalize hPI:pyIter=PI
    wp_walk
    subst hPI
    refine wpAny_pyIter_tuple hl1 ?_;refine wpAny_bind (wpAny_runValue ?_)
    have hlS:l<s.heap.objs.size:=Heap.lt_size hol;have hh3:A.in1.in1.in1.handled=none:=by simp [hh]
    have hneI:l≠(s.heap.push (newSet led)).objs.size:=by rw [Heap.size_push];exact Nat.ne_of_lt (Nat.lt_succ_of_lt hlS)
    have hSf:s.heap.objs.size∉[(s.heap.push (newSet led)).objs.size,l]:=by
     rw [Heap.size_push];simp only [List.mem_cons,List.mem_singleton,List.not_mem_nil,or_false,not_or];exact ⟨Nat.ne_of_lt (Nat.lt_succ_self _),Nat.ne_of_gt hlS⟩
    have hval:∀(i:Nat) (v:Value),items[i]?=some v→∃t,v=.int ((fun i=>ns.getD i 0) i) t:=fun i v hv=>IntsAre.int_at hi i v (by rw [Array.getElem?_toList];exact hv)
    refine codeAny_set_update_loopS ((Walks.tuple hh3 _ l hneI items).toS) s.heap.objs.size hSf (fun i=>ns.getD i 0) hval hb (items.size-0) 0 _ (by omega) (Nat.zero_le _) ⟨⟨_,Heap.get?_push_size _ rfl,rfl,rfl⟩,(hl1.push _)⟩ ?hS0 ?hR
    case hS0=>
     have hget:((s.heap.push (newSet led)).push { cls:=.type "tuple_iterator",data:=.fields #[.ref l,.int 0 0] }).get? s.heap.objs.size=some (newSet led):=Heap.get?_push_of_some _ hS
     exact SetOf_congr ((setObjOf_fresh (knd:=intKind prog w) led).setOf hget (by unfold scanBound;omega)) (fun _=>rfl) rfl
    case hR=>
     intro s' hm hS';obtain ⟨h',g',d',tk',os'⟩:=s'
     have eg:g'=s.gens:=hm.gens;have ed:d'=s.drawn:=hm.drawn;have eo:os'=s.os:=hm.os
     subst eg;subst ed;subst eo;show wpAny _ _ _ _ _ _
     refine wpAny_pure ?_;show wpAny _ _ (ret Value.none) _ _ _
     refine wpAny_pure ⟨rfl,h',tk',rfl,hS',fun b o hb e=>?_⟩
     have hb1:b≠s.heap.objs.size:=Nat.ne_of_lt hb;have hb2:b≠(s.heap.push (newSet led)).objs.size:=by rw [Heap.size_push];exact Nat.ne_of_lt (Nat.lt_succ_of_lt hb)
     exact hm.heap b o (by simp only [List.mem_cons,List.mem_singleton,List.not_mem_nil,or_false,not_or];exact ⟨hb1,hb2⟩) (Heap.get?_push_of_some _ (Heap.get?_push_of_some _ e))
   ·cases r₂ with
    | error e=>exact hr₂
    | ok fl₂=>
     cases fl₂ with
     | ret r=>
      obtain ⟨rfl,h',tk,rfl,hS',hk'⟩:=hr₂;repeat (any_goals (first | assumption | wp_step))
      exact h _ _ hS' hk'
     | next=>exact hr₂.elim
     | brk=>exact hr₂.elim
     | cont=>exact hr₂.elim
  | next=>exact hr.elim
  | brk=>exact hr.elim
  | cont=>exact hr.elim
end
end HT
namespace TF
open PySem PySem.Spec PyProof.Rows L2
section
variable {X:Cx} {G:Gh}
noncomputable def unlike (ns:List Int):Nat:=(ns.foldl step_dedup []).length
theorem firstMet_unlike (ns:List Int) (n:Nat) (h:n=ns.length):firstMet (fun i=>ns.getD i 0) n=ns.foldl step_dedup []:=by
 unfold firstMet
 congr 1
 subst h
 apply List.ext_getElem?
 intro i
 rw [List.getElem?_map]
 by_cases hi:i<ns.length
 ·rw [List.getElem?_range hi,List.getElem?_eq_getElem hi]
  simp [List.getD_eq_getElem?_getD,List.getElem?_eq_getElem hi]
 ·rw [List.getElem?_eq_none (by simp;omega:(List.range ns.length).length≤i),List.getElem?_eq_none (by omega)]
  rfl
theorem call_setR (hc:X.calm=true):CallR X (.type "set") (fun xs H Q=>∃(p:Addr) (ns:List Int),xs=[.ref p]∧(SqL X.K H p (ns.map V.int)∨SqT X.K H p (ns.map V.int))∧ns.length≤1000∧∀l S,H l=none→Q (.ref l) (upd H l (.set S (unlike ns)))):=by
 intro pins s σ H xs us Q I r h
 obtain ⟨p,ns,rfl,hp,hl,q⟩:=h
 obtain ⟨u,rfl,ru⟩:=vals1 r
 cases ru
 have hsb:(1000:Nat)+1<scanBound:=by unfold scanBound;omega
 have fin:∀(items:Array Value) (_:IntsAre items.toList ns) (h':Heap) (tk:Nat),h'.SetOf (intKind X.prog X.w) s.heap.objs.size (fun k'=>(firstMet (fun i=>ns.getD i 0) items.size).any (· == k')) (firstMet (fun i=>ns.getD i 0) items.size).length→(∀b o,b<s.heap.objs.size→s.heap.get? b=some o→h'.get? b=some o)→EP X pins σ Q (.ref s.heap.objs.size) { s with heap:=h',toks:=tk }:=fun items hi h' tk hS hk=>by
  have e:firstMet (fun i=>ns.getD i 0) items.size=ns.foldl step_dedup []:=firstMet_unlike ns _ (by rw [←hi.length,Array.length_toList])
  rw [e] at hS
  exact ⟨.ref s.heap.objs.size,_,I.laid (a:=s.heap.objs.size) (o:=.set (fun k'=>(ns.foldl step_dedup []).any (· == k')) (unlike ns)) (t':=tk) (fun b o e=>hk b o (Heap.lt_size e) e) (Nat.le_refl _) hS,rfl,q _ _ (I.hok.fresh (Nat.le_refl _))⟩
 rcases hp with hp | hp
 ·obtain ⟨its,rv,pl,hz⟩:=I.list hp
  have hi:IntsAre its ns:=intsAre_of rv
  have hll:=hi.length
  exact call_set_list (I.ok.hd hc) pl.isList (by simpa using hi) (by simp;omega) (fin its.toArray (by simpa using hi))
 ·obtain ⟨its,rv,pl,hz⟩:=I.tuple hp
  have hi:IntsAre its ns:=intsAre_of rv
  have hll:=hi.length
  exact HT.set_of_tuple (I.ok.hd hc) (show s.heap.IsTuple p its.toArray from pl) (by simpa using hi) (by simp;omega) (fin its.toArray (by simpa using hi))
theorem call_lenSet:CallR X (.builtin "len") (fun xs H Q=>∃(p:Addr) (S:Int→Bool) (n:Nat),xs=[.ref p]∧H p=some (.set S n)∧n≤1000∧Q (.int n) H):=by
 intro pins s σ H xs us Q I r h
 obtain ⟨p,S,n,rfl,hp,hn,q⟩:=h
 obtain ⟨u,rfl,ru⟩:=vals1 r
 cases ru
 obtain ⟨o,es,ep,t,h1,h2,h3,h4,h5,h6,h7,h8⟩:=(show s.heap.SetOf (intKind X.prog X.w) p S n from I.hok p _ hp)
 refine call_len_set h1 h2 h3 h7 (by omega) ?_
 rw [h8]
 exact ⟨.int n,H,I.tok _,⟨_,rfl⟩,q⟩
theorem step_le (ns:List Int):∀acc:List Int,(ns.foldl step_dedup acc).length≤acc.length+ns.length:=by
 induction ns with
 | nil=>intro acc;simp
 | cons a r ih=>
  intro acc
  have h:=ih (step_dedup acc a)
  have:(step_dedup acc a).length≤acc.length+1:=by unfold step_dedup;split <;> simp
  show (r.foldl step_dedup (step_dedup acc a)).length≤_
  simp only [List.length_cons];omega
theorem unlike_le (ns:List Int):unlike ns≤ns.length:=by
 have:=step_le ns []
 simpa [unlike] using this
noncomputable def dLenSet (f:Rho→M D):Rho→M D:=fun ρ=>mbind (f ρ) fun d=>match d with
 | .tup ds=>(match intsOf ds with | some ns=>if ns.length≤1000 then mret (.int (unlike ns:Nat)) else mfail | none=>mfail)
 | .lst ds=>(match intsOf ds with | some ns=>if ns.length≤1000 then mret (.int (unlike ns:Nat)) else mfail | none=>mfail)
 | _=>mfail
theorem pd_lenSet {a:Expr} {p1 p2 pos1 pos:Pos} {r1:Bool} {f:Rho→M D} (hc:X.calm=true) (hg:Gl X "len") (hm:X.mg "len" = none) (hv:bootBuiltins "len" = some (.builtin "len")) (hg2:Gl X "set") (hm2:X.mg "set" = none) (hv2:bootBuiltins "set" = some (.type "set")) (ha:PD X G r1 a f)
  (hs:starEach [a] X.env=(false,eval a X.env)::starEach [] X.env:=by rfl)
  (hs2:starEach [Expr.Call (.Name "set" p2) [a] [] pos1] X.env=(false,eval (Expr.Call (.Name "set" p2) [a] [] pos1) X.env)::starEach [] X.env:=by rfl) (hpl:(backTo pos (starEach [] X.env)).any (·.1)=false:=by rfl) (hpl1:(backTo pos1 (starEach [] X.env)).any (·.1)=false:=by rfl) :
  PD X G true (.Call (.Name "len" p1) [.Call (.Name "set" p2) [a] [] pos1] [] pos) (dLenSet f):=by
 obtain ⟨t,pa,qa⟩:=ha.drop
 refine ⟨_,pe_callB call_lenSet hg hm hv (pa_cons (pe_callTy (call_setR hc) hg2 hm2 hv2 (pa_cons pa pa_nil hs) (by decide) (by decide) hs hpl1) pa_nil hs2) (by decide) (by decide) hs2 hpl,fun σ Hf H ρ s d s' Q e1 e2 e3 e4 k=>?_⟩
 obtain ⟨d0,s1,a1,a2⟩:=mbind_some e4
 refine qa σ Hf H ρ s d0 s1 _ e1 e2 e3 a1 fun v Hf1 H1 g1 st1 r1=>?_
 have go:∀ns:List Int,(if ns.length≤1000 then mret (D.int (unlike ns:Nat)) else mfail) s1=some (d,s')→(∃p,v=.ref p∧(SqL X.K H1 p (ns.map V.int)∨SqT X.K H1 p (ns.map V.int)))→∃(p:Addr) (ns:List Int),[v]=[.ref p]∧(SqL X.K H1 p (ns.map V.int)∨SqT X.K H1 p (ns.map V.int))∧ns.length≤1000∧∀l S,H1 l=none→∃(p:Addr) (S':Int→Bool) (n:Nat),[V.ref l]=[.ref p]∧upd H1 l (.set S (unlike ns)) p=some (.set S' n)∧n≤1000∧Q (.int n) (upd H1 l (.set S (unlike ns))):=fun ns h ⟨p,ev,hp⟩=>by
  obtain ⟨hl,h⟩:=mif_some h
  obtain ⟨rfl,rfl⟩:=mret_some h
  have hu:=unlike_le ns
  refine ⟨p,ns,by rw [ev],hp,hl,fun l S hn=>⟨l,S,unlike ns,rfl,upd_same,by omega,?_⟩⟩
  have nf:=Gh.nofp st1 hn
  have g2:=Gr.new (o:=.set S (unlike ns)) g1.fh hn nf
  exact k _ _ _ (g1.trans g2) (Gh.grow st1 hn) (Rep.int_iff.mpr rfl) fun _=>.scal fun z=>z
 match d0,a2,r1 with
 | .tup ds,a2,r1=>
  have a2:(match intsOf ds with | some ns=>if ns.length≤1000 then mret (D.int (unlike ns:Nat)) else mfail | none=>mfail) s1=some (d,s'):=a2
  cases he:intsOf ds with
  | none=>rw [he] at a2;cases a2
  | some ns=>
   rw [he] at a2
   obtain ⟨p,vs,rfl,np,hp,rp⟩:=Rep.tup_iff.mp r1
   rw [intsOf_eq he] at rp
   rw [RepL.ints rp] at hp
   exact go ns a2 ⟨p,rfl,.inr (SqT.of (g1.fh _ _ np hp))⟩
 | .lst ds,a2,r1=>
  have a2:(match intsOf ds with | some ns=>if ns.length≤1000 then mret (D.int (unlike ns:Nat)) else mfail | none=>mfail) s1=some (d,s'):=a2
  cases he:intsOf ds with
  | none=>rw [he] at a2;cases a2
  | some ns=>
   rw [he] at a2
   obtain ⟨p,vs,rfl,np,hp,rp⟩:=Rep.lst_iff.mp r1
   rw [intsOf_eq he] at rp
   rw [RepL.ints rp] at hp
   exact go ns a2 ⟨p,rfl,.inl (SqL.of (g1.fh _ _ np hp))⟩
theorem unlike_nodup (ns:List Int):(ns.foldl step_dedup []).Nodup∧∀x,x∈ns.foldl step_dedup []↔x∈ns:=by
 have gen:∀(r acc:List Int),acc.Nodup→(r.foldl step_dedup acc).Nodup∧∀x,x∈r.foldl step_dedup acc↔x∈acc∨x∈r:=by
  intro r
  induction r with
  | nil=>intro acc h;exact ⟨h,fun x=>by simp⟩
  | cons a r ih=>
   intro acc h
   show (r.foldl step_dedup (step_dedup acc a)).Nodup∧∀x,x∈r.foldl step_dedup (step_dedup acc a)↔_
   by_cases m:acc.any (· == a)=true
   ·have e:step_dedup acc a=acc:=by unfold step_dedup;rw [if_pos m]
    rw [e]
    obtain ⟨h1,h2⟩:=ih acc h
    obtain ⟨y,hy,ey⟩:=List.any_eq_true.mp m
    have ey:y=a:=by simpa using ey
    subst ey
    refine ⟨h1,fun x=>?_⟩
    rw [h2 x]
    constructor
    ·rintro (z | z)
     ·exact .inl z
     ·exact .inr (List.mem_cons_of_mem _ z)
    ·rintro (z | z)
     ·exact .inl z
     ·rcases List.mem_cons.mp z with z | z
      ·subst z;exact .inl hy
      ·exact .inr z
   ·have e:step_dedup acc a=acc ++ [a]:=by unfold step_dedup;rw [if_neg m]
    rw [e]
    have na:a∉acc:=fun z=>m (List.any_eq_true.mpr ⟨a,z,by simp⟩)
    obtain ⟨h1,h2⟩:=ih (acc ++ [a]) (List.nodup_append.mpr ⟨h,by simp,fun x hx y hy=>by
     have:=List.mem_singleton.mp hy
     subst this
     exact fun z=>na (z▸hx)⟩)
    refine ⟨h1,fun x=>?_⟩
    rw [h2 x]
    simp only [List.mem_append,List.mem_cons,List.not_mem_nil,or_false]
    constructor
    ·rintro ((z | z) | z)
     ·exact .inl z
     ·exact .inr (.inl z)
     ·exact .inr (.inr z)
    ·rintro (z | z | z)
     ·exact .inl (.inl z)
     ·exact .inl (.inr z)
     ·exact .inr z
 obtain ⟨h1,h2⟩:=gen ns [] List.nodup_nil
 exact ⟨h1,fun x=>by rw [h2 x];simp⟩
end
end TF
namespace HT
open PySem PySem.Spec PyProof.Rows
section
variable {prog:Program} {w:World} {A:Around} {R:Result→Shared→Prop} {I:Addr} {fp wr:List Addr} {n:Nat} {P:Nat→Value→Prop} {St:Nat→Heap→Prop}
end
section
variable {prog:Program} {w:World} {A:Around} {E:Value→Shared→Prop} {s:Shared}
end
section
variable {prog:Program} {w:World} {A:Around} {R:Result→Shared→Prop} {I:Addr} {fp wr:List Addr} {n:Nat} {P:Nat→Value→Prop} {St:Nat→Heap→Prop}
end
section
variable {prog:Program} {w:World} {A:Around} {E:Value→Shared→Prop} {s:Shared}
end
end HT
namespace L2
open PySem PySem.Spec PyProof.Rows
section
variable {X:Cx}
theorem looks_builtin {M:Model} {h:Heap} {id:String}:PySem.W.Looks M h (keeperOf (.builtin id)) Keeper.machine:=fun A Q E s _ q=>by
 show wpAny M A (pure Keeper.machine) Q E s
 exact wpAny_pure q
end
end L2
namespace TF
open PySem PySem.Spec PyProof.Rows L2
section
variable {X:Cx} {G:Gh}
end
end TF
namespace TS
open PySem PySem.Spec PyProof.Rows L2
section
variable {prog:Program} {w:World} {A:Around} {E:Value→Shared→Prop} {s:Shared}
end
end TS
namespace TF
open PySem PySem.Spec PyProof.Rows L2 TS
section
variable {X:Cx} {G:Gh}
end
end TF
namespace TP2
open PySem L2 TF TP
end TP2
namespace TP3
open PySem L2 TF TP
open TP2
noncomputable def g__law_tsame (Fs:List D→M D):Rho→M Out:=(sSeq (sIf (asB (dOp dIsN (dVar 1) (dC .non)))
 (sSeq (sRet (dOp dIsN (dVar 0) (dC .non)))
 sNext)
 sNext)
 (sSeq (sIf (asB (dCall dIsi (dCons (dVar 1) (dCons (dC (.ty "bool")) dNil))))
 (sSeq (sRet (vAnd (dCall dIsi (dCons (dVar 0) (dCons (dC (.ty "bool")) dNil))) (dOp dEqO (dVar 0) (dVar 1))))
 sNext)
 sNext)
 (sSeq (sIf (asB (dCall dIsi (dCons (dVar 1) (dCons (dC (.ty "int")) dNil))))
 (sSeq (sRet (vAnd (dCall dIsi (dCons (dVar 0) (dCons (dC (.ty "int")) dNil))) (vAnd (vNot (dCall dIsi (dCons (dVar 0) (dCons (dC (.ty "bool")) dNil)))) (dOp dEqO (dVar 0) (dVar 1)))))
 sNext)
 sNext)
 (sSeq (sIf (asB (dCall dIsi (dCons (dVar 1) (dCons (dC (.ty "str")) dNil))))
 (sSeq (sRet (vAnd (dCall dIsi (dCons (dVar 0) (dCons (dC (.ty "str")) dNil))) (dOp dEqO (dVar 0) (dVar 1))))
 sNext)
 sNext)
 (sSeq (sIf (bOr (asB (dOp dNeO (dCall dIsi (dCons (dVar 1) (dCons (dC (.ty "tuple")) dNil))) (dCall dIsi (dCons (dVar 0) (dCons (dC (.ty "tuple")) dNil))))) (asB (dOp dNeO (dCall dIsi (dCons (dVar 1) (dCons (dC (.ty "list")) dNil))) (dCall dIsi (dCons (dVar 0) (dCons (dC (.ty "list")) dNil))))))
 (sSeq (sRet (dC (.bl false)))
 sNext)
 sNext)
 (sSeq (sRet (vAnd (dOp dEqO (dCall dLen (dCons (dVar 0) dNil)) (dCall dLen (dCons (dVar 1) dNil))) (dCall dAll (dCons (dComp [none,none] (iZipS (dVar 0) (dVar 1)) (gPair 0 1) bTrue (dFn Fs (dCons (dVar 0) (dCons (dVar 1) dNil)))) dNil))))
 sNext))))))
noncomputable def F__law_tsame:Nat→List D→M D
 | 0=>fun _=>mfail
 | n+1=>runB 2 2 (g__law_tsame (F__law_tsame n))
end TP3
namespace TP3
open PySem L2 TF TP
open TP2
end TP3
namespace TP3
open PySem L2 TF TP
open TP2
noncomputable def g_least_free:Rho→M Out:=(sSeq (sRet (dCall dMinL (dCons (dComp [none,some 0] (iRange1 (dOp dAdd (dCall dLen (dCons (dVar 0) dNil)) (dC (.int 1)))) (gOne 0) (asB (dOp dNotIn (dVar 0) (dVar 1))) (dVar 0)) dNil)))
 sNext)
noncomputable def F_least_free:List D→M D:=runB 1 1 g_least_free
end TP3
namespace TP3
open PySem L2 TF TP
open TP2
end TP3
namespace TP3
open PySem L2 TF TP
open TP2
end TP3
namespace TP3
open PySem L2 TF TP
open TP2
noncomputable def g__law_tis_hueing:Rho→M Out:=(sSeq (sIf (bOr (bNot (asB (dCall dIsi (dCons (dVar 1) (dCons (dC (.ty "tuple")) dNil))))) (asB (dOp dNeO (dCall dLen (dCons (dVar 1) dNil)) (dOp dIx (dVar 0) (dC (.int 0))))))
 (sSeq (sRet (dC (.bl false)))
 sNext)
 sNext)
 (sSeq (sFor (iSeqT (dVar 1)) (gOne 2)
 (sSeq (sIf (bOr (bNot (asB (dCall dIsi (dCons (dVar 2) (dCons (dC (.ty "int")) dNil))))) (bOr (asB (dCall dIsi (dCons (dVar 2) (dCons (dC (.ty "bool")) dNil)))) (bNot (bChain (dC (.int 0)) (cLink dLe (dVar 2) (cLast dLt (dOp dIx (dVar 0) (dC (.int 0)))))))))
 (sSeq (sRet (dC (.bl false)))
 sNext)
 sNext)
 sNext))
 (sSeq (sRet (dOp dEqO (dComp [none,some 1] (iSeqT (dOp dIx (dVar 0) (dC (.int 1)))) (gOne 0) (asB (dOp dEqO (dOp dIx (dVar 1) (dOp dIx (dVar 0) (dC (.int 0)))) (dOp dIx (dVar 1) (dOp dIx (dVar 0) (dC (.int 1)))))) (dVar 0)) (dLst dNil)))
 sNext)))
noncomputable def F__law_tis_hueing:List D→M D:=runB 3 2 g__law_tis_hueing
end TP3
namespace TP3
open PySem L2 TF TP
open TP2
end TP3
namespace TQ
open PySem L2 TF TQ
open TP
open TP2
open TP3
noncomputable def g_do_meet:Rho→M Out:=(sSeq (sRet (vAnd (dOp dLt (dOp dIx (dVar 0) (dC (.int 0))) (dOp dIx (dVar 1) (dC (.int 1)))) (dOp dLt (dOp dIx (dVar 1) (dC (.int 0))) (dOp dIx (dVar 0) (dC (.int 1))))))
 sNext)
noncomputable def F_do_meet:List D→M D:=runB 2 2 g_do_meet
noncomputable def g_is_same_or_tied:Rho→M Out:=(sSeq (sRet (vOr (dOp dEqO (dVar 1) (dVar 2)) (dFn F_are_tied (dCons (dVar 0) (dCons (dVar 1) (dCons (dVar 2) dNil))))))
 sNext)
noncomputable def F_is_same_or_tied:List D→M D:=runB 3 3 g_is_same_or_tied
noncomputable def L_lam_put_in:List D→M D:=runB 4 4 (sSeq (sIf (asB (dOp dEqO (dOp dIx (dVar 0) (dC (.int 0))) (dOp dIx (dVar 1) (dC (.int 0)))))
 (sSeq (sRet (dFn F_are_tied (dCons (dOp dIx (dVar 2) (dOp dIx (dVar 0) (dC (.int 0)))) (dCons (dOp dIx (dVar 0) (dC (.int 1))) (dCons (dOp dIx (dVar 1) (dC (.int 1))) dNil)))))
 sNext)
 sNext)
 (sSeq (sRet (dFn F_are_tied (dCons (dVar 3) (dCons (dOp dIx (dVar 0) (dC (.int 0))) (dCons (dOp dIx (dVar 1) (dC (.int 0))) dNil)))))
 sNext))
noncomputable def L_lam_turned:List D→M D:=runE 3 (vNot (dFn F_are_tied (dCons (dVar 2) (dCons (dVar 0) (dCons (dVar 1) dNil)))))
noncomputable def L_lam_by_pairs:List D→M D:=runB 4 4 (sSeq (sRet (vAnd (dFn F_is_same_or_tied (dCons (dVar 2) (dCons (dOp dIx (dVar 0) (dC (.int 0))) (dCons (dOp dIx (dVar 1) (dC (.int 0))) dNil)))) (dFn F_is_same_or_tied (dCons (dVar 3) (dCons (dOp dIx (dVar 0) (dC (.int 1))) (dCons (dOp dIx (dVar 1) (dC (.int 1))) dNil))))))
 sNext)
noncomputable def L_lam_numbered_anew:List D→M D:=runE 3 (dFn F_are_tied (dCons (dVar 2) (dCons (dVar 0) (dCons (dVar 1) dNil))))
noncomputable def L_lam_web_of_below:List D→M D:=runE 3 (vOr (dOp dIn (dTup (dCons (dVar 0) (dCons (dVar 1) dNil))) (dVar 2)) (dOp dIn (dTup (dCons (dVar 1) (dCons (dVar 0) dNil))) (dVar 2)))
noncomputable def L_lam_even_web:List D→M D:=runE 3 (dOp dNeO (dOp dMod (dVar 0) (dVar 2)) (dOp dMod (dVar 1) (dVar 2)))
noncomputable def L_lam_web_on_ring:List D→M D:=runE 4 (dOp dIn (dCall dMin2 (dCons (dOp dSub (dVar 1) (dVar 0)) (dCons (dOp dAdd (dOp dSub (dVar 2) (dVar 1)) (dVar 0)) dNil))) (dVar 3))
noncomputable def Tl:Nat→List D→M D
 | 0=>L_lam_turned
 | 1=>L_lam_numbered_anew
 | 2=>F_do_meet
 | 3=>L_lam_put_in
 | 4=>L_lam_by_pairs
 | 5=>L_lam_web_of_below
 | 6=>L_lam_even_web
 | 7=>L_lam_web_on_ring
 | _=>fun _=>mfail
noncomputable def g_web_where:Rho→M Out:=(sSeq (sSet 2 (dFn F_pairs_of (dCons (dListRange (dCall dLen (dCons (dVar 0) dNil))) dNil)))
 (sSeq (sRet (dTup (dCons (dCall dLen (dCons (dVar 0) dNil)) (dCons (dCall dTuple (dCons (dComp [none,some 1,some 0] (iSeqL (dVar 2)) (gOne 0) (asB (dApp Tl 1 (dCons (dOp dIx (dVar 2) (dOp dIx (dVar 0) (dC (.int 0)))) (dCons (dOp dIx (dVar 2) (dOp dIx (dVar 0) (dC (.int 1)))) dNil)))) (dVar 0)) dNil)) dNil))))
 sNext))
noncomputable def F_web_where:List D→M D:=runB 3 2 g_web_where
noncomputable def g_web_of_pieces:Rho→M Out:=(sSeq (sRet (dFnC F_web_where 2 [] (dVar 0)))
 sNext)
noncomputable def F_web_of_pieces:List D→M D:=runB 1 1 g_web_of_pieces
end TQ
namespace TF
open PySem PySem.Spec PyProof.Rows L2
noncomputable def spLawT (K:PySem.W.Frag) (L:List (Addr×Str)):Sp:=fun vs H Q _=>∃(a:Addr) (ns:List Int),vs=[.ref a]∧SqL K H a (ns.map V.int)∧ns.length≤63∧(∀P q,(P,q)∈L→H P=some (.tbl #[]))∧∀H',Q (.bl true) H'
theorem spLaw_tabs {L:List (Addr×Str)} {tb:List (Str×Addr×Addr)} {H:Hp} (h:∀P q,(P,q)∈L→∃x c,(x,c,P)∈tb) (hT:∀e∈tb,H e.2.2=some (.tbl #[])):∀P q,(P,q)∈L→H P=some (.tbl #[]):=fun P q m=>by
 obtain ⟨x,c,z⟩:=h P q m
 exact hT _ z
theorem tabs0 {G0:Gh} {L:List (Addr×Str)} {H:Hp} (h:∀P q,(P,q)∈L→H P=some (.tbl #[])):∀P q,(P,q)∈L→TabSt G0 L P q H:=fun P q m=>⟨#[],h P q m,trivial,fun pos cv hc=>by cases hc⟩
theorem lawD_runT {L:List (Addr×Str)} {H0 H:Hp} {p wa:Addr} {m:Int} {w:List Int} {g:Rho→M Out} {Q:VK} {n:Nat} {s':Pn} {x:V} (st:stD p wa ([m,0],w) H) (hTb:∀P q,(P,q)∈L→H0 P=some (.tbl #[])) (kp:∀b u,H0 b=some u→H b=some u) (hp:H0 p=none) (hw:H0 wa=none) (hQ:∀H',Q (.bl true) H')
  (hg:g (none::some .pen::List.replicate n none) ([m,0],w)=some (.rt (.bl true),s')) :
  ∃G,PenT PenD L G∧dosOf G [] [] [] false g { nx:=fun _ H'=>Q .non H',rt:=Q } (some x::some (.ref p)::List.replicate n none) H:=by
 refine ⟨tabsG (penD p wa) L,⟨penD p wa,⟨p,wa,rfl⟩,fun b ⟨q,mb⟩ hb=>?_,rfl⟩,fun _=>none,fun _=>none,H,none::some .pen::List.replicate n none,([m,0],w),_,s',⟨fun _=>none,⟨by simp,.refl _ _,.refl (fun b o _ e=>by cases e),fun i d _ e=>?_,fun i d m=>by simp at m,fun i j b di dj m=>by simp at m⟩⟩,⟨st,tabs0 fun P q z=>kp _ _ (hTb P q z)⟩,hg,fun v Hf' H' g st r _=>?_⟩
 ·have e:=hTb b q mb
  rcases hb with rfl | rfl
  ·rw [hp] at e;cases e
  ·rw [hw] at e;cases e
 ·match i,e with
  | 0,e=>cases e
  | 1,e=>cases e;exact ⟨_,rfl,Rep.pen_iff.mpr rfl⟩
  | i+2,e=>
   have e':(List.replicate n (none:Option D))[i]?=some (some d):=e
   rw [List.getElem?_replicate] at e'
   split at e' <;> cases e'
 ·rw [Rep.bl_iff.mp r]
  exact hQ H'
theorem lok_nd:∀{L:List (Addr×Str)},(L.map (·.1)).Nodup→LOk L
 | [],_=>fun P q q' h=>by simp at h
 | (a,b)::L,nd=>fun P q q' h1 h2=>by
  rw [List.map_cons,List.nodup_cons] at nd
  rcases List.mem_cons.mp h1 with e1 | m1
  ·cases e1
   rcases List.mem_cons.mp h2 with e2 | m2
   ·cases e2;rfl
   ·exact absurd (List.mem_map_of_mem (f:=(·.1)) m2) nd.1
  ·rcases List.mem_cons.mp h2 with e2 | m2
   ·cases e2;exact absurd (List.mem_map_of_mem (f:=(·.1)) m1) nd.1
   ·exact lok_nd nd.2 P q q' m1 m2
end TF
namespace TT
open PySem PyProof.Rows
section
variable {M:Model} {A:Around} {E:Value→Shared→Prop} {s:Shared}
end
end TT
namespace TT
open PySem PyProof.Rows
section
variable (rk:Keyed→Int)
variable {rk} {a b out:Array Keyed} {ia ib:Nat}
end
end TT
namespace TT
open PySem PyProof.Rows
section
variable {M:Model} {A:Around} {E:Value→Shared→Prop} {s:Shared}
variable {rk:Keyed→Int} {κ:SortKind} {In:Keyed→Prop}
end
end TT
namespace TT
open PySem PyProof.Rows
section
variable (rk:Keyed→Int)
variable {rk} {a b out:Array Keyed} {na nb:Nat}
end
section
variable {M:Model} {A:Around} {E:Value→Shared→Prop} {s:Shared} {rk:Keyed→Int} {κ:SortKind} {In:Keyed→Prop}
end
end TT
namespace TT
open PySem PyProof.Rows
section
variable {M:Model} {A:Around} {E:Value→Shared→Prop} {s:Shared} {rk:Keyed→Int} {κ:SortKind} {In:Keyed→Prop}
end
end TT
namespace TT
open PySem PyProof.Rows
section
variable (rk:Keyed→Int)
end
section
variable {rk:Keyed→Int}
end
section
variable {M:Model} {A:Around} {E:Value→Shared→Prop} {s:Shared} {rk:Keyed→Int} {κ:SortKind} {In:Keyed→Prop}
end
end TT
namespace TT
open PySem PyProof.Rows
section
variable {M:Model} {A:Around} {E:Value→Shared→Prop} {s:Shared} {rk:Keyed→Int} {κ:SortKind} {In:Keyed→Prop}
end
end TT
namespace TT
open PySem PyProof.Rows
section
variable {M:Model} {A:Around} {E:Value→Shared→Prop} {s:Shared} {rk:Keyed→Int} {κ:SortKind} {In:Keyed→Prop} {a₀:List Keyed}
end
end TT
namespace TT
open PySem PyProof.Rows
section
variable {M:Model} {A:Around} {E:Value→Shared→Prop} {s:Shared} {rk:Keyed→Int} {κ:SortKind} {In:Keyed→Prop} {a₀:List Keyed}
end
end TT
namespace TT
open PySem PyProof.Rows L2 TS
open Classical in
section
variable {prog:Program} {w:World} {A:Around} {E:Value→Shared→Prop} {s:Shared}
end
end TT
namespace TF
open PySem PySem.Spec PyProof.Rows L2
section
variable {X:Cx} {G:Gh}
end
end TF
namespace L2
open PySem PySem.Spec PyProof.Rows
section
variable {X:Cx} {tg:Expr}
end
end L2
namespace TF
open PySem PySem.Spec PyProof.Rows L2
section
variable {X:Cx} {G:Gh} {ob own:List Nat} {fr:Bool}
end
end TF
namespace TF
open PySem PySem.Spec PyProof.Rows L2
open Sem (wp)
section
variable {prog:Program} {w:World} {A:Around} {E:Value→Shared→Prop} {s:Shared}
noncomputable def RgItems (n:Nat) (a c:Int) (acc:Array Value):Prop:=
 ItemsOf (fun i v=>∃t,v=.int (a+i*c) t) acc n
theorem collect_rng {Q : List Value → Shared → Prop} {r : Addr} {a b c : Int} {t u v : Tok} {n : Nat}
    (hh : A.handled = none) (hr : IsRange s.heap r a b c t u v)
    (hsmall : Builtin.Range.small a b c = true) (hn : Builtin.Range.rangeSize a b c = n)
    (hlen : n ≤ 2 ^ 24)
    (hQ : ∀ (h' : Heap) (tk : Nat) (acc : Array Value), (∀ b o', s.heap.get? b = some o' → h'.get? b = some o') →
      RgItems n a c acc → Q acc.toList { s with heap := h', toks := tk }) :
    wpAny (model prog w) A (collect (.ref r)) Q E s := by
  unfold collect
  apply wpAny_bind
  apply wpAny_runValue
  apply codeAny_builtin F.entry_proto_collect
  rw [Around.under_plainId
    F.plain_proto_collect _]
  show wpAny _ A.in1 (newList [] >>= fun z =>
    again (.builtin "list.__iadd__" ⟨[z, .ref r], []⟩)) _ _ s
  apply wpAny_bind
  refine wpAny_newObj_type ?_
  refine wpAny_pure ⟨plainId_quiet
    F.plain_list_iadd _, codeAny_builtin
    F.entry_list_iadd ?_⟩
  rw [Around.under_plainId
    F.plain_list_iadd _]
  show wpAny _ A.in1 (Builtin.List.listExtendWith
    (.ref s.heap.objs.size) (.ref r)
    (.ref s.heap.objs.size)) _ _ _
  have h0 : (s.heap.push
      { cls := .type "list", data := .seq ([] : List Value).toArray }).get?
      s.heap.objs.size = some { cls := .type "list", data := .seq #[] 0 } :=
    Heap.get?_push_size _ rfl
  have fin' : ∀ (h' : Heap) (tk : Nat) (acc : Array Value) (k : Nat),
      (∀ b o', s.heap.get? b = some o' → h'.get? b = some o') →
      h'.get? s.heap.objs.size = some
        { cls := .type "list", dict := none, data := .seq acc k, slots := #[] } →
      RgItems n a c acc → wpAny (model prog w) A (match Value.ref s.heap.objs.size with
        | Value.ref a => do
          match (← load a).data with
            | Data.seq xs _ => pure xs.toList
            | _ => unsupported "internal:collect"
        | _ => unsupported "internal:collect") Q E { s with heap := h', toks := tk } := by
    intro h' tk acc k kp hS hi
    show wpAny _ A (load s.heap.objs.size >>= _) _ _ _
    refine wpAny_bind (wpAny_load hS ?_)
    exact wpAny_pure (hQ h' tk acc kp hi)
  refine wpAny_mono (wpAny_extend_range (A := A)
    (R := fun r s' => r = .ok (.ret (.ref s.heap.objs.size)) ∧
      ∃ h' tk acc k, (∀ b o', s.heap.get? b = some o' → h'.get? b = some o') ∧
        h'.get? s.heap.objs.size = some
          { cls := .type "list", dict := none, data := .seq acc k, slots := #[] } ∧ RgItems n a c acc ∧
        s' = { s with heap := h', toks := tk })
    (s := { s with heap := (s.heap.push
      { cls := .type "list", data := .seq ([] : List Value).toArray }) }) hh
    (Heap.get?_push_of_some _ hr) hsmall hn hlen _ _ 0 h0
    fun h' tk acc' c' hk hS' hacc => ⟨rfl, h', tk, acc', c', fun b o e => hk b o (Nat.ne_of_lt
      (Heap.lt_size e)) (Heap.get?_push_of_some _ e), hS', hacc, rfl⟩)
    (fun fin s' h => ?_) (fun e s' h => ?_)
  · cases fin with
    | done f =>
      obtain ⟨e, h', tk, acc, k, kp, hS, hi, rfl⟩ := h
      cases e
      exact fin' h' tk acc k kp hS hi
    | again c' =>
      refine ⟨h.1, codeAny_mono h.2
        fun r s'' hr => ?_⟩
      obtain ⟨rfl, h', tk, acc, k, kp, hS, hi, rfl⟩ := hr
      exact fin' h' tk acc k kp hS hi
  · exact absurd h.1 (by simp)
end
variable {X:Cx} {G:Gh} {f:Rho→M D}
end TF
namespace HT
open PySem PySem.Spec PyProof.Rows
end HT
namespace HT
open PySem PySem.Spec PyProof.Rows
section
variable {prog:Program} {w:World}
variable (prog w) in
variable {A:Around} {E:Value→Shared→Prop} {s:Shared}
end
end HT
namespace HT
open PySem PySem.Spec PyProof.Rows
namespace FS
end FS
section
variable {prog:Program} {w:World} {A:Around} {E:Value→Shared→Prop} {s:Shared}
end
end HT
namespace HT
open PySem PySem.Spec PyProof.Rows
section
variable {prog:Program} {w:World} {A:Around} {E:Value→Shared→Prop} {s:Shared}
variable {a:Addr} {o:Obj} {es:Array (Int×Value)} {ep:Nat} {t:SetTable}
namespace FS
end FS
end
end HT
namespace HT
open PySem PySem.Spec PyProof.Rows
section
variable {prog:Program} {w:World} {A:Around} {E:Value→Shared→Prop} {s:Shared}
variable {a:Addr} {o:Obj} {es:Array (Int×Value)} {ep:Nat} {t:SetTable}
end
end HT
namespace HT
open PySem PySem.Spec PyProof.Rows
section
variable {prog:Program} {w:World} {A:Around} {E:Value→Shared→Prop} {s:Shared}
variable {a:Addr} {o:Obj} {es:Array (Int×Value)} {ep:Nat} {t:SetTable}
end
end HT
namespace TF
open PySem PySem.Spec PyProof.Rows L2
section
variable {X:Cx} {G:Gh}
end
section
variable {X:Cx} {G:Gh} {ob own:List Nat} {fr:Bool} {f:Rho→M D}
end
end TF
namespace TT
open PySem PyProof.Rows L2 TS
section
variable {prog:Program} {w:World} {A:Around} {E:Value→Shared→Prop} {s:Shared}
end
end TT
namespace TS
open PySem PySem.Spec PyProof.Rows L2
section
variable {prog:Program} {w:World} {A:Around} {E:Value→Shared→Prop} {s:Shared}
end
end TS
namespace TF
open PySem PySem.Spec PyProof.Rows L2 TS
section
variable {X:Cx} {G:Gh}
end
end TF
namespace TF
open PySem PySem.Spec PyProof.Rows L2 TT
section
variable {X:Cx} {G:Gh}
end
end TF
namespace TQ
open PySem L2 TF TQ
open TP
open TP2
open TP3
end TQ
namespace TF
open PySem PySem.Spec PyProof.Rows L2
section
variable {X:Cx} {G:Gh} {f g:Rho→M D}
end
end TF
namespace TQ
open PySem L2 TF
end TQ
namespace TF
open PySem PySem.Spec PyProof.Rows L2
section
variable {X:Cx} {G:Gh}
end
section
variable {X:Cx} {G:Gh}
end
end TF
namespace TF
open PySem PySem.Spec PyProof.Rows L2 PySem.SeqAt
open AutoSeq1 (wpAny_loadPart')
section
variable {X:Cx} {G:Gh}
end
end TF
namespace TQ
open PySem L2 TF TQ
open TP
open TP2
open TP3
noncomputable def g_all_near:Rho→M Out:=(sSeq (sSet 1 (dTup (dCons (dOp dIx (dVar 0) (dC (.int 0))) (dCons (dFn F_marked_ties (dCons (dVar 0) dNil)) dNil))))
 (sSeq (sRet (dComp [none,some 1] (iRange1 (dOp dIx (dVar 0) (dC (.int 0)))) (gOne 0) bTrue (dFn F_near (dCons (dVar 1) (dCons (dVar 0) dNil)))))
 sNext))
noncomputable def F_all_near:List D→M D:=runB 2 1 g_all_near
noncomputable def g_hued_along:Rho→M Out:=(sSeq (sSet 2 (dFn F_all_near (dCons (dVar 0) dNil)))
 (sSeq (sOwn 3 (dC (.dk [])))
 (sSeq (sFor (fun ρ=>(iSeqL (dVar 1)) (hide [3] ρ)) (gOne 4)
 (sSeq (sPutK 3 (fun ρ=>(dVar 4) (hide [3] ρ)) (chk true (dFn F_least_free (dCons (dComp [none,some 3] (iSeqL (dOp dIx (dVar 2) (dVar 4))) (gOne 0) (asB (dOp dIn (dVar 0) (dVar 1))) (dOp dIxK (dVar 1) (dVar 0))) dNil))))
 sNext))
 (sSeq (sRet (dCall dTuple (dCons (dComp [none,some 3] (iRange1 (dOp dIx (dVar 0) (dC (.int 0)))) (gOne 0) bTrue (dOp dIxK (dVar 1) (dVar 0))) dNil)))
 sNext))))
noncomputable def F_hued_along:List D→M D:=runB 5 2 g_hued_along
end TQ
namespace TF
open PySem PySem.Spec PyProof.Rows L2
section
variable {X:Cx} {G:Gh}
end
section
variable {X:Cx} {G:Gh}
noncomputable def gQuad (i j l m:Nat):D→Rho→Option Rho:=fun d ρ=>match d with | .tup [a,b,c,e]=>some ((((ρ.set i (some a)).set j (some b)).set l (some c)).set m (some e)) | _=>none
theorem pdg_quad {i j l m:Nat} {x y z u:Str} {pos px py pz pu:Pos} {k:Nat} {ok:Nat→Prop} (hc:X.calm=true) (oi:ok i) (oj:ok j) (ol:ok l) (om:ok m)
  (hn:(assignEach [.Name x px,.Name y py,.Name z pz,.Name u pu] X.env).length=4:=by rfl) (hst:(assignEach [.Name x px,.Name y py,.Name z pz,.Name u pu] X.env).findIdx? (·.1)=none:=by rfl)
  (hp:PGs X [.Name x px,.Name y py,.Name z pz,.Name u pu] (gCons (gName i) (gCons (gName j) (gCons (gName l) (gCons (gName m) gNil))))):PDG X G (.Tuple [.Name x px,.Name y py,.Name z pz,.Name u pu] k pos) ok (gQuad i j l m):=
 ⟨_,pg_tup hc hp hn hst,fun x σ Hf H d ρ ρ' Q e r q k=>by
  match d,q,r with
  | .tup [a,b,c,d'],q,r=>
   cases q
   obtain ⟨ad,vs,rfl,n,h,rl⟩:=Rep.tup_iff.mp r
   obtain ⟨v1,r1,rfl,q1,q2⟩:=RepL.cons_iff.mp rl
   obtain ⟨v2,r2,rfl,q3,q4⟩:=RepL.cons_iff.mp q2
   obtain ⟨v3,r3,rfl,q5,q6⟩:=RepL.cons_iff.mp q4
   obtain ⟨v4,r4,rfl,q7,q8⟩:=RepL.cons_iff.mp q6
   have:=RepL.nil_iff.mp q8
   subst this
   exact ⟨ad,_,rfl,SqT.of (e _ _ n h),rfl,v1,_,rfl,v2,_,rfl,v3,_,rfl,v4,_,rfl,rfl,k _ (.cons oi q1 (.cons oj q3 (.cons ol q5 (.cons om q7 .nil))))⟩⟩
end
end TF
namespace TS
open PySem PySem.W PyProof.Rows
noncomputable def kasRun {α:Type} (lt:Nat→Nat→Bool):KasT α→α
 | .ret a=>a
 | .ask i j k=>kasRun lt (k (lt i j))
theorem Tri.run {α:Type} {lt:Nat→Nat→Bool} {n:Nat} {Q:α→Prop}:∀{t:KasT α},Tri lt n t Q→Tri lt n t (fun a=>a=kasRun lt t)∧Q (kasRun lt t)
 | .ret a,h=>⟨rfl,h⟩
 | .ask i j k,h=>⟨⟨h.1,h.2.1,(Tri.run (t:=k (lt i j)) h.2.2).1⟩,(Tri.run (t:=k (lt i j)) h.2.2).2⟩
structure OrdW (lt:Nat→Nat→Bool):Prop where
 tr:∀a b c,lt a b=false→lt b c=false→lt a c=false
 as:∀a b,lt a b=true→lt b a=false
section
variable {lt:Nat→Nat→Bool} {n:Nat} {p q:Array Nat}
noncomputable def SoW (lt:Nat→Nat→Bool) (p:Array Nat) (m:Nat):Prop:=∀i j,i<j→j<m→lt (g p j) (g p i)=false
noncomputable def DeW (lt:Nat→Nat→Bool) (p:Array Nat) (m:Nat):Prop:=∀i j,i<j→j<m→lt (g p i) (g p j)=false
noncomputable def EqW (lt:Nat→Nat→Bool) (p:Array Nat) (l m:Nat):Prop:=∀i j,l≤i→i<m→l≤j→j<m→lt (g p i) (g p j)=false
theorem OrdW.irr (o:OrdW lt) (a:Nat):lt a a=false:=by
 cases e:lt a a with
 | false=>rfl
 | true=>have:=o.as a a e;rw [e] at this;cases this
theorem ascW (o:OrdW lt) (h:Pm n p):∀(f k:Nat),1≤k→k+f=n→SoW lt p k→Tri lt n (kas_asc p f k) (fun m=>k≤m∧m≤n∧SoW lt p m∧(m<n→lt (g p m) (g p (m-1))=true))
 | 0,k,h1,h2,hs=>⟨Nat.le_refl _,by omega,hs,fun z=>by omega⟩
 | f+1,k,h1,h2,hs=>by
  show g p k<n∧g p (k-1)<n∧Tri lt n (if lt (g p k) (g p (k-1))=true then .ret k else kas_asc p f (k+1)) _
  refine ⟨h.bd _,h.bd _,?_⟩
  cases e:lt (g p k) (g p (k-1)) with
  | true=>rw [if_pos rfl];exact ⟨Nat.le_refl _,by omega,hs,fun _=>e⟩
  | false=>
   rw [if_neg (by simp)]
   refine Tri.mono (fun m ⟨a,b⟩=>⟨by omega,b⟩) (ascW o h f (k+1) (by omega) (by omega) fun i j hij hj=>?_)
   by_cases hjk:j<k
   ·exact hs i j hij hjk
   ·have:j=k:=by omega
    subst this
    by_cases hi:i=j-1
    ·subst hi;exact e
    ·exact o.tr _ _ _ e (hs i (j-1) (by omega) (by omega))
theorem g_revW (hj:q.size=n) {l m:Nat} (hl:l≤m) (hm:m≤n) (k:Nat):g (kas_rev q l m) k=if l≤k∧k<m then g q (l+(m-1-k)) else g q k:=by
 have e:=getElem?_mirror_all (xs:=q) (i:=l) (j:=m) (by omega) k
 unfold kas_rev
 by_cases hk:l≤k∧k<m
 ·rw [if_pos hk] at e
  rw [if_pos hk]
  exact g_eq (by rw [e];congr 1;omega)
 ·rw [if_neg hk] at e
  rw [if_neg hk]
  exact g_eq e
theorem revEq (hs:p.size=n) {l m:Nat} (hl:l≤m) (hm:m≤n) (hd:DeW lt p m) (he:EqW lt p l m):DeW lt (kas_rev p l m) m:=fun i j hij hj=>by
 rw [g_revW hs hl hm,g_revW hs hl hm]
 by_cases hi:l≤i
 ·rw [if_pos ⟨hi,by omega⟩,if_pos ⟨by omega,hj⟩]
  exact he _ _ (by omega) (by omega) (by omega) (by omega)
 ·rw [if_neg (fun z=>hi z.1)]
  by_cases hjl:l≤j
  ·rw [if_pos ⟨hjl,hj⟩]
   exact hd _ _ (by omega) (by omega)
  ·rw [if_neg (fun z=>hjl z.1)]
   exact hd _ _ hij hj
theorem descW (o:OrdW lt):∀(f k q:Nat) (p:Array Nat),Pm n p→q+1≤k→k+f=n→DeW lt p k→EqW lt p (k-(q+1)) k→
  Tri lt n (kas_desc f p k q) (fun r=>Pm n r.1∧r.2.2+1≤r.2.1∧r.2.1≤n∧DeW lt r.1 r.2.1∧EqW lt r.1 (r.2.1-(r.2.2+1)) r.2.1)
 | 0,k,q,p,h,h1,h2,hd,he=>⟨h,h1,by show k≤n;omega,hd,he⟩
 | f+1,k,q,p,h,h1,h2,hd,he=>by
  show g p k<n∧g p (k-1)<n∧Tri lt n (if lt (g p k) (g p (k-1))=true then (if q > 0 then kas_desc f (kas_rev p (k-(q+1)) k) (k+1) 0 else kas_desc f p (k+1) 0) else .ask (g p (k-1)) (g p k) fun d=>if d=true then .ret (p,k,q) else kas_desc f p (k+1) (q+1)) _
  refine ⟨h.bd _,h.bd _,?_⟩
  have one:∀p:Array Nat,EqW lt p (k+1-(0+1)) (k+1):=fun p i j a b c d=>by
   have:i=j:=by omega
   subst this;exact o.irr _
  cases e:lt (g p k) (g p (k-1)) with
  | true=>
   rw [if_pos rfl]
   have e2:=o.as _ _ e
   by_cases hq:q > 0
   ·rw [if_pos hq]
    have h':Pm n (kas_rev p (k-(q+1)) k):=h.of (mirror_perm _ _ _ _)
    refine descW o f (k+1) 0 _ h' (by omega) (by omega) (fun i j hij hj=>?_) (one _)
    have hr:=revEq h.size (by omega:k-(q+1)≤k) (by omega) hd he
    by_cases hjk:j<k
    ·exact hr i j hij hjk
    ·have:j=k:=by omega
     subst this
     rw [g_revW h.size (by omega) (by omega),g_revW h.size (by omega) (by omega),if_neg (by omega:¬(j-(q+1)≤j∧j<j))]
     have hlast:∀x,x<j→lt (g p x) (g p j)=false:=fun x hx=>by
      by_cases hx1:x=j-1
      ·subst hx1;exact e2
      ·exact o.tr _ _ _ (hd x (j-1) (by omega) (by omega)) e2
     by_cases hi:j-(q+1)≤i∧i<j
     ·rw [if_pos hi];exact hlast _ (by omega)
     ·rw [if_neg hi];exact hlast _ hij
   ·rw [if_neg hq]
    refine descW o f (k+1) 0 p h (by omega) (by omega) (fun i j hij hj=>?_) (one _)
    by_cases hjk:j<k
    ·exact hd i j hij hjk
    ·have:j=k:=by omega
     subst this
     by_cases hi:i=j-1
     ·subst hi;exact e2
     ·exact o.tr _ _ _ (hd i (j-1) (by omega) (by omega)) e2
  | false=>
   rw [if_neg (by simp)]
   refine ⟨h.bd _,h.bd _,?_⟩
   show Tri lt n (if lt (g p (k-1)) (g p k)=true then .ret (p,k,q) else kas_desc f p (k+1) (q+1)) _
   cases e2:lt (g p (k-1)) (g p k) with
   | true=>rw [if_pos rfl];exact ⟨h,h1,by show k≤n;omega,hd,he⟩
   | false=>
    rw [if_neg (by simp)]
    refine descW o f (k+1) (q+1) p h (by omega) (by omega) (fun i j hij hj=>?_) fun i j a b c d=>?_
    ·by_cases hjk:j<k
     ·exact hd i j hij hjk
     ·have:j=k:=by omega
      subst this
      by_cases hi:i=j-1
      ·subst hi;exact e2
      ·exact o.tr _ _ _ (hd i (j-1) (by omega) (by omega)) e2
    ·have low:∀x,k-(q+1)≤x→x<k→lt (g p x) (g p k)=false∧lt (g p k) (g p x)=false:=fun x hx hx2=>
      ⟨o.tr _ _ _ (he x (k-1) hx hx2 (by omega) (by omega)) e2,o.tr _ _ _ e (he (k-1) x (by omega) (by omega) hx hx2)⟩
     by_cases hi:i<k
     ·by_cases hj:j<k
      ·exact he i j (by omega) hi (by omega) hj
      ·have:j=k:=by omega
       subst this
       exact (low i (by omega) hi).1
     ·have:i=k:=by omega
      subst this
      by_cases hj:j<i
      ·exact (low j (by omega) hj).2
      ·have:j=i:=by omega
       subst this;exact o.irr _
theorem tailW (o:OrdW lt) (h:Pm n p) {k:Nat} (h1:1≤k) (h2:k≤n) (hs:DeW lt p k):Tri lt n (kas_tail3 k n p) (fun r=>1≤r.1∧r.1≤n∧Pm n r.2∧SoW lt r.2 r.1):=by
 have h':Pm n (kas_rev p 0 k):=h.of (mirror_perm _ _ _ _)
 have hs':SoW lt (kas_rev p 0 k) k:=fun i j hij hj=>by
  rw [g_rev h.size h2,g_rev h.size h2,if_pos (by omega),if_pos (by omega)]
  exact hs _ _ (by omega) (by omega)
 refine Tri.bind (Tri.mono (fun m ⟨a,b,c,_⟩=>?_) (ascW o h' (n-k) k h1 (by omega) hs'))
 exact ⟨by show 1≤m;omega,b,h',c⟩
theorem partW (o:OrdW lt) (h:Pm n p) {m:Nat} (h1:1≤m) (h2:m<n) (hd:DeW lt p (m+1)):Tri lt n (kas_descPart m n p) (fun r=>1≤r.1∧r.1≤n∧Pm n r.2∧SoW lt r.2 r.1):=by
 refine Tri.bind (Tri.mono (fun r ⟨r1,r2,r3,r4,r5⟩=>?_) (descW o (n-(m+1)) (m+1) 0 p h (by omega) (by omega) hd fun i j a b c d=>by
  have:i=j:=by omega
  subst this;exact o.irr _))
 by_cases hq:r.2.2 > 0
 ·rw [if_pos hq]
  exact tailW o (r1.of (mirror_perm _ _ _ _)) (by omega) r3 (revEq r1.size (by omega) r3 r4 r5)
 ·rw [if_neg hq]
  exact tailW o r1 (by omega) r3 r4
theorem countW (o:OrdW lt) (h:Pm n p):Tri lt n (kas_count n p) (fun r=>1≤r.1∧r.1≤n∧Pm n r.2∧SoW lt r.2 r.1):=by
 have hn:=h.pos
 refine Tri.bind (Tri.mono (fun m ⟨a,b,c,d⟩=>?_) (ascW o h (n-1) 1 (by omega) (by omega) fun i j hij hj=>by omega))
 by_cases hm:m=n
 ·rw [if_pos (by simpa using hm)]
  exact ⟨a,b,h,c⟩
 ·rw [if_neg (by simpa using hm)]
  have dm:=o.as _ _ (d (by omega))
  by_cases h1:m > 1
  ·rw [if_pos h1]
   refine ⟨h.bd 0,h.bd (m-1),?_⟩
   show Tri lt n (if lt (g p 0) (g p (m-1))=true then .ret (m,p) else kas_descPart m n (kas_rev p 0 m)) _
   cases e:lt (g p 0) (g p (m-1)) with
   | true=>rw [if_pos rfl];exact ⟨a,b,h,c⟩
   | false=>
    rw [if_neg (by simp)]
    have up:∀i j,i<m→j<m→lt (g p i) (g p j)=false:=fun i j hi hj=>by
     -- g i≤g (m-1)≤g 0≤g j
     have x1:lt (g p 0) (g p j)=false:=by
      by_cases z:j=m-1
      ·subst z;exact e
      ·exact o.tr _ _ _ e (c j (m-1) (by omega) (by omega))
     by_cases z:i=0
     ·subst z;exact x1
     ·exact o.tr _ _ _ (c 0 i (by omega) hi) x1
    have h':Pm n (kas_rev p 0 m):=h.of (mirror_perm _ _ _ _)
    refine partW o h' (by omega) (by omega) fun i j hij hj=>?_
    rw [g_revW h.size (by omega) (by omega),g_revW h.size (by omega) (by omega),if_pos (by omega:0≤i∧i<m)]
    by_cases hjm:j<m
    ·rw [if_pos (by omega:0≤j∧j<m)]
     exact up _ _ (by omega) (by omega)
    ·have:j=m:=by omega
     subst this
     rw [if_neg (by omega:¬(0≤j∧j<j))]
     exact o.tr _ _ _ (up _ (j-1) (by omega) (by omega)) dm
  ·rw [if_neg h1]
   have:m=1:=by omega
   subst this
   refine partW o h (by omega) (by omega) fun i j hij hj=>?_
   have h1:i=0:=by omega
   have h2:j=1:=by omega
   subst h1 h2
   exact dm
theorem placeW (o:OrdW lt) (h:Pm n p) {k:Nat} (hk:k<n) (hs:SoW lt p k):∀(f l r:Nat),l≤r→r≤k→r-l≤f→(∀i,i<l→lt (g p k) (g p i)=false)→(∀i,r≤i→i<k→lt (g p i) (g p k)=false)→
  Tri lt n (kas_place p k f l r) (fun m=>m≤k∧(∀i,i<m→lt (g p k) (g p i)=false)∧∀i,m≤i→i<k→lt (g p i) (g p k)=false)
 | 0,l,r,h1,h2,h3,ha,hb=>⟨by omega,ha,fun i hi=>hb i (by omega)⟩
 | f+1,l,r,h1,h2,h3,ha,hb=>by
  show Tri lt n (if l≥r then .ret l else .ask (g p k) (g p ((l+r) / 2)) fun c=>if c=true then kas_place p k f l ((l+r) / 2) else kas_place p k f ((l+r) / 2+1) r) _
  by_cases hlr:l≥r
  ·rw [if_pos hlr]
   exact ⟨by omega,ha,fun i hi=>hb i (by omega)⟩
  ·rw [if_neg hlr]
   refine ⟨h.bd _,h.bd _,?_⟩
   show Tri lt n (if lt (g p k) (g p ((l+r) / 2))=true then kas_place p k f l ((l+r) / 2) else kas_place p k f ((l+r) / 2+1) r) _
   cases e:lt (g p k) (g p ((l+r) / 2)) with
   | true=>
    rw [if_pos rfl]
    refine placeW o h hk hs f l _ (by omega) (by omega) (by omega) ha fun i hi hik=>?_
    have e2:=o.as _ _ e
    by_cases hq:i=(l+r) / 2
    ·subst hq;exact e2
    ·exact o.tr _ _ _ (hs _ i (by omega) hik) e2
   | false=>
    rw [if_neg (by simp)]
    refine placeW o h hk hs f _ r (by omega) h2 (by omega) (fun i hi=>?_) hb
    by_cases hq:i=(l+r) / 2
    ·subst hq;exact e
    ·exact o.tr _ _ _ e (hs i _ (by omega) (by omega))
theorem binW (o:OrdW lt):∀(f k:Nat) (p:Array Nat),Pm n p→1≤k→k+f=n→SoW lt p k→Tri lt n (kas_bin f p k) (fun q=>Pm n q∧SoW lt q n)
 | 0,k,p,h,h1,h2,hs=>⟨h,by have:k=n:=(by omega);subst this;exact hs⟩
 | f+1,k,p,h,h1,h2,hs=>by
  refine Tri.bind (Tri.mono (fun m ⟨a,b,c⟩=>?_) (placeW o h (k:=k) (by omega) hs k 0 k (by omega) (by omega) (by omega) (fun i hi=>by omega) fun i hi hik=>by omega))
  have hg:∀i,g (bubble p k (k-m)) i=if i=m then g p k else if m<i∧i≤k then g p (i-1) else g p i:=fun i=>by
   have e:=getElem?_bubble (xs:=p) (src:=k) (by rw [h.size];omega) (k-m) (by omega) i
   rw [show k-(k-m)=m by omega] at e
   by_cases q1:i=m
   ·rw [if_pos q1] at e ⊢;exact g_eq e
   ·rw [if_neg q1] at e ⊢
    by_cases q2:m<i∧i≤k
    ·rw [if_pos q2] at e ⊢;exact g_eq e
    ·rw [if_neg q2] at e ⊢;exact g_eq e
  refine binW o f (k+1) _ (h.of (bubble_perm _ _ _)) (by omega) (by omega) fun i j hij hj=>?_
  rw [hg,hg]
  by_cases i1:i=m
  ·rw [if_pos i1,if_neg (by omega:¬j=m),if_pos (by omega:m<j∧j≤k)]
   exact c _ (by omega) (by omega)
  ·rw [if_neg i1]
   by_cases i2:m<i∧i≤k
   ·rw [if_pos i2,if_neg (by omega:¬j=m),if_pos (by omega:m<j∧j≤k)]
    exact hs _ _ (by omega) (by omega)
   ·rw [if_neg i2]
    by_cases j1:j=m
    ·rw [if_pos j1];exact b i (by omega)
    ·rw [if_neg j1]
     by_cases j2:m<j∧j≤k
     ·rw [if_pos j2]
      exact hs _ _ (by omega) (by omega)
     ·rw [if_neg j2]
      exact hs _ _ hij (by omega)
theorem sortW (o:OrdW lt) (hn:0<n):Tri lt n (kas_sort n) (fun q=>Pm n q∧SoW lt q n):=by
 have h:Pm n (List.toArray (List.range n)):=⟨hn,by simp⟩
 refine Tri.bind (Tri.mono (fun r ⟨a,b,c,d⟩=>?_) (countW o h))
 by_cases hr:r.1<n
 ·rw [if_pos hr]
  have e:max r.1 1=r.1:=by omega
  rw [e]
  exact binW o _ _ _ c a (by omega) d
 ·rw [if_neg hr]
  exact ⟨c,by have:r.1=n:=(by omega);rw [this] at d;exact d⟩
noncomputable def sortIx (lt:Nat→Nat→Bool) (n:Nat):List Nat:=if n<2 then List.range n else (kasRun lt (kas_sort n)).toList
theorem sortIx_perm (o:OrdW lt):(sortIx lt n).Perm (List.range n):=by
 unfold sortIx
 by_cases h:n<2
 ·rw [if_pos h]
 ·rw [if_neg h]
  exact (sortW o (by omega)).run.2.1.pm
theorem sortIx_rise (o:OrdW lt):(sortIx lt n).Pairwise fun a b=>lt b a=false:=by
 unfold sortIx
 by_cases h:n<2
 ·rw [if_pos h]
  match n,h with
  | 0,_=>exact List.Pairwise.nil
  | 1,_=>exact List.pairwise_singleton _ _
 ·rw [if_neg h]
  obtain ⟨h1,h2⟩:=(sortW (n:=n) o (by omega)).run.2
  rw [List.pairwise_iff_getElem]
  intro i j hi hj hij
  have hs:=h1.size
  have e:∀k,(hk:k<(kasRun lt (kas_sort n)).toList.length)→(kasRun lt (kas_sort n)).toList[k]=g (kasRun lt (kas_sort n)) k:=fun k hk=>by
   have hk':k<(kasRun lt (kas_sort n)).size:=by simpa using hk
   unfold g;simp [Array.getD,hk']
  rw [e i hi,e j hj]
  exact h2 i j hij (by rw [Array.length_toList,hs] at hj;exact hj)
end
end TS
namespace TF
open PySem PySem.Spec PyProof.Rows L2 TS PySem.W
section
variable {X:Cx} {pins:List (Addr×Obj)} {σ:St} {H:Hp} {s:Shared}
noncomputable def keysT (X:Cx) (σ:St) (sp:Heap→Sp):List V→Hp→(List V→Hp→Prop)→Prop
 | [],H,R=>R [] H
 | v::r,H,R=>∀base',Cells X σ base'→sp base' [v] H (fun k H1=>keysT X σ sp r H1 fun ks H2=>R (k::ks) H2) E0
structure KeyFn (X:Cx) (σ:St) (k:Nat) (f:Addr) (sp:Heap→Sp):Prop where
 fn:∀x,X.fn x=true
 ok:∃fd ps,Binds X.K fd ps []∧∀base',Cells X σ base'→FnOk X.prog X.w X.K X.mg base' CX0 k f fd ps (sp base')
theorem key_call {k:Nat} {f:Addr} {sp:Heap→Sp} {A:Around} {Q:VK} {E:Value→Shared→Prop} {u:Value} {v:V} (F:KeyFn X σ k f sp) (I:Inv X pins σ H s) (hA:∀{base H s},Env0 X.prog X.w X.K X.mg base X.A X.stack s H→Env0 X.prog X.w X.K X.mg base A X.stack s H) (hr:Room k A) (rv:RelV v u) (q:∀base',Cells X σ base'→sp base' [v] H Q E0) :
  wpAny (model X.prog X.w) A (call (.ref f) [u]) (EP X pins σ Q) E s:=by
 obtain ⟨fd,ps,hb,F0⟩:=F.ok
 obtain ⟨e0,cs⟩:=inv_cells I F.fn
 have q':=q _ cs
 have r:Vals [v] [u]:=.cons rv .nil
 have hl:([u] ++ []).length=ps.length:=by rw [List.append_nil,←r.length];exact (F0 _ cs).len _ _ _ _ q'
 refine wpAny_call (codeAny_mono ((F0 _ cs).run A X.stack s H ⟨[u],[]⟩ [u] [v] Q E0 hr (hA e0) (by have:=hb s [u] I.kIn hl;rw [List.append_nil] at this;exact this) r q') fun r s' hq=>?_)
 cases r with
 | error e=>exact hq.elim
 | ok fl=>
  cases fl with
  | ret u=>exact I.after hq
  | next=>exact False.elim hq
  | brk=>exact False.elim hq
  | cont=>exact False.elim hq
noncomputable def FpS (X:Cx) (pins:List (Addr×Obj)) (b:Addr):Prop:=b≠X.env.locals∧b∉X.fs∧(b∈X.ex∨X.s₀.heap.objs.size≤b)∧(∀x c,X.env.cells.lookup x=some c→c≠b)∧∀p∈X.pn++pins,p.1≠b
theorem fpS_of (I:Inv X pins σ H s) {b:Addr} (hb:s.heap.objs.size≤b):FpS X pins b:=(I.fpOk hb (H':=H) (I.hok.fresh hb)).2
theorem repin {b:Addr} {o o':Obj} {rest:List (Addr×Obj)} {h':Heap} {t':Nat} (I:Inv X (pins++(b,o)::rest) σ H s) (k:∀c u,c≠b→s.heap.get? c=some u→h'.get? c=some u) (hb':h'.get? b=some o') (hd:∀v,o'.data≠.cell v) (fp:FpS X pins b)
  (hr:∀p∈rest,p.1≠b):Inv X (pins++(b,o')::rest) σ H { s with heap:=h',toks:=t' }:=by
 obtain ⟨pb1,pb2,pb3,pb4,pb5⟩:=I.pin (b,o) (List.mem_append_right _ (List.mem_append_right _ (.head _)))
 have I1:Inv X (pins++rest) σ H s:=I.pins_of fun p hp=>I.pin p (List.mem_append_right _ ((List.mem_append.mp hp).elim (fun z=>List.mem_append_left _ z) fun z=>List.mem_append_right _ (.tail _ z)))
 obtain ⟨f1,f2,f3,f4,f5⟩:=fp
 have I2:=I1.turned (t':=t') k pb2 f1 f3 f4 (fun p hp=>by
  rcases List.mem_append.mp hp with z | z
  ·exact f5 p (List.mem_append_left _ z)
  ·rcases List.mem_append.mp z with z | z
   ·exact f5 p (List.mem_append_right _ z)
   ·exact hr p z)
 refine I2.pins_of fun p hp=>?_
 rcases List.mem_append.mp hp with z | z
 ·exact I2.pin p (List.mem_append_right _ (List.mem_append_left _ z))
 ·rcases List.mem_cons.mp z with rfl | z
  ·exact ⟨hb',pb2,f1,f2,hd⟩
  ·exact I2.pin p (List.mem_append_right _ (List.mem_append_right _ z))
theorem track {b:Addr} {o:Obj} {u:HO} {rest:List (Addr×Obj)} (I:Inv X (pins++(b,o)::rest) σ H s) (fp:FpS X pins b) (hx:X.s₀.heap.objs.size≤b) (new:ObjOk X.prog X.w (upd H b u) s.heap b u):Inv X pins σ (upd H b u) s:=by
 obtain ⟨pb1,pb2,pb3,pb4,pb5⟩:=I.pin (b,o) (List.mem_append_right _ (List.mem_append_right _ (.head _)))
 obtain ⟨f1,f2,f3,f4,f5⟩:=fp
 refine ⟨I.ok,I.os,I.bare,?_,I.loc,I.cell,?_,?_,?_,?_,I.len⟩
 ·exact ⟨I.base.keep,I.base.slot,fun c q e n x=>by
   rw [upd_ne (Nat.ne_of_lt (Nat.lt_of_lt_of_le (Heap.lt_size e) hx))]
   exact I.base.free c q e n x,I.base.there,fun c xs e=>by have:=I.base.tups c xs e;rw [upd_ne (ne_of_none this pb2)];exact this,fun c q xs e=>by have:=I.base.frzs c q xs e;rw [upd_ne (ne_of_none this pb2)];exact this,fun c ps e=>by
   obtain ⟨m,this⟩:=I.base.tbls c ps e
   exact ⟨m,by rw [upd_ne (ne_of_none this pb2)];exact this⟩⟩
 ·rw [upd_ne (Ne.symm f1)];exact I.free
 ·intro x c e
  rw [upd_ne (f4 x c e)];exact I.freeC x c e
 ·intro p hp
  have hp':p∈X.pn++(pins++(b,o)::rest):=(List.mem_append.mp hp).elim (fun z=>List.mem_append_left _ z) fun z=>List.mem_append_right _ (List.mem_append_left _ z)
  obtain ⟨q1,q2,q3,q4,q5⟩:=I.pin p hp'
  exact ⟨q1,by rw [upd_ne (f5 p hp)];exact q2,q3,q4,q5⟩
 ·intro c v e
  by_cases hc:c=b
  ·subst hc;rw [upd_same] at e;cases e;exact new
  ·rw [upd_ne hc] at e
   exact (I.hok c v e).stay (fun d w _ q=>q) (fun d q=>by rw [upd_ne (ne_of_none q pb2)];exact q) fun d xs q=>by rw [upd_ne (ne_of_none q pb2)];exact q
theorem vals_snoc:∀{xs:List V} {us:List Value} {v:V} {u:Value},Vals xs us→RelV v u→Vals (xs ++ [v]) (us ++ [u])
 | [],_,v,u,h,r=>by cases h;exact .cons r .nil
 | x::xs,_,v,u,h,r=>by
  cases h with
  | cons h1 h2=>exact .cons h1 (vals_snoc h2 r)
theorem seq_nocell {c:String} {xs:Array Value} {n:Nat}:∀v,(seqObj c xs n).data≠.cell v:=fun v h=>by cases h
theorem keys_fold {k:Nat} {f kS a:Addr} {sp:Heap→Sp} {A:Around} {E:Value→Shared→Prop} {e1:Nat} {R:List V→Hp→Prop} {body:Value→PUnit→Sem (ForInStep PUnit)} (F:KeyFn X σ k f sp) (hA:∀{base H s},Env0 X.prog X.w X.K X.mg base X.A X.stack s H→Env0 X.prog X.w X.K X.mg base A X.stack s H) (hr:Room k A)
  (fp:FpS X pins kS) (hka:a≠kS)
  (hbody:∀x ks e (s:Shared) (D:Value→Shared→Prop),List.length ks<64→wpAny (model X.prog X.w) A (call (.ref f) [x]) (fun u s'=>s'.heap.get? kS=some (seqObj "list" (List.toArray ks) e)∧D u { s' with heap:=s'.heap.update kS (Obj.mapSeq (·.push u)) }) (fun _ _=>False) s→
   wpAny (model X.prog X.w) A (body x ⟨⟩) (fun r s'=>r=.yield ⟨⟩∧∃u,D u s') E s) :
  ∀(r:List V) (us:List Value) (kvs:List V) (ks:List Value) (e:Nat) (H:Hp) (s:Shared),Vals r us→Vals kvs ks→ks.length+us.length<64→Inv X (pins ++ [(kS,seqObj "list" (List.toArray ks) e),(a,seqObj "list" #[] e1)]) σ H s→keysT X σ sp r H (fun k2 H2=>R (kvs++k2) H2)→
   wpAny (model X.prog X.w) A (forIn us PUnit.unit body) (fun _ s'=>∃kvs' ks' e' H',Inv X (pins ++ [(kS,seqObj "list" (List.toArray ks') e'),(a,seqObj "list" #[] e1)]) σ H' s'∧Vals kvs' ks'∧ks'.length=ks.length+us.length∧R kvs' H') E s
 | [],_,kvs,ks,e,H,s,h,hv,hz,I,q=>by
  cases h
  rw [List.forIn_nil]
  refine wpAny_pure ⟨kvs,ks,e,H,I,hv,rfl,?_⟩
  have q:R (kvs ++ []) H:=q
  rw [List.append_nil] at q;exact q
 | v::r,_,kvs,ks,e,H,s,h,hv,hz,I,q=>by
  cases h with
  | @cons _ u _ us r1 r2=>
   rw [List.length_cons] at hz
   rw [List.forIn_cons]
   refine wpAny_bind (wpAny_mono (hbody u ks e s (fun u' s'=>∃v' H',Inv X (pins ++ [(kS,seqObj "list" (List.toArray (ks ++ [u'])) (e+1)),(a,seqObj "list" #[] e1)]) σ H' s'∧RelV v' u'∧keysT X σ sp r H' fun ks H2=>R (kvs++v'::ks) H2) (by omega) ?_) (fun q' s' hq=>?_) fun _ _ x=>x)
   ·refine wpAny_mono (key_call F I hA hr r1 q) (fun u' s' ⟨v',H',I',rv,q'⟩=>?_) fun _ _ x=>x
    have pk:=(I'.pin (kS,seqObj "list" (List.toArray ks) e) (List.mem_append_right _ (List.mem_append_right _ (.head _)))).1
    refine ⟨pk,v',H',?_,rv,q'⟩
    refine repin (o:=seqObj "list" (List.toArray ks) e) (t':=s'.toks) I' (fun c w hc e=>by rw [Heap.get?_update_ne _ _ _ _ hc];exact e) ?_ seq_nocell fp (fun p hp=>by rw [List.mem_singleton.mp hp];exact hka)
    have ea:(List.toArray ks).push u'=List.toArray (ks ++ [u']):=by simp
    rw [get?_update_seq pk (·.push u'),ea]
    have:((List.toArray (ks ++ [u'])).size==(List.toArray ks).size)=false:=by simp
    rw [this];rfl
   ·obtain ⟨rfl,u',v',H',I',rv,q'⟩:=hq
    show wpAny (model X.prog X.w) A (forIn us PUnit.unit body) _ E s'
    refine wpAny_mono (keys_fold F hA hr fp hka hbody r us (kvs ++ [v']) (ks ++ [u']) (e+1) H' s' r2 (vals_snoc hv rv) (by rw [List.length_append,List.length_singleton];omega) I' ?_) (fun _ s'' ⟨a1,a2,a3,a4,a5,a6,a7,a8⟩=>⟨a1,a2,a3,a4,a5,a6,by rw [a7,List.length_append,List.length_singleton,List.length_cons];omega,a8⟩) fun _ _ x=>x
    have e2:(fun k2 H2=>R (kvs ++ [v']++k2) H2)=fun k2 H2=>R (kvs++v'::k2) H2:=by funext k2 H2;rw [List.append_assoc];rfl
    rw [e2];exact q'
end
section
variable {prog:Program} {w:World} {A:Around} {E:Value→Shared→Prop} {s:Shared}
noncomputable def sortedHeap2 (h:Heap) (kS a:Addr) (out:List Value):Heap:=(h.update kS (Obj.mapSeq fun _=>(#[]:Array Value))).update a (Obj.mapSeq fun _=>List.toArray out)
theorem sort_tail {kS a:Addr} {ks out:List Value} {e e1:Nat} {st:SortSt} {P:PySem.Fin→Shared→Prop} (hk:s.heap.get? kS=some (seqObj "list" (List.toArray ks) e)) (ha:s.heap.get? a=some (seqObj "list" #[] e1)) (hka:a≠kS) (hout:(arrOf st).map (·.2)=List.toArray out) (hz:out.length<64) (hkz:ks.length<64) (hf:failedOf st=none)
  (h:P (.done (.ret .none)) { s with heap:=sortedHeap2 s.heap kS a out }):wpAny (model prog w) A (ksk_tail a false e1 (.ref kS) st) P E s:=by
 have ha2:(s.heap.update kS (Obj.mapSeq fun _=>(#[]:Array Value))).get? a=some (seqObj "list" #[] e1):=by rw [Heap.get?_update_ne _ _ _ _ hka];exact ha
 unfold ksk_tail
 try dsimp only
 rw [hout]
 refine wpAny_bind (listUpdate_at hk rfl ?_ (by rw [List.size_toArray,sizeLine_eq];omega) (Nat.zero_le _))
 refine wpAny_bind (wpAny_letGo ?_)
 refine wpAny_bind (seqEpoch_at ha2 rfl ?_)
 refine wpAny_bind (listUpdate_at ha2 rfl ?_ (Nat.zero_le _) (by show (List.toArray out).size≤_;rw [List.size_toArray,sizeLine_eq];omega))
 rw [hf]
 simp only [bne_self_eq_false,Bool.false_eq_true,if_false]
 exact wpAny_pure h
theorem sort_end {kS a:Addr} {us ks:List Value} {e e1:Nat} {lt:Nat→Nat→Bool} {P:PySem.Fin→Shared→Prop} (o:OrdW lt) (hk:s.heap.get? kS=some (seqObj "list" (List.toArray ks) e)) (ha:s.heap.get? a=some (seqObj "list" #[] e1)) (hka:a≠kS) (hl:ks.length=us.length) (h64:us.length<64)
  (hkind:2≤ks.length→∃κ,(∀Q:SortKind→Shared→Prop,Q κ s→wpAny (model prog w) A (keyKind' (List.toArray ks)) Q E s)∧∀i j,i<ks.length→j<ks.length→∀C:Bool→Shared→Prop,C (lt i j) s→kas_ask prog w A κ ks i j C s)
  (h:P (.done (.ret .none)) { s with heap:=sortedHeap2 s.heap kS a ((sortIx lt us.length).map fun i=>us.getD i Value.none) }):wpAny (model prog w) A (ksk_end a false us.toArray e1 (.ref kS) (List.toArray ks)) P E s:=by
 have hol:((sortIx lt us.length).map fun i=>us.getD i Value.none).length=us.length:=by rw [List.length_map,(sortIx_perm o).length_eq,List.length_range]
 unfold ksk_end
 try dsimp only
 simp only [Bool.false_eq_true,if_false]
 by_cases h2:us.toArray.size<2
 ·rw [if_pos h2,if_pos h2]
  refine wpAny_bind (wpAny_pure ?_)
  rw [StateT.run_pure]
  refine wpAny_bind (wpAny_pure ?_)
  try dsimp only
  have hlt:us.length<2:=by simpa using h2
  refine sort_tail (out:=(sortIx lt us.length).map fun i=>us.getD i Value.none) hk ha hka ?_ (by omega) (by omega) rfl h
  have e:(sortIx lt us.length).map (fun i=>us.getD i Value.none)=us:=by
   unfold sortIx
   rw [if_pos hlt]
   exact TS.range_getD us _
  rw [e]
  apply Array.toList_inj.mp
  show (((List.toArray ks).zip us.toArray).map (·.2)).toList=_
  rw [Array.toList_map,ksk_zip]
  show (ks.zip us).map Prod.snd=_
  rw [List.map_snd_zip (by omega)]
 ·rw [if_neg h2,if_neg h2]
  have h2':2≤us.length:=by simpa using h2
  obtain ⟨κ,hκ,hask⟩:=hkind (by omega)
  refine wpAny_bind (hκ _ ?_)
  have tr:=(sortW (n:=us.length) o (by omega)).run
  have wp:=Tri.wp (s:=s) (cmp:=kas_ask prog w A κ ks) (R:=fun q s'=>q=kasRun lt (kas_sort us.length)∧s'=s) (fun i j hi hj C hC=>hask i j (by omega) (by omega) C hC) (fun q hq=>⟨hq,rfl⟩) tr.1
  refine wpAny_bind (wpAny_mono (kat_run (ks:=ks) (vs:=us) (Q:=fun st' s'=>arrOf st'=(kasRun lt (kas_sort us.length)).map (kas_item (ks.toArray.zip us.toArray))∧failedOf st'=none∧s'=s) hl h2' h64 (fun p' st' s' a1 a2 a3 a4=>⟨by rw [←a4.1];exact a2,a3,a4.2⟩) wp) ?_ fun _ _ e=>e)
  rintro ⟨⟨⟩,st'⟩ s' ⟨har,hf,rfl⟩
  try dsimp only
  have hout:=kat_snds (ks:=ks) (vs:=us) hl har
  refine sort_tail (out:=(sortIx lt us.length).map fun i=>us.getD i Value.none) hk ha hka ?_ (by omega) (by omega) hf h
  rw [hout]
  unfold sortIx
  rw [if_neg (by omega)]
end
section
variable {X:Cx} {pins:List (Addr×Obj)} {σ:St} {H:Hp} {s:Shared}
noncomputable def KeysOk (X:Cx) (kvs:List V) (H:Hp) (lt:Nat→Nat→Bool):Prop:=
 (∃ns:List Int,kvs=ns.map V.int∧lt=fun i j=>decide (ns.getD i 0<ns.getD j 0))∨
 ∃(nss:List (List Int)) (T:V→List Int→Prop),(∀v ns,T v ns→∃a,v=.ref a∧SqT X.K H a (ns.map V.int))∧Paired T kvs nss∧(∀ns∈nss,ns≠[])∧lt=fun i j=>lexB (nss.getD i []) (nss.getD j [])
theorem KeysOk.ord {kvs:List V} {lt:Nat→Nat→Bool} (h:KeysOk X kvs H lt):OrdW lt:=by
 rcases h with ⟨ns,_,rfl⟩ | ⟨nss,T,_,_,_,rfl⟩
 ·refine ⟨fun a b c h1 h2=>?_,fun a b h=>?_⟩
  ·have h1:=of_decide_eq_false h1
   have h2:=of_decide_eq_false h2
   exact decide_eq_false (by omega)
  ·have h:=of_decide_eq_true h
   exact decide_eq_false (by omega)
 ·refine ⟨fun a b c h1 h2=>?_,fun a b h=>lexB_asy h⟩
  have t:=leT_tr (nss.getD c []) (nss.getD b []) (nss.getD a []) (by unfold leT;rw [h2];rfl) (by unfold leT;rw [h1];rfl)
  unfold leT at t
  simpa using t
theorem ints_at:∀{ks:List Value} {ns:List Int} {i:Nat},IntsAre ks ns→i<ks.length→∃t,ks.getD i Value.none=.int (ns.getD i 0) t
 | _,_,_,.nil,h=>absurd h (by simp)
 | _,_,0,.cons n t _,_=>⟨t,rfl⟩
 | _,_,i+1,.cons n t r,h=>by
  obtain ⟨t',e⟩:=ints_at r (i:=i) (by simpa using h)
  exact ⟨t',by simpa using e⟩
theorem keys_kind {kvs:List V} {ks:List Value} {lt:Nat→Nat→Bool} {A:Around} {E:Value→Shared→Prop} (h:KeysOk X kvs H lt) (I:Inv X pins σ H s) (rv:Vals kvs ks):2≤ks.length→∃κ,(∀Q:SortKind→Shared→Prop,Q κ s→wpAny (model X.prog X.w) A (keyKind' (List.toArray ks)) Q E s)∧∀i j,i<ks.length→j<ks.length→∀C:Bool→Shared→Prop,C (lt i j) s→kas_ask X.prog X.w A κ ks i j C s:=fun h2=>by
 rcases h with ⟨ns,rfl,rfl⟩ | ⟨nss,T,hT,pT,hne,rfl⟩
 ·have hi:IntsAre ks ns:=intsAre_of rv
  refine ⟨oneType',fun Q q=>?_,fun i j hi' hj' C hC=>?_⟩
  ·rw [ksk_kind (keys:=List.toArray ks) (kz:=ns) hi (by simpa using h2)]
   exact wpAny_pure q
  ·obtain ⟨t,et⟩:=ints_at hi hi'
   obtain ⟨t',et'⟩:=ints_at hi hj'
   show wpAny (model X.prog X.w) A (keyLt' oneType' (ks.getD i Value.none) (ks.getD j Value.none)) C _ s
   rw [et,et']
   exact kat_lt_int hC
 ·have ht:=tupsAt_of I hT rv pT
  have hl:ks.length=nss.length:=Paired.length ht
  exact ⟨tuples' true,fun Q q=>kind_T ht hne (by omega) q,fun i j hi hj C hC=>ask_T (Paired.get3 _ [] ht hi) (Paired.get3 _ [] ht hj) hC⟩
theorem vals_get:∀{xs:List V} {us:List Value} {i:Nat},Vals xs us→i<xs.length→RelV (xs.getD i .non) (us.getD i Value.none)
 | _,_,_,.nil,h=>absurd h (by simp)
 | _,_,0,.cons h _,_=>h
 | _,_,i+1,.cons _ r,h=>by
  have:=vals_get r (i:=i) (by simpa using h)
  simpa using this
theorem vals_pick {xs:List V} {us:List Value} (h:Vals xs us):∀{ix:List Nat},(∀i∈ix,i<xs.length)→Vals (ix.map fun i=>xs.getD i .non) (ix.map fun i=>us.getD i Value.none)
 | [],_=>.nil
 | i::r,hb=>.cons (vals_get h (hb i (by simp))) (vals_pick h fun j m=>hb j (by simp [m]))
theorem sorted_key {k:Nat} {f:Addr} {sp:Heap→Sp} {E:Value→Shared→Prop} {u:Value} {xs:List V} {Q:VK} (F:KeyFn X σ k f sp) (hr:Room (k+2) X.A) (I:Inv X pins σ H s) (h64:xs.length<64)
  (hcol:∀Q1:List Value→Shared→Prop,(∀(h':Heap) (tk:Nat) (its:List Value),(∀b o,s.heap.get? b=some o→h'.get? b=some o)→Vals xs its→Q1 its { s with heap:=h',toks:=tk })→wpAny (model X.prog X.w) X.A.in1 (collect u) Q1 E s)
  (q:keysT X σ sp xs H fun kvs H1=>∃lt,KeysOk X kvs H1 lt∧∀l,H1 l=none→Q (.ref l) (upd H1 l (.lst ((sortIx lt xs.length).map fun i=>xs.getD i .non)))) :
  wpAny (model X.prog X.w) X.A (call (.builtin "sorted") [u] [(Str.ofString "key",.ref f)]) (EP X pins σ Q) E s:=by
 refine call_function_entry_kw kind_sorted plain_sorted entry_sorted (ksk_s1 _ _) ?_
 unfold Builtin.«sorted»
 refine wpAny_bind (m:=checkCount "sorted" 1 1 _) (wpAny_pure ?_)
 refine wpAny_bind (hcol _ fun h1 tk its k1 rv=>?_)
 have hil:its.length=xs.length:=rv.length.symm
 have I1:Inv X pins σ H { s with heap:=h1,toks:=tk }:=I.kept k1
 refine wpAny_bind (wpAny_newList ?_ (by rw [sizeLine_eq];omega))
 generalize hs2:({ s with heap:=h1.push (seqObj "list" its.toArray 0),toks:=tk }:Shared)=s2
 have hh2:s2.heap=h1.push (seqObj "list" its.toArray 0):=by rw [←hs2]
 have I2:Inv X pins σ H s2:=by rw [←hs2];exact I1.kept (fun b o e=>Heap.get?_push_of_some _ e)
 generalize ha:h1.objs.size=a
 have fpa:FpS X pins a:=by rw [←ha];exact fpS_of I1 (Nat.le_refl _)
 have hxa:X.s₀.heap.objs.size≤a:=by rw [←ha];exact I1.sz
 have hna:H a=none:=by rw [←ha];exact I1.hok.fresh (Nat.le_refl _)
 have ho:s2.heap.get? a=some (seqObj "list" its.toArray 0):=by rw [hh2,←ha];exact Heap.get?_push_size _ rfl
 refine wpAny_bind (wpAny_holding (wpAny_call_entry_kw slot_list_sort ⟨_,ho,rfl⟩ entry_list_sort ?body (ksk_l1 _ _)))
 case body=>
  show wpAny (model X.prog X.w) X.A.in1.in1 (Builtin.«list.sort» ⟨[.ref a],[(Str.ofString "key",.ref f)]⟩) _ E s2
  rw [ksk_t1]
  obtain ⟨e1,ho1⟩:∃e1,(s2.heap.update a (Obj.mapSeq fun _=>(#[]:Array Value))).get? a=some (seqObj "list" #[] e1):=⟨_,get?_update_seq ho fun _=>#[]⟩
  unfold ksk_tree
  refine wpAny_bind (listItems_at ho rfl ?_)
  refine wpAny_bind (listUpdate_at ho rfl ?_ (by rw [List.size_toArray,sizeLine_eq];omega) (Nat.zero_le _))
  refine wpAny_bind (seqEpoch_at ho1 rfl ?_)
  refine wpAny_bind (wpAny_newTuple ?_ (by show its.length≤_;rw [sizeLine_eq];omega))
  refine wpAny_bind (wpAny_newList ?_ (Nat.zero_le _))
  refine wpAny_holding ?_
  generalize hs3:({ s2 with heap:=(s2.heap.update a (Obj.mapSeq fun _=>(#[]:Array Value))).push (seqObj "tuple" its.toArray 0) }:Shared)=s3
  have hh3:s3.heap=(s2.heap.update a (Obj.mapSeq fun _=>(#[]:Array Value))).push (seqObj "tuple" its.toArray 0):=by rw [←hs3]
  generalize hkS:s3.heap.objs.size=kS
  have I3:Inv X (pins ++ [(a,seqObj "list" #[] e1)]) σ H { s2 with heap:=s2.heap.update a (Obj.mapSeq fun _=>(#[]:Array Value)),toks:=s2.toks }:=by
   have Ia:Inv X (pins++(a,seqObj "list" its.toArray 0) :: []) σ H s2:=I2.pins_of fun p hp=>by
    rcases List.mem_append.mp hp with z | z
    ·exact I2.pin p (List.mem_append_right _ z)
    ·rw [List.mem_singleton.mp z]
     exact ⟨ho,hna,fpa.1,fpa.2.1,seq_nocell⟩
   exact repin Ia (fun c w hc e=>by rw [Heap.get?_update_ne _ _ _ _ hc];exact e) ho1 seq_nocell fpa (fun p hp=>by simp at hp)
  have I4:Inv X (pins ++ [(a,seqObj "list" #[] e1)]) σ H s3:=by rw [←hs3];exact I3.kept (t':=s2.toks) (fun b o e=>Heap.get?_push_of_some _ e)
  have hak:a<kS:=by
   rw [←hkS,hh3,size_push',Heap.size_update]
   exact Nat.lt_succ_of_lt (Heap.lt_size ho)
  have fpk:FpS X pins kS:=by
   have:=fpS_of I4 (b:=kS) (by rw [hkS];exact Nat.le_refl _)
   exact ⟨this.1,this.2.1,this.2.2.1,this.2.2.2.1,fun p hp=>this.2.2.2.2 p ((List.mem_append.mp hp).elim (fun z=>List.mem_append_left _ z) fun z=>List.mem_append_right _ (List.mem_append_left _ z))⟩
  have I5:Inv X (pins ++ [(kS,seqObj "list" (List.toArray []) 0),(a,seqObj "list" #[] e1)]) σ H { s3 with heap:=s3.heap.push (seqObj "list" #[] 0),toks:=s3.toks }:=by
   have I':=I4.kept (t':=s3.toks) (h':=s3.heap.push (seqObj "list" #[] 0)) (fun b o e=>Heap.get?_push_of_some _ e)
   refine I'.pins_of fun p hp=>?_
   rcases List.mem_append.mp hp with z | z
   ·exact I'.pin p (List.mem_append_right _ (List.mem_append_left _ z))
   ·rcases List.mem_cons.mp z with rfl | z
    ·exact ⟨by rw [←hkS];exact Heap.get?_push_size _ rfl,by rw [←hkS];exact I4.hok.fresh (Nat.le_refl _),fpk.1,fpk.2.1,seq_nocell⟩
    ·exact I'.pin p (List.mem_append_right _ (List.mem_append_right _ z))
  show wpAny (model X.prog X.w) X.A.in1.in1 _ _ E { s3 with heap:=s3.heap.push (seqObj "list" #[] 0),toks:=s3.toks }
  generalize ({ s3 with heap:=s3.heap.push (seqObj "list" #[] 0),toks:=s3.toks }:Shared)=s5 at I5 ⊢
  unfold ksk_rest
  refine wpAny_bind (wpAny_rule ?_)
  first
   | rw [List.forIn_toArray]
   | (rw [←Array.forIn_toList];simp only [List.toList_toArray])
   | rw [←Array.forIn_toList]
  have hr2:Room k X.A.in1.in1:=(hr.in1).in1
  refine wpAny_bind (wpAny_mono (keys_fold (E:=E) (R:=fun kvs H1=>∃lt,KeysOk X kvs H1 lt∧∀l,H1 l=none→Q (.ref l) (upd H1 l (.lst ((sortIx lt xs.length).map fun i=>xs.getD i .non)))) F (fun e=>e.in1.in1) hr2 fpk (Nat.ne_of_lt hak) (fun x ks e s' D hz hx=>?_) xs its [] [] 0 H s5 rv .nil (by simp only [List.length_nil];omega) I5 q) (fun _ s' hd=>?_) fun _ _ x=>x)
  ·refine wpAny_bind (wpAny_attempt (wpAny_mono hx (fun u' s'' hk=>?_) fun _ _ hF=>hF.elim))
   obtain ⟨hk1,hk2⟩:=hk
   try dsimp only
   refine wpAny_bind (listUpdate_at hk1 rfl ?_ (by rw [List.size_toArray,sizeLine_eq];omega) (Nat.le_trans (Nat.le_of_eq (Array.size_push ..)) (by rw [List.size_toArray,sizeLine_eq];omega)))
   exact wpAny_pure ⟨rfl,u',hk2⟩
  ·obtain ⟨kvs,ks,e',H',I',hv,hl,lt,hok,hq⟩:=hd
   have hl:ks.length=its.length:=by simpa using hl
   have pk:=I'.pin (kS,seqObj "list" (List.toArray ks) e') (List.mem_append_right _ (List.mem_append_right _ (.head _)))
   have pa:=I'.pin (a,seqObj "list" #[] e1) (List.mem_append_right _ (List.mem_append_right _ (.tail _ (.head _))))
   try dsimp only
   refine wpAny_bind (listItems_at pk.1 rfl ?_)
   refine sort_end hok.ord pk.1 pa.1 (Nat.ne_of_lt hak) hl (by omega) (keys_kind hok I' hv) ⟨_,rfl,?_⟩
   refine wpAny_pure ⟨_,rfl,?_⟩
   have hol:((sortIx lt its.length).map fun i=>its.getD i Value.none).length=its.length:=by rw [List.length_map,(sortIx_perm hok.ord).length_eq,List.length_range]
   -- the store of keys is emptied
   obtain ⟨c1,hc1⟩:∃c1,(s'.heap.update kS (Obj.mapSeq fun _=>(#[]:Array Value))).get? kS=some (seqObj "list" #[] c1):=⟨_,get?_update_seq pk.1 fun _=>#[]⟩
   have I6:=repin (o':=seqObj "list" #[] c1) (h':=s'.heap.update kS (Obj.mapSeq fun _=>(#[]:Array Value))) (t':=s'.toks) I' (fun c w hc e=>by rw [Heap.get?_update_ne _ _ _ _ hc];exact e) hc1 seq_nocell fpk (fun p hp=>by rw [List.mem_singleton.mp hp];exact Nat.ne_of_lt hak)
   have I7:Inv X (pins++(a,seqObj "list" #[] e1) :: []) σ H' { s' with heap:=s'.heap.update kS (Obj.mapSeq fun _=>(#[]:Array Value)),toks:=s'.toks }:=I6.pins_of fun p hp=>I6.pin p (List.mem_append_right _ ((List.mem_append.mp hp).elim (fun z=>List.mem_append_left _ z) fun z=>List.mem_append_right _ (.tail _ z)))
   have pa2:=I7.pin (a,seqObj "list" #[] e1) (List.mem_append_right _ (List.mem_append_right _ (.head _)))
   obtain ⟨c2,hc2⟩:∃c2,(sortedHeap2 s'.heap kS a ((sortIx lt its.length).map fun i=>its.getD i Value.none)).get? a=some (seqObj "list" (List.toArray ((sortIx lt its.length).map fun i=>its.getD i Value.none)) c2):=⟨_,get?_update_seq pa2.1 _⟩
   have I8:=repin (o':=seqObj "list" (List.toArray ((sortIx lt its.length).map fun i=>its.getD i Value.none)) c2) (h':=sortedHeap2 s'.heap kS a ((sortIx lt its.length).map fun i=>its.getD i Value.none)) (t':=s'.toks) I7 (fun c w hc e=>by unfold sortedHeap2;rw [Heap.get?_update_ne _ _ _ _ hc];exact e) hc2 seq_nocell fpa (fun p hp=>by simp at hp)
   have hout:Vals ((sortIx lt xs.length).map fun i=>xs.getD i .non) ((sortIx lt its.length).map fun i=>its.getD i Value.none):=by
    rw [hil]
    exact vals_pick rv fun i hi=>List.mem_range.mp ((sortIx_perm hok.ord).mem_iff.mp hi)
   refine ⟨.ref a,_,track (u:=.lst ((sortIx lt xs.length).map fun i=>xs.getD i .non)) I8 fpa hxa ⟨?_,_,c2,hout,hc2⟩,rfl,hq a pa2.2.1⟩
   rw [hout.length,hol,sizeLine_eq];omega
end
end TF
namespace TF
open PySem PySem.Spec PyProof.Rows L2 TS
section
variable {X:Cx}
noncomputable def CallKS (X:Cx) (id:String) (nm:Str) (r:St→List V→List V→Hp→VK→Prop):Prop:=
 ∀(pins:List (Addr×Obj)) (s:Shared) (σ:St) (H:Hp) (xs ys:List V) (us vs:List Value) (Q:VK),Inv X pins σ H s→Vals xs us→Vals ys vs→r σ xs ys H Q→wpAny (model X.prog X.w) X.A (call (.builtin id) us ([nm].zip vs)) (EP X pins σ Q) X.xe s
theorem pe_callKS {id:String} {x nm:Str} {p pos kpos:Pos} {e d:Expr} {ta tb:TE} {r:St→List V→List V→Hp→VK→Prop} (hc:CallKS X id nm r) (hg:Gl X x) (hm:X.mg x=none) (hv:bootBuiltins x=some (.builtin id)) (ha:PE X e ta) (hb:PE X d tb)
  (hn:x≠"__name__":=by decide) (hdb:(x==("__debug__" : Str))=false:=by decide) (he:starEach [e] X.env=(false,eval e X.env)::starEach [] X.env:=by rfl)
  (hall:(backToKw pos (keywordEach [⟨some nm,d,kpos⟩] X.env)).all (·.1.isSome)=true:=by rfl) (hks:(backToKw pos (keywordEach [⟨some nm,d,kpos⟩] X.env)).filterMap (·.1)=[nm]:=by rfl)
  (hpl:((backTo pos (starEach [e] X.env)).any (·.1)||(backToKw pos (keywordEach [⟨some nm,d,kpos⟩] X.env)).any (·.1.isNone))=false:=by rfl) :
  PE X (.Call (.Name x p) [e] [⟨some nm,d,kpos⟩] pos) (fun σ H Q=>tCons ta tNil σ H fun xs H1=>tCons tb tNil σ H1 fun ys H2=>r σ xs ys H2 Q):=by
 intro pins s σ H Q I h
 refine wpAny_Call_Name_kw (ld_blt I hg hm hv ?_ hn hdb)
 refine PySem.W.callWith_of (P:=fun _=>True) hpl (fun h _=>⟨Keeper.machine,.inr (.inl rfl),looks_builtin⟩) (evalArgs_kw2 hall (thn ((pa_cons ha pa_nil he) pos pins s σ H _ I h) fun us s1 ⟨vs,H1,I1,rv,q1⟩=>?_) he)
 refine thn ((pk_cons hb pk_nil) pos pins s1 σ H1 _ I1 q1) fun ws s2 ⟨zs,H2,I2,rz,q2⟩=>?_
 refine ⟨trivial,?_⟩
 rw [hks]
 exact hc pins s2 σ H2 vs zs us ws Q I2 rv rz q2
noncomputable def IntsIt (X:Cx) (H:Hp) (p:Addr) (ns:List Int):Prop:=
 SqL X.K H p (ns.map V.int)∨SqT X.K H p (ns.map V.int)∨∃j:Int,H p=some (.rng 0 j)∧-(2 ^ 62)≤j∧j≤2 ^ 24∧ns=(List.range j.toNat).map fun (i:Nat)=>(i:Int)
theorem collect_it {pins:List (Addr×Obj)} {σ:St} {H:Hp} {s:Shared} {p:Addr} {ns:List Int} {E:Value→Shared→Prop} (hc:X.calm=true) (I:Inv X pins σ H s) (h:IntsIt X H p ns) (Q1:List Value→Shared→Prop)
  (k:∀(h':Heap) (tk:Nat) (its:List Value),(∀b o,s.heap.get? b=some o→h'.get? b=some o)→Vals (ns.map V.int) its→Q1 its { s with heap:=h',toks:=tk }):wpAny (model X.prog X.w) X.A.in1 (collect (.ref p)) Q1 E s:=by
 have keep:∀its:List Value,∀b o,s.heap.get? b=some o→((s.heap.push (seqObj "list" #[] 0)).update s.heap.objs.size (Obj.mapSeq (· ++ its.toArray))).get? b=some o:=fun its b o e=>by
  rw [Heap.get?_update_ne _ _ _ _ (Nat.ne_of_lt (Heap.lt_size e))]
  exact Heap.get?_push_of_some _ e
 rcases h with h | h | ⟨j,hr,h1,h2,rfl⟩
 ·obtain ⟨its,rv,pl,hz⟩:=I.list h
  have hl:=rv.length
  exact collect_list pl.isList (k _ s.toks its (keep its) rv) (by rw [←hl];exact hz)
 ·obtain ⟨its,rv,pl,hz⟩:=I.tuple h
  have hl:=rv.length
  exact collectT (show s.heap.IsTuple p its.toArray from pl) (k _ s.toks its (keep its) rv) (by rw [←hl];exact hz)
 ·obtain ⟨t,u',v',hro⟩:=(show ObjOk X.prog X.w H s.heap p (.rng 0 j) from I.hok p _ hr)
  have hn:Builtin.Range.rangeSize 0 j 1=((j.toNat:Nat):Int):=by rw [rangeSize_one];split <;> omega
  refine collect_rng (A:=X.A.in1) (I.ok.hd hc) (show IsRange s.heap p 0 j 1 t u' v' from hro) (small_one (by omega) (by omega) h1 (by omega)) hn (by omega) fun h' tk acc kp hi=>?_
  obtain ⟨sz,hit⟩:=hi
  have rv:=vals_range acc.toList 0 fun i v hv=>by
   obtain ⟨t,e⟩:=hit i v (by simpa using hv)
   exact ⟨t,by rw [e];simp⟩
  have el:acc.toList.length=j.toNat:=by simpa using sz
  rw [el] at rv
  refine k h' tk acc.toList kp ?_
  rw [List.map_map]
  have e:(List.range j.toNat).map (V.int∘fun (i:Nat)=>(i:Int))=(List.range j.toNat).map fun (i:Nat)=>V.int (0+i):=List.map_congr_left fun i _=>by show V.int _=V.int _;rw [Int.zero_add]
  rw [e];exact rv
theorem call_sortKey (hc:X.calm=true):CallKS X "sorted" "key" (fun σ xs ys H Q=>∃(p f:Addr) (ns:List Int) (sp:Heap→Sp) (k:Nat),xs=[.ref p]∧ys=[.ref f]∧IntsIt X H p ns∧KeyFn X σ k f sp∧Room (k+2) X.A∧ns.length<64∧
  keysT X σ sp (ns.map V.int) H fun kvs H1=>∃lt,KeysOk X kvs H1 lt∧∀l,H1 l=none→Q (.ref l) (upd H1 l (.lst ((sortIx lt ns.length).map fun i=>V.int (ns.getD i 0))))):=by
 intro pins s σ H xs ys us vs Q I r r2 h
 obtain ⟨p,f,ns,sp,k,rfl,rfl,hp,F,hr,h64,q⟩:=h
 obtain ⟨u,rfl,ru⟩:=vals1 r
 cases ru
 obtain ⟨v,rfl,rv⟩:=vals1 r2
 cases rv
 refine sorted_key (xs:=ns.map V.int) F hr I (by rw [List.length_map];exact h64) (fun Q1 k=>collect_it hc I hp Q1 k) ?_
 have ek:(fun kvs H1=>∃lt,KeysOk X kvs H1 lt∧∀l,H1 l=none→Q (.ref l) (upd H1 l (.lst ((sortIx lt ns.length).map fun i=>V.int (ns.getD i 0)))))=fun kvs H1=>∃lt,KeysOk X kvs H1 lt∧∀l,H1 l=none→Q (.ref l) (upd H1 l (.lst ((sortIx lt (ns.map V.int).length).map fun i=>(ns.map V.int).getD i .non))):=by
  funext kvs H1
  refine propext (exists_congr fun lt=>and_congr_right fun ok=>?_)
  have e:(sortIx lt (ns.map V.int).length).map (fun i=>(ns.map V.int).getD i .non)=(sortIx lt ns.length).map fun i=>V.int (ns.getD i 0):=by
   rw [List.length_map]
   refine List.map_congr_left fun i hi=>?_
   have hi:=List.mem_range.mp ((sortIx_perm ok.ord).mem_iff.mp hi)
   rw [List.getD_eq_getElem?_getD,List.getElem?_map,List.getD_eq_getElem?_getD,List.getElem?_eq_getElem hi];rfl
  rw [e]
 rw [ek] at q
 exact q
end
noncomputable def mKeys (F:List D→M D) (cds:List D):List Int→M (List D)
 | []=>mret []
 | n::r=>mbind (F (.int n::cds)) fun k=>mbind (mKeys F cds r) fun ks=>mret (k::ks)
noncomputable def ltD (ks:List D):Option (Nat→Nat→Bool):=match intsOf ks with
 | some ns=>some fun i j=>decide (ns.getD i 0<ns.getD j 0)
 | none=>match tupsOf ks with
  | some nss=>if nss.all (fun ns=>!ns.isEmpty)=true then some fun i j=>lexB (nss.getD i []) (nss.getD j []) else none
  | none=>none
noncomputable def mSortKey (F:List D→M D) (cds:List D) (ns:List Int):M D:=if (decide (ns.length<64)&&noClos cds)=true then mbind (mKeys F cds ns) fun ks=>match ltD ks with
 | some lt=>mret (.lst ((sortIx lt ns.length).map fun i=>.int (ns.getD i 0)))
 | none=>mfail else mfail
section
variable {X:Cx} {G:Gh} {σ:St}
theorem keysT_of {cvs:List V} {cds:List D} {F:List D→M D}:∀(ns:List Int) (Hf H:Hp) (s s':Pn) (ks:List D) (R:List V→Hp→Prop),Ext G Hf H→RepL G Hf cds cvs→G.st s H→mKeys F cds ns s=some (ks,s')→
  (∀kvs Hf1 H1,Gr G Hf H Hf1 H1→G.st s' H1→RepL G Hf1 ks kvs→R kvs H1)→keysT X σ (fun _=>spK 1 G cvs F) (ns.map V.int) H R
 | [],Hf,H,s,s',ks,R,e,rc,st,h,k=>by
  obtain ⟨rfl,rfl⟩:=mret_some h
  exact k [] Hf H (.refl e) st (RepL.nil_iff.mpr rfl)
 | n::r,Hf,H,s,s',ks,R,e,rc,st,h,k=>by
  obtain ⟨d,s1,a1,a2⟩:=mbind_some h
  obtain ⟨ks',s2,a3,a4⟩:=mbind_some a2
  obtain ⟨rfl,rfl⟩:=mret_some a4
  intro base' cs
  refine ⟨Hf,[.int n],cds,s,d,s1,rfl,e,.one (Rep.int_iff.mpr rfl),rc,st,a1,fun v Hf1 H1 g1 st1 rv=>?_⟩
  exact keysT_of r Hf1 H1 s1 _ ks' _ g1.fh (rc.ext g1.ff) st1 a3 fun kvs Hf2 H2 g2 st2 rk=>k (v::kvs) Hf2 H2 (g1.trans g2) st2 (.cons (rv.ext g2.ff) rk)
theorem keysOk_of {ks:List D} {kvs:List V} {lt:Nat→Nat→Bool} {Hf H:Hp} (e:Ext G Hf H) (r:RepL G Hf ks kvs) (h:ltD ks=some lt):KeysOk X kvs H lt:=by
 unfold ltD at h
 cases hi:intsOf ks with
 | some ns=>
  rw [hi] at h
  cases h
  rw [intsOf_eq hi] at r
  exact .inl ⟨ns,RepL.ints r,rfl⟩
 | none=>
  rw [hi] at h
  cases ht:tupsOf ks with
  | none=>rw [ht] at h;cases h
  | some nss=>
   rw [ht] at h
   have h:(if nss.all (fun ns=>!ns.isEmpty)=true then some fun i j=>lexB (nss.getD i []) (nss.getD j []) else none)=some lt:=h
   by_cases hn:nss.all (fun ns=>!ns.isEmpty)=true
   ·rw [if_pos hn] at h
    cases h
    rw [tupsOf_eq ht] at r
    refine .inr ⟨nss,fun v ns=>Rep G Hf (tupI ns) v,fun v ns rv=>?_,repT_pair r,fun ns hm z=>?_,rfl⟩
    ·obtain ⟨a,vs,rfl,na,ha,rl⟩:=Rep.tup_iff.mp rv
     rw [RepL.ints rl] at ha
     exact ⟨a,rfl,SqT.of (e _ _ na ha)⟩
    ·have:=List.all_eq_true.mp hn ns hm
     rw [z] at this;cases this
   ·rw [if_neg hn] at h;cases h
end
section
variable {X:Cx} {G:Gh} {P c:Addr} {q:Str} {kl:Nat} {frb:Bool} {e1:Expr} {f1:Rho→M D} {r1:Bool} {params:Arguments} {scope:Scope} {lpos ppos pos kpos:Pos} {XN N ps:List Str} {NS:List (Str×NameKind)} {cix:List Nat} {body:Expr} {fe:Rho→M D}
theorem sortKey_after {cds:List D} {ns:List Int} {σ:St} {Hf1 H1:Hp} {ρ:Rho} {s s':Pn} {d:D} {Q:VK} {p0:Addr} (hfn:∀x,X.fn x=true) (hr:Room (kl+3) X.A) (M:Mk0 X c P) (TG:TabG P q G) (S:CloScope N ps scope) (B:CapS X XN NS N ps cix scope) (hps:ps.length=1)
  (hbind:∀(cl:List (Str×Addr)) (pm cd ct:Value) (us:List Value),us.length=ps.length→bindArgs (PySem.W.kla_fn "<lambda>" q params body scope cl pm cd ct) ⟨us,[]⟩=pure (ps.zip us))
  (hb:∀(base:Heap) (f c':Addr) (cl:List (Str×Addr)) (G:Gh) (A:Around) (outer:List Env) (s:Shared) (H:Hp) (E:XK),Room kl (A.deeper (PySem.W.envX q scope s.heap.objs.size f (.ref c') cl))→PD (cxC CX0 X.prog X.w X.K X.mg base N q scope f (.ref c') cl A outer s H E).nox G frb body fe)
  (x1:Ext G Hf1 H1) (x2:EnvR G Hf1 σ ρ) (st1:G.st s H1) (hcap:capsD ρ cix=some cds) (hk:mSortKey (runE N.length fe) cds ns s=some (d,s'))
  (hit:∀H2,Ext G H1 H2→(∀b u,H1 b=some u→(∀t,u≠.tbl t)→H2 b=some u)→IntsIt X H2 p0 ns)
  (k:∀v Hf3 H3,Gr G Hf1 H1 Hf3 H3→G.st s' H3→Rep G Hf3 d v→Q v H3) :
  tCons (fun σ H Q=>MadeQ P q lpos (fun fd c'=>∃cl pm ctv,CloOf X scope cl∧fd=PySem.W.kla_fn "<lambda>" q params body scope cl pm (.ref c') ctv) H fun p _ _ H'=>Q (.ref p) H') tNil σ H1 fun ys H2=>
   ∃(p f:Addr) (ns:List Int) (sp:Heap→Sp) (k:Nat),[V.ref p0]=[.ref p]∧ys=[.ref f]∧IntsIt X H2 p ns∧KeyFn X σ k f sp∧Room (k+2) X.A∧ns.length<64∧
    keysT X σ sp (ns.map V.int) H2 fun kvs H1=>∃lt,KeysOk X kvs H1 lt∧∀l,H1 l=none→Q (.ref l) (upd H1 l (.lst ((sortIx lt ns.length).map fun i=>V.int (ns.getD i 0)))):=by
 unfold mSortKey at hk
 obtain ⟨hn,a5⟩:=mif_some hk
 obtain ⟨hn0,hn1⟩:=Bool.and_eq_true_iff.mp hn
 have h64:=of_decide_eq_true hn0
 obtain ⟨ks,s1,a6,a7⟩:=mbind_some a5
 obtain ⟨tp,hP,htr,hhit⟩:=TG.get _ H1 st1
 refine ⟨tp,hP,htr,fun cv h=>let ⟨c',z1,z2,_⟩:=hhit lpos cv h;⟨c',z1,z2⟩,fun p c' fd Hm ⟨cl,pm,ctv,co,efd⟩ sl hp=>?_⟩
 subst efd
 obtain ⟨stm,hc',ex⟩:=slot_st TG st1 hP sl
 have gr:=made_gr (o:=.ext (fnφ p (PySem.W.kla_fn "<lambda>" q params body scope cl pm (.ref c') ctv))) x1 ex hp
 have hcp:c'≠p:=fun z=>by rw [z,hp] at hc';cases hc'
 obtain ⟨cvs,l1,l2,l3⟩:=caps_rep x2 hcap
 have st2:(cloG G 0 p c' (PySem.W.kla_fn "<lambda>" q params body scope cl pm (.ref c') ctv) q cvs).st s (upd Hm p (.ext (fnφ p (PySem.W.kla_fn "<lambda>" q params body scope cl pm (.ref c') ctv)))):=⟨Gh.grow stm hp,upd_same,by rw [upd_ne hcp];exact hc'⟩
 refine ⟨p0,p,ns,fun _=>spK 1 (cloG G 0 p c' (PySem.W.kla_fn "<lambda>" q params body scope cl pm (.ref c') ctv) q cvs) cvs (runE N.length fe),kl+1,rfl,rfl,?_,⟨hfn,_,ps,.all (hbind cl pm (.ref c') ctv),fun base' cs=>?_⟩,hr,h64,?_⟩
 ·refine hit _ gr.hh fun b u e nt=>?_
  have e2:Hm b=some u:=by
   rcases sl with ⟨rfl,h1,h2⟩ | ⟨h1,h2,h3,rfl⟩
   ·exact e
   ·have hbP:b≠P:=fun z=>by
     rw [z,hP] at e;cases e
     exact nt _ rfl
    rw [upd_ne (ne_of_none e h2),upd_ne hbP];exact e
  rw [upd_ne (ne_of_none e2 hp)];exact e2
 ·have:=fnKE S (B.cloAt cs co l1 l3) (fun s H st=>st.2) (G:=cloG G 0 p c' (PySem.W.kla_fn "<lambda>" q params body scope cl pm (.ref c') ctv) q cvs) fun A outer s H E hr=>hb base' p c' cl _ A outer s H E hr
  rw [hps] at this
  exact this
 ·refine keysT_of ns Hf1 _ s s1 ks _ (Ext.re (G:=G) rfl gr.fh) (toCL hn1 l2) st2 a6 fun kvs Hf2 H2 g2 st3 rk=>?_
  cases hlt:ltD ks with
  | none=>rw [hlt] at a7;cases a7
  | some lt=>
   rw [hlt] at a7
   obtain ⟨rfl,rfl⟩:=mret_some a7
   refine ⟨lt,keysOk_of g2.fh rk hlt,fun l hl=>?_⟩
   have g2':Gr G Hf1 _ Hf2 H2:=grC g2
   have nf:=Gh.nofp st3.1 hl
   have gB:=Gr.new (G:=G) (o:=.lst ((sortIx lt ns.length).map fun i=>V.int (ns.getD i 0))) g2'.fh hl nf
   have gg:=(gr.trans g2').trans gB
   have hrl:RepL G (upd Hf2 l (.lst ((sortIx lt ns.length).map fun i=>V.int (ns.getD i 0)))) ((sortIx lt ns.length).map fun i=>D.int (ns.getD i 0)) ((sortIx lt ns.length).map fun i=>V.int (ns.getD i 0)):=by
    have:=repL_ints (G:=G) (Hf:=upd Hf2 l (.lst ((sortIx lt ns.length).map fun i=>V.int (ns.getD i 0)))) ((sortIx lt ns.length).map fun i=>ns.getD i 0)
    rw [List.map_map,List.map_map] at this
    exact this
   exact k (.ref l) _ _ gg (Gh.grow st3.1 hl) (Rep.lst_iff.mpr ⟨l,_,rfl,nf,upd_same,hrl⟩)
noncomputable def dSortKeyR (F:List D→M D) (cix:List Nat) (f:Rho→M D):Rho→M D:=fun ρ=>mbind (f ρ) fun d=>mbind (mOf (capsD ρ cix)) fun cds=>match d with
 | .int j=>if -(2 ^ 62)≤j∧j≤2 ^ 24 then mSortKey F cds ((List.range j.toNat).map fun (i:Nat)=>(i:Int)) else mfail
 | _=>mfail
theorem pd_sortKeyR {p2 pos2:Pos} (hc:X.calm=true) (hg:Gl X "sorted") (hm:X.mg "sorted" = none) (hv:bootBuiltins "sorted" = some (.builtin "sorted")) (hgr:Gl X "range") (hmr:X.mg "range" = none) (M:Mk0 X c P) (TG:TabG P q G) (hfn:∀x,X.fn x=true) (hr:Room (kl+3) X.A) (h1:PD X G r1 e1 f1)
  (hq:X.env.qual ++ "<lambda>" = q) (S:CloScope N ps scope) (B:CapS X XN NS N ps cix scope) (hps:ps.length=1)
  (hbind:∀(cl:List (Str×Addr)) (pm cd ct:Value) (us:List Value),us.length=ps.length→bindArgs (PySem.W.kla_fn "<lambda>" q params body scope cl pm cd ct) ⟨us,[]⟩=pure (ps.zip us))
  (hb:∀(base:Heap) (f c':Addr) (cl:List (Str×Addr)) (G:Gh) (A:Around) (outer:List Env) (s:Shared) (H:Hp) (E:XK),Room kl (A.deeper (PySem.W.envX q scope s.heap.objs.size f (.ref c') cl))→PD (cxC CX0 X.prog X.w X.K X.mg base N q scope f (.ref c') cl A outer s H E).nox G frb body fe)
  (hdef:defaultsOf params X.env=([],[]):=by rfl)
  (hs1:starEach [e1] X.env=[(false,eval e1 X.env)]:=by rfl)
  (he:starEach [.Call (.Name "range" p2) [e1] [] pos2] X.env=(false,eval (.Call (.Name "range" p2) [e1] [] pos2) X.env)::starEach [] X.env:=by rfl)
  (hall:(backToKw pos (keywordEach [⟨some "key",.Lambda params body scope lpos,kpos⟩] X.env)).all (·.1.isSome)=true:=by rfl) (hks:(backToKw pos (keywordEach [⟨some "key",.Lambda params body scope lpos,kpos⟩] X.env)).filterMap (·.1)=[("key" : Str)]:=by rfl)
  (hpl:((backTo pos (starEach [.Call (.Name "range" p2) [e1] [] pos2] X.env)).any (·.1)||(backToKw pos (keywordEach [⟨some "key",.Lambda params body scope lpos,kpos⟩] X.env)).any (·.1.isNone))=false:=by rfl) :
  PD X G false (.Call (.Name "sorted" ppos) [.Call (.Name "range" p2) [e1] [] pos2] [⟨some "key",.Lambda params body scope lpos,kpos⟩] pos) (dSortKeyR (runE N.length fe) cix f1):=by
 obtain ⟨t1,p1,q1⟩:=h1.drop
 refine ⟨_,pe_callKS (call_sortKey hc) hg hm hv (pe_range1 hgr hmr (pa_cons p1 pa_nil (by rw [hs1];rfl)) hs1) (pe_lam M hq B.hfree hdef) (by decide) (by decide) he hall hks hpl,fun σ Hf H ρ s d s' Q x1 x2 x3 x4 k=>?_⟩
 obtain ⟨d1,s1,a1,a2⟩:=mbind_some x4
 obtain ⟨cds,s2,b3,a4⟩:=mbind_some a2
 obtain ⟨a3,rfl⟩:=mOf_some b3
 cases d1 with
 | int j=>
  obtain ⟨cj,a5⟩:=mif_some a4
  refine q1 σ Hf H ρ s _ _ _ x1 x2 x3 a1 fun v1 Hf1 H1 g1 st1 rv1=>?_
  rw [Rep.int_iff.mp rv1]
  refine ⟨j,rfl,fun p hp=>?_⟩
  have st2:G.st s2 (upd H1 p (.rng 0 j)):=Gh.grow st1 hp
  have fp:Hf1 p=none:=by
   cases q:Hf1 p with
   | none=>rfl
   | some o=>rw [g1.fh p o (Gh.nofp st1 hp) q] at hp;cases hp
  have gA:Gr G Hf1 H1 Hf1 (upd H1 p (.rng 0 j)):=⟨fun b o n q=>by rw [upd_ne (ne_of_none q hp)];exact q,.refl _ _,fun b o n q=>by rw [upd_ne (ne_of_none q fp)];exact g1.fh b o n q,fun b n h1 h2=>h1⟩
  refine sortKey_after hfn hr M TG S B hps hbind hb gA.fh (x2.ext g1.ff) st2 a3 a5 (fun H2 _ keep=>.inr (.inr ⟨j,keep _ _ upd_same (fun t z=>by cases z),cj.1,cj.2,rfl⟩)) fun v Hf3 H3 g3 st3 r3=>k v Hf3 H3 ((g1.trans gA).trans g3) st3 r3 (fun z=>by cases z)
 | _=>cases a4
end
end TF
namespace TF
open PySem PySem.Spec PyProof.Rows L2 TS PySem.W
section
variable {X:Cx} {pins:List (Addr×Obj)} {σ:St} {H:Hp} {s:Shared}
noncomputable def maxT (X:Cx) (σ:St) (sp:Heap→Sp) (l:Addr) (ns:List Int):List Int→Int→Int→Hp→VK→Prop
 | [],nb,_,H,Q=>SqL X.K H l (ns.map V.int)∧Q (.int nb) H
 | n::r,nb,kb,H,Q=>SqL X.K H l (ns.map V.int)∧∀base',Cells X σ base'→sp base' [.int n] H (fun k H1=>∃kn,k=.int kn∧maxT X σ sp l ns r (if kn > kb then n else nb) (if kn > kb then kn else kb) H1 Q) E0
noncomputable def maxT0 (X:Cx) (σ:St) (sp:Heap→Sp) (l:Addr) (ns:List Int) (y:V) (H:Hp) (Q:VK):Prop:=match ns with
 | []=>SqL X.K H l []∧Q y H
 | n::r=>SqL X.K H l ((n::r).map V.int)∧∀base',Cells X σ base'→sp base' [.int n] H (fun k H1=>∃kn,k=.int kn∧maxT X σ sp l (n::r) r n kn H1 Q) E0
theorem unpin {b:Addr} {o:Obj} {rest:List (Addr×Obj)} {h':Heap} {t':Nat} (I:Inv X (pins++(b,o)::rest) σ H s) (k:∀c u,c≠b→s.heap.get? c=some u→h'.get? c=some u) (fp:FpS X pins b)
  (hr:∀p∈rest,p.1≠b):Inv X (pins++rest) σ H { s with heap:=h',toks:=t' }:=by
 have pb2:=(I.pin (b,o) (List.mem_append_right _ (List.mem_append_right _ (.head _)))).2.1
 have I1:Inv X (pins++rest) σ H s:=I.pins_of fun p hp=>I.pin p (List.mem_append_right _ ((List.mem_append.mp hp).elim (fun z=>List.mem_append_left _ z) fun z=>List.mem_append_right _ (.tail _ z)))
 obtain ⟨f1,f2,f3,f4,f5⟩:=fp
 exact I1.turned (t':=t') k pb2 f1 f3 f4 (fun p hp=>by
  rcases List.mem_append.mp hp with z | z
  ·exact f5 p (List.mem_append_left _ z)
  ·rcases List.mem_append.mp z with z | z
   ·exact f5 p (List.mem_append_right _ z)
   ·exact hr p z)
theorem swap_pin {a b:Addr×Obj} (I:Inv X (pins ++ [a,b]) σ H s):Inv X (pins ++ [b,a]) σ H s:=I.pins_of fun p hp=>I.pin p (by
 simp only [List.mem_append,List.mem_cons,List.not_mem_nil,or_false] at hp ⊢
 rcases hp with z | z | z
 ·exact .inr (.inl z)
 ·exact .inr (.inr (.inr z))
 ·exact .inr (.inr (.inl z)))
theorem int_item {its:List Value} {ns:List Int} {j:Nat} {v:Value} {n:Int} {r:List Int} (rv:Vals (ns.map V.int) its) (hv:its.toArray[j]?=some v) (hd:ns.drop j=n::r):RelV (.int n) v:=by
 have hi:IntsAre its ns:=intsAre_of rv
 have hn:ns[j]?=some n:=by
  have:=congrArg List.head? hd
  rw [List.head?_drop] at this
  exact this
 obtain ⟨t,ht⟩:=hi.get j n hn
 have:its[j]?=some v:=by simpa using hv
 rw [this] at ht
 cases ht
 exact ⟨t,rfl⟩
theorem drop_next {ns r:List Int} {j:Nat} {n:Int} (hd:ns.drop j=n::r):ns.drop (j+1)=r∧j<ns.length:=by
 refine ⟨?_,?_⟩
 ·rw [←List.tail_drop,hd];rfl
 ·apply Classical.byContradiction
  intro z
  rw [List.drop_eq_nil_of_le (by omega)] at hd
  cases hd
theorem iter_nocell {o:Obj} {xs:Array Value} (h:o.data=.fields xs):∀v,o.data≠.cell v:=fun v e=>by rw [h] at e;cases e
theorem ne_iter {h:Heap} {l I:Addr} {xs:Array Value} {o:Obj} (hl:h.IsList l xs) (hi:h.get? I=some o) (hc:o.cls=.type "list_iterator"):l≠I:=fun z=>by
 obtain ⟨ol,h1,h2,_⟩:=hl
 rw [z,hi] at h1
 cases h1
 rw [hc] at h2
 exact absurd h2 (by decide)
set_option maxHeartbeats 4000000 in
theorem maxKey_loop {k:Nat} {f l I S:Addr} {sp:Heap→Sp} {A:Around} {R:Result→Shared→Prop} {kw:List (Str×Value)} {ns:List Int} {Q:VK} (hh:A.in1.handled=none) (F:KeyFn X σ k f sp) (hA:∀{base H s},Env0 X.prog X.w X.K X.mg base X.A X.stack s H→Env0 X.prog X.w X.K X.mg base A.in1 X.stack s H) (hr:Room k A.in1) (fpS:FpS X pins S) (fpI:FpS X pins I) (hSI:S≠I)
  (hR:∀v s',EP X pins σ Q v s'→R (.ok (.ret v)) s') :
  ∀(r:List Int) (j:Nat) (H:Hp) (s:Shared) (nb kb:Int) (ub vb:Value) (c:Nat) (oI:Obj),ns.drop j=r→j≤ns.length→RelV (.int nb) ub→RelV (.int kb) vb→oI.cls=.type "list_iterator"→oI.data=.fields #[.ref l,.int j 0]→
   Inv X (pins ++ [(S,seqObj "list" #[ub,vb] c),(I,oI)]) σ H s→maxT X σ sp l ns r nb kb H Q→codeAny (model X.prog X.w) A (.builtin "max.loop" ⟨[.ref I,.ref f,.ref S],kw⟩) R s:=by
 have hname:(toString "max" ++ toString ".loop" : String) = "max.loop":=by decide
 intro r
 induction r with
 | nil=>
  intro j H s nb kb ub vb c oI hd hjn r1 r2 hoc hod I0 q
  obtain ⟨hp,q⟩:=q
  have pS:=I0.pin (S,seqObj "list" #[ub,vb] c) (List.mem_append_right _ (List.mem_append_right _ (.head _)))
  have pI:=I0.pin (I,oI) (List.mem_append_right _ (List.mem_append_right _ (.tail _ (.head _))))
  obtain ⟨its,rv,pl,hz⟩:=I0.list hp
  have hl:=pl.isList
  have hlen:its.length=ns.length:=by have:=rv.length;rw [List.length_map] at this;omega
  have hj:ns.length≤j:=List.drop_eq_nil_iff.mp hd
  have hlI:l≠I:=ne_iter hl pI.1 hoc
  have hsz:its.toArray.size=j:=by rw [List.size_toArray];omega
  have W:=Walks.list (prog:=X.prog) (w:=X.w) (A:=A.in1) hh I l hlI its.toArray
  refine codeAny_builtin PySem.F.entry_max_loop ?_
  rw [Around.under_plainId PySem.F.plain_max_loop _]
  show wpAny _ A.in1 (seqItems? (.ref S) >>= _) _ _ _
  refine wpAny_bind (wpAny_seqItems pS.1 rfl ?_)
  show wpAny _ A.in1 (tryCatch (pyNext (.ref I)) _ >>= _) _ _ _
  refine wpAny_bind (wpAny_tryCatch (W.done _ _ _ ⟨by rw [hsz];exact ⟨oI,pI.1,hoc,hod⟩,hl⟩ fun h' tk' hk'=>?_))
  have I1:=unpin (t':=tk') (swap_pin I0) (fun c u hc e=>hk' c u (by simpa using hc) e) fpI (fun p hp=>by rw [List.mem_singleton.mp hp];exact hSI)
  have pS1:=(I1.pin (S,seqObj "list" #[ub,vb] c) (List.mem_append_right _ (List.mem_append_right _ (.head _)))).1
  show wpAny _ A.in1 (updateSeq S (fun _=>#[]) >>= _) _ _ _
  refine wpAny_bind ?_
  refine wpAny_updateSeq pS1 rfl (wpAny_bind (wpAny_letGo (wpAny_pure ?_)))
  have I2:=unpin (h':=h'.update S (Obj.mapSeq fun _=>(#[]:Array Value))) (t':=tk') I1 (fun c u hc e=>by show Heap.get? _ c=_;rw [Heap.get?_update_ne _ _ _ _ hc];exact e) fpS (fun p hp=>by simp at hp)
  rw [List.append_nil] at I2
  exact hR ub _ ⟨_,H,I2,r1,q⟩
 | cons n r ih=>
  intro j H s nb kb ub vb c oI hd hjn r1 r2 hoc hod I0 q
  obtain ⟨hp,q⟩:=q
  have pS:=I0.pin (S,seqObj "list" #[ub,vb] c) (List.mem_append_right _ (List.mem_append_right _ (.head _)))
  have pI:=I0.pin (I,oI) (List.mem_append_right _ (List.mem_append_right _ (.tail _ (.head _))))
  obtain ⟨its,rv,pl,hz⟩:=I0.list hp
  have hl:=pl.isList
  have hlI:l≠I:=ne_iter hl pI.1 hoc
  have hlen:its.length=ns.length:=by have:=rv.length;rw [List.length_map] at this;omega
  obtain ⟨hd1,hjl⟩:=drop_next hd
  have hsz:j<its.toArray.size:=by rw [List.size_toArray];omega
  have W:=Walks.list (prog:=X.prog) (w:=X.w) (A:=A.in1) hh I l hlI its.toArray
  refine codeAny_builtin PySem.F.entry_max_loop ?_
  rw [Around.under_plainId PySem.F.plain_max_loop _]
  show wpAny _ A.in1 (seqItems? (.ref S) >>= _) _ _ _
  refine wpAny_bind (wpAny_seqItems pS.1 rfl ?_)
  show wpAny _ A.in1 (tryCatch (pyNext (.ref I)) _ >>= _) _ _ _
  refine wpAny_bind (wpAny_tryCatch (W.item j _ _ _ hsz ⟨⟨oI,pI.1,hoc,hod⟩,hl⟩ fun v h' tk' hP hst' hk'=>?_))
  obtain ⟨oI',hoI',hoc',hod'⟩:=hst'.1
  have rvv:=int_item rv hP hd
  have I1:=swap_pin (repin (o':=oI') (t':=tk') (swap_pin I0) (fun c u hc e=>hk' c u (by simpa using hc) e) hoI' (iter_nocell hod') fpI (fun p hp=>by rw [List.mem_singleton.mp hp];exact hSI))
  show wpAny _ A.in1 (tryCatch (holding [v] (call (.ref f) [v])) _ >>= _) _ _ _
  refine wpAny_bind (wpAny_tryCatch (wpAny_holding (wpAny_mono (key_call (E:=fun _ _=>False) F I1 hA hr rvv q) (fun x s2 he=>?_) fun _ _ hF=>hF.elim)))
  obtain ⟨xv,H2,I2,rx,kn,rfl,q2⟩:=he
  obtain ⟨t2,rfl⟩:=rx
  obtain ⟨tb,rfl⟩:=r2
  have pS2:=(I2.pin (S,seqObj "list" #[ub,.int kb tb] c) (List.mem_append_right _ (List.mem_append_right _ (.head _)))).1
  show wpAny _ A.in1 (tryCatch (holding [v,.int kn t2] (richCompare .Gt (.int kn t2) (.int kb tb) >>= _)) _ >>= _) _ _ _
  refine wpAny_bind (wpAny_tryCatch (wpAny_holding (wpAny_bind (CmpOf.ints_gt (prog:=X.prog) (w:=X.w) (A:=A.in1) (P:=fun i v=>∃t,v=.int ([kb,kn].getD i 0) t) (fun i=>[kb,kn].getD i 0) (fun i v h=>h) 1 0 _ _ _ _ _ ⟨t2,rfl⟩ ⟨tb,rfl⟩ ?_))))
  refine wpAny_bind (wpAny_holding (wpAny_truthy_bool ?_))
  refine wpAny_bind (wpAny_letGo (wpAny_pure ?_))
  show wpAny _ A.in1 (if decide (kn > kb)=true then _ else _) _ _ _
  by_cases hb:kn > kb
  ·rw [if_pos hb,if_pos hb] at q2
   rw [decide_eq_true hb,if_pos rfl]
   refine wpAny_bind ?_
   refine wpAny_updateSeq pS2 rfl (wpAny_bind (wpAny_letGo ?_))
   rw [hname]
   obtain ⟨c2,hc2⟩:∃c2,(s2.heap.update S (Obj.mapSeq fun _=>#[v,.int kn t2])).get? S=some (seqObj "list" #[v,.int kn t2] c2):=⟨_,get?_update_seq pS2 fun _=>#[v,.int kn t2]⟩
   have I3:=repin (o':=seqObj "list" #[v,.int kn t2] c2) (h':=s2.heap.update S (Obj.mapSeq fun _=>#[v,.int kn t2])) (t':=s2.toks) I2 (fun c u hc e=>by rw [Heap.get?_update_ne _ _ _ _ hc];exact e) hc2 seq_nocell fpS (fun p hp=>by rw [List.mem_singleton.mp hp];exact hSI.symm)
   exact wpAny_pure ⟨plainId_quiet PySem.F.plain_max_loop _,ih (j+1) H2 _ n kn v _ c2 oI' hd1 (by omega) rvv ⟨t2,rfl⟩ hoc' hod' I3 q2⟩
  ·rw [if_neg hb,if_neg hb] at q2
   rw [decide_eq_false hb,if_neg (by decide)]
   refine wpAny_bind (wpAny_letGo ?_)
   rw [hname]
   exact wpAny_pure ⟨plainId_quiet PySem.F.plain_max_loop _,ih (j+1) H2 _ nb kb ub _ c oI' hd1 (by omega) r1 ⟨tb,rfl⟩ hoc' hod' I2 q2⟩
theorem maxKD_args (x f d:Value):argsOk "max" ⟨[x],[("key",f),("default",d)]⟩:=by unfold argsOk;kernel_rfl
set_option maxHeartbeats 4000000 in
theorem maxKey_first {k:Nat} {f l I S:Addr} {sp:Heap→Sp} {A:Around} {R:Result→Shared→Prop} {d:Value} {y:V} {ns:List Int} {Q:VK} {c:Nat} {oI:Obj} (hh:A.in1.handled=none) (F:KeyFn X σ k f sp) (hA:∀{base H s},Env0 X.prog X.w X.K X.mg base X.A X.stack s H→Env0 X.prog X.w X.K X.mg base A.in1 X.stack s H) (hr:Room k A.in1) (fpS:FpS X pins S) (fpI:FpS X pins I) (hSI:S≠I)
  (ry:RelV y d) (hR:∀v s',EP X pins σ Q v s'→R (.ok (.ret v)) s') (hoc:oI.cls=.type "list_iterator") (hod:oI.data=.fields #[.ref l,.int 0 0])
  (I0:Inv X (pins ++ [(S,seqObj "list" #[] c),(I,oI)]) σ H s) (q:maxT0 X σ sp l ns y H Q):codeAny (model X.prog X.w) A (.builtin "max.loop" ⟨[.ref I,.ref f,.ref S],[("default",d)]⟩) R s:=by
 have hname:(toString "max" ++ toString ".loop" : String) = "max.loop":=by decide
 have pS:=I0.pin (S,seqObj "list" #[] c) (List.mem_append_right _ (List.mem_append_right _ (.head _)))
 have pI:=I0.pin (I,oI) (List.mem_append_right _ (List.mem_append_right _ (.tail _ (.head _))))
 cases ns with
 | nil=>
  obtain ⟨hp,q⟩:=q
  obtain ⟨its,rv,pl,hz⟩:=I0.list hp
  have hl:=pl.isList
  have hlI:l≠I:=ne_iter hl pI.1 hoc
  have hsz:its.toArray.size=0:=by rw [List.size_toArray];have:=rv.length;simp at this;omega
  have W:=Walks.list (prog:=X.prog) (w:=X.w) (A:=A.in1) hh I l hlI its.toArray
  refine codeAny_builtin PySem.F.entry_max_loop ?_
  rw [Around.under_plainId PySem.F.plain_max_loop _]
  show wpAny _ A.in1 (seqItems? (.ref S) >>= _) _ _ _
  refine wpAny_bind (wpAny_seqItems pS.1 rfl ?_)
  show wpAny _ A.in1 (tryCatch (pyNext (.ref I)) _ >>= _) _ _ _
  refine wpAny_bind (wpAny_tryCatch (W.done _ _ _ ⟨by rw [hsz];exact ⟨oI,pI.1,hoc,hod⟩,hl⟩ fun h' tk' hk'=>?_))
  have I1:=unpin (t':=tk') (swap_pin I0) (fun c u hc e=>hk' c u (by simpa using hc) e) fpI (fun p hp=>by rw [List.mem_singleton.mp hp];exact hSI)
  have I2:=unpin (h':=h') (t':=tk') I1 (fun c u hc e=>e) fpS (fun p hp=>by simp at hp)
  rw [List.append_nil] at I2
  show wpAny _ A.in1 (do rule _;ret d) _ _ _
  refine wpAny_bind (wpAny_rule (wpAny_pure ?_))
  exact hR d _ ⟨_,H,I2,ry,q⟩
 | cons n r=>
  obtain ⟨hp,q⟩:=q
  obtain ⟨its,rv,pl,hz⟩:=I0.list hp
  have hl:=pl.isList
  have hlI:l≠I:=ne_iter hl pI.1 hoc
  have hlen:its.length=(n::r).length:=by have:=rv.length;rw [List.length_map] at this;omega
  have hsz:0<its.toArray.size:=by rw [List.size_toArray,hlen];simp
  have W:=Walks.list (prog:=X.prog) (w:=X.w) (A:=A.in1) hh I l hlI its.toArray
  refine codeAny_builtin PySem.F.entry_max_loop ?_
  rw [Around.under_plainId PySem.F.plain_max_loop _]
  show wpAny _ A.in1 (seqItems? (.ref S) >>= _) _ _ _
  refine wpAny_bind (wpAny_seqItems pS.1 rfl ?_)
  show wpAny _ A.in1 (tryCatch (pyNext (.ref I)) _ >>= _) _ _ _
  refine wpAny_bind (wpAny_tryCatch (W.item 0 _ _ _ hsz ⟨⟨oI,pI.1,hoc,hod⟩,hl⟩ fun v h' tk' hP hst' hk'=>?_))
  obtain ⟨oI',hoI',hoc',hod'⟩:=hst'.1
  have rvv:=int_item (r:=r) rv hP rfl
  have I1:=swap_pin (repin (o':=oI') (t':=tk') (swap_pin I0) (fun c u hc e=>hk' c u (by simpa using hc) e) hoI' (iter_nocell hod') fpI (fun p hp=>by rw [List.mem_singleton.mp hp];exact hSI))
  show wpAny _ A.in1 (tryCatch (holding [v] (call (.ref f) [v])) _ >>= _) _ _ _
  refine wpAny_bind (wpAny_tryCatch (wpAny_holding (wpAny_mono (key_call (E:=fun _ _=>False) F I1 hA hr rvv q) (fun x s2 he=>?_) fun _ _ hF=>hF.elim)))
  obtain ⟨xv,H2,I2,rx,kn,rfl,q2⟩:=he
  obtain ⟨t2,rfl⟩:=rx
  have pS2:=(I2.pin (S,seqObj "list" #[] c) (List.mem_append_right _ (List.mem_append_right _ (.head _)))).1
  show wpAny _ A.in1 (updateSeq S (fun _=>#[v,.int kn t2]) >>= _) _ _ _
  refine wpAny_bind ?_
  refine wpAny_updateSeq pS2 rfl ?_
  rw [hname]
  obtain ⟨c2,hc2⟩:∃c2,(s2.heap.update S (Obj.mapSeq fun _=>#[v,.int kn t2])).get? S=some (seqObj "list" #[v,.int kn t2] c2):=⟨_,get?_update_seq pS2 fun _=>#[v,.int kn t2]⟩
  have I3:=repin (o':=seqObj "list" #[v,.int kn t2] c2) (h':=s2.heap.update S (Obj.mapSeq fun _=>#[v,.int kn t2])) (t':=s2.toks) I2 (fun c u hc e=>by rw [Heap.get?_update_ne _ _ _ _ hc];exact e) hc2 seq_nocell fpS (fun p hp=>by rw [List.mem_singleton.mp hp];exact hSI.symm)
  exact wpAny_pure ⟨plainId_quiet PySem.F.plain_max_loop _,maxKey_loop hh F hA hr fpS fpI hSI hR r 1 H2 _ n kn v _ c2 oI' rfl (by simp) rvv ⟨t2,rfl⟩ hoc' hod' I3 q2⟩
set_option maxHeartbeats 4000000 in
theorem max_key {k:Nat} {f l:Addr} {sp:Heap→Sp} {E:Value→Shared→Prop} {d:Value} {y:V} {ns:List Int} {Q:VK} (hc:X.calm=true) (F:KeyFn X σ k f sp) (hr:Room (k+1) X.A) (I:Inv X pins σ H s) (ry:RelV y d) (hp:SqL X.K H l (ns.map V.int)) (q:maxT0 X σ sp l ns y H Q) :
  wpAny (model X.prog X.w) X.A (call (.builtin "max") [.ref l] [("key",.ref f),("default",d)]) (EP X pins σ Q) E s:=by
 have hname:(toString "max" ++ toString ".loop" : String) = "max.loop":=by decide
 obtain ⟨its,rv,pl,hz⟩:=I.list hp
 have hl:=pl.isList
 refine kmk_tree PySem.F.kind_max PySem.F.plain_max PySem.F.entry_max (maxKD_args _ _ _) ?_
 show wpAny _ X.A.in1 (Builtin.Builtins.bindParams "max" ["key","default"] 0 ⟨[],[("key",.ref f),("default",d)]⟩ >>= _) _ _ s
 refine wpAny_bind (wpAny_of_eq (show Builtin.Builtins.bindParams "max" ["key","default"] 0 ⟨[],[("key",.ref f),("default",d)]⟩=pure [some (.ref f),some d] from rfl) ?_)
 refine wpAny_bind (wpAny_pure ?_)
 refine wpAny_bind (wpAny_pyIter_list hl ?_)
 refine wpAny_bind (wpAny_newList ?_ (Nat.zero_le _))
 rw [hname]
 have I1:Inv X pins σ H { s with heap:=s.heap.push { cls:=.type "list_iterator",data:=.fields #[.ref l,.int 0 0] },toks:=s.toks }:=I.kept (t':=s.toks) (fun b o e=>Heap.get?_push_of_some _ e)
 have fpI:FpS X pins s.heap.objs.size:=fpS_of I (Nat.le_refl _)
 have fpS:FpS X pins (s.heap.push { cls:=.type "list_iterator",data:=.fields #[.ref l,.int 0 0] }).objs.size:=fpS_of I1 (Nat.le_refl _)
 have hS:(s.heap.push { cls:=.type "list_iterator",data:=.fields #[.ref l,.int 0 0] }).objs.size=s.heap.objs.size+1:=size_push' ..
 have I2:=I1.kept (t':=s.toks) (h':=(s.heap.push { cls:=.type "list_iterator",data:=.fields #[.ref l,.int 0 0] }).push (seqObj "list" #[] 0)) (fun b o e=>Heap.get?_push_of_some _ e)
 have I3:Inv X (pins ++ [((s.heap.push { cls:=.type "list_iterator",data:=.fields #[.ref l,.int 0 0] }).objs.size,seqObj "list" #[] 0),(s.heap.objs.size,{ cls:=.type "list_iterator",data:=.fields #[.ref l,.int 0 0] })]) σ H { s with heap:=(s.heap.push { cls:=.type "list_iterator",data:=.fields #[.ref l,.int 0 0] }).push (seqObj "list" #[] 0),toks:=s.toks }:=I2.pins_of fun p hp=>by
  rcases List.mem_append.mp hp with z | z
  ·exact I2.pin p (List.mem_append_right _ z)
  ·rcases List.mem_cons.mp z with rfl | z
   ·exact ⟨Heap.get?_push_size _ rfl,I1.hok.fresh (Nat.le_refl _),fpS.1,fpS.2.1,seq_nocell⟩
   ·rw [List.mem_singleton.mp z]
    exact ⟨Heap.get?_push_of_some _ (Heap.get?_push_size _ rfl),I.hok.fresh (Nat.le_refl _),fpI.1,fpI.2.1,fun v e=>by cases e⟩
 refine wpAny_pure ⟨plainId_quiet PySem.F.plain_max_loop _,maxKey_first (I.ok.hd hc) F (fun e=>e.in1) hr.in1 fpS fpI (by rw [hS];exact Nat.ne_of_gt (Nat.lt_succ_self _)) ry (fun v s' h=>h) rfl rfl I3 q⟩
noncomputable def CallKS2 (X:Cx) (id:String) (nm nm2:Str) (r:St→List V→List V→Hp→VK→Prop):Prop:=
 ∀(pins:List (Addr×Obj)) (s:Shared) (σ:St) (H:Hp) (xs ys:List V) (us vs:List Value) (Q:VK),Inv X pins σ H s→Vals xs us→Vals ys vs→r σ xs ys H Q→wpAny (model X.prog X.w) X.A (call (.builtin id) us ([nm,nm2].zip vs)) (EP X pins σ Q) X.xe s
theorem pe_callKS2 {id:String} {x nm nm2:Str} {p pos kpos kpos2:Pos} {e d g:Expr} {ta tb tc:TE} {r:St→List V→List V→Hp→VK→Prop} (hc:CallKS2 X id nm nm2 r) (hg:Gl X x) (hm:X.mg x=none) (hv:bootBuiltins x=some (.builtin id)) (ha:PE X e ta) (hb:PE X d tb) (hd:PE X g tc)
  (hn:x≠"__name__":=by decide) (hdb:(x==("__debug__" : Str))=false:=by decide) (he:starEach [e] X.env=(false,eval e X.env)::starEach [] X.env:=by rfl)
  (hall:(backToKw pos (keywordEach [⟨some nm,d,kpos⟩,⟨some nm2,g,kpos2⟩] X.env)).all (·.1.isSome)=true:=by rfl) (hks:(backToKw pos (keywordEach [⟨some nm,d,kpos⟩,⟨some nm2,g,kpos2⟩] X.env)).filterMap (·.1)=[nm,nm2]:=by rfl)
  (hpl:((backTo pos (starEach [e] X.env)).any (·.1)||(backToKw pos (keywordEach [⟨some nm,d,kpos⟩,⟨some nm2,g,kpos2⟩] X.env)).any (·.1.isNone))=false:=by rfl) :
  PE X (.Call (.Name x p) [e] [⟨some nm,d,kpos⟩,⟨some nm2,g,kpos2⟩] pos) (fun σ H Q=>tCons ta tNil σ H fun xs H1=>tCons tb (tCons tc tNil) σ H1 fun ys H2=>r σ xs ys H2 Q):=by
 intro pins s σ H Q I h
 refine wpAny_Call_Name_kw (ld_blt I hg hm hv ?_ hn hdb)
 refine PySem.W.callWith_of (P:=fun _=>True) hpl (fun h _=>⟨Keeper.machine,.inr (.inl rfl),looks_builtin⟩) (evalArgs_kw2 hall (thn ((pa_cons ha pa_nil he) pos pins s σ H _ I h) fun us s1 ⟨vs,H1,I1,rv,q1⟩=>?_) he)
 refine thn ((pk_cons hb (pk_cons hd pk_nil)) pos pins s1 σ H1 _ I1 q1) fun ws s2 ⟨zs,H2,I2,rz,q2⟩=>?_
 refine ⟨trivial,?_⟩
 rw [hks]
 exact hc pins s2 σ H2 vs zs us ws Q I2 rv rz q2
theorem call_maxKey (hc:X.calm=true):CallKS2 X "max" "key" "default" (fun σ xs ys H Q=>∃(p f:Addr) (y:V) (ns:List Int) (sp:Heap→Sp) (k:Nat),xs=[.ref p]∧ys=[.ref f,y]∧SqL X.K H p (ns.map V.int)∧KeyFn X σ k f sp∧Room (k+1) X.A∧maxT0 X σ sp p ns y H Q):=by
 intro pins s σ H xs ys us vs Q I r r2 h
 obtain ⟨p,f,y,ns,sp,k,rfl,rfl,hp,F,hr,q⟩:=h
 obtain ⟨u,rfl,ru⟩:=vals1 r
 cases ru
 obtain ⟨v,w,rfl,rv,rw'⟩:=vals2 r2
 cases rv
 exact max_key hc F hr I rw' hp q
end
noncomputable def mMaxGo (F:List D→M D) (cds:List D):List Int→Int→Int→M D
 | [],nb,_=>mret (.int nb)
 | n::r,nb,kb=>mbind (F (.int n::cds)) fun k=>match k with | .int kn=>mMaxGo F cds r (if kn > kb then n else nb) (if kn > kb then kn else kb) | _=>mfail
noncomputable def mMaxKey (F:List D→M D) (cds:List D) (ns:List Int) (c:Int):M D:=match ns with
 | []=>mret (.int c)
 | n::r=>mbind (F (.int n::cds)) fun k=>match k with | .int kn=>mMaxGo F cds r n kn | _=>mfail
section
variable {X:Cx} {G:Gh} {σ:St}
theorem maxT_of {cvs:List V} {cds:List D} {F:List D→M D} {l:Addr} {ns:List Int} (nl:¬G.fp l):∀(r:List Int) (nb kb:Int) (Hf H:Hp) (s s':Pn) (d:D) (Q:VK),Ext G Hf H→RepL G Hf cds cvs→G.st s H→Hf l=some (.lst (ns.map V.int))→mMaxGo F cds r nb kb s=some (d,s')→
  (∀n Hf1 H1,d=.int n→Gr G Hf H Hf1 H1→G.st s' H1→Q (.int n) H1)→maxT X σ (fun _=>spK 1 G cvs F) l ns r nb kb H Q
 | [],nb,kb,Hf,H,s,s',d,Q,e,rc,st,hl,h,k=>by
  obtain ⟨rfl,rfl⟩:=mret_some h
  exact ⟨SqL.of (e _ _ nl hl),k nb Hf H rfl (.refl e) st⟩
 | n::r,nb,kb,Hf,H,s,s',d,Q,e,rc,st,hl,h,k=>by
  obtain ⟨d1,s1,a1,a2⟩:=mbind_some h
  refine ⟨SqL.of (e _ _ nl hl),fun base' cs=>⟨Hf,[.int n],cds,s,d1,s1,rfl,e,.one (Rep.int_iff.mpr rfl),rc,st,a1,fun v Hf1 H1 g1 st1 rv=>?_⟩⟩
  cases d1 with
  | int kn=>
   refine ⟨kn,Rep.int_iff.mp rv,?_⟩
   exact maxT_of nl r _ _ Hf1 H1 s1 _ d Q g1.fh (rc.ext g1.ff) st1 (g1.ff _ _ nl hl) a2 fun n Hf2 H2 en g2 st2=>k n Hf2 H2 en (g1.trans g2) st2
  | _=>cases a2
theorem maxT0_of {cvs:List V} {cds:List D} {F:List D→M D} {l:Addr} {ns:List Int} {c:Int} {Hf H:Hp} {s s':Pn} {d:D} {Q:VK} (nl:¬G.fp l) (e:Ext G Hf H) (rc:RepL G Hf cds cvs) (st:G.st s H) (hl:Hf l=some (.lst (ns.map V.int))) (h:mMaxKey F cds ns c s=some (d,s'))
  (k:∀n Hf1 H1,d=.int n→Gr G Hf H Hf1 H1→G.st s' H1→Q (.int n) H1):maxT0 X σ (fun _=>spK 1 G cvs F) l ns (.int c) H Q:=by
 cases ns with
 | nil=>
  obtain ⟨rfl,rfl⟩:=mret_some h
  exact ⟨SqL.of (e _ _ nl hl),k c Hf H rfl (.refl e) st⟩
 | cons n r=>
  obtain ⟨d1,s1,a1,a2⟩:=mbind_some (show mbind (F (.int n::cds)) (fun k=>match k with | .int kn=>mMaxGo F cds r n kn | _=>mfail) s=some (d,s') from h)
  refine ⟨SqL.of (e _ _ nl hl),fun base' cs=>⟨Hf,[.int n],cds,s,d1,s1,rfl,e,.one (Rep.int_iff.mpr rfl),rc,st,a1,fun v Hf1 H1 g1 st1 rv=>?_⟩⟩
  cases d1 with
  | int kn=>
   refine ⟨kn,Rep.int_iff.mp rv,?_⟩
   exact maxT_of nl r _ _ Hf1 H1 s1 _ d Q g1.fh (rc.ext g1.ff) st1 (g1.ff _ _ nl hl) a2 fun n Hf2 H2 en g2 st2=>k n Hf2 H2 en (g1.trans g2) st2
  | _=>cases a2
end
section
variable {X:Cx} {G:Gh} {P c:Addr} {q:Str} {kl:Nat} {frb:Bool} {e1:Expr} {f1:Rho→M D} {r1:Bool} {params:Arguments} {scope:Scope} {lpos ppos pos kpos:Pos} {XN N ps:List Str} {NS:List (Str×NameKind)} {cix:List Nat} {body:Expr} {fe:Rho→M D}
noncomputable def dMaxKey (F:List D→M D) (cix:List Nat) (i:Int) (f:Rho→M D):Rho→M D:=fun ρ=>mbind (f ρ) fun d=>mbind (mOf (capsD ρ cix)) fun cds=>match d with
 | .lst ds=>(match intsOf ds with | some ns=>if noClos cds=true then mMaxKey F cds ns i else mfail | none=>mfail)
 | _=>mfail
set_option maxHeartbeats 4000000 in
theorem pd_maxKey {i:Int} {j0:Nat} {ipos dpos:Pos} (hc:X.calm=true) (hg:Gl X "max") (hm:X.mg "max" = none) (hv:bootBuiltins "max" = some (.builtin "max")) (M:Mk0 X c P) (TG:TabG P q G) (hfn:∀x,X.fn x=true) (hr:Room (kl+2) X.A) (h1:PD X G r1 e1 f1)
  (hq:X.env.qual ++ "<lambda>" = q) (S:CloScope N ps scope) (B:CapS X XN NS N ps cix scope) (hps:ps.length=1)
  (hbind:∀(cl:List (Str×Addr)) (pm cd ct:Value) (us:List Value),us.length=ps.length→bindArgs (PySem.W.kla_fn "<lambda>" q params body scope cl pm cd ct) ⟨us,[]⟩=pure (ps.zip us))
  (hb:∀(base:Heap) (f c':Addr) (cl:List (Str×Addr)) (G:Gh) (A:Around) (outer:List Env) (s:Shared) (H:Hp) (E:XK),Room kl (A.deeper (PySem.W.envX q scope s.heap.objs.size f (.ref c') cl))→PD (cxC CX0 X.prog X.w X.K X.mg base N q scope f (.ref c') cl A outer s H E).nox G frb body fe)
  (hdef:defaultsOf params X.env=([],[]):=by rfl)
  (he:starEach [e1] X.env=(false,eval e1 X.env)::starEach [] X.env:=by rfl)
  (hall:(backToKw pos (keywordEach [⟨some "key",.Lambda params body scope lpos,kpos⟩,⟨some "default",.Constant (.int i) j0 ipos,dpos⟩] X.env)).all (·.1.isSome)=true:=by rfl) (hks:(backToKw pos (keywordEach [⟨some "key",.Lambda params body scope lpos,kpos⟩,⟨some "default",.Constant (.int i) j0 ipos,dpos⟩] X.env)).filterMap (·.1)=[("key" : Str),("default" : Str)]:=by rfl)
  (hpl:((backTo pos (starEach [e1] X.env)).any (·.1)||(backToKw pos (keywordEach [⟨some "key",.Lambda params body scope lpos,kpos⟩,⟨some "default",.Constant (.int i) j0 ipos,dpos⟩] X.env)).any (·.1.isNone))=false:=by rfl) :
  PD X G false (.Call (.Name "max" ppos) [e1] [⟨some "key",.Lambda params body scope lpos,kpos⟩,⟨some "default",.Constant (.int i) j0 ipos,dpos⟩] pos) (dMaxKey (runE N.length fe) cix i f1):=by
 obtain ⟨t1,p1,q1⟩:=h1.drop
 refine ⟨_,pe_callKS2 (call_maxKey hc) hg hm hv p1 (pe_lam M hq B.hfree hdef) pe_int (by decide) (by decide) he hall hks hpl,fun σ Hf H ρ s d s' Q x1 x2 x3 x4 k=>?_⟩
 obtain ⟨d1,s1,a1,a2⟩:=mbind_some x4
 obtain ⟨cds,s2,b3,a4⟩:=mbind_some a2
 obtain ⟨a3,rfl⟩:=mOf_some b3
 refine q1 σ Hf H ρ s d1 _ _ x1 x2 x3 a1 fun v1 Hf1 H1 g1 st1 rv1=>?_
 cases d1 with
 | lst ds=>
  have a4:(match intsOf ds with | some ns=>if noClos cds=true then mMaxKey (runE N.length fe) cds ns i else mfail | none=>mfail) s2=some (d,s'):=a4
  cases hi:intsOf ds with
  | none=>rw [hi] at a4;cases a4
  | some ns=>
   rw [hi] at a4
   obtain ⟨hn1,a5⟩:=mif_some a4
   obtain ⟨p0,vs,rfl,n0,h0,rl⟩:=Rep.lst_iff.mp rv1
   rw [intsOf_eq hi] at rl
   rw [RepL.ints rl] at h0
   obtain ⟨tp,hP,htr,hhit⟩:=TG.get _ H1 st1
   refine ⟨tp,hP,htr,fun cv h=>let ⟨c',z1,z2,_⟩:=hhit lpos cv h;⟨c',z1,z2⟩,fun p c' fd Hm ⟨cl,pm,ctv,co,efd⟩ sl hp=>?_⟩
   subst efd
   obtain ⟨stm,hc',ex⟩:=slot_st TG st1 hP sl
   have gr:=made_gr (o:=.ext (fnφ p (PySem.W.kla_fn "<lambda>" q params body scope cl pm (.ref c') ctv))) g1.fh ex hp
   have hcp:c'≠p:=fun z=>by rw [z,hp] at hc';cases hc'
   obtain ⟨cvs,l1,l2,l3⟩:=caps_rep (x2.ext g1.ff) a3
   have st2:(cloG G 0 p c' (PySem.W.kla_fn "<lambda>" q params body scope cl pm (.ref c') ctv) q cvs).st s2 (upd Hm p (.ext (fnφ p (PySem.W.kla_fn "<lambda>" q params body scope cl pm (.ref c') ctv)))):=⟨Gh.grow stm hp,upd_same,by rw [upd_ne hcp];exact hc'⟩
   show ∃(p' f':Addr) (y:V) (ns:List Int) (sp:Heap→Sp) (k:Nat),_
   refine ⟨p0,p,.int i,ns,fun _=>spK 1 (cloG G 0 p c' (PySem.W.kla_fn "<lambda>" q params body scope cl pm (.ref c') ctv) q cvs) cvs (runE N.length fe),kl+1,rfl,rfl,SqL.of (gr.fh _ _ n0 h0),⟨hfn,_,ps,.all (hbind cl pm (.ref c') ctv),fun base' cs=>?_⟩,hr,?_⟩
   ·have:=fnKE S (B.cloAt cs co l1 l3) (fun s H st=>st.2) (G:=cloG G 0 p c' (PySem.W.kla_fn "<lambda>" q params body scope cl pm (.ref c') ctv) q cvs) fun A outer s H E hr=>hb base' p c' cl _ A outer s H E hr
    rw [hps] at this
    exact this
   ·refine maxT0_of (G:=cloG G 0 p c' (PySem.W.kla_fn "<lambda>" q params body scope cl pm (.ref c') ctv) q cvs) n0 (Ext.re (G:=G) rfl gr.fh) (toCL hn1 l2) st2 h0 a5 fun n Hf2 H2 en g2 st3=>?_
    subst en
    have g2':Gr G Hf1 _ Hf2 H2:=grC g2
    exact k _ Hf2 H2 ((g1.trans gr).trans g2') st3.1 (Rep.int_iff.mpr rfl) (fun z=>by cases z)
 | _=>cases a4
end
end TF
namespace L2
open PySem PySem.Spec PyProof.Rows
noncomputable def blk2 (x0:Str) (X:Cx) (pins:List (Addr×Obj)) (N':List Str) (scope:Scope) (cl:List (Str×Addr)) (C:Addr) (s:Shared) (H:Hp) (fp:List Addr):Cx where
 prog:=X.prog
 w:=X.w
 K:=X.K
 mg:=X.mg
 base:=X.base
 A:=X.A
 N:=N'
 s₀:=s
 H₀:=H
 env:=compEnvC scope cl C X.env
 outer:=X.stack
 stack:=X.stack
 ex:=fp
 fn:=fun x=>x==x0
 calm:=X.calm
 pn:=X.pn++pins
 xe:=fun _ _=>False
structure BlkOk2 (x0:Str) (X:Cx) (N':List Str) (src:List (Option Nat)) (scope:Scope) (cl:List (Str×Addr)):Prop where
 clos:closureFor scope X.env=pure cl
 own:∀y∈scope.names,y.2=.cell→y.1=x0
 has0:(x0,NameKind.cell)∈scope.names
 kind:scope.kind=.function
 names:∀y∈scope.names,y.2=.local→scope.names.lookup y.1=some .local
 len:src.length=N'.length
 cells:∀x c,cl.lookup x=some c→X.env.cells.lookup x=some c
 has:∀x,x≠x0→((relabel scope X.env).names.lookup x=some .cell∨(relabel scope X.env).names.lookup x=some .free)→∃c,cl.lookup x=some c
 from_:∀(i j:Nat) x,src[i]?=some (some j)→N'[i]?=some x→x≠x0∧X.N[j]?=some x∧(X.env.kindOf x=some .cell∨X.env.kindOf x=some .free)∧((relabel scope X.env).names.lookup x=some .cell∨(relabel scope X.env).names.lookup x=some .free)
theorem cf_ne {x0 x:Str} (hx:x≠x0):∀(names:List (Str×NameKind)) (n:Nat) (acc:List (Str×Addr)),(∀y∈names,y.2=.cell→y.1=x0)→(cellsFrom n names acc).lookup x=acc.lookup x
 | [],n,acc,_=>rfl
 | (m,k)::r,n,acc,h=>by
  unfold cellsFrom
  split
  ·rename_i hk
   have e:=h (m,k) List.mem_cons_self (by simpa using hk)
   rw [cf_ne hx r _ _ fun y hy=>h y (List.mem_cons_of_mem _ hy)]
   have:(x==m)=false:=by
    have:m=x0:=e
    rw [this];simpa using hx
   simp only [List.lookup_cons,this]
  ·exact cf_ne hx r n acc fun y hy=>h y (List.mem_cons_of_mem _ hy)
theorem cf_own {x0:Str} {lo:Nat}:∀(names:List (Str×NameKind)) (h:Heap) (acc:List (Str×Addr)),(∀y∈names,y.2=.cell→y.1=x0)→lo≤h.objs.size→((∃c,acc.lookup x0=some c∧lo≤c∧h.IsCell c none)∨(x0,NameKind.cell)∈names)→
  ∃c,(cellsFrom h.objs.size names acc).lookup x0=some c∧lo≤c∧(pushCells h names).IsCell c none
 | [],h,acc,_,_,q=>by
  rcases q with q | q
  ·exact q
  ·simp at q
 | (m,k)::r,h,acc,hn,hlo,q=>by
  unfold cellsFrom pushCells
  have hn':∀y∈r,y.2=.cell→y.1=x0:=fun y hy=>hn y (List.mem_cons_of_mem _ hy)
  by_cases hk:(k==NameKind.cell)=true
  ·rw [if_pos hk,if_pos hk]
   have e:m=x0:=hn (m,k) List.mem_cons_self (by simpa using hk)
   have:=cf_own (x0:=x0) (lo:=lo) r (h.push { cls:=.type "cell",data:=.cell none }) ((m,h.objs.size)::acc) hn' (by rw [Heap.size_push];omega) (.inl ⟨h.objs.size,by simp [List.lookup_cons,e],hlo,_,Heap.get?_push_size _ rfl,rfl⟩)
   rw [Heap.size_push] at this
   exact this
  ·rw [if_neg hk,if_neg hk]
   refine cf_own r h acc hn' hlo ?_
   rcases q with q | q
   ·exact .inl q
   ·rcases List.mem_cons.mp q with e | q
    ·cases e;exact absurd rfl hk
    ·exact .inr q
theorem newEnv_own {M:Model} {A:Around} {E:Value→Shared→Prop} {s:Shared} {scope:Scope} {globals:Addr} {closure:List (Str×Addr)} {qual:Str} {func:Option Addr} {code:Value} {outer:Env} {builtins:Addr} {Q:Env→Shared→Prop}
  (hQ:Q (newEnv scope s.heap.objs.size globals (cellsFrom (s.heap.objs.size+1) scope.names closure) qual func code (some outer) builtins) { s with heap:=pushCells (s.heap.push { cls:=.type "dict",data:=.dict #[] }) scope.names }) :
  wpAny M A (newFunctionEnv scope globals closure [] qual func code (some outer) builtins) Q E s:=by
 simp only [newFunctionEnv,Option.isSome_some,if_true]
 refine wpAny_bind (wpAny_alloc ?_)
 refine wpAny_bind (wpAny_layCells _ (fun name kind cells=>by cases hkc:kind==NameKind.cell <;> simp [hkc]) _ _ _ _ ?_)
 rw [show ({ s with heap:=s.heap.push { cls:=.type "dict",data:=.dict #[] } }:Shared).heap.objs.size=s.heap.objs.size+1 from Heap.size_push ..]
 rw [List.forIn_nil]
 exact wpAny_bind (wpAny_pure (wpAny_pure hQ))
theorem blk_inv2 {x0:Str} {X:Cx} {pins:List (Addr×Obj)} {σ:St} {H:Hp} {s s1:Shared} {N':List Str} {src:List (Option Nat)} {scope:Scope} {cl cl2:List (Str×Addr)} {C:Addr} {fp:List Addr} {m:Str→Option Value}
  (B:BlkOk2 x0 X N' src scope cl) (hc2:∀x c,cl2.lookup x=some c→(x≠x0∧cl.lookup x=some c)∨(x=x0∧C<c∧∃v,s1.heap.IsCell c v)) (hc3:∃c,cl2.lookup x0=some c) (hc4:∀x,x≠x0→cl2.lookup x=cl.lookup x) (I:Inv X pins σ H s) (hf:∀b∈fp,FpOk X pins H b) (hC:s.heap.objs.size≤C) (hCf:∀b∈fp,b<C)
  (hs:s1.os=s.os) (hg:s1.gens=s.gens) (hk:∀b o,s.heap.get? b=some o→s1.heap.get? b=some o) (hn:s1.heap.Ns C m):Inv (blk2 x0 X pins N' scope cl2 C s H fp) [] (blkSt src σ) H s1:=by
 have noC:∀b o,s.heap.get? b=some o→b≠C:=fun b o e=>Nat.ne_of_lt (Nat.lt_of_lt_of_le (Heap.lt_size e) hC)
 have hold:∀x c,X.env.cells.lookup x=some c→c<s.heap.objs.size:=fun x c e=>by
  obtain ⟨v,o,ho,_⟩:=I.cell x c e
  exact Heap.lt_size ho
 have hinj:∀x y c,cl2.lookup x=some c→cl2.lookup y=some c→x=y:=fun x y c h1 h2=>by
  rcases hc2 x c h1 with ⟨_,a1⟩ | ⟨a1,a2,_⟩
  ·rcases hc2 y c h2 with ⟨_,b1⟩ | ⟨b1,b2,_⟩
   ·exact I.ok.inj x y c (B.cells _ _ a1) (B.cells _ _ b1)
   ·exact absurd (Nat.lt_trans (Nat.lt_of_le_of_lt hC b2) (hold x c (B.cells _ _ a1))) (Nat.lt_irrefl _)
  ·rcases hc2 y c h2 with ⟨_,b1⟩ | ⟨b1,b2,_⟩
   ·exact absurd (Nat.lt_trans (Nat.lt_of_le_of_lt hC a2) (hold y c (B.cells _ _ b1))) (Nat.lt_irrefl _)
   ·rw [a1,b1]
 have hhas:∀x,((relabel scope X.env).names.lookup x=some .cell∨(relabel scope X.env).names.lookup x=some .free)→∃c,cl2.lookup x=some c:=fun x hx=>by
  by_cases e:x=x0
  ·rw [e];exact hc3
  ·obtain ⟨c,hcc⟩:=B.has x e hx
   exact ⟨c,by rw [hc4 x e];exact hcc⟩
 have hcab:∀x c,(x==x0)=true→cl2.lookup x=some c→s.heap.objs.size≤c:=fun x c h1 h2=>by
  rcases hc2 x c h2 with ⟨a1,_⟩ | ⟨_,a2,_⟩
  ·exact absurd (by simpa using h1) a1
  ·exact Nat.le_of_lt (Nat.lt_of_le_of_lt hC a2)
 refine ⟨⟨I.ok.mod,B.kind,I.ok.glob,I.ok.blt,hC,hinj,hhas,hcab,I.ok.hd,I.ok.frames,.inl rfl,fun b hb=>?_,I.bs,Nat.le_trans I.ok.bsz I.sz,fun b o e hb=>?_,fun b hb z=>?_,I.stack,I.stkFree⟩,
  hs,by rw [hg];exact I.bare,Un.kept hk,⟨m,hn,fun i x v h1 h2 h3=>?_⟩,fun x c e=>?_,I.hok.fresh hC,fun x c e=>(hc2 x c e).elim (fun z=>I.freeC x c (B.cells _ _ z.2)) (fun z=>I.hok.fresh (Nat.le_of_lt (Nat.lt_of_le_of_lt hC z.2.1))),fun p hp=>?_,I.hok.kept hk,?_⟩
 ·obtain ⟨f0,f1,f2,f3,f4,f5⟩:=hf b hb
  exact ⟨Nat.ne_of_lt (hCf b hb),fun x c e=>(hc2 x c e).elim (fun z=>f4 x c (B.cells _ _ z.2)) (fun z=>Ne.symm (Nat.ne_of_lt (Nat.lt_trans (hCf b hb) z.2.1)))⟩
 ·obtain ⟨f0,f1,f2,f3,f4,f5⟩:=hf b hb
  rcases f3 with z | z
  ·exact I.ok.noex b o e z
  ·exact absurd (Nat.lt_of_lt_of_le (Heap.lt_size (I.ok.bs b o e).1) z) (Nat.lt_irrefl _)
 ·obtain ⟨f0,f1,f2,f3,f4,f5⟩:=hf b hb
  rcases List.mem_cons.mp (I.stkSub b z) with e | e
  ·exact f1 e
  ·exact f2 e
 ·have h2':(blkSt src σ)[i]?=some (some v):=h2
  unfold blkSt at h2'
  rw [List.getElem?_map] at h2'
  cases e:src[i]? with
  | none=>rw [e] at h2';cases h2'
  | some o=>
   rw [e] at h2'
   cases o with
   | none=>simp at h2'
   | some j=>
    obtain ⟨q0,q1,q2,q3⟩:=B.from_ i j x e h1
    have hj:σ[j]?=some (some v):=by
     simp only [Option.map_some,Option.bind_some,Option.some.injEq] at h2'
     cases e2:σ[j]? with
     | none=>rw [e2] at h2';cases h2'
     | some o2=>rw [e2] at h2';simp at h2';rw [h2']
    obtain ⟨mm,hnn,hl⟩:=I.loc
    have vis:Vis X.env.scope x:=by
     rcases q2 with z | z
     ·exact .inr (.inl z)
     ·exact .inr (.inr z)
    obtain ⟨u,r,l⟩:=hl j x v q1 hj vis
    refine ⟨u,r,?_⟩
    rcases l with ⟨k,_⟩ | ⟨_,c,ec,z⟩
    ·rcases q2 with z | z <;> rw [z] at k <;> cases k
    ·obtain ⟨c',ec'⟩:=B.has x q0 q3
     have ee:c'=c:=by
      have:=B.cells _ _ ec'
      rw [ec] at this
      exact (Option.some.inj this).symm
     subst ee
     obtain ⟨o,ho,hd⟩:=z
     exact .inr ⟨q3,c',by show cl2.lookup x=_;rw [hc4 x q0];exact ec',o,hk _ _ ho,hd⟩
 ·rcases hc2 x c e with ⟨_,z⟩ | ⟨_,_,z⟩
  ·obtain ⟨v,o,ho,hd⟩:=I.cell x c (B.cells _ _ z)
   exact ⟨v,o,hk _ _ ho,hd⟩
  ·exact z
 ·have hp':p∈X.pn++pins:=by simpa [blk2] using hp
  obtain ⟨e,n,ne,nf,d⟩:=I.pin p hp'
  refine ⟨hk _ _ e,n,noC _ _ e,fun z=>?_,d⟩
  rcases List.mem_cons.mp (I.stkSub p.1 z) with q | q
  ·exact ne q
  ·exact nf q
 ·show (blkSt src σ).length=N'.length
  unfold blkSt
  rw [List.length_map,B.len]
theorem comp_core2 {x0:Str} {X:Cx} {elt tg iter:Expr} {ifs:List Expr} {scope:Scope} {pos:Pos} {N':List Str} {src:List (Option Nat)} {cl:List (Str×Addr)} {g:TG} {tt:TT} {te:TE}
  {pins:List (Addr×Obj)} {σ:St} {H2:Hp} {s₂:Shared} {it:Addr} {fp:List Addr} {tn:Nat→Heap→Prop} {J:It} {Qp:Addr→Hp→Prop} {RR:Value→Addr→Result→Shared→Prop} {E:Value→Shared→Prop}
  (hc:X.calm=true) (B:BlkOk2 x0 X N' src scope cl)
  (hg:∀pins C s H fp,PG (blk2 x0 X pins N' scope (cellsFrom (C+1) scope.names cl) C s H fp) tg g) (ht:∀pins C s H fp,PIfs (blk2 x0 X pins N' scope (cellsFrom (C+1) scope.names cl) C s H fp) ifs tt) (he:∀pins C s H fp,PE (blk2 x0 X pins N' scope (cellsFrom (C+1) scope.names cl) C s H fp) elt te)
  (I2:Inv X pins σ H2 s₂) (T:Turn X.prog X.w X.K tg J fp it tn) (st2:tn 0 s₂.heap) (f2:∀b∈fp,FpOk X pins H2 b)
  (q2:∀p,H2 p=none→∃W:Nat→Nat→St→Hp→Prop,(∃m,W 0 m (blkSt src σ) (upd H2 p (.lst [])))∧∀i m σ2 H2,W i m σ2 H2→
   (J.stop i H2∧Qp p H2)∨(J.go i H2∧∀x H3,J.yld i H2 x H3→g x σ2 H3 fun σ4 H4=>tt σ4 H4 fun ok H5=>
    if ok=true then te σ4 H5 fun y H6=>∃xs,H6 p=some (.lst xs)∧xs.length<sizeLine∧∃m',m'<m∧W (i+1) m' σ4 (upd H6 p (.lst (xs ++ [y])))
    else ∃m',m'<m∧W (i+1) m' σ4 H5))
  (hfin:∀p C s6 H5 mm,Inv X pins σ H5 s6→s6.heap.Ns C mm→FpOk X pins H5 C→Qp p H5→RR (.ref p) C (.ok .next) s6) :
  wpAny (model X.prog X.w) X.A (newList []) (fun acc s₃=>wpAny (model X.prog X.w) X.A (newFunctionEnv scope X.env.globals cl [] X.env.qual none .none (some X.env)) (fun cenv s₄=>
   codeAny (model X.prog X.w) X.A (.compStart (.ListComp elt [⟨tg,iter,ifs,0⟩] scope pos) 0 (.ref it) acc { cenv with scope:=relabel scope X.env }) (RR acc cenv.locals) s₄) E s₃) E s₂:=by
 have fpold:∀b∈fp,b<s₂.heap.objs.size:=fun b hb=>by
  obtain ⟨o,e,_⟩:=T.obj _ _ st2 b hb
  exact Heap.lt_size e
 have q2:=q2 s₂.heap.objs.size (I2.hok.fresh (Nat.le_refl _))
 obtain ⟨W,⟨m0,w0⟩,turn⟩:=q2
 -- the new list
 refine wpAny_newObj_type ?_
 have I3:Inv X pins σ (upd H2 s₂.heap.objs.size (.lst [])) { s₂ with heap:=s₂.heap.push { cls:=.type "list",dict:=none,data:=.seq ([]:List Value).toArray } }:=
  I2.lnew (t':=s₂.toks) (ys:=[]) .nil (Nat.zero_le _)
 have st3:tn 0 (s₂.heap.push { cls:=.type "list",dict:=none,data:=.seq ([]:List Value).toArray }):=T.keep _ _ _ st2 fun b _ o e=>Heap.get?_push_of_some _ e
 have f3:∀b∈fp,FpOk X pins (upd H2 s₂.heap.objs.size (.lst [])) b:=fun b hb=>by
  obtain ⟨f0,f1⟩:=f2 b hb
  exact ⟨by rw [upd_ne (Nat.ne_of_lt (fpold b hb))];exact f0,f1⟩
 generalize hs3:({ s₂ with heap:=s₂.heap.push { cls:=.type "list",dict:=none,data:=.seq ([]:List Value).toArray } }:Shared)=s₃ at I3
 have st3':tn 0 s₃.heap:=by rw [←hs3];exact st3
 have lt3:s₂.heap.objs.size<s₃.heap.objs.size:=by rw [←hs3];show _<(Heap.push _ _).objs.size;rw [Heap.size_push];exact Nat.lt_succ_self _
 refine newEnv_own ?_
 generalize hh1:pushCells (s₃.heap.push { cls:=.type "dict",data:=.dict #[] }) scope.names=h₁
 have kp1:∀b o,s₃.heap.get? b=some o→h₁.get? b=some o:=fun b o e=>by rw [←hh1];exact pushCells_keeps _ _ b o (Heap.get?_push_of_some _ e)
 have hns₁:h₁.Ns s₃.heap.objs.size (fun _=>none):=by rw [←hh1];exact (Heap.Ns.new s₃.heap (.type "dict")).keeps (pushCells_keeps _ _)
 obtain ⟨c0,hc0,lo0,is0⟩:=cf_own (x0:=x0) (lo:=s₃.heap.objs.size+1) scope.names (s₃.heap.push { cls:=.type "dict",data:=.dict #[] }) cl B.own (by rw [Heap.size_push];exact Nat.le_refl _) (.inr B.has0)
 rw [Heap.size_push] at hc0
 rw [hh1] at is0
 have hc4:∀x,x≠x0→(cellsFrom (s₃.heap.objs.size+1) scope.names cl).lookup x=cl.lookup x:=fun x hx=>cf_ne hx _ _ _ B.own
 have hc2:∀x c,(cellsFrom (s₃.heap.objs.size+1) scope.names cl).lookup x=some c→(x≠x0∧cl.lookup x=some c)∨(x=x0∧s₃.heap.objs.size<c∧∃v,h₁.IsCell c v):=fun x c e=>by
  by_cases z:x=x0
  ·subst z
   rw [hc0] at e
   cases e
   exact .inr ⟨rfl,lo0,none,is0⟩
  ·exact .inl ⟨z,by rw [←hc4 x z];exact e⟩
 have I4:=blk_inv2 (s1:={ s₃ with heap:=h₁ }) (cl2:=cellsFrom (s₃.heap.objs.size+1) scope.names cl) (C:=s₃.heap.objs.size) B hc2 ⟨c0,hc0⟩ hc4 I3 f3 (Nat.le_refl _) (fun b hb=>Nat.lt_trans (fpold b hb) lt3) rfl rfl kp1 hns₁
 have st4:tn 0 h₁:=T.keep _ _ _ st3' fun b _ o e=>kp1 b o e
 show codeAny (model X.prog X.w) X.A (.compStart (.ListComp elt [⟨tg,iter,ifs,0⟩] scope pos) 0 (.ref it) (.ref s₂.heap.objs.size) (compEnvC scope (cellsFrom (s₃.heap.objs.size+1) scope.names cl) s₃.heap.objs.size X.env)) (RR (.ref s₂.heap.objs.size) s₃.heap.objs.size) _
 generalize hs4:({ s₃ with heap:=h₁ }:Shared)=s₄ at I4
 have st4':tn 0 s₄.heap:=by rw [←hs4];exact st4
 have blkX:∀{b:Addr} {H':Hp},b∈fp→H' b=none→FpOk (blk2 x0 X pins N' scope (cellsFrom (s₃.heap.objs.size+1) scope.names cl) s₃.heap.objs.size s₃ (upd H2 s₂.heap.objs.size (.lst [])) fp) [] H' b:=fun {b H'} hb hn=>by
  obtain ⟨f0,f1,f2',f3',f4',f5'⟩:=f3 b hb
  refine ⟨hn,Nat.ne_of_lt (Nat.lt_trans (fpold b hb) lt3),fun z=>?_,.inl hb,fun x c e=>(hc2 x c e).elim (fun z=>f4' x c (B.cells _ _ z.2)) (fun z=>Ne.symm (Nat.ne_of_lt (Nat.lt_trans (Nat.lt_trans (fpold b hb) lt3) z.2.1))),fun p hp=>?_⟩
  ·rcases List.mem_cons.mp (I3.stkSub b z) with e | e
   ·exact f1 e
   ·exact f2' e
  ·exact f5' p (by simpa [blk2] using hp)
 have loop:codeAny (model X.prog X.w) X.A (.compLoop (.ListComp elt [⟨tg,iter,ifs,0⟩] scope pos) 0 (.ref it) (.ref s₂.heap.objs.size) (compEnvC scope (cellsFrom (s₃.heap.objs.size+1) scope.names cl) s₃.heap.objs.size X.env)) (RR (.ref s₂.heap.objs.size) s₃.heap.objs.size) s₄:=by
  refine compLoop_go (fun n s'=>∃i σ' H',Inv (blk2 x0 X pins N' scope (cellsFrom (s₃.heap.objs.size+1) scope.names cl) s₃.heap.objs.size s₃ (upd H2 s₂.heap.objs.size (.lst [])) fp) [] σ' H' s'∧tn i s'.heap∧(∀b∈fp,H' b=none)∧W i n σ' H') ?_ m0 ⟨0,_,_,I4,st4',fun b hb=>(f3 b hb).1,w0⟩
  rintro n s5 ⟨i,σ5,H5,I5,st5,fr5,w5⟩
  rcases turn i n σ5 H5 w5 with ⟨stop,qn⟩ | ⟨go,step⟩
  ·refine wpAny_mono (T.done (blk2 x0 X pins N' scope (cellsFrom (s₃.heap.objs.size+1) scope.names cl) s₃.heap.objs.size s₃ (upd H2 s₂.heap.objs.size (.lst [])) fp) rfl rfl rfl hc i [] s5 σ5 H5 (fun _ _=>False) I5 (fun b hb=>blkX hb (fr5 b hb)) st5 stop) (fun r s6 ⟨hr,I6⟩=>?_) fun _ _ f=>f.elim
   subst hr
   obtain ⟨mm,hnn,_⟩:=id I6.loc
   have nC:H5 s₃.heap.objs.size=none:=I6.free
   have J1:Inv X pins σ H5 s6:=by
    refine I3.call' (ch:=fp) I6.os I6.base I6.hok I6.bare fun b hb=>?_
    obtain ⟨f0,f1,f2',f3',f4',f5'⟩:=f3 b hb
    exact ⟨f3',f1,f4',f5'⟩
   exact hfin _ _ s6 H5 mm J1 hnn (I3.fpOk (Nat.le_refl _) nC) qn
  ·refine wpAny_mono (T.item (blk2 x0 X pins N' scope (cellsFrom (s₃.heap.objs.size+1) scope.names cl) s₃.heap.objs.size s₃ (upd H2 s₂.heap.objs.size (.lst [])) fp) rfl rfl rfl hc i [] s5 σ5 H5 (fun _ _=>False) I5 (fun b hb=>blkX hb (fr5 b hb)) st5 go) (fun r s6 ⟨u,hr,h6⟩=>?_) fun _ _ f=>f.elim
   subst hr
   refine wpAny_mono h6 (fun _ s7 ⟨x,H7,I7,r7,y7,st7,fr7⟩=>?_) fun _ _ f=>f.elim
   have I7':=I7.pinned (fun b hb=>blkX hb (fr7 b hb)) (T.obj _ _ st7)
   refine wpAny_mono (hg _ _ _ _ _ _ s7 σ5 H7 x u _ I7' r7 (step x H7 y7)) (fun _ s8 ⟨σ8,H8,I8,q8⟩=>?_) fun _ _ f=>f.elim
   refine wpAny_mono (ht _ _ _ _ _ _ s8 σ8 H8 _ I8 q8) (fun ok s9 ⟨H9,I9,q9⟩=>?_) fun _ _ f=>f.elim
   have again:∀{σ7:St} {H7:Hp} {sz:Shared},Inv (blk2 x0 X pins N' scope (cellsFrom (s₃.heap.objs.size+1) scope.names cl) s₃.heap.objs.size s₃ (upd H2 s₂.heap.objs.size (.lst [])) fp) ([]++pinsAt fp s7.heap) σ7 H7 sz→(∃m',m'<n∧W (i+1) m' σ7 H7)→
     ∃m,m<n∧∃i σ' H',Inv (blk2 x0 X pins N' scope (cellsFrom (s₃.heap.objs.size+1) scope.names cl) s₃.heap.objs.size s₃ (upd H2 s₂.heap.objs.size (.lst [])) fp) [] σ' H' sz∧tn i sz.heap∧(∀b∈fp,H' b=none)∧W i m σ' H':=fun {σ7 H7 sz} Iz ⟨m',hm,wz⟩=>by
    refine ⟨m',hm,i+1,σ7,H7,Iz.unpinned,T.keep _ _ _ st7 fun b hb o e=>(Iz.pin (b,o) (List.mem_append_right _ (List.mem_append_right _ (mem_pinsAt hb e)))).1,fun b hb=>?_,wz⟩
    obtain ⟨o,e,d⟩:=T.obj _ _ st7 b hb
    exact (Iz.pin (b,o) (List.mem_append_right _ (List.mem_append_right _ (mem_pinsAt hb e)))).2.1
   cases ok with
   | false=>
    show ∃m,m<n∧_
    exact again I9 (by simpa using q9)
   | true=>
    have q9':te σ8 H9 fun y H6=>∃xs,H6 s₂.heap.objs.size=some (.lst xs)∧xs.length<sizeLine∧∃m',m'<n∧W (i+1) m' σ8 (upd H6 s₂.heap.objs.size (.lst (xs ++ [y]))):=by simpa using q9
    show wpAny _ _ _ _ _ _
    refine wpAny_mono (he _ _ _ _ _ _ s9 σ8 H9 _ I9 q9') (fun y sA ⟨yv,HA,IA,rA,xs,eA,zA,mA⟩=>?_) fun _ _ f=>f.elim
    refine wpAny_mono (mt_append (X:=blk2 x0 X pins N' scope (cellsFrom (s₃.heap.objs.size+1) scope.names cl) s₃.heap.objs.size s₃ (upd H2 s₂.heap.objs.size (.lst [])) fp) _ sA σ8 HA (.ref s₂.heap.objs.size) [yv] (.ref s₂.heap.objs.size) [y] (fun _ HB=>HB=upd HA s₂.heap.objs.size (.lst (xs ++ [yv]))) IA rfl (.cons rA .nil) ⟨_,xs,yv,rfl,rfl,eA,zA,rfl⟩) (fun _ sB ⟨_,HB,IB,_,eB⟩=>?_) fun _ _ f=>f.elim
    subst eB
    exact again IB mA
 exact codeAny_compStart_list loop (T.self _ 0 _ _ _ st4' loop)
theorem pe_comp2 {x0:Str} {X:Cx} {elt tg iter:Expr} {ifs:List Expr} {scope:Scope} {pos:Pos} {N':List Str} {src:List (Option Nat)} {cl:List (Str×Addr)} {wi:TI} {g:TG} {tt:TT} {te:TE}
  (hc:X.calm=true) (B:BlkOk2 x0 X N' src scope cl) (hi:PI X tg iter wi)
  (hg:∀pins C s H fp,PG (blk2 x0 X pins N' scope (cellsFrom (C+1) scope.names cl) C s H fp) tg g) (ht:∀pins C s H fp,PIfs (blk2 x0 X pins N' scope (cellsFrom (C+1) scope.names cl) C s H fp) ifs tt) (he:∀pins C s H fp,PE (blk2 x0 X pins N' scope (cellsFrom (C+1) scope.names cl) C s H fp) elt te)
  (hs:∀x,foldedSetIterable iter X.env x=pure x:=by intro _;rfl):PE X (.ListComp elt [⟨tg,iter,ifs,0⟩] scope pos) (tComp src wi g tt te):=by
 intro pins s σ H Q I h
 rw [eval_ListComp]
 refine wpAny_comprehension_free (use:=none) rfl hs B.clos B.kind B.names (wpAny_mono (hi pins s σ H _ I h) (fun xv s₁ h₁=>wpAny_mono h₁ (fun it s₂ h₂=>?_) fun _ _ e=>e) fun _ _ e=>e)
 obtain ⟨it,fp,tn,J,H2,e,I2,T,st2,f2,q2⟩:=h₂
 subst e
 refine comp_core2 (RR:=fun acc C=>compPost (model X.prog X.w) X.A X.xe none (EP X pins σ Q) acc C) (Qp:=fun p H=>Q (.ref p) H) hc B hg ht he I2 T st2 f2 q2 ?_
 intro p C s6 H5 mm J1 hnn fC qn
 refine ⟨mm,hnn,fun h' sb=>?_⟩
 obtain ⟨c0,c1,c2,c3,c4,c5⟩:=fC
 exact ⟨.ref p,H5,J1.turned (t':=s6.toks) (it:=C) (fun b o hb e=>(sb.2 b hb).trans e) c0 c1 c3 c4 c5,rfl,qn⟩
end L2
namespace TF
open PySem PySem.Spec PyProof.Rows L2
section
variable {X:Cx} {G:Gh}
theorem va (i:Nat) {x:Str} {pos:Pos} (hN:X.N[i]?=some x:=by rfl) (hv:Vis X.env.scope x:=by first | exact Or.inl rfl | exact Or.inr (Or.inl rfl) | exact Or.inr (Or.inr rfl)) (hd:(x==("__debug__" : Str))=false:=by decide) (hcd:(x==("__classdict__" : Str))=false:=by decide):PD X G false (.Name x pos) (dVar i):=pd_var i (pv i hN hv hd hcd)
theorem bk (XN:List Str) (NS:List (Str×NameKind)) (N':List Str) (src:List (Option Nat)) {scope:Scope} (a:X.N=XN:=by rfl) (b:X.env.scope.names=NS:=by rfl) (c:∀y∈scope.names,y.2≠.cell:=by decide +kernel) (d:scope.kind=.function:=by rfl) (e:∀y∈scope.names,y.2=.local→scope.names.lookup y.1=some .local:=by decide +kernel) (f:src.length=N'.length:=by rfl) (g:∀y∈scope.names,y.2=.free→NS.lookup y.1=some .cell∨NS.lookup y.1=some .free:=by decide +kernel)
  (h:(src.zip N').all (fun p=>match p.1 with | some j=>decide (XN[j]?=some p.2)&&(decide (NS.lookup p.2=some .cell)||decide (NS.lookup p.2=some .free))&&decide (scope.names.lookup p.2=some .free) | none=>true)=true:=by decide +kernel):BlkS X XN NS N' src scope:=⟨a,b,c,d,e,f,g,h⟩
theorem fsc {N P:List Str} {sc:Scope} (a:sc.kind=.function:=by rfl) (b:sc.isCoroutine=false:=by rfl) (c:sc.isGenerator=false:=by rfl) (d:N.Nodup:=by decide +kernel) (e:N.take P.length=P:=by rfl) (f:∀x∈P,sc.names.lookup x=some .local∨sc.names.lookup x=some .cell:=by decide +kernel) (g:∀y∈sc.names,y.2≠.free:=by decide +kernel):FnScope N P sc:=⟨a,b,c,d,e,f,g⟩
end
section
variable {X:Cx} {G:Gh} {elt tg iter:Expr} {ifs:List Expr} {scope:Scope} {pos pos' spos:Pos} {XN:List Str} {NS:List (Str×NameKind)} {N':List Str} {src:List (Option Nat)} {fi:Rho→M (List D)} {τ:D→Rho→Option Rho} {ft:Rho→M Bool} {fe:Rho→M D} {r1:Bool} {i:Nat} {x:Str}
theorem pgn {cl:_} {pins:_} {C:_} {s:_} {H:_} {fp:_} {x:Str} {pos:Pos} {ok:Nat→Prop} (nd:N'.Nodup:=by decide +kernel) (hi:N'[i]?=some x:=by rfl) (hx:Loc (blk X pins N' scope cl C s H fp).env.scope x:=by exact Or.inl rfl) (oi:ok i:=by rfl) (hf:(blk X pins N' scope cl C s H fp).fn x=true∨(blk X pins N' scope cl C s H fp).env.scope.names.lookup x=some .local:=by first | exact .inl rfl | exact .inr rfl | assumption):PDG (blk X pins N' scope cl C s H fp) G (.Name x pos) ok (gOne i):=pdg_name nd hi hx oi hf
theorem pd_cS (B:BlkS X XN NS N' src scope) (hi:PDI X G tg iter fi)
  (hg:∀{cl pins C s H fp},PDG (blk X pins N' scope cl C s H fp) G tg (fun i=>src[i]?=some none) τ) (ht:∀{cl pins C s H fp},PIfs (blk X pins N' scope cl C s H fp) ifs (tOfT G ft)) (he:∀{cl pins C s H fp},PD (blk X pins N' scope cl C s H fp) G r1 elt fe)
  (hc:X.calm=true:=by rfl) (hs:∀x,foldedSetIterable iter X.env x=pure x:=by intro _;rfl):PD X G true (.ListComp elt [⟨tg,iter,ifs,0⟩] scope pos) (dComp src fi τ ft fe):=pd_compS hc B hi (fun _ _ _ _ _ _=>hg) (fun _ _ _ _ _ _=>ht) (fun _ _ _ _ _ _=>he) hs
end
theorem pcal {X:Cx} {G:Gh} {k:Nat} {x:Str} {n:Nat} {fr:Bool} {GG:Gh→Prop} {F:List D→M D} {p pos:Pos} {e:Expr} {es:List Expr} {fs:Rho→M (List D)} (c:Cal X.prog X.w X.K X.mg X.base k x n fr GG F) (hG:GG G) (hr:Room k X.A)
  (ha:PDA X G (e::es) fs) (hg:Gl X x:=by rfl) (hal:∀ρ s ds s',fs ρ s=some (ds,s')→ds.length=(e::es).length:=by first | exact dCons_len dNil_len | exact dCons_len (dCons_len dNil_len) | exact dCons_len (dCons_len (dCons_len dNil_len)) | exact dCons_len (dCons_len (dCons_len (dCons_len dNil_len))) | exact dCons_len (dCons_len (dCons_len (dCons_len (dCons_len dNil_len)))) | exact dCons_len (dCons_len (dCons_len (dCons_len (dCons_len (dCons_len dNil_len)))))) (hlen:(e::es).length=n:=by rfl)
  (hdb:(x==("__debug__" : Str))=false:=by decide) (he:starEach (e::es) X.env=(false,eval e X.env)::starEach es X.env:=by rfl) (hpl:(backTo pos (starEach es X.env)).any (·.1)=false:=by rfl) :
  PD X G fr (.Call (.Name x p) (e::es) [] pos) (dFn F fs):=pd_cal c hG hr hg ha hal hlen hdb he hpl
section
variable {X:Cx} {G:Gh} {ob own own':List Nat} {fr:Bool}
theorem pcn {st:Stmt} {sts:List Stmt} {g1 g2:Rho→M Out} (h:PDS X G ob own [] fr st g1) (h2:PDSs X G ob [] own' fr sts g2):PDSs X G ob own own' fr (st::sts) (sSeq g1 g2):=pdss_cons h h2
theorem pnn (hs:∀k,k∈own'→k∈([]:List Nat):=by decide):PDSs X G ob [] own' fr [] sNext:=pdss_nil hs
theorem pfn {c:Expr} {a b:List Stmt} {pos:Pos} {fc:Rho→M Bool} {g1 g2:Rho→M Out} (hc:PDT X G c fc) (ha:PDSs X G ob own [] fr a g1) (hb:PDSs X G ob own [] fr b g2):PDS X G ob own [] fr (.If c a b pos) (sIf fc g1 g2):=pds_if hc ha hb
theorem pln {f:Rho→M (List D)} {p pos:Pos} {e:Expr} (hm:X.mg "len" = none) (ha:PDA X G [e] f) (hg:Gl X "len":=by rfl) (h1:starEach [e] X.env=(false,eval e X.env)::starEach [] X.env:=by rfl) (h2:(backTo pos (starEach [] X.env)).any (·.1)=false:=by rfl):PD X G true (.Call (.Name "len" p) [e] [] pos) (dCall dLen f):=pd_callB call_lenDD hg hm boot_len ha (he:=h1)
end
structure BlkS2 (x0:Str) (X:Cx) (XN:List Str) (NS:List (Str×NameKind)) (N':List Str) (src:List (Option Nat)) (scope:Scope):Prop where
 xn:X.N=XN
 ns:X.env.scope.names=NS
 own:∀y∈scope.names,y.2=.cell→y.1=x0
 has0:(x0,NameKind.cell)∈scope.names
 kind:scope.kind=.function
 names:∀y∈scope.names,y.2=.local→scope.names.lookup y.1=some .local
 len:src.length=N'.length
 free:∀y∈scope.names,y.2=.free→NS.lookup y.1=some .cell∨NS.lookup y.1=some .free
 from_:(src.zip N').all (fun p=>match p.1 with | some j=>decide (XN[j]?=some p.2)&&(decide (NS.lookup p.2=some .cell)||decide (NS.lookup p.2=some .free))&&decide (scope.names.lookup p.2=some .free)&&decide (p.2≠x0) | none=>true)=true
theorem lookup_relabel_back2 {x0:Str} {env:Env}:∀{names:List (Str×NameKind)} {x:Str} {k':NameKind},(∀y∈names,y.2=.cell→y.1=x0)→x≠x0→(k'=.cell∨k'=.free)→
  (names.map fun (n,k)=>if (k==NameKind.free&&env.scope.kind == .function&&env.kindOf n==some .cell) then (n,NameKind.cell) else (n,k)).lookup x=some k'→names.lookup x=some .free
 | [],_,_,_,_,_,h=>by simp at h
 | (n,k)::r,x,k',nc,hx0,hk,h=>by
  have ih:=@lookup_relabel_back2 x0 env r x k' (fun y hy=>nc y (List.mem_cons_of_mem _ hy)) hx0 hk
  have h:List.lookup x ((if (k==NameKind.free&&env.scope.kind == .function&&env.kindOf n==some .cell)=true then (n,NameKind.cell) else (n,k))::_)=_:=h
  cases hx:x==n with
  | true=>
   by_cases hc:(k==NameKind.free&&env.scope.kind == .function&&env.kindOf n==some .cell)=true
   ·have:k=.free:=by
     simp only [Bool.and_eq_true,beq_iff_eq] at hc
     exact hc.1.1
    subst this
    simp [List.lookup_cons,hx]
   ·rw [if_neg hc] at h
    simp only [List.lookup_cons,hx] at h ⊢
    cases h
    rcases hk with rfl | rfl
    ·exact absurd ((by simpa using hx:x=n).trans (nc (n,_) List.mem_cons_self rfl)) hx0
    ·rfl
  | false=>
   by_cases hc:(k==NameKind.free&&env.scope.kind == .function&&env.kindOf n==some .cell)=true
   ·rw [if_pos hc] at h;simp only [List.lookup_cons,hx] at h ⊢;exact ih h
   ·rw [if_neg hc] at h;simp only [List.lookup_cons,hx] at h ⊢;exact ih h
theorem BlkS2.ok {x0:Str} {X:Cx} {XN:List Str} {NS:List (Str×NameKind)} {N':List Str} {src:List (Option Nat)} {scope:Scope} (B:BlkS2 x0 X XN NS N' src scope) (ok:X.Ok):∃cl,BlkOk2 x0 X N' src scope cl:=by
 have hcells:∀y∈scope.names,y.2=.free→∃c,X.env.cells.lookup y.1=some c:=fun y hy hf=>ok.has y.1 (by
  have:=B.free y hy hf
  rw [←B.ns] at this
  exact this)
 obtain ⟨cl,q1,q2,q3,q4⟩:=closure_loop (env:=X.env) scope.names [] hcells (fun x c h=>by simp at h)
 refine ⟨cl,?_,B.own,B.has0,B.kind,B.names,B.len,q2,fun x hx0 hx=>?_,fun i j x e1 e2=>?_⟩
 ·unfold closureFor
  show (forIn scope.names [] _ >>= _)=_
  rw [show (forIn scope.names ([]:List (Str×Addr)) fun (x:Str×NameKind) (r:List (Str×Addr))=>_)=_ from q1]
  rfl
 ·have hf:scope.names.lookup x=some .free:=by
   rcases hx with h | h
   ·exact lookup_relabel_back2 B.own hx0 (.inl rfl) h
   ·exact lookup_relabel_back2 B.own hx0 (.inr rfl) h
  exact q4 (x,.free) (PySem.mem_of_lookup hf) rfl
 ·have hm:(some j,x)∈src.zip N':=by
   have:(src.zip N')[i]?=some (some j,x):=by
    rw [List.getElem?_zip_eq_some]
    exact ⟨e1,e2⟩
   exact List.mem_of_getElem? this
  have q:=List.all_eq_true.mp B.from_ _ hm
  simp only [Bool.and_eq_true,Bool.or_eq_true,decide_eq_true_eq] at q
  obtain ⟨⟨⟨p1,p2⟩,p3⟩,p0⟩:=q
  refine ⟨p0,by rw [B.xn];exact p1,?_,lookup_relabel_free p3⟩
  show X.env.scope.names.lookup x=_∨X.env.scope.names.lookup x=_
  rw [B.ns]
  exact p2
section
variable {x0:Str} {X:Cx} {G:Gh} {elt tg iter:Expr} {ifs:List Expr} {scope:Scope} {pos pos' spos:Pos} {XN:List Str} {NS:List (Str×NameKind)} {N':List Str} {src:List (Option Nat)} {fi:Rho→M (List D)} {τ:D→Rho→Option Rho} {ft:Rho→M Bool} {fe:Rho→M D} {r1:Bool} {i:Nat} {x:Str}
theorem bk2 (x0:Str) (XN:List Str) (NS:List (Str×NameKind)) (N':List Str) (src:List (Option Nat)) {scope:Scope} (a:X.N=XN:=by rfl) (b:X.env.scope.names=NS:=by rfl) (c:∀y∈scope.names,y.2=.cell→y.1=x0:=by decide +kernel) (c':(x0,NameKind.cell)∈scope.names:=by decide +kernel) (d:scope.kind=.function:=by rfl) (e:∀y∈scope.names,y.2=.local→scope.names.lookup y.1=some .local:=by decide +kernel) (f:src.length=N'.length:=by rfl) (g:∀y∈scope.names,y.2=.free→NS.lookup y.1=some .cell∨NS.lookup y.1=some .free:=by decide +kernel)
  (h:(src.zip N').all (fun p=>match p.1 with | some j=>decide (XN[j]?=some p.2)&&(decide (NS.lookup p.2=some .cell)||decide (NS.lookup p.2=some .free))&&decide (scope.names.lookup p.2=some .free)&&decide (p.2≠x0) | none=>true)=true:=by decide +kernel):BlkS2 x0 X XN NS N' src scope:=⟨a,b,c,c',d,e,f,g,h⟩
theorem pd_cS2 (B:BlkS2 x0 X XN NS N' src scope) (hi:PDI X G tg iter fi)
  (hg:∀{cl pins C s H fp},PDG (blk2 x0 X pins N' scope cl C s H fp) G tg (fun i=>src[i]?=some none) τ) (ht:∀{cl pins C s H fp},PIfs (blk2 x0 X pins N' scope cl C s H fp) ifs (tOfT G ft)) (he:∀{cl pins C s H fp},PD (blk2 x0 X pins N' scope cl C s H fp) G r1 elt fe)
  (hc:X.calm=true:=by rfl) (hs:∀x,foldedSetIterable iter X.env x=pure x:=by intro _;rfl):PD X G true (.ListComp elt [⟨tg,iter,ifs,0⟩] scope pos) (dComp src fi τ ft fe):=by
 obtain ⟨wi,pi,qi⟩:=hi
 refine ⟨_,fun pins s σ H Q I h=>?_,comp_yld (r1:=r1) qi⟩
 obtain ⟨cl,B'⟩:=B.ok I.ok
 exact pe_comp2 hc B' pi (fun pins C s H fp=>(hg (cl:=cellsFrom (C+1) scope.names cl) (pins:=pins) (C:=C) (s:=s) (H:=H) (fp:=fp)).canon) (fun pins C s H fp=>ht) (fun pins C s H fp=>(he (cl:=cellsFrom (C+1) scope.names cl) (pins:=pins) (C:=C) (s:=s) (H:=H) (fp:=fp)).canon) hs pins s σ H Q I h
end
end TF
namespace K51
open PySem.Spec PyProof.Rows
open PySem L2 TF TQ
open TP
open TP2
open TP3
noncomputable def top (i:Nat):Stmt:=PySem.Challenge.pw_tiefold_k51_pieces_told.main.body.getD i (.Pass ⟨0,0,0,0⟩)
noncomputable abbrev s_pairs_of:Stmt:=top 1
noncomputable abbrev s_near:Stmt:=top 3
noncomputable abbrev s_all_near:Stmt:=top 4
noncomputable abbrev s_are_tied:Stmt:=top 5
noncomputable abbrev s_marked_ties:Stmt:=top 6
noncomputable abbrev s_web_where:Stmt:=top 7
noncomputable abbrev s_hued_along:Stmt:=top 9
noncomputable abbrev s_least_free:Stmt:=top 10
noncomputable abbrev s_web_of_pieces:Stmt:=top 12
noncomputable abbrev s_do_meet:Stmt:=top 13
noncomputable abbrev s_pieces_told:Stmt:=top 14
noncomputable abbrev s_lying_at:Stmt:=top 15
noncomputable abbrev s__law_tpen:Stmt:=top 17
noncomputable abbrev s__law_tdraw:Stmt:=top 18
noncomputable abbrev s__law_tsame:Stmt:=top 19
noncomputable abbrev s__law_tis_hueing:Stmt:=top 20
noncomputable abbrev s__law_tpieces:Stmt:=top 21
noncomputable abbrev s_law:Stmt:=top 22
structure Txt (mg:Str→Option Value):Prop where
 b_all:mg "all" = none
 b_bool:mg "bool" = none
 b_dict:mg "dict" = none
 b_int:mg "int" = none
 b_isinstance:mg "isinstance" = none
 b_len:mg "len" = none
 b_list:mg "list" = none
 b_max:mg "max" = none
 b_min:mg "min" = none
 b_range:mg "range" = none
 b_repr:mg "repr" = none
 b_set:mg "set" = none
 b_sorted:mg "sorted" = none
 b_str:mg "str" = none
 b_tuple:mg "tuple" = none
 b_zip:mg "zip" = none
set_option maxHeartbeats 4000000
variable {P:Program} {w:World} {K:PySem.W.Frag} {mg:Str→Option Value} {base:Heap} {a_f:Addr} {fd_f:FuncData}
noncomputable def g__law_tpieces:Rho→M Out:=(sSeq (sSet 2 (dOp dIx (dLst (dCons (dC (.int 4)) (dCons (dC (.int 9)) (dCons (dC (.int 30)) (dCons (dOp dPow (dC (.int 10)) (dC (.int 8))) dNil))))) (dFn drawF (dCons (dVar 0) (dCons (dC (.int 4)) dNil)))))
 (sSeq (sSet 3 (dOp dIx (dVar 1) (dFn drawF (dCons (dVar 0) (dCons (dCall dLen (dCons (dVar 1) dNil)) dNil)))))
 (sSeq (sSet 4 (dOp dAdd (dC (.int 1)) (dCall dInt1 (dCons (dOp dEqO (dFn drawF (dCons (dVar 0) (dCons (dC (.int 3)) dNil))) (dC (.int 0))) dNil))))
 (sSeq (sOwn 5 (dLst dNil))
 (sSeq (sFor (iRange1 (dFn drawF (dCons (dVar 0) (dCons (dC (.int 13)) dNil)))) (gOne 6)
 (sSeq (sSet 7 (fun ρ=>(dOp dAdd (dVar 3) (dOp dMul (dFn drawF (dCons (dVar 0) (dCons (dVar 2) dNil))) (dOp dIx (dLst (dCons (dC (.int 1)) (dCons (dOp dPow (dC (.int 10)) (dC (.int 12))) dNil))) (dFn drawF (dCons (dVar 0) (dCons (dVar 4) dNil)))))) (hide [5] ρ)))
 (sSeq (sApp 5 (fun ρ=>(dTup (dCons (dVar 7) (dCons (dOp dAdd (dOp dAdd (dVar 7) (dC (.int 1))) (dOp dMul (dFn drawF (dCons (dVar 0) (dCons (dVar 2) dNil))) (dOp dIx (dLst (dCons (dC (.int 1)) (dCons (dOp dPow (dC (.int 10)) (dC (.int 12))) dNil))) (dFn drawF (dCons (dVar 0) (dCons (dVar 4) dNil)))))) dNil))) (hide [5] ρ)))
 (sSeq (sIf (asB (dOp dEqO (dFn drawF (dCons (dVar 0) (dCons (dC (.int 5)) dNil))) (dC (.int 0))))
 (sSeq (sSet 8 (chk false (dOp dIx (dVar 5) (dFn drawF (dCons (dVar 0) (dCons (dCall dLen (dCons (dVar 5) dNil)) dNil))))))
 (sSeq (sSetI 5 (fun ρ=>(dC (.int (-1))) (hide [5] ρ)) (fun ρ=>(dOp dIx (dLst (dCons (dVar 8) (dCons (dTup (dCons (dOp dIx (dVar 8) (dC (.int 1))) (dCons (dOp dAdd (dOp dAdd (dOp dIx (dVar 8) (dC (.int 1))) (dC (.int 1))) (dFn drawF (dCons (dVar 0) (dCons (dVar 2) dNil)))) dNil))) dNil))) (dFn drawF (dCons (dVar 0) (dCons (dC (.int 2)) dNil)))) (hide [5] ρ)))
 sNext))
 sNext)
 sNext))))
 (sSeq (sRet (dVar 5))
 sNext))))))
noncomputable def F__law_tpieces:List D→M D:=runB 9 2 g__law_tpieces
theorem sc__law_tpieces:FnScope ["pen","fars","wide","far","apart","pieces","k","start","old"] ["pen","fars"] (defScope s__law_tpieces):=fsc
theorem ok__law_tpieces (F:Fun K "_law_tpieces" "_law_tpieces" s__law_tpieces a_f fd_f) (T:Txt mg) {L:List (Addr×Str)} (lo:LOk L) (c__law_tdraw:Cal P w K mg base 1 "_law_tdraw" 2 true (PenT PenD L) drawF) :
  FnOk P w K mg base CX0 2 a_f fd_f ["pen","fars"] (spD 2 true (PenT PenD L) F__law_tpieces):=
 have c_nd:=sc__law_tpieces.nd
 fnD (own:=[]) F sc__law_tpieces fun cdv A outer s H E hr G hG=>
 have hT:TabsG L G:=PenT.tabs lo hG
 (pcn (pds_set0 (pasg_set c_nd rfl (Or.inl rfl) (pd_ix ixd (pd_lst (pda_cons pd_int (pda_cons pd_int (pda_cons pd_int (pda_cons (pd_op opd_pow pd_int pd_int) pda_nil))))) (pcal (c__law_tdraw.mono) hG hr (pda_cons (va 0) (pda_cons pd_int pda_nil))))))
 (pcn (pds_set0 (pasg_set c_nd rfl (Or.inl rfl) (pd_ix ixd (va 1) (pcal (c__law_tdraw.mono) hG hr (pda_cons (va 0) (pda_cons (pln T.b_len (pda_cons (va 1) pda_nil)) pda_nil))))))
 (pcn (pds_set0 (pasg_set c_nd rfl (Or.inl rfl) (pd_op opd_add pd_int (pd_callTy (call_int1D) rfl T.b_int TF.boot_int (pda_cons (pd_cmp (opd_eq hr.units) (pcal (c__law_tdraw.mono) hG hr (pda_cons (va 0) (pda_cons pd_int pda_nil))) pd_int) pda_nil)))))
 (pdss_cons (own2:=[5]) (pds_own0 (pasg_set c_nd rfl (Or.inl rfl) (pd_lst pda_nil)))
 (pdss_cons (own2:=[5]) (pds_for (own:=[5]) PassesOwn.never rfl (pdij_range1 rfl T.b_range (pcal (c__law_tdraw.mono) hG hr (pda_cons (va 0) (pda_cons pd_int pda_nil)))) (pdg_name c_nd rfl (Or.inl rfl) (by decide))
 (pdss_cons (own2:=[5]) (pds_setA (own:=[5]) (pasg_set c_nd rfl (Or.inl rfl) (pd_op opd_add (va 3) (pd_op opd_mul (pcal (c__law_tdraw.mono) hG hr (pda_cons (va 0) (pda_cons (va 2) pda_nil))) (pd_ix ixd (pd_lst (pda_cons pd_int (pda_cons (pd_op opd_pow pd_int pd_int) pda_nil))) (pcal (c__law_tdraw.mono) hG hr (pda_cons (va 0) (pda_cons (va 4) pda_nil))))))))
 (pdss_cons (own2:=[5]) (pds_appA (own:=[5]) (i:=5) (by decide) (pd_tup (pda_cons (va 7) (pda_cons (pd_op opd_add (pd_op opd_add (va 7) pd_int) (pd_op opd_mul (pcal (c__law_tdraw.mono) hG hr (pda_cons (va 0) (pda_cons (va 2) pda_nil))) (pd_ix ixd (pd_lst (pda_cons pd_int (pda_cons (pd_op opd_pow pd_int pd_int) pda_nil))) (pcal (c__law_tdraw.mono) hG hr (pda_cons (va 0) (pda_cons (va 4) pda_nil)))))) pda_nil))) (fun _ h=>ps_append (pv 5) h))
 (pdss_cons (own2:=[5]) (pds_if (own':=[5]) (pdt_cmp (opd_eq hr.units) (pcal (c__law_tdraw.mono) hG hr (pda_cons (va 0) (pda_cons pd_int pda_nil))) pd_int)
 (pdss_cons (own2:=[5]) (pds_setB (own:=[5]) (pasg_set c_nd rfl (Or.inl rfl) (pd_ix ixd (va 5) (pcal (c__law_tdraw.mono) hG hr (pda_cons (va 0) (pda_cons (pln T.b_len (pda_cons (va 5) pda_nil)) pda_nil))))))
 (pdss_cons (own2:=[5]) (pds_setI (own:=[5]) (i:=5) (by decide) (pv 5) pd_neg (pd_ix ixd (pd_lst (pda_cons (va 8) (pda_cons (pd_tup (pda_cons (pd_ix ixd (va 8) pd_int) (pda_cons (pd_op opd_add (pd_op opd_add (pd_ix ixd (va 8) pd_int) pd_int) (pcal (c__law_tdraw.mono) hG hr (pda_cons (va 0) (pda_cons (va 2) pda_nil)))) pda_nil))) pda_nil))) (pcal (c__law_tdraw.mono) hG hr (pda_cons (va 0) (pda_cons pd_int pda_nil)))))
 (pdss_nil (own:=[5]))))
 pdss_nil)
 (pdss_nil (own:=[5]))))))
 (pdss_cons (own2:=[5]) (pds_retOwn (i:=5) (by decide) (pv 5))
 (pdss_nil (own:=[5]))))))))
theorem sc__law_tsame:FnScope ["found","due"] ["found","due"] (defScope s__law_tsame):=fsc
theorem ok__law_tsame (F:Fun K "_law_tsame" "_law_tsame" s__law_tsame a_f fd_f) (T:Txt mg) {Fs:List D→M D} {lv:Nat} (hlv:0≤lv) (c__law_tsame:Cal P w K mg base lv "_law_tsame" 2 false AnyG Fs) :
  FnOk P w K mg base CX0 (lv+1) a_f fd_f ["found","due"] (spD 2 false AnyG (runB 2 2 (g__law_tsame Fs))):=
 have c_nd:=sc__law_tsame.nd
 fnD (own:=[]) F sc__law_tsame fun cdv A outer s H E hr G hG=>
 (pcn (pfn (pdt_cmp (opd_isN) (va 1) pd_non)
 (pcn (pds_ret (PD.weak (pd_cmp (opd_isN) (va 0) pd_non)))
 pnn)
 pdss_nil)
 (pcn (pfn (pdt_val (pd_callB (call_isiD) rfl T.b_isinstance TF.boot_isinstance (pda_cons (va 1) (pda_cons (pd_ty rfl T.b_bool TF.boot_bool) pda_nil))))
 (pcn (pds_ret (pd_and (pd_callB (call_isiD) rfl T.b_isinstance TF.boot_isinstance (pda_cons (va 0) (pda_cons (pd_ty rfl T.b_bool TF.boot_bool) pda_nil))) (pd_one (pd_cmp (opd_eq hr.units) (va 0) (va 1)))))
 pnn)
 pdss_nil)
 (pcn (pfn (pdt_val (pd_callB (call_isiD) rfl T.b_isinstance TF.boot_isinstance (pda_cons (va 1) (pda_cons (pd_ty rfl T.b_int TF.boot_int) pda_nil))))
 (pcn (pds_ret (pd_and (pd_callB (call_isiD) rfl T.b_isinstance TF.boot_isinstance (pda_cons (va 0) (pda_cons (pd_ty rfl T.b_int TF.boot_int) pda_nil))) (pd_and (pd_not (pd_callB (call_isiD) rfl T.b_isinstance TF.boot_isinstance (pda_cons (va 0) (pda_cons (pd_ty rfl T.b_bool TF.boot_bool) pda_nil)))) (pd_one (pd_cmp (opd_eq hr.units) (va 0) (va 1))))))
 pnn)
 pdss_nil)
 (pcn (pfn (pdt_val (pd_callB (call_isiD) rfl T.b_isinstance TF.boot_isinstance (pda_cons (va 1) (pda_cons (pd_ty rfl T.b_str TF.boot_str) pda_nil))))
 (pcn (pds_ret (pd_and (pd_callB (call_isiD) rfl T.b_isinstance TF.boot_isinstance (pda_cons (va 0) (pda_cons (pd_ty rfl T.b_str TF.boot_str) pda_nil))) (pd_one (pd_cmp (opd_eq hr.units) (va 0) (va 1)))))
 pnn)
 pdss_nil)
 (pcn (pfn (PDW.pt (pdw_or (pdt_cmp (opd_ne hr.units) (pd_callB (call_isiD) rfl T.b_isinstance TF.boot_isinstance (pda_cons (va 1) (pda_cons (pd_ty rfl T.b_tuple TF.boot_tuple) pda_nil))) (pd_callB (call_isiD) rfl T.b_isinstance TF.boot_isinstance (pda_cons (va 0) (pda_cons (pd_ty rfl T.b_tuple TF.boot_tuple) pda_nil)))) (pdw_or1 (pdt_cmp (opd_ne hr.units) (pd_callB (call_isiD) rfl T.b_isinstance TF.boot_isinstance (pda_cons (va 1) (pda_cons (pd_ty rfl T.b_list TF.boot_list) pda_nil))) (pd_callB (call_isiD) rfl T.b_isinstance TF.boot_isinstance (pda_cons (va 0) (pda_cons (pd_ty rfl T.b_list TF.boot_list) pda_nil)))))))
 (pcn (pds_ret (PD.weak pd_bl))
 pnn)
 pdss_nil)
 (pcn (pds_ret (pd_and (pd_cmp (opd_eq hr.units) (pln T.b_len (pda_cons (va 0) pda_nil)) (pln T.b_len (pda_cons (va 1) pda_nil))) (pd_one (pd_callB (call_allD rfl) rfl T.b_all TF.boot_all (pda_cons (pd_cS (bk ["found","due"] (defScope s__law_tsame).names ["one","other"] [none,none]) (pdi_zipS rfl T.b_zip (va 0) (va 1)) (pdg_pair rfl (show (["one","other"]:List Str).Nodup by decide +kernel) rfl rfl (Or.inl rfl) (Or.inl rfl) rfl rfl (hp:=pgs_cons (pg_name (show (["one","other"]:List Str).Nodup by decide +kernel) rfl (Or.inl rfl)) (pgs_cons (pg_name (show (["one","other"]:List Str).Nodup by decide +kernel) rfl (Or.inl rfl)) pgs_nil))) pifs0 (pcal (c__law_tsame) trivial hr (pda_cons (va 0) (pda_cons (va 1) pda_nil)))) pda_nil)))))
 pnn))))))
theorem sc__law_tis_hueing:FnScope ["web","thing","hue"] ["web","thing"] (defScope s__law_tis_hueing):=fsc
theorem ok__law_tis_hueing (F:Fun K "_law_tis_hueing" "_law_tis_hueing" s__law_tis_hueing a_f fd_f) (T:Txt mg) :
  FnOk P w K mg base CX0 1 a_f fd_f ["web","thing"] (spD 2 false AnyG F__law_tis_hueing):=
 have c_nd:=sc__law_tis_hueing.nd
 fnD (own:=[]) F sc__law_tis_hueing fun cdv A outer s H E hr G hG=>
 (pcn (pfn (PDW.pt (pdw_or (pdt_not (pdt_val (pd_callB (call_isiD) rfl T.b_isinstance TF.boot_isinstance (pda_cons (va 1) (pda_cons (pd_ty rfl T.b_tuple TF.boot_tuple) pda_nil))))) (pdw_or1 (pdt_cmp (opd_ne hr.units) (pln T.b_len (pda_cons (va 1) pda_nil)) (pd_ix ixd (va 0) pd_int)))))
 (pcn (pds_ret (PD.weak pd_bl))
 pnn)
 pdss_nil)
 (pcn (pds_for (own:=[]) PassesOwn.never rfl (PDI.n (pdi_tup (va 1))) (pdg_name c_nd rfl (Or.inl rfl) (by decide))
 (pcn (pfn (PDW.pt (pdw_or (pdt_not (pdt_val (pd_callB (call_isiD) rfl T.b_isinstance TF.boot_isinstance (pda_cons (va 2) (pda_cons (pd_ty rfl T.b_int TF.boot_int) pda_nil))))) (pdw_or (pdt_val (pd_callB (call_isiD) rfl T.b_isinstance TF.boot_isinstance (pda_cons (va 2) (pda_cons (pd_ty rfl T.b_bool TF.boot_bool) pda_nil)))) (pdw_or1 (pdt_not (pdt_chain pd_int (pdch_cons (opd_le) (va 2) (pdch_one (opd_lt hr.units0) (pd_ix ixd (va 0) pd_int)))))))))
 (pcn (pds_ret (PD.weak pd_bl))
 pnn)
 pdss_nil)
 pnn))
 (pcn (pds_ret (PD.weak (pd_cmp (opd_eq hr.units) (pd_cS (bk ["web","thing","hue"] (defScope s__law_tis_hueing).names ["tie","thing"] [none,some 1]) (pdi_tup (pd_ix ixd (va 0) pd_int)) pgn (pifs1 (pdt_cmp (opd_eq hr.units) (pd_ix ixd (va 1) (pd_ix ixd (va 0) pd_int)) (pd_ix ixd (va 1) (pd_ix ixd (va 0) pd_int)))) (va 0)) (pd_lst pda_nil))))
 pnn)))
noncomputable def g_lying_at:Rho→M Out:=(sSeq (sRet (dCall dTuple (dCons (dComp [none,some 0,some 1] (iRange1 (dCall dLen (dCons (dVar 0) dNil))) (gOne 0) (bAnd (asB (dOp dLe (dOp dIx (dOp dIx (dVar 1) (dVar 0)) (dC (.int 0))) (dVar 2))) (asB (dOp dLt (dVar 2) (dOp dIx (dOp dIx (dVar 1) (dVar 0)) (dC (.int 1)))))) (dVar 0)) dNil)))
 sNext)
noncomputable def F_lying_at:List D→M D:=runB 2 2 g_lying_at
theorem sc_lying_at:FnScope ["pieces","at"] ["pieces","at"] (defScope s_lying_at):=fsc
theorem ok_lying_at (F:Fun K "lying_at" "lying_at" s_lying_at a_f fd_f) (T:Txt mg) :
  FnOk P w K mg base CX0 1 a_f fd_f ["pieces","at"] (spD 2 true AnyG F_lying_at):=
 have c_nd:=sc_lying_at.nd
 fnD (own:=[]) F sc_lying_at fun cdv A outer s H E hr G hG=>
 (pcn (pds_ret (pd_callTy (call_tupleDD) rfl T.b_tuple TF.boot_tuple (pda_cons (pd_cS (bk ["pieces","at"] (defScope s_lying_at).names ["place","pieces","at"] [none,some 0,some 1]) (pdi_range1 rfl T.b_range (pln T.b_len (pda_cons (va 0) pda_nil))) pgn (pifs1 (PDW.pt (pdw_and (pdt_cmp (opd_le) (pd_ix ixd (pd_ix ixd (va 1) (va 0)) pd_int) (va 2)) (pdw_and1 (pdt_cmp (opd_lt hr.units0) (va 2) (pd_ix ixd (pd_ix ixd (va 1) (va 0)) pd_int)))))) (va 0)) pda_nil)))
 pnn)
theorem sc_pairs_of:FnScope ["row","pairs","i","j"] ["row"] (defScope s_pairs_of):=fsc
theorem ok_pairs_of (F:Fun K "pairs_of" "pairs_of" s_pairs_of a_f fd_f) (T:Txt mg) :
  FnOk P w K mg base CX0 1 a_f fd_f ["row"] (spD 1 true AnyG F_pairs_of):=
 have c_nd:=sc_pairs_of.nd
 fnD (own:=[]) F sc_pairs_of fun cdv A outer s H E hr G hG=>
 (pdss_cons (own2:=[1]) (pds_own0 (pasg_set c_nd rfl (Or.inl rfl) (pd_lst pda_nil)))
 (pdss_cons (own2:=[1]) (pds_for (own:=[1]) PassesOwn.never rfl (pdij_range1 rfl T.b_range (pln T.b_len (pda_cons (va 0) pda_nil))) (pdg_name c_nd rfl (Or.inl rfl) (by decide))
 (pdss_cons (own2:=[1]) (pds_for (own:=[1]) PassesOwn.never rfl (pdij_range2 rfl T.b_range (pd_op opd_add (va 2) pd_int) (pln T.b_len (pda_cons (va 0) pda_nil))) (pdg_name c_nd rfl (Or.inl rfl) (by decide))
 (pdss_cons (own2:=[1]) (pds_appA (own:=[1]) (i:=1) (by decide) (pd_tup (pda_cons (pd_ix ixd (va 0) (va 2)) (pda_cons (pd_ix ixd (va 0) (va 3)) pda_nil))) (fun _ h=>ps_append (pv 1) h))
 (pdss_nil (own:=[1]))))
 (pdss_nil (own:=[1]))))
 (pdss_cons (own2:=[1]) (pds_retOwn (i:=1) (by decide) (pv 1))
 (pdss_nil (own:=[1])))))
theorem sc_web_where:FnScope ["row","tied","pairs"] ["row","tied"] (defScope s_web_where):=fsc
theorem ok_web_where (F:Fun K "web_where" "web_where" s_web_where a_f fd_f) (T:Txt mg) (c_pairs_of:Cal P w K mg base 1 "pairs_of" 1 true AnyG F_pairs_of) :
  FnOk P w K mg base CX0 5 a_f fd_f ["row","tied"] (spD 2 false (CloG P w K mg 4 2 Tl base) F_web_where):=
 have c_nd:=sc_web_where.nd
 fnD (own:=[]) F sc_web_where fun cdv A outer s H E hr G hG=>
 (pcn (pds_set0 (pasg_set c_nd rfl (Or.inl rfl) (pcal (c_pairs_of.mono) trivial hr (pda_cons (pd_listRange rfl rfl T.b_range rfl T.b_list TF.boot_list (pln T.b_len (pda_cons (va 0) pda_nil))) pda_nil))))
 (pcn (pds_ret (PD.weak (pd_tup (pda_cons (pln T.b_len (pda_cons (va 0) pda_nil)) (pda_cons (pd_callTy (call_tupleDD) rfl T.b_tuple TF.boot_tuple (pda_cons (pd_cS (bk ["row","tied","pairs"] (defScope s_web_where).names ["pair","tied","row"] [none,some 1,some 0]) (pdi_list (va 2)) pgn (pifs1 (pdt_val (pd_callV hG (hr.mono (by decide)) (pv 1) (pda_cons (pd_ix ixd (va 2) (pd_ix ixd (va 0) pd_int)) (pda_cons (pd_ix ixd (va 2) (pd_ix ixd (va 0) pd_int)) pda_nil)) (dCons_len (dCons_len dNil_len))))) (va 0)) pda_nil)) pda_nil)))))
 pnn))
theorem sc_do_meet:FnScope ["piece","other"] ["piece","other"] (defScope s_do_meet):=fsc
theorem ok_do_meet (F:Fun K "do_meet" "do_meet" s_do_meet a_f fd_f) (T:Txt mg) :
  FnOk P w K mg base CX0 1 a_f fd_f ["piece","other"] (spD 2 false AnyG F_do_meet):=
 have c_nd:=sc_do_meet.nd
 fnD (own:=[]) F sc_do_meet fun cdv A outer s H E hr G hG=>
 (pcn (pds_ret (pd_and (pd_cmp (opd_lt hr.units0) (pd_ix ixd (va 0) pd_int) (pd_ix ixd (va 1) pd_int)) (pd_one (pd_cmp (opd_lt hr.units0) (pd_ix ixd (va 1) pd_int) (pd_ix ixd (va 0) pd_int)))))
 pnn)
theorem sc_web_of_pieces:FnScope ["pieces"] ["pieces"] (defScope s_web_of_pieces):=fsc
theorem ok_web_of_pieces (F:Fun K "web_of_pieces" "web_of_pieces" s_web_of_pieces a_f fd_f) (T:Txt mg) (c_web_where:CalA P w K mg 5 "web_where" 2 false (CloG P w K mg 4 2 Tl) F_web_where) (cg_do_meet:CalG P w K mg 4 "do_meet" 2 F_do_meet) :
  FnOk P w K mg base CX0 6 a_f fd_f ["pieces"] (spD 1 false AnyG F_web_of_pieces):=
 have c_nd:=sc_web_of_pieces.nd
 fnD (own:=[]) F sc_web_of_pieces fun cdv A outer s H E hr G hG=>
 (pcn (pds_ret (pd_callGlo (kl:=4) (T:=Tl) (t:=2) (c_web_where.mono) cg_do_meet rfl (fun _=>rfl) hr rfl rfl (va 0)))
 pnn)
theorem sc_marked_ties:FnScope ["web"] ["web"] (defScope s_marked_ties):=fsc
theorem ok_marked_ties (F:Fun K "marked_ties" "marked_ties" s_marked_ties a_f fd_f) (T:Txt mg) :
  FnOk P w K mg base CX0 1 a_f fd_f ["web"] (spD 1 true AnyG F_marked_ties):=
 have c_nd:=sc_marked_ties.nd
 fnD (own:=[]) F sc_marked_ties fun cdv A outer s H E hr G hG=>
 (pcn (pds_ret (pd_callTy (call_dictT rfl hr.units) rfl T.b_dict TF.boot_dict (pda_cons (pd_cS (bk ["web"] (defScope s_marked_ties).names ["tie"] [none]) (pdi_tup (pd_ix ixd (va 0) pd_int)) pgn pifs0 (pd_tup (pda_cons (va 0) (pda_cons pd_bl pda_nil)))) pda_nil)))
 pnn)
theorem sc_are_tied:FnScope ["ties","a","b"] ["ties","a","b"] (defScope s_are_tied):=fsc
theorem ok_are_tied (F:Fun K "are_tied" "are_tied" s_are_tied a_f fd_f) (T:Txt mg) :
  FnOk P w K mg base CX0 1 a_f fd_f ["ties","a","b"] (spD 3 false AnyG F_are_tied):=
 have c_nd:=sc_are_tied.nd
 fnD (own:=[]) F sc_are_tied fun cdv A outer s H E hr G hG=>
 (pcn (pds_ret (PD.weak (pd_cmp (opd_in hr.units) (pd_tup (pda_cons (pd_callB (call_min2D rfl) rfl T.b_min TF.boot_min (pda_cons (va 1) (pda_cons (va 2) pda_nil))) (pda_cons (pd_callB (call_max2D rfl) rfl T.b_max TF.boot_max (pda_cons (va 1) (pda_cons (va 2) pda_nil))) pda_nil))) (va 0))))
 pnn)
theorem sc_near:FnScope ["web","place"] ["web","place"] (defScope s_near):=fsc
theorem ok_near (F:Fun K "near" "near" s_near a_f fd_f) (T:Txt mg) (c_are_tied:Cal P w K mg base 1 "are_tied" 3 false AnyG F_are_tied) :
  FnOk P w K mg base CX0 2 a_f fd_f ["web","place"] (spD 2 true AnyG F_near):=
 have c_nd:=sc_near.nd
 fnD (own:=[]) F sc_near fun cdv A outer s H E hr G hG=>
 (pcn (pds_ret (pd_cS (bk ["web","place"] (defScope s_near).names ["other","web","place"] [none,some 0,some 1]) (pdi_range1 rfl T.b_range (pd_ix ixd (va 0) pd_int)) pgn (pifs1 (pdt_val (pcal (c_are_tied.mono) trivial hr (pda_cons (pd_ix ixd (va 1) pd_int) (pda_cons (va 2) (pda_cons (va 0) pda_nil)))))) (va 0)))
 pnn)
theorem sc_all_near:FnScope ["web","marked"] ["web"] (defScope s_all_near):=fsc
theorem ok_all_near (F:Fun K "all_near" "all_near" s_all_near a_f fd_f) (T:Txt mg) (c_marked_ties:Cal P w K mg base 1 "marked_ties" 1 true AnyG F_marked_ties) (c_near:Cal P w K mg base 2 "near" 2 true AnyG F_near) :
  FnOk P w K mg base CX0 3 a_f fd_f ["web"] (spD 1 true AnyG F_all_near):=
 have c_nd:=sc_all_near.nd
 fnD (own:=[]) F sc_all_near fun cdv A outer s H E hr G hG=>
 (pcn (pds_set0 (pasg_set c_nd rfl (Or.inr rfl) (pd_tup (pda_cons (pd_ix ixd (va 0) pd_int) (pda_cons (pcal (c_marked_ties.mono) trivial hr (pda_cons (va 0) pda_nil)) pda_nil)))))
 (pcn (pds_ret (pd_cS (bk ["web","marked"] (defScope s_all_near).names ["place","marked"] [none,some 1]) (pdi_range1 rfl T.b_range (pd_ix ixd (va 0) pd_int)) pgn pifs0 (pcal (c_near.mono) trivial hr (pda_cons (va 1) (pda_cons (va 0) pda_nil)))))
 pnn))
theorem sc_least_free:FnScope ["taken"] ["taken"] (defScope s_least_free):=fsc
theorem ok_least_free (F:Fun K "least_free" "least_free" s_least_free a_f fd_f) (T:Txt mg) :
  FnOk P w K mg base CX0 1 a_f fd_f ["taken"] (spD 1 true AnyG F_least_free):=
 have c_nd:=sc_least_free.nd
 fnD (own:=[]) F sc_least_free fun cdv A outer s H E hr G hG=>
 (pcn (pds_ret (pd_callB (call_minLD rfl) rfl T.b_min TF.boot_min (pda_cons (pd_cS (bk ["taken"] (defScope s_least_free).names ["hue","taken"] [none,some 0]) (pdi_range1 rfl T.b_range (pd_op opd_add (pln T.b_len (pda_cons (va 0) pda_nil)) pd_int)) pgn (pifs1 (pdt_cmp (opd_notIn hr.units) (va 0) (va 1))) (va 0)) pda_nil)))
 pnn)
theorem sc_hued_along:FnScope ["web","order","nears","hues","place"] ["web","order"] (defScope s_hued_along):=fsc
theorem ok_hued_along (F:Fun K "hued_along" "hued_along" s_hued_along a_f fd_f) (T:Txt mg) (c_all_near:Cal P w K mg base 3 "all_near" 1 true AnyG F_all_near) (c_least_free:Cal P w K mg base 1 "least_free" 1 true AnyG F_least_free) :
  FnOk P w K mg base CX0 4 a_f fd_f ["web","order"] (spD 2 true AnyG F_hued_along):=
 have c_nd:=sc_hued_along.nd
 fnD (own:=[]) F sc_hued_along fun cdv A outer s H E hr G hG=>
 (pcn (pds_set0 (pasg_set c_nd rfl (Or.inl rfl) (pcal (c_all_near.mono) trivial hr (pda_cons (va 0) pda_nil))))
 (pdss_cons (own2:=[3]) (pds_own0 (pasg_set c_nd rfl (Or.inr rfl) pd_dnewK))
 (pdss_cons (own2:=[3]) (pds_for (own:=[3]) PassesOwn.never rfl (PDI.a (own:=[3]) (pdi_list (va 1))) (pdg_name c_nd rfl (Or.inl rfl) (by decide))
 (pdss_cons (own2:=[3]) (pds_putAB (own:=[3]) (i:=3) (L2.hu_of hr) (by decide) (pv 3) (va 4) (pcal (c_least_free.mono) trivial hr (pda_cons (pd_cS (bk ["web","order","nears","hues","place"] (defScope s_hued_along).names ["other","hues"] [none,some 3]) (pdi_list (pd_ix ixd (va 2) (va 4))) pgn (pifs1 (pdt_cmp (opd_in hr.units) (va 0) (va 1))) (pd_dget (L2.hu_of hr) (va 1) (va 0))) pda_nil)))
 (pdss_nil (own:=[3]))))
 (pdss_cons (own2:=[3]) (pds_ret (pd_callTy (call_tupleDD) rfl T.b_tuple TF.boot_tuple (pda_cons (pd_cS (bk ["web","order","nears","hues","place"] (defScope s_hued_along).names ["place","hues"] [none,some 3]) (pdi_range1 rfl T.b_range (pd_ix ixd (va 0) pd_int)) pgn pifs0 (pd_dget (L2.hu_of hr) (va 1) (va 0))) pda_nil)))
 (pdss_nil (own:=[3]))))))
noncomputable def g_pieces_told:Rho→M Out:=(sSeq (sSet 1 (dComp [none] (iSeqL (dVar 0)) (gOne 0) bTrue (dOp dIx (dVar 0) (dC (.int 0)))))
 (sSeq (sSet 2 (dMaxKey (runE 2 (dCall dLen (dCons (dFn F_lying_at (dCons (dVar 1) (dCons (dVar 0) dNil))) dNil))) [0] 0 (dVar 1)))
 (sSeq (sSet 3 (dFn F_lying_at (dCons (dVar 0) (dCons (dVar 2) dNil))))
 (sSeq (sSet 4 (dSortKeyR (runE 2 (dOp dIx (dVar 1) (dVar 0))) [1] (dCall dLen (dCons (dVar 0) dNil))))
 (sSeq (sRet (dTup (dCons (dCall dLen (dCons (dVar 3) dNil)) (dCons (dVar 2) (dCons (dVar 3) (dCons (dFn F_hued_along (dCons (dFn F_web_of_pieces (dCons (dVar 0) dNil)) (dCons (dVar 4) dNil))) dNil))))))
 sNext)))))
noncomputable def F_pieces_told:List D→M D:=runB 5 1 g_pieces_told
theorem sc_pieces_told:FnScope ["pieces","starts","at","knot","order"] ["pieces"] (defScope s_pieces_told):=fsc
theorem ok_pieces_told (F:Fun K "pieces_told" "pieces_told" s_pieces_told a_f fd_f) (T:Txt mg) {L:List (Addr×Str)} (lo:LOk L) (c_hued_along:Cal P w K mg base 4 "hued_along" 2 true AnyG F_hued_along) (c_lying_at:Cal P w K mg base 1 "lying_at" 2 true AnyG F_lying_at) (c_web_of_pieces:Cal P w K mg base 6 "web_of_pieces" 1 false AnyG F_web_of_pieces) (ca_lying_at:∀base,Cal P w K mg base 1 "lying_at" 2 true AnyG F_lying_at) {tc tP:Addr} (hcode:fd_f.code=.ref tc) (hCd:PySem.W.CodeHd base tc tP) (hBm:BMn mg base) (hL:(tP,(Str.ofString "pieces_told.<locals>.<lambda>"))∈L) :
  FnOk P w K mg base CX0 7 a_f fd_f ["pieces"] (spD 1 false (TabsG L) F_pieces_told):=
 have c_nd:=sc_pieces_told.nd
 fnDC (own:=[]) F sc_pieces_told fun A outer s H E hr G hG=>
 have hT:TabsG L G:=hG
 have TG9:=hT _ _ hL
 have M9:Mk0 (cxOf CX0 P w K mg base ["pieces","starts","at","knot","order"] "pieces_told" (defScope s_pieces_told) a_f fd_f.code A outer s H E).nox tc tP:=⟨hcode,hCd,hBm⟩
 (pcn (pds_set0 (pasg_set c_nd rfl (Or.inr rfl) (pd_cS (bk ["pieces","starts","at","knot","order"] (defScope s_pieces_told).names ["piece"] [none]) (pdi_list (va 0)) pgn pifs0 (pd_ix ixd (va 0) pd_int))))
 (pcn (pds_set0 (pasg_set c_nd rfl (Or.inl rfl) (pd_maxKey (kl:=3) (frb:=true) (N:=["start","pieces"]) (ps:=["start"]) (cix:=[0]) (q:="pieces_told.<locals>.<lambda>") rfl rfl T.b_max TF.boot_max M9 TG9 (fun _=>rfl) (hr.mono (by decide)) (va 1) rfl (⟨rfl,rfl,rfl,by decide +kernel,rfl,by decide +kernel,by decide +kernel⟩:CloScope ["start","pieces"] ["start"] _) (⟨rfl,rfl,rfl,by decide +kernel,by decide +kernel⟩:CapS _ ["pieces","starts","at","knot","order"] (defScope s_pieces_told).names ["start","pieces"] ["start"] [0] _) rfl (fun _ _ _ _ us hl=>match us,hl with | [_],_=>rfl) (fun base f c cl G A outer s H E hr=>(pln T.b_len (pda_cons (pcal ((ca_lying_at base).mono) trivial hr (pda_cons (va 1) (pda_cons (va 0) pda_nil))) pda_nil))))))
 (pcn (pds_set0 (pasg_set c_nd rfl (Or.inl rfl) (pcal (c_lying_at.mono) trivial hr (pda_cons (va 0) (pda_cons (va 2) pda_nil)))))
 (pcn (pds_set0 (pasg_set c_nd rfl (Or.inl rfl) (pd_sortKeyR (kl:=3) (frb:=false) (N:=["place","starts"]) (ps:=["place"]) (cix:=[1]) (q:="pieces_told.<locals>.<lambda>") rfl rfl T.b_sorted TF.boot_sorted rfl T.b_range M9 TG9 (fun _=>rfl) (hr.mono (by decide)) (pln T.b_len (pda_cons (va 0) pda_nil)) rfl (⟨rfl,rfl,rfl,by decide +kernel,rfl,by decide +kernel,by decide +kernel⟩:CloScope ["place","starts"] ["place"] _) (⟨rfl,rfl,rfl,by decide +kernel,by decide +kernel⟩:CapS _ ["pieces","starts","at","knot","order"] (defScope s_pieces_told).names ["place","starts"] ["place"] [1] _) rfl (fun _ _ _ _ us hl=>match us,hl with | [_],_=>rfl) (fun base f c cl G A outer s H E hr=>(pd_ix ixd (va 1) (va 0))))))
 (pcn (pds_ret (PD.weak (pd_tup (pda_cons (pln T.b_len (pda_cons (va 3) pda_nil)) (pda_cons (va 2) (pda_cons (va 3) (pda_cons (pcal (c_hued_along.mono) trivial hr (pda_cons (pcal (c_web_of_pieces.mono) trivial hr (pda_cons (va 0) pda_nil)) (pda_cons (va 4) pda_nil))) pda_nil)))))))
 pnn)))))
noncomputable def g_law:Rho→M Out:=(sSeq (sFor (iRange1 (dC (.int 6))) (gOne 2)
 (sSeq (sSet 3 (dFn F__law_tpieces (dCons (dVar 1) (dCons (dLst (dCons (dC (.int 0)) (dCons (dC (.int (-5))) (dCons (dOp dPow (dC (.int 10)) (dC (.int 59))) (dCons (dNeg (dOp dPow (dC (.int 10)) (dC (.int 58)))) (dCons (dOp dMul (dC (.int 9)) (dOp dPow (dC (.int 10)) (dC (.int 59)))) (dCons (dNeg (dOp dMul (dC (.int 9)) (dOp dPow (dC (.int 10)) (dC (.int 59))))) dNil))))))) dNil))))
 (sSeq (sSet 4 (dCall dMaxL (dCons (dOp dAdd (dComp [none,none,some 3] (iSeqL (dVar 3)) (gPair 0 1) bTrue (dCall dLen (dCons (dComp [none,some 0] (iSeqL (dVar 2)) (gOne 0) (bChain (dOp dIx (dVar 0) (dC (.int 0))) (cLink dLe (dVar 1) (cLast dLt (dOp dIx (dVar 0) (dC (.int 1)))))) (dC (.int 0))) dNil))) (dLst (dCons (dC (.int 0)) dNil))) dNil)))
 (sSeq (sSet 5 (dCall dRepr (dCons (dVar 3) dNil)))
 (sSeq (sSet 6 (dFn F_pieces_told (dCons (dVar 3) dNil)))
 (sSeq (sIf (bOr (bNot (asB (dCall dIsi (dCons (dVar 6) (dCons (dC (.ty "tuple")) dNil))))) (bOr (asB (dOp dNeO (dCall dLen (dCons (dVar 6) dNil)) (dC (.int 4)))) (bOr (bNot (asB (dFn (F__law_tsame 5) (dCons (dOp dIx (dVar 6) (dC (.int 0))) (dCons (dVar 4) dNil))))) (asB (dOp dNeO (dCall dRepr (dCons (dVar 3) dNil)) (dVar 5))))))
 (sSeq (sRet (dC (.bl false)))
 sNext)
 sNext)
 (sSeq (sUnp (gQuad 7 8 9 10) (dVar 6))
 (sSeq (sIf (bOr (bNot (asB (dCall dIsi (dCons (dVar 8) (dCons (dC (.ty "int")) dNil))))) (asB (dCall dIsi (dCons (dVar 8) (dCons (dC (.ty "bool")) dNil)))))
 (sSeq (sRet (dC (.bl false)))
 sNext)
 sNext)
 (sSeq (sSet 11 (dComp [none,some 3,some 8] (iRange1 (dCall dLen (dCons (dVar 3) dNil))) (gOne 0) (bChain (dOp dIx (dOp dIx (dVar 1) (dVar 0)) (dC (.int 0))) (cLink dLe (dVar 2) (cLast dLt (dOp dIx (dOp dIx (dVar 1) (dVar 0)) (dC (.int 1)))))) (dVar 0)))
 (sSeq (sIf (bOr (bNot (asB (dFn (F__law_tsame 5) (dCons (dVar 9) (dCons (dCall dTuple (dCons (dVar 11) dNil)) dNil))))) (asB (dOp dNeO (dCall dLen (dCons (dVar 9) dNil)) (dVar 4))))
 (sSeq (sRet (dC (.bl false)))
 sNext)
 sNext)
 (sSeq (sOwn 12 (dLst dNil))
 (sSeq (sFor (iRange1 (dCall dLen (dCons (dVar 3) dNil))) (gOne 13)
 (sSeq (sFor (iRange1 (dVar 13)) (gOne 14)
 (sSeq (sIf (asB (dOp dLt (dCall dMax2 (dCons (dOp dIx (dOp dIx (dVar 3) (dVar 14)) (dC (.int 0))) (dCons (dOp dIx (dOp dIx (dVar 3) (dVar 13)) (dC (.int 0))) dNil))) (dCall dMin2 (dCons (dOp dIx (dOp dIx (dVar 3) (dVar 14)) (dC (.int 1))) (dCons (dOp dIx (dOp dIx (dVar 3) (dVar 13)) (dC (.int 1))) dNil)))))
 (sSeq (sApp 12 (fun ρ=>(dTup (dCons (dVar 14) (dCons (dVar 13) dNil))) (hide [12] ρ)))
 sNext)
 sNext)
 sNext))
 sNext))
 (sSeq (sIf (bOr (bNot (asB (dFn F__law_tis_hueing (dCons (dTup (dCons (dCall dLen (dCons (dVar 3) dNil)) (dCons (dCall dTuple (dCons (dVar 12) dNil)) dNil))) (dCons (dVar 10) dNil))))) (asB (dOp dNeO (dLenSet (dVar 10)) (dVar 4))))
 (sSeq (sRet (dC (.bl false)))
 sNext)
 sNext)
 sNext)))))))))))))
 (sSeq (sRet (dC (.bl true)))
 sNext))
theorem sc_law:FnScope ["script","pen","turn","pieces","due","shown","found","many","at","knot","hues","lying","ties","b","a"] ["script"] (defScope s_law):=fsc
theorem der_law {cdv:Value} {A:Around} {outer:List Env} {s:Shared} {H:Hp} {E:XK} {L:List (Addr×Str)} (lo:LOk L) (T:Txt mg) (hr:Room 7 (A.deeper (envOfC "law" (defScope s_law) s.heap.objs.size a_f cdv))) (c__law_tis_hueing:Cal P w K mg base 1 "_law_tis_hueing" 2 false AnyG F__law_tis_hueing) (c__law_tpieces:Cal P w K mg base 2 "_law_tpieces" 2 true (PenT PenD L) F__law_tpieces) (c__law_tsame:Cal P w K mg base 6 "_law_tsame" 2 false AnyG (F__law_tsame 5)) (c_pieces_told:Cal P w K mg base 7 "pieces_told" 1 false (TabsG L) F_pieces_told) (G:Gh) (hG:(PenT PenD L) G) :
  PDSs (cxOf CX0 P w K mg base ["script","pen","turn","pieces","due","shown","found","many","at","knot","hues","lying","ties","b","a"] "law" (defScope s_law) a_f cdv A outer s H E).nox G [] [] [] false ((defBody s_law).drop 1) g_law:=
 have c_nd:=sc_law.nd
 have hT:TabsG L G:=PenT.tabs lo hG
 (pcn (pds_for (own:=[]) PassesOwn.never rfl (pdij_range1 rfl T.b_range pd_int) (pdg_name c_nd rfl (Or.inl rfl) (by decide))
 (pcn (pds_set0 (pasg_set c_nd rfl (Or.inr rfl) (pcal (c__law_tpieces.mono) hG hr (pda_cons (va 1) (pda_cons (pd_lst (pda_cons pd_int (pda_cons pd_neg (pda_cons (pd_op opd_pow pd_int pd_int) (pda_cons (pd_negE (pd_op opd_pow pd_int pd_int)) (pda_cons (pd_op opd_mul pd_int (pd_op opd_pow pd_int pd_int)) (pda_cons (pd_negE (pd_op opd_mul pd_int (pd_op opd_pow pd_int pd_int))) pda_nil))))))) pda_nil)))))
 (pcn (pds_set0 (pasg_set c_nd rfl (Or.inl rfl) (pd_callB (call_maxLD rfl) rfl T.b_max TF.boot_max (pda_cons (pd_op opd_add (pd_cS2 (bk2 "start" ["script","pen","turn","pieces","due","shown","found","many","at","knot","hues","lying","ties","b","a"] (defScope s_law).names ["start","end","pieces"] [none,none,some 3]) (pdi_list (va 3)) (pdg_pair rfl (show (["start","end","pieces"]:List Str).Nodup by decide +kernel) rfl rfl (Or.inr rfl) (Or.inl rfl) rfl rfl (hp:=pgs_cons (pg_name (show (["start","end","pieces"]:List Str).Nodup by decide +kernel) rfl (Or.inr rfl)) (pgs_cons (pg_name (show (["start","end","pieces"]:List Str).Nodup by decide +kernel) rfl (Or.inl rfl)) pgs_nil))) pifs0 (pln T.b_len (pda_cons (pd_cS (bk ["start","end","pieces"] [((PySem.Str.ofString ".0"),PySem.NameKind.local),((PySem.Str.ofString "start"),PySem.NameKind.cell),((PySem.Str.ofString "end"),PySem.NameKind.local),((PySem.Str.ofString "len"),PySem.NameKind.globalImplicit),((PySem.Str.ofString "pieces"),PySem.NameKind.cell)] ["one","start"] [none,some 0]) (pdi_list (va 2)) pgn (pifs1 (pdt_chain (pd_ix ixd (va 0) pd_int) (pdch_cons (opd_le) (va 1) (pdch_one (opd_lt hr.units0) (pd_ix ixd (va 0) pd_int))))) pd_int) pda_nil))) (pd_lst (pda_cons pd_int pda_nil))) pda_nil))))
 (pcn (pds_set0 (pasg_set c_nd rfl (Or.inl rfl) (pd_callB (call_reprD hr.gd hr.units) rfl T.b_repr TF.boot_repr (pda_cons (va 3) pda_nil))))
 (pcn (pds_set0 (pasg_set c_nd rfl (Or.inl rfl) (pcal (c_pieces_told.mono) hT hr (pda_cons (va 3) pda_nil))))
 (pcn (pfn (PDW.pt (pdw_or (pdt_not (pdt_val (pd_callB (call_isiD) rfl T.b_isinstance TF.boot_isinstance (pda_cons (va 6) (pda_cons (pd_ty rfl T.b_tuple TF.boot_tuple) pda_nil))))) (pdw_or (pdt_cmp (opd_ne hr.units) (pln T.b_len (pda_cons (va 6) pda_nil)) pd_int) (pdw_or (pdt_not (pdt_val (pcal (c__law_tsame.mono) trivial hr (pda_cons (pd_ix ixd (va 6) pd_int) (pda_cons (va 4) pda_nil))))) (pdw_or1 (pdt_cmp (opd_ne hr.units) (pd_callB (call_reprD hr.gd hr.units) rfl T.b_repr TF.boot_repr (pda_cons (va 3) pda_nil)) (va 5)))))))
 (pcn (pds_ret (PD.weak pd_bl))
 pnn)
 pdss_nil)
 (pcn (pds_unp0 (va 6) (pdg_quad rfl (by decide) (by decide) (by decide) (by decide) (hp:=(pgs_cons (pg_name c_nd rfl (Or.inl rfl)) (pgs_cons (pg_name c_nd rfl (Or.inr rfl)) (pgs_cons (pg_name c_nd rfl (Or.inl rfl)) (pgs_cons (pg_name c_nd rfl (Or.inl rfl)) pgs_nil)))))))
 (pcn (pfn (PDW.pt (pdw_or (pdt_not (pdt_val (pd_callB (call_isiD) rfl T.b_isinstance TF.boot_isinstance (pda_cons (va 8) (pda_cons (pd_ty rfl T.b_int TF.boot_int) pda_nil))))) (pdw_or1 (pdt_val (pd_callB (call_isiD) rfl T.b_isinstance TF.boot_isinstance (pda_cons (va 8) (pda_cons (pd_ty rfl T.b_bool TF.boot_bool) pda_nil)))))))
 (pcn (pds_ret (PD.weak pd_bl))
 pnn)
 pdss_nil)
 (pcn (pds_set0 (pasg_compS c_nd rfl (Or.inl rfl) rfl (bk ["script","pen","turn","pieces","due","shown","found","many","at","knot","hues","lying","ties","b","a"] (defScope s_law).names ["k","pieces","at"] [none,some 3,some 8]) (pdi_range1 rfl T.b_range (pln T.b_len (pda_cons (va 3) pda_nil))) (fun _ _ _ _ _ _=>pgn) (fun _ _ _ _ _ _=>(pifs1 (pdt_chain (pd_ix ixd (pd_ix ixd (va 1) (va 0)) pd_int) (pdch_cons (opd_le) (va 2) (pdch_one (opd_lt hr.units0) (pd_ix ixd (pd_ix ixd (va 1) (va 0)) pd_int)))))) (fun _ _ _ _ _ _=>(va 0))))
 (pcn (pfn (PDW.pt (pdw_or (pdt_not (pdt_val (pcal (c__law_tsame.mono) trivial hr (pda_cons (va 9) (pda_cons (pd_callTy (call_tupleDD) rfl T.b_tuple TF.boot_tuple (pda_cons (va 11) pda_nil)) pda_nil))))) (pdw_or1 (pdt_cmp (opd_ne hr.units) (pln T.b_len (pda_cons (va 9) pda_nil)) (va 4)))))
 (pcn (pds_ret (PD.weak pd_bl))
 pnn)
 pdss_nil)
 (pdss_cons (own2:=[12]) (pds_own0 (pasg_set c_nd rfl (Or.inl rfl) (pd_lst pda_nil)))
 (pdss_cons (own2:=[12]) (pds_for (own:=[12]) PassesOwn.never rfl (pdij_range1 rfl T.b_range (pln T.b_len (pda_cons (va 3) pda_nil))) (pdg_name c_nd rfl (Or.inl rfl) (by decide))
 (pdss_cons (own2:=[12]) (pds_for (own:=[12]) PassesOwn.never rfl (pdij_range1 rfl T.b_range (va 13)) (pdg_name c_nd rfl (Or.inl rfl) (by decide))
 (pdss_cons (own2:=[12]) (pds_if (own':=[12]) (pdt_cmp (opd_lt hr.units0) (pd_callB (call_max2D rfl) rfl T.b_max TF.boot_max (pda_cons (pd_ix ixd (pd_ix ixd (va 3) (va 14)) pd_int) (pda_cons (pd_ix ixd (pd_ix ixd (va 3) (va 13)) pd_int) pda_nil))) (pd_callB (call_min2D rfl) rfl T.b_min TF.boot_min (pda_cons (pd_ix ixd (pd_ix ixd (va 3) (va 14)) pd_int) (pda_cons (pd_ix ixd (pd_ix ixd (va 3) (va 13)) pd_int) pda_nil))))
 (pdss_cons (own2:=[12]) (pds_appA (own:=[12]) (i:=12) (by decide) (pd_tup (pda_cons (va 14) (pda_cons (va 13) pda_nil))) (fun _ h=>ps_append (pv 12) h))
 (pdss_nil (own:=[12])))
 pdss_nil)
 (pdss_nil (own:=[12]))))
 (pdss_nil (own:=[12]))))
 (pcn (PDS.frz (own:=[12]) (own2:=[]) (pfn (PDW.pt (pdw_or (pdt_not (pdt_val (pcal (c__law_tis_hueing.mono) trivial hr (pda_cons (pd_tup (pda_cons (pln T.b_len (pda_cons (va 3) pda_nil)) (pda_cons (pd_callTy (call_tupleDD) rfl T.b_tuple TF.boot_tuple (pda_cons (va 12) pda_nil)) pda_nil))) (pda_cons (va 10) pda_nil))))) (pdw_or1 (pdt_cmp (opd_ne hr.units) (pd_lenSet rfl rfl T.b_len TF.boot_len rfl T.b_set TF.boot_set (va 10)) (va 4)))))
 (pcn (pds_ret (PD.weak pd_bl))
 pnn)
 pdss_nil))
 pnn)))))))))))))
 (pcn (pds_ret (PD.weak pd_bl))
 pnn))
end K51
namespace K51
open PySem.Spec PyProof.Rows
open PySem L2 TF TQ
open TP
open TP2
open TP3
theorem sc__law_tdraw:FnScope ["pen","many","found","one","two"] ["pen","many"] (defScope s__law_tdraw):=⟨rfl,rfl,rfl,by decide +kernel,rfl,by decide +kernel,by decide +kernel⟩
set_option maxHeartbeats 4000000 in
theorem ok__law_tdraw {P:Program} {w:World} {K:PySem.W.Frag} {mg:Str→Option Value} {base:Heap} {a_f:Addr} {fd_f:FuncData} (F:Fun K "_law_tdraw" "_law_tdraw" s__law_tdraw a_f fd_f) (T:Txt mg) :
  FnOk P w K mg base CX0 1 a_f fd_f ["pen","many"] (spD 2 true PenD drawF):=by
 have nd:=sc__law_tdraw.nd
 refine F.ok sc__law_tdraw (fun vs H Q E h=>?_) fun cdv A outer s0 H vs Q E hr h=>?_
 ·obtain ⟨G,Hf,ds,pn,d,pn',_,e,_⟩:=h
  exact e
 ·obtain ⟨p,m,rfl,hs⟩:=draw_spec (K:=K) (N:=fun _ H'=>Q .non H') h
  have hu:=L2.hu_of hr
  refine ⟨_,pss_cons (ps_if (PW.pt (pw_and (pt_cmpR op_gt (pe_callB call_len_seq rfl T.b_len TF.boot_len (pa_cons (pe_dget hu (pv 0) pe_str (fun _ _=>rfl)) pa_nil)) pe_int (nomark _)) (pw_and1 (pt_cmpR op_lt (pe_ix ix_list (pe_dget hu (pv 0) pe_str (fun _ _=>rfl)) pe_int (fun _ _=>rfl)) (pv 1) (nomark _)))))
    (pss_one (ps_expr (pe_bm PySem.F.plainAttrs_list PySem.F.slot_list_pop PySem.F.type_list_pop mt_popAt (pe_dget hu (pv 0) pe_str (fun _ _=>rfl)) (pa_cons pe_int pa_nil)))) pss_nil)
   (pss_cons (ps_if (pt_cmpR op_gt (pe_callB call_len_seq rfl T.b_len TF.boot_len (pa_cons (pe_dget hu (pv 0) pe_str (fun _ _=>rfl)) pa_nil)) pe_int (nomark _))
    (pss_cons (ps_set (i:=2) nd rfl (Or.inl rfl) (pe_op op_mod (pe_ix ix_list (pe_dget hu (pv 0) pe_str (fun _ _=>rfl)) pe_int (fun _ _=>rfl)) (pv 1)))
    (pss_cons (ps_asg (pe_op op_fdiv (pe_ix ix_list (pe_dget hu (pv 0) pe_str (fun _ _=>rfl)) pe_int (fun _ _=>rfl)) (pv 1)) (pg_sub (pe_dget hu (pv 0) pe_str (fun _ _=>rfl)) pe_int set_list))
    (pss_one (ps_ret (pv 2))))) pss_nil)
   (pss_cons (ps_dput hu (pv 0) pe_str (pe_op op_add (pe_dget hu (pv 0) pe_str (fun _ _=>rfl)) pe_int) rfl)
   (pss_cons (ps_set (i:=3) nd rfl (Or.inl rfl) (pe_op op_mod (pe_op op_add (pe_dget hu (pv 0) pe_str (fun _ _=>rfl)) (pe_op op_mul (pe_op op_mul pe_int (pe_dget hu (pv 0) pe_str (fun _ _=>rfl))) (pe_dget hu (pv 0) pe_str (fun _ _=>rfl)))) pe_int))
   (pss_cons (ps_set (i:=4) nd rfl (Or.inl rfl) (pe_op op_mod (pe_op op_add (pe_op op_add (pe_op op_mul (pv 3) (pv 3)) (pe_op op_mul pe_int (pe_dget hu (pv 0) pe_str (fun _ _=>rfl)))) pe_int) pe_int))
   (pss_one (ps_ret (pe_op op_mod (pe_op op_fdiv (pe_op op_mod (pe_op op_add (pe_op op_mul (pv 4) (pv 4)) (pv 3)) pe_int) pe_int) (pv 1)))))))),hs⟩
theorem sc__law_tpen:FnScope ["script","mixed","cell"] ["script"] (defScope s__law_tpen):=⟨rfl,rfl,rfl,by decide +kernel,rfl,by decide +kernel,by decide +kernel⟩
set_option maxHeartbeats 4000000 in
theorem ok__law_tpen {P:Program} {w:World} {K:PySem.W.Frag} {mg:Str→Option Value} {base:Heap} {a_f:Addr} {fd_f:FuncData} (F:Fun K "_law_tpen" "_law_tpen" s__law_tpen a_f fd_f) (T:Txt mg) :
  FnOk P w K mg base CX0 1 a_f fd_f ["script"] (spPen K):=by
 have nd:=sc__law_tpen.nd
 refine F.ok sc__law_tpen (fun vs H Q E h=>?_) fun cdv A outer s0 H vs Q E hr h=>?_
 ·obtain ⟨a,ns,rfl,_⟩:=h
  rfl
 ·obtain ⟨a,ns,rfl,hsq⟩:=id h
  refine ⟨_,pss_cons (ps_set (i:=1) nd rfl (Or.inl rfl) pe_int)
   (pss_cons (ps_for PassesOwn.never rfl (pi_list (pv 0)) (pg_name (i:=2) nd rfl (Or.inl rfl)) (pss_one (ps_set (i:=1) nd rfl (Or.inl rfl) (pe_op op_mod (pe_op op_add (pe_op op_add (pe_op op_mul (pv 1) pe_int) (pe_op op_mod (pv 2) pe_int)) pe_int) pe_int))))
   (pss_one (ps_ret (pe_disp (pps_cons pe_str (pv 1) (pps_cons pe_str pe_int (pps_cons pe_str
    (pe_compS (N':=["cell"]) (src:=[none]) rfl (⟨rfl,rfl,by decide +kernel,rfl,by decide +kernel,rfl,by decide +kernel,by decide +kernel⟩:BlkS _ ["script","mixed","cell"] (defScope s__law_tpen).names ["cell"] [none] _) (pi_list (pv 0)) (fun _ _ _ _ _ _=>pg_name (i:=0) (show (["cell"]:List Str).Nodup by decide +kernel) rfl (Or.inl rfl)) (fun _ _ _ _ _ _=>pifs_one (pt_cmpR op_ge (pv 0) (pe_op op_pow pe_int pe_int) (nomark _))) (fun _ _ _ _ _ _=>pv 0)) pps_nil))) rfl rfl (by simp) (by decide))))),pen_sem hsq.1 hsq.2.1 hsq.2.2⟩
end K51
namespace TF
open PySem PySem.Spec PyProof.Rows L2
theorem ux0 {α:Type} (us:List α) (e:us.length=0):us=[]:=by cases us with | nil=>rfl | cons=>cases e
theorem ux1 {α:Type} (us:List α) (e:us.length=1):∃a,us=[a]:=by
 cases us with | nil=>cases e | cons a r=>cases ux0 r (Nat.succ.inj e);exact ⟨a,rfl⟩
theorem ux2 {α:Type} (us:List α) (e:us.length=2):∃a b,us=[a,b]:=by
 cases us with | nil=>cases e | cons a r=>obtain ⟨b,rfl⟩:=ux1 r (Nat.succ.inj e);exact ⟨a,b,rfl⟩
theorem ux3 {α:Type} (us:List α) (e:us.length=3):∃a b c,us=[a,b,c]:=by
 cases us with | nil=>cases e | cons a r=>obtain ⟨b,c,rfl⟩:=ux2 r (Nat.succ.inj e);exact ⟨a,b,c,rfl⟩
noncomputable def IsC (K:PySem.W.Frag) (x:Str) (st:Stmt) (c:Addr):Prop:=∃(f:Addr) (fd:FuncData),PySem.W.nsIn K mainGlobals x=some (some (.ref f))∧Fun K x x st f fd∧fd.code=.ref c
noncomputable def fnO (x:Str) (st:Stmt) (pm:Value) (c:Addr):Obj:=⟨.type "function",none,.func (PySem.W.fnOf x x (defArgs st) (defBody st) (defScope st) .none .none .none pm none (.ref c) .none),#[]⟩
noncomputable def cdO (x:Str) (t:Nat) (ln ac:Int) (a:Addr) (tx k:Nat) (v:Bool):Obj:=
 ⟨.type "code",none,.fields #[.str x t,.str x (t+1),.str "/claim/cut.py" (t+2),.int ln 0,.int ac 0,.int 0 0,.int 0 0,.int 3 0,.ref a,.bool true,.int tx 0,.ref (a+1),.none,
  (match v with | true=>.ref (a+2) | false=>.none),(match v with | true=>.ref (a+3) | false=>.none),.ref (match v with | true=>a+4 | false=>a+2),.int k 0,.int ln 0,.str "/claim/cut.py" (k+1)],#[]⟩
structure DRow where
 x:Str
 i:Nat
 t:Nat
 ln:Int
 ac:Int
 a:Addr
 k:Nat
 v:Bool
 pm:Str
 pt:Nat
noncomputable def DRow.c (r:DRow):Addr:=match r.v with | true=>r.a+5 | false=>r.a+3
noncomputable def dE (P:Params) (x:Str) (t:Nat) (v:Value):DictEntry:=⟨PyData.keyHash P x,.str x t,v⟩
noncomputable abbrev nE (x:Str) (t:Nat) (a:Addr):Str×Nat×Addr:=(x,t,a)
noncomputable abbrev dR (x:Str) (i t:Nat) (ln ac:Int) (a:Addr) (k:Nat) (v:Bool) (pm:Str) (pt:Nat):DRow:=⟨x,i,t,ln,ac,a,k,v,pm,pt⟩
noncomputable def dRs (P:Params) (l:List (Str×Nat×Addr)):List DictEntry:=l.map fun e=>dE P e.1 e.2.1 (.ref e.2.2)
noncomputable def fragK (top:Nat→Stmt) (tx:Nat) (m:List DictEntry) (n:Nat) (rs:List DRow):PySem.W.Frag:=
 (mainNs,⟨.type "dict",none,.dict m.toArray n,#[]⟩)::rs.flatMap fun r=>[(r.c,cdO r.x r.t r.ln r.ac r.a tx r.k r.v),(r.c+1,fnO r.x (top r.i) (.str r.pm r.pt) r.c)]
theorem is_mk {K:PySem.W.Frag} {x:Str} {st:Stmt} {pm:Value} {c f:Addr} (a:PySem.W.nsIn K mainGlobals x=some (some (.ref f))) (l:K.lookup f=some (fnO x st pm c)) (cd:PySem.W.codeIn K (.ref c) x=true):IsC K x st c:=
 ⟨f,_,a,fun_mk l cd (by unfold PySem.W.keepIn;dsimp only;rw [l];rfl),rfl⟩
theorem _root_.L2.Fun.lk {K:PySem.W.Frag} {x q:Str} {st:Stmt} {f:Addr} {fd:FuncData} (F:Fun K x q st f fd):∃oc od osl,K.lookup f=some ⟨oc,od,.func fd,osl⟩:=by
 obtain ⟨oc,od,kV,doc,pm,an,cdv,ct,osl,rfl,lk,hcd⟩:=F.ex
 exact ⟨_,_,_,lk⟩
noncomputable def defPos:Stmt→Pos
 | .FunctionDef _ _ _ _ _ _ _ _ _ p=>p
 | _=>⟨0,0,0,0⟩
noncomputable abbrev lawRec (st:Stmt):DefRec:=⟨"law",defArgs st,defBody st,defScope st,defPos st⟩
theorem head_of {l:PySem.W.OpenLaw} {q:Program} {K:Params→PySem.W.Frag} {as:List Addr} {e:∀P,as=(K P).map (·.1)} {N:Nat} {st:Stmt} (said:l.wellSaid=true)
  (left:PySem.W.LeftO l.prog q [] (fun s=>PySem.W.xlAt q [] s&&PySem.W.recOk l.row.records s) (PySem.W.kHook K as e).obs (PySem.W.kHook K as e).val N)
  (hdef:PySem.W.defOf q l.row.name=some (lawRec st,[])) (hp:l.row.prog.theDef l.row.name=some (defArgs st,defBody st,defScope st))
  (hk:PySem.W.kwWritten? (defArgs st).kwonlyargs (defArgs st).kw_defaults=some [])
  (ok:(PySem.W.chainsOk q&&PySem.W.opensWell l.row.prog&&(PySem.W.frees l.row.toRowW&&l.row.within.isEmpty))=true) (hb:l.row.prog.bare) (hw:l.row.toRowW.promised) (hwr:(!l.row.writes||l.row.records.isEmpty)=true)
  (call:PySem.W.WalkO q [] (PySem.W.XL q []) (PySem.W.kHook K as e).says l.row.toRowW (lawRec st) [] fun f vs=>PySem.call f vs):l.Holds:=
 PySem.W.holds_law said fun sd=>PySem.W.holds_open left (PySem.W.kHook K as e).of (PySem.W.kHook K as e).keeps (fun s z=>PySem.W.xl_of s (Bool.and_eq_true_iff.mp z).1) PySem.W.XL.keeps hdef hp hk (fun s z=>PySem.W.recFacts_of (Bool.and_eq_true_iff.mp z).2) hwr sd ok hb hw call
noncomputable def AtR (K:PySem.W.Frag) (mg:Str→Option Value) (top:Nat→Stmt) (r:DRow):Prop:=∃(f:Addr) (fd:FuncData),Fun K r.x r.x (top r.i) f fd∧mg r.x=some (.ref f)∧fd.code=.ref r.c
noncomputable def RowOk (K:PySem.W.Frag) (top:Nat→Stmt) (r:DRow):Prop:=PySem.W.nsIn K mainGlobals r.x=some (some (.ref (r.c+1)))∧K.lookup (r.c+1)=some (fnO r.x (top r.i) (.str r.pm r.pt) r.c)∧PySem.W.codeIn K (.ref r.c) r.x=true
noncomputable def RowsOk (K:PySem.W.Frag) (top:Nat→Stmt):List DRow→Prop
 | []=>True
 | r::l=>RowOk K top r∧RowsOk K top l
theorem rows_get {K:PySem.W.Frag} {top:Nat→Stmt}:∀{l:List DRow} {j:Nat} {r:DRow},RowsOk K top l→l[j]?=some r→RowOk K top r
 | _::_,0,_,h,e=>by cases e;exact h.1
 | _::l,j+1,_,h,e=>rows_get (l:=l) h.2 e
theorem row_at {K:PySem.W.Frag} {h:Heap} {mg:Str→Option Value} {top:Nat→Stmt} {l:List DRow} (ok:RowsOk K top l) (X:K.In h) (G:h.Ns mainGlobals mg) (j:Nat) {r:DRow} (e:l[j]?=some r:=by rfl):AtR K mg top r:=by
 obtain ⟨a,b,c⟩:=rows_get ok e
 obtain ⟨f,fd,a,F,d⟩:=is_mk a b c
 exact ⟨f,fd,F,PySem.W.mg_of X G a,d⟩
theorem bdc {K:PySem.W.Frag} {x:Str} {st:Stmt} {f:Addr} {fd:FuncData} (ps:List Str) (F:Fun K x x st f fd)
  (h:∀(kV doc pm:Value) (an:Option Addr) (cdv ct:Value) (us:List Value),us.length=ps.length→bindArgs (PySem.W.fnOf x x (defArgs st) (defBody st) (defScope st) .none kV doc pm an cdv ct) ⟨us,[]⟩=pure (ps.zip us):=by
   intro _ _ _ _ _ _ us hl
   first
    | (obtain ⟨_,rfl⟩:=TF.ux1 us hl;rfl)
    | (obtain ⟨_,_,rfl⟩:=TF.ux2 us hl;rfl)
    | (obtain ⟨_,_,_,rfl⟩:=TF.ux3 us hl;rfl)
    | (obtain ⟨_,_,_,_,rfl⟩:=TF.ux4 us hl;rfl)
    | (obtain ⟨_,_,_,_,_,rfl⟩:=TF.ux5 us hl;rfl)
    | (obtain ⟨_,_,_,_,_,_,rfl⟩:=TF.ux6 us hl;rfl)
    | (obtain ⟨_,_,_,_,_,_,_,rfl⟩:=TF.ux7 us hl;rfl)
    | (obtain rfl:=TF.ux0 us hl;rfl)):Binds K fd ps []:=F.binds h
theorem mkc {P:Program} {w:World} {K:PySem.W.Frag} {mg:Str→Option Value} (base:Heap) {x:Str} {st:Stmt} {f:Addr} {fd:FuncData} {k n:Nat} {ps:List Str} {fr:Bool} {GG:Gh→Prop} {F9:List D→M D} (F:Fun K x x st f fd) (m:mg x=some (.ref f)) (ok:FnOk P w K mg base CX0 k f fd ps (spD n fr GG F9))
  (h:∀(kV doc pm:Value) (an:Option Addr) (cdv ct:Value) (us:List Value),us.length=ps.length→bindArgs (PySem.W.fnOf x x (defArgs st) (defBody st) (defScope st) .none kV doc pm an cdv ct) ⟨us,[]⟩=pure (ps.zip us):=by
   intro _ _ _ _ _ _ us hl
   first
    | (obtain ⟨_,rfl⟩:=TF.ux1 us hl;rfl)
    | (obtain ⟨_,_,rfl⟩:=TF.ux2 us hl;rfl)
    | (obtain ⟨_,_,_,rfl⟩:=TF.ux3 us hl;rfl)
    | (obtain ⟨_,_,_,_,rfl⟩:=TF.ux4 us hl;rfl)
    | (obtain ⟨_,_,_,_,_,rfl⟩:=TF.ux5 us hl;rfl)
    | (obtain ⟨_,_,_,_,_,_,rfl⟩:=TF.ux6 us hl;rfl)
    | (obtain ⟨_,_,_,_,_,_,_,rfl⟩:=TF.ux7 us hl;rfl)
    | (obtain rfl:=TF.ux0 us hl;rfl)):Cal P w K mg base k x n fr GG F9:=⟨f,fd,ps,ok,m,F.kp,F.binds h⟩
end TF
namespace TP2
open PySem L2 TF TP
end TP2
namespace TP2
open PySem L2 TF TP
noncomputable abbrev nD (i:Nat):D:=.int (i:Int)
noncomputable def tupN (k:List Nat):D:=.tup (k.map nD)
noncomputable def okK (ties:List (Nat×Nat)) (i:Nat) (k:List Nat):Bool:=k.all fun o=>decide ((o,i)∈ties)
noncomputable def kn (ties:List (Nat×Nat)):Nat→List (List Nat)
 | 0=>[[]]
 | i+1=>kn ties i++((kn ties i).filter (okK ties i)).map (· ++ [i])
theorem kn_mem {ties:List (Nat×Nat)}:∀{i:Nat} {k:List Nat},k∈kn ties i→(∀o∈k,o<i)∧k.length≤i
 | 0,k,h=>by
  have:k=[]:=by simpa [kn] using h
  subst this
  simp
 | i+1,k,h=>by
  rw [kn] at h
  rcases List.mem_append.mp h with h | h
  ·have:=kn_mem h
   exact ⟨fun o ho=>Nat.lt_succ_of_lt (this.1 o ho),by omega⟩
  ·obtain ⟨q,hq,rfl⟩:=List.mem_map.mp h
   have:=kn_mem (List.mem_filter.mp hq).1
   refine ⟨fun o ho=>?_,by simp;omega⟩
   rcases List.mem_append.mp ho with ho | ho
   ·exact Nat.lt_succ_of_lt (this.1 o ho)
   ·rw [List.mem_singleton.mp ho];omega
theorem dIn_kv (p:Nat×Nat) (ties:List (Nat×Nat)):dIn (pairD p) (.dt (kvT [] ties))=some (.bl (decide (p∈ties))):=by
 have e:dInB (pairD p) (.dt (kvT [] ties))=some (decide (p∈ties)):=by
  show (keysOf [.int (p.1:Int),.int (p.2:Int)]).map (fun k=>(valV (kvT [] ties) k).isSome)=_
  show some ((valV (kvT [] ties) (keyP p)).isSome)=_
  rw [kvT_look]
  simp [valV]
 unfold dIn
 rw [e];rfl
theorem all_bools {α:Type} (l:List α) (p:α→Bool):dAll [.lst (l.map fun x=>D.bl (p x))]=some (.bl (l.all p)):=by
 show (boolsOf _).map _=_
 rw [show l.map (fun x=>D.bl (p x))=(l.map p).map D.bl by rw [List.map_map];rfl,boolsOf_map]
 show some (D.bl _)=some (D.bl _)
 rw [List.all_map];rfl
noncomputable def nearL (n:Nat) (ties:List (Nat×Nat)) (p:Nat):List Nat:=(List.range n).filter fun o=>tied ties p o
noncomputable def nearsD (n:Nat) (ties:List (Nat×Nat)):D:=.lst ((List.range n).map fun p=>.lst ((nearL n ties p).map nD))
theorem dEq_nD (a b:Nat):dEq (nD a) (nD b)=decide (a=b):=by
 show ((a:Int)==(b:Int))=_
 rw [Bool.eq_iff_iff,beq_iff_eq,decide_eq_true_eq]
 constructor <;> intro h <;> omega
theorem inD_nats (o:Nat) (l:List Nat):inD (nD o) (l.map nD)=decide (o∈l):=by
 unfold inD
 induction l with
 | nil=>simp
 | cons t ts ih=>
  rw [List.map_cons,List.any_cons,ih,dEq_nD]
  by_cases h:t=o
  ·subst h;simp
  ·have:¬o=t:=fun z=>h z.symm
   simp [h,this]
theorem plain_nats (l:List Nat):plainDs (l.map nD)=true:=by
 induction l with
 | nil=>simp [plainDs]
 | cons a l ih=>simp [plainDs,plainD,ih]
theorem deps_nD (l:List Nat):deps (l.map nD)=0:=by
 induction l with
 | nil=>simp [deps]
 | cons a l ih=>simp [deps,dep,ih]
theorem dIn_nats (o:Nat) (l:List Nat):dIn (nD o) (.lst (l.map nD))=some (.bl (decide (o∈l))):=by
 have h:okIn (nD o) (l.map nD)=true:=by simp [okIn,plainD,plain_nats,dep,deps_nD]
 simp only [dIn,dInB,h,if_true,Option.map,inD_nats]
end TP2
namespace TP2
open PySem L2 TF TP
noncomputable def mxN (l:List Nat):Nat:=l.foldl max 0
theorem foldl_max_ge (l:List Nat):∀a,a≤l.foldl max a∧∀x∈l,x≤l.foldl max a:=by
 induction l with
 | nil=>intro a;simp
 | cons b l ih=>
  intro a
  obtain ⟨h1,h2⟩:=ih (max a b)
  refine ⟨?_,fun x hx=>?_⟩
  ·show a≤l.foldl max (max a b);omega
  ·show x≤l.foldl max (max a b)
   rcases List.mem_cons.mp hx with rfl | hx
   ·omega
   ·exact h2 x hx
theorem foldl_max_le (l:List Nat) (b:Nat) (h:∀x∈l,x≤b):∀a,a≤b→l.foldl max a≤b:=by
 induction l with
 | nil=>intro a ha;exact ha
 | cons c l ih=>
  intro a ha
  exact ih (fun x hx=>h x (by simp [hx])) (max a c) (by have:=h c (by simp);omega)
theorem maxI_nat (l:List Nat):∀a:Nat,maxI (a:Int) (l.map fun (i:Nat)=>(i:Int))=((l.foldl max a:Nat):Int):=by
 induction l with
 | nil=>intro a;rfl
 | cons b l ih=>
  intro a
  show maxI (max (a:Int) (b:Int)) (l.map fun (i:Nat)=>(i:Int))=_
  rw [show max (a:Int) (b:Int)=((max a b:Nat):Int) by omega,ih]
  rfl
theorem intsOf_nats (l:List Nat):intsOf (l.map nD)=some (l.map fun (i:Nat)=>(i:Int)):=by
 have:=intsOf_map (l.map fun (i:Nat)=>(i:Int))
 rw [List.map_map] at this
 exact this
end TP2
namespace TP2
open PySem L2 TF TP
end TP2
namespace TP2
open PySem L2 TF TP
noncomputable def RT (ties:List (Nat×Nat)) (a b:Nat):Prop:=a<b∧(a,b)∈ties
theorem mem_kn {ties:List (Nat×Nat)}:∀{n:Nat} {k:List Nat},k∈kn ties n↔k.Pairwise (RT ties)∧∀o∈k,o<n
 | 0,k=>by
  constructor
  ·intro h
   have:k=[]:=by simpa [kn] using h
   subst this
   exact ⟨.nil,by simp⟩
  ·rintro ⟨_,h⟩
   cases k with
   | nil=>simp [kn]
   | cons a k=>exact absurd (h a (by simp)) (by omega)
 | n+1,k=>by
  rw [kn,List.mem_append]
  constructor
  ·rintro (h | h)
   ·have:=mem_kn.mp h
    exact ⟨this.1,fun o ho=>Nat.lt_succ_of_lt (this.2 o ho)⟩
   ·obtain ⟨q,hq,rfl⟩:=List.mem_map.mp h
    obtain ⟨hq1,hq2⟩:=List.mem_filter.mp hq
    have:=mem_kn.mp hq1
    unfold okK at hq2
    rw [List.all_eq_true] at hq2
    refine ⟨List.pairwise_append.mpr ⟨this.1,by simp,fun a ha b hb=>?_⟩,fun o ho=>?_⟩
    ·rw [List.mem_singleton.mp hb]
     exact ⟨this.2 a ha,by simpa using hq2 a ha⟩
    ·rcases List.mem_append.mp ho with ho | ho
     ·exact Nat.lt_succ_of_lt (this.2 o ho)
     ·rw [List.mem_singleton.mp ho];omega
  ·rintro ⟨h1,h2⟩
   by_cases hn:n∈k
   ·right
    obtain ⟨a,b,rfl⟩:=List.append_of_mem hn
    have hp:=List.pairwise_append.mp h1
    have hb:b=[]:=by
     cases b with
     | nil=>rfl
     | cons y b=>
      have r1:=(List.pairwise_cons.mp hp.2.1).1 y (by simp)
      have:=h2 y (by simp)
      have:=r1.1
      omega
    subst hb
    have ha:∀o∈a,RT ties o n:=fun o ho=>hp.2.2 o ho n (by simp)
    refine List.mem_map.mpr ⟨a,List.mem_filter.mpr ⟨mem_kn.mpr ⟨hp.1,fun o ho=>(ha o ho).1⟩,?_⟩,rfl⟩
    unfold okK
    rw [List.all_eq_true]
    exact fun o ho=>by simpa using (ha o ho).2
   ·left
    refine mem_kn.mpr ⟨h1,fun o ho=>?_⟩
    have:=h2 o ho
    have:o≠n:=fun z=>hn (z▸ho)
    omega
theorem rise_R {R:Nat→Nat→Prop} {k:List Nat} (hr:k.Pairwise (· < ·)) (h:k.Pairwise R) {a b:Nat} (ha:a∈k) (hb:b∈k) (hab:a<b):R a b:=by
 obtain ⟨i,hi,rfl⟩:=List.getElem_of_mem ha
 obtain ⟨j,hj,rfl⟩:=List.getElem_of_mem hb
 have p1:=List.pairwise_iff_getElem.mp hr
 have p2:=List.pairwise_iff_getElem.mp h
 rcases Nat.lt_trichotomy i j with z | z | z
 ·exact p2 i j hi hj z
 ·subst z;exact absurd hab (Nat.lt_irrefl _)
 ·have:=p1 j i hj hi z;omega
end TP2
namespace TP3
open PySem L2 TF TP TS
open TP2
noncomputable def natsI (k:List Nat):List Int:=k.map fun (x:Nat)=>(x:Int)
noncomputable def shp:Nat→D→Prop
 | 0,_=>False
 | _+1,.int _=>True
 | m+1,.tup ds=>ds.length≤100000∧∀d∈ds,shp m d
 | m+1,.lst ds=>ds.length≤100000∧∀d∈ds,shp m d
 | _+1,_=>False
theorem zip_self (l:List D):zipD l l=l.map fun d=>D.tup [d,d]:=by
 unfold zipD
 induction l with
 | nil=>rfl
 | cons a l ih=>rw [List.zipWith_cons_cons,ih];rfl
theorem same_items {m:Nat} {d:D} {l:List D} (hz:∀s,iZipS (dVar 0) (dVar 1) [some d,some d] s=some (zipD l l,s)) (hd:dLen [d]=some (.int l.length)) (hl:l.length≤100000) (h:∀x∈l,∀s,F__law_tsame m [x,x] s=some (.bl true,s)) (s:Pn) :
  vAnd (dOp dEqO (dCall dLen (dCons (dVar 0) dNil)) (dCall dLen (dCons (dVar 1) dNil))) (dCall dAll (dCons (dComp [none,none] (iZipS (dVar 0) (dVar 1)) (gPair 0 1) bTrue (dFn (F__law_tsame m) (dCons (dVar 0) (dCons (dVar 1) dNil)))) dNil)) [some d,some d] s=some (.bl true,s):=by
 have hi:=hz s
 rw [zip_self] at hi
 have hc:=ev_comp (src:=[none,none]) (fi:=iZipS (dVar 0) (dVar 1)) (τ:=gPair 0 1) (ft:=bTrue) (fe:=dFn (F__law_tsame m) (dCons (dVar 0) (dCons (dVar 1) dNil))) (ρ:=[some d,some d]) (s:=s) (ds:=l.map fun d=>D.tup [d,d]) (fun d=>match d with | .tup [a,b]=>[some a,some b] | _=>[]) (fun _=>true) (fun _=>.bl true) hi (by rw [List.length_map,sizeLine_v];omega) (fun d hd=>by
  obtain ⟨x,hx,rfl⟩:=List.mem_map.mp hd
  exact ⟨rfl,rfl,fun _=>fn_eq (cons_eq rfl (cons_eq rfl rfl)) (h x hx s)⟩)
 rw [filter_tt] at hc
 refine vAnd_t (op_eq' (d:=.int l.length) (e:=.int l.length) (c:=.bl true) (call_eq (cons_eq rfl rfl) hd) (call_eq (cons_eq rfl rfl) hd) (by rw [eqi];simp)) (call_eq (cons_eq hc rfl) ?_)
 have:=all_bools (l.map fun d=>D.tup [d,d]) (fun _=>true)
 rw [this]
 simp
theorem tsame_self:∀{m:Nat} {d:D},shp m d→∀s,F__law_tsame m [d,d] s=some (.bl true,s)
 | 0,_,h,_=>h.elim
 | m+1,.int a,_,s=>by
  refine runB_eq rfl (sSeq_nx (sIf_f (asB_eq (op_eq' (d:=.int a) (e:=.non) (c:=.bl false) rfl rfl rfl)) rfl) (sSeq_nx (sIf_f (asB_eq (call_eq (c:=.bl false) (cons_eq rfl (cons_eq rfl rfl)) rfl)) rfl) (sSeq_rt (sIf_t (asB_eq (call_eq (c:=.bl true) (cons_eq rfl (cons_eq rfl rfl)) rfl)) (sSeq_rt (sRet_eq ?_))))))
  refine vAnd_t (call_eq (cons_eq rfl (cons_eq rfl rfl)) rfl) (vAnd_t (vNot_eq (a:=false) (call_eq (cons_eq rfl (cons_eq rfl rfl)) rfl)) (op_eq' (d:=.int a) (e:=.int a) rfl rfl ?_))
  rw [eqi];simp
 | m+1,.lst l,h,s=>by
  refine runB_eq rfl (sSeq_nx (sIf_f (asB_eq (op_eq' (d:=.lst l) (e:=.non) (c:=.bl false) rfl rfl rfl)) rfl) (sSeq_nx (sIf_f (asB_eq (call_eq (c:=.bl false) (cons_eq rfl (cons_eq rfl rfl)) rfl)) rfl) (sSeq_nx (sIf_f (asB_eq (call_eq (c:=.bl false) (cons_eq rfl (cons_eq rfl rfl)) rfl)) rfl) (sSeq_nx (sIf_f (asB_eq (call_eq (c:=.bl false) (cons_eq rfl (cons_eq rfl rfl)) rfl)) rfl) (sSeq_nx (sIf_f (bor_f (asB_eq (op_eq' (d:=.bl false) (e:=.bl false) (call_eq (cons_eq rfl (cons_eq rfl rfl)) rfl) (call_eq (cons_eq rfl (cons_eq rfl rfl)) rfl) (neb _ _))) (asB_eq (op_eq' (d:=.bl true) (e:=.bl true) (call_eq (cons_eq rfl (cons_eq rfl rfl)) rfl) (call_eq (cons_eq rfl (cons_eq rfl rfl)) rfl) (neb _ _)))) rfl) (sSeq_rt (sRet_eq ?_)))))))
  exact same_items (fun _=>rfl) rfl h.1 (fun x hx s=>tsame_self (h.2 x hx) s) s
 | m+1,.tup l,h,s=>by
  refine runB_eq rfl (sSeq_nx (sIf_f (asB_eq (op_eq' (d:=.tup l) (e:=.non) (c:=.bl false) rfl rfl rfl)) rfl) (sSeq_nx (sIf_f (asB_eq (call_eq (c:=.bl false) (cons_eq rfl (cons_eq rfl rfl)) rfl)) rfl) (sSeq_nx (sIf_f (asB_eq (call_eq (c:=.bl false) (cons_eq rfl (cons_eq rfl rfl)) rfl)) rfl) (sSeq_nx (sIf_f (asB_eq (call_eq (c:=.bl false) (cons_eq rfl (cons_eq rfl rfl)) rfl)) rfl) (sSeq_nx (sIf_f (bor_f (asB_eq (op_eq' (d:=.bl true) (e:=.bl true) (call_eq (cons_eq rfl (cons_eq rfl rfl)) rfl) (call_eq (cons_eq rfl (cons_eq rfl rfl)) rfl) (neb _ _))) (asB_eq (op_eq' (d:=.bl false) (e:=.bl false) (call_eq (cons_eq rfl (cons_eq rfl rfl)) rfl) (call_eq (cons_eq rfl (cons_eq rfl rfl)) rfl) (neb _ _)))) rfl) (sSeq_rt (sRet_eq ?_)))))))
  exact same_items (fun _=>rfl) rfl h.1 (fun x hx s=>tsame_self (h.2 x hx) s) s
end TP3
namespace TP3
open PySem L2 TF TP TS
open TP2
theorem mem_knS {n:Nat} {ties:List (Nat×Nat)} {k:List Nat}:k∈kn ties n↔k.Pairwise (· < ·)∧(∀o∈k,o<n)∧∀a∈k,∀b∈k,a≠b→tied ties a b=true:=by
 rw [mem_kn]
 constructor
 ·rintro ⟨h1,h2⟩
  have hr:k.Pairwise (· < ·):=h1.imp fun h=>h.1
  refine ⟨hr,h2,fun a ha b hb hab=>?_⟩
  by_cases hlt:a<b
  ·rw [tied_lt hlt];simpa using (rise_R hr h1 ha hb hlt).2
  ·have hlt:b<a:=by omega
   rw [tied_comm,tied_lt hlt];simpa using (rise_R hr h1 hb ha hlt).2
 ·rintro ⟨hr,h2,h3⟩
  refine ⟨?_,h2⟩
  refine List.Pairwise.imp_of_mem (fun {a b} ha hb hab=>?_) hr
  refine ⟨hab,?_⟩
  have:=h3 a ha b hb (by omega)
  rw [tied_lt hab] at this
  simpa using this
theorem range_rise (n:Nat):(List.range n).Pairwise (· < ·):=List.pairwise_lt_range
theorem rise_nodup {k:List Nat} (h:k.Pairwise (· < ·)):k.Nodup:=h.imp fun h=>by omega
section
variable {m n:Nat} {f:Nat→Nat} {tm tn:List (Nat×Nat)}
theorem nodup_len {α:Type} [BEq α] [LawfulBEq α]:∀{a b:List α},a.Nodup→(∀x∈a,x∈b)→a.length≤b.length
 | [],_,_,_=>by simp
 | x::a,b,nd,h=>by
  have nd':=List.nodup_cons.mp nd
  have hx:=h x (by simp)
  have ih:=nodup_len (a:=a) (b:=b.erase x) nd'.2 fun y hy=>(List.mem_erase_of_ne (fun (z:y=x)=>nd'.1 (by rw [←z];exact hy))).mpr (h y (by simp [hy]))
  have:=List.length_erase_of_mem hx
  have:0<b.length:=List.length_pos_of_mem hx
  simp only [List.length_cons];omega
theorem mxN_ge {l:List Nat} {x:Nat} (h:x∈l):x≤mxN l:=(foldl_max_ge l 0).2 x h
end
end TP3
namespace TP3
open PySem L2 TF TP TS
open TP2
theorem are_tiedD_eq (ties:List (Nat×Nat)) (a b:Nat) (s:Pn):F_are_tied [.dt (kvT [] ties),.int a,.int b] s=some (.bl (tied ties a b),s):=by
 simp [F_are_tied,g_are_tied,runB,sSeq,sRet,sNext,dOp,dCall,dCons,dNil,dTup,dVar,mbind,mret,mOf,dMin2,dMax2,two_le,minmax_tup,dIn_kv,tied]
end TP3
namespace TP3
open PySem L2 TF TP TS
open TP2
theorem ne_self {d:D} (h:plainD d=true) (hd:dep d≤60):dNeO d d=some (.bl false):=by
 unfold dNeO okEq
 rw [if_pos (by simp [h,hd]),dEq_refl d h];rfl
end TP3
namespace TP3
open PySem L2 TF TP TS
open TP2
noncomputable def freeL (l:List Nat):List Nat:=(List.range (l.length+1)).filter fun h=>!decide (h∈l)
theorem free_ne (l:List Nat):freeL l≠[]:=fun h=>by
 have:=nodup_len (a:=List.range (l.length+1)) (b:=l) List.nodup_range fun x hx=>by
  by_cases m:x∈l
  ·exact m
  ·have:x∈freeL l:=List.mem_filter.mpr ⟨hx,by simpa using m⟩
   rw [h] at this;simp at this
 rw [List.length_range] at this
 omega
noncomputable def mex (l:List Nat):Nat:=(freeL l).headD 0
theorem mex_spec (l:List Nat):mex l∉l∧∀x<mex l,x∈l:=by
 have hne:=free_ne l
 cases e:freeL l with
 | nil=>exact absurd e hne
 | cons m r=>
  have hm:mex l=m:=by unfold mex;rw [e];rfl
  have h1:m∈freeL l:=by rw [e];simp
  have h2:=List.mem_filter.mp h1
  rw [hm]
  refine ⟨by simpa using h2.2,fun x hx=>?_⟩
  by_cases mx:x∈l
  ·exact mx
  ·have hr:=List.mem_range.mp h2.1
   have h3:x∈freeL l:=List.mem_filter.mpr ⟨List.mem_range.mpr (by omega),by simpa using mx⟩
   have h4:(freeL l).Pairwise (· < ·):=(range_rise _).sublist List.filter_sublist
   rw [e] at h3 h4
   rcases List.mem_cons.mp h3 with z | z
   ·omega
   ·have:=(List.pairwise_cons.mp h4).1 x z
    omega
theorem mex_uniq {l:List Nat} {m:Nat} (h1:m∉l) (h2:∀x<m,x∈l):m=mex l:=by
 obtain ⟨g1,g2⟩:=mex_spec l
 rcases Nat.lt_trichotomy m (mex l) with h | h | h
 ·exact absurd (g2 m h) h1
 ·exact h
 ·exact absurd (h2 _ h) g1
theorem mex_congr {l l':List Nat} (h:∀x,x∈l↔x∈l'):mex l=mex l':=by
 obtain ⟨g1,g2⟩:=mex_spec l
 exact mex_uniq (fun z=>g1 ((h _).mpr z)) fun x hx=>(h x).mp (g2 x hx)
theorem mex_le (l:List Nat):mex l≤l.length:=by
 have h:=nodup_len (a:=List.range (mex l)) (b:=l) List.nodup_range fun x hx=>(mex_spec l).2 x (List.mem_range.mp hx)
 rw [List.length_range] at h;exact h
theorem minI_head {n:Int} {r:List Int} (h:∀a∈r,n≤a):minI n r=n:=(min_uniq (by simp) fun a ha=>by
 rcases List.mem_cons.mp ha with rfl | ha
 ·exact Int.le_refl _
 ·exact h a ha).symm
theorem min_rise {l:List Nat} (hr:l.Pairwise (· < ·)) (hn:l≠[]):dMinL [.lst (l.map nD)]=some (nD (l.headD 0)):=by
 cases l with
 | nil=>exact absurd rfl hn
 | cons m r=>
  have e:intsOf ((m::r).map nD)=some ((m:Int)::r.map fun (i:Nat)=>(i:Int)):=intsOf_nats (m::r)
  show (match intsOf ((m::r).map nD) with | some (n::r)=>some (D.int (minI n r)) | _=>none)=_
  rw [e]
  show some (D.int (minI (m:Int) (r.map fun (i:Nat)=>(i:Int))))=_
  rw [minI_head fun a ha=>?_]
  ·rfl
  ·obtain ⟨x,hx,rfl⟩:=List.mem_map.mp ha
   have:=(List.pairwise_cons.mp hr).1 x hx
   omega
theorem lenL_eq (l:List D):dLen [.lst l]=some (nD l.length):=rfl
theorem dNotIn_nats (o:Nat) (l:List Nat):dNotIn (nD o) (.lst (l.map nD))=some (.bl (!decide (o∈l))):=by
 have h:=dIn_nats o l
 unfold dIn at h
 unfold dNotIn
 cases e:dInB (nD o) (.lst (l.map nD)) with
 | none=>rw [e] at h;cases h
 | some b=>
  rw [e] at h
  have h:=Option.some.inj h
  have h:=D.bl.inj h
  subst h
  rfl
theorem least_free_eq (l:List Nat) (hl:l.length≤1000) (s:Pn):F_least_free [.lst (l.map nD)] s=some (nD (mex l),s):=by
 have hc:=ev_comp (src:=[none,some 0]) (fi:=iRange1 (dOp dAdd (dCall dLen (dCons (dVar 0) dNil)) (dC (.int 1)))) (τ:=gOne 0) (ft:=asB (dOp dNotIn (dVar 0) (dVar 1))) (fe:=dVar 0) (ρ:=[some (.lst (l.map nD))]) (s:=s) (ds:=dRange 0 (l.length+1)) (fun d=>[some d,some (.lst (l.map nD))]) (fun d=>!decide (nat0 d∈l)) (fun d=>d)
  (ev_range1 (n:=l.length+1) (op_eq' (d:=nD l.length) (e:=.int 1) (call_eq (cons_eq rfl rfl) (by rw [lenL_eq,List.length_map])) rfl rfl) (by omega)) (by rw [dRange_len,sizeLine_v];omega) (fun d hd=>by
  obtain ⟨i,hi,rfl⟩:=dRange_mem hd
  exact ⟨rfl,asB_eq (op_eq' (d:=nD i) (e:=.lst (l.map nD)) rfl rfl (dNotIn_nats i l)),fun _=>rfl⟩)
 rw [filter_ints (l.length+1) fun h=>!decide (h∈l)] at hc
 refine runB_eq rfl (sSeq_rt (sRet_eq (call_eq (cons_eq hc rfl) ?_)))
 exact min_rise (l:=freeL l) ((range_rise _).sublist List.filter_sublist) (free_ne l)
noncomputable def hr (ties:List (Nat×Nat)):List Nat→Nat→Nat
 | [],_=>0
 | p::qs,x=>if x=p then mex ((qs.filter fun o=>tied ties p o).map (hr ties qs)) else hr ties qs x
noncomputable def kvF (qs:List Nat) (f:Nat→Nat):List (Key×V):=qs.map fun (q:Nat)=>(Sum.inl (q:Int),V.int (f q))
theorem kvF_val {f:Nat→Nat} {x:Nat}:∀qs:List Nat,valV (kvF qs f) (Sum.inl (x:Int))=if x∈qs then some (.int (f x)) else none
 | []=>rfl
 | q::qs=>by
  by_cases e:q=x
  ·subst e
   show valV ((Sum.inl (q:Int),V.int (f q))::kvF qs f) _=_
   rw [valV_pos rfl];simp
  ·have hn:¬((Sum.inl (q:Int):Key)=Sum.inl (x:Int)):=fun z=>by
    have:=Sum.inl.inj z
    omega
   show valV ((Sum.inl (q:Int),V.int (f q))::kvF qs f) _=_
   rw [valV_neg hn,kvF_val qs]
   have:x≠q:=fun z=>e z.symm
   simp [this]
theorem kvF_congr {f g:Nat→Nat} {qs:List Nat} (h:∀q∈qs,f q=g q):kvF qs f=kvF qs g:=List.map_congr_left fun q hq=>by rw [h q hq]
theorem kvF_in (qs:List Nat) (f:Nat→Nat) (x:Nat):dIn (nD x) (.dk (kvF qs f))=some (.bl (decide (x∈qs))):=by
 show ((some (Sum.inl (x:Int):Key)).map fun k=>(valV (kvF qs f) k).isSome).map D.bl=_
 simp only [Option.map_some]
 rw [kvF_val]
 by_cases h:x∈qs <;> simp [h]
theorem kvF_ix {qs:List Nat} {f:Nat→Nat} {x:Nat} (h:x∈qs):dIxK (.dk (kvF qs f)) (nD x)=some (nD (f x)):=by
 show (valV (kvF qs f) (Sum.inl (x:Int))).bind vD=_
 rw [kvF_val,if_pos h]
 rfl
theorem kvF_put {qs:List Nat} {f:Nat→Nat} {p h:Nat} (hp:p∉qs):putK (kvF qs f) (Sum.inl (p:Int)) (.int (h:Int))=kvF (qs ++ [p]) fun x=>if x=p then h else f x:=by
 rw [putK_new _ (by rw [kvF_val,if_neg hp])]
 have e:kvF qs (fun x=>if x=p then h else f x)=kvF qs f:=kvF_congr fun q hq=>if_neg fun (z:q=p)=>hp (z▸hq)
 show kvF qs f++_=(qs ++ [p]).map _
 rw [List.map_append,←e]
 show _++_=kvF qs _ ++ [(Sum.inl (p:Int),V.int ((if p=p then h else f p:Nat):Int))]
 rw [if_pos rfl]
theorem take_next {ps:List Nat} {k p:Nat} (h:ps[k]?=some p):ps.take (k+1)=ps.take k ++ [p]:=by
 obtain ⟨hl,e⟩:=List.getElem?_eq_some_iff.mp h
 rw [List.take_succ_eq_append_getElem hl,e]
theorem take_notin {ps:List Nat} {k p:Nat} (nd:ps.Nodup) (h:ps[k]?=some p):p∉ps.take k:=fun m=>by
 have h2:(ps.take (k+1)).Nodup:=nd.sublist (List.take_sublist _ _)
 rw [take_next h] at h2
 have:=(List.nodup_append.mp h2).2.2 p m p (by simp)
 exact this rfl
theorem putK_eq {i:Nat} {fx fv:Rho→M D} {ρ:Rho} {s:Pn} {x v:D} {kvs:List (Key×V)} {key:Key} {w:V} (h1:fv ρ s=some (v,s)) (h2:fx ρ s=some (x,s)) (h3:(ρ[i]?).bind id=some (.dk kvs)) (h4:keyOf x=some key) (h5:valOf v=some w) (hl:kvs.length<sizeLine) :
  sPutK i fx fv ρ s=some (.nx (ρ.set i (some (.dk (putK kvs key w)))),s):=by
 unfold sPutK mbind
 rw [h1];simp only;rw [h2];simp only;rw [h3];simp only;rw [h4,h5];simp only
 rw [if_pos hl];rfl
theorem hr_step (ties:List (Nat×Nat)) {ps:List Nat} {k p:Nat} (h:ps[k]?=some p):hr ties (ps.take (k+1)).reverse=fun x=>if x=p then mex (((ps.take k).filter fun o=>tied ties p o).map (hr ties (ps.take k).reverse)) else hr ties (ps.take k).reverse x:=by
 rw [take_next h,List.reverse_append]
 funext x
 show (if x=p then mex (((ps.take k).reverse.filter fun o=>tied ties p o).map (hr ties (ps.take k).reverse)) else _)=_
 by_cases e:x=p
 ·rw [if_pos e,if_pos e]
  refine mex_congr fun y=>?_
  simp only [List.mem_map,List.mem_filter,List.mem_reverse]
 ·rw [if_neg e,if_neg e];rfl
noncomputable def huedL (n:Nat) (ties:List (Nat×Nat)) (ps:List Nat):List Nat:=(List.range n).map (hr ties ps.reverse)
end TP3
namespace TP3
open PySem L2 TF TP TS
open TP2
section
variable (ap:Nat→Nat→Bool)
end
section
variable {ap:Nat→Nat→Bool}
end
section
variable {n:Nat} {A:Nat→List Nat} {ap:Nat→Nat→Bool}
theorem dNe_nD (a b:Nat):dNeO (nD a) (nD b)=some (.bl (!decide (a=b))):=by
 rw [nei]
 congr 3
 rw [Bool.eq_iff_iff,beq_iff_eq,decide_eq_true_eq]
 constructor <;> intro h <;> omega
theorem lst_cat {ds es:List D} (h:ds.length+es.length≤100000):dAdd (.lst ds) (.lst es)=some (.lst (ds++es)):=by
 show (if ds.length+es.length≤sizeLine then some (D.lst (ds++es)) else none)=_
 rw [if_pos (by rw [sizeLine_v];omega)]
theorem maxL_any {l:List Nat} (h:l≠[]):dMaxL [.lst (l.map nD)]=some (nD (mxN l)):=by
 cases l with
 | nil=>exact absurd rfl h
 | cons m r=>
  have e:intsOf ((m::r).map nD)=some ((m:Int)::r.map fun (i:Nat)=>(i:Int)):=intsOf_nats (m::r)
  show (match intsOf ((m::r).map nD) with | some (n::r)=>some (D.int (maxI n r)) | _=>none)=_
  rw [e]
  show some (D.int (maxI (m:Int) (r.map fun (i:Nat)=>(i:Int))))=_
  rw [maxI_nat r m]
  have e2:mxN (m::r)=r.foldl max m:=by
   show r.foldl max (max 0 m)=_
   rw [Nat.max_eq_right (Nat.zero_le m)]
  rw [e2]
end
end TP3
namespace TP3
open PySem L2 TF TP TS
open TP2
noncomputable def longer (a k:List Nat):List Nat:=if a.length<k.length then k else a
noncomputable def mostK (n:Nat) (ties:List (Nat×Nat)):List Nat:=(kn ties n).foldl longer []
theorem longer_spec:∀(l:List (List Nat)) (a:List Nat),(l.foldl longer a=a∨l.foldl longer a∈l)∧a.length≤(l.foldl longer a).length∧∀k∈l,k.length≤(l.foldl longer a).length
 | [],a=>⟨.inl rfl,Nat.le_refl _,fun k h=>by cases h⟩
 | x::r,a=>by
  obtain ⟨h1,h2,h3⟩:=longer_spec r (longer a x)
  have h4:a.length≤(longer a x).length∧x.length≤(longer a x).length∧(longer a x=a∨longer a x=x):=by
   unfold longer
   split
   ·exact ⟨by omega,Nat.le_refl _,.inr rfl⟩
   ·exact ⟨Nat.le_refl _,by omega,.inl rfl⟩
  rw [List.foldl_cons]
  refine ⟨?_,by omega,fun k hk=>?_⟩
  ·rcases h1 with h | h
   ·rcases h4.2.2 with z | z
    ·exact .inl (h.trans z)
    ·exact .inr (by rw [h,z];simp)
   ·exact .inr (by simp [h])
  ·rcases List.mem_cons.mp hk with rfl | hk
   ·omega
   ·exact h3 k hk
theorem mostK_spec {n:Nat} {ties:List (Nat×Nat)} (hw:IsWeb n ties) (hn:n≤24):mostK n ties∈kn ties n∧∀K∈kn ties n,K.length≤(mostK n ties).length:=by
 obtain ⟨h1,_,h3⟩:=longer_spec (kn ties n) []
 refine ⟨?_,h3⟩
 rcases h1 with h | h
 ·show (kn ties n).foldl longer []∈_
  rw [h]
  exact mem_knS.mpr ⟨List.Pairwise.nil,(fun o h=>by cases h),fun a h=>by cases h⟩
 ·exact h
end TP3
namespace TP3
open PySem L2 TF TP TS
open TP2
theorem mxN_le {l:List Nat} {b:Nat} (h:∀x∈l,x≤b):mxN l≤b:=foldl_max_le l b h 0 (Nat.zero_le _)
end TP3
namespace TP3
open PySem L2 TF TP TS
open TP2
theorem intsOf_nD (k:List Nat):intsOf (k.map nD)=some (natsI k):=by
 have:k.map nD=(natsI k).map D.int:=by unfold natsI;rw [List.map_map];rfl
 rw [this,intsOf_map]
theorem lenSet_eq {f:Rho→M D} {ρ:Rho} {s s':Pn} {k:List Nat} (h:f ρ s=some (tupN k,s')) (hl:k.length≤1000):dLenSet f ρ s=some (nD (unlike (natsI k)),s'):=by
 unfold dLenSet mbind
 rw [h]
 show (match intsOf (k.map nD) with | some ns=>if ns.length≤1000 then mret (D.int (unlike ns:Nat)) else mfail | none=>mfail) s'=_
 rw [intsOf_nD]
 show (if (natsI k).length≤1000 then mret (D.int (unlike (natsI k):Nat)) else mfail) s'=_
 rw [if_pos (by unfold natsI;simpa using hl)]
 rfl
end TP3
namespace TP3
open PySem L2 TF TP TS
open TP2
section
variable (ties:List (Nat×Nat))
end
section
variable {ties:List (Nat×Nat)} {many:Nat}
end
end TP3
namespace TP3
open PySem L2 TF TP TS
open TP2
theorem near_ix {n p:Nat} {ties:List (Nat×Nat)} (h:p<n):dIx (nearsD n ties) (nD p)=some (.lst ((nearL n ties p).map nD)):=by
 show atI _ (p:Int)=_
 refine atI_nat ?_
 rw [List.getElem?_map,List.getElem?_range h];rfl
end TP3
namespace TP3
open PySem L2 TF TP TS
open TP2
theorem pair_ix0 (p:Nat×Nat):dIx (pairD p) (.int 0)=some (nD p.1):=atI_0 _ _
theorem pair_ix1 (p:Nat×Nat):dIx (pairD p) (.int 1)=some (nD p.2):=atI_1 _ _ _
theorem look_place {n:Nat} {ties:List (Nat×Nat)} {d:D} (h:kindD d=true) (t:D) (s:Pn):bOr (bNot (asB (dCall dIsi (dCons (dVar 2) (dCons (dC (.ty "int")) dNil))))) (bOr (asB (dCall dIsi (dCons (dVar 2) (dCons (dC (.ty "bool")) dNil)))) (bNot (bChain (dC (.int 0)) (cLink dLe (dVar 2) (cLast dLt (dOp dIx (dVar 0) (dC (.int 0)))))))) [some (webD n ties),some t,some d] s=some (!placeB (n:Int) d,s):=by
 have hi:=isi_int h
 have hb:=isi_bool h
 cases d with
 | int i=>
  have e1:dLe (.int 0) (.int i)=some (.bl (decide (0≤i))):=rfl
  have e2:dLt (.int i) (nD n)=some (.bl (decide (i<(n:Int)))):=rfl
  have hch:bChain (dC (.int 0)) (cLink dLe (dVar 2) (cLast dLt (dOp dIx (dVar 0) (dC (.int 0))))) [some (webD n ties),some t,some (.int i)] s=some (decide (0≤i)&&decide (i<(n:Int)),s):=bChain_eq rfl (cLink_eq (k:=decide (0≤i)) rfl e1 fun _=>cLast_eq (op_eq' (d:=webD n ties) (e:=.int 0) rfl rfl web0) e2)
  exact bor_f (not_eq' (b:=true) (asB_eq (call_eq (cons_eq rfl (cons_eq rfl rfl)) rfl))) (bor_f (asB_eq (call_eq (cons_eq rfl (cons_eq rfl rfl)) rfl)) (not_eq' hch))
 | bl b=>exact bor_f (not_eq' (b:=true) (asB_eq (call_eq (cons_eq rfl (cons_eq rfl rfl)) rfl))) (bor_t (asB_eq (call_eq (cons_eq rfl (cons_eq rfl rfl)) rfl)))
 | _=>
  first
   | exact bor_t (not_eq' (b:=false) (asB_eq (call_eq (cons_eq rfl (cons_eq rfl rfl)) hi)))
   | (simp [kindD] at h)
end TP3
namespace TP3
open PySem L2 TF TP TS
open TP2
end TP3
namespace TQ
open PySem L2 TF TS
open TP
open TP2
open TP3
theorem app_eq {T:Nat→List D→M D} {i t:Nat} {fs:Rho→M (List D)} {ρ:Rho} {s s1:Pn} {ds cds:List D} {r:Option (D×Pn)} (h1:(ρ[i]?).bind id=some (.clo t cds)) (h2:fs ρ s=some (ds,s1)) (h3:T t (ds++cds) s1=r):dApp T i fs ρ s=r:=by
 unfold dApp mbind dVar mOf
 rw [h1]
 simp only [h2]
 exact h3
theorem fnC_eq {F:List D→M D} {t:Nat} {cix:List Nat} {f:Rho→M D} {ρ:Rho} {s s1 s2:Pn} {d c:D} {cds:List D} (h1:f ρ s=some (d,s1)) (h2:capsD ρ cix=some cds) (n1:noClo d=true) (n2:noClos cds=true) (h3:F [d,.clo t cds] s1=some (c,s2)) (n3:noClo c=true):dFnC F t cix f ρ s=some (c,s2):=by
 unfold dFnC mbind mOf
 rw [h1,h2]
 simp only
 rw [if_pos (by rw [n1,n2];rfl),h3]
 simp only
 rw [if_pos n3]
 rfl
theorem noClos_of:∀{ds:List D},(∀d∈ds,noClo d=true)→noClos ds=true
 | [],_=>rfl
 | d::ds,h=>by
  show (noClo d&&noClos ds)=true
  rw [h d List.mem_cons_self,noClos_of fun x (hx:x∈ds)=>h x (List.mem_cons_of_mem _ hx)]
  rfl
theorem runE_eq {n:Nat} {f:Rho→M D} {ds:List D} {s:Pn} {r:Option (D×Pn)} (hl:ds.length=n) (h:f (ds.map some) s=r):runE n f ds s=r:=by
 unfold runE
 rw [if_pos hl]
 exact h
theorem noClo_web (n:Nat) (ties:List (Nat×Nat)):noClo (webD n ties)=true:=by
 have:noClos (ties.map pairD)=true:=noClos_of fun d hd=>by obtain ⟨p,_,rfl⟩:=List.mem_map.mp hd;rfl
 simp only [webD,noClo,noClos,this];rfl
theorem web_where_eq {row:D} {ds cds:List D} {t:Nat} (h:SeqD row ds) (hn:ds.length≤1000) (b:Nat×Nat→Bool) (s:Pn) (hb:∀p∈allP ds.length,Tl t ([ds.getD p.1 .non,ds.getD p.2 .non]++cds) s=some (.bl (b p),s)):F_web_where [row,.clo t cds] s=some (webD ds.length ((allP ds.length).filter b),s):=by
 have hln:∀r,dCall dLen (dCons (dVar 0) dNil) (some row::r) s=some (nD ds.length,s):=fun r=>call_eq (cons_eq rfl rfl) h.len
 refine runB_eq rfl (sSeq_nx (sSet_eq (fn_eq (cons_eq (listRange_eq (hln _) hn) rfl) (pairs_range s hn))) (sSeq_rt (sRet_eq ?_)))
 have hap:=allP_len ds.length hn
 have hc:=ev_comp (src:=[none,some 1,some 0]) (fi:=iSeqL (dVar 2)) (τ:=gOne 0) (ft:=asB (dApp Tl 1 (dCons (dOp dIx (dVar 2) (dOp dIx (dVar 0) (dC (.int 0)))) (dCons (dOp dIx (dVar 2) (dOp dIx (dVar 0) (dC (.int 1)))) dNil)))) (fe:=dVar 0) (ρ:=[some row,some (.clo t cds),some (.lst ((allP ds.length).map pairD))]) (s:=s) (ds:=(allP ds.length).map pairD) (fun d=>[some d,some (.clo t cds),some row]) (fun d=>b (nat2 d)) (fun d=>d) (seqL_eq rfl) (by rw [List.length_map,sizeLine_v];omega) fun d hd=>by
  obtain ⟨p,hpm,rfl⟩:=List.mem_map.mp hd
  have hpp:=mem_allP.mp hpm
  refine ⟨rfl,asB_eq (app_eq (t:=t) (cds:=cds) rfl (cons_eq (op_eq' (d:=row) (e:=nD p.1) rfl (op_eq' (d:=pairD p) (e:=.int 0) rfl rfl (atI_0 _ _)) (h.ix (by omega))) (cons_eq (op_eq' (d:=row) (e:=nD p.2) rfl (op_eq' (d:=pairD p) (e:=.int 1) rfl rfl (atI_1 _ _ _)) (h.ix (by omega))) rfl)) (hb p hpm)),fun _=>rfl⟩
 rw [filter_pairs (allP ds.length) _ b fun p=>by rw [nat2_pair]] at hc
 exact tup_eq (cons_eq (hln _) (cons_eq (call_eq (cons_eq hc rfl) rfl) rfl)) two_le
end TQ
namespace TQ
open PySem L2 TF TS
open TP
open TP2
open TP3
theorem vand_eq {f g:Rho→M D} {ρ:Rho} {s:Pn} {a b:Bool} (h:f ρ s=some (.bl a,s)) (h2:g ρ s=some (.bl b,s)):vAnd f g ρ s=some (.bl (a&&b),s):=vAnd_eq h fun _=>h2
noncomputable def preC (k:Nat):List (Nat×Nat):=(List.range k).flatMap fun h=>(List.range h).map fun l=>(l,h)
theorem preC_succ (k:Nat):preC (k+1)=preC k++(List.range k).map fun l=>(l,k):=by
 unfold preC
 rw [List.range_succ,List.flatMap_append]
 simp
theorem mem_preC {k:Nat} {p:Nat×Nat}:p∈preC k↔p.1<p.2∧p.2<k:=by
 unfold preC
 rw [List.mem_flatMap]
 constructor
 ·rintro ⟨h,hh,hp⟩
  obtain ⟨l,hl,rfl⟩:=List.mem_map.mp hp
  exact ⟨List.mem_range.mp hl,List.mem_range.mp hh⟩
 ·rintro ⟨h1,h2⟩
  exact ⟨p.2,List.mem_range.mpr h2,List.mem_map.mpr ⟨p.1,List.mem_range.mpr h1,rfl⟩⟩
theorem preC_nodup:∀k,(preC k).Nodup
 | 0=>by simp [preC]
 | k+1=>by
  rw [preC_succ]
  refine List.nodup_append.mpr ⟨preC_nodup k,?_,fun a ha b hb=>?_⟩
  ·exact List.pairwise_map.mpr ((List.nodup_range (n:=k)).imp fun h e=>h (congrArg Prod.fst e))
  ·rintro rfl
   obtain ⟨l,hl,rfl⟩:=List.mem_map.mp hb
   have:=(mem_preC.mp ha).2
   simp at this
theorem preC_perm (k:Nat):(preC k).Perm (allP k):=(List.perm_ext_iff_of_nodup (preC_nodup k) (allP_nodup k)).mpr fun p=>by rw [mem_preC,mem_allP]
theorem preC_len (k:Nat) (hk:k≤1000):(preC k).length≤1000000:=by rw [(preC_perm k).length_eq];exact allP_len k hk
end TQ
namespace TQ
open PySem L2 TF TS
open TP
open TP2
open TP3
theorem Ok.pick {fs:Rho→M (List D)} {gs:Rho→M (List D)} {ρ:Rho} {s:Pn} {m T:Nat} {ds:List D} {Q:D→Pn→Prop} (hl:gs ρ s=some (ds,s)) (hm1:ds.length=m) (ok:okD T s) (hT:T<1000000000) (h1:fs ρ s=some ([.pen,.int (m:Int)],s)) (hm:0<m) (hm2:m<1000) (h:∀d s',d∈ds→okD (T+1) s'→Q d s'):Ok (dOp dIx (dLst gs) (dFn drawF fs) ρ) s Q:=by
 refine .op (.eq (lst_eq hl (by rw [sizeLine_v];omega)) (.drawD ok hT h1 hm (by omega) fun r s' hr ok'=>?_))
 obtain ⟨d,hd,e⟩:=pick_ix (ds:=ds) (r:=r) (by omega)
 exact ⟨d,e,h d s' hd ok'⟩
end TQ
namespace TQ
open PySem L2 TF TS
open TP
open TP2
open TP3
end TQ
namespace TQ
open PySem L2 TF TS
open TP
open TP2
open TP3
end TQ
namespace TQ
open PySem L2 TF TS
open TP
open TP2
open TP3
theorem tied_filter {N:Nat} {B:Nat×Nat→Bool} {a b:Nat} (h:a<b) (hb:b<N):tied ((allP N).filter B) a b=B (a,b):=by
 rw [tied_lt h,Bool.eq_iff_iff,decide_eq_true_eq,List.mem_filter]
 exact ⟨fun z=>z.2,fun z=>⟨mem_allP.mpr ⟨h,hb⟩,z⟩⟩
end TQ
namespace TQ
open PySem L2 TF TS
open TP
open TP2
open TP3
end TQ
namespace TQ
open PySem L2 TF TS
open TP
open TP2
open TP3
end TQ
namespace TQ
open PySem L2 TF TS
open TP
open TP2
open TP3
noncomputable abbrev mkW (n:Nat) (ties:List (Nat×Nat)):D:=.tup [nD n,.dt (kvT [] ties)]
theorem mk0 {n:Nat} {ties:List (Nat×Nat)}:dIx (mkW n ties) (.int 0)=some (nD n):=atI_0 _ _
theorem mk1 {n:Nat} {ties:List (Nat×Nat)}:dIx (mkW n ties) (.int 1)=some (.dt (kvT [] ties)):=atI_1 _ _ _
theorem nearM_eq (n:Nat) (ties:List (Nat×Nat)) (p:Nat) (s:Pn) (hn:n≤100000):F_near [mkW n ties,.int p] s=some (.lst ((nearL n ties p).map nD),s):=by
 refine runB_eq rfl (sSeq_rt (sRet_eq ?_))
 unfold nearL
 show _=some (D.lst (((List.range n).filter fun o=>tied ties p o).map fun (i:Nat)=>D.int (i:Int)),s)
 rw [←filter_ints]
 refine ev_comp (ds:=dRange 0 n) (fun d=>[some d,some (mkW n ties),some (.int p)]) (fun d=>tied ties p (nat0 d)) (fun d=>d) (ev_range1 (op_eq' (d:=mkW n ties) (e:=.int 0) rfl rfl mk0) hn) (rng_len hn) ?_
 intro d hd
 obtain ⟨i,hi,rfl⟩:=dRange_mem hd
 exact ⟨rfl,asB_eq (fn_eq (cons_eq (op_eq' (d:=mkW n ties) (e:=.int 1) rfl rfl mk1) (cons_eq rfl (cons_eq rfl rfl))) (are_tiedD_eq ties p i s)),fun _=>rfl⟩
noncomputable def gN:Rho→M Out:=(sSeq (sSet 1 (dTup (dCons (dOp dIx (dVar 0) (dC (.int 0))) (dCons (dFn F_marked_ties (dCons (dVar 0) dNil)) dNil))))
 (sSeq (sRet (dComp [none,some 1] (iRange1 (dOp dIx (dVar 0) (dC (.int 0)))) (gOne 0) bTrue (dFn F_near (dCons (dVar 1) (dCons (dVar 0) dNil)))))
 sNext))
theorem all_nearM_eq (n:Nat) (ties:List (Nat×Nat)) (hn:n≤1000) (hl:ties.length≤100000) (s:Pn):runB 2 1 gN [webD n ties] s=some (nearsD n ties,s):=by
 refine runB_eq rfl (sSeq_nx (sSet_eq (tup_eq (cons_eq (op_eq' (d:=webD n ties) (e:=.int 0) rfl rfl web0) (cons_eq (fn_eq (cons_eq rfl rfl) (marked_eq n ties s hl)) rfl)) two_le)) (sSeq_rt (sRet_eq ?_)))
 have hc:=ev_comp (src:=[none,some 1]) (fi:=iRange1 (dOp dIx (dVar 0) (dC (.int 0)))) (τ:=gOne 0) (ft:=bTrue) (fe:=dFn F_near (dCons (dVar 1) (dCons (dVar 0) dNil))) (ρ:=[some (webD n ties),some (mkW n ties)]) (s:=s) (ds:=dRange 0 n) (fun d=>[some d,some (mkW n ties)]) (fun _=>true) (fun d=>.lst ((nearL n ties (nat0 d)).map nD)) (ev_range1 (op_eq' (d:=webD n ties) (e:=.int 0) rfl rfl web0) (by omega)) (rng_len (by omega)) fun d hd=>by
  obtain ⟨i,hi,rfl⟩:=dRange_mem hd
  exact ⟨rfl,rfl,fun _=>fn_eq (cons_eq rfl (cons_eq rfl rfl)) (nearM_eq n ties i s (by omega))⟩
 rw [filter_tt,dRange0,List.map_map] at hc
 exact hc
end TQ
namespace TQ
open PySem L2 TF TS
open TP
open TP2
open TP3
section
variable (ap:Nat→Nat→Bool)
end
section
variable {ap:Nat→Nat→Bool}
end
end TQ
namespace TQ
open PySem L2 TF TS
open TP
open TP2
open TP3
section
variable {n:Nat} {A:Nat→List Nat} {ap:Nat→Nat→Bool}
end
end TQ
namespace TQ
open PySem L2 TF TS
open TP
open TP2
open TP3
end TQ
namespace TQ
open PySem L2 TF TS
open TP
open TP2
open TP3
end TQ
namespace TP3
open PySem L2 TF TP TS
open TP2
noncomputable abbrev om (n:Nat) (ties:List (Nat×Nat)):Nat:=(mostK n ties).length
section
variable {n:Nat} {ties:List (Nat×Nat)}
theorem om_ge (hw:IsWeb n ties) (hn:n≤24) {K:List Nat} (h:K∈kn ties n):K.length≤om n ties:=(mostK_spec hw hn).2 K h
noncomputable def sel (n:Nat) (p:Nat→Bool):List Nat:=(List.range n).filter p
theorem sel_rise (n:Nat) (p:Nat→Bool):(sel n p).Pairwise (· < ·):=(range_rise n).sublist List.filter_sublist
theorem mem_sel {p:Nat→Bool} {x:Nat}:x∈sel n p↔x<n∧p x=true:=by unfold sel;rw [List.mem_filter,List.mem_range]
end
end TP3
namespace TQ
open PySem L2 TF TS
open TP
open TP2
open TP3
theorem anear (n:Nat) (ties:List (Nat×Nat)) (hn:n≤1000) (hl:ties.length≤100000) (s:Pn):F_all_near [webD n ties] s=some (nearsD n ties,s):=all_nearM_eq n ties hn hl s
theorem putM_eq {n:Nat} {ties:List (Nat×Nat)} {p:Nat} {qs:List Nat} {f:Nat→Nat} (hn:n≤24) (hpn:p<n) (hp:p∉qs) (hq:∀q∈qs,q<n) (hl:qs.length≤1000) (o1:Option D) (s:Pn) :
  (sPutK 3 (fun ρ=>(dVar 4) (hide [3] ρ)) (chk true (dFn F_least_free (dCons (dComp [none,some 3] (iSeqL (dOp dIx (dVar 2) (dVar 4))) (gOne 0) (asB (dOp dIn (dVar 0) (dVar 1))) (dOp dIxK (dVar 1) (dVar 0))) dNil)))) [some (webD n ties),o1,some (nearsD n ties),some (.dk (kvF qs f)),some (nD p)] s
   = some (.nx [some (webD n ties),o1,some (nearsD n ties),some (.dk (kvF (qs ++ [p]) fun x=>if x=p then mex ((qs.filter fun o=>tied ties p o).map f) else f x)),some (nD p)],s):=by
 have hc:=ev_comp (src:=[none,some 3]) (fi:=iSeqL (dOp dIx (dVar 2) (dVar 4))) (τ:=gOne 0) (ft:=asB (dOp dIn (dVar 0) (dVar 1))) (fe:=dOp dIxK (dVar 1) (dVar 0)) (ρ:=[some (webD n ties),o1,some (nearsD n ties),some (.dk (kvF qs f)),some (nD p)]) (s:=s) (ds:=(nearL n ties p).map nD) (fun d=>[some d,some (.dk (kvF qs f))]) (fun d=>decide (nat0 d∈qs)) (fun d=>nD (f (nat0 d)))
  (seqL_eq (op_eq' (d:=nearsD n ties) (e:=nD p) rfl rfl (near_ix hpn))) (by
   have:=List.length_filter_le (fun o=>tied ties p o) (List.range n)
   rw [List.length_map,sizeLine_v]
   rw [List.length_range] at this
   show (nearL n ties p).length≤_
   unfold nearL;omega) (fun d hd=>by
  obtain ⟨x,hx,rfl⟩:=List.mem_map.mp hd
  exact ⟨rfl,asB_eq (op_eq' (d:=nD x) (e:=.dk (kvF qs f)) rfl rfl (kvF_in qs f x)),fun hb=>op_eq' (d:=.dk (kvF qs f)) (e:=nD x) rfl rfl (kvF_ix (of_decide_eq_true hb))⟩)
 have e:(((nearL n ties p).map nD).filter fun d=>decide (nat0 d∈qs)).map (fun d=>nD (f (nat0 d)))=(((nearL n ties p).filter fun o=>decide (o∈qs)).map f).map nD:=by
  rw [List.filter_map,List.map_map,List.map_map];rfl
 rw [e] at hc
 have hlen:(((nearL n ties p).filter fun o=>decide (o∈qs)).map f).length≤1000:=by
  rw [List.length_map]
  have h1:=List.length_filter_le (fun o=>decide (o∈qs)) (nearL n ties p)
  have h2:=List.length_filter_le (fun o=>tied ties p o) (List.range n)
  rw [List.length_range] at h2
  unfold nearL at h1;unfold nearL;omega
 have hm:mex (((nearL n ties p).filter fun o=>decide (o∈qs)).map f)=mex ((qs.filter fun o=>tied ties p o).map f):=mex_congr fun x=>by
  simp only [nearL,List.mem_map,List.mem_filter,List.mem_range,decide_eq_true_eq]
  constructor
  ·rintro ⟨a,⟨⟨_,h2⟩,h3⟩,rfl⟩;exact ⟨a,⟨h3,h2⟩,rfl⟩
  ·rintro ⟨a,⟨h3,h2⟩,rfl⟩;exact ⟨a,⟨⟨hq a h3,h2⟩,h3⟩,rfl⟩
 have hf:=least_free_eq (((nearL n ties p).filter fun o=>decide (o∈qs)).map f) hlen s
 rw [hm] at hf
 have hv:(chk true (dFn F_least_free (dCons (dComp [none,some 3] (iSeqL (dOp dIx (dVar 2) (dVar 4))) (gOne 0) (asB (dOp dIn (dVar 0) (dVar 1))) (dOp dIxK (dVar 1) (dVar 0))) dNil))) [some (webD n ties),o1,some (nearsD n ties),some (.dk (kvF qs f)),some (nD p)] s=some (nD (mex ((qs.filter fun o=>tied ties p o).map f)),s):=chk_of (fn_eq (cons_eq hc rfl) hf) rfl
 rw [putK_eq hv (x:=nD p) rfl (kvs:=kvF qs f) rfl rfl rfl (by unfold kvF;rw [List.length_map,sizeLine_v];omega),kvF_put hp]
 rfl
theorem huedM_eq (n:Nat) (ties:List (Nat×Nat)) (hw:IsWeb n ties) (hn:n≤24) {ps:List Nat} (hp:ps.Perm (List.range n)) (s:Pn):F_hued_along [webD n ties,.lst (ps.map nD)] s=some (tupN (huedL n ties ps),s):=by
 have nd:ps.Nodup:=hp.nodup_iff.mpr List.nodup_range
 have hl:ps.length=n:=by rw [hp.length_eq,List.length_range]
 have hlt:∀q∈ps,q<n:=fun q hq=>List.mem_range.mp (hp.mem_iff.mp hq)
 have hlt2:=hw.len hn
 refine Ok.toEq (Ok.runB rfl (Ok.seq (.sset (.eq (fn_eq (cons_eq rfl rfl) (anear n ties (by omega) (by omega) s)) (Ok.seq (Ok.sown (.eq (a:=.dk []) rfl ⟨rfl,?_⟩)))))))
 refine Ok.seq (.sfor (fun k ρ s'=>s'=s∧k≤ps.length∧∃o3,ρ=[some (webD n ties),some (.lst (ps.map nD)),some (nearsD n ties),some (.dk (kvF (ps.take k) (hr ties (ps.take k).reverse))),o3]) (.eq (a:=ps.map nD) (s':=s) (seqL_eq rfl) ⟨⟨rfl,Nat.zero_le _,none,by rw [List.take_zero];rfl⟩,fun k d ρ s' hd hI=>?_,fun ρ' s' hI=>?_⟩))
 ·obtain ⟨rfl,_,o3,rfl⟩:=hI
  rw [List.getElem?_map] at hd
  cases e:ps[k]? with
  | none=>rw [e] at hd;cases hd
  | some p=>
   rw [e] at hd
   cases hd
   refine ⟨_,rfl,Ok.seq (.eq (putM_eq (f:=hr ties (ps.take k).reverse) hn (hlt p (List.mem_of_getElem? e)) (take_notin nd e) (fun q hq=>hlt q (List.take_subset _ _ hq)) (by rw [List.length_take];omega) _ s') (.next ⟨_,rfl,rfl,?_,some (nD p),?_⟩))⟩
   ·have:=(List.getElem?_eq_some_iff.mp e).1;omega
   ·rw [hr_step ties e,take_next e]
 ·obtain ⟨rfl,_,o3,rfl⟩:=hI
  rw [List.length_map,List.take_length]
  have hc:=ev_comp (src:=[none,some 3]) (fi:=iRange1 (dOp dIx (dVar 0) (dC (.int 0)))) (τ:=gOne 0) (ft:=bTrue) (fe:=dOp dIxK (dVar 1) (dVar 0)) (ρ:=[some (webD n ties),some (.lst (ps.map nD)),some (nearsD n ties),some (.dk (kvF ps (hr ties ps.reverse))),o3]) (s:=s') (ds:=dRange 0 n) (fun d=>[some d,some (.dk (kvF ps (hr ties ps.reverse)))]) (fun _=>true) (fun d=>nD (hr ties ps.reverse (nat0 d)))
   (ev_range1 (op_eq' (d:=webD n ties) (e:=.int 0) rfl rfl web0) (by omega)) (by rw [dRange_len,sizeLine_v];omega) (fun d hd=>by
   obtain ⟨i,hi,rfl⟩:=dRange_mem hd
   exact ⟨rfl,rfl,fun _=>op_eq' (d:=.dk (kvF ps (hr ties ps.reverse))) (e:=nD i) rfl rfl (kvF_ix (hp.mem_iff.mpr (List.mem_range.mpr hi)))⟩)
  rw [filter_tt,dRange0,List.map_map] at hc
  refine Ok.seq (.sret (.eq (call_eq (cons_eq hc rfl) (c:=tupN (huedL n ties ps)) ?_) ⟨rfl,rfl⟩))
  show some (D.tup _)=some (D.tup _)
  unfold huedL
  rw [List.map_map];rfl
end TQ
namespace TQ
open PySem L2 TF TS
open TP
open TP2
open TP3
section
variable {ties:List (Nat×Nat)} {ws:List Wb}
end
theorem mxN_eq {l:List Nat} {b:Nat} (h1:∀x∈l,x≤b) (h2:b∈l):mxN l=b:=Nat.le_antisymm (mxN_le h1) (mxN_ge h2)
end TQ
namespace TQ
open PySem L2 TF TS
open TP
open TP2
open TP3
section
variable {n m:Nat} {t1 t2 T:List (Nat×Nat)}
end
end TQ
namespace TF
open PySem PySem.Spec PyProof.Rows L2
section
variable {X:Cx} {G:Gh}
end
section
variable {X:Cx} {G:Gh}
end
end TF
namespace TQ
open PySem L2 TF TQ
open TP
open TP2
open TP3
end TQ
namespace TQ
open PySem L2 TF TS
open TP
open TP2
open TP3
section
variable {ties:List (Nat×Nat)}
theorem hr_head (p:Nat) (b:List Nat):hr ties (p::b) p=mex ((b.filter fun o=>tied ties p o).map (hr ties b)):=by
 show (if p=p then _ else _)=_
 rw [if_pos rfl]
theorem hr_tail {p x:Nat} {b:List Nat} (h:x≠p):hr ties (p::b) x=hr ties b x:=by
 show (if x=p then _ else _)=_
 rw [if_neg h]
theorem hr_right:∀{qs:List Nat},qs.Nodup→∀x∈qs,∀y∈qs,x≠y→tied ties x y=true→hr ties qs x≠hr ties qs y
 | [],_,x,hx,_,_,_,_=>by simp at hx
 | p::b,nd,x,hx,y,hy,ne,ht=>by
  have nd':=List.nodup_cons.mp nd
  have key:∀z∈b,tied ties p z=true→hr ties (p::b) p≠hr ties (p::b) z:=fun z hz hp=>by
   have hzp:z≠p:=fun e=>nd'.1 (e▸hz)
   rw [hr_head,hr_tail hzp]
   intro e
   exact (mex_spec _).1 (by rw [e];exact List.mem_map.mpr ⟨z,List.mem_filter.mpr ⟨hz,hp⟩,rfl⟩)
  by_cases ex:x=p
  ·subst ex
   have hy':y∈b:=(List.mem_cons.mp hy).resolve_left fun z=>ne z.symm
   exact key y hy' ht
  ·have hx':x∈b:=(List.mem_cons.mp hx).resolve_left ex
   by_cases ey:y=p
   ·subst ey
    exact (key x hx' (by rw [tied_comm];exact ht)).symm
   ·have hy':y∈b:=(List.mem_cons.mp hy).resolve_left ey
    rw [hr_tail ex,hr_tail ey]
    exact hr_right nd'.2 x hx' y hy' ne ht
theorem hr_lt:∀{qs:List Nat},∀x∈qs,hr ties qs x<qs.length
 | [],x,hx=>by simp at hx
 | p::b,x,hx=>by
  by_cases ex:x=p
  ·subst ex
   rw [hr_head]
   have h1:=mex_le ((b.filter fun o=>tied ties x o).map (hr ties b))
   have h2:=List.length_filter_le (fun o=>tied ties x o) b
   rw [List.length_map] at h1
   rw [List.length_cons];omega
  ·have hx':x∈b:=(List.mem_cons.mp hx).resolve_left ex
   rw [hr_tail ex,List.length_cons]
   have:=hr_lt x hx'
   omega
variable {n:Nat} {ps:List Nat}
theorem huedL_len:(huedL n ties ps).length=n:=by unfold huedL;simp
theorem huedL_get {i:Nat} (h:i<n):(huedL n ties ps).getD i 0=hr ties ps.reverse i:=by
 unfold huedL
 rw [List.getD_eq_getElem?_getD,List.getElem?_map,List.getElem?_range h];rfl
theorem rev_all (hp:ps.Perm (List.range n)):ps.reverse.Nodup∧(∀i,i∈ps.reverse↔i<n)∧ps.reverse.length=n:=
 ⟨(List.reverse_perm ps).nodup_iff.mpr (hp.nodup_iff.mpr List.nodup_range),fun i=>by rw [List.mem_reverse,hp.mem_iff,List.mem_range],by rw [List.length_reverse,hp.length_eq,List.length_range]⟩
theorem huedL_right (hp:ps.Perm (List.range n)) {a b:Nat} (ha:a<n) (hb:b<n) (ne:a≠b) (ht:tied ties a b=true):(huedL n ties ps).getD a 0≠(huedL n ties ps).getD b 0:=by
 obtain ⟨nd,mm,_⟩:=rev_all hp
 rw [huedL_get ha,huedL_get hb]
 exact hr_right nd a ((mm a).mpr ha) b ((mm b).mpr hb) ne ht
theorem huedL_lt (hp:ps.Perm (List.range n)) {a:Nat} (ha:a<n):(huedL n ties ps).getD a 0<n:=by
 obtain ⟨nd,mm,ll⟩:=rev_all hp
 rw [huedL_get ha]
 have:=hr_lt (ties:=ties) a ((mm a).mpr ha)
 omega
structure RightH (n:Nat) (ties:List (Nat×Nat)) (f:List Nat):Prop where
 len:f.length=n
 lt:∀a<n,f.getD a 0<n
 ri:∀a<n,∀b<n,a≠b→tied ties a b=true→f.getD a 0≠f.getD b 0
theorem huedL_rightH (hp:ps.Perm (List.range n)):RightH n ties (huedL n ties ps):=⟨huedL_len,fun a ha=>huedL_lt hp ha,fun a ha b hb ne ht=>huedL_right hp ha hb ne ht⟩
end
theorem nats_ix {f:List Nat} {i:Nat} (h:i<f.length):dIx (tupN f) (nD i)=some (nD (f.getD i 0)):=by
 refine atI_nat ?_
 rw [List.getElem?_map,List.getElem?_eq_getElem h,List.getD_eq_getElem?_getD,List.getElem?_eq_getElem h];rfl
end TQ
namespace TQ
open PySem L2 TF TS
open TP
open TP2
open TP3
end TQ
namespace TF
open PySem PySem.Spec PyProof.Rows L2
section
variable {X:Cx} {G:Gh} {f:Rho→M D}
end
end TF
namespace TQ
open PySem L2 TF TS
open TP
open TP2
open TP3
section
variable (ap:Nat→Nat→Bool) (W:List Nat)
end
section
variable {ap:Nat→Nat→Bool} {W:List Nat}
end
section
variable {n:Nat} {A:Nat→List Nat} {ap:Nat→Nat→Bool}
end
end TQ
namespace TQ
open PySem L2 TF TS
open TP
open TP2
open TP3
end TQ
namespace TQ
open PySem L2 TF TS
open TP
open TP2
open TP3
theorem mKeys_eq {F:List D→M D} {cds:List D} {s:Pn} (key:Nat→D):∀(ps:List Nat),(∀p∈ps,F (nD p::cds) s=some (key p,s))→mKeys F cds (ps.map fun (i:Nat)=>(i:Int)) s=some (ps.map key,s)
 | [],_=>rfl
 | p::ps,h=>by
  show mbind (F (nD p::cds)) (fun k=>mbind (mKeys F cds (ps.map fun (i:Nat)=>(i:Int))) fun ks=>mret (k::ks)) s=_
  unfold mbind
  rw [h p List.mem_cons_self]
  dsimp only
  rw [mKeys_eq key ps fun q hq=>h q (List.mem_cons_of_mem _ hq)]
  rfl
end TQ
namespace TQ
open PySem L2 TF TS
open TP
open TP2
open TP3
noncomputable def gTp:Rho→M Out:=(sSeq (sSet 2 (dOp dIx (dLst (dCons (dC (.int 4)) (dCons (dC (.int 9)) (dCons (dC (.int 30)) (dCons (dOp dPow (dC (.int 10)) (dC (.int 8))) dNil))))) (dFn drawF (dCons (dVar 0) (dCons (dC (.int 4)) dNil)))))
 (sSeq (sSet 3 (dOp dIx (dVar 1) (dFn drawF (dCons (dVar 0) (dCons (dCall dLen (dCons (dVar 1) dNil)) dNil)))))
 (sSeq (sSet 4 (dOp dAdd (dC (.int 1)) (dCall dInt1 (dCons (dOp dEqO (dFn drawF (dCons (dVar 0) (dCons (dC (.int 3)) dNil))) (dC (.int 0))) dNil))))
 (sSeq (sOwn 5 (dLst dNil))
 (sSeq (sFor (iRange1 (dFn drawF (dCons (dVar 0) (dCons (dC (.int 13)) dNil)))) (gOne 6)
 (sSeq (sSet 7 (fun ρ=>(dOp dAdd (dVar 3) (dOp dMul (dFn drawF (dCons (dVar 0) (dCons (dVar 2) dNil))) (dOp dIx (dLst (dCons (dC (.int 1)) (dCons (dOp dPow (dC (.int 10)) (dC (.int 12))) dNil))) (dFn drawF (dCons (dVar 0) (dCons (dVar 4) dNil)))))) (hide [5] ρ)))
 (sSeq (sApp 5 (fun ρ=>(dTup (dCons (dVar 7) (dCons (dOp dAdd (dOp dAdd (dVar 7) (dC (.int 1))) (dOp dMul (dFn drawF (dCons (dVar 0) (dCons (dVar 2) dNil))) (dOp dIx (dLst (dCons (dC (.int 1)) (dCons (dOp dPow (dC (.int 10)) (dC (.int 12))) dNil))) (dFn drawF (dCons (dVar 0) (dCons (dVar 4) dNil)))))) dNil))) (hide [5] ρ)))
 (sSeq (sIf (asB (dOp dEqO (dFn drawF (dCons (dVar 0) (dCons (dC (.int 5)) dNil))) (dC (.int 0))))
 (sSeq (sSet 8 (chk false (dOp dIx (dVar 5) (dFn drawF (dCons (dVar 0) (dCons (dCall dLen (dCons (dVar 5) dNil)) dNil))))))
 (sSeq (sSetI 5 (fun ρ=>(dC (.int (-1))) (hide [5] ρ)) (fun ρ=>(dOp dIx (dLst (dCons (dVar 8) (dCons (dTup (dCons (dOp dIx (dVar 8) (dC (.int 1))) (dCons (dOp dAdd (dOp dAdd (dOp dIx (dVar 8) (dC (.int 1))) (dC (.int 1))) (dFn drawF (dCons (dVar 0) (dCons (dVar 2) dNil)))) dNil))) dNil))) (dFn drawF (dCons (dVar 0) (dCons (dC (.int 2)) dNil)))) (hide [5] ρ)))
 sNext))
 sNext)
 sNext))))
 (sSeq (sRet (dVar 5))
 sNext))))))
noncomputable def FTp:List D→M D:=runB 9 2 gTp
noncomputable def gLy:Rho→M Out:=(sSeq (sRet (dCall dTuple (dCons (dComp [none,some 0,some 1] (iRange1 (dCall dLen (dCons (dVar 0) dNil))) (gOne 0) (bAnd (asB (dOp dLe (dOp dIx (dOp dIx (dVar 1) (dVar 0)) (dC (.int 0))) (dVar 2))) (asB (dOp dLt (dVar 2) (dOp dIx (dOp dIx (dVar 1) (dVar 0)) (dC (.int 1)))))) (dVar 0)) dNil)))
 sNext)
noncomputable def FLy:List D→M D:=runB 2 2 gLy
noncomputable def gPt:Rho→M Out:=(sSeq (sSet 1 (dComp [none] (iSeqL (dVar 0)) (gOne 0) bTrue (dOp dIx (dVar 0) (dC (.int 0)))))
 (sSeq (sSet 2 (dMaxKey (runE 2 (dCall dLen (dCons (dFn FLy (dCons (dVar 1) (dCons (dVar 0) dNil))) dNil))) [0] 0 (dVar 1)))
 (sSeq (sSet 3 (dFn FLy (dCons (dVar 0) (dCons (dVar 2) dNil))))
 (sSeq (sSet 4 (dSortKeyR (runE 2 (dOp dIx (dVar 1) (dVar 0))) [1] (dCall dLen (dCons (dVar 0) dNil))))
 (sSeq (sRet (dTup (dCons (dCall dLen (dCons (dVar 3) dNil)) (dCons (dVar 2) (dCons (dVar 3) (dCons (dFn F_hued_along (dCons (dFn F_web_of_pieces (dCons (dVar 0) dNil)) (dCons (dVar 4) dNil))) dNil))))))
 sNext)))))
noncomputable def FPt:List D→M D:=runB 5 1 gPt
noncomputable abbrev pcD (p:Int×Int):D:=.tup [.int p.1,.int p.2]
theorem pc0 (p:Int×Int):dIx (pcD p) (.int 0)=some (.int p.1):=atI_0 _ _
theorem pc1 (p:Int×Int):dIx (pcD p) (.int 1)=some (.int p.2):=atI_1 _ _ _
noncomputable def Pb (fa:Int) (k:Nat) (p:Int×Int):Prop:=p.1<p.2∧fa≤p.1∧p.2≤fa+(k:Int)*1000000000000000000000
theorem Pb.mono {fa:Int} {k l:Nat} {p:Int×Int} (h:Pb fa k p) (hl:k≤l):Pb fa l p:=⟨h.1,h.2.1,by have:=h.2.2;omega⟩
theorem Ok.ssetI {i j:Nat} {fx fv:Rho→M D} {ρ:Rho} {s:Pn} {k:Int} {ds:List D} {Q:Out→Pn→Prop} (h3:(ρ[i]?).bind id=some (.lst ds)) (h5:ixN ds.length k=some j) (h:Ok (fv ρ) s fun v s1=>fx ρ s1=some (.int k,s1)∧Q (.nx (ρ.set i (some (.lst (ds.set j v))))) s1):Ok (sSetI i fx fv ρ) s Q:=by
 refine .bind (h.mono fun v s1 q=>.bind (.eq q.1 ?_))
 simp only [h3,h5]
 exact .ret q.2
theorem Ok.chkF {f:Rho→M D} {ρ:Rho} {s:Pn} {Q:D→Pn→Prop} (h:Ok (f ρ) s fun d s1=>noMut d=true∧Q d s1):Ok (chk false f ρ) s Q:=
 .bind (h.mono fun d s1 q=>.ite (by simp [q.1]) (.ret q.2))
theorem far_draw {fs1 fs2:Rho→M (List D)} {ρ:Rho} {s:Pn} {T wd ap:Nat} {Q:D→Pn→Prop} (ok:okD T s) (hT:T<900000000) (h1:∀s,fs1 ρ s=some ([.pen,nD wd],s)) (h2:∀s,fs2 ρ s=some ([.pen,nD ap],s)) (w0:0<wd) (w1:wd≤100000000) (a0:0<ap) (a1:ap≤2)
  (h:∀(x:Int) s',0≤x→x≤100000000000000000000→okD (T+2) s'→Q (.int x) s'):Ok (dOp dMul (dFn drawF fs1) (dOp dIx (dLst (dCons (dC (.int 1)) (dCons (dOp dPow (dC (.int 10)) (dC (.int 12))) dNil))) (dFn drawF fs2)) ρ) s Q:=by
 refine .op (.drawD (m:=wd) ok (by omega) (h1 s) w0 (by omega) fun r s1 hr ok1=>.op (.eq (a:=.lst [.int 1,.int 1000000000000]) (lst_eq (ds:=[.int 1,.int 1000000000000]) (cons_eq rfl (cons_eq (op_eq' (d:=.int 10) (e:=.int 12) rfl rfl rfl) rfl)) two_le) (.drawD (m:=ap) ok1 (by omega) (h2 s1) a0 (by omega) fun q s2 hq ok2=>?_)))
 have mul:∀y:Int,0≤y→y≤1000000000000→∃c,dMul (.int (r:Int)) (.int y)=some c∧Q c s2:=fun y y0 y1=>by
  refine ⟨.int ((r:Int)*y),?_,?_⟩
  ·show (if cMulB (r:Int) y=true then some (D.int ((r:Int)*y)) else none)=_
   rw [if_pos (by unfold cMulB;simp;left;omega)]
  ·refine h _ _ (Int.mul_nonneg (by omega) y0) ?_ ok2
   have:(r:Int)*y≤100000000*1000000000000:=Int.mul_le_mul (by omega) y1 y0 (by omega)
   omega
 match q,hq with
 | 0,_=>exact ⟨.int 1,rfl,mul 1 (by omega) (by omega)⟩
 | 1,_=>exact ⟨.int 1000000000000,rfl,mul 1000000000000 (by omega) (by omega)⟩
 | q+2,hq=>omega
theorem set_last {α:Type} (l:List α) (x y:α):(l ++ [x]).set l.length y=l ++ [y]:=by
 rw [List.set_append_right _ _ (Nat.le_refl _),Nat.sub_self];rfl
set_option maxHeartbeats 1000000 in
theorem tpieces_ok {T m:Nat} {s:Pn} {faD:List D} {R:Int→Prop} (hfl:faD.length=m) (hm:0<m) (hm2:m≤100) (hfa:∀d∈faD,∃f:Int,d=.int f∧R f) (ok:okD T s) (hT:T<800000000):Ok (FTp [.pen,.lst faD]) s fun d s'=>okD (T+1000) s'∧∃(fa:Int) (l:List (Int×Int)),R fa∧d=.lst (l.map pcD)∧l.length≤12∧∀p∈l,Pb fa 12 p:=by
 refine Ok.runB rfl ?_
 refine Ok.seq (.sset (Ok.pick (m:=4) (ds:=[nD 4,nD 9,nD 30,nD 100000000]) (cons_eq rfl (cons_eq rfl (cons_eq rfl (cons_eq (op_eq' (d:=.int 10) (e:=.int 8) rfl rfl rfl) rfl)))) rfl ok (by omega) rfl (by omega) (by omega) fun wdd s1 hwd ok1=>?_))
 obtain ⟨wd,rfl,w0,w1⟩:∃wd:Nat,wdd=nD wd∧0<wd∧wd≤100000000:=by
  simp only [List.mem_cons,List.not_mem_nil,or_false] at hwd
  rcases hwd with rfl | rfl | rfl | rfl
  all_goals exact ⟨_,rfl,by omega,by omega⟩
 refine Ok.seq (.sset (.op (.eq (a:=.lst faD) rfl (.drawD (m:=m) ok1 (by omega) (cons_eq rfl (cons_eq (call_eq (cons_eq rfl rfl) (show some (D.int _)=some (D.int _) by rw [hfl])) rfl)) (by omega) (by omega) fun r s2 hr ok2=>?_))))
 obtain ⟨fd,hfd,efd⟩:=pick_ix (ds:=faD) (r:=r) (by rw [hfl];exact hr)
 refine ⟨fd,efd,?_⟩
 obtain ⟨fa,rfl,hR⟩:=hfa _ hfd
 refine Ok.seq (.sset (.op (.eq rfl (.call (.cons (.op (.drawD (m:=3) ok2 (by omega) (cons_eq rfl (cons_eq rfl rfl)) (by omega) (by omega) fun q s3 hq ok3=>.eq rfl ⟨_,eqi _ _,.nil ⟨_,rfl,_,rfl,?_⟩⟩)))))))
 obtain ⟨ap,hap,a0,a1⟩:∃ap:Nat,(1:Int)+(if ((q:Int)==0)=true then 1 else 0)=(ap:Int)∧0<ap∧ap≤2:=by
  split
  ·exact ⟨2,rfl,by omega,by omega⟩
  ·exact ⟨1,rfl,by omega,by omega⟩
 rw [hap]
 refine Ok.seq (.sown (.eq (a:=.lst []) rfl ⟨rfl,?_⟩))
 refine Ok.seq (.sfor (fun k ρ s'=>okD (T+10+k*20) s'∧∃l:List (Int×Int),l.length=k∧(∀p∈l,Pb fa k p)∧∃o6 o7 o8,ρ=[some .pen,some (.lst faD),some (nD wd),some (.int fa),some (nD ap),some (.lst (l.map pcD)),o6,o7,o8]) (.range1 (.drawD (m:=13) ok3 (by omega) (cons_eq rfl (cons_eq rfl rfl)) (by omega) (by omega) fun n s4 hn ok4=>⟨n,rfl,by omega,⟨⟨ok4.mono (by omega),[],rfl,by simp,none,none,none,rfl⟩,fun k d ρ s' hd hI=>?_,fun ρ' s' hI=>?_⟩⟩)))
 ·obtain ⟨ok5,l,hl,hP,o6,o7,o8,rfl⟩:=hI
  obtain ⟨hk,rfl⟩:=dRange_get0 hd
  refine ⟨_,rfl,?_⟩
  refine Ok.seq (.sset (.op (.eq rfl (far_draw ok5 (by omega) (fun _=>cons_eq rfl (cons_eq rfl rfl)) (fun _=>cons_eq rfl (cons_eq rfl rfl)) w0 w1 a0 a1 fun x s6 x0 x1 ok6=>⟨_,rfl,?_⟩))))
  refine Ok.seq (.sapp (ds:=l.map pcD) rfl (by rw [List.length_map,sizeLine_v];omega) (.tup (.cons (.eq rfl (.cons (.op (.eq (a:=.int (fa+x+1)) rfl (far_draw ok6 (by omega) (fun _=>cons_eq rfl (cons_eq rfl rfl)) (fun _=>cons_eq rfl (cons_eq rfl rfl)) w0 w1 a0 a1 fun y s7 y0 y1 ok7=>⟨_,rfl,.nil ⟨two_le,?_⟩⟩))))))))
  have hnew:Pb fa (k+1) (fa+x,fa+x+1+y):=⟨by show fa+x<fa+x+1+y;omega,by show fa≤fa+x;omega,by show fa+x+1+y≤_;omega⟩
  have hPl:∀z:Int×Int,Pb fa (k+1) z→∀p∈l ++ [z],Pb fa (k+1) p:=fun z hz p hp=>by
   rcases List.mem_append.mp hp with h | h
   ·exact (hP p h).mono (by omega)
   ·rw [List.mem_singleton.mp h];exact hz
  have eA:l.map pcD ++ [pcD (fa+x,fa+x+1+y)]=(l ++ [(fa+x,fa+x+1+y)]).map pcD:=by rw [List.map_append];rfl
  refine Ok.seq (.sif (.asB (.op (.drawD (m:=5) ok7 (by omega) (cons_eq rfl (cons_eq rfl rfl)) (by omega) (by omega) fun z s8 hz ok8=>.eq rfl ⟨_,eqi _ _,_,rfl,?_⟩))))
  split
  ·refine Ok.seq (.sset (Ok.chkF (.op (.eq (a:=.lst ((l ++ [(fa+x,fa+x+1+y)]).map pcD)) (by rw [←eA];rfl) (.drawD (m:=l.length+1) ok8 (by omega) (cons_eq rfl (cons_eq (call_eq (ds:=[.lst ((l ++ [(fa+x,fa+x+1+y)]).map pcD)]) (cons_eq (by rw [←eA];rfl) rfl) (show some (D.int _)=some (D.int _) by rw [List.length_map,List.length_append];rfl)) rfl)) (by omega) (by omega) fun q2 s9 hq2 ok9=>?_)))))
   have hq2':q2<((l ++ [(fa+x,fa+x+1+y)]).map pcD).length:=by rw [List.length_map,List.length_append];exact hq2
   obtain ⟨od,hod,eod⟩:=pick_ix hq2'
   obtain ⟨op,hop,rfl⟩:=List.mem_map.mp hod
   refine ⟨_,eod,rfl,?_⟩
   have hold:=hPl _ hnew op hop
   have h5:ixN (l.map pcD ++ [pcD (fa+x,fa+x+1+y)]).length (-1)=some l.length:=by
    unfold ixN
    rw [List.length_append,List.length_map]
    show (if (0:Int)≤-1 then _ else _)=_
    rw [if_neg (by omega)]
    simp only [List.length_singleton]
    rw [if_pos (by omega)]
    congr 1;omega
   refine Ok.seq (Ok.ssetI (k:=-1) (j:=l.length) (ds:=l.map pcD ++ [pcD (fa+x,fa+x+1+y)]) rfl h5 (.op (.bind (.cons (.eq rfl (.cons (.tup (.cons (.eq (a:=.int op.2) (op_eq' (d:=pcD op) (e:=.int 1) rfl rfl (pc1 op)) (.cons (.op (.eq (a:=.int (op.2+1)) (op_eq' (d:=.int op.2) (e:=.int 1) (op_eq' (d:=pcD op) (e:=.int 1) rfl rfl (pc1 op)) rfl rfl) (.drawD (m:=wd) ok9 (by omega) (cons_eq rfl (cons_eq rfl rfl)) w0 (by omega) fun v s10 hv ok10=>⟨_,rfl,.nil ⟨two_le,.nil (.ite two_le (.ret (.drawD (m:=2) ok10 (by omega) (cons_eq rfl (cons_eq rfl rfl)) (by omega) (by omega) fun u s11 hu ok11=>?_)))⟩⟩)))))))))))))
   have hnew2:Pb fa (k+1) (op.2,op.2+1+(v:Int)):=by
    obtain ⟨g1,g2,g3⟩:=hold
    obtain ⟨i,hi⟩:=List.getElem?_of_mem hop
    refine ⟨by show op.2<op.2+1+(v:Int);omega,by show fa≤op.2;omega,?_⟩
    show op.2+1+(v:Int)≤_
    rcases List.mem_append.mp hop with h | h
    ·have:=(hP op h).2.2;omega
    ·rw [List.mem_singleton.mp h]
     show fa+x+1+y+1+(v:Int)≤_
     omega
   have fin:∀z:Int×Int,Pb fa (k+1) z→okD (T+10+(k+1)*20) s11∧∃l':List (Int×Int),l'.length=k+1∧(∀p∈l',Pb fa (k+1) p)∧(l.map pcD ++ [pcD (fa+x,fa+x+1+y)]).set l.length (pcD z)=l'.map pcD:=fun z hz=>by
    refine ⟨ok11.mono (by omega),l ++ [z],by rw [List.length_append,hl];rfl,hPl z hz,?_⟩
    have:=set_last (l.map pcD) (pcD (fa+x,fa+x+1+y)) (pcD z)
    rw [List.length_map] at this
    rw [this,List.map_append];rfl
   match u,hu with
   | 0,_=>
    refine ⟨pcD op,rfl,rfl,.next (.next ?_)⟩
    obtain ⟨b1,l',b2,b3,b4⟩:=fin op hold
    exact ⟨_,rfl,b1,l',b2,b3,some (nD k),some (.int (fa+x)),some (pcD op),by rw [←b4];rfl⟩
   | 1,_=>
    refine ⟨pcD (op.2,op.2+1+(v:Int)),rfl,rfl,.next (.next ?_)⟩
    obtain ⟨b1,l',b2,b3,b4⟩:=fin _ hnew2
    exact ⟨_,rfl,b1,l',b2,b3,some (nD k),some (.int (fa+x)),some (pcD op),by rw [←b4];rfl⟩
   | u+2,hu=>omega
  ·refine .next (.next ⟨_,rfl,ok8.mono (by omega),l ++ [(fa+x,fa+x+1+y)],by rw [List.length_append,hl];rfl,hPl _ hnew,some (nD k),some (.int (fa+x)),o8,?_⟩)
   rw [←eA];rfl
 ·obtain ⟨ok5,l,hl,hP,o6,o7,o8,rfl⟩:=hI
  rw [dRange_len] at ok5 hl hP
  exact Ok.seq (.sret (.eq rfl ⟨ok5.mono (by omega),fa,l,hR,rfl,by omega,fun p hp=>(hP p hp).mono (by omega)⟩))
noncomputable def meet (p q:Int×Int):Bool:=decide (p.1<q.2)&&decide (q.1<p.2)
theorem pc_getD (l:List (Int×Int)) (i:Nat) (h:i<l.length):(l.map pcD).getD i .non=pcD (l.getD i (0,0)):=by
 rw [List.getD_eq_getElem?_getD,List.getElem?_map,List.getD_eq_getElem?_getD,List.getElem?_eq_getElem h];rfl
theorem pc_ix (l:List (Int×Int)) (i:Nat) (h:i<l.length):dIx (.lst (l.map pcD)) (nD i)=some (pcD (l.getD i (0,0))):=by
 refine atI_nat ?_
 rw [List.getElem?_map,List.getD_eq_getElem?_getD,List.getElem?_eq_getElem h];rfl
noncomputable abbrev mtT (l:List (Int×Int)):List (Nat×Nat):=(allP l.length).filter fun p=>meet (l.getD p.1 (0,0)) (l.getD p.2 (0,0))
theorem wop_eq (l:List (Int×Int)) (hl:l.length≤1000) (s:Pn):F_web_of_pieces [.lst (l.map pcD)] s=some (webD l.length (mtT l),s):=by
 refine runB_eq rfl (sSeq_rt (sRet_eq (fnC_eq (d:=.lst (l.map pcD)) (cds:=[]) rfl rfl (by simp only [noClo];exact noClos_of fun d hd=>by obtain ⟨p,_,rfl⟩:=List.mem_map.mp hd;rfl) rfl ?_ (noClo_web _ _))))
 have:=web_where_eq (row:=.lst (l.map pcD)) (ds:=l.map pcD) (cds:=[]) (t:=2) (.inl rfl) (by rw [List.length_map];exact hl) (fun p=>meet (l.getD p.1 (0,0)) (l.getD p.2 (0,0))) s (fun p hpm=>by
  rw [List.length_map] at hpm
  have hpp:=mem_allP.mp hpm
  rw [pc_getD _ _ (by omega),pc_getD _ _ (by omega)]
  show F_do_meet [pcD (l.getD p.1 (0,0)),pcD (l.getD p.2 (0,0))] s=_
  exact runB_eq rfl (sSeq_rt (sRet_eq (vand_eq (op_eq' (op_eq' rfl rfl (pc0 _)) (op_eq' rfl rfl (pc1 _)) rfl) (op_eq' (op_eq' rfl rfl (pc0 _)) (op_eq' rfl rfl (pc1 _)) rfl)))))
 rw [List.length_map] at this
 exact this
end TQ
namespace TQ
open PySem L2 TF TS
open TP
open TP2
open TP3
noncomputable def lieB (x:Int) (p:Int×Int):Bool:=decide (p.1≤x)&&decide (x<p.2)
noncomputable def lie (l:List (Int×Int)) (x:Int):List Nat:=sel l.length fun i=>lieB x (l.getD i (0,0))
noncomputable def cnt (l:List (Int×Int)) (x:Int):Nat:=(l.filter (lieB x)).length
theorem lie_len (l:List (Int×Int)) (x:Int):(lie l x).length=cnt l x:=by
 unfold lie sel cnt
 conv=>rhs;rw [←TS.range_getD l (0,0)]
 rw [List.filter_map,List.length_map]
 rfl
theorem lieB_iff {x:Int} {p:Int×Int}:lieB x p=true↔p.1≤x∧x<p.2:=by
 unfold lieB;rw [Bool.and_eq_true,decide_eq_true_eq,decide_eq_true_eq]
theorem mem_lie {l:List (Int×Int)} {x:Int} {i:Nat}:i∈lie l x↔i<l.length∧(l.getD i (0,0)).1≤x∧x<(l.getD i (0,0)).2:=by
 unfold lie;rw [mem_sel,lieB_iff]
theorem meet_iff {p q:Int×Int}:meet p q=true↔p.1<q.2∧q.1<p.2:=by
 unfold meet;rw [Bool.and_eq_true,decide_eq_true_eq,decide_eq_true_eq]
theorem meet_comm (p q:Int×Int):meet p q=meet q p:=by unfold meet;rw [Bool.and_comm]
theorem tied_mt {l:List (Int×Int)} {a b:Nat} (h:a≠b) (ha:a<l.length) (hb:b<l.length):tied (mtT l) a b=meet (l.getD a (0,0)) (l.getD b (0,0)):=by
 rcases Nat.lt_or_gt_of_ne h with z | z
 ·exact tied_filter z hb
 ·have:=tied_filter (N:=l.length) (B:=fun p=>meet (l.getD p.1 (0,0)) (l.getD p.2 (0,0))) z ha
  rw [meet_comm]
  rw [←this]
  unfold tied
  rw [Nat.min_comm,Nat.max_comm]
theorem mt_web (l:List (Int×Int)):IsWeb l.length (mtT l):=IsWeb.filter _
theorem lying_eq (l:List (Int×Int)) (hl:l.length≤1000) (x:Int) (s:Pn):FLy [.lst (l.map pcD),.int x] s=some (tupN (lie l x),s):=by
 refine runB_eq rfl (sSeq_rt (sRet_eq (call_eq (cons_eq (d:=.lst ((lie l x).map nD)) ?_ rfl) rfl)))
 have hc:=ev_comp (src:=[none,some 0,some 1]) (fi:=iRange1 (dCall dLen (dCons (dVar 0) dNil))) (τ:=gOne 0) (ft:=bAnd (asB (dOp dLe (dOp dIx (dOp dIx (dVar 1) (dVar 0)) (dC (.int 0))) (dVar 2))) (asB (dOp dLt (dVar 2) (dOp dIx (dOp dIx (dVar 1) (dVar 0)) (dC (.int 1)))))) (fe:=dVar 0) (ρ:=[some (.lst (l.map pcD)),some (.int x)]) (s:=s) (ds:=dRange 0 l.length) (fun d=>[some d,some (.lst (l.map pcD)),some (.int x)]) (fun d=>lieB x (l.getD (nat0 d) (0,0))) (fun d=>d)
  (ev_range1 (n:=l.length) (call_eq (cons_eq rfl rfl) (by show some (D.int _)=some (D.int _);rw [List.length_map])) (by omega)) (by rw [dRange_len,sizeLine_v];omega) fun d hd=>by
   obtain ⟨i,hi,rfl⟩:=dRange_mem hd
   refine ⟨rfl,?_,fun _=>rfl⟩
   refine (band_eq (asB_eq (op_eq' (op_eq' (d:=pcD (l.getD i (0,0))) (op_eq' rfl rfl (pc_ix l i hi)) rfl (pc0 _)) rfl rfl)) fun _=>asB_eq (op_eq' rfl (op_eq' (op_eq' rfl rfl (pc_ix l i hi)) rfl (pc1 _)) rfl)).trans ?_
   rfl
 rw [filter_ints l.length fun i=>lieB x (l.getD i (0,0))] at hc
 exact hc
theorem lie_knot (l:List (Int×Int)) (x:Int):lie l x∈kn (mtT l) l.length:=mem_knS.mpr ⟨sel_rise _ _,fun o ho=>(mem_lie.mp ho).1,fun a ha b hb ne=>by
 obtain ⟨a1,a2,a3⟩:=mem_lie.mp ha
 obtain ⟨b1,b2,b3⟩:=mem_lie.mp hb
 rw [tied_mt ne a1 b1]
 exact meet_iff.mpr ⟨by omega,by omega⟩⟩
theorem max_start (l:List (Int×Int)):∀K:List Nat,K≠[]→∃v∈K,∀u∈K,(l.getD u (0,0)).1≤(l.getD v (0,0)).1
 | [],h=>absurd rfl h
 | [a],_=>⟨a,by simp,fun u hu=>by rw [List.mem_singleton.mp hu];exact Int.le_refl _⟩
 | a::b::K,_=>by
  obtain ⟨v,hv,h⟩:=max_start l (b::K) (by simp)
  by_cases z:(l.getD a (0,0)).1≤(l.getD v (0,0)).1
  ·exact ⟨v,List.mem_cons_of_mem _ hv,fun u hu=>by
    rcases List.mem_cons.mp hu with rfl | hu
    ·exact z
    ·exact h u hu⟩
  ·exact ⟨a,List.mem_cons_self,fun u hu=>by
    rcases List.mem_cons.mp hu with rfl | hu
    ·exact Int.le_refl _
    ·have:=h u hu;omega⟩
theorem start_mem {l:List (Int×Int)} {v:Nat} (h:v<l.length):(l.getD v (0,0)).1∈l.map (·.1):=by
 rw [List.getD_eq_getElem?_getD,List.getElem?_eq_getElem h]
 exact List.mem_map.mpr ⟨_,List.getElem_mem h,rfl⟩
theorem piece_mem {l:List (Int×Int)} {v:Nat} (h:v<l.length):l.getD v (0,0)∈l:=by
 rw [List.getD_eq_getElem?_getD,List.getElem?_eq_getElem h]
 exact List.getElem_mem h
theorem knot_lie {l:List (Int×Int)} (hp:∀p∈l,p.1<p.2) {K:List Nat} (hK:K∈kn (mtT l) l.length):K=[]∨∃v<l.length,K.length≤cnt l (l.getD v (0,0)).1:=by
 by_cases z:K=[]
 ·exact .inl z
 ·obtain ⟨q1,q2,q3⟩:=mem_knS.mp hK
  obtain ⟨v,hv,h⟩:=max_start l K z
  refine .inr ⟨v,q2 v hv,?_⟩
  rw [←lie_len]
  refine nodup_len (rise_nodup q1) fun u hu=>mem_lie.mpr ⟨q2 u hu,h u hu,?_⟩
  by_cases e:u=v
  ·subst e;exact hp _ (piece_mem (q2 u hu))
  ·have:=q3 u hu v hv e
   rw [tied_mt e (q2 u hu) (q2 v hv)] at this
   exact (meet_iff.mp this).2
theorem om_best {l:List (Int×Int)} (hl:l.length≤24) (hp:∀p∈l,p.1<p.2) {x:Int} (h:∀v<l.length,cnt l (l.getD v (0,0)).1≤cnt l x):cnt l x=om l.length (mtT l):=by
 refine Nat.le_antisymm ?_ ?_
 ·rw [←lie_len]
  exact om_ge (mt_web l) hl (lie_knot l x)
 ·rcases knot_lie hp (mostK_spec (mt_web l) hl).1 with z | ⟨v,hv,z⟩
  ·show (mostK l.length (mtT l)).length≤_
   rw [z];exact Nat.zero_le _
  ·exact Nat.le_trans z (h v hv)
theorem cnt_le {l:List (Int×Int)} (hl:l.length≤24) (x:Int):cnt l x≤om l.length (mtT l):=by
 rw [←lie_len]
 exact om_ge (mt_web l) hl (lie_knot l x)
theorem maxGo_ok {F:List D→M D} {cds:List D} {s:Pn} (f:Int→Int) (hF:∀n,F (.int n::cds) s=some (.int (f n),s)):∀(r:List Int) (nb:Int),∃m,mMaxGo F cds r nb (f nb) s=some (.int m,s)∧(m=nb∨m∈r)∧f nb≤f m∧∀x∈r,f x≤f m
 | [],nb=>⟨nb,rfl,.inl rfl,Int.le_refl _,fun x hx=>by simp at hx⟩
 | n::r,nb=>by
  have e:mMaxGo F cds (n::r) nb (f nb) s=mMaxGo F cds r (if f n > f nb then n else nb) (if f n > f nb then f n else f nb) s:=by
   show mbind (F (.int n::cds)) _ s=_
   unfold mbind
   rw [hF n]
  rw [e]
  by_cases z:f n > f nb
  ·rw [if_pos z,if_pos z]
   obtain ⟨m,h1,h2,h3,h4⟩:=maxGo_ok f hF r n
   exact ⟨m,h1,.inr (h2.elim (fun e=>e▸List.mem_cons_self) fun e=>List.mem_cons_of_mem _ e),by omega,fun x hx=>by
    rcases List.mem_cons.mp hx with rfl | hx
    ·exact h3
    ·exact h4 x hx⟩
  ·rw [if_neg z,if_neg z]
   obtain ⟨m,h1,h2,h3,h4⟩:=maxGo_ok f hF r nb
   exact ⟨m,h1,h2.imp id fun e=>List.mem_cons_of_mem _ e,h3,fun x hx=>by
    rcases List.mem_cons.mp hx with rfl | hx
    ·omega
    ·exact h4 x hx⟩
theorem maxKey_ok {F:List D→M D} {cds:List D} {s:Pn} (f:Int→Int) (hF:∀n,F (.int n::cds) s=some (.int (f n),s)) (ns:List Int) (c:Int):∃m,mMaxKey F cds ns c s=some (.int m,s)∧∀x∈ns,f x≤f m:=by
 cases ns with
 | nil=>exact ⟨c,rfl,fun x hx=>by simp at hx⟩
 | cons n r=>
  obtain ⟨m,h1,h2,h3,h4⟩:=maxGo_ok f hF r n
  refine ⟨m,?_,fun x hx=>by
    rcases List.mem_cons.mp hx with rfl | hx
    ·exact h3
    ·exact h4 x hx⟩
  unfold mMaxKey mbind
  dsimp only
  rw [hF n]
  exact h1
theorem hr_fewer {ties:List (Nat×Nat)} {m:Nat}:∀(qs:List Nat),(∀A p B,qs=A++p::B→(B.filter fun o=>tied ties p o).length<m)→∀x∈qs,hr ties qs x<m
 | [],_,x,hx=>by simp at hx
 | p::qs,h,x,hx=>by
  unfold hr
  split
  ·have:=mex_le ((qs.filter fun o=>tied ties p o).map (hr ties qs))
   rw [List.length_map] at this
   exact Nat.lt_of_le_of_lt this (h [] p qs rfl)
  ·rename_i ne
   rcases List.mem_cons.mp hx with e | hx
   ·exact absurd e ne
   ·exact hr_fewer qs (fun A q B e=>h (p::A) q B (by rw [e];rfl)) x hx
theorem hues_few {l:List (Int×Int)} (hl:l.length≤24) (hp:∀p∈l,p.1<p.2) {ps:List Nat} (pm:ps.Perm (List.range l.length)) (hs:ps.Pairwise fun a b=>(l.getD a (0,0)).1≤(l.getD b (0,0)).1):∀x<l.length,hr (mtT l) ps.reverse x<om l.length (mtT l):=fun x hx=>by
 have nd:ps.Nodup:=pm.nodup_iff.mpr List.nodup_range
 have hlt:∀q∈ps,q<l.length:=fun q hq=>List.mem_range.mp (pm.mem_iff.mp hq)
 refine hr_fewer ps.reverse (fun A p B e=>?_) x (List.mem_reverse.mpr (pm.mem_iff.mpr (List.mem_range.mpr hx)))
 have hs':(ps.reverse).Pairwise fun a b=>(l.getD b (0,0)).1≤(l.getD a (0,0)).1:=List.pairwise_reverse.mpr hs
 have nd':(ps.reverse).Nodup:=List.pairwise_reverse.mpr (List.Pairwise.imp (fun h=>Ne.symm h) nd)
 have hlt':∀q∈A++p::B,q<l.length:=fun q hq=>by rw [←e] at hq;exact hlt q (List.mem_reverse.mp hq)
 rw [e] at hs' nd'
 have h1:=(List.pairwise_cons.mp (List.pairwise_append.mp hs').2.1).1
 have nd1:=List.nodup_cons.mp (List.nodup_append.mp nd').2.1
 have hpl:=hlt' p (by simp)
 have key:(p::B.filter fun o=>tied (mtT l) p o).length≤(lie l (l.getD p (0,0)).1).length:=by
  refine nodup_len (List.nodup_cons.mpr ⟨fun z=>nd1.1 (List.mem_filter.mp z).1,nd1.2.sublist List.filter_sublist⟩) fun u hu=>?_
  rcases List.mem_cons.mp hu with rfl | hu
  ·exact mem_lie.mpr ⟨hpl,Int.le_refl _,hp _ (piece_mem hpl)⟩
  ·obtain ⟨u1,u2⟩:=List.mem_filter.mp hu
   have hul:=hlt' u (by simp [u1])
   have ne:p≠u:=fun z=>nd1.1 (z▸u1)
   rw [tied_mt ne hpl hul] at u2
   exact mem_lie.mpr ⟨hul,h1 u u1,(meet_iff.mp u2).1⟩
 rw [lie_len] at key
 have:=cnt_le hl (l.getD p (0,0)).1
 rw [List.length_cons] at key
 omega
theorem unlike_few {hs:List Nat} {n m:Nat} {ties:List (Nat×Nat)} (R:RightH n ties hs) (h:∀x<n,hs.getD x 0<m) {K:List Nat} (hK:K∈kn ties n) (hm:K.length=m):unlike (natsI hs)=m:=by
 obtain ⟨u1,u2⟩:=unlike_nodup (natsI hs)
 refine Nat.le_antisymm ?_ ?_
 ·have:=nodup_len (b:=(List.range m).map fun (i:Nat)=>(i:Int)) u1 fun x hx=>by
   have hx:=(u2 x).mp hx
   obtain ⟨y,hy,rfl⟩:=List.mem_map.mp hx
   obtain ⟨i,hi,e⟩:=List.mem_iff_getElem.mp hy
   have:=h i (by rw [←R.len];exact hi)
   rw [List.getD_eq_getElem?_getD,List.getElem?_eq_getElem hi] at this
   exact List.mem_map.mpr ⟨y,List.mem_range.mpr (by rw [←e];exact this),rfl⟩
  rw [List.length_map,List.length_range] at this
  exact this
 ·obtain ⟨q1,q2,q3⟩:=mem_knS.mp hK
  have:=nodup_len (a:=K.map fun p=>((hs.getD p 0:Nat):Int)) (by
   refine List.Pairwise.map _ (fun a b h=>h) (List.Pairwise.imp_of_mem (fun {a b} ha hb h=>?_) (rise_nodup q1))
   have:=R.ri a (q2 a ha) b (q2 b hb) h (q3 a ha b hb h)
   omega) fun x hx=>by
    obtain ⟨p,hp,rfl⟩:=List.mem_map.mp hx
    have hp:=q2 p hp
    have hm:hs.getD p 0∈hs:=by
     rw [List.getD_eq_getElem?_getD,List.getElem?_eq_getElem (by rw [R.len];exact hp)]
     exact List.getElem_mem _
    exact (u2 _).mpr (List.mem_map.mpr ⟨hs.getD p 0,hm,rfl⟩)
  rw [List.length_map,hm] at this
  exact this
theorem starts_eq (l:List (Int×Int)) (hl:l.length≤1000) {o1 o2 o3 o4:Option D} (s:Pn):dComp [none] (iSeqL (dVar 0)) (gOne 0) bTrue (dOp dIx (dVar 0) (dC (.int 0))) [some (.lst (l.map pcD)),o1,o2,o3,o4] s=some (.lst ((l.map (·.1)).map D.int),s):=by
 have hc:=ev_comp (src:=[none]) (fi:=iSeqL (dVar 0)) (τ:=gOne 0) (ft:=bTrue) (fe:=dOp dIx (dVar 0) (dC (.int 0))) (ρ:=[some (.lst (l.map pcD)),o1,o2,o3,o4]) (s:=s) (ds:=l.map pcD) (fun d=>[some d]) (fun _=>true) (fun d=>match d with | .tup (x::_)=>x | _=>.non) (seqL_eq rfl) (by rw [List.length_map,sizeLine_v];omega) fun d hd=>by
  obtain ⟨p,_,rfl⟩:=List.mem_map.mp hd
  exact ⟨rfl,rfl,fun _=>op_eq' rfl rfl (pc0 p)⟩
 rw [List.filter_eq_self.mpr fun _ _=>rfl,List.map_map] at hc
 rw [List.map_map]
 exact hc
theorem ints_map (ns:List Int):intsOf (ns.map D.int)=some ns:=by
 induction ns with
 | nil=>rfl
 | cons n r ih=>show (intsOf (r.map D.int)).map (n :: ·)=_;rw [ih];rfl
noncomputable abbrev ltS (ns:List Int):Nat→Nat→Bool:=fun i j=>decide (ns.getD i 0<ns.getD j 0)
theorem ltS_ord (ns:List Int):OrdW (ltS ns):=by
 refine ⟨fun a b c h1 h2=>?_,fun a b h=>?_⟩
 ·have h1:=of_decide_eq_false h1
  have h2:=of_decide_eq_false h2
  exact decide_eq_false (by omega)
 ·have h:=of_decide_eq_true h
  exact decide_eq_false (by omega)
theorem start_get {l:List (Int×Int)} {i:Nat} (h:i<l.length):(l.map (·.1)).getD i 0=(l.getD i (0,0)).1:=by
 rw [List.getD_eq_getElem?_getD,List.getElem?_map,List.getD_eq_getElem?_getD,List.getElem?_eq_getElem h];rfl
theorem noClos_pcs (l:List (Int×Int)):noClos (l.map pcD)=true:=noClos_of fun d hd=>by obtain ⟨p,_,rfl⟩:=List.mem_map.mp hd;rfl
theorem noClos_ints (l:List Int):noClos (l.map D.int)=true:=noClos_of fun d hd=>by obtain ⟨p,_,rfl⟩:=List.mem_map.mp hd;rfl
theorem order_eq (l:List (Int×Int)) (hl:l.length≤24) {o2 o3 o4:Option D} (s:Pn):dSortKeyR (runE 2 (dOp dIx (dVar 1) (dVar 0))) [1] (dCall dLen (dCons (dVar 0) dNil)) [some (.lst (l.map pcD)),some (.lst ((l.map (·.1)).map D.int)),o2,o3,o4] s=some (.lst ((sortIx (ltS (l.map (·.1))) l.length).map nD),s):=by
 have hlen:(l.map pcD).length=l.length:=List.length_map ..
 have hk:=mKeys_eq (F:=runE 2 (dOp dIx (dVar 1) (dVar 0))) (cds:=[.lst ((l.map (·.1)).map D.int)]) (s:=s) (fun p=>.int ((l.map (·.1)).getD p 0)) (List.range l.length) fun p hp=>by
  have hp:=List.mem_range.mp hp
  refine runE_eq rfl (op_eq' (d:=.lst ((l.map (·.1)).map D.int)) (e:=nD p) rfl rfl (atI_nat ?_))
  rw [List.getElem?_map,List.getD_eq_getElem?_getD,List.getElem?_eq_getElem (by rw [List.length_map];exact hp)];rfl
 have e1:(List.range l.length).map (fun p=>D.int ((l.map (·.1)).getD p 0))=(l.map (·.1)).map D.int:=by
  have:=congrArg (List.map D.int) (TS.range_getD (l.map (·.1)) 0)
  rw [List.map_map,List.length_map] at this
  exact this
 rw [e1] at hk
 unfold dSortKeyR mbind
 rw [call_eq (c:=nD l.length) (cons_eq (d:=.lst (l.map pcD)) rfl rfl) (by show some (D.int _)=some (D.int _);rw [hlen])]
 dsimp only
 rw [show mOf (capsD [some (D.lst (l.map pcD)),some (.lst ((l.map (·.1)).map D.int)),o2,o3,o4] [1]) s=some ([.lst ((l.map (·.1)).map D.int)],s) from rfl]
 dsimp only
 rw [if_pos (by omega)]
 unfold mSortKey
 rw [if_pos (by
  have h1:noClos [D.lst ((l.map (·.1)).map D.int)]=true:=by
   show (noClos ((l.map (·.1)).map D.int)&&true)=true
   rw [noClos_ints];rfl
  rw [h1,List.length_map,List.length_range]
  simp;omega)]
 unfold mbind
 rw [Int.toNat_natCast,hk]
 dsimp only
 unfold ltD
 rw [ints_map]
 dsimp only
 rw [List.length_map,List.length_range]
 show some (D.lst _,s)=some (D.lst _,s)
 congr 3
 refine List.map_congr_left fun i hi=>?_
 have hi:=List.mem_range.mp ((sortIx_perm (ltS_ord _)).mem_iff.mp hi)
 show D.int _=D.int _
 rw [List.getD_eq_getElem?_getD,List.getElem?_map,List.getElem?_range hi];rfl
set_option maxHeartbeats 4000000 in
theorem told_eq (l:List (Int×Int)) (hl:l.length≤24) (hp:∀p∈l,p.1<p.2) (s:Pn):∃(x:Int) (hs:List Nat),FPt [.lst (l.map pcD)] s=some (.tup [nD (om l.length (mtT l)),.int x,tupN (lie l x),tupN hs],s)∧
  (lie l x).length=om l.length (mtT l)∧RightH l.length (mtT l) hs∧(∀y<l.length,hs.getD y 0<om l.length (mtT l))∧unlike (natsI hs)=om l.length (mtT l):=by
 have hF:∀n:Int,runE 2 (dCall dLen (dCons (dFn FLy (dCons (dVar 1) (dCons (dVar 0) dNil))) dNil)) (.int n :: [.lst (l.map pcD)]) s=some (.int (cnt l n:Int),s):=fun n=>by
  refine runE_eq rfl (call_eq (cons_eq (d:=tupN (lie l n)) (fn_eq (cons_eq rfl (cons_eq rfl rfl)) (lying_eq l (by omega) n s)) rfl) ?_)
  show some (D.int _)=_
  rw [List.length_map,lie_len]
 obtain ⟨x,hx,hb⟩:=maxKey_ok (cds:=[.lst (l.map pcD)]) (s:=s) (fun n=>(cnt l n:Int)) hF (l.map (·.1)) 0
 have hbest:cnt l x=om l.length (mtT l):=om_best hl hp fun v hv=>by have:=hb _ (start_mem hv);omega
 have pm:=sortIx_perm (n:=l.length) (ltS_ord (l.map (·.1)))
 have hs:(sortIx (ltS (l.map (·.1))) l.length).Pairwise fun a b=>(l.getD a (0,0)).1≤(l.getD b (0,0)).1:=by
  refine List.Pairwise.imp_of_mem (fun {a b} ha hb h=>?_) (sortIx_rise (n:=l.length) (ltS_ord (l.map (·.1))))
  have ha:=List.mem_range.mp (pm.mem_iff.mp ha)
  have hb:=List.mem_range.mp (pm.mem_iff.mp hb)
  have h:=of_decide_eq_false h
  rw [start_get ha,start_get hb] at h
  omega
 have R:=huedL_rightH (ties:=mtT l) pm
 have hfew:=hues_few hl hp pm hs
 have hfew':∀y<l.length,(huedL l.length (mtT l) (sortIx (ltS (l.map (·.1))) l.length)).getD y 0<om l.length (mtT l):=fun y hy=>by rw [huedL_get hy];exact hfew y hy
 have hlx:(lie l x).length=om l.length (mtT l):=by rw [lie_len,hbest]
 have hmx:dMaxKey (runE 2 (dCall dLen (dCons (dFn FLy (dCons (dVar 1) (dCons (dVar 0) dNil))) dNil))) [0] 0 (dVar 1) [some (.lst (l.map pcD)),some (.lst ((l.map (·.1)).map D.int)),none,none,none] s=some (.int x,s):=by
  unfold dMaxKey mbind
  rw [show dVar 1 [some (D.lst (l.map pcD)),some (.lst ((l.map (·.1)).map D.int)),none,none,none] s=some (.lst ((l.map (·.1)).map D.int),s) from rfl]
  dsimp only
  rw [show mOf (capsD [some (D.lst (l.map pcD)),some (.lst ((l.map (·.1)).map D.int)),none,none,none] [0]) s=some ([.lst (l.map pcD)],s) from rfl]
  dsimp only
  rw [ints_map]
  dsimp only
  rw [if_pos (by
   show (noClos (l.map pcD)&&true)=true
   rw [noClos_pcs];rfl)]
  exact hx
 have ho:=order_eq l hl (o2:=some (.int x)) (o3:=some (tupN (lie l x))) (o4:=none) s
 have hst:=starts_eq l (by omega) (o1:=none) (o2:=none) (o3:=none) (o4:=none) s
 have hh:=huedM_eq l.length (mtT l) (mt_web l) hl pm s
 have hun:=unlike_few R hfew' (lie_knot l x) hlx
 generalize huedL l.length (mtT l) (sortIx (ltS (l.map (·.1))) l.length)=hs at R hfew' hh hun
 generalize sortIx (ltS (l.map (·.1))) l.length=ps at ho hh
 generalize ((l.map (·.1)).map D.int)=st at ho hmx hst
 refine ⟨x,hs,?_,hlx,R,hfew',hun⟩
 refine runB_eq rfl (Ok.toEq ?_)
 refine Ok.seq (.sset (.eq hst ?_))
 refine Ok.seq (.sset (.eq hmx ?_))
 refine Ok.seq (.sset (.eq (fn_eq (cons_eq rfl (cons_eq rfl rfl)) (lying_eq l (by omega) x s)) ?_))
 refine Ok.seq (.sset (.eq ho ?_))
 refine Ok.seq (.sret (.eq (tup_eq (ds:=[nD (om l.length (mtT l)),.int x,tupN (lie l x),tupN hs]) (cons_eq (call_eq (cons_eq (d:=tupN (lie l x)) rfl rfl) ?_) (cons_eq rfl (cons_eq rfl (cons_eq (fn_eq (cons_eq (fn_eq (cons_eq rfl rfl) (wop_eq l (by omega) s)) (cons_eq (d:=.lst (ps.map nD)) rfl rfl)) hh) rfl)))) (by show 4≤sizeLine;decide)) ⟨rfl,rfl⟩))
 show some (D.int _)=some (D.int _)
 rw [List.length_map,hlx]
end TQ
namespace TQ
open PySem L2 TF TS
open TP
open TP2
open TP3
noncomputable abbrev mo (l:List (Int×Int)):Nat:=om l.length (mtT l)
noncomputable abbrev Gd (l:List (Int×Int)):Prop:=∀p∈l,p.1<p.2
end TQ
namespace TQ
open PySem L2 TF TS
open TP
open TP2
open TP3
namespace PC
theorem len_eq {f:Rho→M D} {ρ:Rho} {s:Pn} {l:List (Int×Int)} (h:f ρ s=some (.lst (l.map pcD),s)):dCall dLen (dCons f dNil) ρ s=some (nD l.length,s):=by
 refine call_eq (cons_eq h rfl) ?_
 show some (D.int _)=some (D.int _)
 rw [List.length_map]
end PC
end TQ
namespace K51
open PySem PySem.StrLaws L2 TF TQ TS
open TP
open TP2
open TP3
open PC
theorem log2_big {n:Nat} (h:n<10 ^ 70):n.log2<1920:=by
 by_cases h0:n=0
 ·subst h0;decide
 ·have h1:n.log2<240:=(Nat.log2_lt h0).mpr (Nat.lt_trans h (by decide))
  omega
theorem shown_70 {i:Int} (h:i.natAbs<10 ^ 70):(PyData.shown (.int i)).length≤71:=by
 have e:=int_text_length_le10 (k:=70) (by decide) h
 show (Str.ofString (toString i)).length≤71
 rw [ofString_length];exact e
theorem repr_pieces (l:List (Int×Int)) (h:∀p∈l,p.1.natAbs<10 ^ 70∧p.2.natAbs<10 ^ 70) (hl:l.length≤12):dRepr [.lst (l.map pcD)]=some (.str (toPy (.lst (l.map pcD))).shown):=by
 have key:∀l:List (Int×Int),(∀p∈l,p.1.natAbs<10 ^ 70∧p.2.natAbs<10 ^ 70)→plainDs (l.map pcD)=true∧PyData.showableAll (toPys (l.map pcD))=true∧PyData.leavesShortAll 71 (toPys (l.map pcD))=true∧PyData.bulkAll (toPys (l.map pcD))=3*l.length∧PyData.depthAll (toPys (l.map pcD))≤1:=by
  intro l
  induction l with
  | nil=>intro _;simp [plainDs,toPys,PyData.showableAll,PyData.leavesShortAll,PyData.bulkAll,PyData.depthAll]
  | cons p l ih=>
   intro h
   obtain ⟨a,b,c,e,f⟩:=ih fun q hq=>h q (List.mem_cons_of_mem _ hq)
   obtain ⟨n1,n2⟩:=h p List.mem_cons_self
   have g1:=log2_big n1
   have g2:=log2_big n2
   have s1:=shown_70 n1
   have s2:=shown_70 n2
   simp only [List.map_cons,pcD,plainDs,plainD,toPys,toPy,PyData.showableAll,PyData.showable,PyData.leavesShortAll,PyData.leavesShort,PyData.bulkAll,PyData.bulk,PyData.depthAll,PyData.depth,Bool.and_eq_true,decide_eq_true_eq,List.length_cons]
   refine ⟨⟨⟨trivial,trivial,trivial⟩,a⟩,⟨⟨g1,g2,trivial⟩,b⟩,⟨⟨s1,s2,trivial⟩,c⟩,by omega,by omega⟩
 obtain ⟨a,b,c,e,f⟩:=key l h
 show (if okRepr _=true then _ else _)=_
 rw [if_pos]
 have lb:=PyData.shown_le_bulk 71 (by decide) (toPy (.lst (l.map pcD))) (by simp only [toPy,PyData.leavesShort];exact c)
 have l2:(toPy (.lst (l.map pcD))).shown.length≤sizeLine:=by
  have e2:(toPy (.lst (l.map pcD))).bulk=3*l.length:=by simp only [toPy,PyData.bulk];exact e
  rw [e2] at lb
  rw [sizeLine_v];omega
 unfold okRepr
 simp only [Bool.and_eq_true,decide_eq_true_eq]
 refine ⟨⟨⟨?_,?_⟩,?_⟩,l2⟩
 ·simp only [plainD];exact a
 ·simp only [toPy,PyData.showable];exact b
 ·simp only [toPy,PyData.depth];omega
noncomputable abbrev faD:List D:=[.int 0,.int (-5),.int 100000000000000000000000000000000000000000000000000000000000,.int (-10000000000000000000000000000000000000000000000000000000000),.int 900000000000000000000000000000000000000000000000000000000000,.int (-900000000000000000000000000000000000000000000000000000000000)]
theorem filter_app_one {α:Type} (l:List α) (b:α→Bool) (x:α):(l ++ [x]).filter b=l.filter b++(if b x=true then [x] else []):=by
 rw [List.filter_append]
 congr 1
 by_cases h:b x=true
 ·rw [if_pos h,List.filter_cons_of_pos h];rfl
 ·rw [if_neg h,List.filter_cons_of_neg h];rfl
theorem faD_eq {ρ:Rho} {s:Pn}:dLst (dCons (dC (.int 0)) (dCons (dC (.int (-5))) (dCons (dOp dPow (dC (.int 10)) (dC (.int 59))) (dCons (dNeg (dOp dPow (dC (.int 10)) (dC (.int 58)))) (dCons (dOp dMul (dC (.int 9)) (dOp dPow (dC (.int 10)) (dC (.int 59)))) (dCons (dNeg (dOp dMul (dC (.int 9)) (dOp dPow (dC (.int 10)) (dC (.int 59))))) dNil)))))) ρ s=some (.lst faD,s):=
 lst_eq (ds:=faD) rfl (by show 6≤sizeLine;decide)
theorem fa_bound {d:D} (h:d∈faD):∃f:Int,d=.int f∧(-900000000000000000000000000000000000000000000000000000000000≤f∧f≤900000000000000000000000000000000000000000000000000000000000):=by
 simp only [faD,List.mem_cons,List.not_mem_nil,or_false] at h
 rcases h with rfl | rfl | rfl | rfl | rfl | rfl
 all_goals exact ⟨_,rfl,by omega,by omega⟩
theorem meet_mm {p q:Int×Int} (hp:p.1<p.2) (hq:q.1<q.2):decide ((if q.1 > p.1 then q.1 else p.1)<(if q.2<p.2 then q.2 else p.2))=meet p q:=by
 unfold meet
 rw [Bool.eq_iff_iff,Bool.and_eq_true,decide_eq_true_eq,decide_eq_true_eq,decide_eq_true_eq]
 split <;> split <;> omega
theorem due_mo {l:List (Int×Int)} (hl:l.length≤24) (hg:Gd l):mxN ((l.map fun p=>cnt l p.1) ++ [0])=mo l:=by
 refine mxN_eq (fun x hx=>?_) ?_
 ·rcases List.mem_append.mp hx with h | h
  ·obtain ⟨p,_,rfl⟩:=List.mem_map.mp h
   exact cnt_le hl _
  ·rw [List.mem_singleton.mp h];exact Nat.zero_le _
 ·rcases knot_lie hg (mostK_spec (mt_web l) hl).1 with z | ⟨v,hv,z⟩
  ·refine List.mem_append_right _ (List.mem_singleton.mpr ?_)
   show (mostK l.length (mtT l)).length=0
   rw [z];rfl
  ·refine List.mem_append_left _ (List.mem_map.mpr ⟨l.getD v (0,0),piece_mem hv,?_⟩)
   exact Nat.le_antisymm (cnt_le hl _) z
theorem inner_eq {l:List (Int×Int)} (hl:l.length≤1000) (x e:Int) (s:Pn):dComp [none,some 0] (iSeqL (dVar 2)) (gOne 0) (bChain (dOp dIx (dVar 0) (dC (.int 0))) (cLink dLe (dVar 1) (cLast dLt (dOp dIx (dVar 0) (dC (.int 1)))))) (dC (.int 0)) [some (.int x),some (.int e),some (.lst (l.map pcD))] s=some (.lst ((l.filter (lieB x)).map fun _=>.int 0),s):=by
 have hc:=ev_comp (src:=[none,some 0]) (fi:=iSeqL (dVar 2)) (τ:=gOne 0) (ft:=bChain (dOp dIx (dVar 0) (dC (.int 0))) (cLink dLe (dVar 1) (cLast dLt (dOp dIx (dVar 0) (dC (.int 1)))))) (fe:=dC (.int 0)) (ρ:=[some (.int x),some (.int e),some (.lst (l.map pcD))]) (s:=s) (ds:=l.map pcD) (fun d=>[some d,some (.int x)]) (fun d=>match d with | .tup [.int a,.int b]=>lieB x (a,b) | _=>false) (fun _=>.int 0) (seqL_eq rfl) (by rw [List.length_map,sizeLine_v];omega) fun d hd=>by
  obtain ⟨p,_,rfl⟩:=List.mem_map.mp hd
  refine ⟨rfl,?_,fun _=>rfl⟩
  exact bChain_eq (op_eq' rfl rfl (pc0 p)) (cLink_eq (e:=.int x) rfl rfl fun _=>cLast_eq (op_eq' rfl rfl (pc1 p)) rfl)
 rw [List.filter_map,List.map_map] at hc
 exact hc
theorem due_eq {l:List (Int×Int)} (hl:l.length≤24) (hg:Gd l) {ρ:Rho} (s:Pn) (h3:(ρ[3]?).bind id=some (.lst (l.map pcD))) (hb:blkRho [none,none,some 3] ρ=[none,none,some (.lst (l.map pcD))]):dCall dMaxL (dCons (dOp dAdd (dComp [none,none,some 3] (iSeqL (dVar 3)) (gPair 0 1) bTrue (dCall dLen (dCons (dComp [none,some 0] (iSeqL (dVar 2)) (gOne 0) (bChain (dOp dIx (dVar 0) (dC (.int 0))) (cLink dLe (dVar 1) (cLast dLt (dOp dIx (dVar 0) (dC (.int 1)))))) (dC (.int 0))) dNil))) (dLst (dCons (dC (.int 0)) dNil))) dNil) ρ s=some (nD (mo l),s):=by
 have hc:=ev_comp (src:=[none,none,some 3]) (fi:=iSeqL (dVar 3)) (τ:=gPair 0 1) (ft:=bTrue) (fe:=dCall dLen (dCons (dComp [none,some 0] (iSeqL (dVar 2)) (gOne 0) (bChain (dOp dIx (dVar 0) (dC (.int 0))) (cLink dLe (dVar 1) (cLast dLt (dOp dIx (dVar 0) (dC (.int 1)))))) (dC (.int 0))) dNil)) (ρ:=ρ) (s:=s) (ds:=l.map pcD) (fun d=>match d with | .tup [a,b]=>[some a,some b,some (.lst (l.map pcD))] | _=>[]) (fun _=>true) (fun d=>match d with | .tup [.int a,.int b]=>nD (cnt l a) | _=>.non) (seqL_eq (by unfold dVar mOf;rw [h3])) (by rw [List.length_map,sizeLine_v];omega) fun d hd=>by
  obtain ⟨p,_,rfl⟩:=List.mem_map.mp hd
  refine ⟨by rw [hb];rfl,rfl,fun _=>call_eq (cons_eq (inner_eq (by omega) p.1 p.2 s) rfl) ?_⟩
  show some (D.int _)=some (D.int _)
  rw [List.length_map];rfl
 rw [List.filter_eq_self.mpr fun _ _=>rfl,List.map_map] at hc
 refine call_eq (cons_eq (op_eq' (d:=.lst ((l.map fun (p:Int×Int)=>cnt l p.1).map nD)) (e:=.lst [nD 0]) (hc.trans (by rw [List.map_map];rfl)) (lst_eq (cons_eq rfl rfl) (by show 1≤sizeLine;decide)) (lst_cat (by rw [List.length_map,List.length_map];simp;omega))) rfl) ?_
 rw [show (l.map fun (p:Int×Int)=>cnt l p.1).map nD ++ [nD 0]=((l.map fun (p:Int×Int)=>cnt l p.1) ++ [0]).map nD by rw [List.map_append];rfl,maxL_any (by simp),due_mo hl hg]
theorem tis_true {n:Nat} {T:List (Nat×Nat)} {hs:List Nat} (hT:T.length≤100000) (hn:n≤24) (hlen:hs.length=n) (hlt:∀x∈hs,x<n) (hr:∀p∈T,p.1<n∧p.2<n∧hs.getD p.1 0≠hs.getD p.2 0) (s:Pn):F__law_tis_hueing [webD n T,tupN hs] s=some (.bl true,s):=by
 refine runB_eq rfl (Ok.toEq ?_)
 refine Ok.seq (.sif (.eq (a:=false) (bor_f (not_eq' (b:=true) (asB_eq (call_eq (cons_eq rfl (cons_eq rfl rfl)) rfl))) (asB_eq (op_eq' (d:=nD n) (e:=nD n) (call_eq (cons_eq rfl rfl) (by show some (D.int _)=some (D.int _);rw [List.length_map,hlen])) (op_eq' (d:=webD n T) (e:=.int 0) rfl rfl web0) (by rw [dNe_nD];simp)))) (.next ?_)))
 refine Ok.seq (.sfor (fun i ρ s'=>s=s'∧∃o2,ρ=[some (webD n T),some (tupN hs),o2]) (.eq (seqT_eq (ds:=hs.map nD) rfl) ⟨⟨rfl,none,rfl⟩,fun i d ρ s' hd hI=>?_,fun ρ' s' hI=>?_⟩))
 ·obtain ⟨rfl,o2,rfl⟩:=hI
  obtain ⟨x,hx,rfl⟩:=List.mem_map.mp (List.mem_of_getElem? hd)
  refine ⟨_,rfl,?_⟩
  have hlp:=look_place (n:=n) (ties:=T) (d:=nD x) rfl (tupN hs) s
  rw [show placeB (n:Int) (nD x)=true by
   have:=hlt x hx
   show (decide ((0:Int)≤(x:Int))&&decide ((x:Int)<(n:Int)))=true
   rw [decide_eq_true (by omega),decide_eq_true (by omega)];rfl] at hlp
  exact Ok.seq (.sif (.eq hlp (.next (.next ⟨_,rfl,rfl,_,rfl⟩))))
 ·obtain ⟨rfl,o2,rfl⟩:=hI
  have hc:=ev_comp (src:=[none,some 1]) (fi:=iSeqT (dOp dIx (dVar 0) (dC (.int 1)))) (τ:=gOne 0) (ft:=asB (dOp dEqO (dOp dIx (dVar 1) (dOp dIx (dVar 0) (dC (.int 0)))) (dOp dIx (dVar 1) (dOp dIx (dVar 0) (dC (.int 1)))))) (fe:=dVar 0) (ρ:=[some (webD n T),some (tupN hs),o2]) (s:=s) (ds:=T.map pairD) (fun d=>[some d,some (tupN hs)]) (fun _=>false) (fun d=>d) (seqT_eq (op_eq' (d:=webD n T) (e:=.int 1) rfl rfl web1)) (by rw [List.length_map,sizeLine_v];omega) fun d hd=>by
   obtain ⟨p,hp,rfl⟩:=List.mem_map.mp hd
   obtain ⟨p1,p2,p3⟩:=hr p hp
   refine ⟨rfl,asB_eq (op_eq' (d:=nD (hs.getD p.1 0)) (e:=nD (hs.getD p.2 0)) (op_eq' (d:=tupN hs) (e:=nD p.1) rfl (op_eq' rfl rfl (pair_ix0 p)) (nats_ix (by omega))) (op_eq' (d:=tupN hs) (e:=nD p.2) rfl (op_eq' rfl rfl (pair_ix1 p)) (nats_ix (by omega))) ?_),fun z=>by cases z⟩
   show some (D.bl (dEq _ _))=_
   rw [dEq_nD,decide_eq_false p3]
  rw [List.filter_eq_nil_iff.mpr fun _ _=>by decide] at hc
  exact Ok.seq (.sret (.eq (op_eq' (d:=.lst []) (e:=.lst []) (hc.trans rfl) (lst_eq (ds:=[]) rfl (Nat.zero_le _)) rfl) ⟨rfl,rfl⟩))
theorem lying2_eq {l:List (Int×Int)} (hl:l.length≤1000) (x:Int) {ρ:Rho} (s:Pn) (h3:dVar 3 ρ s=some (.lst (l.map pcD),s)) (hb:blkRho [none,some 3,some 8] ρ=[none,some (.lst (l.map pcD)),some (.int x)]):dComp [none,some 3,some 8] (iRange1 (dCall dLen (dCons (dVar 3) dNil))) (gOne 0) (bChain (dOp dIx (dOp dIx (dVar 1) (dVar 0)) (dC (.int 0))) (cLink dLe (dVar 2) (cLast dLt (dOp dIx (dOp dIx (dVar 1) (dVar 0)) (dC (.int 1)))))) (dVar 0) ρ s=some (.lst ((lie l x).map nD),s):=by
 have hc:=ev_comp (src:=[none,some 3,some 8]) (fi:=iRange1 (dCall dLen (dCons (dVar 3) dNil))) (τ:=gOne 0) (ft:=bChain (dOp dIx (dOp dIx (dVar 1) (dVar 0)) (dC (.int 0))) (cLink dLe (dVar 2) (cLast dLt (dOp dIx (dOp dIx (dVar 1) (dVar 0)) (dC (.int 1)))))) (fe:=dVar 0) (ρ:=ρ) (s:=s) (ds:=dRange 0 l.length) (fun d=>[some d,some (.lst (l.map pcD)),some (.int x)]) (fun d=>lieB x (l.getD (nat0 d) (0,0))) (fun d=>d) (ev_range1 (n:=l.length) (len_eq h3) (by omega)) (by rw [dRange_len,sizeLine_v];omega) fun d hd=>by
  obtain ⟨i,hi,rfl⟩:=dRange_mem hd
  refine ⟨by rw [hb];rfl,?_,fun _=>rfl⟩
  exact bChain_eq (op_eq' (op_eq' rfl rfl (pc_ix l i hi)) rfl (pc0 _)) (cLink_eq (e:=.int x) rfl rfl fun _=>cLast_eq (op_eq' (op_eq' rfl rfl (pc_ix l i hi)) rfl (pc1 _)) rfl)
 rw [filter_ints l.length fun i=>lieB x (l.getD i (0,0))] at hc
 exact hc
theorem shp_nats (m:Nat) (K:List Nat) (h:K.length≤1000):shp (m+2) (tupN K):=⟨by rw [List.length_map];omega,fun d hd=>by
 obtain ⟨x,_,rfl⟩:=List.mem_map.mp hd
 trivial⟩
set_option maxHeartbeats 4000000 in
theorem law_true (m:Int) (w:List Int):∃s',g_law (none::some .pen::List.replicate 13 none) ([m,0],w)=some (.rt (.bl true),s'):=by
 have ok0:okD 0 ([m,0],w):=⟨m,0,rfl,by omega,by omega⟩
 suffices hh:Ok (g_law (none::some .pen::List.replicate 13 none)) ([m,0],w) fun o s'=>o=.rt (.bl true) by
  obtain ⟨o,s',e,rfl⟩:=hh
  exact ⟨s',e⟩
 refine Ok.seq (.sfor (fun i ρ s'=>okD (i*3000) s'∧∃o2 o3 o4 o5 o6 o7 o8 o9 o10 o11 o12 o13 o14,ρ=[none,some .pen,o2,o3,o4,o5,o6,o7,o8,o9,o10,o11,o12,o13,o14]) (.eq (ev_range1 (n:=6) rfl (by omega)) ⟨⟨ok0.mono (by omega),none,none,none,none,none,none,none,none,none,none,none,none,none,rfl⟩,fun i d ρ s' hd hI=>?_,fun ρ' s' hI=>?_⟩))
 ·obtain ⟨ok1,o2,o3,o4,o5,o6,o7,o8,o9,o10,o11,o12,o13,o14,rfl⟩:=hI
  obtain ⟨hi,rfl⟩:=dRange_get0 hd
  refine ⟨_,rfl,?_⟩
  obtain ⟨pd,s,e4,ok4,fa,l,hfa,rfl,hl,hP⟩:=tpieces_ok (m:=6) (faD:=faD) (R:=fun f=>-900000000000000000000000000000000000000000000000000000000000≤f∧f≤900000000000000000000000000000000000000000000000000000000000) rfl (by omega) (by omega) (fun d hd=>fa_bound hd) ok1 (by omega)
  have hg:Gd l:=fun p hp=>(hP p hp).1
  have hrp:=repr_pieces l (fun p hp=>by
   obtain ⟨h1,h2,h3⟩:=hP p hp
   have:=hfa.1
   have:=hfa.2
   constructor <;> omega) hl
  refine Ok.seq (.sset (.eq (fn_eq (cons_eq rfl (cons_eq faD_eq rfl)) e4) ?_))
  refine Ok.seq (.sset (.eq (due_eq (by omega) hg s rfl rfl) ?_))
  refine Ok.seq (.sset (.eq (call_eq (cons_eq rfl rfl) hrp) ?_))
  generalize (toPy (.lst (l.map pcD))).shown=shw at hrp
  obtain ⟨x,hs,hT,hkl,hR,hlt,hun⟩:=told_eq l (by omega) hg s
  refine Ok.seq (.sset (.eq (fn_eq (cons_eq rfl rfl) hT) ?_))
  have hmo:mo l≤1000:=Nat.le_trans (kn_mem (mostK_spec (mt_web l) (show l.length≤24 by omega)).1).2 (by omega)
  have hkl':(lie l x).length=mo l:=hkl
  have hun':unlike (natsI hs)=mo l:=hun
  refine Ok.seq (.sif (.eq (a:=false) (bor_f (not_eq' (b:=true) (asB_eq (call_eq (cons_eq rfl (cons_eq rfl rfl)) rfl))) (bor_f (asB_eq (op_eq' (d:=nD 4) (e:=nD 4) (call_eq (cons_eq rfl rfl) rfl) rfl (by rw [dNe_nD];simp))) (bor_f (not_eq' (b:=true) (asB_eq (fn_eq (ds:=[nD (mo l),nD (mo l)]) (cons_eq (op_eq' rfl rfl (atI_0 _ _)) (cons_eq rfl rfl)) (tsame_self (m:=5) (d:=nD (mo l)) trivial s)))) (asB_eq (op_eq' (call_eq (cons_eq rfl rfl) hrp) rfl (ne_self rfl (by simp [dep]))))))) (.next ?_)))
  refine Ok.seq (.sunp (.eq rfl ⟨_,rfl,?_⟩))
  refine Ok.seq (.sif (.eq (a:=false) (bor_f (not_eq' (b:=true) (asB_eq (call_eq (cons_eq rfl (cons_eq rfl rfl)) rfl))) (asB_eq (call_eq (cons_eq rfl (cons_eq rfl rfl)) rfl))) (.next ?_)))
  refine Ok.seq (.sset (.eq (lying2_eq (l:=l) (by omega) x s rfl rfl) ?_))
  refine Ok.seq (.sif (.eq (a:=false) (bor_f (not_eq' (b:=true) (asB_eq (fn_eq (ds:=[tupN (lie l x),tupN (lie l x)]) (cons_eq rfl (cons_eq (call_eq (cons_eq rfl rfl) rfl) rfl)) (tsame_self (shp_nats 3 _ (by omega)) s)))) (asB_eq (op_eq' (d:=nD (mo l)) (e:=nD (mo l)) (call_eq (cons_eq rfl rfl) (by show some (D.int _)=some (D.int _);rw [List.length_map,hkl'])) rfl (by rw [dNe_nD];simp)))) (.next ?_)))
  refine Ok.seq (.sown (.eq (a:=.lst []) rfl ⟨rfl,?_⟩))
  let B:Nat×Nat→Bool:=fun p=>meet (l.getD p.1 (0,0)) (l.getD p.2 (0,0))
  have hgd:∀y,y<l.length→(l.getD y (0,0)).1<(l.getD y (0,0)).2:=fun y hy=>hg _ (piece_mem hy)
  refine Ok.seq (.sfor (fun h ρ s'=>s=s'∧∃o13 o14,ρ=[none,some .pen,some (nD i),some (.lst (l.map pcD)),some (nD (mo l)),some (.str shw),some (.tup [nD (mo l),.int x,tupN (lie l x),tupN hs]),some (nD (mo l)),some (.int x),some (tupN (lie l x)),some (tupN hs),some (.lst ((lie l x).map nD)),some (.lst (((preC h).filter B).map pairD)),o13,o14]) (.eq (ev_range1 (n:=l.length) (len_eq rfl) (by omega)) ⟨⟨rfl,o13,o14,rfl⟩,fun h d ρ s' hd hI=>?_,fun ρ' s' hI=>?_⟩))
  ·obtain ⟨rfl,o13,o14,rfl⟩:=hI
   obtain ⟨hh,rfl⟩:=dRange_get0 hd
   refine ⟨_,rfl,?_⟩
   refine Ok.seq (.sfor (fun y ρ s'=>s=s'∧∃o14,ρ=[none,some .pen,some (nD i),some (.lst (l.map pcD)),some (nD (mo l)),some (.str shw),some (.tup [nD (mo l),.int x,tupN (lie l x),tupN hs]),some (nD (mo l)),some (.int x),some (tupN (lie l x)),some (tupN hs),some (.lst ((lie l x).map nD)),some (.lst (((preC h++(List.range y).map fun y=>(y,h)).filter B).map pairD)),some (nD h),o14]) (.eq (ev_range1 (n:=h) rfl (by omega)) ⟨⟨rfl,o14,by simp⟩,fun y d ρ s' hd hJ=>?_,fun ρ' s' hJ=>?_⟩))
   ·obtain ⟨rfl,o14,rfl⟩:=hJ
    obtain ⟨hy,rfl⟩:=dRange_get0 hd
    refine ⟨_,rfl,?_⟩
    have hyl:y<l.length:=by omega
    have hlen:(((preC h++(List.range y).map fun y=>(y,h)).filter B).map pairD).length<sizeLine:=by
     rw [List.length_map]
     have h1:=List.length_filter_le B (preC h++(List.range y).map fun y=>(y,h))
     rw [List.length_append,List.length_map,List.length_range] at h1
     have h2:=preC_len h (by omega)
     rw [sizeLine_v];omega
    have hnext:(preC h++(List.range (y+1)).map fun y=>(y,h)).filter B=(preC h++(List.range y).map fun y=>(y,h)).filter B++(if B (y,h)=true then [(y,h)] else []):=by
     rw [List.range_succ,List.map_append,←List.append_assoc]
     exact filter_app_one _ _ _
    refine Ok.seq (.sif (.eq (s':=s) (a:=B (y,h)) ((asB_eq (op_eq' (call_eq (cons_eq (op_eq' (op_eq' rfl rfl (pc_ix l y hyl)) rfl (pc0 _)) (cons_eq (op_eq' (op_eq' rfl rfl (pc_ix l h hh)) rfl (pc0 _)) rfl)) rfl) (call_eq (cons_eq (op_eq' (op_eq' rfl rfl (pc_ix l y hyl)) rfl (pc1 _)) (cons_eq (op_eq' (op_eq' rfl rfl (pc_ix l h hh)) rfl (pc1 _)) rfl)) rfl) rfl)).trans (by rw [meet_mm (hgd y hyl) (hgd h hh)])) ?_))
    cases hb:B (y,h) with
    | true=>
     refine iteT (.seq (.sapp (ds:=((preC h++(List.range y).map fun y=>(y,h)).filter B).map pairD) rfl hlen (.eq (tup_eq (cons_eq rfl (cons_eq rfl rfl)) two_le) ?_)))
     refine .next (.next ⟨_,rfl,rfl,some (nD y),?_⟩)
     rw [if_pos hb] at hnext
     rw [hnext,List.map_append];rfl
    | false=>
     refine iteF (.next (.next ⟨_,rfl,rfl,some (nD y),?_⟩))
     rw [if_neg (by rw [hb];exact Bool.false_ne_true),List.append_nil] at hnext
     rw [hnext];rfl
   ·obtain ⟨rfl,o14',rfl⟩:=hJ
    refine Ok.next ⟨_,rfl,rfl,some (nD h),o14',?_⟩
    rw [dRange_len,preC_succ]
  ·obtain ⟨rfl,o13,o14,rfl⟩:=hI
   rw [dRange_len]
   have hTl:((preC l.length).filter B).length≤100000:=by
    have h1:=List.length_filter_le B (preC l.length)
    have h2:(preC l.length).length≤576:=by
     rw [(preC_perm l.length).length_eq]
     exact IsWeb.len (List.Sublist.refl _) (by omega)
    omega
   have htt:=tis_true (n:=l.length) (T:=(preC l.length).filter B) (hs:=hs) hTl (by omega) hR.len (fun y hy=>by
    obtain ⟨j,hj,rfl⟩:=List.mem_iff_getElem.mp hy
    have hjn:j<l.length:=by rw [←hR.len];exact hj
    have:=hR.lt j hjn
    rwa [List.getD_eq_getElem?_getD,List.getElem?_eq_getElem hj] at this) (fun p hp=>by
    obtain ⟨p1,p2⟩:=List.mem_filter.mp hp
    have p1:=mem_allP.mp ((preC_perm l.length).mem_iff.mp p1)
    have hp1:p.1<l.length:=by omega
    exact ⟨hp1,p1.2,hR.ri p.1 hp1 p.2 p1.2 (by omega) (by rw [tied_mt (by omega) hp1 p1.2];exact p2)⟩) s
   refine Ok.seq (.sif (.eq (a:=false) (bor_f (not_eq' (b:=true) (asB_eq (fn_eq (ds:=[webD l.length ((preC l.length).filter B),tupN hs]) (cons_eq (tup_eq (cons_eq (len_eq rfl) (cons_eq (call_eq (cons_eq rfl rfl) rfl) rfl)) two_le) (cons_eq rfl rfl)) htt))) (asB_eq (op_eq' (d:=nD (mo l)) (e:=nD (mo l)) ((lenSet_eq rfl (by rw [hR.len];omega)).trans (by rw [hun'])) rfl (by rw [dNe_nD];simp)))) (.next ?_)))
   exact .next ⟨_,rfl,ok4.mono (by omega),_,_,_,_,_,_,_,_,_,_,_,_,_,rfl⟩
 ·obtain ⟨ok,o2,o3,o4,o5,o6,o7,o8,o9,o10,o11,o12,o13,o14,rfl⟩:=hI
  exact Ok.seq (.sret (.eq rfl rfl))
end K51
namespace K51
open PySem.Spec PyProof.Rows
open PySem L2 TF TQ
open TP
open TP2
open TP3
set_option maxHeartbeats 4000000 in
theorem ok_law {P:Program} {w:World} {K:PySem.W.Frag} {mg:Str→Option Value} {base:Heap} {a_f a_p:Addr} {fd_f fd_p:FuncData} {L:List (Addr×Str)} (lo:LOk L) (F:Fun K "law" "law" s_law a_f fd_f) (T:Txt mg) (FP:FnOk P w K mg base CX0 1 a_p fd_p ["script"] (spPen K)) (hmp:mg "_law_tpen" = some (.ref a_p)) (hkp:PySem.W.keepIn K (.ref a_p)=true) (hbp:Binds K fd_p ["script"] []) (c__law_tis_hueing:Cal P w K mg base 1 "_law_tis_hueing" 2 false AnyG F__law_tis_hueing) (c__law_tpieces:Cal P w K mg base 2 "_law_tpieces" 2 true (PenT PenD L) F__law_tpieces) (c__law_tsame:Cal P w K mg base 6 "_law_tsame" 2 false AnyG (F__law_tsame 5)) (c_pieces_told:Cal P w K mg base 7 "pieces_told" 1 false (TabsG L) F_pieces_told) :
  FnOk P w K mg base CX0 8 a_f fd_f ["script"] (spLawT K L):=by
 have nd:=sc_law.nd
 refine F.ok sc_law (fun vs H Q E h=>?_) fun cdv A outer s0 H vs Q E hr h=>?_
 ·obtain ⟨a,ns,rfl,_⟩:=h
  rfl
 ·obtain ⟨a,ns,rfl,sq,hl,hTb,hQ⟩:=h
  refine ⟨_,pss_cons (ps_set (i:=1) nd rfl (Or.inl rfl) (pe_call (FP.mono (by decide)) hr rfl hmp hkp hbp .nil pass0 (pa_cons (pv 0) pa_nil))) (pss_anyG (GG:=(PenT PenD L)) fun G hG=>der_law lo T hr c__law_tis_hueing c__law_tpieces c__law_tsame c_pieces_told G hG),?_⟩
  refine ⟨.ref a,rfl,a,ns,rfl,sq,hl,fun p wa m H' st kp hp hw=>?_⟩
  obtain ⟨s',hs'⟩:=law_true m (wideOf ns)
  exact lawD_runT (n:=13) st hTb kp hp hw hQ hs'
noncomputable def rowsD:List DRow:=[dR "pairs_of" 1 189 2 1 15 196 true "tiefold.things" 187,
 dR "near" 3 201 9 2 22 204 false "tiefold.webs" 199,
 dR "all_near" 4 207 11 1 27 210 false "tiefold.webs" 199,
 dR "are_tied" 5 213 14 3 32 219 true "tiefold.webs" 199,
 dR "marked_ties" 6 222 16 1 39 225 false "tiefold.webs" 199,
 dR "web_where" 7 228 18 2 44 231 false "tiefold.webs" 199,
 dR "hued_along" 9 236 22 2 49 239 false "tiefold.hues" 234,
 dR "least_free" 10 242 28 1 54 245 false "tiefold.hues" 234,
 dR "web_of_pieces" 12 250 31 1 59 254 true "tiefold.pieces" 248,
 dR "do_meet" 13 257 33 2 66 262 true "tiefold.pieces" 248,
 dR "pieces_told" 14 265 35 1 73 268 false "tiefold.pieces" 248,
 dR "lying_at" 15 271 41 2 78 274 false "tiefold.pieces" 248,
 dR "_law_tpen" 17 279 44 1 83 282 false "law_tiefold_k51_pieces_told" 277,
 dR "_law_tdraw" 18 285 49 2 88 293 true "law_tiefold_k51_pieces_told" 277,
 dR "_law_tsame" 19 296 60 2 95 299 false "law_tiefold_k51_pieces_told" 277,
 dR "_law_tis_hueing" 20 302 72 2 100 305 false "law_tiefold_k51_pieces_told" 277,
 dR "_law_tpieces" 21 308 79 2 105 320 true "law_tiefold_k51_pieces_told" 277,
 dR "law" 22 323 91 1 112 326 false "law_tiefold_k51_pieces_told" 277]
noncomputable def KF (P:Params):PySem.W.Frag:=fragK top 181 ([dE P "__name__" 165 (.str "law_tiefold_k51_pieces_told" 277)] ++ [dE P "__doc__" 166 (.none)] ++ [dE P "__package__" 167 (.none)] ++ [dE P "__loader__" 168 (.builtin "__main__.__loader__#opaque")] ++ [dE P "__spec__" 169 (.none)]++dRs P [nE "__annotations__" 170 6,nE "__builtins__" 171 4] ++ [dE P "__file__" 173 (.str "/claim/cut.py" 172)] ++ [dE P "__cached__" 174 (.none)]++dRs P [nE "pairs_of" 198 21,nE "near" 206 26,nE "all_near" 212 31,nE "are_tied" 221 38,nE "marked_ties" 227 43,nE "web_where" 233 48,nE "hued_along" 241 53,nE "least_free" 247 58,nE "web_of_pieces" 256 65,nE "do_meet" 264 72,nE "pieces_told" 270 77,nE "lying_at" 276 82,nE "_law_tpen" 284 87,nE "_law_tdraw" 295 94,nE "_law_tsame" 301 99,nE "_law_tis_hueing" 307 104,nE "_law_tpieces" 322 111,nE "law" 328 116]) 27 rowsD
noncomputable def asF:List Addr:=[3,20,21,25,26,30,31,37,38,42,43,47,48,52,53,57,58,64,65,71,72,76,77,81,82,86,87,93,94,98,99,103,104,110,111,115,116]
theorem eF:∀P,asF=(KF P).map (·.1):=fun _=>by kernel_rfl
theorem okF (P:Params):RowsOk (KF P) top rowsD:=by
 repeat refine ⟨⟨by kernel_rfl,by kernel_rfl,by kernel_rfl⟩,?_⟩
 exact trivial
noncomputable abbrev LF:List (Addr×Str):=[(74,(Str.ofString "pieces_told.<locals>.<lambda>"))]
set_option maxHeartbeats 4000000 in
theorem all_mk {P:Program} {w:World} {h:Heap} {mg:Str→Option Value} {fa:Addr} (X:(KF w.params).In h) (G:h.Ns mainGlobals mg) (hfa:mg "law" = some (.ref fa)) :
  ∃fd:FuncData,(∀(s:Shared) (v:Value),BindsTo s fd ⟨[v],[]⟩ [("script",v)])∧∀base:Heap,(KF w.params).In base→base.Ns mainGlobals mg→PySem.W.CodeHd base 76 74→BMn mg base→FnOk P w (KF w.params) mg base CX0 8 fa fd ["script"] (spLawT (KF w.params) LF):=by
 have lo:LOk LF:=TF.lok_nd (by decide)
 have zn:∀x,PySem.W.nsIn (KF w.params) mainGlobals x=some none→mg x=none:=fun _ z=>PySem.W.mg_none_of X G z
 have T:Txt mg:=⟨zn _ (by kernel_rfl),zn _ (by kernel_rfl),zn _ (by kernel_rfl),zn _ (by kernel_rfl),zn _ (by kernel_rfl),zn _ (by kernel_rfl),zn _ (by kernel_rfl),zn _ (by kernel_rfl),zn _ (by kernel_rfl),zn _ (by kernel_rfl),zn _ (by kernel_rfl),zn _ (by kernel_rfl),zn _ (by kernel_rfl),zn _ (by kernel_rfl),zn _ (by kernel_rfl),zn _ (by kernel_rfl)⟩
 have mk:=@mkc P w (KF w.params) mg
 have at_:=fun j {r} e=>@row_at _ h mg _ _ (okF w.params) X G j r e
 obtain ⟨f1,_,F1,m1,_⟩:=at_ 15 rfl
 obtain ⟨f2,_,F2,m2,_⟩:=at_ 13 rfl
 obtain ⟨f3,_,F3,m3,_⟩:=at_ 16 rfl
 obtain ⟨f4,_,F4,m4,_⟩:=at_ 14 rfl
 obtain ⟨f5,_,F5,m5,_⟩:=at_ 4 rfl
 obtain ⟨f6,_,F6,m6,_⟩:=at_ 3 rfl
 obtain ⟨f7,_,F7,m7,_⟩:=at_ 1 rfl
 obtain ⟨f8,_,F8,m8,_⟩:=at_ 2 rfl
 obtain ⟨f9,_,F9,m9,_⟩:=at_ 7 rfl
 obtain ⟨f10,_,F10,m10,_⟩:=at_ 6 rfl
 obtain ⟨f11,_,F11,m11,_⟩:=at_ 11 rfl
 obtain ⟨f12,_,F12,m12,_⟩:=at_ 0 rfl
 obtain ⟨f13,_,F13,m13,_⟩:=at_ 5 rfl
 obtain ⟨f14,_,F14,m14,_⟩:=at_ 9 rfl
 obtain ⟨f15,_,F15,m15,_⟩:=at_ 8 rfl
 obtain ⟨f16,_,F16,m16,e16⟩:=at_ 10 rfl
 obtain ⟨f17,_,F17,m17,_⟩:=at_ 12 rfl
 obtain ⟨f18,_,F18,m18,_⟩:=at_ 17 rfl
 cases hfa.symm.trans m18
 have ca_lying_at:=fun b=>mk b F11 m11 (ok_lying_at F11 T )
 have ca_pairs_of:=fun b=>mk b F12 m12 (ok_pairs_of F12 T )
 have cA_web_where:CalA P w (KF w.params) mg 5 "web_where" 2 false (CloG P w (KF w.params) mg 4 2 Tl) F_web_where:=⟨f13,_,_,fun b=>ok_web_where F13 T (ca_pairs_of b),m13,F13.kp,bdc ["row","tied"] F13⟩
 have ca_do_meet:=fun b=>mk b F14 m14 (ok_do_meet F14 T )
 have cg_do_meet:CalG P w (KF w.params) mg 4 "do_meet" 2 F_do_meet:=⟨f14,_,_,_,fun b=>(ok_do_meet F14 T ).mono (by decide),rfl,m14,F14.lk,bdc ["piece","other"] F14⟩
 obtain ⟨oc,od,kV,doc,pm,an,cdv,ct,osl,rfl,lk,hcd⟩:=F18.ex
 refine ⟨PySem.W.fnOf "law" "law" (defArgs s_law) (defBody s_law) (defScope s_law) .none kV doc pm an cdv ct,fun s v=>.of_eq rfl,fun base _ _ hC16 hBm=>?_⟩
 have c__law_tis_hueing:=mk base F1 m1 (ok__law_tis_hueing F1 T )
 have cp__law_tdraw:=mk base F2 m2 (ok__law_tdraw F2 T )
 have c__law_tdraw:Cal P w (KF w.params) mg base 1 "_law_tdraw" 2 true (PenT PenD LF) drawF:=cal_tabs cp__law_tdraw drawF_no
 have c__law_tpieces:=mk base F3 m3 (ok__law_tpieces F3 T lo c__law_tdraw)
 have rr__law_tsame:∀j:Nat,Cal P w (KF w.params) mg base (0+j) "_law_tsame" 2 false AnyG (F__law_tsame j):=by
  intro j
  induction j with
  | zero=>exact Cal.none m4 F4.kp (bdc ["found","due"] F4)
  | succ j ih=>exact mk base F4 m4 (ok__law_tsame F4 T (Nat.le_add_right _ _) ih)
 have c__law_tsame:=(rr__law_tsame 5).mono (k:=6)
 have c_marked_ties:=mk base F5 m5 (ok_marked_ties F5 T )
 have c_are_tied:=mk base F6 m6 (ok_are_tied F6 T )
 have c_near:=mk base F7 m7 (ok_near F7 T c_are_tied)
 have c_all_near:=mk base F8 m8 (ok_all_near F8 T c_marked_ties c_near)
 have c_least_free:=mk base F9 m9 (ok_least_free F9 T )
 have c_hued_along:=mk base F10 m10 (ok_hued_along F10 T c_all_near c_least_free)
 have c_lying_at:=ca_lying_at base
 have c_pairs_of:=ca_pairs_of base
 have c_web_where:=cA_web_where
 have c_do_meet:=ca_do_meet base
 have c_web_of_pieces:=mk base F15 m15 (ok_web_of_pieces F15 T c_web_where cg_do_meet)
 have c_pieces_told:=mk base F16 m16 (ok_pieces_told F16 T lo c_hued_along c_lying_at c_web_of_pieces ca_lying_at (tP:=74) e16 hC16 hBm (by simp))
 exact ok_law lo F18 T (ok__law_tpen F17 T) m17 F17.kp (bdc ["script"] F17) c__law_tis_hueing c__law_tpieces c__law_tsame c_pieces_told
noncomputable def tb:List (Str×Addr×Addr):=[("pieces_told",76,74)]
theorem tb_all:∀P q,(P,q)∈LF→∃x c,(x,c,P)∈tb:=by
 intro P q h
 simp only [List.mem_cons,Prod.mk.injEq,List.not_mem_nil,or_false] at h
 rcases h with ⟨rfl,_⟩
 ·exact ⟨"pieces_told",76,by simp [tb]⟩
noncomputable def qF:Program:=PySem.W.view PySem.Challenge.pw_tiefold_k51_pieces_told [1,3,4,5,6,7,9,10,12,13,14,15,17,18,19,20,21,22]
theorem walk {loose:List Str} {XP:(Str→Option Value)→Heap→Prop} {YP:World→Heap→Prop} (hY:∀(w:World) (h:Heap),YP w h→(KF w.params).In h) :
  PySem.W.WalkO qF loose XP YP PySem.Challenge.rw_tiefold_k51_pieces_told.row.toRowW (lawRec s_law) [] (fun f vs=>PySem.call f vs):=
 walk_ofT (K:=KF) (tb:=tb) (n:=63) (k:=8) (x:="script") (CX:=fun _=>CX0) (sp:=fun w=>spLawT (KF w.params) LF) rfl (by decide) rfl ⟨rfl,by decide,by decide,rfl⟩ hY
  (List.forall_mem_cons.mpr ⟨Option.isSome_iff_exists.mp (by kernel_rfl),(fun _ h=>nomatch h)⟩)
  (fun w=>List.forall_mem_cons.mpr ⟨by kernel_rfl,(fun _ h=>nomatch h)⟩) (fun w=>by kernel_rfl)
  (fun w mg fa h h1 h2 h3=>let ⟨fd,hb,hF⟩:=all_mk h1 h2 h3;⟨fd,hb,fun base g1 g2 g3 g4=>hF base g1 g2 (g3 ("pieces_told",76,74) (by simp [tb])) g4⟩)
  (fun _ _ a ns hl hS hTb=>⟨a,ns,rfl,hS,hl,spLaw_tabs (tb:=tb) tb_all hTb,fun _=>rfl⟩) fun _ _ _ _ _ z=>z
theorem left:PySem.W.LeftO PySem.Challenge.rw_tiefold_k51_pieces_told.prog qF [] (fun s=>PySem.W.xlAt qF [] s&&PySem.W.recOk PySem.Challenge.rw_tiefold_k51_pieces_told.row.records s) (PySem.W.kHook KF asF eF).obs (PySem.W.kHook KF asF eF).val 1224:=fun w=>by kernel_rfl
theorem said:PySem.Challenge.rw_tiefold_k51_pieces_told.wellSaid=true:=by kernel_rfl
end K51
open PySem PySem.W PyProof.Rows
set_option maxRecDepth 100000 in
set_option maxHeartbeats 0 in
theorem PySem.Challenge.cw_tiefold_k51_pieces_told_holds : PySem.Challenge.rw_tiefold_k51_pieces_told.Holds := by
 refine TF.head_of (q:=K51.qF) (K:=K51.KF) (st:=K51.s_law) K51.said K51.left (by kernel_rfl) (by kernel_rfl) (by kernel_rfl) (by decide +kernel) ⟨rfl,rfl,rfl,rfl,rfl,by decide +kernel⟩ ?hw rfl (K51.walk fun w h Y=>kIn_of Y)
 case hw=>w_witness2
