import PyProof.Rows.All
import Wide.All
import OpenK.AllK
import Wide.FinOn
import Lean
import PyProof.EqAt
import PyProof.EqKinds
import PyProof.TupleCall
import KE.KLam
import PyProof.ZipIter
import PyProof.WalksEnum
import PyProof.WalkInts
import PyProof.SeqI3
import PyProof.Rows.SeqMore
import PyProof.Rows.SortWalk
import PyProof.Draws
import PyProof.EnumMake
import PyProof.DictIter
import KE.KSortTup
import PyProof.Rows.SeqMore2
import PyProof.Rows.RuleIs
import PyProof.Rows.SetFrom
import PyProof.WalksMore
import PyProof.MinMaxWalk
import OpenK.KMore
import PyProof.Rows.SortRuns
import PyProof.Rows.SortRunsK
import PySem.Challenge.RW_tiefold_k63_whole_the_most_of_joined_web
-- CHANGE: your row's module here,as the last of these rows
set_option genSizeOfSpec false
set_option Elab.async false
set_option linter.all false
set_option maxRecDepth 100000
namespace L2
open PySem PySem.Spec PyProof.Rows
noncomputable abbrev Key:=Sum Int Str
noncomputable def keyIs:Key→Value→Bool
 | .inl k,v=>Value.isInt k v
 | .inr x,v=>Value.isStrOf x v
noncomputable def keyH (w:World):Key→Int
 | .inl k=>hashInt k
 | .inr x=>hashStr w x
theorem keyIs_shape:∀{k:Key} {v:Value},keyIs k v=true→(∃i t,k=Sum.inl i∧v=Value.int i t)∨(∃x t,k=Sum.inr x∧v=Value.str x t)
 | .inl i,v,h=>by
  obtain ⟨t,e⟩:=Value.isInt_shape (k:=i) (v:=v) h
  exact .inl ⟨i,t,rfl,e⟩
 | .inr x,v,h=>by
  obtain ⟨t,e⟩:=Value.isStrOf_shape (x:=x) (v:=v) h
  exact .inr ⟨x,t,rfl,e⟩
theorem keyIs_int (i:Int) (t:Tok):keyIs (.inl i) (.int i t)=true:=by simp [keyIs,Value.isInt]
theorem keyIs_str (x:Str) (t:Tok):keyIs (.inr x) (.str x t)=true:=by simp [keyIs,Value.isStrOf]
theorem key_ll (a b:Int):decide ((Sum.inl a:Key)=Sum.inl b)=(a==b):=by
 by_cases e:a=b
 ·subst e;simp
 ·have h:¬(Sum.inl a:Key)=Sum.inl b:=fun q=>e (Sum.inl.inj q)
  rw [decide_eq_false h]
  exact (beq_eq_false_iff_ne.mpr e).symm
theorem key_rr (a b:Str):decide ((Sum.inr a:Key)=Sum.inr b)=decide (a=b):=by
 by_cases e:a=b
 ·subst e;simp
 ·have h:¬(Sum.inr a:Key)=Sum.inr b:=fun q=>e (Sum.inr.inj q)
  rw [decide_eq_false h,decide_eq_false e]
theorem key_lr (a:Int) (b:Str):decide ((Sum.inl a:Key)=Sum.inr b)=false:=decide_eq_false (fun q=>nomatch q)
theorem key_rl (a:Str) (b:Int):decide ((Sum.inr a:Key)=Sum.inl b)=false:=decide_eq_false (fun q=>nomatch q)
noncomputable def mixKind (prog:Program) (w:World):PySem.KeyKind prog w Key where
 is:=keyIs
 hash:=keyH w
 inj:=fun v a b ha hb=>by
  rcases keyIs_shape ha with ⟨i,t,rfl,rfl⟩ | ⟨x,t,rfl,rfl⟩
  ·rcases keyIs_shape hb with ⟨j,u,rfl,e⟩ | ⟨y,u,rfl,e⟩
   ·injection e with e1 _;rw [e1]
   ·exact nomatch e
  ·rcases keyIs_shape hb with ⟨j,u,rfl,e⟩ | ⟨y,u,rfl,e⟩
   ·exact nomatch e
   ·injection e with e1 _;rw [e1]
 byValue:=fun k v h=>by
  rcases keyIs_shape h with ⟨i,t,rfl,rfl⟩ | ⟨x,t,rfl,rfl⟩ <;> rfl
 pyHash:=fun hv h=>by
  rcases keyIs_shape hv with ⟨i,t,rfl,rfl⟩ | ⟨x,t,rfl,rfl⟩
  ·exact wpAny_pyHash_int h
  ·exact wpAny_pyHash_str h
 eqBool:=fun hu hv h=>by
  rcases keyIs_shape hu with ⟨i,t,rfl,rfl⟩ | ⟨x,t,rfl,rfl⟩
  ·rcases keyIs_shape hv with ⟨j,u,rfl,rfl⟩ | ⟨y,u,rfl,rfl⟩
   ·rw [key_ll] at h;exact wpAny_eqBool_int h
   ·rw [key_lr] at h;exact SeqAt.EqAt.int_str i t y u _ _ _ _ h
  ·rcases keyIs_shape hv with ⟨j,u,rfl,rfl⟩ | ⟨y,u,rfl,rfl⟩
   ·rw [key_rl] at h;exact SeqAt.EqAt.str_int x t j u _ _ _ _ h
   ·rw [key_rr] at h;exact wpAny_eqBool_str h
 «strs»:=fun k x t v h=>by
  rcases keyIs_shape h with ⟨i,u,rfl,e⟩ | ⟨y,u,rfl,e⟩
  ·exact nomatch e
  ·injection e with e1 _
   subst e1
   cases v <;> rfl
theorem mixKind_int (prog:Program) (w:World) (i:Int) (t:Tok):(mixKind prog w).is (.inl i) (.int i t)=true:=keyIs_int i t
theorem mixKind_str (prog:Program) (w:World) (x:Str) (t:Tok):(mixKind prog w).is (.inr x) (.str x t)=true:=keyIs_str x t
end L2
namespace L2
open PySem PySem.Spec PyProof.Rows
inductive V where
 | non | bl (b:Bool) | int (i:Int) | str (x:Str) | byt (b:Array UInt8) | flt (b:UInt64) | ref (a:Addr) | ty (n:String)
 deriving DecidableEq
noncomputable def RelV:V→Value→Prop
 | .non,u=>u=Value.none
 | .bl b,u=>u=Value.bool b
 | .int i,u=>∃t,u=Value.int i t
 | .str x,u=>∃t,u=Value.str x t
 | .byt b,u=>∃t,u=Value.bytes b t
 | .flt b,u=>∃t,u=Value.float b t
 | .ref a,u=>u=Value.ref a
 | .ty n,u=>u=Value.type n
noncomputable abbrev Vals:List V→List Value→Prop:=Paired RelV
theorem Vals.length {xs:List V} {us:List Value} (r:Vals xs us):xs.length=us.length:=Paired.length r
theorem Vals.get:∀{xs:List V} {us:List Value} {i:Nat} {x:V},Vals xs us→xs[i]?=some x→∃u,us[i]?=some u∧RelV x u
 | _,_,_,_,.nil,e=>by simp at e
 | _,_,0,_,.cons r _,e=>by simp at e;subst e;exact ⟨_,rfl,r⟩
 | _,_,i+1,x,.cons _ t,e=>by
  obtain ⟨u,h1,h2⟩:=Vals.get (i:=i) (x:=x) t (by simpa using e)
  exact ⟨u,by simpa using h1,h2⟩
theorem Vals.set {x:V} {u:Value} (r:RelV x u):∀{xs:List V} {us:List Value} (i:Nat),Vals xs us→Vals (xs.set i x) (us.set i u)
 | _,_,_,.nil=>.nil
 | _,_,0,.cons _ t=>.cons r t
 | _,_,i+1,.cons q t=>.cons q (Vals.set r i t)
theorem Vals.append:∀{xs ys:List V} {us ws:List Value},Vals xs us→Vals ys ws→Vals (xs++ys) (us++ws)
 | _,_,_,_,.nil,s=>s
 | _,_,_,_,.cons r t,s=>.cons r (Vals.append t s)
noncomputable def RelO:Option V→Option Value→Prop
 | some v,some u=>RelV v u
 | none,none=>True
 | _,_=>False
noncomputable def KV {κ:Type}:List (κ×V)→List (κ×Value)→Prop:=Paired fun (p:κ×V) (q:κ×Value)=>p.1=q.1∧RelV p.2 q.2
noncomputable def kV:Key→V
 | .inl i=>.int i
 | .inr x=>.str x
inductive HO where
 | lst (xs:List V)
 | tup (xs:List V)
 | dK (kvs:List (Key×V)) | dT (kvs:List (List Key×V))
 | set (S:Int→Bool) (n:Nat)
 | ins (C dx:Addr) (fs:List (Str×V))
 | own (x:Addr)
 | xd (fs:List (Str×V))
 | met (f x:Addr)
 | rng (lo hi:Int)
 | frz (o:Obj) (u:HO)
 | tbl (ps:Array Value)
 | ext (φ:Heap→Prop)
noncomputable abbrev Hp:=Addr→Option HO
noncomputable def upd (H:Hp) (a:Addr) (o:HO):Hp:=fun b=>if b=a then some o else H b
theorem upd_same {H:Hp} {a:Addr} {o:HO}:upd H a o a=some o:=by unfold upd;rw [if_pos rfl]
theorem upd_ne {H:Hp} {a b:Addr} {o:HO} (h:b≠a):upd H a o b=H b:=by unfold upd;rw [if_neg h]
theorem upd_upd {H:Hp} {a:Addr} {o u:HO}:upd (upd H a o) a u=upd H a u:=by
 funext b;unfold upd;split <;> rfl
theorem ne_of {H:Hp} {a b:Addr} {o u:HO} (h:H a=some o) (h':H b=some u) (d:o≠u):a≠b:=by
 intro e;subst e;rw [h] at h';exact d (Option.some.inj h')
theorem ne_of_none {H:Hp} {a b:Addr} {o:HO} (h:H a=some o) (h':H b=none):a≠b:=by
 intro e;subst e;rw [h] at h';cases h'
section
variable (P:Program) (w:World)
noncomputable def ObjOk (H:Hp) (h:Heap) (a:Addr):HO→Prop
 | .lst xs=>xs.length≤sizeLine∧∃(its:List Value) (n:Nat),Vals xs its∧h.get? a=some { cls:=.type "list",data:=.seq its.toArray n }
 | .tup xs=>xs.length≤sizeLine∧∃its:List Value,Vals xs its∧IsTup h a its.toArray
 | .dK kvs=>kvs.length≤sizeLine∧(a==sysModules)=false∧∃vs,KV kvs vs∧h.DictOf (mixKind P w) a vs
 | .dT kvs=>kvs.length≤sizeLine∧(a==sysModules)=false∧∃xs:List (List Key×Addr×Value),
   Paired (fun (p:List Key×V) (q:List Key×Addr×Value)=>p.1=q.1∧H q.2.1=some (.tup (p.1.map kV))∧RelV p.2 q.2.2) kvs xs∧
   ∃o es ep,h.get? a=some o∧o.ExactDict∧o.data=.dict es ep∧es.toList=xs.map (entryOfKey (tupleKind (mixKind P w)))∧(xs.map (·.1)).Nodup
 | .set S n=>h.SetOf (intKind P w) a S n
 | .ins C dx fs=>H dx=some (.own a)∧fs.length≤1000∧dx≠a∧h.get? a=some (PySem.W.instObj C dx)∧
   ∃mA,h.Ns1 dx mA∧(∀f,RelO (fs.lookup f) (mA f))∧PySem.Within mA (fs.map (·.1))
 | .own _=>∃o,h.get? a=some o
 | .xd fs=>∃mA,h.Ns1 a mA∧∀f,RelO (fs.lookup f) (mA f)
 | .rng lo hi=>∃t u v,h.get? a=some { cls:=.type "range",data:=.fields #[.int lo t,.int hi u,.int 1 v] }
 | .frz o u=>h.get? a=some o∧ObjOk H h a u
 | .tbl ps=>h.get? a=some { cls:=.none,data:=.fields ps }
 | .met f x=>h.get? a=some (PySem.W.methodObj (.ref f) (.ref x))
 | .ext φ=>φ h∧(∃o,h.get? a=some o)∧∀h1 h2:Heap,φ h1→(∀o,h1.get? a=some o→h2.get? a=some o)→φ h2
noncomputable def HOk (H:Hp) (h:Heap):Prop:=∀a o,H a=some o→ObjOk P w H h a o
end
section
variable {P:Program} {w:World} {H H':Hp} {h h':Heap} {a:Addr} {o:HO}
theorem ObjOk.lt (x:ObjOk P w H h a o):a<h.objs.size:=by
 cases o with
 | lst xs=>obtain ⟨_,_,_,_,e⟩:=x;exact Heap.lt_size e
 | tup xs=>obtain ⟨_,_,_,p⟩:=x;exact p.lt
 | dK kvs=>obtain ⟨_,_,_,_,o,_,_,e,_⟩:=x;exact Heap.lt_size e
 | dT kvs=>obtain ⟨_,_,_,_,o,_,_,e,_⟩:=x;exact Heap.lt_size e
 | set S n=>obtain ⟨o,_,_,_,e,_⟩:=x;exact Heap.lt_size e
 | ins C dx fs=>obtain ⟨_,_,_,e,_⟩:=x;exact Heap.lt_size e
 | own y=>obtain ⟨_,e⟩:=x;exact Heap.lt_size e
 | xd fs=>obtain ⟨_,⟨_,_,_,e,_⟩,_⟩:=x;exact Heap.lt_size e
 | rng lo hi=>obtain ⟨_,_,_,e⟩:=x;exact Heap.lt_size e
 | frz ob u=>obtain ⟨e,_⟩:=x;exact Heap.lt_size e
 | tbl ps=>exact Heap.lt_size (show h.get? a=some _ from x)
 | met f y=>exact Heap.lt_size (show h.get? a=some _ from x)
 | ext φ=>obtain ⟨_,⟨_,e⟩,_⟩:=x;exact Heap.lt_size e
theorem Paired.mapP {α β:Type} {F G:α→β→Prop}:∀{l₁:List α} {l₂:List β},Paired F l₁ l₂→(∀a b,F a b→G a b)→Paired G l₁ l₂
 | _,_,.nil,_=>.nil
 | _,_,.cons r t,f=>.cons (f _ _ r) (Paired.mapP t f)
theorem ObjOk.stay (x:ObjOk P w H h a o) (k:∀b u,(b=a∨H b=some (.own a))→h.get? b=some u→h'.get? b=some u)
  (ho:∀b,H b=some (.own a)→H' b=some (.own a)) (ht:∀b xs,H b=some (.tup xs)→H' b=some (.tup xs)):ObjOk P w H' h' a o:=by
 induction o with
 | lst xs=>obtain ⟨z,its,n,r,e⟩:=x;exact ⟨z,its,n,r,k _ _ (.inl rfl) e⟩
 | tup xs=>obtain ⟨z,its,r,ob,e,c⟩:=x;exact ⟨z,its,r,ob,k _ _ (.inl rfl) e,c⟩
 | dK kvs=>obtain ⟨z,y,vs,r,ob,es,ep,e,c⟩:=x;exact ⟨z,y,vs,r,ob,es,ep,k _ _ (.inl rfl) e,c⟩
 | dT kvs=>
  obtain ⟨z,y,xs,r,ob,es,ep,e,c⟩:=x
  exact ⟨z,y,xs,Paired.mapP r fun p q z=>⟨z.1,ht _ _ z.2.1,z.2.2⟩,ob,es,ep,k _ _ (.inl rfl) e,c⟩
 | set S n=>obtain ⟨ob,es,ep,t,e,c⟩:=x;exact ⟨ob,es,ep,t,k _ _ (.inl rfl) e,c⟩
 | ins C dx fs=>
  obtain ⟨d,z,ne,e,mA,⟨od,es,ep,e2,c⟩,r⟩:=x
  exact ⟨ho _ d,z,ne,k _ _ (.inl rfl) e,mA,⟨od,es,ep,k _ _ (.inr d) e2,c⟩,r⟩
 | own y=>obtain ⟨ob,e⟩:=x;exact ⟨ob,k _ _ (.inl rfl) e⟩
 | xd fs=>obtain ⟨mA,⟨od,es,ep,e,c⟩,r⟩:=x;exact ⟨mA,⟨od,es,ep,k _ _ (.inl rfl) e,c⟩,r⟩
 | rng lo hi=>obtain ⟨t,u,v,e⟩:=x;exact ⟨t,u,v,k _ _ (.inl rfl) e⟩
 | frz ob u ih=>obtain ⟨e,q⟩:=x;exact ⟨k _ _ (.inl rfl) e,ih q⟩
 | tbl ps=>
  have e:h.get? a=some { cls:=.none,data:=.fields ps }:=x
  show h'.get? a=some { cls:=.none,data:=.fields ps }
  exact k a _ (.inl rfl) e
 | met f y=>
  have e:h.get? a=some (PySem.W.methodObj (.ref f) (.ref y)):=x
  show h'.get? a=some (PySem.W.methodObj (.ref f) (.ref y))
  exact k a _ (.inl rfl) e
 | ext φ=>obtain ⟨p,⟨o,e⟩,st⟩:=x;exact ⟨st _ _ p fun o q=>k _ _ (.inl rfl) q,⟨o,k _ _ (.inl rfl) e⟩,st⟩
theorem HOk.lt (x:HOk P w H h) (e:H a=some o):a<h.objs.size:=(x a o e).lt
theorem HOk.fresh (x:HOk P w H h) (e:h.objs.size≤a):H a=none:=by
 cases q:H a with
 | none=>rfl
 | some u=>exact absurd (Nat.lt_of_lt_of_le (x.lt q) e) (Nat.lt_irrefl _)
theorem HOk.kept (x:HOk P w H h) (k:∀b u,h.get? b=some u→h'.get? b=some u):HOk P w H h':=fun a o e=>
 (x a o e).stay (fun b u _ q=>k b u q) (fun _ q=>q) fun _ _ q=>q
theorem HOk.laid (x:HOk P w H h) (k:∀b u,h.get? b=some u→h'.get? b=some u) (hp:h.objs.size≤a) (new:ObjOk P w (upd H a o) h' a o):HOk P w (upd H a o) h':=fun b u e=>by
 have hn:=x.fresh hp
 by_cases hb:b=a
 ·subst hb;rw [upd_same] at e;cases e;exact new
 ·rw [upd_ne hb] at e
  exact (x b u e).stay (fun c v _ q=>k c v q) (fun c q=>by rw [upd_ne (ne_of_none q hn)];exact q) fun c xs q=>by rw [upd_ne (ne_of_none q hn)];exact q
end
noncomputable def Rd (H:Hp) (a:Addr) (u:HO):Prop:=H a=some u∨∃o,H a=some (.frz o u)
theorem Rd.ok {P:Program} {w:World} {H:Hp} {h:Heap} {a:Addr} {u:HO} (r:Rd H a u) (x:HOk P w H h):ObjOk P w H h a u:=by
 rcases r with r | ⟨o,r⟩
 ·exact x a u r
 ·obtain ⟨_,q⟩:=x a _ r
  exact q
noncomputable def Mut:Option HO→Prop
 | some (.lst _)=>True
 | some (.dK _)=>True
 | some (.dT _)=>True
 | some (.set _ _)=>True
 | some (.ins _ _ _)=>True
 | some (.ext _)=>True
 | _=>False
section
variable {P:Program} {w:World} {H:Hp} {h h':Heap} {x e:Addr} {o':HO}
theorem HOk.write (ok:HOk P w H h) (mu:Mut (H x)) (he:e=x∨H e=some (.own x)) (k:∀b u,b≠e→h.get? b=some u→h'.get? b=some u) (heo:∃u,h'.get? e=some u)
  (new:ObjOk P w (upd H x o') h' x o'):HOk P w (upd H x o') h':=fun b u q=>by
 have nown:∀c y,H c=some (.own y)→c≠x:=fun c y r z=>by subst z;rw [r] at mu;exact mu
 have ntup:∀c xs,H c=some (.tup xs)→c≠x:=fun c xs r z=>by subst z;rw [r] at mu;exact mu
 by_cases hb:b=x
 ·subst hb;rw [upd_same] at q;cases q;exact new
 ·rw [upd_ne hb] at q
  by_cases hbe:b=e
  ·have q':H b=some (.own x):=by
    rcases he with z | z
    ·exact absurd (hbe.trans z) hb
    ·rw [hbe];exact z
   rw [q] at q';cases q'
   obtain ⟨v,hv⟩:=heo
   exact ⟨v,by rw [hbe];exact hv⟩
  ·refine (ok b u q).stay (fun c v hc r=>k c v ?_ r) (fun c r=>by rw [upd_ne (nown c b r)];exact r) fun c xs r=>by rw [upd_ne (ntup c xs r)];exact r
   rcases hc with rfl | hc
   ·exact hbe
   ·rintro rfl
    rcases he with z | z
    ·exact nown c b hc z
    ·rw [hc] at z;cases z;exact hb rfl
end
structure Un (fs ex:List Addr) (H H':Hp) (h h':Heap):Prop where
 keep:∀b o,h.get? b=some o→H b=none→b∉fs→b∉ex→h'.get? b=some o
 slot:∀b o,h.get? b=some o→H b=none→b∈fs→b∉ex→∃sl,h'.get? b=some { o with slots:=sl }
 free:∀b o,h.get? b=some o→H b=none→b∉ex→H' b=none
 there:∀b o,h.get? b=some o→b∉ex→∃o',h'.get? b=some o'
 tups:∀b xs,H b=some (.tup xs)→H' b=some (.tup xs)
 frzs:∀b o u,H b=some (.frz o u)→H' b=some (.frz o u)
 tbls:∀b ps,H b=some (.tbl ps)→∃more,H' b=some (.tbl (ps++more))
section
variable {fs fs' ex ex':List Addr} {H H1 H2:Hp} {h h1 h2 h':Heap} {a x e:Addr} {o:HO}
theorem Un.any (u:Un fs ex H H1 h h1) {b:Addr} {ob:Obj} (q:h.get? b=some ob) (n:H b=none) (hx:b∉ex):∃sl,h1.get? b=some { ob with slots:=sl }:=by
 by_cases hb:b∈fs
 ·exact u.slot b ob q n hb hx
 ·exact ⟨ob.slots,u.keep b ob q n hb hx⟩
theorem Un.kept (k:∀b u,h.get? b=some u→h'.get? b=some u):Un fs ex H H h h':=
 ⟨fun b ob q _ _ _=>k b ob q,fun b ob q _ _ _=>⟨ob.slots,k b ob q⟩,fun _ _ _ n _=>n,fun b ob q _=>⟨ob,k b ob q⟩,fun _ _ q=>q,fun _ _ _ q=>q,fun _ ps q=>⟨#[],by rw [q];simp⟩⟩
theorem Un.refl:Un fs ex H H h h:=Un.kept fun _ _ q=>q
theorem Un.laid (k:∀b u,h.get? b=some u→h'.get? b=some u) (hp:h.objs.size≤a) (hn:H a=none):Un fs ex H (upd H a o) h h' where
 keep:=fun b u q _ _ _=>k b u q
 slot:=fun b u q _ _ _=>⟨u.slots,k b u q⟩
 free:=fun b u q n _=>by rw [upd_ne (Nat.ne_of_lt (Nat.lt_of_lt_of_le (Heap.lt_size q) hp))];exact n
 there:=fun b u q _=>⟨u,k b u q⟩
 tups:=fun b xs q=>by rw [upd_ne (ne_of_none q hn)];exact q
 frzs:=fun b u xs q=>by rw [upd_ne (ne_of_none q hn)];exact q
 tbls:=fun b ps q=>⟨#[],by rw [upd_ne (ne_of_none q hn),q];simp⟩
theorem Un.write (mu:Mut (H x)) (he:e=x∨H e=some (.own x)) (k:∀b u,b≠e→h.get? b=some u→h'.get? b=some u) (heo:∃u,h'.get? e=some u):Un fs ex H (upd H x o) h h':=by
 have hx:∀b,H b=none→b≠x:=fun b n z=>by subst z;rw [n] at mu;exact mu
 have hb:∀b,H b=none→b≠e:=fun b n z=>by
  subst z
  rcases he with r | r
  ·exact hx b n r
  ·rw [n] at r;cases r
 have hm:∀b u,H b=some u→¬Mut (some u)→b≠x:=fun b u q nm z=>by subst z;rw [q] at mu;exact nm mu
 refine ⟨fun b u q n _ _=>k b u (hb b n) q,fun b u q n _ _=>⟨u.slots,k b u (hb b n) q⟩,fun b u q n _=>by rw [upd_ne (hx b n)];exact n,fun b u q _=>?_,
  fun b xs q=>by rw [upd_ne (hm b _ q fun z=>z)];exact q,fun b u xs q=>by rw [upd_ne (hm b _ q fun z=>z)];exact q,fun b ps q=>⟨#[],by rw [upd_ne (hm b _ q fun z=>z),q];simp⟩⟩
 by_cases hbe:b=e
 ·subst hbe;exact heo
 ·exact ⟨u,k b u hbe q⟩
end
noncomputable def trk (h:Heap) (H:Hp):List Addr:=(List.range h.objs.size).filter fun a=>(H a).isSome
noncomputable def hidT (h:Heap) (H:Hp):Heap:=PySem.W.hideAll h (trk h H)
theorem hidT_size (h:Heap) (H:Hp):(hidT h H).objs.size=h.objs.size:=PySem.W.hideAll_size _ _
theorem hidT_get {h:Heap} {H:Hp} {b:Addr} {o:Obj} (e:h.get? b=some o) (n:H b=none):(hidT h H).get? b=some o:=
 PySem.W.hideAll_get _ e fun hm=>by
  have q:(H b).isSome=true:=(List.mem_filter.mp hm).2
  rw [n] at q;simp at q
theorem of_hidT {h:Heap} {H:Hp} {b:Addr} {o:Obj} (e:(hidT h H).get? b=some o):h.get? b=some o∧H b=none:=by
 have e':h.get? b=some o:=PySem.W.of_hideAll (trk h H) e
 refine ⟨e',?_⟩
 cases q:H b with
 | none=>rfl
 | some x=>
  have hm:b∈trk h H:=List.mem_filter.mpr ⟨List.mem_range.mpr (Heap.lt_size e'),by simp [q]⟩
  have z:(hidT h H).get? b=none:=PySem.W.hideAll_none (trk h H) hm
  rw [z] at e;cases e
end L2
namespace L2
open PySem PySem.Spec PyProof.Rows
structure Mod (K:PySem.W.Frag) (mg:Str→Option Value) (base:Heap):Prop where
 kin:K.In base
 glob:base.Ns mainGlobals mg
 blt:∃mb,base.Ns builtinsNs mb∧∀x:Str,x≠"__name__"→mb x=bootBuiltins x
 nolimit:base.NoLimit
structure Cx where
 prog:Program
 w:World
 K:PySem.W.Frag
 mg:Str→Option Value
 base:Heap
 A:Around
 N:List Str
 s₀:Shared
 H₀:Hp
 env:Env
 outer:List Env
 stack:List Env
 ex:List Addr
 fn:Str→Bool
 calm:Bool
 pn:List (Addr×Obj)
 xe:Value→Shared→Prop
noncomputable def frs (l:List Env):List Addr:=l.filterMap (·.frame)
noncomputable abbrev Cx.fs (X:Cx):List Addr:=frs X.outer
noncomputable def Vis (sc:Scope) (x:Str):Prop:=sc.names.lookup x=some .local∨sc.names.lookup x=some .cell∨sc.names.lookup x=some .free
noncomputable def Loc (sc:Scope) (x:Str):Prop:=sc.names.lookup x=some .local∨sc.names.lookup x=some .cell
noncomputable def Look (env:Env) (h:Heap) (m:Str→Option Value) (x:Str) (u:Value):Prop:=
 (env.kindOf x=some .local∧m x=some u)∨((env.kindOf x=some .cell∨env.kindOf x=some .free)∧∃c,env.cells.lookup x=some c∧h.IsCell c (some u))
structure Cx.Ok (X:Cx):Prop where
 mod:Mod X.K X.mg X.base
 kind:X.env.scope.kind=.function
 glob:X.env.globals=mainGlobals
 blt:X.env.builtins=builtinsNs
 above:X.s₀.heap.objs.size≤X.env.locals
 inj:∀x y c,X.env.cells.lookup x=some c→X.env.cells.lookup y=some c→x=y
 has:∀x,(X.env.kindOf x=some .cell∨X.env.kindOf x=some .free)→∃c,X.env.cells.lookup x=some c
 cab:∀x c,X.fn x=true→X.env.cells.lookup x=some c→X.s₀.heap.objs.size≤c
 hd:X.calm=true→X.A.handled=none
 frames:X.A.frames=some X.stack
 stk:X.stack=X.outer∨(X.stack=X.env::X.outer∧X.env.frame=some X.env.locals)
 exf:∀b∈X.ex,b≠X.env.locals∧∀x c,X.env.cells.lookup x=some c→c≠b
 bs:∀b o,X.base.get? b=some o→X.s₀.heap.get? b=some o∧X.H₀ b=none
 bsz:X.base.objs.size≤X.s₀.heap.objs.size
 noex:∀b o,X.base.get? b=some o→b∉X.ex
 exfs:∀b∈X.ex,b∉X.fs
 funs:X.s₀.heap.FunFrames X.base X.outer
 frf:∀b∈X.fs,X.H₀ b=none
structure Inv (X:Cx) (pins:List (Addr×Obj)) (σ:List (Option V)) (H:Hp) (s:Shared):Prop where
 ok:X.Ok
 os:s.os=X.s₀.os
 bare:AllBare s.gens
 base:Un X.fs X.ex X.H₀ H X.s₀.heap s.heap
 loc:∃m,s.heap.Ns X.env.locals m∧∀(i:Nat) (x:Str) (v:V),X.N[i]?=some x→σ[i]?=some (some v)→Vis X.env.scope x→∃u,RelV v u∧Look X.env s.heap m x u
 cell:∀x c,X.env.cells.lookup x=some c→∃v,s.heap.IsCell c v
 free:H X.env.locals=none
 freeC:∀x c,X.env.cells.lookup x=some c→H c=none
 pin:∀p∈X.pn++pins,s.heap.get? p.1=some p.2∧H p.1=none∧p.1≠X.env.locals∧p.1∉X.fs∧∀v,p.2.data≠.cell v
 hok:HOk X.prog X.w H s.heap
 len:σ.length=X.N.length
section
variable {X:Cx} {pins:List (Addr×Obj)} {σ:List (Option V)} {H H':Hp} {s:Shared} {h':Heap}
theorem Cx.Ok.nofr (ok:X.Ok) {b:Addr} {o:Obj} (e:X.base.get? b=some o):b∉X.fs:=fun hb=>by
 have:=(ok.funs.mem hb).1
 rw [e] at this;cases this
theorem Inv.bs (I:Inv X pins σ H s):∀b o,X.base.get? b=some o→s.heap.get? b=some o∧H b=none:=fun b o e=>
 ⟨I.base.keep b o (I.ok.bs b o e).1 (I.ok.bs b o e).2 (I.ok.nofr e) (I.ok.noex b o e),I.base.free b o (I.ok.bs b o e).1 (I.ok.bs b o e).2 (I.ok.noex b o e)⟩
theorem Inv.bk (I:Inv X pins σ H s):∀b o,X.base.get? b=some o→s.heap.get? b=some o:=fun b o e=>(I.bs b o e).1
theorem Inv.mod (I:Inv X pins σ H s):Mod X.K X.mg X.base:=I.ok.mod
theorem Inv.kIn (I:Inv X pins σ H s):X.K.In s.heap:=I.ok.mod.kin.keeps I.bk
theorem Inv.lt (I:Inv X pins σ H s):X.env.locals<s.heap.objs.size:=let ⟨_,hn,_⟩:=I.loc;hn.lt
theorem Inv.sz (I:Inv X pins σ H s):X.s₀.heap.objs.size≤s.heap.objs.size:=Nat.le_trans I.ok.above (Nat.le_of_lt I.lt)
theorem Inv.nofs (I:Inv X pins σ H s) {a:Addr} (h:s.heap.objs.size≤a):a∉X.fs:=fun hb=>by
 obtain ⟨_,o,ho,_⟩:=I.ok.funs.mem hb
 exact absurd (Nat.lt_of_lt_of_le (Heap.lt_size ho) (Nat.le_trans I.sz h)) (Nat.lt_irrefl _)
theorem Inv.cne (I:Inv X pins σ H s):∀x c,X.env.cells.lookup x=some c→c≠X.env.locals:=fun x c e z=>by
 obtain ⟨v,o,ho,hd⟩:=I.cell x c e
 obtain ⟨m,⟨o',es,ep,ho',hd',_⟩,_⟩:=I.loc
 rw [z,ho'] at ho;cases ho;rw [hd'] at hd;cases hd
theorem Inv.funs (I:Inv X pins σ H s):s.heap.FunFrames X.base X.outer:=by
 have all:∀(l:List Env),(∀b∈frs l,b∈X.fs)→X.s₀.heap.FunFrames X.base l→s.heap.FunFrames X.base l:=by
  intro l
  induction l with
  | nil=>intro _ _;trivial
  | cons env r ih=>
   intro hs hl
   obtain ⟨hk,⟨L,o,hf,hn,ho,hd⟩,hr⟩:=hl
   have hL:L∈X.fs:=hs L (by unfold frs;rw [List.filterMap_cons,hf];exact List.mem_cons_self)
   obtain ⟨sl,e⟩:=I.base.slot L o ho (I.ok.frf L hL) hL fun z=>I.ok.exfs L z hL
   exact ⟨hk,⟨L,_,hf,hn,e,hd⟩,ih (fun b hb=>hs b (by unfold frs;rw [List.filterMap_cons,hf];exact List.mem_cons_of_mem _ hb)) hr⟩
 exact all X.outer (fun _ hb=>hb) I.ok.funs
theorem Inv.stack (I:Inv X pins σ H s):s.heap.FunFrames X.base X.stack:=by
 rcases I.ok.stk with e | ⟨e,hf⟩
 ·rw [e];exact I.funs
 ·rw [e]
  obtain ⟨m,hn,_⟩:=I.loc
  refine .cons (by rw [I.ok.kind];decide) hf hn ?_ I.funs
  exact Heap.get?_none_of_le (Nat.le_trans I.ok.bsz I.ok.above)
theorem Inv.stkSub (I:Inv X pins σ H s):∀b∈frs X.stack,b∈X.env.locals::X.fs:=fun b hb=>by
 rcases I.ok.stk with e | ⟨e,hf⟩
 ·rw [e] at hb;exact List.mem_cons_of_mem _ hb
 ·rw [e] at hb
  unfold frs at hb
  rw [List.filterMap_cons,hf] at hb
  exact hb
theorem Inv.stkFree (I:Inv X pins σ H s):∀b∈frs X.stack,H b=none:=fun b hb=>by
 rcases List.mem_cons.mp (I.stkSub b hb) with e | hb
 ·rw [e];exact I.free
 ·obtain ⟨_,o,ho,_⟩:=I.ok.funs.mem hb
  exact I.base.free b o ho (I.ok.frf b hb) fun z=>I.ok.exfs b z hb
theorem Inv.step {g':Array GenState} {t':Nat} {d':Drawn} {ch:List Addr} (I:Inv X pins σ H s)
  (hch:∀b∈ch,(b∈X.ex∨X.s₀.heap.objs.size≤b)∧b≠X.env.locals∧(∀x c,X.env.cells.lookup x=some c→c≠b)∧∀p∈X.pn++pins,p.1≠b)
  (keep:∀b o,b≠X.env.locals→b∉X.fs→b∉ch→s.heap.get? b=some o→H b=none→h'.get? b=some o)
  (slot:∀b o,b≠X.env.locals→b∈X.fs→b∉ch→s.heap.get? b=some o→H b=none→∃sl,h'.get? b=some { o with slots:=sl }) (free:∀b o,b∉ch→s.heap.get? b=some o→H b=none→H' b=none)
  (there:∀b o,b∉ch→s.heap.get? b=some o→∃o',h'.get? b=some o')
  (tups:∀b xs,H b=some (.tup xs)→H' b=some (.tup xs)) (frzs:∀b o u,H b=some (.frz o u)→H' b=some (.frz o u)) (tbls:∀b ps,H b=some (.tbl ps)→∃more,H' b=some (.tbl (ps++more)))
  (ns:∀m,s.heap.Ns X.env.locals m→h'.Ns X.env.locals m) (hok:HOk X.prog X.w H' h') (hg:AllBare g') :
  Inv X pins σ H' { s with heap:=h',gens:=g',drawn:=d',toks:=t' }:=by
 have neL:∀b o,X.s₀.heap.get? b=some o→b≠X.env.locals:=fun b o e=>Nat.ne_of_lt (Nat.lt_of_lt_of_le (Heap.lt_size e) I.ok.above)
 have neC:∀b o,X.s₀.heap.get? b=some o→b∉X.ex→b∉ch:=fun b o e hx hb=>by
  rcases (hch b hb).1 with z | z
  ·exact hx z
  ·exact absurd (Nat.lt_of_lt_of_le (Heap.lt_size e) z) (Nat.lt_irrefl _)
 have cellK:∀x c,X.env.cells.lookup x=some c→∀v,s.heap.IsCell c v→h'.IsCell c v:=fun x c e v ⟨o,ho,hd⟩=>by
  have nch:c∉ch:=fun z=>(hch c z).2.2.1 x c e rfl
  by_cases hc:c∈X.fs
  ·obtain ⟨sl,q⟩:=slot c o (I.cne x c e) hc nch ho (I.freeC x c e)
   exact ⟨_,q,hd⟩
  ·exact ⟨o,keep c o (I.cne x c e) hc nch ho (I.freeC x c e),hd⟩
 refine ⟨I.ok,I.os,hg,⟨fun b o e n hb hx=>?_,fun b o e n hb hx=>?_,fun b o e n hx=>?_,fun b o e hx=>?_,fun b xs e=>tups b xs (I.base.tups b xs e),fun b o xs e=>frzs b o xs (I.base.frzs b o xs e),fun b ps e=>?_⟩,?_,fun x c e=>?_,?_,fun x c e=>?_,fun p hp=>?_,hok,I.len⟩
 ·exact keep b o (neL b o e) hb (neC b o e hx) (I.base.keep b o e n hb hx) (I.base.free b o e n hx)
 ·obtain ⟨sl,e1⟩:=I.base.slot b o e n hb hx
  obtain ⟨sl',e2⟩:=slot b _ (neL b o e) hb (neC b o e hx) e1 (I.base.free b o e n hx)
  exact ⟨sl',e2⟩
 ·obtain ⟨o',e1⟩:=I.base.there b o e hx
  exact free b o' (neC b o e hx) e1 (I.base.free b o e n hx)
 ·obtain ⟨o',e1⟩:=I.base.there b o e hx
  exact there b o' (neC b o e hx) e1
 ·obtain ⟨m1,e1⟩:=I.base.tbls b ps e
  obtain ⟨m2,e2⟩:=tbls b _ e1
  exact ⟨m1++m2,by rw [e2,Array.append_assoc]⟩
 ·obtain ⟨m,hn,hl⟩:=I.loc
  refine ⟨m,ns m hn,fun i x v e1 e2 e3=>?_⟩
  obtain ⟨u,r,l⟩:=hl i x v e1 e2 e3
  refine ⟨u,r,?_⟩
  rcases l with l | ⟨k,c,e,z⟩
  ·exact .inl l
  ·exact .inr ⟨k,c,e,cellK x c e _ z⟩
 ·obtain ⟨v,z⟩:=I.cell x c e
  exact ⟨v,cellK x c e v z⟩
 ·obtain ⟨m,⟨o,_,_,ho,_⟩,_⟩:=I.loc
  exact free _ o (fun z=>(hch _ z).2.1 rfl) ho I.free
 ·obtain ⟨v,o,ho,hd⟩:=I.cell x c e
  exact free c o (fun z=>(hch c z).2.2.1 x c e rfl) ho (I.freeC x c e)
 ·obtain ⟨e,n,ne,nf,d⟩:=I.pin p hp
  have nch:p.1∉ch:=fun z=>(hch p.1 z).2.2.2 p hp rfl
  exact ⟨keep p.1 p.2 ne nf nch e n,free p.1 p.2 nch e n,ne,nf,d⟩
theorem Inv.un {t':Nat} (I:Inv X pins σ H s) (u:Un X.fs [] H H' s.heap h') (hok:HOk X.prog X.w H' h'):Inv X pins σ H' { s with heap:=h',toks:=t' }:=by
 obtain ⟨m,⟨o,es,ep,ho,r⟩,_⟩:=id I.loc
 obtain ⟨sl,hL⟩:=u.any ho I.free (by simp)
 exact I.step (g':=s.gens) (d':=s.drawn) (ch:=[]) (fun _ z=>nomatch z) (fun b o _ hb _ e n=>u.keep b o e n hb (by simp)) (fun b o _ hb _ e n=>u.slot b o e n hb (by simp)) (fun b o _ e n=>u.free b o e n (by simp)) (fun b o _ e=>u.there b o e (by simp)) u.tups u.frzs u.tbls (fun m' hm=>by
  obtain ⟨o',es',ep',ho',r'⟩:=hm
  rw [ho] at ho';cases ho'
  exact ⟨_,es',ep',hL,r'⟩) hok I.bare
theorem Inv.call {g':Array GenState} {t':Nat} {d':Drawn} {ch:List Addr} (I:Inv X pins σ H s) (u:Un (frs X.stack) ch H H' s.heap h') (hok:HOk X.prog X.w H' h') (hg:AllBare g')
  (hch:∀b∈ch,(b∈X.ex∨X.s₀.heap.objs.size≤b)∧b≠X.env.locals∧(∀x c,X.env.cells.lookup x=some c→c≠b)∧∀p∈X.pn++pins,p.1≠b) :
  Inv X pins σ H' { s with heap:=h',gens:=g',drawn:=d',toks:=t' }:=by
 obtain ⟨m,⟨o,es,ep,ho,r⟩,_⟩:=id I.loc
 obtain ⟨sl,hL⟩:=u.any ho I.free fun z=>(hch _ z).2.1 rfl
 exact I.step (ch:=ch) hch (fun b o hL hb hc e n=>u.keep b o e n (fun z=>(List.mem_cons.mp (I.stkSub b z)).elim hL hb) hc) (fun b o _ _ hc e n=>u.any e n hc) (fun b o hc e n=>u.free b o e n hc) (fun b o hc e=>u.there b o e hc) u.tups u.frzs u.tbls (fun m' hm=>by
  obtain ⟨o',es',ep',ho',r'⟩:=hm
  rw [ho] at ho';cases ho'
  exact ⟨_,es',ep',hL,r'⟩) hok hg
theorem Inv.turned {t':Nat} {it:Addr} (I:Inv X pins σ H s) (k:∀b o,b≠it→s.heap.get? b=some o→h'.get? b=some o) (hn:H it=none) (hL:it≠X.env.locals)
  (h1:it∈X.ex∨X.s₀.heap.objs.size≤it) (h2:∀x c,X.env.cells.lookup x=some c→c≠it) (h3:∀p∈X.pn++pins,p.1≠it):Inv X pins σ H { s with heap:=h',toks:=t' }:=by
 have nit:∀b u,H b=some u→b≠it:=fun b u e z=>by rw [z,hn] at e;cases e
 refine I.step (g':=s.gens) (d':=s.drawn) (ch:=[it]) (fun b hb=>?_) (fun b o _ _ hc e _=>k b o (fun z=>hc (by simp [z])) e) (fun b o _ _ hc e _=>⟨o.slots,k b o (fun z=>hc (by simp [z])) e⟩) (fun _ _ _ _ n=>n)
  (fun b o hc e=>⟨o,k b o (fun z=>hc (by simp [z])) e⟩) (fun _ _ e=>e) (fun _ _ _ e=>e) (fun b ps e=>⟨#[],by rw [e];simp⟩) (fun m hm=>?_) (fun b u e=>?_) I.bare
 ·have e:b=it:=by simpa using hb
  subst e
  exact ⟨h1,hL,h2,h3⟩
 ·obtain ⟨o,es,ep,ho,r⟩:=hm
  exact ⟨o,es,ep,k _ o (Ne.symm hL) ho,r⟩
 ·refine (I.hok b u e).stay (fun c v hc q=>k c v ?_ q) (fun _ q=>q) fun _ _ q=>q
  rcases hc with z | z
  ·rw [z];exact nit b u e
  ·exact nit c _ z
theorem Inv.tok (I:Inv X pins σ H s) (t:Nat):Inv X pins σ H { s with toks:=t }:=I.un (h':=s.heap) (t':=t) Un.refl I.hok
theorem Inv.kept {t':Nat} (I:Inv X pins σ H s) (k:∀b u,s.heap.get? b=some u→h'.get? b=some u):Inv X pins σ H { s with heap:=h',toks:=t' }:=I.un (Un.kept k) (I.hok.kept k)
theorem Inv.laid {a:Addr} {o:HO} {t':Nat} (I:Inv X pins σ H s) (k:∀b u,s.heap.get? b=some u→h'.get? b=some u) (hp:s.heap.objs.size≤a) (new:ObjOk X.prog X.w (upd H a o) h' a o) :
  Inv X pins σ (upd H a o) { s with heap:=h',toks:=t' }:=I.un (Un.laid k hp (I.hok.fresh hp)) (I.hok.laid k hp new)
theorem Inv.write {x e:Addr} {o:HO} {t':Nat} (I:Inv X pins σ H s) (mu:Mut (H x)) (he:e=x∨H e=some (.own x)) (k:∀b u,b≠e→s.heap.get? b=some u→h'.get? b=some u) (heo:∃u,h'.get? e=some u)
  (new:ObjOk X.prog X.w (upd H x o) h' x o):Inv X pins σ (upd H x o) { s with heap:=h',toks:=t' }:=I.un (Un.write mu he k heo) (I.hok.write mu he k heo new)
theorem Inv.pins_of {pins':List (Addr×Obj)} (I:Inv X pins σ H s) (h:∀p∈pins',s.heap.get? p.1=some p.2∧H p.1=none∧p.1≠X.env.locals∧p.1∉X.fs∧∀v,p.2.data≠.cell v):Inv X pins' σ H s:=
 ⟨I.ok,I.os,I.bare,I.base,I.loc,I.cell,I.free,I.freeC,fun p hp=>(List.mem_append.mp hp).elim (fun z=>I.pin p (List.mem_append_left _ z)) (h p),I.hok,I.len⟩
theorem nodup_ix {N:List Str} (hN:N.Nodup) {i j:Nat} {x:Str} (a:N[i]?=some x) (b:N[j]?=some x):i=j:=by
 obtain ⟨h1,e1⟩:=List.getElem?_eq_some_iff.mp a
 obtain ⟨h2,e2⟩:=List.getElem?_eq_some_iff.mp b
 exact (List.getElem_inj hN).mp (e1.trans e2.symm)
theorem store_ok2 {M:Model} {A:Around} {E:Value→Shared→Prop} {i:Nat} {x:Str} {v:V} {u:Value} {Q:Unit→Shared→Prop} (I:Inv X pins σ H s) (hN:X.N.Nodup) (hi:X.N[i]?=some x) (hx:Loc X.env.scope x) (r:RelV v u)
  (h:∀s',Inv X pins (σ.set i (some v)) H s'→(∃a,Heap.SameBut a s.heap s'.heap∧(a=X.env.locals∨X.env.cells.lookup x=some a))→Q () s') (hf:X.fn x=true∨X.env.scope.names.lookup x=some .local:=by first | exact .inl rfl | exact .inr rfl | assumption):wpAny M A (storeName X.env x u) Q E s:=by
 obtain ⟨m,hn,hl⟩:=id I.loc
 have hcls:(X.env.scope.kind == .class||(X.env.scope.kind == .module&&X.env.locals != X.env.globals))=false:=by rw [I.ok.kind];rfl
 have hiσ:i < σ.length:=by rw [I.len];exact (List.getElem?_eq_some_iff.mp hi).1
 have cne:=I.cne
 have tracked:∀{a:Addr} {h':Heap},(∃o,s.heap.get? a=some o∧H a=none)→Heap.SameBut a s.heap h'→HOk X.prog X.w H h':=fun {a h'} ha hs b ob e=>by
  obtain ⟨_,_,hfree⟩:=ha
  refine (I.hok b ob e).stay (fun c w' hc q=>(hs.2 c ?_).trans q) (fun _ q=>q) fun _ _ q=>q
  rintro rfl
  rcases hc with rfl | hc
  ·rw [hfree] at e;cases e
  ·rw [hfree] at hc;cases hc
 rcases hx with hk | hk
 ·refine wpAny_storeName_local hk hn (fun h' hn' hs=>?_) hcls
  obtain ⟨oL,_,_,hoL,_⟩:=id hn
  refine h _ ⟨I.ok,I.os,I.bare,⟨fun b o e n hb hx=>?_,fun b o e n hb hx=>?_,I.base.free,fun b o e hx=>?_,I.base.tups,I.base.frzs,I.base.tbls⟩,⟨_,hn',fun j y v' e1 e2 e3=>?_⟩,fun y c e=>?_,I.free,I.freeC,fun p hp=>?_,tracked ⟨oL,hoL,I.free⟩ hs,by simpa using I.len⟩ ⟨_,hs,.inl rfl⟩
  ·exact (hs.2 b (Nat.ne_of_lt (Nat.lt_of_lt_of_le (Heap.lt_size e) I.ok.above))).trans (I.base.keep b o e n hb hx)
  ·obtain ⟨sl,e1⟩:=I.base.slot b o e n hb hx
   exact ⟨sl,(hs.2 b (Nat.ne_of_lt (Nat.lt_of_lt_of_le (Heap.lt_size e) I.ok.above))).trans e1⟩
  ·obtain ⟨o',e1⟩:=I.base.there b o e hx
   exact ⟨o',(hs.2 b (Nat.ne_of_lt (Nat.lt_of_lt_of_le (Heap.lt_size e) I.ok.above))).trans e1⟩
  ·by_cases hj:j=i
   ·subst hj
    rw [hi] at e1;cases e1
    rw [List.getElem?_set_self hiσ] at e2
    cases e2
    exact ⟨u,r,.inl ⟨hk,by simp⟩⟩
   ·rw [List.getElem?_set_ne (Ne.symm hj)] at e2
    obtain ⟨u',r',q⟩:=hl j y v' e1 e2 e3
    refine ⟨u',r',?_⟩
    rcases q with ⟨k,e⟩ | ⟨k,c,e,z⟩
    ·refine .inl ⟨k,?_⟩
     have:y≠x:=fun e=>hj (nodup_ix hN e1 (e▸hi))
     simp [this,e]
    ·exact .inr ⟨k,c,e,z.sameBut hs (cne y c e)⟩
  ·obtain ⟨w',z⟩:=I.cell y c e
   exact ⟨w',z.sameBut hs (cne y c e)⟩
  ·obtain ⟨e,n,ne,nf,d⟩:=I.pin p hp
   exact ⟨(hs.2 p.1 ne).trans e,n,ne,nf,d⟩
 ·have hfn:X.fn x=true:=by
   rcases hf with z | z
   ·exact z
   ·rw [z] at hk;cases hk
  obtain ⟨c,hc⟩:=I.ok.has x (.inl hk)
  obtain ⟨w',z⟩:=I.cell x c hc
  refine wpAny_storeName_cell I.ok.kind hk hc z (fun h' hc' hs=>?_)
  obtain ⟨oc,hoc,hocd⟩:=id z
  refine h { s with heap:=h' } ⟨I.ok,I.os,I.bare,⟨fun b o e n hb hx=>?_,fun b o e n hb hx=>?_,I.base.free,fun b o e hx=>?_,I.base.tups,I.base.frzs,I.base.tbls⟩,⟨m,hn.sameBut hs (Ne.symm (cne x c hc)),fun j y v' e1 e2 e3=>?_⟩,fun y c' e=>?_,I.free,I.freeC,fun p hp=>?_,tracked ⟨oc,hoc,I.freeC x c hc⟩ hs,by simpa using I.len⟩ ⟨c,hs,.inr hc⟩
  ·exact (hs.2 b (Nat.ne_of_lt (Nat.lt_of_lt_of_le (Heap.lt_size e) (I.ok.cab x c hfn hc)))).trans (I.base.keep b o e n hb hx)
  ·obtain ⟨sl,e1⟩:=I.base.slot b o e n hb hx
   exact ⟨sl,(hs.2 b (Nat.ne_of_lt (Nat.lt_of_lt_of_le (Heap.lt_size e) (I.ok.cab x c hfn hc)))).trans e1⟩
  ·obtain ⟨o',e1⟩:=I.base.there b o e hx
   exact ⟨o',(hs.2 b (Nat.ne_of_lt (Nat.lt_of_lt_of_le (Heap.lt_size e) (I.ok.cab x c hfn hc)))).trans e1⟩
  ·by_cases hj:j=i
   ·subst hj
    rw [hi] at e1;cases e1
    rw [List.getElem?_set_self hiσ] at e2
    cases e2
    exact ⟨u,r,.inr ⟨.inl hk,c,hc,hc'⟩⟩
   ·rw [List.getElem?_set_ne (Ne.symm hj)] at e2
    obtain ⟨u',r',q⟩:=hl j y v' e1 e2 e3
    refine ⟨u',r',?_⟩
    rcases q with q | ⟨k,c',e,z'⟩
    ·exact .inl q
    ·refine .inr ⟨k,c',e,z'.sameBut hs ?_⟩
     rintro rfl
     exact hj (nodup_ix hN e1 (I.ok.inj _ _ _ e hc▸hi))
  ·by_cases hcc:c'=c
   ·subst hcc;exact ⟨_,hc'⟩
   ·obtain ⟨w2,z2⟩:=I.cell y c' e
    exact ⟨w2,z2.sameBut hs hcc⟩
  ·obtain ⟨e,n,ne,nf,d⟩:=I.pin p hp
   refine ⟨(hs.2 p.1 ?_).trans e,n,ne,nf,d⟩
   intro q
   rw [q,hoc] at e
   have q':oc=p.2:=Option.some.inj e
   exact d w' (by rw [←q'];exact hocd)
theorem store_ok {M:Model} {A:Around} {E:Value→Shared→Prop} {i:Nat} {x:Str} {v:V} {u:Value} {Q:Unit→Shared→Prop} (I:Inv X pins σ H s) (hN:X.N.Nodup) (hi:X.N[i]?=some x) (hx:Loc X.env.scope x) (r:RelV v u)
  (h:∀s',Inv X pins (σ.set i (some v)) H s'→Q () s') (hf:X.fn x=true∨X.env.scope.names.lookup x=some .local:=by first | exact .inl rfl | exact .inr rfl | assumption):wpAny M A (storeName X.env x u) Q E s:=
 store_ok2 I hN hi hx r (fun s' I' _=>h s' I') hf
theorem Inv.call' {s':Shared} {ch:List Addr} (I:Inv X pins σ H s) (ho:s'.os=s.os) (u:Un (frs X.stack) ch H H' s.heap s'.heap) (hok:HOk X.prog X.w H' s'.heap) (hg:AllBare s'.gens)
  (hch:∀b∈ch,(b∈X.ex∨X.s₀.heap.objs.size≤b)∧b≠X.env.locals∧(∀x c,X.env.cells.lookup x=some c→c≠b)∧∀p∈X.pn++pins,p.1≠b):Inv X pins σ H' s':=by
 obtain ⟨h',g',d',t',o'⟩:=s'
 have e:o'=s.os:=ho
 subst e
 exact I.call (g':=g') (t':=t') (d':=d') u hok hg hch
end
noncomputable abbrev XK:=Value→Option Addr→Hp→Prop
noncomputable abbrev St:=List (Option V)
noncomputable abbrev VK:=V→Hp→Prop
noncomputable abbrev TE:=St→Hp→VK→Prop
noncomputable abbrev TT:=St→Hp→(Bool→Hp→Prop)→Prop
noncomputable abbrev TA:=St→Hp→(List V→Hp→Prop)→Prop
structure Ends where
 nx:St→Hp→Prop
 rt:VK
 bk:St→Hp→Prop:=fun _ _=>False
 ct:St→Hp→Prop:=fun _ _=>False
noncomputable abbrev TS:=Ends→St→Hp→Prop
noncomputable def EP (X:Cx) (pins:List (Addr×Obj)) (σ:St) (Q:VK) (u:Value) (s':Shared):Prop:=∃v H',Inv X pins σ H' s'∧RelV v u∧Q v H'
noncomputable def TP (X:Cx) (pins:List (Addr×Obj)) (σ:St) (Q:Bool→Hp→Prop) (b:Bool) (s':Shared):Prop:=∃H',Inv X pins σ H' s'∧Q b H'
noncomputable def AP (X:Cx) (pins:List (Addr×Obj)) (σ:St) (Q:List V→Hp→Prop) (us:List Value) (s':Shared):Prop:=∃vs H',Inv X pins σ H' s'∧Vals vs us∧Q vs H'
noncomputable def SP (X:Cx) (pins:List (Addr×Obj)) (D:Ends) (f:Flow) (s':Shared):Prop:=
 match f with
 | .next=>∃σ' H',Inv X pins σ' H' s'∧D.nx σ' H'
 | .brk=>∃σ' H',Inv X pins σ' H' s'∧D.bk σ' H'
 | .cont=>∃σ' H',Inv X pins σ' H' s'∧D.ct σ' H'
 | .ret u=>∃v σ' H',Inv X pins σ' H' s'∧RelV v u∧D.rt v H'
noncomputable def PE (X:Cx) (e:Expr) (t:TE):Prop:=
 ∀(pins:List (Addr×Obj)) (s:Shared) (σ:St) (H:Hp) (Q:VK),Inv X pins σ H s→t σ H Q→wpAny (model X.prog X.w) X.A (eval e X.env) (EP X pins σ Q) X.xe s
noncomputable def PT (X:Cx) (e:Expr) (t:TT):Prop:=
 ∀(pins:List (Addr×Obj)) (s:Shared) (σ:St) (H:Hp) (Q:Bool→Hp→Prop),Inv X pins σ H s→t σ H Q→wpAny (model X.prog X.w) X.A (isTrue e X.env (eval e X.env)) (TP X pins σ Q) X.xe s
noncomputable def PW (X:Cx) (e:Expr) (t:TT):Prop:=
 ∀(whole:Sem Value) (pins:List (Addr×Obj)) (s:Shared) (σ:St) (H:Hp) (Q:Bool→Hp→Prop),Inv X pins σ H s→t σ H Q→wpAny (model X.prog X.w) X.A (isTrue e X.env whole) (TP X pins σ Q) X.xe s
theorem PW.pt {X:Cx} {e:Expr} {t:TT} (h:PW X e t):PT X e t:=h _
noncomputable def PA (X:Cx) (es:List Expr) (t:TA):Prop:=
 ∀(pos:Pos) (pins:List (Addr×Obj)) (s:Shared) (σ:St) (H:Hp) (Q:List V→Hp→Prop),Inv X pins σ H s→t σ H Q→wpAny (model X.prog X.w) X.A (spliced (backTo pos (starEach es X.env))) (AP X pins σ Q) X.xe s
noncomputable def PS (X:Cx) (st:Stmt) (t:TS):Prop:=
 ∀(pins:List (Addr×Obj)) (s:Shared) (σ:St) (H:Hp) (D:Ends),Inv X pins σ H s→t D σ H→wpAny (model X.prog X.w) X.A (exec st X.env) (SP X pins D) X.xe s
noncomputable def PSs (X:Cx) (st:List Stmt) (t:TS):Prop:=
 ∀(pins:List (Addr×Obj)) (s:Shared) (σ:St) (H:Hp) (D:Ends),Inv X pins σ H s→t D σ H→wpAny (model X.prog X.w) X.A (execs st X.env) (SP X pins D) X.xe s
theorem thn {α:Type} {t:Sem α} {Q Q':α→Shared→Prop} {M:Model} {A:Around} {E:Value→Shared→Prop} {s:Shared} (h:wpAny M A t Q E s) (hQ:∀a s,Q a s→Q' a s):wpAny M A t Q' E s:=wpAny_mono h hQ fun _ _ x=>x
end L2
namespace L2
open PySem PySem.Spec PyProof.Rows
section
variable {X:Cx}
noncomputable def tVar (i:Nat):TE:=fun σ H Q=>∃v,σ[i]?=some (some v)∧Q v H
noncomputable def tC (v:V):TE:=fun _ H Q=>Q v H
theorem pe_var {i:Nat} {x:Str} {pos:Pos} (hN:X.N[i]?=some x) (hv:Vis X.env.scope x) (hd:(x==("__debug__" : Str))=false:=by decide) (hcd:(x==("__classdict__" : Str))=false:=by decide):PE X (.Name x pos) (tVar i):=by
 intro pins s σ H Q I h
 obtain ⟨v,e,h⟩:=h
 obtain ⟨m,hn,hl⟩:=I.loc
 obtain ⟨u,r,l⟩:=hl i x v hN e hv
 have fin:EP X pins σ Q u s:=⟨v,H,I,r,h⟩
 rcases l with ⟨hk,hm⟩ | ⟨hk,c,hc,hcell⟩
 ·exact wpAny_Name (wpAny_loadName_local I.ok.kind hk hn hm fin) hd
 ·rcases hk with hk | hk
  ·exact wpAny_Name (wpAny_loadName_cell I.ok.kind hk hc hcell fin) hd
  ·exact wpAny_Name (wpAny_loadName_free I.ok.kind hk hc hcell fin hcd) hd
theorem pe_int {i j pos}:PE X (.Constant (.int i) j pos) (tC (.int i)):=fun _ _ _ H _ I h=>wpAny_Constant_int ⟨.int i,H,I.tok _,⟨_,rfl⟩,h⟩
theorem pe_bl {b j pos}:PE X (.Constant (.bool b) j pos) (tC (.bl b)):=fun _ _ _ H _ I h=>Constant_bool ⟨.bl b,H,I,rfl,h⟩
theorem pe_str {x j pos}:PE X (.Constant (.str x) j pos) (tC (.str x)):=fun _ _ _ H _ I h=>Calls.Constant_str ⟨.str x,H,I.tok _,⟨_,rfl⟩,h⟩
noncomputable def Gl (X:Cx) (x:Str):Prop:=X.env.kindOf x=some .globalImplicit
theorem ld_glob {E:Value→Shared→Prop} {pins:List (Addr×Obj)} {s:Shared} {σ:St} {H:Hp} {x:Str} {u:Value} {pos:Pos} {Q:Value→Shared→Prop} (I:Inv X pins σ H s) (hg:Gl X x) (hm:X.mg x=some u) (h:Q u s)
  (hd:(x==("__debug__" : Str))=false:=by decide):wpAny (model X.prog X.w) X.A (eval (.Name x pos) X.env) Q E s:=
 Calls.Name_function_global I.ok.kind hg (Calls.loadGlobal_global (by rw [I.ok.glob];exact I.mod.glob.keeps I.bk) hm h) hd
theorem ld_blt {E:Value→Shared→Prop} {pins:List (Addr×Obj)} {s:Shared} {σ:St} {H:Hp} {x:Str} {u:Value} {pos:Pos} {Q:Value→Shared→Prop} (I:Inv X pins σ H s) (hg:Gl X x) (hm:X.mg x=none) (hv:bootBuiltins x=some u) (h:Q u s)
  (hn:x≠"__name__":=by decide) (hd:(x==("__debug__" : Str))=false:=by decide):wpAny (model X.prog X.w) X.A (eval (.Name x pos) X.env) Q E s:=by
 obtain ⟨mb,h1,h2⟩:=I.mod.blt
 exact Calls.Name_function_global I.ok.kind hg (Calls.loadGlobal_builtin (by rw [I.ok.glob];exact I.mod.glob.keeps I.bk) hm (by rw [I.ok.blt];exact h1.keeps I.bk) ((h2 x hn).trans hv) h) hd
theorem pe_bltn {x:Str} {v:V} {u:Value} {pos:Pos} (hg:Gl X x) (hm:X.mg x=none) (hv:bootBuiltins x=some u) (r:RelV v u) (hn:x≠"__name__":=by decide) (hd:(x==("__debug__" : Str))=false:=by decide):PE X (.Name x pos) (tC v):=
 fun _ _ _ H _ I h=>ld_blt I hg hm hv ⟨v,H,I,r,h⟩ hn hd
variable {a b:Expr} {ta tb:TE} {pos:Pos}
noncomputable def tB (t:TE):TT:=fun σ H Q=>t σ H fun x H1=>∃c,x=.bl c∧Q c H1
theorem pt_val {e:Expr} {t:TE} (h:PE X e t) (he:∀whole,isTrue e X.env whole=(do let v←whole;standAt e.pos;holding [v] (truthy v)):=by intro _;rfl):PT X e (tB t):=by
 intro pins s σ H Q I hw
 refine isTrue_plain (thn (h pins s σ H _ I hw) fun v s1 ⟨x,H1,I1,r1,q1⟩=>?_) (he _)
 obtain ⟨d,rfl,q⟩:=q1
 cases r1
 exact wpAny_truthy_bool ⟨H1,I1,q⟩
variable {tA tB':TT} {rest:List Expr}
noncomputable def tAnd (t u:TT):TT:=fun σ H Q=>t σ H fun c H1=>if c=true then u σ H1 Q else Q false H1
noncomputable def tOr (t u:TT):TT:=fun σ H Q=>t σ H fun c H1=>if c=true then Q true H1 else u σ H1 Q
noncomputable def tNot (t:TT):TT:=fun σ H Q=>t σ H fun c H1=>Q (!c) H1
theorem pw_and1 (ha:PT X a tA):PW X (.BoolOp .And [a] pos) tA:=by
 intro wh pins s σ H Q I h
 refine isTrue_and (thn (ha pins s σ H Q I h) fun c s1 e=>?_)
 cases c with
 | true=>exact isTrue_and_nil e
 | false=>exact e
theorem pw_or1 (ha:PT X a tA):PW X (.BoolOp .Or [a] pos) tA:=by
 intro wh pins s σ H Q I h
 refine isTrue_or (thn (ha pins s σ H Q I h) fun c s1 e=>?_)
 cases c with
 | false=>exact isTrue_or_nil e
 | true=>exact e
theorem pw_and (ha:PT X a tA) (hb:PW X (.BoolOp .And (b::rest) pos) tB'):PW X (.BoolOp .And (a::b::rest) pos) (tAnd tA tB'):=by
 intro wh pins s σ H Q I h
 refine isTrue_and (thn (ha pins s σ H _ I h) fun c s1 ⟨H1,I1,q1⟩=>?_)
 cases c with
 | true=>exact hb wh pins s1 σ H1 Q I1 q1
 | false=>exact ⟨H1,I1,q1⟩
theorem pw_or (ha:PT X a tA) (hb:PW X (.BoolOp .Or (b::rest) pos) tB'):PW X (.BoolOp .Or (a::b::rest) pos) (tOr tA tB'):=by
 intro wh pins s σ H Q I h
 refine isTrue_or (thn (ha pins s σ H _ I h) fun c s1 ⟨H1,I1,q1⟩=>?_)
 cases c with
 | true=>exact ⟨H1,I1,q1⟩
 | false=>exact hb wh pins s1 σ H1 Q I1 q1
theorem pt_not (ha:PT X a tA):PT X (.UnaryOp .Not a pos) (tNot tA):=by
 intro pins s σ H Q I h
 exact isTrue_not (ha pins s σ H (fun c H1=>Q (!c) H1) I h)
noncomputable def tAndV (ta tb:TE):TE:=fun σ H Q=>ta σ H fun x H1=>∃c,x=.bl c∧if c=true then tb σ H1 Q else Q (.bl false) H1
noncomputable def tOrV (ta tb:TE):TE:=fun σ H Q=>ta σ H fun x H1=>∃c,x=.bl c∧if c=true then Q (.bl true) H1 else tb σ H1 Q
noncomputable def tNotV (ta:TE):TE:=fun σ H Q=>ta σ H fun x H1=>∃c,x=.bl c∧Q (.bl (!c)) H1
theorem pe_one {op} {t:TE} (h:PE X a t):PE X (.BoolOp op [a] pos) t:=fun pins s σ H Q I hw=>BoolOp_one (h pins s σ H Q I hw)
theorem pe_and (ha:PE X a ta) (hb:PE X (.BoolOp .And (b::rest) pos) tb):PE X (.BoolOp .And (a::b::rest) pos) (tAndV ta tb):=by
 intro pins s σ H Q I h
 refine BoolOp_and (thn (ha pins s σ H _ I h) fun v s1 ⟨x,H1,I1,r1,q1⟩=>?_)
 obtain ⟨c,rfl,q1⟩:=q1
 cases r1
 refine wpAny_truthy_bool ?_
 cases c with
 | true=>exact hb pins s1 σ H1 Q I1 q1
 | false=>exact ⟨.bl false,H1,I1,rfl,q1⟩
theorem pe_or (ha:PE X a ta) (hb:PE X (.BoolOp .Or (b::rest) pos) tb):PE X (.BoolOp .Or (a::b::rest) pos) (tOrV ta tb):=by
 intro pins s σ H Q I h
 refine BoolOp_or (thn (ha pins s σ H _ I h) fun v s1 ⟨x,H1,I1,r1,q1⟩=>?_)
 obtain ⟨c,rfl,q1⟩:=q1
 cases r1
 refine wpAny_truthy_bool ?_
 cases c with
 | false=>exact hb pins s1 σ H1 Q I1 q1
 | true=>exact ⟨.bl true,H1,I1,rfl,q1⟩
theorem pe_not (ha:PE X a ta):PE X (.UnaryOp .Not a pos) (tNotV ta):=by
 intro pins s σ H Q I h
 refine UnaryOp_ (thn (ha pins s σ H _ I h) fun v s1 ⟨x,H1,I1,r1,q1⟩=>?_)
 obtain ⟨c,rfl,q1⟩:=q1
 cases r1
 exact not_of (wpAny_truthy_bool ⟨.bl (!c),H1,I1,rfl,q1⟩)
noncomputable def tIf (t:TT) (ta tb:TE):TE:=fun σ H Q=>t σ H fun c H1=>if c=true then ta σ H1 Q else tb σ H1 Q
theorem pe_ifExp {c:Expr} (hc:PT X c tA) (ha:PE X a ta) (hb:PE X b tb):PE X (.IfExp c a b pos) (tIf tA ta tb):=by
 intro pins s σ H Q I h
 refine wpAny_IfExp (thn (hc pins s σ H _ I h) fun d s1 ⟨H1,I1,q1⟩=>?_)
 cases d with
 | true=>exact ha pins s1 σ H1 Q I1 q1
 | false=>exact hb pins s1 σ H1 Q I1 q1
end
end L2
namespace L2
open PySem PySem.Spec PyProof.Rows
noncomputable def SqL (K:PySem.W.Frag) (H:Hp) (a:Addr) (xs:List V):Prop:=
 Rd H a (.lst xs)∨
  ∃(o:Obj) (its:Array Value) (n:Nat),K.lookup a=some o∧o.cls=.type "list"∧o.dict=none∧o.data=.seq its n∧its.size≤sizeLine∧Vals xs its.toList
noncomputable def SqT (K:PySem.W.Frag) (H:Hp) (a:Addr) (xs:List V):Prop:=
 Rd H a (.tup xs)∨
  ∃(o:Obj) (its:Array Value) (n:Nat),K.lookup a=some o∧o.cls=.type "tuple"∧o.data=.seq its n∧its.size≤sizeLine∧Vals xs its.toList
noncomputable def absV:Value→Option V
 | .none=>some .non
 | .bool b=>some (.bl b)
 | .int i _=>some (.int i)
 | .str x _=>some (.str x)
 | .bytes b _=>some (.byt b)
 | .float b _=>some (.flt b)
 | .ref a=>some (.ref a)
 | .type n=>some (.ty n)
 | _=>none
theorem RelV.abs {x:V} {u:Value} (r:RelV x u):absV u=some x:=by
 cases x with
 | non=>cases r;rfl
 | bl _=>cases r;rfl
 | int _=>obtain ⟨t,rfl⟩:=r;rfl
 | str _=>obtain ⟨t,rfl⟩:=r;rfl
 | byt _=>obtain ⟨t,rfl⟩:=r;rfl
 | flt _=>obtain ⟨t,rfl⟩:=r;rfl
 | ref _=>cases r;rfl
 | ty _=>cases r;rfl
theorem RelV.inj {x y:V} {u:Value} (r:RelV x u) (q:RelV y u):x=y:=Option.some.inj (r.abs.symm.trans q.abs)
theorem Vals.inj:∀{xs ys:List V} {us:List Value},Vals xs us→Vals ys us→xs=ys
 | _,_,_,.nil,.nil=>rfl
 | _,_,_,.cons r t,.cons r' t'=>by rw [r.inj r',Vals.inj t t']
section
variable {X:Cx} {pins:List (Addr×Obj)} {σ:St} {H:Hp} {s:Shared} {a:Addr} {xs ys:List V}
theorem SqL.of {K:PySem.W.Frag} (h:H a=some (.lst xs)):SqL K H a xs:=.inl (.inl h)
theorem SqT.of {K:PySem.W.Frag} (h:H a=some (.tup xs)):SqT K H a xs:=.inl (.inl h)
theorem Inv.list (I:Inv X pins σ H s) (h:SqL X.K H a xs):∃its:List Value,Vals xs its∧PlainL s.heap a its.toArray∧xs.length≤sizeLine:=by
 rcases h with h | ⟨o,its,n,hk,hc,hd,hs,hz,r⟩
 ·obtain ⟨z,its,n,r,e⟩:=h.ok I.hok
  exact ⟨its,r,⟨_,n,e,rfl,rfl,rfl⟩,z⟩
 ·refine ⟨its.toList,r,⟨o,n,I.kIn a o hk,hc,hd,by simpa using hs⟩,?_⟩
  have e:=r.length
  simp only [Array.length_toList] at e
  omega
theorem Inv.tuple (I:Inv X pins σ H s) (h:SqT X.K H a xs):∃its:List Value,Vals xs its∧IsTup s.heap a its.toArray∧xs.length≤sizeLine:=by
 rcases h with h | ⟨o,its,n,hk,hc,hs,hz,r⟩
 ·obtain ⟨z,its,r,p⟩:=h.ok I.hok
  exact ⟨its,r,p,z⟩
 ·refine ⟨its.toList,r,⟨o,I.kIn a o hk,hc,n,by simpa using hs⟩,?_⟩
  have e:=r.length
  simp only [Array.length_toList] at e
  omega
theorem Inv.list_inj (I:Inv X pins σ H s) (h:SqL X.K H a xs) (h':SqL X.K H a ys):xs=ys:=by
 obtain ⟨its,r,⟨o,n,e,_,_,d⟩,_⟩:=I.list h
 obtain ⟨its',r',⟨o',n',e',_,_,d'⟩,_⟩:=I.list h'
 rw [e] at e';cases e'
 rw [d] at d'
 injection d' with d1 _
 have:its=its':=by simpa using congrArg Array.toList d1
 subst this
 exact r.inj r'
theorem Inv.tuple_inj (I:Inv X pins σ H s) (h:SqT X.K H a xs) (h':SqT X.K H a ys):xs=ys:=by
 obtain ⟨its,r,⟨o,e,_,n,d⟩,_⟩:=I.tuple h
 obtain ⟨its',r',⟨o',e',_,n',d'⟩,_⟩:=I.tuple h'
 rw [e] at e';cases e'
 rw [d] at d'
 injection d' with d1 _
 have:its=its':=by simpa using congrArg Array.toList d1
 subst this
 exact r.inj r'
end
noncomputable abbrev Cx.wish (X:Cx) (E:Value→Shared→Prop):Cx:={ X with xe:=E }
noncomputable abbrev Cx.nox (X:Cx):Cx:=X.wish fun _ _=>False
theorem Cx.Ok.wish {X:Cx} (ok:X.Ok) (E:Value→Shared→Prop):(X.wish E).Ok:=
 ⟨ok.mod,ok.kind,ok.glob,ok.blt,ok.above,ok.inj,ok.has,ok.cab,ok.hd,ok.frames,ok.stk,ok.exf,ok.bs,ok.bsz,ok.noex,ok.exfs,ok.funs,ok.frf⟩
theorem Cx.Ok.unwish {X:Cx} {E:Value→Shared→Prop} (ok:(X.wish E).Ok):X.Ok:=
 ⟨ok.mod,ok.kind,ok.glob,ok.blt,ok.above,ok.inj,ok.has,ok.cab,ok.hd,ok.frames,ok.stk,ok.exf,ok.bs,ok.bsz,ok.noex,ok.exfs,ok.funs,ok.frf⟩
section
variable {X:Cx} {pins:List (Addr×Obj)} {σ:St} {H:Hp} {s:Shared} {E:Value→Shared→Prop}
theorem Inv.wish (I:Inv X pins σ H s) (E:Value→Shared→Prop):Inv (X.wish E) pins σ H s:=⟨I.ok.wish E,I.os,I.bare,I.base,I.loc,I.cell,I.free,I.freeC,I.pin,I.hok,I.len⟩
theorem Inv.unwish (I:Inv (X.wish E) pins σ H s):Inv X pins σ H s:=⟨I.ok.unwish,I.os,I.bare,I.base,I.loc,I.cell,I.free,I.freeC,I.pin,I.hok,I.len⟩
theorem SP.unwish {D:Ends} {f:Flow} {s':Shared} (h:SP (X.wish E) pins D f s'):SP X pins D f s':=by
 cases f with
 | next=>obtain ⟨σ',H',I,q⟩:=h;exact ⟨σ',H',I.unwish,q⟩
 | brk=>obtain ⟨σ',H',I,q⟩:=h;exact ⟨σ',H',I.unwish,q⟩
 | cont=>obtain ⟨σ',H',I,q⟩:=h;exact ⟨σ',H',I.unwish,q⟩
 | ret u=>obtain ⟨v,σ',H',I,r,q⟩:=h;exact ⟨v,σ',H',I.unwish,r,q⟩
theorem PE.nox {e:Expr} {t:TE} (h:PE X.nox e t):PE X e t:=fun pins s σ H Q I hw=>
 wpAny_mono (h pins s σ H Q (I.wish _) hw) (fun _ _ ⟨v,H',I',r,q⟩=>⟨v,H',I'.unwish,r,q⟩) fun _ _ z=>False.elim z
theorem PSs.nox {st:List Stmt} {t:TS} (h:PSs X.nox st t):PSs X st t:=fun pins s σ H D I hw=>
 wpAny_mono (h pins s σ H D (I.wish _) hw) (fun _ _ q=>q.unwish) fun _ _ z=>False.elim z
end
section
variable {X:Cx} {st:Stmt} {rest:List Stmt} {t u:TS} {e:Expr} {te:TE} {pos:Pos}
noncomputable def tNext:TS:=fun D σ H=>D.nx σ H
noncomputable def tSeq (t u:TS):TS:=fun D σ H=>t { D with nx:=u D } σ H
theorem pss_nil:PSs X [] tNext:=fun _ _ σ H _ I h=>wpAny_execs_nil ⟨σ,H,I,h⟩
theorem pss_cons (h1:PS X st t) (h2:PSs X rest u):PSs X (st::rest) (tSeq t u):=by
 intro pins s σ H D I h
 refine wpAny_execs_cons (thn (h1 pins s σ H { D with nx:=u D } I h) fun f s1 q=>?_)
 cases f with
 | next=>
  obtain ⟨σ',H',I',q⟩:=q
  exact h2 pins s1 σ' H' D I' q
 | ret v=>exact q
 | brk=>exact q
 | cont=>exact q
theorem pss_one (h1:PS X st t):PSs X [st] t:=by
 intro pins s σ H D I h
 refine wpAny_execs_cons (thn (h1 pins s σ H D I h) fun f s1 q=>?_)
 cases f with
 | next=>exact wpAny_execs_nil q
 | ret v=>exact q
 | brk=>exact q
 | cont=>exact q
theorem Inv.quiet {pins:List (Addr×Obj)} {σ:St} {H:Hp} {s:Shared} (I:Inv X pins σ H s):interactive X.env=false:=by simp [interactive,I.ok.kind]
noncomputable def tDrop (te:TE):TS:=fun D σ H=>te σ H fun _ H1=>D.nx σ H1
theorem ps_expr (he:PE X e te) (hs:swapsWith e none pos.line X.env=pure false:=by rfl):PS X (.Expr e pos) (tDrop te):=by
 intro pins s σ H D I h
 exact wpAny_Expr_any (thn (he pins s σ H _ I h) fun v s1 ⟨x,H1,I1,r1,q1⟩=>⟨σ,H1,I1,q1⟩) I.quiet hs
noncomputable def tRet (te:TE):TS:=fun D σ H=>te σ H D.rt
theorem ps_ret (he:PE X e te):PS X (.Return (some e) pos) (tRet te):=by
 intro pins s σ H D I h
 exact wpAny_Return_some (thn (he pins s σ H _ I h) fun v s1 ⟨x,H1,I1,r1,q1⟩=>⟨x,σ,H1,I1,r1,q1⟩)
noncomputable def tIfS (c:TT) (t u:TS):TS:=fun D σ H=>c σ H fun b H1=>if b=true then t D σ H1 else u D σ H1
theorem ps_if {c:Expr} {a b:List Stmt} {tc:TT} (hc:PT X c tc) (ha:PSs X a t) (hb:PSs X b u):PS X (.If c a b pos) (tIfS tc t u):=by
 intro pins s σ H D I h
 refine wpAny_If (thn (hc pins s σ H _ I h) fun d s1 ⟨H1,I1,q1⟩=>?_)
 cases d with
 | true=>exact ha pins s1 σ H1 D I1 q1
 | false=>exact hb pins s1 σ H1 D I1 q1
end
noncomputable abbrev TG:=V→St→Hp→(St→Hp→Prop)→Prop
noncomputable abbrev TGs:=List V→St→Hp→(St→Hp→Prop)→Prop
noncomputable def PG (X:Cx) (target:Expr) (t:TG):Prop:=
 ∀(pins:List (Addr×Obj)) (s:Shared) (σ:St) (H:Hp) (v:V) (u:Value) (Q:St→Hp→Prop),Inv X pins σ H s→RelV v u→t v σ H Q→
  wpAny (model X.prog X.w) X.A (assign target X.env u) (fun _ s'=>∃σ' H',Inv X pins σ' H' s'∧Q σ' H') X.xe s
noncomputable def PGs (X:Cx) (ts:List Expr) (t:TGs):Prop:=
 ∀(pins:List (Addr×Obj)) (s:Shared) (σ:St) (H:Hp) (vs:List V) (us:List Value) (Q:St→Hp→Prop),Inv X pins σ H s→Vals vs us→t vs σ H Q→
  wpAny (model X.prog X.w) X.A (assignInOrder ((assignEach ts X.env).map (·.2)) us) (fun _ s'=>∃σ' H',Inv X pins σ' H' s'∧Q σ' H') X.xe s
noncomputable abbrev TSet:=V→V→V→Hp→(Hp→Prop)→Prop
noncomputable def PSet (X:Cx) (t:TSet):Prop:=
 ∀(pins:List (Addr×Obj)) (s:Shared) (σ:St) (H:Hp) (o i v:V) (ov iv u:Value) (Q:Hp→Prop),Inv X pins σ H s→RelV o ov→RelV i iv→RelV v u→t o i v H Q→
  wpAny (model X.prog X.w) X.A (setItem ov iv u) (fun _ s'=>∃H',Inv X pins σ H' s'∧Q H') X.xe s
section
variable {X:Cx} {pos:Pos}
noncomputable def gName (i:Nat):TG:=fun v σ H Q=>Q (σ.set i (some v)) H
theorem pg_name {i:Nat} {x:Str} (hN:X.N.Nodup) (hi:X.N[i]?=some x) (hx:Loc X.env.scope x) (hf:X.fn x=true∨X.env.scope.names.lookup x=some .local:=by first | exact .inl rfl | exact .inr rfl | assumption):PG X (.Name x pos) (gName i):=by
 intro pins s σ H v u Q I r h
 exact wpAny_assign_Name (store_ok I hN hi hx r (fun s' I'=>⟨_,H,I',h⟩) hf)
noncomputable def gNil:TGs:=fun vs σ H Q=>vs=[]∧Q σ H
noncomputable def gCons (t:TG) (u:TGs):TGs:=fun vs σ H Q=>∃v r,vs=v::r∧t v σ H fun σ' H'=>u r σ' H' Q
theorem pgs_nil:PGs X [] gNil:=by
 intro pins s σ H vs us Q I r h
 obtain ⟨e,h⟩:=h
 subst e
 cases r
 exact assignInOrder_nil ⟨σ,H,I,h⟩
theorem pgs_cons {e:Expr} {es:List Expr} {t:TG} {u:TGs} (h1:PG X e t) (h2:PGs X es u)
  (hs:(assignEach (e::es) X.env).map (·.2)=assign e X.env::(assignEach es X.env).map (·.2):=by rfl):PGs X (e::es) (gCons t u):=by
 intro pins s σ H vs us Q I r h
 obtain ⟨v,vr,e1,h⟩:=h
 subst e1
 cases r with
 | cons r rr=>
  rw [hs]
  refine assignInOrder_cons (thn (h1 pins s σ H _ _ _ I r h) fun _ s1 ⟨σ1,H1,I1,q1⟩=>?_)
  exact h2 pins s1 σ1 H1 _ _ Q I1 rr q1
noncomputable def gTup (K:PySem.W.Frag) (n:Nat) (t:TGs):TG:=fun v σ H Q=>∃a xs,v=.ref a∧SqT K H a xs∧xs.length=n∧t xs σ H Q
theorem pg_tup {es:List Expr} {k:Nat} {t:TGs} {n:Nat} (hc:X.calm=true) (h:PGs X es t)
  (hn:(assignEach es X.env).length=n:=by rfl) (hst:(assignEach es X.env).findIdx? (·.1)=none:=by rfl):PG X (.Tuple es k pos) (gTup X.K n t):=by
 intro pins s σ H v u Q I r hw
 obtain ⟨a,xs,e1,hq,hl,hw⟩:=hw
 subst e1
 cases r
 obtain ⟨its,rv,ht,hz⟩:=I.tuple hq
 refine assign_Tuple_tuple (I.ok.hd hc) ht (by simp [hn,←hl,rv.length]) hst fun h' hx=>?_
 have I1:Inv X pins σ H { s with heap:=h' }:=I.kept (t':=s.toks) fun b o e=>hx b o (Nat.ne_of_lt (Heap.lt_size e)) e
 exact h pins _ σ H xs _ Q I1 (by simpa using rv) hw
noncomputable def gSub (to ti:TE) (t:TSet):TG:=fun v σ H Q=>to σ H fun o H1=>ti σ H1 fun i H2=>t o i v H2 fun H3=>Q σ H3
theorem pg_sub {o i:Expr} {to ti:TE} {t:TSet} (ho:PE X o to) (hi:PE X i ti) (hs:PSet X t)
  (ha:∀v,assign (.Subscript o i pos) X.env v=(do
   let ov←holding [v] (eval o X.env)
   let iv←holding [v,ov] (eval i X.env)
   standAt pos
   holding [v,ov,iv] (setItem ov iv v)
   release [v,ov,iv] []):=by intro _;rfl):PG X (.Subscript o i pos) (gSub to ti t):=by
 intro pins s σ H v u Q I r h
 rw [ha]
 refine wpAny_bind (wpAny_holding (thn (ho pins s σ H _ I h) fun ov s1 ⟨x,H1,I1,r1,q1⟩=>?_))
 refine wpAny_bind (wpAny_holding (thn (hi pins s1 σ H1 _ I1 q1) fun iv s2 ⟨y,H2,I2,r2,q2⟩=>?_))
 refine wpAny_bind (wpAny_standAt (wpAny_bind (wpAny_holding (thn (hs pins s2 σ H2 x y v ov iv u _ I2 r1 r2 r q2) fun _ s3 ⟨H3,I3,q3⟩=>?_))))
 exact wpAny_release ⟨σ,H3,I3,q3⟩
noncomputable def tAsg (te:TE) (g:TG):TS:=fun D σ H=>te σ H fun x H1=>g x σ H1 D.nx
theorem ps_asg {tg e:Expr} {te:TE} {g:TG} (he:PE X e te) (hg:PG X tg g) (hs:swapsWithSole [tg] e pos.line X.env=pure false:=by rfl) (hw:swappedStores [tg] e X.env=pure none:=by rfl)
  (h1:(assignEach [tg] X.env).map (·.2)=[assign tg X.env]:=by rfl):PS X (.Assign [tg] e pos) (tAsg te g):=by
 intro pins s σ H D I h
 refine wpAny_Assign_stores (thn (he pins s σ H _ I h) fun v s1 ⟨x,H1,I1,r1,q1⟩=>?_) hs hw
 rw [h1]
 exact thn (hg pins s1 σ H1 x v _ I1 r1 q1) fun _ s2 q=>q
theorem ps_set {i:Nat} {x:Str} {e:Expr} {te:TE} {pos':Pos} (hN:X.N.Nodup) (hi:X.N[i]?=some x) (hx:Loc X.env.scope x) (he:PE X e te) (hs:swapsWith e (some (.Name x pos')) pos.line X.env=pure false:=by rfl) (hf:X.fn x=true∨X.env.scope.names.lookup x=some .local:=by first | exact .inl rfl | exact .inr rfl | assumption) :
  PS X (.Assign [.Name x pos'] e pos) (tAsg te (gName i)):=by
 intro pins s σ H D I h
 refine wpAny_Assign_Name (thn (he pins s σ H _ I h) fun v s1 ⟨y,H1,I1,r1,q1⟩=>?_) hs
 exact store_ok I1 hN hi hx r1 (fun s2 I2=>⟨_,H1,I2,q1⟩) hf
end
section
variable {X:Cx} {pos:Pos}
end
structure It where
 go:Nat→Hp→Prop
 yld:Nat→Hp→V→Hp→Prop
 stop:Nat→Hp→Prop
noncomputable def FpOk (X:Cx) (pins:List (Addr×Obj)) (H:Hp) (b:Addr):Prop:=
 H b=none∧b≠X.env.locals∧b∉X.fs∧(b∈X.ex∨X.s₀.heap.objs.size≤b)∧(∀x c,X.env.cells.lookup x=some c→c≠b)∧∀p∈X.pn++pins,p.1≠b
theorem Inv.fpOk {X:Cx} {pins:List (Addr×Obj)} {σ:St} {H H':Hp} {s:Shared} {b:Addr} (I:Inv X pins σ H s) (hb:s.heap.objs.size≤b) (hn:H' b=none):FpOk X pins H' b:=by
 refine ⟨hn,Nat.ne_of_gt (Nat.lt_of_lt_of_le I.lt hb),I.nofs hb,.inr (Nat.le_trans I.sz hb),fun x c e z=>?_,fun p hp z=>?_⟩
 ·obtain ⟨v,q⟩:=I.cell x c e
  exact absurd (Nat.lt_of_lt_of_le q.lt (by rw [z];exact hb)) (Nat.lt_irrefl _)
 ·exact absurd (Nat.lt_of_lt_of_le (Heap.lt_size (I.pin p hp).1) (by rw [z];exact hb)) (Nat.lt_irrefl _)
structure Turn (P:Program) (w:World) (K:PySem.W.Frag) (tg:Expr) (J:It) (fp:List Addr) (it:Addr) (tn:Nat→Heap→Prop):Prop where
 mem:it∈fp
 obj:∀i h,tn i h→∀b∈fp,∃o,h.get? b=some o∧∀v,o.data≠.cell v
 keep:∀i h h',tn i h→(∀b∈fp,∀o,h.get? b=some o→h'.get? b=some o)→tn i h'
 item:∀(X:Cx),X.prog=P→X.w=w→X.K=K→X.calm=true→∀(i:Nat) (pins:List (Addr×Obj)) (s:Shared) (σ:St) (H:Hp) (E:Value→Shared→Prop),Inv X pins σ H s→(∀b∈fp,FpOk X pins H b)→tn i s.heap→J.go i H→
  wpAny (model P w) X.A (pyNext (.ref it)) (fun r s1=>∃u,r=some u∧
   wpAny (model P w) X.A (letOwnedTupleGo tg (.ref it) u) (fun _ s2=>∃x H',Inv X pins σ H' s2∧RelV x u∧J.yld i H x H'∧tn (i+1) s2.heap∧∀b∈fp,H' b=none) E s1) E s
 done:∀(X:Cx),X.prog=P→X.w=w→X.K=K→X.calm=true→∀(i:Nat) (pins:List (Addr×Obj)) (s:Shared) (σ:St) (H:Hp) (E:Value→Shared→Prop),Inv X pins σ H s→(∀b∈fp,FpOk X pins H b)→tn i s.heap→J.stop i H→
  wpAny (model P w) X.A (pyNext (.ref it)) (fun r s1=>r=none∧Inv X pins σ H s1) E s
 self:∀(A:Around) (i:Nat) (s:Shared) (Q:Value→Shared→Prop) (E:Value→Shared→Prop),tn i s.heap→Q (.ref it) s→wpAny (model P w) A (pyIter (.ref it)) Q E s
noncomputable abbrev TI:=St→Hp→(It→Hp→Prop)→Prop
noncomputable def PIE (X:Cx) (pins:List (Addr×Obj)) (σ:St) (tg:Expr) (R:It→Hp→Prop) (itv:Value) (s2:Shared):Prop:=
 ∃(it:Addr) (fp:List Addr) (tn:Nat→Heap→Prop) (J:It) (H':Hp),itv=.ref it∧Inv X pins σ H' s2∧Turn X.prog X.w X.K tg J fp it tn∧tn 0 s2.heap∧(∀b∈fp,FpOk X pins H' b)∧R J H'
noncomputable def PI (X:Cx) (tg iter:Expr) (wi:TI):Prop:=
 ∀(pins:List (Addr×Obj)) (s:Shared) (σ:St) (H:Hp) (R:It→Hp→Prop),Inv X pins σ H s→wi σ H R→
  wpAny (model X.prog X.w) X.A (eval iter X.env) (fun v s1=>wpAny (model X.prog X.w) X.A (pyIter v) (PIE X pins σ tg R) X.xe s1) X.xe s
theorem go_of {M : Model} {A : Around} {E : Value → Shared → Prop} {s : Shared} {tg : Expr} {it : Addr} {u : Value} {o : Obj} {n : String} {vs : Array Value} {Q : Unit → Shared → Prop} (ho : s.heap.get? it = some o) (hc : o.cls = .type n) (hd : o.data = .fields vs)
    (hn : ["enumerate", "zip", "dict_itemiterator", "dict_reverseitemiterator", "odict_iterator", "itertools.zip_longest", "itertools.pairwise"].contains n = false) (hQ : Q () s) : wpAny M A (letOwnedTupleGo tg (.ref it) u) Q E s := by
  unfold letOwnedTupleGo
  cases tg <;> first
    | exact wpAny_pure hQ
    | (cases u <;> first
        | exact wpAny_pure hQ
        | (refine wpAny_bind (wpAny_load ho ?_)
           rw [hc, hd]
           show wpAny M A (if (["enumerate", "zip", "dict_itemiterator", "dict_reverseitemiterator", "odict_iterator", "itertools.zip_longest", "itertools.pairwise"].contains n && vs[0]? == some (rawInt _)) = true then _ else _) Q E s
           rw [if_neg (by intro h; rw [hn, Bool.false_and] at h; cases h)]
           exact wpAny_pure hQ))
noncomputable def Itl (K:PySem.W.Frag) (a:Addr):It:=
 ⟨fun i H=>∃xs x,SqL K H a xs∧xs[i]?=some x,fun i H x H'=>H'=H∧∀xs,SqL K H a xs→xs[i]?=some x,fun i H=>∃xs,SqL K H a xs∧xs.length≤i⟩
noncomputable def Itt (K:PySem.W.Frag) (a:Addr):It:=
 ⟨fun i H=>∃xs x,SqT K H a xs∧xs[i]?=some x,fun i H x H'=>H'=H∧∀xs,SqT K H a xs→xs[i]?=some x,fun i H=>∃xs,SqT K H a xs∧xs.length≤i⟩
noncomputable def Itr (lo:Int) (n:Nat):It:=⟨fun i _=>i<n,fun i H x H'=>H'=H∧x=.int (lo+i),fun i _=>n≤i⟩
theorem turn_list {P:Program} {w:World} {K:PySem.W.Frag} {tg:Expr} (a it:Addr):Turn P w K tg (Itl K a) [it] it (fun i h=>h.IsListIter it a i) where
 mem:=by simp
 obj:=fun i h st b hb=>by
  have e:b=it:=by simpa using hb
  subst e
  obtain ⟨o,e,c,d⟩:=st
  exact ⟨o,e,fun v z=>by rw [d] at z;cases z⟩
 keep:=fun i h h' st k=>st.at fun o e=>k it (by simp) o e
 item:=by
  intro X hP hw hK hc i pins s σ H E I hf st hg
  subst hP hw hK
  obtain ⟨xs,x,hq,hx⟩:=hg
  obtain ⟨its,rv,p,hz⟩:=I.list hq
  obtain ⟨u,hu,ru⟩:=rv.get hx
  obtain ⟨f0,f1,f2,f3,f4,f5⟩:=hf it (by simp)
  refine wpAny_pyNext_list_item st p.isList (x:=u) (by simpa using hu) fun h' st' sb=>?_
  have I1:Inv X pins σ H { s with heap:=h' }:=I.turned (t':=s.toks) (fun b o hb e=>(sb.2 b hb).trans e) f0 f1 f3 f4 f5
  obtain ⟨o,e,c,d⟩:=id st'
  exact ⟨u,rfl,go_of (s:={ s with heap:=h' }) e c d (by decide) ⟨x,H,I1,ru,⟨rfl,fun ys hy=>by rw [I.list_inj hy hq];exact hx⟩,st',fun b hb=>(hf b hb).1⟩⟩
 done:=by
  intro X hP hw hK hc i pins s σ H E I hf st hg
  subst hP hw hK
  obtain ⟨xs,hq,hx⟩:=hg
  obtain ⟨its,rv,p,hz⟩:=I.list hq
  obtain ⟨f0,f1,f2,f3,f4,f5⟩:=hf it (by simp)
  have hl:=rv.length
  exact wpAny_pyNext_list_end (I.ok.hd hc) st p.isList (by simp;omega) fun h' eb=>⟨rfl,I.turned (t':=s.toks) (fun b o hb e=>eb b o hb e) f0 f1 f3 f4 f5⟩
 self:=fun _ _ _ _ _ st h=>wpAny_pyIter_listiter st h
theorem turn_tuple {P:Program} {w:World} {K:PySem.W.Frag} {tg:Expr} (a it:Addr):Turn P w K tg (Itt K a) [it] it (fun i h=>h.IsTupleIter it a i) where
 mem:=by simp
 obj:=fun i h st b hb=>by
  have e:b=it:=by simpa using hb
  subst e
  obtain ⟨o,e,c,d⟩:=st
  exact ⟨o,e,fun v z=>by rw [d] at z;cases z⟩
 keep:=fun i h h' st k=>st.at fun o e=>k it (by simp) o e
 item:=by
  intro X hP hw hK hc i pins s σ H E I hf st hg
  subst hP hw hK
  obtain ⟨xs,x,hq,hx⟩:=hg
  obtain ⟨its,rv,p,hz⟩:=I.tuple hq
  obtain ⟨u,hu,ru⟩:=rv.get hx
  obtain ⟨f0,f1,f2,f3,f4,f5⟩:=hf it (by simp)
  refine wpAny_pyNext_tuple_item st (show s.heap.IsTuple a its.toArray from p) (x:=u) (by simpa using hu) fun h' st' sb=>?_
  have I1:Inv X pins σ H { s with heap:=h' }:=I.turned (t':=s.toks) (fun b o hb e=>(sb.2 b hb).trans e) f0 f1 f3 f4 f5
  obtain ⟨o,e,c,d⟩:=id st'
  exact ⟨u,rfl,go_of (s:={ s with heap:=h' }) e c d (by decide) ⟨x,H,I1,ru,⟨rfl,fun ys hy=>by rw [I.tuple_inj hy hq];exact hx⟩,st',fun b hb=>(hf b hb).1⟩⟩
 done:=by
  intro X hP hw hK hc i pins s σ H E I hf st hg
  subst hP hw hK
  obtain ⟨xs,hq,hx⟩:=hg
  obtain ⟨its,rv,p,hz⟩:=I.tuple hq
  obtain ⟨f0,f1,f2,f3,f4,f5⟩:=hf it (by simp)
  have hl:=rv.length
  exact wpAny_pyNext_tuple_end (I.ok.hd hc) st (show s.heap.IsTuple a its.toArray from p) (by simp;omega) fun h' eb=>⟨rfl,I.turned (t':=s.toks) (fun b o hb e=>eb b o hb e) f0 f1 f3 f4 f5⟩
 self:=fun _ _ _ _ _ st h=>wpAny_pyIter_tupleiter st h
theorem turn_range {P:Program} {w:World} {K:PySem.W.Frag} {tg:Expr} (it:Addr) (lo:Int) (n:Nat):Turn P w K tg (Itr lo n) [it] it (fun i h=>IsRangeIter h it (lo+(i:Nat)*1) ((n:Int)-(i:Nat)) 1) where
 mem:=by simp
 obj:=fun i h st b hb=>by
  have e:b=it:=by simpa using hb
  subst e
  exact ⟨_,st,fun v z=>by
   have z':Data.fields _=Data.cell v:=z
   cases z'⟩
 keep:=fun i h h' st k=>k it (by simp) _ st
 item:=by
  intro X hP hw hK hc i pins s σ H E I hf st hg
  subst hP hw hK
  obtain ⟨f0,f1,f2,f3,f4,f5⟩:=hf it (by simp)
  have W:=Walks.range (prog:=X.prog) (w:=X.w) (I.ok.hd hc) it lo 1 n
  refine W.item i s _ _ hg st fun v h' tk hv st' kk=>?_
  obtain ⟨t,rfl⟩:=hv
  have I1:Inv X pins σ H { s with heap:=h',toks:=tk }:=I.turned (fun b o hb e=>kk b o (by simpa using hb) e) f0 f1 f3 f4 f5
  refine ⟨_,rfl,go_of (s:={ s with heap:=h',toks:=tk }) (n:="range_iterator") st' rfl rfl (by decide) ⟨.int (lo+i),H,I1,⟨t,?_⟩,⟨rfl,rfl⟩,st',fun b hb=>(hf b hb).1⟩⟩
  rw [Int.mul_one]
 done:=by
  intro X hP hw hK hc i pins s σ H E I hf st hg
  subst hP hw hK
  obtain ⟨f0,f1,f2,f3,f4,f5⟩:=hf it (by simp)
  exact wpAny_pyNext_range_end (I.ok.hd hc) st (by have:n≤i:=hg;omega) fun h' eb=>⟨rfl,I.turned (t':=s.toks) (fun b o hb e=>eb b o hb e) f0 f1 f3 f4 f5⟩
 self:=fun _ _ _ _ _ st h=>wpAny_pyIter_rangeiter st h
end L2
namespace L2
open PySem PySem.Spec PyProof.Rows
section
variable {X:Cx} {tg:Expr}
noncomputable def iList (K:PySem.W.Frag) (tl:TE):TI:=fun σ H R=>tl σ H fun x H1=>∃a,x=.ref a∧(∃xs,SqL K H1 a xs)∧R (Itl K a) H1
noncomputable def iTup (K:PySem.W.Frag) (tl:TE):TI:=fun σ H R=>tl σ H fun x H1=>∃a,x=.ref a∧(∃xs,SqT K H1 a xs)∧R (Itt K a) H1
theorem pi_list {l:Expr} {tl:TE} (hl:PE X l tl):PI X tg l (iList X.K tl):=by
 intro pins s σ H R I h
 refine thn (hl pins s σ H _ I h) fun v s1 ⟨x,H1,I1,r1,q1⟩=>?_
 obtain ⟨a,e,⟨xs,hq⟩,q⟩:=q1
 subst e
 cases r1
 obtain ⟨its,rv,p,hz⟩:=I1.list hq
 refine wpAny_pyIter_list p.isList ?_
 refine ⟨s1.heap.objs.size,[s1.heap.objs.size],_,_,H1,rfl,I1.kept (t':=s1.toks) fun b o e=>Heap.get?_push_of_some _ e,turn_list a _,⟨_,Heap.get?_push_size _ rfl,rfl,rfl⟩,fun b hb=>?_,q⟩
 have e:b=s1.heap.objs.size:=by simpa using hb
 subst e
 exact I1.fpOk (Nat.le_refl _) (I1.hok.fresh (Nat.le_refl _))
theorem pi_tup {l:Expr} {tl:TE} (hl:PE X l tl):PI X tg l (iTup X.K tl):=by
 intro pins s σ H R I h
 refine thn (hl pins s σ H _ I h) fun v s1 ⟨x,H1,I1,r1,q1⟩=>?_
 obtain ⟨a,e,⟨xs,hq⟩,q⟩:=q1
 subst e
 cases r1
 obtain ⟨its,rv,p,hz⟩:=I1.tuple hq
 refine wpAny_pyIter_tuple (show s1.heap.IsTuple a its.toArray from p) ?_
 refine ⟨s1.heap.objs.size,[s1.heap.objs.size],_,_,H1,rfl,I1.kept (t':=s1.toks) fun b o e=>Heap.get?_push_of_some _ e,turn_tuple a _,⟨_,Heap.get?_push_size _ rfl,rfl,rfl⟩,fun b hb=>?_,q⟩
 have e:b=s1.heap.objs.size:=by simpa using hb
 subst e
 exact I1.fpOk (Nat.le_refl _) (I1.hok.fresh (Nat.le_refl _))
theorem range_it {pins:List (Addr×Obj)} {σ:St} {H:Hp} {s:Shared} {R:It→Hp→Prop} {E:Value→Shared→Prop} {lo hi:Int} {t u v:Tok} {tk:Nat} (I:Inv X pins σ H s) (h1:-(2 ^ 62)≤lo) (h2:lo<2 ^ 62) (h3:-(2 ^ 62)≤hi) (h4:hi<2 ^ 62)
  (q:R (Itr lo (hi-lo).toNat) H):wpAny (model X.prog X.w) X.A (pyIter (.ref s.heap.objs.size)) (PIE X pins σ tg R) E { s with heap:=s.heap.push { cls:=.type "range",data:=.fields #[.int lo t,.int hi u,.int 1 v] },toks:=tk }:=by
 refine wpAny_pyIter_range (IsRange.new ..) (small_one h1 h2 h3 h4) ?_
 have I1:Inv X pins σ H { s with heap:=s.heap.push { cls:=.type "range",data:=.fields #[.int lo t,.int hi u,.int 1 v] },toks:=tk }:=I.kept fun b o e=>Heap.get?_push_of_some _ e
 refine ⟨(s.heap.push { cls:=.type "range",data:=.fields #[.int lo t,.int hi u,.int 1 v] }).objs.size,[(s.heap.push { cls:=.type "range",data:=.fields #[.int lo t,.int hi u,.int 1 v] }).objs.size],_,_,H,rfl,
  I1.kept (t':=tk) fun b o e=>Heap.get?_push_of_some _ e,turn_range _ lo (hi-lo).toNat,?_,fun b hb=>?_,q⟩
 ·have e1:lo+((0:Nat):Int)*1=lo:=by simp
  have e2:(((hi-lo).toNat:Nat):Int)-((0:Nat):Int)=Builtin.Range.rangeSize lo hi 1:=by rw [rangeSize_one];split <;> omega
  show IsRangeIter _ _ (lo+((0:Nat):Int)*1) ((((hi-lo).toNat:Nat):Int)-((0:Nat):Int)) 1
  rw [e1,e2]
  exact Heap.get?_push_size _ rfl
 ·have e:b=(s.heap.push { cls:=.type "range",data:=.fields #[.int lo t,.int hi u,.int 1 v] }).objs.size:=by simpa using hb
  subst e
  exact I1.fpOk (Nat.le_refl _) (I1.hok.fresh (Nat.le_refl _))
noncomputable def iRng1 (ta:TA):TI:=fun σ H R=>ta σ H fun vs H1=>∃j:Int,vs=[.int j]∧-(2 ^ 62)≤j∧j<2 ^ 62∧R (Itr 0 j.toNat) H1
noncomputable def iRng2 (ta:TA):TI:=fun σ H R=>ta σ H fun vs H1=>∃i j:Int,vs=[.int i,.int j]∧(-(2 ^ 62)≤i∧i<2 ^ 62∧-(2 ^ 62)≤j∧j<2 ^ 62)∧R (Itr i (j-i).toNat) H1
theorem pi_range1 {a:Expr} {ta:TA} {p pos:Pos} (hg:Gl X "range") (hm:X.mg "range" = none) (ha:PA X [a] ta) (hs:starEach [a] X.env=[(false,eval a X.env)]:=by rfl):PI X tg (.Call (.Name "range" p) [a] [] pos) (iRng1 ta):=by
 intro pins s σ H R I h
 refine Call_ (ld_blt I hg hm boot_range (PyProof.Rows.callWith_type1 (thn (ha pos pins s σ H _ I h) fun us s1 ⟨vs,H1,I1,r1,q1⟩=>?_) hs rfl))
 obtain ⟨j,e,q1,q2,q⟩:=q1
 subst e
 cases r1 with
 | cons r rr=>
  cases rr
  obtain ⟨t,rfl⟩:=r
  exact call_range_1 (range_it I1 (by omega) (by omega) q1 q2 (by simpa using q))
theorem pi_range2 {a b:Expr} {ta:TA} {p pos:Pos} (hg:Gl X "range") (hm:X.mg "range" = none) (ha:PA X [a,b] ta) (hs:starEach [a,b] X.env=[(false,eval a X.env),(false,eval b X.env)]:=by rfl) (hs2:starEach [b] X.env=[(false,eval b X.env)]:=by rfl) :
  PI X tg (.Call (.Name "range" p) [a,b] [] pos) (iRng2 ta):=by
 intro pins s σ H R I h
 refine Call_ (ld_blt I hg hm boot_range (PyProof.Rows.callWith_type1 (thn (ha pos pins s σ H _ I h) fun us s1 ⟨vs,H1,I1,r1,q1⟩=>?_) (by rw [hs,hs2]) (by rw [hs2];rfl)))
 obtain ⟨i,j,e,⟨q1,q2,q3,q4⟩,q⟩:=q1
 subst e
 cases r1 with
 | cons r rr=>
  cases rr with
  | cons r' rr=>
   cases rr
   obtain ⟨t,rfl⟩:=r
   obtain ⟨t',rfl⟩:=r'
   exact call_range_2 (range_it I1 q1 q2 q3 q4 q)
noncomputable def tFor (wi:TI) (g:TG) (tb:TS):TS:=fun D σ H=>wi σ H fun J H1=>∃W:Nat→Nat→St→Hp→Prop,(∃m,W 0 m σ H1)∧∀i m σ H,W i m σ H→
 (J.stop i H∧D.nx σ H)∨(J.go i H∧∃N:St→Hp→Prop,(∀σ' H',N σ' H'→∃m',m'<m∧W (i+1) m' σ' H')∧∀x H',J.yld i H x H'→g x σ H' fun σ2 H2=>tb { D with nx:=N,ct:=N,bk:=D.nx } σ2 H2)
noncomputable def pinsAt (fp:List Addr) (h:Heap):List (Addr×Obj):=fp.filterMap fun b=>(h.get? b).map fun o=>(b,o)
theorem mem_pinsAt {fp:List Addr} {h:Heap} {b:Addr} {o:Obj} (hb:b∈fp) (e:h.get? b=some o):(b,o)∈pinsAt fp h:=List.mem_filterMap.mpr ⟨b,hb,by rw [e];rfl⟩
theorem of_pinsAt {fp:List Addr} {h:Heap} {p:Addr×Obj} (hp:p∈pinsAt fp h):p.1∈fp∧h.get? p.1=some p.2:=by
 obtain ⟨b,hb,e⟩:=List.mem_filterMap.mp hp
 cases q:h.get? b with
 | none=>rw [q] at e;cases e
 | some o=>
  rw [q] at e
  have e':(b,o)=p:=Option.some.inj e
  subst e'
  exact ⟨hb,q⟩
theorem Inv.pinned {pins:List (Addr×Obj)} {σ:St} {H:Hp} {s:Shared} {fp:List Addr} (I:Inv X pins σ H s) (hf:∀b∈fp,FpOk X pins H b) (ho:∀b∈fp,∃o,s.heap.get? b=some o∧∀v,o.data≠.cell v):Inv X (pins++pinsAt fp s.heap) σ H s:=
 I.pins_of fun p hp=>(List.mem_append.mp hp).elim (fun z=>I.pin p (List.mem_append_right _ z)) fun z=>by
  obtain ⟨hb,e⟩:=of_pinsAt z
  obtain ⟨f0,f1,f2,_⟩:=hf p.1 hb
  obtain ⟨o,e',d⟩:=ho p.1 hb
  rw [e] at e';cases e'
  exact ⟨e,f0,f1,f2,d⟩
theorem Inv.unpinned {pins pl:List (Addr×Obj)} {σ:St} {H:Hp} {s:Shared} (I:Inv X (pins++pl) σ H s):Inv X pins σ H s:=I.pins_of fun p hp=>I.pin p (List.mem_append_right _ (List.mem_append_left _ hp))
theorem ps_for {iter:Expr} {body:List Stmt} {wi:TI} {g:TG} {tb:TS} {pos:Pos} (hp:PassesOwn (model X.prog X.w) X.A X.env X.xe) (hc:X.calm=true) (hi:PI X tg iter wi) (hg:PG X tg g) (hb:PSs X body tb)
  (hs:∀x,foldedSetIterable iter X.env x=pure x:=by intro _;rfl):PS X (.For tg iter body [] pos) (tFor wi g tb):=by
 intro pins s σ H D I h
 refine wpAny_For (thn (hi pins s σ H _ I h) fun v s1 h1=>thn h1 fun itv s2 h2=>?_) hs
 obtain ⟨it,fp,tn,J,H2,e,I2,T,st2,f2,W,⟨m0,w0⟩,turn⟩:=h2
 subst e
 -- what stays true of the iterator's objects through the loop
 have stat:∀{H':Hp},(∀b∈fp,H' b=none)→∀b∈fp,FpOk X pins H' b:=fun hn b hb=>⟨hn b hb,(f2 b hb).2⟩
 refine codeAny_forLoop_any (fun n s'=>∃i σ' H',Inv X pins σ' H' s'∧tn i s'.heap∧(∀b∈fp,H' b=none)∧W i n σ' H') ?_ m0 ⟨0,σ,H2,I2,st2,fun b hb=>(f2 b hb).1,w0⟩
 rintro n s3 ⟨i,σ3,H3,I3,st3,fr3,w3⟩
 rcases turn i n σ3 H3 w3 with ⟨stop,qn⟩ | ⟨go,N,hN,step⟩
 ·refine wpAny_passesOwn hp (thn (T.done X rfl rfl rfl hc i pins s3 σ3 H3 X.xe I3 (stat fr3) st3 stop) fun r s4 ⟨hr,I4⟩=>?_)
  subst hr
  exact wpAny_execs_nil ⟨σ3,H3,I4,qn⟩
 ·refine wpAny_passesOwn hp (thn (T.item X rfl rfl rfl hc i pins s3 σ3 H3 X.xe I3 (stat fr3) st3 go) fun r s4 ⟨u,hr,h4⟩=>?_)
  subst hr
  refine wpAny_passesOwn hp (thn h4 fun _ s5 ⟨x,H5,I5,r5,y5,st5,fr5⟩=>?_)
  have I5':=I5.pinned (stat fr5) (T.obj _ _ st5)
  refine wpAny_passesOwn hp (thn (hg _ s5 σ3 H5 x u _ I5' r5 (step x H5 y5)) fun _ s6 ⟨σ6,H6,I6,q6⟩=>?_)
  refine wpAny_passesOwn hp (thn (hb _ s6 σ6 H6 _ I6 q6) fun f s7 q7=>?_)
  have again:∀{σ7:St} {H7:Hp},Inv X (pins++pinsAt fp s5.heap) σ7 H7 s7→N σ7 H7→∃m,m<n∧∃i σ' H',Inv X pins σ' H' s7∧tn i s7.heap∧(∀b∈fp,H' b=none)∧W i m σ' H':=fun {σ7 H7} I7 n7=>by
   obtain ⟨m',hm,w7⟩:=hN σ7 H7 n7
   refine ⟨m',hm,i+1,σ7,H7,I7.unpinned,T.keep _ _ _ st5 fun b hb o e=>(I7.pin (b,o) (List.mem_append_right _ (List.mem_append_right _ (mem_pinsAt hb e)))).1,fun b hb=>?_,w7⟩
   obtain ⟨o,e,d⟩:=T.obj _ _ st5 b hb
   exact (I7.pin (b,o) (List.mem_append_right _ (List.mem_append_right _ (mem_pinsAt hb e)))).2.1
  cases f with
  | next=>obtain ⟨σ7,H7,I7,n7⟩:=q7;exact again I7 n7
  | cont=>obtain ⟨σ7,H7,I7,n7⟩:=q7;exact again I7 n7
  | brk=>obtain ⟨σ7,H7,I7,q7⟩:=q7;exact ⟨σ7,H7,I7.unpinned,q7⟩
  | ret v=>obtain ⟨x7,σ7,H7,I7,r7,q7⟩:=q7;exact ⟨x7,σ7,H7,I7.unpinned,r7,q7⟩
end
end L2
namespace L2
open PySem PySem.Spec PyProof.Rows
noncomputable abbrev R2:=V→V→Hp→VK→Prop
noncomputable def OpR (X:Cx) (f:Value→Value→Sem Value) (r:R2):Prop:=
 ∀(pins:List (Addr×Obj)) (s:Shared) (σ:St) (H:Hp) (x y:V) (v u:Value) (Q:VK),Inv X pins σ H s→RelV x v→RelV y u→r x y H Q→
  wpAny (model X.prog X.w) X.A (f v u) (EP X pins σ Q) X.xe s
noncomputable def UnR (X:Cx) (f:Value→Sem Value) (r:V→Hp→VK→Prop):Prop:=
 ∀(pins:List (Addr×Obj)) (s:Shared) (σ:St) (H:Hp) (x:V) (v:Value) (Q:VK),Inv X pins σ H s→RelV x v→r x H Q→
  wpAny (model X.prog X.w) X.A (f v) (EP X pins σ Q) X.xe s
noncomputable def CallR (X:Cx) (f:Value) (r:List V→Hp→VK→Prop):Prop:=
 ∀(pins:List (Addr×Obj)) (s:Shared) (σ:St) (H:Hp) (xs:List V) (us:List Value) (Q:VK),Inv X pins σ H s→Vals xs us→r xs H Q→
  wpAny (model X.prog X.w) X.A (call f us) (EP X pins σ Q) X.xe s
noncomputable def tOp (r:R2) (ta tb:TE):TE:=fun σ H Q=>ta σ H fun x H1=>tb σ H1 fun y H2=>r x y H2 Q
noncomputable def tUn (r:V→Hp→VK→Prop) (ta:TE):TE:=fun σ H Q=>ta σ H fun x H1=>r x H1 Q
noncomputable def rI (C:Int→Int→Prop) (g:Int→Int→V):R2:=fun x y H Q=>∃i j,x=.int i∧y=.int j∧C i j∧Q (g i j) H
noncomputable def rI0 (g:Int→Int→V):R2:=fun x y H Q=>∃i j,x=.int i∧y=.int j∧Q (g i j) H
noncomputable def rU (g:Int→V):V→Hp→VK→Prop:=fun x H Q=>∃i,x=.int i∧Q (g i) H
section
variable {X:Cx} {a b c:Expr} {ta tb tc:TE} {pos:Pos}
theorem binT (ha:PE X a ta) (hb:PE X b tb) {pins:List (Addr×Obj)} {s:Shared} {σ:St} {H:Hp} {R:V→V→Hp→Prop} (I:Inv X pins σ H s)
  (h:ta σ H fun x H1=>tb σ H1 fun y H2=>R x y H2) {Q:Value→Shared→Prop} {f:Value→Value→Sem Value}
  (hf:∀v u s2 x y H2,Inv X pins σ H2 s2→RelV x v→RelV y u→R x y H2→wpAny (model X.prog X.w) X.A (f v u) Q X.xe s2) :
  wpAny (model X.prog X.w) X.A (eval a X.env) (fun v s₁=>wpAny (model X.prog X.w) X.A (eval b X.env) (fun u s₂=>wpAny (model X.prog X.w) X.A (f v u) Q X.xe s₂) X.xe s₁) X.xe s:=by
 refine thn (ha pins s σ H _ I h) fun v s1 ⟨x,H1,I1,r1,q1⟩=>?_
 refine thn (hb pins s1 σ H1 _ I1 q1) fun u s2 ⟨y,H2,I2,r2,q2⟩=>?_
 exact hf v u s2 x y H2 I2 r1 r2 q2
theorem pe_op {op:Operator} {r:R2} (ho:OpR X (binaryOp op) r) (ha:PE X a ta) (hb:PE X b tb):PE X (.BinOp a op b pos) (tOp r ta tb):=by
 intro pins s σ H Q I h
 exact wpAny_BinOp (binT ha hb I h fun v u s2 x y H2 I2 rx ry q=>ho pins s2 σ H2 x y v u Q I2 rx ry q)
theorem pe_un {op:UnaryOp} {r:V→Hp→VK→Prop} (ho:UnR X (unaryOp op) r) (ha:PE X a ta):PE X (.UnaryOp op a pos) (tUn r ta):=by
 intro pins s σ H Q I h
 exact UnaryOp_ (thn (ha pins s σ H _ I h) fun v s1 ⟨x,H1,I1,r1,q1⟩=>ho pins s1 σ H1 x v Q I1 r1 q1)
theorem opI {f:Value→Value→Sem Value} {C:Int→Int→Prop} {g:Int→Int→Int}
  (rule:∀(i j:Int) (t u:Tok) (s:Shared) (Q:Value→Shared→Prop) (E:Value→Shared→Prop),C i j→Q (.int (g i j) s.toks) { s with toks:=s.toks+1 }→wpAny (model X.prog X.w) X.A (f (.int i t) (.int j u)) Q E s) :
  OpR X f (rI C fun i j=>.int (g i j)):=by
 intro pins s σ H x y v u Q I rx ry h
 obtain ⟨i,j,rfl,rfl,hc,q⟩:=h
 obtain ⟨t,rfl⟩:=rx
 obtain ⟨t',rfl⟩:=ry
 exact rule i j t t' s _ _ hc ⟨.int (g i j),H,I.tok _,⟨_,rfl⟩,q⟩
theorem opI0 {f:Value→Value→Sem Value} {g:Int→Int→Int}
  (rule:∀(i j:Int) (t u:Tok) (s:Shared) (Q:Value→Shared→Prop) (E:Value→Shared→Prop),Q (.int (g i j) s.toks) { s with toks:=s.toks+1 }→wpAny (model X.prog X.w) X.A (f (.int i t) (.int j u)) Q E s) :
  OpR X f (rI0 fun i j=>.int (g i j)):=by
 intro pins s σ H x y v u Q I rx ry h
 obtain ⟨i,j,rfl,rfl,q⟩:=h
 obtain ⟨t,rfl⟩:=rx
 obtain ⟨t',rfl⟩:=ry
 exact rule i j t t' s _ _ ⟨.int (g i j),H,I.tok _,⟨_,rfl⟩,q⟩
theorem opB0 {f:Value→Value→Sem Value} {g:Int→Int→Bool}
  (rule:∀(i j:Int) (t u:Tok) (s:Shared) (Q:Value→Shared→Prop) (E:Value→Shared→Prop),Q (.bool (g i j)) s→wpAny (model X.prog X.w) X.A (f (.int i t) (.int j u)) Q E s) :
  OpR X f (rI0 fun i j=>.bl (g i j)):=by
 intro pins s σ H x y v u Q I rx ry h
 obtain ⟨i,j,rfl,rfl,q⟩:=h
 obtain ⟨t,rfl⟩:=rx
 obtain ⟨t',rfl⟩:=ry
 exact rule i j t t' s _ _ ⟨.bl (g i j),H,I,rfl,q⟩
noncomputable def CDiv (i j:Int):Prop:=0<j∧j<1073741824
noncomputable def CPow (i j:Int):Prop:=0≤j∧j≤1000000∧i.natAbs<2 ^ 64
noncomputable def CMul (i j:Int):Prop:=(-(2 ^ 64)<i∧i<2 ^ 64)∨(-(2 ^ 64)<j∧j<2 ^ 64)
theorem CMul.ok {i j:Int} (h:CMul i j):IntMulOk i j:=by
 rcases h with ⟨h1,h2⟩ | ⟨h1,h2⟩
 ·exact .of_left (intBits_le_64 h1 h2)
 ·exact .of_right (intBits_le_64 h1 h2)
theorem op_add:OpR X (binaryOp .Add) (rI0 fun i j=>.int (i+j)):=opI0 fun _ _ _ _ _ _ _ q=>add_int q
theorem op_sub:OpR X (binaryOp .Sub) (rI0 fun i j=>.int (i-j)):=opI0 fun _ _ _ _ _ _ _ q=>sub_int q
theorem op_mul:OpR X (binaryOp .Mult) (rI CMul fun i j=>.int (i*j)):=opI fun _ _ _ _ _ _ _ hc q=>mul_int q hc.ok
theorem op_fdiv:OpR X (binaryOp .FloorDiv) (rI CDiv fun i j=>.int (i / j)):=opI fun i j _ _ _ _ _ hc q=>by
 have h1:(0:Int)<j:=hc.1
 have h2:j<1073741824:=hc.2
 exact floordiv_int (by omega) (by rw [Int.fdiv_eq_ediv_of_nonneg i (by omega)];exact q) (.inl (PyProof.noPylong_small (by omega)))
theorem op_mod:OpR X (binaryOp .Mod) (rI (fun _ j=>0<j) fun i j=>.int (i % j)):=opI fun i j _ _ _ _ _ hc q=>by
 have h1:(0:Int)<j:=hc
 exact mod_int' (by omega) (by rw [Int.fmod_eq_emod_of_nonneg i (by omega)];exact q)
theorem op_pow:OpR X (binaryOp .Pow) (rI CPow fun i j=>.int (i ^ j.toNat)):=opI fun _ _ _ _ _ _ _ hc q=>pow_int_small hc.1 hc.2.1 hc.2.2 q
theorem unI {f:Value→Sem Value} {g:Int→Int}
  (rule:∀(i:Int) (t:Tok) (s:Shared) (Q:Value→Shared→Prop) (E:Value→Shared→Prop),Q (.int (g i) s.toks) { s with toks:=s.toks+1 }→wpAny (model X.prog X.w) X.A (f (.int i t)) Q E s) :
  UnR X f (rU fun i=>.int (g i)):=by
 intro pins s σ H x v Q I rx h
 obtain ⟨i,rfl,q⟩:=h
 obtain ⟨t,rfl⟩:=rx
 exact rule i t s _ _ ⟨.int (g i),H,I.tok _,⟨_,rfl⟩,q⟩
theorem un_neg:UnR X (unaryOp .USub) (rU fun i=>.int (-i)):=unI fun _ _ _ _ _ q=>neg_int q
end
section
variable {X:Cx} {a b c:Expr} {ta tb tc:TE} {pos:Pos}
theorem fin_bl {pins:List (Addr×Obj)} {σ:St} {H:Hp} {s:Shared} {Q:VK} {k k':Bool} (I:Inv X pins σ H s) (q:Q (.bl k) H) (e:k=k'):EP X pins σ Q (.bool k') s:=by
 subst e
 exact ⟨.bl k,H,I,rfl,q⟩
theorem op_lt:OpR X (compareOp .Lt) (rI0 fun i j=>.bl (decide (i<j))):=opB0 fun _ _ _ _ _ _ _ q=>lt_int q
theorem op_le:OpR X (compareOp .LtE) (rI0 fun i j=>.bl (decide (i≤j))):=opB0 fun _ _ _ _ _ _ _ q=>le_int q
theorem op_gt:OpR X (compareOp .Gt) (rI0 fun i j=>.bl (decide (j<i))):=opB0 fun _ _ _ _ _ _ _ q=>gt_int q
theorem op_ge:OpR X (compareOp .GtE) (rI0 fun i j=>.bl (decide (j≤i))):=opB0 fun _ _ _ _ _ _ _ q=>ge_int q
theorem OpR.or {f:Value→Value→Sem Value} {r r':R2} (h:OpR X f r) (h':OpR X f r'):OpR X f (fun x y H Q=>r x y H Q∨r' x y H Q):=by
 intro pins s σ H x y v u Q I rx ry q
 rcases q with q | q
 ·exact h pins s σ H x y v u Q I rx ry q
 ·exact h' pins s σ H x y v u Q I rx ry q
theorem nomark (b:Expr) {op:CmpOp} (h:op≠.In:=by decide) (h2:op≠.NotIn:=by decide):behindInMarks op b=false:=by
 have e1:(op==CmpOp.In)=false:=by cases op <;> first | rfl | exact absurd rfl h
 have e2:(op==CmpOp.NotIn)=false:=by cases op <;> first | rfl | exact absurd rfl h2
 cases b <;> simp [behindInMarks,e1,e2]
theorem pe_cmpR {op:CmpOp} {r:R2} (ho:OpR X (compareOp op) r) (ha:PE X a ta) (hb:PE X b tb) (hm:behindInMarks op b=false):PE X (.Compare a [op] [b] pos) (tOp r ta tb):=by
 intro pins s σ H Q I h
 exact wpAny_Compare1 (binT ha hb I h fun v u s2 x y H2 I2 rx ry q=>ho pins s2 σ H2 x y v u Q I2 rx ry q) hm
noncomputable def tTest (t:TE):TT:=fun σ H Q=>t σ H fun x H'=>∃k,x=.bl k∧Q k H'
theorem pt_cmpR {op:CmpOp} {r:R2} (ho:OpR X (compareOp op) r) (ha:PE X a ta) (hb:PE X b tb) (hm:behindInMarks op b=false):PT X (.Compare a [op] [b] pos) (tTest (tOp r ta tb)):=by
 intro pins s σ H Q I h
 refine wpAny_isTrue_Compare1 (thn (ha pins s σ H _ I h) fun v s1 ⟨x,H1,I1,r1,q1⟩=>thn (hb pins s1 σ H1 _ I1 q1) fun u s2 ⟨y,H2,I2,r2,q2⟩=>
  thn (ho pins s2 σ H2 x y v u _ I2 r1 r2 q2) fun c s3 ⟨z,H3,I3,r3,k,e,q3⟩=>?_) hm
 subst e
 cases r3
 exact wpAny_truthy_bool ⟨H3,I3,q3⟩
theorem line63:(sizeLine:Nat)<2 ^ 63:=by rw [sizeLine_eq];decide
theorem vals1 {x:V} {us:List Value} (r:Vals [x] us):∃u,us=[u]∧RelV x u:=by
 cases r with
 | cons r1 r2=>cases r2;exact ⟨_,rfl,r1⟩
theorem vals2 {x y:V} {us:List Value} (r:Vals [x,y] us):∃u w',us=[u,w']∧RelV x u∧RelV y w':=by
 cases r with
 | cons r1 r2=>
  cases r2 with
  | cons r3 r4=>cases r4;exact ⟨_,_,rfl,r1,r3⟩
theorem call_max2 (hc:X.calm=true):CallR X (.builtin "max") (fun xs H Q=>∃i j,xs=[.int i,.int j]∧Q (.int (if j > i then j else i)) H):=by
 intro pins s σ H xs us Q I r h
 obtain ⟨i,j,rfl,q⟩:=h
 obtain ⟨u,w',rfl,⟨t,rfl⟩,⟨t',rfl⟩⟩:=vals2 r
 refine max_two_ints (I.ok.hd hc) fun h' tk k=>⟨_,H,I.kept k,?_,q⟩
 by_cases hj:j > i
 ·rw [if_pos hj,if_pos hj];exact ⟨_,rfl⟩
 ·rw [if_neg hj,if_neg hj];exact ⟨_,rfl⟩
theorem call_min2 (hc:X.calm=true):CallR X (.builtin "min") (fun xs H Q=>∃i j,xs=[.int i,.int j]∧Q (.int (if j<i then j else i)) H):=by
 intro pins s σ H xs us Q I r h
 obtain ⟨i,j,rfl,q⟩:=h
 obtain ⟨u,w',rfl,⟨t,rfl⟩,⟨t',rfl⟩⟩:=vals2 r
 refine min_two_ints (I.ok.hd hc) fun h' tk k=>⟨_,H,I.kept k,?_,q⟩
 by_cases hj:j<i
 ·rw [if_pos hj,if_pos hj];exact ⟨_,rfl⟩
 ·rw [if_neg hj,if_neg hj];exact ⟨_,rfl⟩
end
end L2
namespace L2
open PySem PySem.Spec PyProof.Rows
structure ObjM (h:Heap) (x dx C:Addr) (mA:Str→Option Value):Prop where
 obj:h.get? x=some (PySem.W.instObj C dx)
 ns:h.Ns1 dx mA
 ne:dx≠x
theorem lookIn_ns {h:Heap} {dx:Addr} {mA:Str→Option Value} (n:h.Ns1 dx mA):∃od,h.get? dx=some od∧∀name,PySem.W.lookIn name od=some (mA name):=by
 obtain ⟨o,es,ep,ho,hd,hk,_,hm⟩:=n
 refine ⟨o,ho,fun name=>?_⟩
 have e:=hm name
 unfold nsFind findBy at e
 rw [←Array.find?_toList] at e
 unfold PySem.W.lookIn
 rw [hd]
 dsimp only
 split
 ·rename_i y q
  rw [q] at e
  exact congrArg some e
 ·rename_i q
  rw [q] at e
  have a:es.toList.any (·.refKey)=false:=by
   rw [List.any_eq_false]
   intro y hy
   obtain ⟨z,t,hkey⟩:=hk y (Array.mem_toList_iff.mp hy)
   simp [DictEntry.refKey,hkey]
  have a':¬es.toList.any (·.refKey)=true:=by rw [a];exact Bool.false_ne_true
  rw [if_neg a']
  exact congrArg some e
theorem ObjM.look {h:Heap} {x dx C:Addr} {mA:Str→Option Value} (I:ObjM h x dx C mA):∃od,PySem.W.InstAt h x (PySem.W.instObj C dx) C (some od)∧∀name,PySem.W.lookIn name od=some (mA name):=
 let ⟨od,ho,hl⟩:=lookIn_ns I.ns
 ⟨od,⟨I.obj,rfl,rfl,ho⟩,hl⟩
section
variable {prog:Program} {w:World} {A:Around} {E:Value→Shared→Prop} {s:Shared} {K:PySem.W.Frag} {x dx C f:Addr} {mA:Str→Option Value} {name:Str} {v:Value}
end
theorem RelO.some_of {v:V} {o:Option Value} (r:RelO (some v) o):∃u,o=some u∧RelV v u:=by
 cases o with
 | none=>exact (show False from r).elim
 | some u=>exact ⟨u,rfl,r⟩
section
variable {P:Program} {w:World} {H H':Hp} {h h':Heap} {a C dx:Addr} {fs fs':List (Str×V)}
theorem ins_get (hok:HOk P w H h) (e:H a=some (.ins C dx fs)):∃mA,ObjM h a dx C mA∧(∀f,RelO (fs.lookup f) (mA f))∧PySem.Within mA (fs.map (·.1))∧fs.length≤1000∧H dx=some (.own a):=by
 obtain ⟨d,z,ne,ob,mA,n,r,q⟩:=(show ObjOk P w H h a (.ins C dx fs) from hok a _ e)
 exact ⟨mA,⟨ob,n,ne⟩,r,q,z,d⟩
end
structure Cls (K:PySem.W.Frag) (C:Addr):Prop where
 pg:PySem.W.plainGet K C Str.empty=true
 hd:PySem.W.hasDictIn K C=true
 po:PySem.W.plainOver K C=true
 sa:PySem.W.findIn K (.ref C) "__setattr__" = some (some (.builtin "object.__setattr__"))
theorem Cls.get {K:PySem.W.Frag} {C:Addr} (c:Cls K C) (f:Str):PySem.W.plainGet K C f=true:=c.pg
section
variable {X:Cx} {pins:List (Addr×Obj)} {σ:St} {H:Hp} {s:Shared} {a C dx:Addr} {fs:List (Str×V)} {f:Str} {v:V} {A:Around} {E:Value→Shared→Prop}
end
section
variable {X:Cx} {o e value:Expr} {f:Str} {pos pos' tpos:Pos} {ta tv:TE}
end
section
variable {X:Cx} {pins:List (Addr×Obj)} {σ:St} {H:Hp} {s:Shared} {A:Around} {E:Value→Shared→Prop} {Q:Value→Shared→Prop} {c:Value} {b:Bool}
inductive TyOf (K:PySem.W.Frag) (H:Hp):V→Value→Prop where
 | non:TyOf K H .non (.type "NoneType")
 | bl (x:Bool):TyOf K H (.bl x) (.type "bool")
 | int (i:Int):TyOf K H (.int i) (.type "int")
 | str (x:Str):TyOf K H (.str x) (.type "str")
 | flt (x:UInt64):TyOf K H (.flt x) (.type "float")
 | lst {a:Addr} {xs:List V} (e:H a=some (.lst xs)):TyOf K H (.ref a) (.type "list")
 | frz {a:Addr} {o:Obj} {xs:List V} (e:H a=some (.frz o (.lst xs))):TyOf K H (.ref a) (.type "list")
 | tup {a:Addr} {xs:List V} (e:H a=some (.tup xs)):TyOf K H (.ref a) (.type "tuple")
 | dK {a:Addr} {kvs:List (Key×V)} (e:H a=some (.dK kvs)):TyOf K H (.ref a) (.type "dict")
 | dT {a:Addr} {kvs:List (List Key×V)} (e:H a=some (.dT kvs)):TyOf K H (.ref a) (.type "dict")
 | ins {a C dx:Addr} {fs:List (Str×V)} (e:H a=some (.ins C dx fs)) (cl:Cls K C) (ha:PySem.W.findIn K (.ref C) "__class__" = some (some (.builtin "object.__class__")))
   (hn:PySem.W.specialIn K (.builtin "object.__class__") "__get__" = some (some (.builtin "getset_descriptor.__get__"))) (htk:PySem.W.takesIn K (.builtin "object.__class__")=some true)
   (hm:PySem.W.mroIn K C (.type "object")=some true):TyOf K H (.ref a) (.ref C)
theorem isinst_ok {x:V} {u t:Value} (I:Inv X pins σ H s) (rx:RelV x u) (ty:TyOf X.K H x t) (e:PySem.W.kitOne X.K t c=some b) (h:∀tk,Q (.bool b) { s with toks:=tk }) :
  wpAny (model X.prog X.w) A (call (.builtin "isinstance") [u,c]) Q E s:=by
 cases ty with
 | non=>cases (show u=Value.none from rx);exact PySem.W.kia_one PySem.W.kitx_none I.kIn True.intro e (fun z=>nomatch z) h
 | bl y=>cases (show u=Value.bool y from rx);exact PySem.W.kia_one PySem.W.kitx_bool I.kIn True.intro e (fun z=>nomatch z) h
 | int i=>obtain ⟨t,q⟩:=(show ∃t,u=Value.int i t from rx);cases q;exact PySem.W.kia_one PySem.W.kitx_int I.kIn True.intro e (fun z=>nomatch z) h
 | str y=>obtain ⟨t,q⟩:=(show ∃t,u=Value.str y t from rx);cases q;exact PySem.W.kia_one PySem.W.kitx_str I.kIn True.intro e (fun z=>nomatch z) h
 | flt y=>obtain ⟨t,q⟩:=(show ∃t,u=Value.float y t from rx);cases q;exact PySem.W.kia_one PySem.W.kitx_float I.kIn True.intro e (fun z=>nomatch z) h
 | @lst a xs ea=>
  cases (show u=Value.ref a from rx)
  obtain ⟨_,_,n,_,h1⟩:=(show ObjOk X.prog X.w H s.heap a (.lst xs) from I.hok a _ ea)
  exact PySem.W.kia_one PySem.W.kitx_list I.kIn ⟨_,h1,rfl⟩ e (fun z=>nomatch z) h
 | @frz a ob xs ea=>
  cases (show u=Value.ref a from rx)
  obtain ⟨_,_,_,n,_,h1⟩:=(show ObjOk X.prog X.w H s.heap a (.frz ob (.lst xs)) from I.hok a _ ea)
  exact PySem.W.kia_one PySem.W.kitx_list I.kIn ⟨_,h1,rfl⟩ e (fun z=>nomatch z) h
 | @tup a xs ea=>
  cases (show u=Value.ref a from rx)
  obtain ⟨_,_,_,p⟩:=(show ObjOk X.prog X.w H s.heap a (.tup xs) from I.hok a _ ea)
  obtain ⟨o,h1,h2,_⟩:=p
  exact PySem.W.kia_one PySem.W.kitx_tuple I.kIn ⟨o,h1,h2⟩ e (fun z=>nomatch z) h
 | @dK a kvs ea=>
  cases (show u=Value.ref a from rx)
  obtain ⟨_,_,vs,_,p⟩:=(show ObjOk X.prog X.w H s.heap a (.dK kvs) from I.hok a _ ea)
  obtain ⟨o,es,ep,h1,h2,_⟩:=p
  exact PySem.W.kia_one PySem.W.kitx_dict I.kIn ⟨o,h1,h2.1⟩ e (fun z=>nomatch z) h
 | @dT a kvs ea=>
  cases (show u=Value.ref a from rx)
  obtain ⟨_,_,xs,_,o,es,ep,h1,h2,_⟩:=(show ObjOk X.prog X.w H s.heap a (.dT kvs) from I.hok a _ ea)
  exact PySem.W.kia_one PySem.W.kitx_dict I.kIn ⟨o,h1,h2.1⟩ e (fun z=>nomatch z) h
 | @ins a C dx fs ea cl ha hn htk hm=>
  cases (show u=Value.ref a from rx)
  obtain ⟨mA,O,_⟩:=ins_get I.hok ea
  obtain ⟨od,J,_⟩:=O.look
  exact PySem.W.kia_one (PySem.W.kitx_own (cl.get _) cl.hd ha hn htk hm) I.kIn J e (fun z=>nomatch z) h
end
end L2
namespace L2
open PySem PySem.Spec PyProof.Rows
structure Room (k:Nat) (A:Around):Prop where
 hd:A.handled=none
 dp:A.depth+3*k+5<recursionLimit
 un:A.units+16*k+200<cLine
 gd:A.guards=some []
theorem Room.mono {j k:Nat} {A:Around} (r:Room k A) (h:j≤k):Room j A:=⟨r.hd,by have:=r.dp;omega,by have:=r.un;omega,r.gd⟩
theorem Room.deeper {k:Nat} {A:Around} (r:Room (k+1) A) (env:Env):Room k (A.deeper env):=
 ⟨r.hd,by have:=r.dp;show A.depth+1+3*k+5<_;omega,by have:=r.un;show A.units+3+16*k+200<_;omega,r.gd⟩
theorem Room.depth {k:Nat} {A:Around} (r:Room k A):A.depth<recursionLimit:=by have:=r.dp;omega
theorem Room.units {k:Nat} {A:Around} (r:Room k A):A.units+64<cLine:=by have:=r.un;omega
theorem Room.units0 {k:Nat} {A:Around} (r:Room k A):A.units<cLine:=by have:=r.un;omega
noncomputable def tNil:TA:=fun _ H Q=>Q [] H
noncomputable def tCons (ta:TE) (tr:TA):TA:=fun σ H Q=>ta σ H fun x H1=>tr σ H1 fun xs H2=>Q (x::xs) H2
section
variable {X:Cx} {e:Expr} {es:List Expr} {te:TE} {t:TA} {pos:Pos}
theorem pa_nil:PA X [] tNil:=fun _ _ _ _ H Q I h=>Calls.spliced_nil ⟨[],H,I,.nil,h⟩
theorem pa_cons (ha:PE X e te) (hr:PA X es t) (hs:starEach (e::es) X.env=(false,eval e X.env)::starEach es X.env:=by rfl):PA X (e::es) (tCons te t):=by
 intro pos pins s σ H Q I h
 rw [hs]
 show wpAny _ _ (spliced ((false,eval e X.env)::backTo pos (starEach es X.env))) _ _ s
 refine Calls.spliced_cons (thn (ha pins s σ H _ I h) fun u s1 ⟨x,H1,I1,r1,q1⟩=>?_)
 exact thn (hr pos pins s1 σ H1 _ I1 q1) fun us s2 ⟨xs,H2,I2,r2,q2⟩=>⟨x::xs,H2,I2,.cons r1 r2,q2⟩
noncomputable def tTup (t:TA):TE:=fun σ H Q=>t σ H fun xs H1=>xs.length≤sizeLine∧∀p,H1 p=none→Q (.ref p) (upd H1 p (.tup xs))
noncomputable def tLst (t:TA):TE:=fun σ H Q=>t σ H fun xs H1=>xs.length≤sizeLine∧∀p,H1 p=none→Q (.ref p) (upd H1 p (.lst xs))
theorem pe_tup {x1} (h:PA X es t):PE X (.Tuple es x1 pos) (tTup t):=by
 intro pins s σ H Q I hq
 refine wpAny_Tuple_spliced (thn (h pos pins s σ H _ I hq) fun us s1 ⟨xs,H1,I1,r,z,q⟩=>⟨by rw [←r.length];exact z,?_⟩)
 have hf:H1 s1.heap.objs.size=none:=I1.hok.fresh (Nat.le_refl _)
 refine ⟨.ref s1.heap.objs.size,upd H1 s1.heap.objs.size (.tup xs),I1.laid (t':=s1.toks) (fun b u e=>Heap.get?_push_of_some _ e) (Nat.le_refl _) ?_,rfl,q _ hf⟩
 exact ⟨z,us,r,⟨_,Heap.get?_push_size _ rfl,rfl,_,rfl⟩⟩
theorem pe_lst (h:PA X es t):PE X (.List es pos) (tLst t):=by
 intro pins s σ H Q I hq
 refine wpAny_List_spliced (thn (h pos pins s σ H _ I hq) fun us s1 ⟨xs,H1,I1,r,z,q⟩=>⟨by rw [←r.length];exact z,?_⟩)
 have hf:H1 s1.heap.objs.size=none:=I1.hok.fresh (Nat.le_refl _)
 refine ⟨.ref s1.heap.objs.size,upd H1 s1.heap.objs.size (.lst xs),I1.laid (t':=s1.toks) (fun b u e=>Heap.get?_push_of_some _ e) (Nat.le_refl _) ?_,rfl,q _ hf⟩
 exact ⟨z,us,0,r,Heap.get?_push_size _ rfl⟩
end
noncomputable abbrev Sp:=List V→Hp→VK→XK→Prop
noncomputable abbrev CXT:=List Env→Hp→Shared→XK→Value→Shared→Prop
structure Env0 (P:Program) (w:World) (K:PySem.W.Frag) (mg:Str→Option Value) (base:Heap) (A:Around) (outer:List Env) (s:Shared) (H:Hp):Prop where
 frames:A.frames=some outer
 mod:Mod K mg base
 bs:∀b o,base.get? b=some o→s.heap.get? b=some o∧H b=none
 bsz:base.objs.size≤s.heap.objs.size
 funs:s.heap.FunFrames base outer
 frf:∀b∈frs outer,H b=none
 hok:HOk P w H s.heap
 bare:AllBare s.gens
noncomputable def CE (outer:List Env) (P:Program) (w:World) (H:Hp) (s:Shared) (Q:VK) (u:Value) (s':Shared):Prop:=
 ∃v H',s'.os=s.os∧AllBare s'.gens∧Un (frs outer) [] H H' s.heap s'.heap∧HOk P w H' s'.heap∧RelV v u∧Q v H'
noncomputable def CR (CX:CXT) (outer:List Env) (P:Program) (w:World) (H:Hp) (s:Shared) (Q:VK) (E:XK) (r:Result) (s':Shared):Prop:=
 match r with
 | .ok (.ret u)=>CE outer P w H s Q u s'
 | .ok _=>False
 | .error e=>CX outer H s E e s'
structure FnOk (P:Program) (w:World) (K:PySem.W.Frag) (mg:Str→Option Value) (base:Heap) (CX:CXT) (k:Nat) (f:Addr) (fd:FuncData) (ps:List Str) (sp:Sp):Prop where
 len:∀vs H Q E,sp vs H Q E→vs.length=ps.length
 run:∀(A:Around) (outer:List Env) (s:Shared) (H:Hp) (args:Args) (us:List Value) (vs:List V) (Q:VK) (E:XK),Room k A→Env0 P w K mg base A outer s H→BindsTo s fd args (ps.zip us)→Vals vs us→sp vs H Q E→
  codeAny (model P w) A (.call (.ref f) args) (CR CX outer P w H s Q E) s
theorem FnOk.mono {P:Program} {w:World} {K:PySem.W.Frag} {mg:Str→Option Value} {base:Heap} {CX:CXT} {j k:Nat} {f:Addr} {fd:FuncData} {ps:List Str} {sp:Sp} (F:FnOk P w K mg base CX j f fd ps sp) (h:j≤k) :
  FnOk P w K mg base CX k f fd ps sp:=⟨F.len,fun A outer s H args us vs Q E hr=>F.run A outer s H args us vs Q E (hr.mono h)⟩
theorem FnOk.imp {P:Program} {w:World} {K:PySem.W.Frag} {mg:Str→Option Value} {base:Heap} {CX:CXT} {k:Nat} {f:Addr} {fd:FuncData} {ps:List Str} {sp sp':Sp} (F:FnOk P w K mg base CX k f fd ps sp)
  (h:∀vs H Q E,sp' vs H Q E→sp vs H Q E):FnOk P w K mg base CX k f fd ps sp':=
 ⟨fun vs H Q E q=>F.len vs H Q E (h _ _ _ _ q),fun A outer s H args us vs Q E hr he hb hv hs=>F.run A outer s H args us vs Q E hr he hb hv (h _ _ _ _ hs)⟩
section
variable {X:Cx} {pins:List (Addr×Obj)} {σ:St} {H:Hp} {s s':Shared}
theorem Inv.env0 (I:Inv X pins σ H s):Env0 X.prog X.w X.K X.mg X.base X.A X.stack s H:=
 ⟨I.ok.frames,I.ok.mod,I.bs,Nat.le_trans I.ok.bsz I.sz,I.stack,I.stkFree,I.hok,I.bare⟩
theorem Inv.after {Q:VK} {u:Value} (I:Inv X pins σ H s) (h:CE X.stack X.prog X.w H s Q u s'):EP X pins σ Q u s':=by
 obtain ⟨v,H',os,bare,un,hok,r,q⟩:=h
 obtain ⟨hh,g,d,t,os'⟩:=s'
 obtain rfl:os'=s.os:=os
 exact ⟨v,H',I.call (h':=hh) (g':=g) (d':=d) (t':=t) (ch:=[]) un hok bare (fun b z=>absurd z (by simp)),r,q⟩
end
noncomputable def tCall (sp:Sp) (dvs:List V) (E:XK) (t:TA):TE:=fun σ H Q=>t σ H fun vs H1=>sp (vs++dvs) H1 Q E
noncomputable def Binds (K:PySem.W.Frag) (fd:FuncData) (ps:List Str) (ds:List Value):Prop:=
 ∀(s:Shared) (us:List Value),K.In s.heap→(us++ds).length=ps.length→BindsTo s fd ⟨us,[]⟩ (ps.zip (us++ds))
theorem Binds.all {K:PySem.W.Frag} {fd:FuncData} {ps:List Str} (h:∀us:List Value,us.length=ps.length→bindArgs fd ⟨us,[]⟩=pure (ps.zip us)):Binds K fd ps []:=fun s us _ hl=>by
 rw [List.append_nil] at hl ⊢
 exact .of_eq (h us hl)
noncomputable def Passes (CX:CXT) (X:Cx) (E:XK):Prop:=∀(pins:List (Addr×Obj)) (σ:St) (H:Hp) (s:Shared) (e:Value) (s':Shared),Inv X pins σ H s→CX X.stack H s E e s'→X.xe e s'
section
variable {X:Cx} {CX:CXT} {k:Nat} {f C:Addr} {fd:FuncData} {ps:List Str} {sp:Sp} {dvs:List V} {ds:List Value} {E:XK} {x m:Str} {p pos apos:Pos} {e o:Expr} {es:List Expr} {ta:TE} {t:TA}
theorem run_fn {pins:List (Addr×Obj)} {σ:St} {H:Hp} {s:Shared} {Q:VK} {us:List Value} {vs:List V} (F:FnOk X.prog X.w X.K X.mg X.base CX k f fd ps sp) (hr:Room k X.A) (hb:Binds X.K fd ps ds) (hd:Vals dvs ds) (hx:Passes CX X E)
  (I:Inv X pins σ H s) (r:Vals vs us) (h:sp (vs++dvs) H Q E):wpAny (model X.prog X.w) X.A (call (.ref f) us) (EP X pins σ Q) X.xe s:=by
 have r2:Vals (vs++dvs) (us++ds):=r.append hd
 have hl:(us++ds).length=ps.length:=by rw [←r2.length];exact F.len _ _ _ _ h
 refine wpAny_call (codeAny_mono (F.run X.A X.stack s H ⟨us,[]⟩ (us++ds) (vs++dvs) Q E hr I.env0 (hb s us I.kIn hl) r2 h) fun r s' hq=>?_)
 cases r with
 | error e=>exact hx pins σ H s e s' I hq
 | ok fl=>
  cases fl with
  | ret u=>exact I.after hq
  | next=>exact False.elim hq
  | brk=>exact False.elim hq
  | cont=>exact False.elim hq
theorem pe_call (F:FnOk X.prog X.w X.K X.mg X.base CX k f fd ps sp) (hr:Room k X.A) (hg:Gl X x) (hm:X.mg x=some (.ref f)) (hk:PySem.W.keepIn X.K (.ref f)=true) (hb:Binds X.K fd ps ds) (hd:Vals dvs ds) (hx:Passes CX X E)
  (ha:PA X (e::es) t) (hdb:(x==("__debug__" : Str))=false:=by decide) (he:starEach (e::es) X.env=(false,eval e X.env)::starEach es X.env:=by rfl) (hpl:(backTo pos (starEach es X.env)).any (·.1)=false:=by rfl) :
  PE X (.Call (.Name x p) (e::es) [] pos) (tCall sp dvs E t):=by
 intro pins s σ H Q I h
 refine wpAny_Call_Name_kw (ld_glob I hg hm ?_ hdb)
 refine PySem.W.callWith_K (h₀:=X.base) I.ok.mod.kin hk (thn (ha pos pins s σ H _ I h) fun us s1 ⟨vs,H1,I1,r,q⟩=>⟨I1.kIn,?_⟩) he hpl
 exact run_fn F hr hb hd hx I1 r q
end
section
variable {X:Cx} {CX:CXT} {k:Nat} {f C:Addr} {fd:FuncData} {ps ks:List Str} {sp:Sp} {E:XK} {x m:Str} {p pos apos kpos:Pos} {e o:Expr} {es:List Expr} {kws:List Keyword} {te ta:TE} {t tk:TA} {nm:Option Str}
variable {g:List Value→List Value→List Value} {gV:List V→List V→List V}
end
structure FnScope (N P:List Str) (sc:Scope):Prop where
 kind:sc.kind=.function
 co:sc.isCoroutine=false
 gen:sc.isGenerator=false
 nd:N.Nodup
 pre:N.take P.length=P
 par:∀x∈P,sc.names.lookup x=some .local∨sc.names.lookup x=some .cell
 nofree:∀y∈sc.names,y.2≠.free
theorem bindL_out {kindOf:Str→Option NameKind} {x:Str}:∀{binds:List (Str×Value)} {m:Str→Option Value},(∀v,(x,v)∉binds)→bindL kindOf binds m x=m x
 | [],_,_=>rfl
 | (n,v)::r,m,h=>by
  unfold bindL
  rw [bindL_out fun w hw=>h w (List.mem_cons_of_mem _ hw)]
  split
  ·have:x≠n:=by rintro rfl;exact h v List.mem_cons_self
   simp [this]
  ·rfl
theorem bindC_out {kindOf:Str→Option NameKind} {x:Str}:∀{binds:List (Str×Value)} {m:Str→Option Value},(∀v,(x,v)∉binds)→bindC kindOf binds m x=m x
 | [],_,_=>rfl
 | (n,v)::r,m,h=>by
  unfold bindC
  rw [bindC_out fun w hw=>h w (List.mem_cons_of_mem _ hw)]
  split
  ·rfl
  ·have:x≠n:=by rintro rfl;exact h v List.mem_cons_self
   simp [this]
theorem bindL_get {kindOf:Str→Option NameKind} {x:Str} {v:Value}:∀{P:List Str} {vs:List Value} {i:Nat} {m:Str→Option Value},P.Nodup→P[i]?=some x→vs[i]?=some v→kindOf x=some .local→
  bindL kindOf (P.zip vs) m x=some v
 | [],_,_,_,_,h,_,_=>by simp at h
 | _::_,[],_,_,_,_,h,_=>by simp at h
 | p::P,w::vs,0,m,nd,h1,h2,hk=>by
  simp at h1 h2;subst h1;subst h2
  show bindL kindOf ((p,w)::P.zip vs) m p=_
  unfold bindL
  rw [bindL_out fun v hv=>(List.nodup_cons.mp nd).1 (List.of_mem_zip hv).1,if_pos hk]
  simp
 | p::P,w::vs,i+1,m,nd,h1,h2,hk=>by
  show bindL kindOf ((p,w)::P.zip vs) m x=_
  unfold bindL
  exact bindL_get (i:=i) (List.nodup_cons.mp nd).2 (by simpa using h1) (by simpa using h2) hk
theorem bindC_get {kindOf:Str→Option NameKind} {x:Str} {v:Value}:∀{P:List Str} {vs:List Value} {i:Nat} {m:Str→Option Value},P.Nodup→P[i]?=some x→vs[i]?=some v→kindOf x≠some .local→
  bindC kindOf (P.zip vs) m x=some v
 | [],_,_,_,_,h,_,_=>by simp at h
 | _::_,[],_,_,_,_,h,_=>by simp at h
 | p::P,w::vs,0,m,nd,h1,h2,hk=>by
  simp at h1 h2;subst h1;subst h2
  show bindC kindOf ((p,w)::P.zip vs) m p=_
  unfold bindC
  rw [bindC_out fun v hv=>(List.nodup_cons.mp nd).1 (List.of_mem_zip hv).1,if_neg hk]
  simp
 | p::P,w::vs,i+1,m,nd,h1,h2,hk=>by
  show bindC kindOf ((p,w)::P.zip vs) m x=_
  unfold bindC
  exact bindC_get (i:=i) (List.nodup_cons.mp nd).2 (by simpa using h1) (by simpa using h2) hk
noncomputable def start (N:List Str) (vs:List V):St:=vs.map some++List.replicate (N.length-vs.length) none
noncomputable def cxOf (CX:CXT) (P:Program) (w:World) (K:PySem.W.Frag) (mg:Str→Option Value) (base:Heap) (N:List Str) (qual:Str) (scope:Scope) (f:Addr) (cd:Value) (A:Around) (outer:List Env) (s:Shared) (H:Hp) (E:XK):Cx where
 prog:=P
 w:=w
 K:=K
 mg:=mg
 base:=base
 A:=A.deeper (envOfC qual scope s.heap.objs.size f cd)
 N:=N
 s₀:=s
 H₀:=H
 env:=envOfC qual scope s.heap.objs.size f cd
 outer:=outer
 stack:=envOfC qual scope s.heap.objs.size f cd::outer
 ex:=[]
 calm:=true
 fn:=fun _=>true
 pn:=[]
 xe:=fun e s'=>wpAny (model P w) (A.deeper (envOfC qual scope s.heap.objs.size f cd)) (leaving (envOfC qual scope s.heap.objs.size f cd) e) (fun _ s''=>CX outer H s E e s'') (fun e' s''=>CX outer H s E e' s'') s'
theorem cell_has {sc:Scope} {n:Nat} {x:Str} (h:sc.names.lookup x=some .cell):∃c,(cellsFrom n sc.names []).lookup x=some c:=by
 have q:=PySem.W.cellsFrom_some sc.names n [] (.inl h)
 exact Option.isSome_iff_exists.mp q
theorem inv_start {CX:CXT} {P:Program} {w:World} {K:PySem.W.Frag} {mg:Str→Option Value} {base:Heap} {N ps:List Str} {qual:Str} {scope:Scope} {f:Addr} {cd:Value} {A:Around} {outer:List Env} {s s1:Shared} {H:Hp} {E:XK} {us:List Value} {vs:List V}
  (S:FnScope N ps scope) (hd:A.handled=none) (e0:Env0 P w K mg base A outer s H) (hl:vs.length=ps.length) (r:Vals vs us)
  (x:InCallC s s.heap.objs.size (bindL (envOfC qual scope s.heap.objs.size f cd).kindOf (ps.zip us) fun _=>none) (cellsFrom (s.heap.objs.size+1) scope.names []) (bindC (envOfC qual scope s.heap.objs.size f cd).kindOf (ps.zip us) fun _=>none) s1) :
  Inv (cxOf CX P w K mg base N qual scope f cd A outer s H E) [] (start N vs) H s1:=by
 have hpl:ps.length≤N.length:=by have:=congrArg List.length S.pre;rw [List.length_take] at this;omega
 obtain ⟨h1,tk,rfl,hk⟩:=x.done
 have noA:∀b:Addr,b∉(cxOf CX P w K mg base N qual scope f cd A outer s H E).ex:=fun b z=>absurd (show b∈([]:List Addr) from z) (by simp)
 refine ⟨⟨e0.mod,S.kind,rfl,rfl,Nat.le_refl _,fun y z c h1 h2=>?_,fun y hy=>?_,fun y c _ h=>?_,fun _=>hd,Around.frames_deeper e0.frames,.inr ⟨rfl,rfl⟩,fun b z=>absurd z (noA b),e0.bs,e0.bsz,fun b _ _=>noA b,fun b z=>absurd z (noA b),e0.funs,e0.frf⟩,
  rfl,e0.bare,Un.kept hk,⟨_,x.toInCall.ns,fun i y v h1 h2 h3=>?_⟩,fun y c h=>⟨_,x.cell y c h⟩,e0.hok.fresh (Nat.le_refl _),fun y c h=>?_,fun p hp=>absurd (show p∈([]:List (Addr×Obj)) from hp) (by simp),e0.hok.kept hk,?_⟩
 ·exact name_of_addr x.apart (PySem.mem_of_lookup h1) (PySem.mem_of_lookup h2)
 ·have hy:scope.names.lookup y=some .cell∨scope.names.lookup y=some .free:=hy
  rcases hy with hy | hy
  ·exact cell_has hy
  ·exact absurd rfl (S.nofree _ (PySem.mem_of_lookup hy))
 ·exact Nat.le_of_lt (x.above y c (PySem.mem_of_lookup h))
 ·have hi:i<vs.length:=by
   unfold start at h2
   by_cases hi:i<vs.length
   ·exact hi
   ·rw [List.getElem?_append_right (by simpa using hi)] at h2
    rw [List.getElem?_replicate] at h2
    split at h2 <;> cases h2
  have ha:vs[i]?=some v:=by
   unfold start at h2
   rw [List.getElem?_append_left (by simpa using hi),List.getElem?_map] at h2
   cases e:vs[i]? with
   | none=>rw [e] at h2;cases h2
   | some a=>rw [e] at h2;cases h2;rfl
  obtain ⟨u,hu,rv⟩:=r.get ha
  have hp:ps[i]?=some y:=by
   rw [←S.pre,List.getElem?_take_of_lt (by omega)];exact h1
  have ndP:ps.Nodup:=by rw [←S.pre];exact S.nd.sublist (List.take_sublist _ _)
  refine ⟨u,rv,?_⟩
  rcases S.par y (List.mem_of_getElem? hp) with k | k
  ·exact .inl ⟨k,bindL_get ndP hp hu k⟩
  ·obtain ⟨c,e⟩:=cell_has (n:=s.heap.objs.size+1) k
   refine .inr ⟨.inl k,c,e,?_⟩
   have q:=x.cell y c e
   rw [bindC_get ndP hp hu (by show scope.names.lookup y≠_;rw [k];decide)] at q
   exact q
 ·exact e0.hok.fresh (Nat.le_of_lt (x.above y c (PySem.mem_of_lookup h)))
 ·unfold start
  show _=N.length
  rw [List.length_append,List.length_map,List.length_replicate]
  omega
theorem fn_of {CX:CXT} {P:Program} {w:World} {K:PySem.W.Frag} {mg:Str→Option Value} {base:Heap} {k:Nat} {f:Addr} {name qual:Str} {params:Arguments} {body:List Stmt} {scope:Scope} {dV kV doc pm cdv ct oc:Value} {an od:Option Addr}
  {osl:Array (Option Value)} {N ps:List Str} {sp:Sp} (lk:K.lookup f=some ⟨oc,od,.func (PySem.W.fnOf name qual params body scope dV kV doc pm an cdv ct),osl⟩) (hcd:PySem.W.codeIn K cdv qual=true) (S:FnScope N ps scope)
  (len:∀vs H Q E,sp vs H Q E→vs.length=ps.length)
  (hbody:∀(A:Around) (outer:List Env) (s:Shared) (H:Hp) (vs:List V) (Q:VK) (E:XK),Room k (A.deeper (envOfC qual scope s.heap.objs.size f cdv))→sp vs H Q E→
   ∃t,PSs (cxOf CX P w K mg base N qual scope f cdv A outer s H E) body t∧t { nx:=fun _ H'=>Q .non H',rt:=Q } (start N vs) H) :
  FnOk P w K mg base CX (k+1) f (PySem.W.fnOf name qual params body scope dV kV doc pm an cdv ct) ps sp:=by
 refine ⟨len,fun A outer s H args us vs Q E hr e0 hb r hsp=>?_⟩
 have hl:=len _ _ _ _ hsp
 have KX:K.In s.heap:=e0.mod.kin.keeps fun b o e=>(e0.bs b o e).1
 have lim:s.heap.NoLimit:=e0.mod.nolimit.keeps fun b o e=>(e0.bs b o e).1
 have hkind:∀y∈ps.zip us,scope.names.lookup y.1=some .local∨(scope.names.lookup y.1=some .cell∧((cellsFrom (s.heap.objs.size+1) scope.names []).lookup y.1).isSome=true):=fun ⟨n,v⟩ hy=>by
  rcases S.par n (List.of_mem_zip hy).1 with q | q
  ·exact .inl q
  ·exact .inr ⟨q,PySem.W.cellsFrom_some _ _ _ (.inl q)⟩
 refine codeAny_call_function hr.depth (KX _ _ lk) rfl S.co S.gen rfl (PySem.W.codeRec_of KX hcd) (hb _ _ _ _ ?_)
 refine wpAny_newFunctionEnv_cells S.kind hkind fun env he s1 x=>?_
 subst he
 refine ⟨lim.keeps x.toInCall.keep,codeAny_func ?_⟩
 obtain ⟨t,ht,hq⟩:=hbody A outer s H vs Q E (hr.deeper _) hsp
 have I:Inv (cxOf CX P w K mg base N qual scope f cdv A outer s H E) [] (start N vs) H s1:=inv_start S hr.hd e0 hl r x
 refine wpAny_mono (ht [] s1 (start N vs) H _ I hq) (fun fl s' hs=>?_) fun e s' hs=>hs
 have fin:∀{σ':St} {H':Hp} {v:V} {u:Value},Inv (cxOf CX P w K mg base N qual scope f cdv A outer s H E) [] σ' H' s'→RelV v u→Q v H'→CE outer P w H s Q u s':=
  fun {σ' H' v u} J rv q=>⟨v,H',J.os,J.bare,J.base,J.hok,rv,q⟩
 cases fl with
 | ret u=>
  obtain ⟨v,σ',H',J,rv,q⟩:=hs
  exact fin J rv q
 | next=>
  obtain ⟨σ',H',J,q⟩:=hs
  exact fin (v:=V.non) (u:=Value.none) J rfl q
 | brk=>
  obtain ⟨_,_,_,q⟩:=hs
  exact False.elim q
 | cont=>
  obtain ⟨_,_,_,q⟩:=hs
  exact False.elim q
end L2
namespace L2
open PySem PySem.Spec PyProof.Rows
section
variable {X:Cx} {x:Str} {p pos:Pos} {e:Expr} {es:List Expr} {t:TA} {id T:String} {r:List V→Hp→VK→Prop}
noncomputable def tCB (r:List V→Hp→VK→Prop) (t:TA):TE:=fun σ H Q=>t σ H fun vs H1=>r vs H1 Q
theorem pe_callB (hc:CallR X (.builtin id) r) (hg:Gl X x) (hm:X.mg x=none) (hv:bootBuiltins x=some (.builtin id)) (ha:PA X (e::es) t) (hn:x≠"__name__":=by decide) (hdb:(x==("__debug__" : Str))=false:=by decide)
  (he:starEach (e::es) X.env=(false,eval e X.env)::starEach es X.env:=by rfl) (hpl:(backTo pos (starEach es X.env)).any (·.1)=false:=by rfl):PE X (.Call (.Name x p) (e::es) [] pos) (tCB r t):=by
 intro pins s σ H Q I h
 refine wpAny_Call_Name_kw (ld_blt I hg hm hv ?_ hn hdb)
 exact PyProof.Rows.callWith_builtin1 (thn (ha pos pins s σ H _ I h) fun us s1 ⟨vs,H1,I1,r1,q1⟩=>hc pins s1 σ H1 vs us Q I1 r1 q1) he hpl
theorem pe_callTy (hc:CallR X (.type T) r) (hg:Gl X x) (hm:X.mg x=none) (hv:bootBuiltins x=some (.type T)) (ha:PA X (e::es) t) (hn:x≠"__name__":=by decide) (hdb:(x==("__debug__" : Str))=false:=by decide)
  (he:starEach (e::es) X.env=(false,eval e X.env)::starEach es X.env:=by rfl) (hpl:(backTo pos (starEach es X.env)).any (·.1)=false:=by rfl):PE X (.Call (.Name x p) (e::es) [] pos) (tCB r t):=by
 intro pins s σ H Q I h
 refine wpAny_Call_Name_kw (ld_blt I hg hm hv ?_ hn hdb)
 exact PyProof.Rows.callWith_type1 (thn (ha pos pins s σ H _ I h) fun us s1 ⟨vs,H1,I1,r1,q1⟩=>hc pins s1 σ H1 vs us Q I1 r1 q1) he hpl
end
end L2
namespace HT
open PySem PyProof.Rows
noncomputable def lexLt:List Int→List Int→Bool
 | [],[]=>false
 | [],_::_=>true
 | _::_,[]=>false
 | x::xs,y::ys=>if x=y then lexLt xs ys else decide (x<y)
theorem lexLt_cons (x y:Int) (xs ys:List Int):lexLt (x::xs) (y::ys)=if x=y then lexLt xs ys else decide (x<y):=rfl
theorem lexLt_nil_nil:lexLt [] []=false:=rfl
theorem lexLt_nil_cons (y:Int) (ys:List Int):lexLt [] (y::ys)=true:=rfl
theorem lexLt_cons_nil (x:Int) (xs:List Int):lexLt (x::xs) []=false:=rfl
theorem eqAt_int (A:Around) (s:Shared) (a:Int) (t:Tok) (c:Int) (u:Tok):∃e,SeqAt.EqAt A s (.int a t) (.int c u) e∧(e=true↔a=c):=
 ⟨(a==c),SeqAt.EqAt.int_int a t c u,by simp⟩
theorem rcLt_int (A:Around) (s:Shared) (a:Int) (t:Tok) (c:Int) (u:Tok) (prog:Program) (w:World) (E:Value→Shared→Prop) (Q:Value→Shared→Prop) (h:Q (.bool (decide (a<c))) s) :
  wpAny (model prog w) A (richCompare .Lt (.int a t) (.int c u)) Q E s:=
 (PyProof.Rows.lt_int h:wpAny (model prog w) A (compareOp .Lt (.int a t) (.int c u)) Q E s)
section
open PySem.SeqAt
open PySem.AutoSeq1 (wpAny_loadPart')
open PySem.MeetsSeq PySem.MeetsSeq2 PySem.MeetsSeq3
theorem tuple_lt_ints (l b:Addr) (items items2:Array Value) (n n2:Nat) (dd dd2:Option Addr) (sl sl2:Array (Option Value)) (ns ms:List Int) (hi:IntsAre items.toList ns) (hj:IntsAre items2.toList ms) :
  Meets (Builtin.«tuple.__lt__» ⟨[.ref l,.ref b],[]⟩)
   (fun _ R s=>s.heap.get? l=some { cls:=.type "tuple",dict:=dd,data:=.seq items n,slots:=sl }∧s.heap.get? b=some { cls:=.type "tuple",dict:=dd2,data:=.seq items2 n2,slots:=sl2 }∧
    R (.ok (.ret (.bool (lexLt ns ms)))) s):=
 .of_wp fun prog w A R s h=>by
  obtain ⟨hp,g,d,tk,os⟩:=s;obtain ⟨hl,hb,h⟩:=h
  have f2:=AutoSeq1.sub_tuple_tuple
  have z1:items.size=ns.length:=by rw [←hi.length];simp
  have z2:items2.size=ms.length:=by rw [←hj.length];simp
  wp_walk using wpAny_loadPart' hl,wpAny_loadPart' hb,wpAny_forIn_list _ (fun rest b s'=>b.1=none∧s'=⟨hp,g,d,tk,os⟩∧∃(vs ws:List Value) (ns' ms':List Int),rest=vs.zip ws∧
   IntsAre vs ns'∧IntsAre ws ms'∧ns'.length+items2.size=ms'.length+items.size∧R (.ok (.ret (.bool (lexLt ns' ms')))) ⟨hp,g,d,tk,os⟩) _
  case turn=>
   rintro ⟨y,x⟩ rest b s' ⟨hb',rfl,vs,ws,ns',ms',hz,hvi,hwi,hlen,hR⟩
   cases hvi with
   | nil=>rw [List.zip_nil_left] at hz;cases hz
   | cons a t hvi'=>
    cases hwi with
    | nil=>rw [List.zip_nil_right] at hz;cases hz
    | cons c u hwi'=>
     rw [List.zip_cons_cons] at hz
     injection hz with hyx hrest
     injection hyx with hy hx
     subst hy hx
     rw [lexLt_cons] at hR
     simp only [List.length_cons] at hlen
     obtain ⟨e,he,hiff⟩:=eqAt_int A.in1 ⟨hp,g,d,tk,os⟩ a t c u
     refine wpAny_bind (he prog w _ _ ?_)
     cases e with
     | true=>
      rw [if_pos (hiff.mp rfl)] at hR
      wp_walk
      exact ⟨rfl,rfl,_,_,_,_,hrest,hvi',hwi',by omega,hR⟩
     | false=>
      rw [if_neg (fun q=>absurd (hiff.mpr q) Bool.false_ne_true)] at hR
      have hri:=rcLt_int A.in1 ⟨hp,g,d,tk,os⟩ a t c u prog w
      wp_walk using hri
      exact ⟨_,rfl,by simpa using hR⟩
  case fin=>
   rintro ⟨b1,b2⟩ s' ⟨hb',rfl,vs,ws,ns',ms',hz,hvi,hwi,hlen,hR⟩
   simp only at hb'
   subst hb'
   have hv:lexLt ns' ms'=decide (items.size<items2.size):=by
    cases hvi with
    | nil=>
     cases hwi with
     | nil=>
      simp only [List.length_nil] at hlen
      rw [lexLt_nil_nil]
      exact (decide_eq_false (by omega)).symm
     | cons c u hw=>
      simp only [List.length_nil,List.length_cons] at hlen
      rw [lexLt_nil_cons]
      exact (decide_eq_true (by omega)).symm
    | cons a t hv=>
     cases hwi with
     | nil=>
      simp only [List.length_nil,List.length_cons] at hlen
      rw [lexLt_cons_nil]
      exact (decide_eq_false (by omega)).symm
     | cons c u hw=>
      rw [List.zip_cons_cons] at hz
      cases hz
   rw [hv] at hR
   wp_walk
   exact ⟨_,rfl,by simpa [Builtin.Tuple.tupleCompareSizes] using hR⟩
  case h=>
   exact ⟨rfl,rfl,items.toList,items2.toList,ns,ms,rfl,hi,hj,by omega,h⟩
end
section
variable {prog:Program} {w:World} {A:Around} {E:Value→Shared→Prop} {s:Shared}
theorem lt_tupInts {l b:Addr} {items items2:Array Value} {ns ms:List Int} {Q:Value→Shared→Prop} (hl:IsTup s.heap l items) (hb:IsTup s.heap b items2) (hi:IntsAre items.toList ns) (hj:IntsAre items2.toList ms)
  (hu:A.units<cLine) (h:Q (.bool (lexLt ns ms)) s):wpAny (model prog w) A (compareOp .Lt (.ref l) (.ref b)) Q E s:=by
 obtain ⟨⟨cls,dd,data,sl⟩,ho,hc,n,hd⟩:=id hl
 obtain ⟨⟨cls2,dd2,data2,sl2⟩,ho2,hc2,n2,hd2⟩:=id hb
 simp only at hc hd hc2 hd2
 subst hc hd hc2 hd2
 exact richCompare_meets_room (op:=.Lt) ⟨_,ho,rfl⟩ ⟨_,ho2,rfl⟩ PySem.F.slot_tuple_lt PySem.F.entry_tuple_lt (PySem.F.args_tuple_lt_2 _ _) (tuple_lt_ints l b items items2 n n2 dd dd2 sl sl2 ns ms hi hj)
  ⟨ho,ho2,show Value.bool (lexLt ns ms)≠Value.notImplemented∧Q (.bool (lexLt ns ms)) s from ⟨(fun x=>nomatch x),h⟩⟩ hu
theorem cat_tup {t b:Addr} {vs ws:List Value} {Q:Value→Shared→Prop} (ht:IsTup s.heap t vs.toArray) (hb:IsTup s.heap b ws.toArray) (hv:vs≠[])
  (h1:ws=[]→Q (.ref t) s) (h2:ws≠[]→Q (.ref s.heap.objs.size) { s with heap:=s.heap.push { cls:=.type "tuple",data:=.seq (vs++ws).toArray } })
  (hsz:vs.length+ws.length≤sizeLine):wpAny (model prog w) A (binaryOp .Add (.ref t) (.ref b)) Q E s:=by
 obtain ⟨⟨cls,dd,data,sl⟩,ho,hc,n,hd⟩:=id ht
 obtain ⟨⟨cls2,dd2,data2,sl2⟩,ho2,hc2,n2,hd2⟩:=id hb
 simp only at hc hd hc2 hd2
 subst hc hd hc2 hd2
 have e:vs.toArray++ws.toArray=(vs++ws).toArray:=by simp
 by_cases hw:ws=[]
 ·exact concat_meets ⟨_,ho,rfl⟩ ⟨_,ho2,rfl⟩ noFill_tuple_add seq_tuple_add PySem.F.slot_tuple_add PySem.F.entry_tuple_add (PySem.F.args_tuple_add_2 _ _)
   (tuple_addW1 t b vs.toArray ws.toArray n n2 dd dd2 sl sl2 (by simpa using hv) (by simp [hw])) ⟨ho,ho2,h1 hw⟩
 ·refine concat_meets ⟨_,ho,rfl⟩ ⟨_,ho2,rfl⟩ noFill_tuple_add seq_tuple_add PySem.F.slot_tuple_add PySem.F.entry_tuple_add (PySem.F.args_tuple_add_2 _ _)
   (tuple_addW2 t b vs.toArray ws.toArray n n2 dd dd2 sl sl2 (by simpa using hv) (by simpa using hw) (by rw [List.size_toArray,List.size_toArray];exact hsz)) ⟨ho,ho2,?_⟩
  rw [e]
  exact h2 hw
end
end HT
namespace L2
open PySem PySem.Spec PyProof.Rows
theorem intsAre_of {ns:List Int}:∀{us:List Value},Vals (ns.map V.int) us→IntsAre us ns:=by
 induction ns with
 | nil=>intro us r;rw [List.map_nil] at r;cases r;exact .nil
 | cons n ns ih=>
  intro us r
  rw [List.map_cons] at r
  cases r with
  | cons r1 r2=>
   obtain ⟨t,e⟩:=r1
   subst e
   exact .cons n t (ih r2)
section
variable {X:Cx} {e:Expr} {te:TE} {lo hi:Option Expr} {tl th:TO} {pos p2:Pos}
noncomputable def rLtT (K:PySem.W.Frag):R2:=fun x y H Q=>∃a b ns ms,x=.ref a∧y=.ref b∧SqT K H a (ns.map V.int)∧SqT K H b (ms.map V.int)∧Q (.bl (HT.lexLt ns ms)) H
theorem op_ltT (hu:X.A.units<cLine):OpR X (compareOp .Lt) (rLtT X.K):=by
 intro pins s σ H x y v u Q I rx ry h
 obtain ⟨a,b,ns,ms,rfl,rfl,ha,hb,q⟩:=h
 cases rx
 cases ry
 obtain ⟨its,r1,p1,_⟩:=I.tuple ha
 obtain ⟨its2,r2,p2,_⟩:=I.tuple hb
 have i1:IntsAre its.toArray.toList ns:=intsAre_of r1
 have i2:IntsAre its2.toArray.toList ms:=intsAre_of r2
 exact HT.lt_tupInts p1 p2 i1 i2 hu ⟨.bl (HT.lexLt ns ms),H,I,rfl,q⟩
noncomputable def rCatT (K:PySem.W.Frag):R2:=fun x y H Q=>∃a b xs ys,x=.ref a∧y=.ref b∧SqT K H a xs∧SqT K H b ys∧xs≠[]∧xs.length+ys.length≤sizeLine∧
 (ys=[]→Q (.ref a) H)∧(ys≠[]→∀p,H p=none→Q (.ref p) (upd H p (.tup (xs++ys))))
theorem Vals.nil_iff {xs:List V} {us:List Value} (r:Vals xs us):us=[]↔xs=[]:=by
 cases r with
 | nil=>simp
 | cons _ _=>simp
theorem op_catT:OpR X (binaryOp .Add) (rCatT X.K):=by
 intro pins s σ H x y v u Q I rx ry h
 obtain ⟨a,b,xs,ys,rfl,rfl,ha,hb,hx,hz,q1,q2⟩:=h
 cases rx
 cases ry
 obtain ⟨its,r1,p1,_⟩:=I.tuple ha
 obtain ⟨its2,r2,p2,_⟩:=I.tuple hb
 refine HT.cat_tup p1 p2 (fun z=>hx (r1.nil_iff.mp z)) (fun z=>⟨.ref a,H,I,rfl,q1 (r2.nil_iff.mp z)⟩) (fun z=>?_) (by rw [←r1.length,←r2.length];exact hz)
 refine ⟨.ref s.heap.objs.size,_,I.laid (t':=s.toks) (o:=.tup (xs++ys)) (fun b ob q=>Heap.get?_push_of_some _ q) (Nat.le_refl _) ?_,rfl,q2 (fun w=>z (r2.nil_iff.mpr w)) _ (I.hok.fresh (Nat.le_refl _))⟩
 exact ⟨by rw [List.length_append];exact hz,_,r1.append r2,IsTup.new _ _⟩
end
end L2
namespace L2
open PySem PySem.Spec PyProof.Rows
noncomputable def ixN (n:Nat) (i:Int):Option Nat:=if 0≤i then (if i<n then some i.toNat else none) else if -(n:Int)≤i then some (i+n).toNat else none
noncomputable def atI {α:Type} (xs:List α) (i:Int):Option α:=(ixN xs.length i).bind fun j=>xs[j]?
theorem ixN_seq {n:Nat} {i:Int} {j:Nat} (h:ixN n i=some j):seqIndex? i n=some j∧j<n∧-(n:Int)≤i∧i<n:=by
 unfold ixN at h
 by_cases h0:0≤i
 ·rw [if_pos h0] at h
  by_cases h1:i<n
  ·rw [if_pos h1] at h
   have e:i.toNat=j:=Option.some.inj h
   exact ⟨by rw [seqIndex_of h0 h1,e],by omega,by omega,h1⟩
  ·rw [if_neg h1] at h;cases h
 ·rw [if_neg h0] at h
  by_cases h1:-(n:Int)≤i
  ·rw [if_pos h1] at h
   have e:(i+n).toNat=j:=Option.some.inj h
   exact ⟨by rw [seqIndex_neg (by omega) h1,e],by omega,h1,by omega⟩
  ·rw [if_neg h1] at h;cases h
theorem atI_get {α:Type} {xs:List α} {i:Int} {v:α} (h:atI xs i=some v):∃j,seqIndex? i xs.length=some j∧xs[j]?=some v∧j<xs.length∧-(xs.length:Int)≤i∧i<xs.length:=by
 unfold atI at h
 cases e:ixN xs.length i with
 | none=>rw [e] at h;cases h
 | some j=>
  rw [e] at h
  obtain ⟨h1,h2,h3,h4⟩:=ixN_seq e
  exact ⟨j,h1,h,h2,h3,h4⟩
theorem atI_nat {α:Type} {xs:List α} {j:Nat} {v:α} (h:xs[j]?=some v):atI xs (j:Int)=some v:=by
 have hj:j<xs.length:=(List.getElem?_eq_some_iff.mp h).1
 have e:ixN xs.length (j:Int)=some j:=by
  unfold ixN
  rw [if_pos (by omega),if_pos (by omega)];simp
 unfold atI;rw [e];exact h
noncomputable def PlainIx (b:Expr):Prop:=∀o i,subscripted b false o i=operate [o,i] (getItem o i)
noncomputable def IxR (X:Cx) (r:R2):Prop:=
 ∀(value slice:Expr) (pins:List (Addr×Obj)) (s:Shared) (σ:St) (H:Hp) (x y:V) (v u:Value) (Q:VK),Inv X pins σ H s→RelV x v→RelV y u→r x y H Q→
  subscripted slice false v u=operate [v,u] (getItem v u)→wpAny (model X.prog X.w) X.A (subscriptTail value slice v u) (EP X pins σ Q) X.xe s
noncomputable def MtR (X:Cx) (id:String) (r:V→List V→Hp→VK→Prop):Prop:=
 ∀(pins:List (Addr×Obj)) (s:Shared) (σ:St) (H:Hp) (x:V) (xs:List V) (v:Value) (us:List Value) (Q:VK),Inv X pins σ H s→RelV x v→Vals xs us→r x xs H Q→
  wpAny (model X.prog X.w) X.A (call (.builtin id) (v::us)) (EP X pins σ Q) X.xe s
section
variable {X:Cx} {a b:Expr} {ta tb:TE} {pos:Pos}
theorem IxR.or {r r':R2} (h:IxR X r) (h':IxR X r'):IxR X (fun x y H Q=>r x y H Q∨r' x y H Q):=by
 intro value slice pins s σ H x y v u Q I rx ry q hs
 rcases q with q | q
 ·exact h value slice pins s σ H x y v u Q I rx ry q hs
 ·exact h' value slice pins s σ H x y v u Q I rx ry q hs
theorem pe_ix {r:R2} (hr:IxR X r) (ha:PE X a ta) (hb:PE X b tb) (hs:PlainIx b):PE X (.Subscript a b pos) (tOp r ta tb):=by
 intro pins s σ H Q I h
 exact Subscript_ (binT ha hb I h fun v u s2 x y H2 I2 rx ry q=>hr a b pins s2 σ H2 x y v u Q I2 rx ry q (hs _ _))
noncomputable def rIxL (K:PySem.W.Frag):R2:=fun x y H Q=>∃p xs i v,x=.ref p∧y=.int i∧SqL K H p xs∧atI xs i=some v∧Q v H
noncomputable def rIxT (K:PySem.W.Frag):R2:=fun x y H Q=>∃p xs i v,x=.ref p∧y=.int i∧SqT K H p xs∧atI xs i=some v∧Q v H
theorem ix_list:IxR X (rIxL X.K):=by
 intro value slice pins s σ H x y v u Q I rx ry h hs
 obtain ⟨p,xs,i,z,rfl,rfl,hq,he,q⟩:=h
 cases rx
 obtain ⟨t,rfl⟩:=ry
 obtain ⟨its,r,pl,hz⟩:=I.list hq
 obtain ⟨j,h1,h2,h3,h4,h5⟩:=atI_get he
 obtain ⟨w,ew,rw'⟩:=r.get h2
 have hl:=r.length
 have hn:=line63
 have fin:EP X pins σ Q w s:=⟨z,H,I,rw',q⟩
 by_cases h0:0≤i
 ·have hj:i.toNat=j:=by
   rw [seqIndex_of h0 h5] at h1
   exact Option.some.inj h1
  exact item_listR pl.isList h0 (by omega) (by rw [hj];simpa using ew) fin hs
 ·have hj:(i+(its.toArray.size:Int)).toNat=j:=by
   rw [seqIndex_neg (by omega) h4] at h1
   rw [List.size_toArray,←hl]
   exact Option.some.inj h1
  exact subscriptTail_builtinR (x:=w) pl.isList.typeIs slot_list_getitem.lookup
   (wpAny_getItem_list_neg (Q:=fun r s'=>r=w∧EP X pins σ Q r s') pl.isList (by omega) (by rw [List.size_toArray] <;> omega) (by omega) (by rw [hj];simpa using ew) ⟨rfl,fin⟩) hs
theorem ix_tup:IxR X (rIxT X.K):=by
 intro value slice pins s σ H x y v u Q I rx ry h hs
 obtain ⟨p,xs,i,z,rfl,rfl,hq,he,q⟩:=h
 cases rx
 obtain ⟨t,rfl⟩:=ry
 obtain ⟨its,r,pl,hz⟩:=I.tuple hq
 obtain ⟨j,h1,h2,h3,h4,h5⟩:=atI_get he
 obtain ⟨w,ew,rw'⟩:=r.get h2
 have hl:=r.length
 have hn:=line63
 have fin:EP X pins σ Q w s:=⟨z,H,I,rw',q⟩
 exact subscriptTail_builtinR (x:=w) pl.typeIs slot_tuple_getitem.lookup
  (getItem_tuple (j:=j) (Q:=fun r s'=>r=w∧EP X pins σ Q r s') pl (by omega) (by omega) (by rw [List.size_toArray,←hl];exact h1) (by simpa using ew) ⟨rfl,fin⟩) hs
theorem mapSeq_set (its:List Value) (n j:Nat) (u:Value):Obj.mapSeq (·.setIfInBounds j u) { cls:=.type "list",data:=.seq its.toArray n } = { cls:=.type "list",data:=.seq (its.set j u).toArray n }:=by
 simp [Obj.mapSeq]
theorem Inv.lst {pins:List (Addr×Obj)} {σ:St} {H:Hp} {s:Shared} {p:Addr} {xs:List V} (I:Inv X pins σ H s) (h:H p=some (.lst xs)) :
  ∃(its:List Value) (n:Nat),Vals xs its∧s.heap.get? p=some { cls:=.type "list",data:=.seq its.toArray n }∧xs.length≤sizeLine:=by
 obtain ⟨z,its,n,r,e⟩:=I.hok p _ h
 exact ⟨its,n,r,e,z⟩
theorem Inv.lstUpd {pins:List (Addr×Obj)} {σ:St} {H:Hp} {s:Shared} {p:Addr} {xs ys:List V} {its its':List Value} {n n':Nat} {f:Obj→Obj} (I:Inv X pins σ H s) (h:H p=some (.lst xs))
  (ho:s.heap.get? p=some { cls:=.type "list",data:=.seq its.toArray n }) (hf:f { cls:=.type "list",data:=.seq its.toArray n } = { cls:=.type "list",data:=.seq its'.toArray n' }) (r:Vals ys its') (hz:ys.length≤sizeLine) (t:Nat) :
  Inv X pins σ (upd H p (.lst ys)) { s with heap:=s.heap.update p f,toks:=t }:=by
 have e:(s.heap.update p f).get? p=some { cls:=.type "list",data:=.seq its'.toArray n' }:=by
  rw [Heap.get?_update_self f ho (by rw [hf] <;> rfl),hf]
 refine I.write (x:=p) (e:=p) (by rw [h];trivial) (.inl rfl) (fun b u hb q=>(Heap.get?_update_other _ _ (Ne.symm hb)).trans q) ⟨_,e⟩ ?_
 exact ⟨hz,its',n',r,e⟩
noncomputable def rSetL:V→V→V→Hp→(Hp→Prop)→Prop:=fun o i v H Q=>∃p xs k j,o=.ref p∧i=.int k∧H p=some (.lst xs)∧ixN xs.length k=some j∧Q (upd H p (.lst (xs.set j v)))
theorem set_list:PSet X rSetL:=by
 intro pins s σ H o i v ov iv u Q I ro ri rv h
 obtain ⟨p,xs,k,j,rfl,rfl,hp,hj,q⟩:=h
 cases ro
 obtain ⟨t,rfl⟩:=ri
 obtain ⟨its,n,r,ho,hz⟩:=I.lst hp
 obtain ⟨h1,h2,h3,h4⟩:=ixN_seq hj
 have hl:=r.length
 have hn:=line63
 have I':Inv X pins σ (upd H p (.lst (xs.set j v))) { s with heap:=s.heap.update p (Obj.mapSeq (·.setIfInBounds j u)) }:=
  I.lstUpd hp ho (mapSeq_set its n j u) (r.set rv j) (by rw [List.length_set];exact hz) s.toks
 by_cases h0:0≤k
 ·have hk:k.toNat=j:=by
   rw [seqIndex_of h0 h4] at h1
   exact Option.some.inj h1
  exact PySem.W.ki_setAt ho h0 (by omega) (by rw [List.size_toArray,←hl];exact h4) (by rw [hk];exact ⟨_,I',q⟩)
 ·have hk:(k+(its.toArray.size:Int)).toNat=j:=by
   rw [seqIndex_neg (by omega) h3] at h1
   rw [List.size_toArray,←hl]
   exact Option.some.inj h1
  exact PySem.W.ki_setBack ho (by omega) (by rw [List.size_toArray,←hl];exact h3) (by omega) (by rw [hk];exact ⟨_,I',q⟩)
theorem call_len_seq:CallR X (.builtin "len") (fun xs H Q=>∃p ys,xs=[.ref p]∧(SqL X.K H p ys∨SqT X.K H p ys)∧Q (.int ys.length) H):=by
 intro pins s σ H xs us Q I r h
 obtain ⟨p,ys,rfl,hq,q⟩:=h
 obtain ⟨u,rfl,rx⟩:=vals1 r
 cases rx
 have hn:=line63
 rcases hq with hq | hq
 ·obtain ⟨its,r',pl,hz⟩:=I.list hq
  have hlen:=r'.length
  exact Calls.call_len_list pl.isList (by simp only [List.size_toArray] <;> omega) ⟨.int ys.length,H,I.tok _,⟨s.toks+1,by rw [List.size_toArray,hlen]⟩,q⟩
 ·obtain ⟨its,r',pl,hz⟩:=I.tuple hq
  have hlen:=r'.length
  exact len_tuple pl (by simp only [List.size_toArray] <;> omega) ⟨.int ys.length,H,I.tok _,⟨s.toks+1,by rw [List.size_toArray,hlen]⟩,q⟩
theorem call_tuple_of:CallR X (.type "tuple") (fun xs H Q=>∃p ys,xs=[.ref p]∧((SqL X.K H p ys∧∀l,H l=none→Q (.ref l) (upd H l (.tup ys)))∨(SqT X.K H p ys∧Q (.ref p) H))):=by
 intro pins s σ H xs us Q I r h
 obtain ⟨p,ys,rfl,h⟩:=h
 obtain ⟨u,rfl,rx⟩:=vals1 r
 cases rx
 rcases h with ⟨hq,q⟩ | ⟨hq,q⟩
 ·obtain ⟨its,r',pl,hz⟩:=I.list hq
  have hlen:=r'.length
  refine call_tuple_list pl.isList (fun h' kp=>?_) (by simp only [List.size_toArray] <;> omega)
  have I1:Inv X pins σ H { s with heap:=h' }:=I.kept (t':=s.toks) kp
  have I2:Inv X pins σ (upd H h'.objs.size (.tup ys)) { s with heap:=h'.push { cls:=.type "tuple",data:=.seq its.toArray } }:=
   I1.laid (t':=s.toks) (fun b o e=>Heap.get?_push_of_some _ e) (Nat.le_refl _) (show ObjOk X.prog X.w _ _ _ (.tup ys) from ⟨hz,its,r',IsTup.new _ _⟩)
  exact ⟨.ref h'.objs.size,_,I2,rfl,q _ (I1.hok.fresh (Nat.le_refl _))⟩
 ·obtain ⟨its,r',pl,hz⟩:=I.tuple hq
  exact call_tuple_same pl ⟨.ref p,H,I,rfl,q⟩
noncomputable def tyV (K:PySem.W.Frag) (T:String) (x:V) (H:Hp):Prop:=match x with
 | .str _=>T = "str"
 | .int _=>T = "int"
 | .ref p=>(T = "list"∧∃xs,SqL K H p xs)∨(T = "tuple"∧∃o,K.lookup p=some o∧o.cls=.type "tuple"∧o.dict=none)∨
   (T = "dict"∧((∃kvs,H p=some (.dK kvs))∨∃kvs,H p=some (.dT kvs)))∨(T = "set"∧∃S n,H p=some (.set S n))
 | _=>False
theorem tyV_is {pins:List (Addr×Obj)} {σ:St} {H:Hp} {s:Shared} {T:String} {x:V} {v:Value} (I:Inv X pins σ H s) (r:RelV x v) (ty:tyV X.K T x H) :
  s.TypeIs v T∧∀a,v=.ref a→∃ob,s.heap.get? a=some ob∧ob.dict=none:=by
 cases x with
 | str z=>
  obtain ⟨t,rfl⟩:=r
  cases (show T = "str" from ty)
  exact ⟨typeIs_str s z t,fun _ e=>nomatch e⟩
 | int i=>
  obtain ⟨t,rfl⟩:=r
  cases (show T = "int" from ty)
  exact ⟨typeIs_int s i t,fun _ e=>nomatch e⟩
 | ref p=>
  cases r
  rcases ty with ⟨rfl,xs,hq⟩ | ⟨rfl,o,hk,hc,hd⟩ | ⟨rfl,hk⟩ | ⟨rfl,S,n,hk⟩
  ·obtain ⟨its,_,pl,_⟩:=I.list hq
   refine ⟨pl.isList.typeIs,fun a e=>?_⟩
   cases e
   obtain ⟨o,n,e,c,hd,_⟩:=pl
   exact ⟨o,e,hd⟩
  ·refine ⟨⟨o,I.kIn p o hk,hc⟩,fun a e=>?_⟩
   cases e
   exact ⟨o,I.kIn _ o hk,hd⟩
  ·have z:∃o,s.heap.get? p=some o∧o.ExactDict:=by
    rcases hk with ⟨kvs,hk⟩ | ⟨kvs,hk⟩
    ·obtain ⟨_,_,_,_,o,_,_,e,ex,_⟩:=I.hok p _ hk
     exact ⟨o,e,ex⟩
    ·obtain ⟨_,_,_,_,o,_,_,e,ex,_⟩:=I.hok p _ hk
     exact ⟨o,e,ex⟩
   obtain ⟨o,e,ex⟩:=z
   refine ⟨⟨o,e,ex.1⟩,fun a e2=>?_⟩
   cases e2
   exact ⟨o,e,ex.2.1⟩
  ·obtain ⟨o,_,_,_,e,ex,_⟩:=I.hok p _ hk
   refine ⟨⟨o,e,ex.1⟩,fun a e2=>?_⟩
   cases e2
   exact ⟨o,e,ex.2.1⟩
 | _=>exact False.elim ty
noncomputable def tBM (K:PySem.W.Frag) (T:String) (r:V→List V→Hp→VK→Prop) (to:TE) (t:TA):TE:=fun σ H Q=>to σ H fun x H1=>tyV K T x H1∧t σ H1 fun xs H2=>r x xs H2 Q
variable {o e:Expr} {es:List Expr} {to:TE} {t:TA} {name:Str} {apos cpos:Pos} {T id:String} {r:V→List V→Hp→VK→Prop}
theorem pe_bm (pa:PlainAttrs T) (slot:Slot T name id) (hty:typeOf (.builtin id)=pure (.type "method_descriptor")) (hm:MtR X id r) (ho:PE X o to) (ha:PA X (e::es) t)
  (hbase:attributeBase o name X.env (eval o X.env)=eval o X.env:=by rfl)
  (hfew:((backTo cpos (starEach (e::es) X.env)).all (fun x=>!x.1)&&(backToKw cpos (keywordEach [] X.env)).all (fun x=>x.1.isSome)
   && decide ((e::es).length+([]:List Keyword).length+(if ([]:List Keyword).isEmpty then 0 else 1)<30))=true:=by rfl)
  (hline:(apos.endLine==cpos.line)=true:=by rfl) (hs:starEach (e::es) X.env=(false,eval e X.env)::starEach es X.env:=by rfl) (hplain:(backTo cpos (starEach es X.env)).any (·.1)=false:=by rfl) :
  PE X (.Call (.Attribute o name apos) (e::es) [] cpos) (tBM X.K T r to t):=by
 intro pins s σ H Q I h
 refine wpAny_Call_method_late hbase hfew hline rfl (thn (ho pins s σ H _ I h) fun v s1 ⟨x,H1,I1,r1,ty,q1⟩=>?_)
 obtain ⟨h1,h2⟩:=tyV_is I1 r1 ty
 refine ⟨T,id,pa,slot,hty,h1,h2,?_⟩
 have hA:=ha cpos pins s1 σ H1 _ I1 q1
 rw [hs] at hA ⊢
 refine Calls.callWith_builtin (by show (false||(backTo cpos (starEach es X.env)).any (·.1))=false;rw [hplain] <;> rfl) (Calls.evalArgs_plain ?_)
 exact thn hA fun us s2 ⟨vs,H2,I2,r2,q2⟩=>hm pins s2 σ H2 x vs v us Q I2 r1 r2 q2
end
end L2
namespace L2
open PySem PySem.Spec PyProof.Rows
noncomputable def MtM (X:Cx) (id:String) (r:V→List V→Hp→VK→Prop):Prop:=
 ∀(pins:List (Addr×Obj)) (s:Shared) (σ:St) (H:Hp) (x:V) (xs:List V) (v:Value) (us:List Value) (Q:VK),Inv X pins σ H s→RelV x v→Vals xs us→r x xs H Q→
  wpAny (model X.prog X.w) X.A (call (.builtin id) (v::us)) (EP X pins σ Q) X.xe s
theorem Vals.one:∀{x:V} {us:List Value},Vals [x] us→∃u,us=[u]∧RelV x u
 | _,_,.cons r .nil=>⟨_,rfl,r⟩
theorem Vals.two:∀{x y:V} {us:List Value},Vals [x,y] us→∃u v,us=[u,v]∧RelV x u∧RelV y v
 | _,_,_,.cons r (.cons q .nil)=>⟨_,_,rfl,r,q⟩
theorem Vals.eraseIdx:∀{xs:List V} {us:List Value} (i:Nat),Vals xs us→Vals (xs.eraseIdx i) (us.eraseIdx i)
 | _,_,_,.nil=>.nil
 | _,_,0,.cons _ t=>t
 | _,_,i+1,.cons r t=>.cons r (Vals.eraseIdx i t)
theorem Vals.rep {xs:List V} {us:List Value} (h:Vals xs us):∀k:Nat,Vals (List.replicate k xs).flatten (List.replicate k us).flatten
 | 0=>.nil
 | k+1=>by
  rw [List.replicate_succ,List.replicate_succ,List.flatten_cons,List.flatten_cons]
  exact Vals.append h (Vals.rep h k)
theorem len_erase {α:Type}:∀(l:List α) (i:Nat),(l.eraseIdx i).length≤l.length
 | [],_=>Nat.le_refl _
 | _::_,0=>Nat.le_succ _
 | _::r,i+1=>Nat.succ_le_succ (len_erase r i)
theorem foldl_rep (its:List Value):∀(k:Nat) (acc:List Value),
  List.foldl (fun x1 x2=>x1++x2) acc.toArray (List.replicate k its.toArray)=(acc++(List.replicate k its).flatten).toArray
 | 0,acc=>by simp
 | k+1,acc=>by
  have e:acc.toArray++its.toArray=(acc++its).toArray:=by simp
  have e2:(acc++its)++(List.replicate k its).flatten=acc++(List.replicate (k+1) its).flatten:=by
   rw [List.replicate_succ,List.flatten_cons,List.append_assoc]
  rw [←e2,←foldl_rep its k (acc++its),←e,List.replicate_succ,List.foldl_cons]
section
variable {X:Cx} {pins:List (Addr×Obj)} {σ:St} {H:Hp} {s:Shared} {l b:Addr} {xs ys zs:List V}
theorem Inv.lset {its its':List Value} {n:Nat} {f:Array Value→Array Value} {t':Nat} (I:Inv X pins σ H s) (hH:H l=some (.lst xs))
  (e:s.heap.get? l=some { cls:=.type "list",data:=.seq its.toArray n }) (hf:f its.toArray=its'.toArray) (hv:Vals ys its') (hz:ys.length≤sizeLine) :
  Inv X pins σ (upd H l (.lst ys)) { s with heap:=s.heap.update l (Obj.mapSeq f),toks:=t' }:=by
 have q:=PySem.IsL.update e f
 rw [hf] at q
 refine I.write (x:=l) (e:=l) (by rw [hH];exact trivial) (.inl rfl) (fun b' u hb hu=>(Heap.get?_update_other s.heap (Obj.mapSeq f) (Ne.symm hb)).trans hu) ⟨_,q⟩ ?_
 exact ⟨hz,its',_,hv,q⟩
theorem Inv.lnew {its:List Value} {t':Nat} (I:Inv X pins σ H s) (hv:Vals ys its) (hz:ys.length≤sizeLine) :
  Inv X pins σ (upd H s.heap.objs.size (.lst ys)) { s with heap:=s.heap.push { cls:=.type "list",data:=.seq its.toArray },toks:=t' }:=
 I.laid (fun _ _ q=>Heap.get?_push_of_some _ q) (Nat.le_refl _) ⟨hz,its,0,hv,Heap.get?_push_size _ rfl⟩
theorem Inv.fresh (I:Inv X pins σ H s):H s.heap.objs.size=none:=I.hok.fresh (Nat.le_refl _)
theorem Inv.lstM (I:Inv X pins σ H s) (hH:H l=some (.lst xs)):xs.length≤sizeLine∧∃(its:List Value) (n:Nat),Vals xs its∧xs.length=its.length∧s.heap.get? l=some { cls:=.type "list",data:=.seq its.toArray n }:=by
 obtain ⟨z,its,n,r,e⟩:=I.hok l _ hH
 exact ⟨z,its,n,r,r.length,e⟩
theorem notLongL {n:Nat} (h:n≤sizeLine):Builtin.List.listTooLong n=false:=by
 unfold Builtin.List.listTooLong
 exact decide_eq_false (by omega)
end
section
variable {X:Cx}
noncomputable def rAppend:V→List V→Hp→VK→Prop:=fun x vs H Q=>∃l xs y,x=.ref l∧vs=[y]∧H l=some (.lst xs)∧xs.length<sizeLine∧Q .non (upd H l (.lst (xs ++ [y])))
theorem mt_append:MtM X "list.append" rAppend:=by
 intro pins s σ H x vs v us Q I rx rv h
 obtain ⟨l,xs,y,rfl,rfl,hH,hz,q⟩:=h
 cases rx
 obtain ⟨u,rfl,ru⟩:=rv.one
 obtain ⟨z,its,n,r,hl,e⟩:=I.lstM hH
 refine call_meets F.slot_list_append ⟨_,e,rfl⟩ F.entry_list_append (F.args_list_append_2 _ _) (PySem.list_append l its.toArray n u (by rw [List.size_toArray];omega)) ⟨e,?_⟩
 refine ⟨.non,_,I.lset (its':=its ++ [u]) hH e (by simp) (r.append (.cons ru .nil)) ?_,rfl,q⟩
 rw [List.length_append,List.length_singleton]
 omega
noncomputable def rExtend:V→List V→Hp→VK→Prop:=fun x vs H Q=>∃l b xs zs,x=.ref l∧vs=[.ref b]∧H l=some (.lst xs)∧H b=some (.lst zs)∧xs.length+zs.length≤sizeLine∧Q .non (upd H l (.lst (xs++zs)))
theorem mt_extend:MtM X "list.extend" rExtend:=by
 intro pins s σ H x vs v us Q I rx rv h
 obtain ⟨l,b,xs,zs,rfl,rfl,hH,hB,hz,q⟩:=h
 cases rx
 obtain ⟨u,rfl,ru⟩:=rv.one
 cases ru
 obtain ⟨z,its,n,r,hl,e⟩:=I.lstM hH
 obtain ⟨z2,its2,n2,r2,hl2,e2⟩:=I.lstM hB
 have hsz:its.toArray.size+its2.toArray.size≤sizeLine:=by rw [List.size_toArray,List.size_toArray];omega
 have hlong:¬(!its.toArray.isEmpty&&Builtin.List.listTooLong (its.toArray.size+its2.toArray.size))=true:=by
  rw [notLongL hsz,Bool.and_false]
  exact Bool.false_ne_true
 refine call_meets F.slot_list_extend ⟨_,e,rfl⟩ F.entry_list_extend (F.args_list_extend_2 _ _)
  (AutoSeq1.list_extend_list_list_0 l its.toArray n b its2.toArray n2 hlong (by rw [List.size_toArray];omega) (by omega)) ⟨e,e2,?_⟩
 refine ⟨.non,_,I.lset (its':=its++its2) hH e (by simp) (r.append r2) ?_,rfl,q⟩
 rw [List.length_append]
 omega
noncomputable def rPopAt:V→List V→Hp→VK→Prop:=fun x vs H Q=>∃l xs i k y,x=.ref l∧vs=[.int i]∧H l=some (.lst xs)∧-(2 ^ 63)≤i∧i<2 ^ 63∧seqIndex? i xs.length=some k∧xs[k]?=some y∧Q y (upd H l (.lst (xs.eraseIdx k)))
theorem mt_popAt:MtM X "list.pop" rPopAt:=by
 intro pins s σ H x vs v us Q I rx rv h
 obtain ⟨l,xs,i,k,y,rfl,rfl,hH,h1,h2,hk,hy,q⟩:=h
 cases rx
 obtain ⟨u,rfl,ru⟩:=rv.one
 obtain ⟨t,rfl⟩:=ru
 obtain ⟨z,its,n,r,hl,e⟩:=I.lstM hH
 obtain ⟨w,hw,rw'⟩:=r.get hy
 refine call_meets F.slot_list_pop ⟨_,e,rfl⟩ F.entry_list_pop (F.args_list_pop_2 _ _)
  (MeetsSeq.list_pop_at l its.toArray n i t k w (fitsIndex_both h1 h2) (by rw [List.size_toArray,←hl];exact hk) (by rw [←Array.getElem?_toList];exact hw) (by rw [List.size_toArray];omega)) ⟨e,?_⟩
 refine ⟨y,_,I.lset (its':=its.eraseIdx k) hH e ?_ (r.eraseIdx k) ?_,rw',q⟩
 ·show its.toArray.eraseIdxIfInBounds k=(its.eraseIdx k).toArray
  rw [List.eraseIdxIfInBounds_toArray]
 ·have:=len_erase xs k
  omega
noncomputable def rCat:R2:=fun x y H Q=>∃l b xs zs,x=.ref l∧y=.ref b∧H l=some (.lst xs)∧H b=some (.lst zs)∧xs.length+zs.length≤sizeLine∧∀p,H p=none→Q (.ref p) (upd H p (.lst (xs++zs)))
theorem op_cat:OpR X (binaryOp .Add) rCat:=by
 intro pins s σ H x y v u Q I rx ry h
 obtain ⟨l,b,xs,zs,rfl,rfl,hH,hB,hz,q⟩:=h
 cases rx
 cases ry
 obtain ⟨z,its,n,r,hl,e⟩:=I.lstM hH
 obtain ⟨z2,its2,n2,r2,hl2,e2⟩:=I.lstM hB
 refine PySem.P.add_list e e2 ?_ (by rw [List.size_toArray,List.size_toArray];omega)
 have ea:its.toArray++its2.toArray=(its++its2).toArray:=by simp
 rw [ea]
 exact ⟨.ref _,_,I.lnew (t':=s.toks) (r.append r2) (by rw [List.length_append];omega),rfl,q _ I.fresh⟩
noncomputable def rRep:R2:=fun x y H Q=>∃l k xs,x=.ref l∧y=.int k∧H l=some (.lst xs)∧-(2 ^ 63)≤k∧k<2 ^ 63∧xs.length*k.toNat≤sizeLine∧
 ∀p,H p=none→Q (.ref p) (upd H p (.lst (List.replicate k.toNat xs).flatten))
theorem len_rep {α:Type} (xs:List α) (k:Nat):(List.replicate k xs).flatten.length=k*xs.length:=by
 induction k with
 | zero=>simp
 | succ k ih=>rw [List.replicate_succ,List.flatten_cons,List.length_append,ih,Nat.succ_mul,Nat.add_comm]
theorem op_rep:OpR X (binaryOp .Mult) rRep:=by
 intro pins s σ H x y v u Q I rx ry h
 obtain ⟨l,k,xs,rfl,rfl,hH,h1,h2,hz,q⟩:=h
 cases rx
 obtain ⟨t,rfl⟩:=ry
 obtain ⟨z,its,n,r,hl,e⟩:=I.lstM hH
 have hlen:its.toArray.size*k.toNat≤sizeLine:=by rw [List.size_toArray,←hl];exact hz
 have hcap:¬its.toArray.size*k.toNat > (2 ^ 63-1) / 8:=by
  have:(sizeLine:Nat)≤(2 ^ 63-1) / 8:=by decide
  omega
 have hfit:¬(!Builtin.List.listFitsIndex k)=true:=by
  rw [fitsIndex_both h1 h2]
  exact Bool.false_ne_true
 have hlong:¬Builtin.List.listTooLong (its.toArray.size*k.toNat)=true:=by
  rw [notLongL hlen]
  exact Bool.false_ne_true
 have hnew:List.foldl (fun x1 x2=>x1++x2) #[] (List.replicate (if its.toArray.isEmpty=true then 0 else k.toNat) its.toArray)=(List.replicate k.toNat its).flatten.toArray:=by
  have f0:∀m:Nat,List.foldl (fun x1 x2=>x1++x2) #[] (List.replicate m its.toArray)=(List.replicate m its).flatten.toArray:=fun m=>by
   have:=foldl_rep its m []
   rw [List.nil_append] at this
   exact this
  rw [f0]
  cases its with
  | nil=>simp
  | cons a r'=>rw [if_neg (by simp)]
 refine wpAny_binaryOp_repeat_ref (T:="list") (U:="int") (by decide) ⟨_,e,rfl⟩ (fun s'=>typeIs_int s' k t) noFill_list_mul F.fills_int_mul F.slot_int_rmul repeat_list F.slot_int_index.lookup
  (call_meets F.slot_int_rmul (typeIs_int s k t) F.entry_int_rmul (F.args_int_rmul_2 _ _) (int___rmul___int_list k t l its.toArray n)
   ⟨e,rfl,⟨_,e,rfl⟩,call_meets F.slot_list_mul ⟨_,e,rfl⟩ F.entry_list_mul (F.args_list_mul_2 _ _) (AutoListH.list___mul___list_int_3 l its.toArray n k t hfit hcap hlong) ⟨e,?_⟩⟩)
 rw [hnew]
 exact ⟨.ref _,_,I.lnew (t':=s.toks) (r.rep k.toNat) (by rw [len_rep,Nat.mul_comm];exact hz),rfl,q _ I.fresh⟩
end
section
variable {prog:Program} {w:World} {A:Around} {E:Value→Shared→Prop} {s:Shared}
end
section
variable {X:Cx}
end
end L2
namespace L2
open PySem PySem.Spec PyProof.Rows
section
variable {κ:Type} [DecidableEq κ]
noncomputable def valV (kvs:List (κ×V)) (k:κ):Option V:=(kvs.find? fun kv=>decide (kv.1=k)).map (·.2)
noncomputable def putK (kvs:List (κ×V)) (k:κ) (v:V):List (κ×V):=
 if (kvs.any fun kv=>decide (kv.1=k))=true then kvs.map (fun kv=>if kv.1=k then (kv.1,v) else kv) else kvs ++ [(k,v)]
theorem valV_pos {p:κ×V} {r:List (κ×V)} {k:κ} (e:p.1=k):valV (p::r) k=some p.2:=by simp [valV,List.find?_cons,e]
theorem valV_neg {p:κ×V} {r:List (κ×V)} {k:κ} (e:¬p.1=k):valV (p::r) k=valV r k:=by simp [valV,List.find?_cons,e]
theorem valV_any (k:κ):∀kvs:List (κ×V),(kvs.any fun kv=>decide (kv.1=k))=(valV kvs k).isSome
 | []=>rfl
 | p::r=>by
  rw [List.any_cons]
  by_cases e:p.1=k
  ·simp only [valV_pos e,decide_eq_true e,Bool.true_or,Option.isSome_some]
  ·rw [valV_neg e,decide_eq_false e,Bool.false_or];exact valV_any k r
theorem valV_map (k j:κ) (y:V):∀kvs:List (κ×V),valV (kvs.map fun kv=>if kv.1=k then (kv.1,y) else kv) j=(valV kvs j).map fun x=>if j=k then y else x
 | []=>rfl
 | p::r=>by
  have ih:=valV_map k j y r
  rw [List.map_cons]
  by_cases h:p.1=k
  ·rw [if_pos h]
   by_cases e:p.1=j
   ·rw [valV_pos (p:=(p.1,y)) e,valV_pos e,Option.map_some,if_pos (e.symm.trans h)]
   ·rw [valV_neg (p:=(p.1,y)) e,valV_neg e,ih]
  ·rw [if_neg h]
   by_cases e:p.1=j
   ·rw [valV_pos (p:=p) e,valV_pos e,Option.map_some,if_neg (fun z=>h (e.trans z))]
   ·rw [valV_neg (p:=p) e,valV_neg e,ih]
theorem valV_snoc (k j:κ) (y:V):∀kvs:List (κ×V),valV kvs k=none→valV (kvs ++ [(k,y)]) j=if j=k then some y else valV kvs j
 | [],_=>by
  by_cases e:k=j
  ·rw [if_pos e.symm];exact valV_pos (p:=(k,y)) e
  ·rw [if_neg (fun z=>e z.symm)];exact valV_neg (p:=(k,y)) e
 | p::r,hn=>by
  rw [List.cons_append]
  have hk:¬p.1=k:=fun z=>by rw [valV_pos z] at hn;cases hn
  rw [valV_neg hk] at hn
  have ih:=valV_snoc k j y r hn
  by_cases e:p.1=j
  ·rw [valV_pos e,valV_pos e,if_neg (fun z=>hk (e.trans z))]
  ·rw [valV_neg e,valV_neg e,ih]
theorem valV_put (kvs:List (κ×V)) (k j:κ) (y:V):valV (putK kvs k y) j=if j=k then some y else valV kvs j:=by
 unfold putK
 by_cases a:(kvs.any fun kv=>decide (kv.1=k))=true
 ·rw [if_pos a,valV_map]
  rw [valV_any] at a
  by_cases e:j=k
  ·obtain ⟨x,hx⟩:=Option.isSome_iff_exists.mp a
   rw [if_pos e,e,hx,Option.map_some,if_pos rfl]
  ·rw [if_neg e]
   cases valV kvs j with
   | none=>rfl
   | some x=>rw [Option.map_some,if_neg e]
 ·rw [if_neg a]
  refine valV_snoc k j y kvs ?_
  rw [valV_any] at a
  cases q:valV kvs k with
  | none=>rfl
  | some x=>rw [q] at a;exact (a rfl).elim
theorem length_putK (kvs:List (κ×V)) (k:κ) (v:V):(putK kvs k v).length≤kvs.length+1:=by
 unfold putK
 split
 ·rw [List.length_map];omega
 ·rw [List.length_append,List.length_cons,List.length_nil];omega
theorem putK_new {kvs:List (κ×V)} {k:κ} (v:V) (h:valV kvs k=none):putK kvs k v=kvs ++ [(k,v)]:=by
 unfold putK
 rw [valV_any,h]
 exact if_neg (by decide)
theorem RelO.isSome_eq {o:Option V} {u:Option Value} (r:RelO o u):o.isSome=u.isSome:=by
 cases o with
 | none=>cases u with
  | none=>rfl
  | some _=>exact (show False from r).elim
 | some _=>cases u with
  | none=>exact (show False from r).elim
  | some _=>rfl
theorem KV.val {kvs:List (κ×V)} {vs:List (κ×Value)} (r:KV kvs vs) (k:κ):RelO (valV kvs k) (valueAt vs k):=by
 unfold KV at r
 induction r with
 | nil=>exact True.intro
 | @cons p q ps qs h t ih=>
  obtain ⟨h1,h2⟩:=h
  by_cases e:p.1=k
  ·have e':q.1=k:=h1.symm.trans e
   have b:valueAt (q::qs) k=some q.2:=by simp [valueAt,List.find?_cons,e']
   rw [valV_pos e,b];exact h2
  ·have e':¬q.1=k:=fun z=>e (h1.trans z)
   have b:valueAt (q::qs) k=valueAt qs k:=by simp [valueAt,List.find?_cons,e']
   rw [valV_neg e,b];exact ih
theorem KV.any {kvs:List (κ×V)} {vs:List (κ×Value)} (r:KV kvs vs) (k:κ):(kvs.any fun kv=>decide (kv.1=k))=vs.any fun kv=>decide (kv.1=k):=by
 unfold KV at r
 induction r with
 | nil=>rfl
 | cons h t ih=>rw [List.any_cons,List.any_cons,ih,h.1]
theorem KV.repl {kvs:List (κ×V)} {vs:List (κ×Value)} (r:KV kvs vs) (k:κ) {y:V} {u:Value} (ry:RelV y u) :
  KV (kvs.map fun kv=>if kv.1=k then (kv.1,y) else kv) (vs.map fun kv=>if kv.1=k then (kv.1,u) else kv):=by
 unfold KV at r ⊢
 induction r with
 | nil=>exact .nil
 | @cons p q ps qs h t ih=>
  rw [List.map_cons,List.map_cons]
  refine .cons ?_ ih
  obtain ⟨h1,h2⟩:=h
  by_cases e:p.1=k
  ·rw [if_pos e,if_pos (h1.symm.trans e)];exact ⟨h1,ry⟩
  ·rw [if_neg e,if_neg (fun z=>e (h1.trans z))];exact ⟨h1,h2⟩
theorem KV.put {kvs:List (κ×V)} {vs:List (κ×Value)} (r:KV kvs vs) (k:κ) {y:V} {u:Value} (ry:RelV y u):KV (putK kvs k y) (stored vs k u):=by
 unfold putK stored
 rw [r.any k]
 by_cases e:(vs.any fun kv=>decide (kv.1=k))=true
 ·rw [if_pos e,if_pos e];exact r.repl k ry
 ·rw [if_neg e,if_neg e];exact Paired.snoc r ⟨rfl,ry⟩
theorem KV.length {kvs:List (κ×V)} {vs:List (κ×Value)} (r:KV kvs vs):kvs.length=vs.length:=Paired.length r
end
theorem kV_is {P:Program} {w:World} {k:Key} {u:Value} (r:RelV (kV k) u):(mixKind P w).is k u=true:=by
 cases k with
 | inl i=>obtain ⟨t,e⟩:=(show ∃t,u=Value.int i t from r);subst e;exact mixKind_int P w i t
 | inr x=>obtain ⟨t,e⟩:=(show ∃t,u=Value.str x t from r);subst e;exact mixKind_str P w x t
theorem items_are {P:Program} {w:World}:∀{ks:List Key} {us:List Value},Vals (ks.map kV) us→ItemsAre (mixKind P w) ks us
 | [],_,r=>by rw [List.map_nil] at r;cases r;exact .nil
 | k::ks,_,r=>by
  rw [List.map_cons] at r
  cases r with
  | cons h t=>exact .cons (kV_is h) (items_are t)
noncomputable abbrev KT (H:Hp):List (List Key×V)→List (List Key×Addr×Value)→Prop:=Paired fun p q=>p.1=q.1∧H q.2.1=some (.tup (p.1.map kV))∧RelV p.2 q.2.2
theorem KT.val {H:Hp} {kvs:List (List Key×V)} {xs:List (List Key×Addr×Value)} (r:KT H kvs xs) (k:List Key):RelO (valV kvs k) ((atKey xs k).map (·.2)):=by
 induction r with
 | nil=>exact True.intro
 | @cons p q ps qs h t ih=>
  obtain ⟨h1,_,h2⟩:=h
  by_cases e:p.1=k
  ·have e':q.1=k:=h1.symm.trans e
   have b:atKey (q::qs) k=some q.2:=by simp [atKey,List.find?_cons,e']
   rw [valV_pos e,b];exact h2
  ·have e':¬q.1=k:=fun z=>e (h1.trans z)
   have b:atKey (q::qs) k=atKey qs k:=by simp [atKey,List.find?_cons,e']
   rw [valV_neg e,b];exact ih
theorem KT.repl {H:Hp} {kvs:List (List Key×V)} {xs:List (List Key×Addr×Value)} (r:KT H kvs xs) (k:List Key) {y:V} {u:Value} (ry:RelV y u) :
  KT H (kvs.map fun kv=>if kv.1=k then (kv.1,y) else kv) (xs.map (putAt k u)):=by
 induction r with
 | nil=>exact .nil
 | @cons p q ps qs h t ih=>
  rw [List.map_cons,List.map_cons]
  refine .cons ?_ ih
  obtain ⟨h1,h2,h3⟩:=h
  unfold putAt
  by_cases e:p.1=k
  ·rw [if_pos e,if_pos (h1.symm.trans e)];exact ⟨h1,h2,ry⟩
  ·rw [if_neg e,if_neg (fun z=>e (h1.trans z))];exact ⟨h1,h2,h3⟩
theorem KT.put {H:Hp} {kvs:List (List Key×V)} {xs:List (List Key×Addr×Value)} (r:KT H kvs xs) (k:List Key) {b:Addr} {y:V} {u:Value} (hb:H b=some (.tup (k.map kV))) (ry:RelV y u) :
  KT H (putK kvs k y) (storedH xs k b u):=by
 have e:(kvs.any fun kv=>decide (kv.1=k))=(atKey xs k).isSome:=by
  rw [valV_any,(r.val k).isSome_eq,Option.isSome_map]
 unfold putK storedH
 rw [e]
 by_cases q:(atKey xs k).isSome=true
 ·rw [if_pos q,if_pos q];exact r.repl k ry
 ·rw [if_neg q,if_neg q];exact Paired.snoc r ⟨rfl,hb,ry⟩
theorem KT.keeps {H H':Hp} {kvs:List (List Key×V)} {xs:List (List Key×Addr×Value)} (r:KT H kvs xs) (ht:∀b ys,H b=some (.tup ys)→H' b=some (.tup ys)):KT H' kvs xs:=
 Paired.mapP r fun _ _ z=>⟨z.1,ht _ _ z.2.1,z.2.2⟩
section
variable {P:Program} {w:World} {H:Hp} {h:Heap} {a:Addr}
theorem rd_of {u:HO} (ok:HOk P w H h) (e:Rd H a u):ObjOk P w H h a u:=e.ok ok
theorem dk_rd {kvs:List (Key×V)} (ok:HOk P w H h) (e:Rd H a (.dK kvs)):kvs.length≤sizeLine∧(a==sysModules)=false∧∃vs,KV kvs vs∧h.DictOf (mixKind P w) a vs:=
 show ObjOk P w H h a (.dK kvs) from rd_of ok e
theorem dk_of {kvs:List (Key×V)} (ok:HOk P w H h) (e:H a=some (.dK kvs)):kvs.length≤sizeLine∧(a==sysModules)=false∧∃vs,KV kvs vs∧h.DictOf (mixKind P w) a vs:=dk_rd ok (.inl e)
theorem key_of {ks:List Key} (ok:HOk P w H h) (e:H a=some (.tup (ks.map kV))):(tupleKind (mixKind P w)).is h ks a:=by
 obtain ⟨_,its,r,o,h1,h2,n,h3⟩:=(show ObjOk P w H h a (.tup (ks.map kV)) from ok a _ e)
 exact ⟨o,its.toArray,n,h1,h2,h3,by simpa using items_are r⟩
theorem dt_rd {kvs:List (List Key×V)} (ok:HOk P w H h) (e:Rd H a (.dT kvs)):kvs.length≤sizeLine∧(a==sysModules)=false∧
  ∃xs,KT H kvs xs∧h.DictOfH (tupleKind (mixKind P w)) a xs:=by
 obtain ⟨z,y,xs,r,o,es,ep,h1,h2,h3,h4,h5⟩:=(show ObjOk P w H h a (.dT kvs) from rd_of ok e)
 refine ⟨z,y,xs,r,o,es,ep,h1,h2,h3,h4,fun x hx=>?_,h5⟩
 have all:∀{l:List (List Key×V)} {m:List (List Key×Addr×Value)},KT H l m→∀x∈m,(tupleKind (mixKind P w)).is h x.1 x.2.1:=by
  intro l m q
  induction q with
  | nil=>intro x hx;exact nomatch hx
  | @cons p q ps qs hq t ih=>
   intro x hx
   rcases List.mem_cons.mp hx with e | hx
   ·subst e
    exact key_of ok (by rw [←hq.1];exact hq.2.1)
   ·exact ih x hx
 exact all r x hx
theorem dt_of {kvs:List (List Key×V)} (ok:HOk P w H h) (e:H a=some (.dT kvs)):kvs.length≤sizeLine∧(a==sysModules)=false∧
  ∃xs,KT H kvs xs∧h.DictOfH (tupleKind (mixKind P w)) a xs:=dt_rd ok (.inl e)
end
noncomputable def DGet (H:Hp) (a:Addr) (y:V) (r:Option V):Prop:=
 (∃kvs k,Rd H a (.dK kvs)∧y=kV k∧r=valV kvs k)∨∃kvs k b,Rd H a (.dT kvs)∧y=.ref b∧H b=some (.tup (k.map kV))∧r=valV kvs k
noncomputable def DPut (H:Hp) (a:Addr) (y v:V) (H':Hp):Prop:=
 (∃kvs k,H a=some (.dK kvs)∧y=kV k∧kvs.length<sizeLine∧H'=upd H a (.dK (putK kvs k v)))∨
 ∃kvs k b,H a=some (.dT kvs)∧y=.ref b∧H b=some (.tup (k.map kV))∧kvs.length<sizeLine∧H'=upd H a (.dT (putK kvs k v))
theorem DGet.k {H:Hp} {a:Addr} {kvs:List (Key×V)} {k:Key} (e:H a=some (.dK kvs)):DGet H a (kV k) (valV kvs k):=.inl ⟨kvs,k,.inl e,rfl,rfl⟩
theorem DGet.t {H:Hp} {a b:Addr} {kvs:List (List Key×V)} {k:List Key} (e:H a=some (.dT kvs)) (eb:H b=some (.tup (k.map kV))):DGet H a (.ref b) (valV kvs k):=.inr ⟨kvs,k,b,.inl e,rfl,eb,rfl⟩
theorem DPut.k {H:Hp} {a:Addr} {kvs:List (Key×V)} {k:Key} {v:V} (e:H a=some (.dK kvs)) (hl:kvs.length<sizeLine):DPut H a (kV k) v (upd H a (.dK (putK kvs k v))):=.inl ⟨kvs,k,e,rfl,hl,rfl⟩
theorem DPut.t {H:Hp} {a b:Addr} {kvs:List (List Key×V)} {k:List Key} {v:V} (e:H a=some (.dT kvs)) (eb:H b=some (.tup (k.map kV))) (hl:kvs.length<sizeLine) :
  DPut H a (.ref b) v (upd H a (.dT (putK kvs k v))):=.inr ⟨kvs,k,b,e,rfl,eb,hl,rfl⟩
section
variable {X:Cx} {pins:List (Addr×Obj)} {σ:St} {H:Hp} {s:Shared} {a:Addr} {y v:V} {u r:Value} {o:Option V} {A:Around} {E:Value→Shared→Prop}
theorem Inv.big (I:Inv X pins σ H s):sysModules<s.heap.objs.size:=by
 have h:mainGlobals<s.heap.objs.size:=(I.mod.glob.keeps I.bk).lt
 exact Nat.lt_trans (by decide) h
theorem d_getItem {Q:Value→Shared→Prop} (hu:A.units+1<cLine) (I:Inv X pins σ H s) (g:DGet H a y (some v)) (ry:RelV y u) (h:∀w' s',Inv X pins σ H s'→RelV v w'→Q w' s') :
  wpAny (model X.prog X.w) A (getItem (.ref a) u) Q E s:=by
 rcases g with ⟨kvs,k,e,ey,l⟩ | ⟨kvs,k,b,e,ey,eb,l⟩
 ·subst ey
  obtain ⟨z,hd,vs,rel,dd⟩:=dk_rd I.hok e
  obtain ⟨w',hw,rw'⟩:=RelO.some_of (v:=v) (o:=valueAt vs k) (by rw [l];exact rel.val k)
  exact wpAny_getItem_of (kV_is ry) dd.mapOf hw (h w' _ (I.tok _) rw')
 ·subst ey
  cases (show u=Value.ref b from ry)
  obtain ⟨z,hd,xs,rel,dd⟩:=dt_rd I.hok e
  obtain ⟨w',hw,rw'⟩:=RelO.some_of (v:=v) (o:=(atKey xs k).map (·.2)) (by rw [l];exact rel.val k)
  obtain ⟨p,hp,hp2⟩:=Option.map_eq_some_iff.mp hw
  refine wpAny_getItem_heap (tupleKind_room_in1 hu) (key_of I.hok eb) dd hp ?_
  rw [hp2]
  exact h w' _ (I.tok _) rw'
theorem d_in {Q:Value→Shared→Prop} (hu:A.units+1<cLine) (I:Inv X pins σ H s) (g:DGet H a y o) (ry:RelV y u) (h:∀s',Inv X pins σ H s'→Q (.bool o.isSome) s') :
  wpAny (model X.prog X.w) A (compareOp .In u (.ref a)) Q E s:=by
 rcases g with ⟨kvs,k,e,ey,l⟩ | ⟨kvs,k,b,e,ey,eb,l⟩
 ·subst ey
  obtain ⟨z,hd,vs,rel,dd⟩:=dk_rd I.hok e
  refine wpAny_in_of (kV_is ry) hd dd.mapOf ?_
  rw [←(rel.val k).isSome_eq,←l]
  exact h _ (I.tok _)
 ·subst ey
  cases (show u=Value.ref b from ry)
  obtain ⟨z,hd,xs,rel,dd⟩:=dt_rd I.hok e
  refine wpAny_in_heap (tupleKind_room_in1 hu) (key_of I.hok eb) hd dd ?_
  have q:=(rel.val k).isSome_eq
  rw [Option.isSome_map] at q
  rw [←q,←l]
  exact h _ (I.tok _)
theorem d_notIn {Q:Value→Shared→Prop} (hu:A.units+1<cLine) (I:Inv X pins σ H s) (g:DGet H a y o) (ry:RelV y u) (h:∀s',Inv X pins σ H s'→Q (.bool (!o.isSome)) s') :
  wpAny (model X.prog X.w) A (compareOp .NotIn u (.ref a)) Q E s:=by
 rcases g with ⟨kvs,k,e,ey,l⟩ | ⟨kvs,k,b,e,ey,eb,l⟩
 ·subst ey
  obtain ⟨z,hd,vs,rel,dd⟩:=dk_rd I.hok e
  refine wpAny_notIn_of (kV_is ry) hd dd.mapOf ?_
  rw [←(rel.val k).isSome_eq,←l]
  exact h _ (I.tok _)
 ·subst ey
  cases (show u=Value.ref b from ry)
  obtain ⟨z,hd,xs,rel,dd⟩:=dt_rd I.hok e
  refine wpAny_notIn_heap (tupleKind_room_in1 hu) (key_of I.hok eb) hd dd ?_
  have q:=(rel.val k).isSome_eq
  rw [Option.isSome_map] at q
  rw [←q,←l]
  exact h _ (I.tok _)
theorem d_write {h':Heap} {t':Nat} {ob:HO} (I:Inv X pins σ H s) (mu:Mut (H a)) (hs:Heap.SameBut a s.heap h') (he:∃q,h'.get? a=some q) (new:ObjOk X.prog X.w (upd H a ob) h' a ob) :
  Inv X pins σ (upd H a ob) { s with heap:=h',toks:=t' }:=
 I.write (x:=a) (e:=a) mu (.inl rfl) (fun b q hb z=>(hs.2 b hb).trans z) he new
theorem dk_new {P:Program} {w:World} {H':Hp} {h':Heap} {kvs:List (Key×V)} {vs:List (Key×Value)} (z:kvs.length≤sizeLine) (hd:(a==sysModules)=false) (rel:KV kvs vs) (dd:h'.DictOf (mixKind P w) a vs) :
  ObjOk P w H' h' a (.dK kvs):=⟨z,hd,vs,rel,dd⟩
theorem d_setItem {H':Hp} {Q:Unit→Shared→Prop} (hu:A.units+1<cLine) (I:Inv X pins σ H s) (g:DPut H a y v H') (ry:RelV y u) (rv:RelV v r) (h:∀s',Inv X pins σ H' s'→Q () s') :
  wpAny (model X.prog X.w) A (setItem (.ref a) u r) Q E s:=by
 rcases g with ⟨kvs,k,e,ey,l,eH⟩ | ⟨kvs,k,b,e,ey,eb,l,eH⟩
 ·subst ey eH
  obtain ⟨z,hd,vs,rel,dd⟩:=dk_of I.hok e
  have hz:vs.length≤sizeLine:=by rw [←rel.length];exact z
  have hl:(putK kvs k v).length≤sizeLine:=by have:=length_putK kvs k v;omega
  refine wpAny_setItem_pairs (hsz:=hz) (kV_is ry) dd fun h' dd' hs=>h _ ?_
  have he:∃q,h'.get? a=some q:=let ⟨q,_,_,hq,_⟩:=dd';⟨q,hq⟩
  exact d_write I (by rw [e];exact True.intro) hs he (dk_new hl hd (rel.put k rv) dd')
 ·subst ey eH
  cases (show u=Value.ref b from ry)
  obtain ⟨z,hd,xs,rel,dd⟩:=dt_of I.hok e
  have hz:xs.length≤sizeLine:=by rw [←Paired.length rel];exact z
  have hl:(putK kvs k v).length≤sizeLine:=by have:=length_putK kvs k v;omega
  refine wpAny_setItem_heap (hsz:=hz) (tupleKind_room_in1 hu) (key_of I.hok eb) dd fun h' dd' hs=>h _ ?_
  obtain ⟨q,es,ep,hq,h2,h3,h4,_,h5⟩:=dd'
  refine d_write I (by rw [e];exact True.intro) hs ⟨q,hq⟩ ⟨hl,hd,_,(rel.put k eb rv).keeps fun c ys ec=>?_,q,es,ep,hq,h2,h3,h4,h5⟩
  rw [upd_ne (ne_of ec e (fun z=>nomatch z))]
  exact ec
end
section
variable {X:Cx} {pins:List (Addr×Obj)} {σ:St} {H:Hp} {s:Shared} {a:Addr} {kvs:List (Key×V)} {k:Key} {u:Value} {A:Around} {E:Value→Shared→Prop}
end
noncomputable def NoSl (i:Expr):Prop:=∀ov iv,subscripted i false ov iv=operate [ov,iv] (getItem ov iv)
theorem subD_of {prog:Program} {w:World} {A:Around} {E:Value→Shared→Prop} {s:Shared} {env:Env} {value slice:Expr} {pos:Pos} {T id:String} {Q:Value→Shared→Prop}
  (hl:typeLookup (.type T) "__getitem__" = pure (some (.builtin id))) (hs:NoSl slice)
  (h:wpAny (model prog w) A (eval value env) (fun o s₁=>wpAny (model prog w) A (eval slice env) (fun i s₂=>s₂.TypeIs o T∧wpAny (model prog w) A (getItem o i) Q E s₂) E s₁) E s) :
  wpAny (model prog w) A (eval (.Subscript value slice pos) env) Q E s:=by
 refine Subscript_ (wpAny_mono h (fun o s₁ h₁=>wpAny_mono h₁ (fun i s₂ h₂=>?_) fun _ _ x=>x) fun _ _ x=>x)
 obtain ⟨hT,h₂⟩:=h₂
 unfold subscriptTail
 refine wpAny_bind ?_
 rw [getitemInPython_of_ne hT.not_modules]
 refine wpAny_bind (wpAny_specialOf hT hl ?_)
 have fin:wpAny (model prog w) A (subscripted slice false o i) (fun r s₃=>wpAny (model prog w) A (letTemporaryGo value o r >>= fun _=>pure r) Q E s₃) E s₂:=by
  rw [hs o i]
  exact wpAny_operating (wpAny_mono h₂ (fun r s₃ h₃=>wpAny_bind (wpAny_letTemporaryGo (wpAny_pure h₃))) fun _ _ x=>x)
 first
  | exact wpAny_pure (wpAny_bind fin)
  | exact wpAny_bind (wpAny_pure (wpAny_bind fin))
  | exact wpAny_bind fin
theorem dict_typeIs {X:Cx} {pins:List (Addr×Obj)} {σ:St} {H:Hp} {s:Shared} {a:Addr} {y:V} {o:Option V} (I:Inv X pins σ H s) (g:DGet H a y o):s.TypeIs (.ref a) "dict":=by
 rcases g with ⟨kvs,k,e,_,_⟩ | ⟨kvs,k,b,e,_,_,_⟩
 ·obtain ⟨_,_,vs,_,dd⟩:=dk_rd I.hok e
  exact dd.typeIs
 ·obtain ⟨_,_,xs,_,dd⟩:=dt_rd I.hok e
  exact dd.typeIs
noncomputable def tDGet (td ty:TE):TE:=fun σ H Q=>td σ H fun x H1=>ty σ H1 fun y H2=>∃a v,x=.ref a∧DGet H2 a y (some v)∧Q v H2
noncomputable def sDPut (td ty tv:TE):TS:=fun D σ H=>tv σ H fun v H1=>td σ H1 fun x H2=>ty σ H2 fun y H3=>∃a H4,x=.ref a∧DPut H3 a y v H4∧D.nx σ H4
section
variable {X:Cx} {o i e value:Expr} {pos pos' tpos:Pos} {td ty tv:TE}
theorem pe_dget (hu:X.A.units+1<cLine) (ho:PE X o td) (hi:PE X i ty) (hs:NoSl i):PE X (.Subscript o i pos) (tDGet td ty):=by
 intro pins s σ H Q I h
 refine subD_of PySem.F.slot_dict_getitem.lookup hs (thn (ho pins s σ H _ I h) fun u s1 ⟨x,H1,I1,rx,q1⟩=>thn (hi pins s1 σ H1 _ I1 q1) fun iv s2 ⟨y,H2,I2,ry,a,v,ex,g,q2⟩=>?_)
 subst ex
 obtain rfl:u=Value.ref a:=rx
 exact ⟨dict_typeIs I2 g,d_getItem hu I2 g ry fun w' s3 I3 rw'=>⟨v,H2,I3,rw',q2⟩⟩
theorem ps_dput (hu:X.A.units+1<cLine) (ho:PE X o td) (hi:PE X i ty) (hv:PE X value tv) (hs:swapsWith value (some (.Subscript o i pos')) pos.line X.env=pure false) :
  PS X (.Assign [.Subscript o i pos'] value pos) (sDPut td ty tv):=by
 intro pins s σ H D I h
 refine wpAny_Assign_Subscript (thn (hv pins s σ H _ I h) fun r s1 ⟨v,H1,I1,rv,q1⟩=>thn (ho pins s1 σ H1 _ I1 q1) fun u s2 ⟨x,H2,I2,rx,q2⟩=>thn (hi pins s2 σ H2 _ I2 q2) fun iv s3 ⟨y,H3,I3,ry,a,H4,ex,g,q3⟩=>?_) hs
 subst ex
 obtain rfl:u=Value.ref a:=rx
 exact d_setItem hu I3 g ry rv fun s4 I4=>⟨σ,H4,I4,q3⟩
end
theorem dk_empty {P:Program} {w:World} {H:Hp} (h:Heap) (hb:sysModules<h.objs.size):ObjOk P w H (h.push { cls:=.type "dict",data:=.dict #[] }) h.objs.size (.dK []):=
 ⟨Nat.zero_le _,beq_eq_false_iff_ne.mpr (Ne.symm (Nat.ne_of_lt hb)),[],.nil,Heap.DictOf.new h⟩
theorem dt_empty {P:Program} {w:World} {H:Hp} (h:Heap) (hb:sysModules<h.objs.size):ObjOk P w H (h.push { cls:=.type "dict",data:=.dict #[] }) h.objs.size (.dT []):=
 ⟨Nat.zero_le _,beq_eq_false_iff_ne.mpr (Ne.symm (Nat.ne_of_lt hb)),[],.nil,_,#[],0,Heap.get?_push_size _ rfl,⟨rfl,rfl,rfl⟩,rfl,rfl,List.nodup_nil⟩
section
variable {X:Cx} {pos:Pos}
end
noncomputable def tPairs:List (TE×TE)→St→Hp→(List (V×V)→Hp→Prop)→Prop
 | [],_,H,Q=>Q [] H
 | (tk,tv)::r,σ,H,Q=>tk σ H fun x H1=>tv σ H1 fun y H2=>tPairs r σ H2 fun ps H3=>Q ((x,y)::ps) H3
noncomputable abbrev VV:List (V×V)→List (Value×Value)→Prop:=Paired fun p q=>RelV p.1 q.1∧RelV p.2 q.2
noncomputable def PPs (X:Cx) (pos:Pos) (keys:List (Option Expr)) (values:List Expr) (trs:List (TE×TE)):Prop:=
 ∀(pins:List (Addr×Obj)) (s:Shared) (σ:St) (H:Hp) (Q:List (V×V)→Hp→Prop),Inv X pins σ H s→tPairs trs σ H Q→
  wpAny (model X.prog X.w) X.A (evalPairs (pairTrees keys values X.env pos)) (fun vs s'=>∃ps H',Inv X pins σ H' s'∧VV ps vs∧Q ps H') X.xe s
theorem pps_nil {X:Cx} {pos:Pos}:PPs X pos [] [] []:=fun pins s σ H Q I h=>pairTrees_nil_walk ⟨[],H,I,.nil,h⟩
theorem pps_cons {X:Cx} {pos:Pos} {k v:Expr} {ks:List (Option Expr)} {vs:List Expr} {tk tv:TE} {trs:List (TE×TE)} (hk:PE X k tk) (hv:PE X v tv) (hr:PPs X pos ks vs trs) :
  PPs X pos (some k::ks) (v::vs) ((tk,tv)::trs):=fun pins s σ H Q I h=>
 pairTrees_cons_walk (thn (hk pins s σ H _ I h) fun u s1 ⟨x,H1,I1,rx,q1⟩=>thn (hv pins s1 σ H1 _ I1 q1) fun w2 s2 ⟨y,H2,I2,ry,q2⟩=>
  thn (hr pins s2 σ H2 _ I2 q2) fun ws s3 ⟨ps,H3,I3,rel,q3⟩=>⟨(x,y)::ps,H3,I3,.cons ⟨rx,ry⟩ rel,q3⟩)
noncomputable def mergeK (kvs more:List (Key×V)):List (Key×V):=more.foldl (fun acc kv=>putK acc kv.1 kv.2) kvs
theorem KV.merge:∀{more:List (Key×V)} {rs:List (Key×Value)} {kvs:List (Key×V)} {vs:List (Key×Value)},KV more rs→KV kvs vs→KV (mergeK kvs more) (merged vs rs):=by
 intro more rs kvs vs r
 unfold KV at r
 induction r generalizing kvs vs with
 | nil=>intro q;exact q
 | @cons p q ps qs h t ih=>
  intro r0
  have e:KV (putK kvs p.1 p.2) (stored vs q.1 q.2):=by
   have:=r0.put p.1 h.2
   rw [←h.1];exact this
  exact ih e
theorem length_mergeK:∀(more kvs:List (Key×V)),(mergeK kvs more).length≤kvs.length+more.length
 | [],kvs=>by show kvs.length≤kvs.length+0;omega
 | p::r,kvs=>by
  have h1:=length_mergeK r (putK kvs p.1 p.2)
  have h2:=length_putK kvs p.1 p.2
  show (mergeK (putK kvs p.1 p.2) r).length≤_
  rw [List.length_cons];omega
theorem carries_of {P:Program} {w:World}:∀{kvs:List (Key×V)} {ws:List (Value×Value)},VV (kvs.map fun kv=>(kV kv.1,kv.2)) ws→∃rs,Carries (mixKind P w) ws rs∧KV kvs rs
 | [],_,r=>by rw [List.map_nil] at r;cases r;exact ⟨[],True.intro,.nil⟩
 | p::kvs,_,r=>by
  rw [List.map_cons] at r
  cases r with
  | @cons a b as bs h t=>
   obtain ⟨rs,c,q⟩:=carries_of (P:=P) (w:=w) t
   obtain ⟨b1,b2⟩:=b
   exact ⟨(p.1,b2)::rs,⟨kV_is h.1,rfl,c⟩,.cons ⟨rfl,h.2⟩ q⟩
noncomputable def tDisp (trs:List (TE×TE)):TE:=fun σ H Q=>∀p,H p=none→tPairs trs σ (upd H p (.dK [])) fun ps H2=>H2 p=some (.dK [])∧∃kvs:List (Key×V),ps=kvs.map (fun kv=>(kV kv.1,kv.2))∧kvs.length≤15∧Q (.ref p) (upd H2 p (.dK (mergeK [] kvs)))
theorem pe_disp {X:Cx} {pos:Pos} {keys:List (Option Expr)} {values:List Expr} {trs:List (TE×TE)} (h:PPs X pos keys values trs) (hall:keys.all (·.isSome)=true) (hl:keys.length=values.length) (h0:keys≠[])
  (h15:keys.length≤15):PE X (.Dict keys values pos) (tDisp trs):=by
 intro pins s σ H Q I q
 have hn:=I.hok.fresh (Nat.le_refl s.heap.objs.size)
 have I1:=I.laid (a:=s.heap.objs.size) (o:=.dK []) (h':=s.heap.push { cls:=.type "dict",data:=.dict #[] }) (t':=s.toks) (fun _ _ q=>Heap.get?_push_of_some _ q) (Nat.le_refl _) (dk_empty s.heap I.big)
 refine wpAny_Dict_walk (knd:=mixKind X.prog X.w) hall hl h0 h15 (thn (h pins _ σ _ _ I1 (q _ hn)) fun ws s2 ⟨ps,H2,I2,rel,e,kvs,ep,lk,q2⟩=>?_)
 subst ep
 obtain ⟨rs,c,rk⟩:=carries_of (P:=X.prog) (w:=X.w) rel
 obtain ⟨z,hd,vs0,r0,dd⟩:=dk_of I2.hok e
 cases r0
 refine ⟨rs,c,dd,fun h' dd' hs=>⟨.ref s.heap.objs.size,_,?_,rfl,q2⟩⟩
 have hz:(mergeK [] kvs).length≤sizeLine:=by
  have h1:=length_mergeK kvs []
  rw [List.length_nil] at h1
  rw [sizeLine_eq];omega
 have he:∃q,h'.get? s.heap.objs.size=some q:=let ⟨q,_,_,hq,_⟩:=dd';⟨q,hq⟩
 exact d_write I2 (by rw [e];exact True.intro) hs he (dk_new hz hd (rk.merge .nil) dd')
section
variable {X:Cx} {pins:List (Addr×Obj)} {σ:St} {H:Hp} {s:Shared} {a:Addr} {y d:V} {u r:Value} {o:Option V} {A:Around} {E:Value→Shared→Prop}
end
section
variable {X:Cx} {o e f:Expr} {apos cpos:Pos} {td ty tx:TE}
end
section
variable {X:Cx} {pins:List (Addr×Obj)} {σ:St} {H:Hp} {s:Shared} {a:Addr} {kvs:List (Key×V)} {A:Around} {E:Value→Shared→Prop}
end
section
variable {X:Cx} {pins:List (Addr×Obj)} {σ:St} {H:Hp} {s:Shared} {a:Addr} {y:V} {u:Value} {A:Around} {E:Value→Shared→Prop}
end
end L2
namespace Att
open PySem PySem.W PySem.Calls PyProof.Rows
theorem ints_of_wellAll {P:Params} {h:Heap}:∀(ns:List Int) (vs:List Value),WellAll P h vs (ns.map WData.int)→IntsAre vs ns:=by
 intro ns
 induction ns with
 | nil=>
  intro vs w
  rw [List.map_nil] at w
  cases w
  exact .nil
 | cons n ns ih=>
  intro vs w
  rw [List.map_cons] at w
  cases w with
  | cons a b=>
   cases a
   exact .cons _ _ (ih _ b)
theorem script_of {l:OpenLaw} {n:Nat} (hn:l.most=some n) {P:Params} {h:Heap} {args:List WData} {vals:List Value}
  (hpre:l.row.toRowW.claim.pre args=true) (hwl:WellAll P h vals args) :
  ∃a vs ns,vals=[Value.ref a]∧args=[WData.list (ns.map WData.int)]∧h.get? a=some { cls:=.type "list",data:=.seq vs.toArray }∧IntsAre vs ns∧ns.length≤n:=by
 have hsh:WShape.hasAll [] args [.list .int]=true:=(pre_splitW hpre).1
 have hc:l.pre.holds [] { args:=args }=true:=(pre_splitW hpre).2
 obtain ⟨d,r,rfl,h1,h2⟩:=hasAllW_cons hsh
 obtain rfl:=hasAllW_nil h2
 obtain ⟨xs,rfl,h3⟩:=hasW_list h1
 obtain ⟨ns,rfl⟩:=items_int h3
 have hlen:ns.length≤n:=by
  unfold OpenLaw.pre at hc
  have h4:(WTm.not (.lt (.lit (.int (n:Int))) (.len (.arg 0)))).holds [] { args:=[.list (ns.map .int)] }=true:=by
   have h4:=(holds_andW hc).1
   rw [hn] at h4
   exact h4
  have h5:=condW_of h4 (w_not (w_lt w_lit (w_len_list (w_arg rfl))))
  rw [List.length_map] at h5
  refine Nat.le_of_not_lt fun q=>?_
  have q':(n:Int)<((ns.length:Nat):Int):=by omega
  first
   | (rw [decide_eq_true q'] at h5;exact absurd h5 (by decide))
   | (simp at h5;omega)
 cases hwl with
 | cons w1 w2=>
  cases w2
  cases w1 with
  | list ho hall=>exact ⟨_,_,ns,rfl,rfl,ho,ints_of_wellAll ns _ hall,hlen⟩
theorem post_true (l:OpenLaw) (args:List WData):l.row.toRowW.claim.post args (.bool true) args=true:=
 postW_of (r:=l.row.toRowW) (X:=(true==true))
  (show WShape.has [] (.bool true) .bool=true by first | rfl | decide | simp [WShape.has,WShape.arms,WShape.armsAll])
  (show (WTm.eq .res (.lit (.bool true))).value [] { args:=args,res:=some (.bool true),after:=args }=some (.bool (true==true)) from w_eq_bool (w_res rfl) w_lit) rfl
theorem attach_call {l:OpenLaw} {n:Nat} {q:Program} {loose:List Str} {XP:(Str→Option Value)→Heap→Prop} {YP:World→Heap→Prop} {d:DefRec}
  (hn:l.most=some n) (hdf:d.params.defaults=[])
  (call:∀(w:World) (s₀ s₁:Shared) (mg mb:Str→Option Value) (fa:Addr) (o:Obj) (pm cd doc:Value) (a:Addr) (vs:List Value) (ns:List Int),
   Ground q loose [] XP w s₀ mg mb s₁.heap→YP w s₁.heap→
   s₁.heap.get? fa=some o→o.data=.func (docDef d.name d.params d.body d.scope pm cd doc)→s₁.heap.CodeRec cd d.name→mg d.name=some (.ref fa)→
   s₁.heap.get? a=some { cls:=.type "list",data:=.seq vs.toArray }→IntsAre vs ns→ns.length≤n→s₁.gens = #[]→
   codeAny (model l.prog w) callerA (.call (.ref fa) ⟨[.ref a],[]⟩) (fun r s'=>r=.ok (.ret (.bool true))∧OldK s₁.heap s'.heap∧s'.os=s₁.os∧AllBare s'.gens) s₁) :
  WalkO q loose XP YP l.row.toRowW d [] (fun f vs=>PySem.call f vs):=by
 intro w s₀ s₁ mg mb G Y fa o pm cd doc dV kV ho hd hcd hD hmg hg args vals as hpre hlay hrd hwl hlo
 obtain rfl:dV=.none:=Dflts.none hD hdf
 obtain rfl:kV=.none:=Dflts.noKw hD
 obtain ⟨a,vs,ns,rfl,rfl,hobj,hints,hlen⟩:=script_of hn hpre hwl
 refine enter_call (codeAny_mono (call w s₀ s₁ mg mb fa o pm cd doc a vs ns G Y ho (fd_plain hd) hcd hmg hobj hints hlen hg) fun r s' hq=>?_)
 obtain ⟨rfl,h2,h3,h4⟩:=hq
 exact ⟨.inl ⟨.bool true,.bool true,[],rfl,fun _=>rfl,.bool true,post_true l _,fun _=>⟨List.Pairwise.nil,fun _ hm=>(nomatch hm)⟩⟩,h2,h3,h4⟩
section
variable {prog:Program} {w:World} {A:Around} {E:Value→Shared→Prop} {s:Shared} {K:Frag}
end
end Att
namespace L2
open PySem PySem.Spec PyProof.Rows
theorem vals_ints:∀{vs:List Value} {ns:List Int},IntsAre vs ns→Vals (ns.map V.int) vs
 | _,_,.nil=>.nil
 | _,_,.cons n t h=>.cons ⟨t,rfl⟩ (vals_ints h)
end L2
namespace L2
open PySem PySem.Spec PyProof.Rows
end L2
namespace L2
open PySem PySem.Spec PyProof.Rows
noncomputable def defArgs (s:Stmt):Arguments:=match s with
 | .FunctionDef _ a _ _ _ _ _ _ _ _=>a
 | _=>{ posonlyargs:=[],args:=[],vararg:=none,kwonlyargs:=[],kw_defaults:=[],kwarg:=none,defaults:=[] }
noncomputable def defBody (s:Stmt):List Stmt:=match s with
 | .FunctionDef _ _ b _ _ _ _ _ _ _=>b
 | _=>[]
noncomputable def defScope (s:Stmt):Scope:=match s with
 | .FunctionDef _ _ _ _ _ _ sc _ _ _=>sc
 | _=>{ kind:=.function,names:=[],isGenerator:=false,isCoroutine:=false }
noncomputable abbrev CX0:CXT:=fun _ _ _ _ _ _=>False
noncomputable abbrev E0:XK:=fun _ _ _=>False
theorem pass0 {X:Cx}:Passes CX0 X E0:=fun _ _ _ _ _ _ _ h=>h.elim
structure Fun (K:PySem.W.Frag) (x qual:Str) (st:Stmt) (f:Addr) (fd:FuncData):Prop where
 ex:∃(oc:Value) (od:Option Addr) (kV doc pm:Value) (an:Option Addr) (cdv ct:Value) (osl:Array (Option Value)),
  fd=PySem.W.fnOf x qual (defArgs st) (defBody st) (defScope st) .none kV doc pm an cdv ct∧K.lookup f=some ⟨oc,od,.func fd,osl⟩∧PySem.W.codeIn K cdv qual=true
 kp:PySem.W.keepIn K (.ref f)=true
section
variable {P:Program} {w:World} {K:PySem.W.Frag} {mg:Str→Option Value} {base:Heap}
theorem Fun.ok {x qual:Str} {st:Stmt} {f:Addr} {fd:FuncData} {N ps:List Str} {k:Nat} {sp:Sp} (F:Fun K x qual st f fd) (S:FnScope N ps (defScope st)) (len:∀vs H Q E,sp vs H Q E→vs.length=ps.length)
  (hbody:∀(cdv:Value) (A:Around) (outer:List Env) (s:Shared) (H:Hp) (vs:List V) (Q:VK) (E:XK),Room k (A.deeper (envOfC qual (defScope st) s.heap.objs.size f cdv))→sp vs H Q E→
   ∃t,PSs (cxOf CX0 P w K mg base N qual (defScope st) f cdv A outer s H E).nox (defBody st) t∧t { nx:=fun _ H'=>Q .non H',rt:=Q } (start N vs) H):FnOk P w K mg base CX0 (k+1) f fd ps sp:=by
 obtain ⟨oc,od,kV,doc,pm,an,cdv,ct,osl,rfl,lk,hcd⟩:=F.ex
 refine fn_of lk hcd S len fun A outer s H vs Q E hr hsp=>?_
 obtain ⟨t,h,q⟩:=hbody cdv A outer s H vs Q E hr hsp
 exact ⟨t,h.nox,q⟩
theorem Fun.binds {x qual:Str} {st:Stmt} {f:Addr} {fd:FuncData} {ps:List Str} (F:Fun K x qual st f fd)
  (h:∀(kV doc pm:Value) (an:Option Addr) (cdv ct:Value) (us:List Value),us.length=ps.length→bindArgs (PySem.W.fnOf x qual (defArgs st) (defBody st) (defScope st) .none kV doc pm an cdv ct) ⟨us,[]⟩=pure (ps.zip us)):Binds K fd ps []:=by
 obtain ⟨oc,od,kV,doc,pm,an,cdv,ct,osl,rfl,lk,hcd⟩:=F.ex
 exact .all (h kV doc pm an cdv ct)
theorem fun_mk {x qual:Str} {st:Stmt} {f:Addr} {oc:Value} {od an:Option Addr} {osl:Array (Option Value)} {kV doc pm cdv ct:Value} (l:K.lookup f=some ⟨oc,od,.func (PySem.W.fnOf x qual (defArgs st) (defBody st) (defScope st) .none kV doc pm an cdv ct),osl⟩)
  (c:PySem.W.codeIn K cdv qual=true) (k:PySem.W.keepIn K (.ref f)=true):Fun K x qual st f (PySem.W.fnOf x qual (defArgs st) (defBody st) (defScope st) .none kV doc pm an cdv ct):=⟨⟨oc,od,kV,doc,pm,an,cdv,ct,osl,rfl,l,c⟩,k⟩
end
theorem hu_of {A:Around} {k:Nat} (hr:Room k A):A.units+1<cLine:=Nat.lt_of_le_of_lt (Nat.add_le_add_left (by decide:1≤64) _) hr.units
section
variable {X:Cx}
theorem pv (i:Nat) {x:Str} {pos:Pos} (hN:X.N[i]?=some x:=by rfl) (hv:Vis X.env.scope x:=by first | exact Or.inl rfl | exact Or.inr (Or.inl rfl) | exact Or.inr (Or.inr rfl)) (hd:(x==("__debug__" : Str))=false:=by decide)
  (hcd:(x==("__classdict__" : Str))=false:=by decide):PE X (.Name x pos) (tVar i):=pe_var hN hv hd hcd
end
theorem iteF {A B:Prop} (h:B):if false=true then A else B:=by
 rw [if_neg Bool.false_ne_true]
 exact h
theorem iteT {A B:Prop} (h:A):if true=true then A else B:=by
 rw [if_pos rfl]
 exact h
section
variable {X:Cx}
end
section
variable {κ:Type} [DecidableEq κ]
end
end L2
namespace L2
open PySem PySem.Spec PyProof.Rows
theorem compLoop_go {prog:Program} {w:World} {A:Around} {R:Result→Shared→Prop} {s:Shared} {elt target iter:Expr} {ifs:List Expr} {scope:Scope} {pos:Pos} {it acc:Value} {env:Env} (I:Nat→Shared→Prop)
  (turn:∀n s,I n s→wpAny (model prog w) A (pyNext it) (fun r s₁=>match r with
   | none=>R (.ok .next) s₁
   | some v=>wpAny (model prog w) A (letOwnedTupleGo target it v) (fun _ s₁'=>wpAny (model prog w) A (assign target env v) (fun _ s₂=>
     wpAny (model prog w) A (forIn ifs true fun c r=>if r=true then do let ok←isTrue c env (eval c env);pure (ForInStep.yield ok) else pure (ForInStep.yield r)) (fun ok s₃=>
      if ok=true then wpAny (model prog w) A (eval elt env) (fun x s₄=>
       wpAny (model prog w) A (call (.builtin "list.append") [acc,x]) (fun _ s₅=>∃m,m<n∧I m s₅) (notedBy (model prog w) A env fun e s'=>R (.error e) s') s₄) (notedBy (model prog w) A env fun e s'=>R (.error e) s') s₃
      else ∃m,m<n∧I m s₃) (notedBy (model prog w) A env fun e s'=>R (.error e) s') s₂) (notedBy (model prog w) A env fun e s'=>R (.error e) s') s₁') (notedBy (model prog w) A env fun e s'=>R (.error e) s') s₁) (notedBy (model prog w) A env fun e s'=>R (.error e) s') s)
  (n:Nat) (h:I n s) :
  codeAny (model prog w) A (.compLoop (.ListComp elt [⟨target,iter,ifs,0⟩] scope pos) 0 it acc env) R s:=by
 refine codeAny_loop rfl I (fun n s hI=>?_) n h
 show wpAny _ A ((compTurn (.ListComp elt [⟨target,iter,ifs,0⟩] scope pos) 0 it acc env).onRaise (fun x=>do noteFrame x env;theTreesLotGoes x)) _ _ s
 refine wpAny_noted ?_
 rw [compTurn_list]
 refine wpAny_bind (wpAny_standAt (wpAny_bind (wpAny_mono (turn n s hI) (fun r s₁ h₁=>?_) fun _ _ h'=>h')))
 cases r with
 | none=>exact wpAny_pure h₁
 | some v=>
  refine wpAny_bind (wpAny_mono h₁ (fun _ s₁' h₁'=>?_) fun _ _ h'=>h')
  refine wpAny_bind (wpAny_mono h₁' (fun _ s₂ h₂=>wpAny_bind (wpAny_mono h₂ (fun ok s₃ h₃=>?_) fun _ _ h'=>h')) fun _ _ h'=>h')
  cases ok with
  | false=>exact wpAny_pure ⟨rfl,h₃⟩
  | true=>
   exact wpAny_bind (wpAny_bind (wpAny_mono h₃ (fun x s₄ h₄=>wpAny_bind (wpAny_mono h₄ (fun _ s₅ h₅=>wpAny_pure (wpAny_pure ⟨rfl,h₅⟩)) fun _ _ h'=>h')) fun _ _ h'=>h'))
noncomputable def blk (X:Cx) (pins:List (Addr×Obj)) (N':List Str) (scope:Scope) (cl:List (Str×Addr)) (C:Addr) (s:Shared) (H:Hp) (fp:List Addr):Cx where
 prog:=X.prog
 w:=X.w
 K:=X.K
 mg:=X.mg
 base:=X.base
 A:=X.A
 N:=N'
 s₀:=s
 H₀:=H
 env:=compEnvC scope cl C X.env
 outer:=X.stack
 stack:=X.stack
 ex:=fp
 fn:=fun _=>false
 calm:=X.calm
 pn:=X.pn++pins
 xe:=fun _ _=>False
noncomputable def PIfs (X:Cx) (ifs:List Expr) (t:TT):Prop:=
 ∀(pins:List (Addr×Obj)) (s:Shared) (σ:St) (H:Hp) (Q:Bool→Hp→Prop),Inv X pins σ H s→t σ H Q→
  wpAny (model X.prog X.w) X.A (forIn ifs true fun c r=>if r=true then do let ok←isTrue c X.env (eval c X.env);pure (ForInStep.yield ok) else pure (ForInStep.yield r)) (TP X pins σ Q) X.xe s
noncomputable def tTrue:TT:=fun _ H Q=>Q true H
theorem pifs_nil {X:Cx}:PIfs X [] tTrue:=fun _ _ _ H _ I h=>wpAny_pure ⟨H,I,h⟩
theorem pifs_one {X:Cx} {c:Expr} {t:TT} (h:PT X c t):PIfs X [c] t:=fun pins s σ H Q I hq=>wpAny_tests_one (h pins s σ H Q I hq)
structure BlkOk (X:Cx) (N':List Str) (src:List (Option Nat)) (scope:Scope) (cl:List (Str×Addr)):Prop where
 clos:closureFor scope X.env=pure cl
 nocell:∀y∈scope.names,y.2≠.cell
 kind:scope.kind=.function
 names:∀y∈scope.names,y.2=.local→scope.names.lookup y.1=some .local
 len:src.length=N'.length
 cells:∀x c,cl.lookup x=some c→X.env.cells.lookup x=some c
 has:∀x,((relabel scope X.env).names.lookup x=some .cell∨(relabel scope X.env).names.lookup x=some .free)→∃c,cl.lookup x=some c
 from_:∀(i j:Nat) x,src[i]?=some (some j)→N'[i]?=some x→X.N[j]?=some x∧(X.env.kindOf x=some .cell∨X.env.kindOf x=some .free)∧((relabel scope X.env).names.lookup x=some .cell∨(relabel scope X.env).names.lookup x=some .free)
noncomputable def blkSt (src:List (Option Nat)) (σ:St):St:=src.map fun o=>o.bind fun j=>(σ[j]?).bind id
theorem blk_inv {X:Cx} {pins:List (Addr×Obj)} {σ:St} {H:Hp} {s s1:Shared} {N':List Str} {src:List (Option Nat)} {scope:Scope} {cl:List (Str×Addr)} {C:Addr} {fp:List Addr} {m:Str→Option Value}
  (B:BlkOk X N' src scope cl) (I:Inv X pins σ H s) (hf:∀b∈fp,FpOk X pins H b) (hC:s.heap.objs.size≤C) (hCf:∀b∈fp,b≠C)
  (hs:s1.os=s.os) (hg:s1.gens=s.gens) (hk:∀b o,s.heap.get? b=some o→s1.heap.get? b=some o) (hn:s1.heap.Ns C m):Inv (blk X pins N' scope cl C s H fp) [] (blkSt src σ) H s1:=by
 have noC:∀b o,s.heap.get? b=some o→b≠C:=fun b o e=>Nat.ne_of_lt (Nat.lt_of_lt_of_le (Heap.lt_size e) hC)
 refine ⟨⟨I.ok.mod,B.kind,I.ok.glob,I.ok.blt,hC,fun x y c h1 h2=>I.ok.inj x y c (B.cells _ _ h1) (B.cells _ _ h2),fun x hx=>B.has x hx,fun x c hf _=>(by cases hf),I.ok.hd,I.ok.frames,.inl rfl,fun b hb=>?_,I.bs,Nat.le_trans I.ok.bsz I.sz,fun b o e hb=>?_,fun b hb z=>?_,I.stack,I.stkFree⟩,
  hs,by rw [hg];exact I.bare,Un.kept hk,⟨m,hn,fun i x v h1 h2 h3=>?_⟩,fun x c e=>?_,I.hok.fresh hC,fun x c e=>I.freeC x c (B.cells _ _ e),fun p hp=>?_,I.hok.kept hk,?_⟩
 ·obtain ⟨f0,f1,f2,f3,f4,f5⟩:=hf b hb
  exact ⟨hCf b hb,fun x c e=>f4 x c (B.cells _ _ e)⟩
 ·obtain ⟨f0,f1,f2,f3,f4,f5⟩:=hf b hb
  rcases f3 with z | z
  ·exact I.ok.noex b o e z
  ·exact absurd (Nat.lt_of_lt_of_le (Heap.lt_size (I.ok.bs b o e).1) z) (Nat.lt_irrefl _)
 ·obtain ⟨f0,f1,f2,f3,f4,f5⟩:=hf b hb
  rcases List.mem_cons.mp (I.stkSub b z) with e | e
  ·exact f1 e
  ·exact f2 e
 ·have h2':(blkSt src σ)[i]?=some (some v):=h2
  unfold blkSt at h2'
  rw [List.getElem?_map] at h2'
  cases e:src[i]? with
  | none=>rw [e] at h2';cases h2'
  | some o=>
   rw [e] at h2'
   cases o with
   | none=>simp at h2'
   | some j=>
    obtain ⟨q1,q2,q3⟩:=B.from_ i j x e h1
    have hj:σ[j]?=some (some v):=by
     simp only [Option.map_some,Option.bind_some,Option.some.injEq] at h2'
     cases e2:σ[j]? with
     | none=>rw [e2] at h2';cases h2'
     | some o2=>rw [e2] at h2';simp at h2';rw [h2']
    obtain ⟨mm,hnn,hl⟩:=I.loc
    have vis:Vis X.env.scope x:=by
     rcases q2 with z | z
     ·exact .inr (.inl z)
     ·exact .inr (.inr z)
    obtain ⟨u,r,l⟩:=hl j x v q1 hj vis
    refine ⟨u,r,?_⟩
    rcases l with ⟨k,_⟩ | ⟨_,c,ec,z⟩
    ·rcases q2 with z | z <;> rw [z] at k <;> cases k
    ·obtain ⟨c',ec'⟩:=B.has x q3
     have ee:c'=c:=by
      have:=B.cells _ _ ec'
      rw [ec] at this
      exact (Option.some.inj this).symm
     subst ee
     obtain ⟨o,ho,hd⟩:=z
     exact .inr ⟨q3,c',ec',o,hk _ _ ho,hd⟩
 ·obtain ⟨v,o,ho,hd⟩:=I.cell x c (B.cells _ _ e)
  exact ⟨v,o,hk _ _ ho,hd⟩
 ·have hp':p∈X.pn++pins:=by simpa [blk] using hp
  obtain ⟨e,n,ne,nf,d⟩:=I.pin p hp'
  refine ⟨hk _ _ e,n,noC _ _ e,fun z=>?_,d⟩
  rcases List.mem_cons.mp (I.stkSub p.1 z) with q | q
  ·exact ne q
  ·exact nf q
 ·show (blkSt src σ).length=N'.length
  unfold blkSt
  rw [List.length_map,B.len]
noncomputable def tComp (src:List (Option Nat)) (wi:TI) (g:TG) (tt:TT) (te:TE):TE:=fun σ H Q=>wi σ H fun J H1=>∀p,H1 p=none→
 ∃W:Nat→Nat→St→Hp→Prop,(∃m,W 0 m (blkSt src σ) (upd H1 p (.lst [])))∧∀i m σ2 H2,W i m σ2 H2→
  (J.stop i H2∧Q (.ref p) H2)∨(J.go i H2∧∀x H3,J.yld i H2 x H3→g x σ2 H3 fun σ4 H4=>tt σ4 H4 fun ok H5=>
   if ok=true then te σ4 H5 fun y H6=>∃xs,H6 p=some (.lst xs)∧xs.length<sizeLine∧∃m',m'<m∧W (i+1) m' σ4 (upd H6 p (.lst (xs ++ [y])))
   else ∃m',m'<m∧W (i+1) m' σ4 H5)
theorem comp_core {X:Cx} {elt tg iter:Expr} {ifs:List Expr} {scope:Scope} {pos:Pos} {N':List Str} {src:List (Option Nat)} {cl:List (Str×Addr)} {g:TG} {tt:TT} {te:TE}
  {pins:List (Addr×Obj)} {σ:St} {H2:Hp} {s₂:Shared} {it:Addr} {fp:List Addr} {tn:Nat→Heap→Prop} {J:It} {Qp:Addr→Hp→Prop} {RR:Value→Addr→Result→Shared→Prop} {E:Value→Shared→Prop}
  (hc:X.calm=true) (B:BlkOk X N' src scope cl)
  (hg:∀pins C s H fp,PG (blk X pins N' scope cl C s H fp) tg g) (ht:∀pins C s H fp,PIfs (blk X pins N' scope cl C s H fp) ifs tt) (he:∀pins C s H fp,PE (blk X pins N' scope cl C s H fp) elt te)
  (I2:Inv X pins σ H2 s₂) (T:Turn X.prog X.w X.K tg J fp it tn) (st2:tn 0 s₂.heap) (f2:∀b∈fp,FpOk X pins H2 b)
  (q2:∀p,H2 p=none→∃W:Nat→Nat→St→Hp→Prop,(∃m,W 0 m (blkSt src σ) (upd H2 p (.lst [])))∧∀i m σ2 H2,W i m σ2 H2→
   (J.stop i H2∧Qp p H2)∨(J.go i H2∧∀x H3,J.yld i H2 x H3→g x σ2 H3 fun σ4 H4=>tt σ4 H4 fun ok H5=>
    if ok=true then te σ4 H5 fun y H6=>∃xs,H6 p=some (.lst xs)∧xs.length<sizeLine∧∃m',m'<m∧W (i+1) m' σ4 (upd H6 p (.lst (xs ++ [y])))
    else ∃m',m'<m∧W (i+1) m' σ4 H5))
  (hfin:∀p C s6 H5 mm,Inv X pins σ H5 s6→s6.heap.Ns C mm→FpOk X pins H5 C→Qp p H5→RR (.ref p) C (.ok .next) s6) :
  wpAny (model X.prog X.w) X.A (newList []) (fun acc s₃=>wpAny (model X.prog X.w) X.A (newFunctionEnv scope X.env.globals cl [] X.env.qual none .none (some X.env)) (fun cenv s₄=>
   codeAny (model X.prog X.w) X.A (.compStart (.ListComp elt [⟨tg,iter,ifs,0⟩] scope pos) 0 (.ref it) acc { cenv with scope:=relabel scope X.env }) (RR acc cenv.locals) s₄) E s₃) E s₂:=by
 have fpold:∀b∈fp,b<s₂.heap.objs.size:=fun b hb=>by
  obtain ⟨o,e,_⟩:=T.obj _ _ st2 b hb
  exact Heap.lt_size e
 have q2:=q2 s₂.heap.objs.size (I2.hok.fresh (Nat.le_refl _))
 obtain ⟨W,⟨m0,w0⟩,turn⟩:=q2
 -- the new list
 refine wpAny_newObj_type ?_
 have I3:Inv X pins σ (upd H2 s₂.heap.objs.size (.lst [])) { s₂ with heap:=s₂.heap.push { cls:=.type "list",dict:=none,data:=.seq ([]:List Value).toArray } }:=
  I2.lnew (t':=s₂.toks) (ys:=[]) .nil (Nat.zero_le _)
 have st3:tn 0 (s₂.heap.push { cls:=.type "list",dict:=none,data:=.seq ([]:List Value).toArray }):=T.keep _ _ _ st2 fun b _ o e=>Heap.get?_push_of_some _ e
 have f3:∀b∈fp,FpOk X pins (upd H2 s₂.heap.objs.size (.lst [])) b:=fun b hb=>by
  obtain ⟨f0,f1⟩:=f2 b hb
  exact ⟨by rw [upd_ne (Nat.ne_of_lt (fpold b hb))];exact f0,f1⟩
 generalize hs3:({ s₂ with heap:=s₂.heap.push { cls:=.type "list",dict:=none,data:=.seq ([]:List Value).toArray } }:Shared)=s₃ at I3
 have st3':tn 0 s₃.heap:=by rw [←hs3];exact st3
 have lt3:s₂.heap.objs.size<s₃.heap.objs.size:=by rw [←hs3];show _<(Heap.push _ _).objs.size;rw [Heap.size_push];exact Nat.lt_succ_self _
 refine wpAny_newFunctionEnv B.nocell (by intro y hy;simp at hy) (fun h₁ hns₁ hsb₁=>?_) B.kind
 have kp1:∀b o,s₃.heap.get? b=some o→h₁.get? b=some o:=fun b o e=>hsb₁.extBut b o (Nat.ne_of_lt (Heap.lt_size e)) (Heap.get?_push_of_some _ e)
 have I4:=blk_inv (s1:={ s₃ with heap:=h₁,toks:=s₃.toks+([]:List (Str×Value)).length }) (C:=s₃.heap.objs.size) B I3 f3 (Nat.le_refl _) (fun b hb=>Nat.ne_of_lt (Nat.lt_trans (fpold b hb) lt3)) rfl rfl kp1 hns₁
 have st4:tn 0 h₁:=T.keep _ _ _ st3' fun b _ o e=>kp1 b o e
 show codeAny (model X.prog X.w) X.A (.compStart (.ListComp elt [⟨tg,iter,ifs,0⟩] scope pos) 0 (.ref it) (.ref s₂.heap.objs.size) (compEnvC scope cl s₃.heap.objs.size X.env)) (RR (.ref s₂.heap.objs.size) s₃.heap.objs.size) _
 generalize hs4:({ s₃ with heap:=h₁,toks:=s₃.toks+([]:List (Str×Value)).length }:Shared)=s₄ at I4
 have st4':tn 0 s₄.heap:=by rw [←hs4];exact st4
 have blkX:∀{b:Addr} {H':Hp},b∈fp→H' b=none→FpOk (blk X pins N' scope cl s₃.heap.objs.size s₃ (upd H2 s₂.heap.objs.size (.lst [])) fp) [] H' b:=fun {b H'} hb hn=>by
  obtain ⟨f0,f1,f2',f3',f4',f5'⟩:=f3 b hb
  refine ⟨hn,Nat.ne_of_lt (Nat.lt_trans (fpold b hb) lt3),fun z=>?_,.inl hb,fun x c e=>f4' x c (B.cells _ _ e),fun p hp=>?_⟩
  ·rcases List.mem_cons.mp (I3.stkSub b z) with e | e
   ·exact f1 e
   ·exact f2' e
  ·exact f5' p (by simpa [blk] using hp)
 have loop:codeAny (model X.prog X.w) X.A (.compLoop (.ListComp elt [⟨tg,iter,ifs,0⟩] scope pos) 0 (.ref it) (.ref s₂.heap.objs.size) (compEnvC scope cl s₃.heap.objs.size X.env)) (RR (.ref s₂.heap.objs.size) s₃.heap.objs.size) s₄:=by
  refine compLoop_go (fun n s'=>∃i σ' H',Inv (blk X pins N' scope cl s₃.heap.objs.size s₃ (upd H2 s₂.heap.objs.size (.lst [])) fp) [] σ' H' s'∧tn i s'.heap∧(∀b∈fp,H' b=none)∧W i n σ' H') ?_ m0 ⟨0,_,_,I4,st4',fun b hb=>(f3 b hb).1,w0⟩
  rintro n s5 ⟨i,σ5,H5,I5,st5,fr5,w5⟩
  rcases turn i n σ5 H5 w5 with ⟨stop,qn⟩ | ⟨go,step⟩
  ·refine wpAny_mono (T.done (blk X pins N' scope cl s₃.heap.objs.size s₃ (upd H2 s₂.heap.objs.size (.lst [])) fp) rfl rfl rfl hc i [] s5 σ5 H5 (fun _ _=>False) I5 (fun b hb=>blkX hb (fr5 b hb)) st5 stop) (fun r s6 ⟨hr,I6⟩=>?_) fun _ _ f=>f.elim
   subst hr
   obtain ⟨mm,hnn,_⟩:=id I6.loc
   have nC:H5 s₃.heap.objs.size=none:=I6.free
   have J1:Inv X pins σ H5 s6:=by
    refine I3.call' (ch:=fp) I6.os I6.base I6.hok I6.bare fun b hb=>?_
    obtain ⟨f0,f1,f2',f3',f4',f5'⟩:=f3 b hb
    exact ⟨f3',f1,f4',f5'⟩
   exact hfin _ _ s6 H5 mm J1 hnn (I3.fpOk (Nat.le_refl _) nC) qn
  ·refine wpAny_mono (T.item (blk X pins N' scope cl s₃.heap.objs.size s₃ (upd H2 s₂.heap.objs.size (.lst [])) fp) rfl rfl rfl hc i [] s5 σ5 H5 (fun _ _=>False) I5 (fun b hb=>blkX hb (fr5 b hb)) st5 go) (fun r s6 ⟨u,hr,h6⟩=>?_) fun _ _ f=>f.elim
   subst hr
   refine wpAny_mono h6 (fun _ s7 ⟨x,H7,I7,r7,y7,st7,fr7⟩=>?_) fun _ _ f=>f.elim
   have I7':=I7.pinned (fun b hb=>blkX hb (fr7 b hb)) (T.obj _ _ st7)
   refine wpAny_mono (hg _ _ _ _ _ _ s7 σ5 H7 x u _ I7' r7 (step x H7 y7)) (fun _ s8 ⟨σ8,H8,I8,q8⟩=>?_) fun _ _ f=>f.elim
   refine wpAny_mono (ht _ _ _ _ _ _ s8 σ8 H8 _ I8 q8) (fun ok s9 ⟨H9,I9,q9⟩=>?_) fun _ _ f=>f.elim
   have again:∀{σ7:St} {H7:Hp} {sz:Shared},Inv (blk X pins N' scope cl s₃.heap.objs.size s₃ (upd H2 s₂.heap.objs.size (.lst [])) fp) ([]++pinsAt fp s7.heap) σ7 H7 sz→(∃m',m'<n∧W (i+1) m' σ7 H7)→
     ∃m,m<n∧∃i σ' H',Inv (blk X pins N' scope cl s₃.heap.objs.size s₃ (upd H2 s₂.heap.objs.size (.lst [])) fp) [] σ' H' sz∧tn i sz.heap∧(∀b∈fp,H' b=none)∧W i m σ' H':=fun {σ7 H7 sz} Iz ⟨m',hm,wz⟩=>by
    refine ⟨m',hm,i+1,σ7,H7,Iz.unpinned,T.keep _ _ _ st7 fun b hb o e=>(Iz.pin (b,o) (List.mem_append_right _ (List.mem_append_right _ (mem_pinsAt hb e)))).1,fun b hb=>?_,wz⟩
    obtain ⟨o,e,d⟩:=T.obj _ _ st7 b hb
    exact (Iz.pin (b,o) (List.mem_append_right _ (List.mem_append_right _ (mem_pinsAt hb e)))).2.1
   cases ok with
   | false=>
    show ∃m,m<n∧_
    exact again I9 (by simpa using q9)
   | true=>
    have q9':te σ8 H9 fun y H6=>∃xs,H6 s₂.heap.objs.size=some (.lst xs)∧xs.length<sizeLine∧∃m',m'<n∧W (i+1) m' σ8 (upd H6 s₂.heap.objs.size (.lst (xs ++ [y]))):=by simpa using q9
    show wpAny _ _ _ _ _ _
    refine wpAny_mono (he _ _ _ _ _ _ s9 σ8 H9 _ I9 q9') (fun y sA ⟨yv,HA,IA,rA,xs,eA,zA,mA⟩=>?_) fun _ _ f=>f.elim
    refine wpAny_mono (mt_append (X:=blk X pins N' scope cl s₃.heap.objs.size s₃ (upd H2 s₂.heap.objs.size (.lst [])) fp) _ sA σ8 HA (.ref s₂.heap.objs.size) [yv] (.ref s₂.heap.objs.size) [y] (fun _ HB=>HB=upd HA s₂.heap.objs.size (.lst (xs ++ [yv]))) IA rfl (.cons rA .nil) ⟨_,xs,yv,rfl,rfl,eA,zA,rfl⟩) (fun _ sB ⟨_,HB,IB,_,eB⟩=>?_) fun _ _ f=>f.elim
    subst eB
    exact again IB mA
 exact codeAny_compStart_list loop (T.self _ 0 _ _ _ st4' loop)
theorem pe_comp {X:Cx} {elt tg iter:Expr} {ifs:List Expr} {scope:Scope} {pos:Pos} {N':List Str} {src:List (Option Nat)} {cl:List (Str×Addr)} {wi:TI} {g:TG} {tt:TT} {te:TE}
  (hc:X.calm=true) (B:BlkOk X N' src scope cl) (hi:PI X tg iter wi)
  (hg:∀pins C s H fp,PG (blk X pins N' scope cl C s H fp) tg g) (ht:∀pins C s H fp,PIfs (blk X pins N' scope cl C s H fp) ifs tt) (he:∀pins C s H fp,PE (blk X pins N' scope cl C s H fp) elt te)
  (hs:∀x,foldedSetIterable iter X.env x=pure x:=by intro _;rfl):PE X (.ListComp elt [⟨tg,iter,ifs,0⟩] scope pos) (tComp src wi g tt te):=by
 intro pins s σ H Q I h
 rw [eval_ListComp]
 refine wpAny_comprehension_free (use:=none) rfl hs B.clos B.kind B.names (wpAny_mono (hi pins s σ H _ I h) (fun xv s₁ h₁=>wpAny_mono h₁ (fun it s₂ h₂=>?_) fun _ _ e=>e) fun _ _ e=>e)
 obtain ⟨it,fp,tn,J,H2,e,I2,T,st2,f2,q2⟩:=h₂
 subst e
 refine comp_core (RR:=fun acc C=>compPost (model X.prog X.w) X.A X.xe none (EP X pins σ Q) acc C) (Qp:=fun p H=>Q (.ref p) H) hc B hg ht he I2 T st2 f2 q2 ?_
 intro p C s6 H5 mm J1 hnn fC qn
 refine ⟨mm,hnn,fun h' sb=>?_⟩
 obtain ⟨c0,c1,c2,c3,c4,c5⟩:=fC
 exact ⟨.ref p,H5,J1.turned (t':=s6.toks) (it:=C) (fun b o hb e=>(sb.2 b hb).trans e) c0 c1 c3 c4 c5,rfl,qn⟩
theorem ps_setC {X:Cx} {elt tg iter:Expr} {ifs:List Expr} {scope:Scope} {pos pos' spos:Pos} {N':List Str} {src:List (Option Nat)} {cl:List (Str×Addr)} {wi:TI} {g:TG} {tt:TT} {te:TE} {i:Nat} {x:Str}
  (hN:X.N.Nodup) (hi':X.N[i]?=some x) (hx:Loc X.env.scope x)
  (hc:X.calm=true) (B:BlkOk X N' src scope cl) (hi:PI X tg iter wi)
  (hg:∀pins C s H fp,PG (blk X pins N' scope cl C s H fp) tg g) (ht:∀pins C s H fp,PIfs (blk X pins N' scope cl C s H fp) ifs tt) (he:∀pins C s H fp,PE (blk X pins N' scope cl C s H fp) elt te)
  (hsw:swapsWith (.ListComp elt [⟨tg,iter,ifs,0⟩] scope pos) (some (.Name x pos')) spos.line X.env=pure true:=by rfl)
  (hs:∀x,foldedSetIterable iter X.env x=pure x:=by intro _;rfl)
  (hf:X.fn x=true∨X.env.scope.names.lookup x=some .local:=by first | exact .inl rfl | exact .inr rfl | assumption) :
  PS X (.Assign [.Name x pos'] (.ListComp elt [⟨tg,iter,ifs,0⟩] scope pos) spos) (fun D σ H=>tComp src wi g tt te σ H fun y H1=>D.nx (σ.set i (some y)) H1):=by
 intro pins s σ H D I h
 rw [exec_Assign_Name_used _ _ _ _ hsw]
 refine wpAny_bind (wpAny_standAt (wpAny_bind ?_))
 show wpAny _ _ (do let _←comprehension (.ListComp elt [⟨tg,iter,ifs,0⟩] scope pos) scope X.env _ (newList []) false (eval iter X.env) (some (assign (.Name x pos') X.env))) _ _ s
 refine wpAny_bind (wpAny_mono (wpAny_comprehension_free (use:=some (assign (.Name x pos') X.env)) (Q:=fun _ s'=>SP X pins D .next s') rfl hs B.clos B.kind B.names
  (wpAny_mono (hi pins s σ H _ I h) (fun xv s₁ h₁=>wpAny_mono h₁ (fun it s₂ h₂=>?_) fun _ _ e=>e) fun _ _ e=>e)) (fun _ s' hq=>wpAny_pure (wpAny_pure hq)) fun _ _ e=>e)
 obtain ⟨it,fp,tn,J,H2,e,I2,T,st2,f2,q2⟩:=h₂
 subst e
 refine comp_core (RR:=fun acc C=>compPost (model X.prog X.w) X.A X.xe (some (assign (.Name x pos') X.env)) (fun _ s'=>SP X pins D .next s') acc C) (Qp:=fun p H=>D.nx (σ.set i (some (.ref p))) H) hc B hg ht he I2 T st2 f2 q2 ?_
 intro p C s6 H5 mm J1 hnn fC qn
 obtain ⟨oC,es,ep,hoC,hdC,hrC⟩:=id hnn
 have fC':∀b∈[C],FpOk X pins H5 b:=by
  intro b hb
  have e:b=C:=by simpa using hb
  rw [e]
  exact fC
 have oC':∀b∈[C],∃o,s6.heap.get? b=some o∧∀v,o.data≠.cell v:=by
  intro b hb
  have e:b=C:=by simpa using hb
  rw [e]
  exact ⟨oC,hoC,fun v z=>by rw [hdC] at z;cases z⟩
 have J2:=J1.pinned (fp:=[C]) fC' oC'
 show wpAny _ _ (assign (.Name x pos') X.env (.ref p)) _ _ _
 refine wpAny_mono (pg_name (X:=X) (pos:=pos') hN hi' hx hf _ s6 σ H5 (.ref p) (.ref p) (fun σ' H'=>σ'=σ.set i (some (.ref p))∧H'=H5) J2 rfl ⟨rfl,rfl⟩) (fun _ s7 ⟨σ7,H7,I7,e7,e7'⟩=>?_) fun _ _ e=>e
 subst e7 e7'
 have pC:=I7.pin (C,oC) (List.mem_append_right _ (List.mem_append_right _ (mem_pinsAt (by simp) hoC)))
 refine ⟨mm,⟨oC,es,ep,pC.1,hdC,hrC⟩,fun h' sb=>?_⟩
 obtain ⟨c0,c1,c2,c3,c4,c5⟩:=fC
 exact ⟨_,_,(I7.unpinned).turned (t':=s7.toks) (it:=C) (fun b o hb e=>(sb.2 b hb).trans e) c0 c1 c3 c4 c5,qn⟩
end L2
namespace TF
open PySem PySem.Spec PyProof.Rows L2
inductive D where
 | non | bl (b:Bool) | int (i:Int) | str (x:Str) | tup (xs:List D) | lst (xs:List D)
 | dk (kvs:List (Key×V)) | dt (kvs:List (List Key×V)) | du (kvs:List (List Key×V)) | df (kvs:List (Key×V)) | pen | ty (n:String) | clo (t:Nat) (caps:List D)
noncomputable abbrev St:=L2.St
noncomputable abbrev Pn:=List Int×List Int
noncomputable abbrev M (α:Type):=Pn→Option (α×Pn)
noncomputable abbrev Rho:=List (Option D)
noncomputable def mret {α:Type} (a:α):M α:=fun s=>some (a,s)
noncomputable def mbind {α β:Type} (m:M α) (k:α→M β):M β:=fun s=>match m s with | none=>none | some p=>k p.1 p.2
noncomputable def mfail {α:Type}:M α:=fun _=>none
noncomputable def mOf {α:Type} (o:Option α):M α:=fun s=>match o with | none=>none | some a=>some (a,s)
theorem mbind_some {α β:Type} {m:M α} {k:α→M β} {s s':Pn} {b:β} (h:mbind m k s=some (b,s')):∃a s1,m s=some (a,s1)∧k a s1=some (b,s'):=by
 unfold mbind at h
 cases e:m s with
 | none=>rw [e] at h;cases h
 | some p=>rw [e] at h;exact ⟨p.1,p.2,rfl,h⟩
theorem mret_some {α:Type} {a b:α} {s s':Pn} (h:mret a s=some (b,s')):b=a∧s'=s:=by
 unfold mret at h
 cases h
 exact ⟨rfl,rfl⟩
theorem mOf_some {α:Type} {o:Option α} {b:α} {s s':Pn} (h:mOf o s=some (b,s')):o=some b∧s'=s:=by
 unfold mOf at h
 cases e:o with
 | none=>rw [e] at h;cases h
 | some a=>rw [e] at h;cases h;exact ⟨rfl,rfl⟩
structure Gh where
 fp:Addr→Prop
 rd:Addr→Prop
 pen:V
 st:Pn→Hp→Prop
 mono:∀s H H',st s H→(∀b o,rd b→H b=some o→H' b=some o)→(∀b φ,H b=some (.ext φ)→H' b=some (.ext φ))→st s H'
 sub:∀b,fp b→rd b
 dom:∀s H b,st s H→rd b→∃o,H b=some o
 ntp:∀s H b vs,st s H→fp b→H b≠some (.tup vs)
 clo:Nat→V→List V→Prop:=fun _ _ _=>False
mutual
noncomputable def Rep (G:Gh) (H:Hp):D→V→Prop
 | .non,v=>v=.non
 | .bl b,v=>v=.bl b
 | .int i,v=>v=.int i
 | .str x,v=>v=.str x
 | .tup ds,v=>∃a vs,v=.ref a∧¬G.fp a∧H a=some (.tup vs)∧RepL G H ds vs
 | .lst ds,v=>∃a vs,v=.ref a∧¬G.fp a∧H a=some (.lst vs)∧RepL G H ds vs
 | .dk kvs,v=>∃a,v=.ref a∧¬G.fp a∧H a=some (.dK kvs)
 | .dt kvs,v=>∃a o,v=.ref a∧¬G.fp a∧H a=some (.frz o (.dT kvs))
 | .du kvs,v=>∃a,v=.ref a∧¬G.fp a∧H a=some (.dT kvs)
 | .df kvs,v=>∃a o,v=.ref a∧¬G.fp a∧H a=some (.frz o (.dK kvs))
 | .pen,v=>v=G.pen
 | .ty n,v=>v=.ty n
 | .clo t ds,v=>∃vs,G.clo t v vs∧RepL G H ds vs
noncomputable def RepL (G:Gh) (H:Hp):List D→List V→Prop
 | [],vs=>vs=[]
 | d::ds,vs=>∃v r,vs=v::r∧Rep G H d v∧RepL G H ds r
end
noncomputable def Ext (G:Gh) (H H':Hp):Prop:=∀b o,¬G.fp b→H b=some o→H' b=some o
theorem Ext.refl (G:Gh) (H:Hp):Ext G H H:=fun _ _ _ e=>e
theorem Ext.trans {G:Gh} {H H1 H2:Hp} (a:Ext G H H1) (b:Ext G H1 H2):Ext G H H2:=fun c o n e=>b c o n (a c o n e)
mutual
theorem Rep.ext {G:Gh} {H H':Hp} (e:Ext G H H'):∀{d:D} {v:V},Rep G H d v→Rep G H' d v
 | .non,_,h=>h
 | .bl _,_,h=>h
 | .int _,_,h=>h
 | .str _,_,h=>h
 | .tup ds,v,h=>by
  unfold Rep at h ⊢
  obtain ⟨a,vs,e1,n,e2,r⟩:=h
  exact ⟨a,vs,e1,n,e _ _ n e2,RepL.ext e r⟩
 | .lst ds,v,h=>by
  unfold Rep at h ⊢
  obtain ⟨a,vs,e1,n,e2,r⟩:=h
  exact ⟨a,vs,e1,n,e _ _ n e2,RepL.ext e r⟩
 | .dk kvs,v,h=>by
  unfold Rep at h ⊢
  obtain ⟨a,e1,n,e2⟩:=h
  exact ⟨a,e1,n,e _ _ n e2⟩
 | .dt kvs,v,h=>by
  unfold Rep at h ⊢
  obtain ⟨a,o,e1,n,e2⟩:=h
  exact ⟨a,o,e1,n,e _ _ n e2⟩
 | .df kvs,v,h=>by
  unfold Rep at h ⊢
  obtain ⟨a,o,e1,n,e2⟩:=h
  exact ⟨a,o,e1,n,e _ _ n e2⟩
 | .du kvs,v,h=>by
  unfold Rep at h ⊢
  obtain ⟨a,e1,n,e2⟩:=h
  exact ⟨a,e1,n,e _ _ n e2⟩
 | .pen,_,h=>h
 | .ty _,_,h=>h
 | .clo t ds,v,h=>by
  unfold Rep at h ⊢
  obtain ⟨vs,c,r⟩:=h
  exact ⟨vs,c,RepL.ext e r⟩
theorem RepL.ext {G:Gh} {H H':Hp} (e:Ext G H H'):∀{ds:List D} {vs:List V},RepL G H ds vs→RepL G H' ds vs
 | [],_,h=>h
 | d::ds,vs,h=>by
  unfold RepL at h ⊢
  obtain ⟨v,r,e1,r1,r2⟩:=h
  exact ⟨v,r,e1,Rep.ext e r1,RepL.ext e r2⟩
end
section
variable {G:Gh} {H:Hp}
theorem Rep.tup_iff {ds:List D} {v:V}:Rep G H (.tup ds) v↔∃a vs,v=.ref a∧¬G.fp a∧H a=some (.tup vs)∧RepL G H ds vs:=by unfold Rep;exact Iff.rfl
theorem Rep.lst_iff {ds:List D} {v:V}:Rep G H (.lst ds) v↔∃a vs,v=.ref a∧¬G.fp a∧H a=some (.lst vs)∧RepL G H ds vs:=by unfold Rep;exact Iff.rfl
theorem Rep.dk_iff {kvs:List (Key×V)} {v:V}:Rep G H (.dk kvs) v↔∃a,v=.ref a∧¬G.fp a∧H a=some (.dK kvs):=by unfold Rep;exact Iff.rfl
theorem Rep.dt_iff {kvs:List (List Key×V)} {v:V}:Rep G H (.dt kvs) v↔∃a o,v=.ref a∧¬G.fp a∧H a=some (.frz o (.dT kvs)):=by unfold Rep;exact Iff.rfl
theorem Rep.du_iff {kvs:List (List Key×V)} {v:V}:Rep G H (.du kvs) v↔∃a,v=.ref a∧¬G.fp a∧H a=some (.dT kvs):=by unfold Rep;exact Iff.rfl
theorem Rep.df_iff {kvs:List (Key×V)} {v:V}:Rep G H (.df kvs) v↔∃a o,v=.ref a∧¬G.fp a∧H a=some (.frz o (.dK kvs)):=by unfold Rep;exact Iff.rfl
theorem Rep.int_iff {i:Int} {v:V}:Rep G H (.int i) v↔v=.int i:=by unfold Rep;exact Iff.rfl
theorem Rep.bl_iff {b:Bool} {v:V}:Rep G H (.bl b) v↔v=.bl b:=by unfold Rep;exact Iff.rfl
theorem Rep.str_iff {b:Str} {v:V}:Rep G H (.str b) v↔v=.str b:=by unfold Rep;exact Iff.rfl
theorem Rep.non_iff {v:V}:Rep G H .non v↔v=.non:=by unfold Rep;exact Iff.rfl
theorem Rep.pen_iff {v:V}:Rep G H .pen v↔v=G.pen:=by unfold Rep;exact Iff.rfl
theorem Rep.ty_iff {n:String} {v:V}:Rep G H (.ty n) v↔v=.ty n:=by unfold Rep;exact Iff.rfl
theorem Rep.clo_iff {t:Nat} {ds:List D} {v:V}:Rep G H (.clo t ds) v↔∃vs,G.clo t v vs∧RepL G H ds vs:=by unfold Rep;exact Iff.rfl
theorem RepL.nil_iff {vs:List V}:RepL G H [] vs↔vs=[]:=by unfold RepL;exact Iff.rfl
theorem RepL.cons_iff {d:D} {ds:List D} {vs:List V}:RepL G H (d::ds) vs↔∃v r,vs=v::r∧Rep G H d v∧RepL G H ds r:=by
 constructor
 ·intro h;unfold RepL at h;exact h
 ·intro h;unfold RepL;exact h
theorem RepL.length:∀{ds:List D} {vs:List V},RepL G H ds vs→ds.length=vs.length
 | [],vs,h=>by rw [RepL.nil_iff.mp h];rfl
 | d::ds,vs,h=>by
  obtain ⟨v,r,rfl,_,h2⟩:=RepL.cons_iff.mp h
  simp [RepL.length h2]
theorem RepL.get:∀{ds:List D} {vs:List V} {i:Nat} {d:D},RepL G H ds vs→ds[i]?=some d→∃v,vs[i]?=some v∧Rep G H d v
 | [],_,_,_,_,e=>by simp at e
 | d::ds,vs,0,d',h,e=>by
  obtain ⟨v,r,rfl,h1,_⟩:=RepL.cons_iff.mp h
  simp at e;subst e
  exact ⟨v,rfl,h1⟩
 | d::ds,vs,i+1,d',h,e=>by
  obtain ⟨v,r,rfl,_,h2⟩:=RepL.cons_iff.mp h
  obtain ⟨u,e1,e2⟩:=RepL.get h2 (i:=i) (d:=d') (by simpa using e)
  exact ⟨u,by simpa using e1,e2⟩
theorem RepL.append:∀{ds es:List D} {vs us:List V},RepL G H ds vs→RepL G H es us→RepL G H (ds++es) (vs++us)
 | [],es,vs,us,h,h'=>by rw [RepL.nil_iff.mp h];exact h'
 | d::ds,es,vs,us,h,h'=>by
  obtain ⟨v,r,rfl,h1,h2⟩:=RepL.cons_iff.mp h
  exact RepL.cons_iff.mpr ⟨v,r++us,rfl,h1,RepL.append h2 h'⟩
theorem RepL.one {d:D} {v:V} (h:Rep G H d v):RepL G H [d] [v]:=RepL.cons_iff.mpr ⟨v,[],rfl,h,RepL.nil_iff.mpr rfl⟩
theorem RepL.cons {d:D} {v:V} {ds:List D} {vs:List V} (h:Rep G H d v) (h2:RepL G H ds vs):RepL G H (d::ds) (v::vs):=RepL.cons_iff.mpr ⟨v,vs,rfl,h,h2⟩
end
noncomputable def Nt (o:Option HO):Prop:=∃u,o=some u∧∀vs,u≠.tup vs
theorem Nt.no {o:Option HO} (h:Nt o) (e:o=none):False:=by
 obtain ⟨u,q,_⟩:=h
 rw [e] at q;cases q
structure Gr (G:Gh) (Hf H Hf' H':Hp):Prop where
 hh:Ext G H H'
 ff:Ext G Hf Hf'
 fh:Ext G Hf' H'
 nw:∀b,¬G.fp b→Hf b=none→Nt (H b)→Hf' b=none
theorem Gr.refl {G:Gh} {Hf H:Hp} (e:Ext G Hf H):Gr G Hf H Hf H:=⟨.refl _ _,.refl _ _,e,fun _ _ h _=>h⟩
theorem Gr.trans {G:Gh} {Hf H Hf1 H1 Hf2 H2:Hp} (a:Gr G Hf H Hf1 H1) (b:Gr G Hf1 H1 Hf2 H2):Gr G Hf H Hf2 H2:=
 ⟨a.hh.trans b.hh,a.ff.trans b.ff,b.fh,fun c n h1 h2=>b.nw c n (a.nw c n h1 h2) (let ⟨u,e,nt⟩:=h2;⟨u,a.hh c u n e,nt⟩)⟩
theorem Gr.new {G:Gh} {Hf H:Hp} {p:Addr} {o:HO} (e:Ext G Hf H) (hp:H p=none) (nf:¬G.fp p):Gr G Hf H (upd Hf p o) (upd H p o) where
 hh:=fun b u n q=>by rw [upd_ne (ne_of_none q hp)];exact q
 ff:=fun b u n q=>by rw [upd_ne (ne_of_none (e b u n q) hp)];exact q
 fh:=fun b u n q=>by
  by_cases hb:b=p
  ·subst hb;rw [upd_same] at q ⊢;exact q
  ·rw [upd_ne hb] at q ⊢;exact e b u n q
 nw:=fun b n h1 h2=>by
  by_cases hb:b=p
  ·subst hb;exact (h2.no hp).elim
  ·rw [upd_ne hb];exact h1
theorem Gh.nofp {G:Gh} {s:Pn} {H:Hp} {p:Addr} (h:G.st s H) (hp:H p=none):¬G.fp p:=fun f=>by
 obtain ⟨o,e⟩:=G.dom s H p h (G.sub p f)
 rw [hp] at e;cases e
theorem Gh.nord {G:Gh} {s:Pn} {H:Hp} {p:Addr} (h:G.st s H) (hp:H p=none):¬G.rd p:=fun f=>by
 obtain ⟨o,e⟩:=G.dom s H p h f
 rw [hp] at e;cases e
theorem Gh.grow {G:Gh} {s:Pn} {H:Hp} {p:Addr} {o:HO} (h:G.st s H) (hp:H p=none):G.st s (upd H p o):=G.mono s H _ h (fun b u _ q=>by
 rw [upd_ne (ne_of_none q hp)];exact q) fun b φ q=>by
 rw [upd_ne (ne_of_none q hp)];exact q
noncomputable def isMut:D→Prop
 | .lst _=>True
 | .dk _=>True
 | .dt _=>True
 | .du _=>True
 | _=>False
noncomputable def FreshL (G:Gh) (H Hf':Hp) (d:D) (v:V):Prop:=∀a,v=.ref a→isMut d→H a=none∧∀ds,d=.lst ds→∃vs Hm,Hf' a=some (.lst vs)∧Hm a=none∧Ext G Hm Hf'∧RepL G Hm ds vs
theorem FreshL.old {G:Gh} {H H' Hf':Hp} {d:D} {v:V} (e:Ext G H H') (r:∀a,v=.ref a→isMut d→¬G.fp a) (h:FreshL G H' Hf' d v):FreshL G H Hf' d v:=fun a ea m=>by
 refine ⟨?_,(h a ea m).2⟩
 cases q:H a with
 | none=>rfl
 | some o=>
  have:=e a o (r a ea m) q
  rw [(h a ea m).1] at this;cases this
theorem Rep.nofp {G:Gh} {H:Hp} {d:D} {v:V} (r:Rep G H d v):∀a,v=.ref a→isMut d→¬G.fp a:=fun a e m=>by
 cases d with
 | lst ds=>obtain ⟨b,vs,e1,n,_⟩:=Rep.lst_iff.mp r;rw [e] at e1;cases e1;exact n
 | dk ds=>obtain ⟨b,e1,n,_⟩:=Rep.dk_iff.mp r;rw [e] at e1;cases e1;exact n
 | dt ds=>obtain ⟨b,_,e1,n,_⟩:=Rep.dt_iff.mp r;rw [e] at e1;cases e1;exact n
 | du ds=>obtain ⟨b,e1,n,_⟩:=Rep.du_iff.mp r;rw [e] at e1;cases e1;exact n
 | _=>exact m.elim
noncomputable def EnvR (G:Gh) (H:Hp) (σ:St) (ρ:Rho):Prop:=∀(i:Nat) (d:D),ρ[i]?=some (some d)→∃v,σ[i]?=some (some v)∧Rep G H d v
theorem EnvR.ext {G:Gh} {H H':Hp} {σ:St} {ρ:Rho} (h:EnvR G H σ ρ) (e:Ext G H H'):EnvR G H' σ ρ:=fun i d q=>let ⟨v,a,b⟩:=h i d q;⟨v,a,b.ext e⟩
noncomputable def PD (X:Cx) (G:Gh) (fr:Bool) (e:Expr) (f:Rho→M D):Prop:=
 ∃t,PE X e t∧∀(σ:St) (Hf H:Hp) (ρ:Rho) (s:Pn) (d:D) (s':Pn) (Q:VK),Ext G Hf H→EnvR G Hf σ ρ→G.st s H→f ρ s=some (d,s')→
  (∀v Hf' H',Gr G Hf H Hf' H'→G.st s' H'→Rep G Hf' d v→(fr=true→FreshL G H Hf' d v)→Q v H')→t σ H Q
noncomputable def PDT (X:Cx) (G:Gh) (e:Expr) (f:Rho→M Bool):Prop:=
 ∃t,PT X e t∧∀(σ:St) (Hf H:Hp) (ρ:Rho) (s:Pn) (b:Bool) (s':Pn) (Q:Bool→Hp→Prop),Ext G Hf H→EnvR G Hf σ ρ→G.st s H→f ρ s=some (b,s')→
  (∀Hf' H',Gr G Hf H Hf' H'→G.st s' H'→Q b H')→t σ H Q
noncomputable def PDA (X:Cx) (G:Gh) (es:List Expr) (f:Rho→M (List D)):Prop:=
 ∃t,PA X es t∧∀(σ:St) (Hf H:Hp) (ρ:Rho) (s:Pn) (ds:List D) (s':Pn) (Q:List V→Hp→Prop),Ext G Hf H→EnvR G Hf σ ρ→G.st s H→f ρ s=some (ds,s')→
  (∀vs Hf' H',Gr G Hf H Hf' H'→G.st s' H'→RepL G Hf' ds vs→Q vs H')→t σ H Q
section
variable {X:Cx} {G:Gh}
theorem PD.weak {e:Expr} {f:Rho→M D} {fr:Bool} (h:PD X G fr e f):PD X G false e f:=by
 obtain ⟨t,p,q⟩:=h
 exact ⟨t,p,fun σ Hf H ρ s d s' Q e1 e2 e3 e4 k=>q σ Hf H ρ s d s' Q e1 e2 e3 e4 fun v Hf' H' g1 g2 g3 _=>k v Hf' H' g1 g2 g3 (fun z=>by cases z)⟩
noncomputable def dVar (i:Nat):Rho→M D:=fun ρ=>mOf ((ρ[i]?).bind id)
noncomputable def dC (d:D):Rho→M D:=fun _=>mret d
theorem pd_var (i:Nat) {x:Str} {pos:Pos} (h:PE X (.Name x pos) (tVar i)):PD X G false (.Name x pos) (dVar i):=by
 refine ⟨_,h,fun σ Hf H ρ s d s' Q e1 e2 e3 e4 k=>?_⟩
 obtain ⟨e,rfl⟩:=mOf_some e4
 have e':ρ[i]?=some (some d):=by
  cases q:ρ[i]? with
  | none=>rw [q] at e;cases e
  | some o=>rw [q] at e;simp at e;rw [e]
 obtain ⟨v,h1,h2⟩:=e2 i d e'
 exact ⟨v,h1,k v Hf H (.refl e1) e3 h2 (fun z=>by cases z)⟩
theorem FreshL.scal {H Hf':Hp} {d:D} {v:V} (h:isMut d→False):FreshL G H Hf' d v:=fun _ _ m=>(h m).elim
theorem pd_int {i:Int} {j pos}:PD X G true (.Constant (.int i) j pos) (dC (.int i)):=by
 refine ⟨_,pe_int,fun σ Hf H ρ s d s' Q e1 e2 e3 e4 k=>?_⟩
 obtain ⟨rfl,rfl⟩:=mret_some e4
 exact k _ Hf H (.refl e1) e3 (Rep.int_iff.mpr rfl) fun _=>.scal fun z=>z
theorem pd_bl {b:Bool} {j pos}:PD X G true (.Constant (.bool b) j pos) (dC (.bl b)):=by
 refine ⟨_,pe_bl,fun σ Hf H ρ s d s' Q e1 e2 e3 e4 k=>?_⟩
 obtain ⟨rfl,rfl⟩:=mret_some e4
 exact k _ Hf H (.refl e1) e3 (Rep.bl_iff.mpr rfl) fun _=>.scal fun z=>z
noncomputable def dNil:Rho→M (List D):=fun _=>mret []
noncomputable def dCons (f:Rho→M D) (g:Rho→M (List D)):Rho→M (List D):=fun ρ=>mbind (f ρ) fun d=>mbind (g ρ) fun ds=>mret (d::ds)
theorem pda_nil:PDA X G [] dNil:=by
 refine ⟨_,pa_nil,fun σ Hf H ρ s d s' Q e1 e2 e3 e4 k=>?_⟩
 obtain ⟨rfl,rfl⟩:=mret_some e4
 exact k _ Hf H (.refl e1) e3 (RepL.nil_iff.mpr rfl)
theorem pda_cons {e:Expr} {es:List Expr} {f:Rho→M D} {g:Rho→M (List D)} {fr:Bool} (h:PD X G fr e f) (hr:PDA X G es g) (hs:starEach (e::es) X.env=(false,eval e X.env)::starEach es X.env:=by rfl):PDA X G (e::es) (dCons f g):=by
 obtain ⟨t,p,q⟩:=h
 obtain ⟨u,p2,q2⟩:=hr
 refine ⟨_,pa_cons p p2 hs,fun σ Hf H ρ s ds s' Q e1 e2 e3 e4 k=>?_⟩
 obtain ⟨d,s1,a1,a2⟩:=mbind_some e4
 obtain ⟨r,s2,a3,a4⟩:=mbind_some a2
 obtain ⟨rfl,rfl⟩:=mret_some a4
 refine q σ Hf H ρ s d s1 _ e1 e2 e3 a1 fun v Hf1 H1 g1 st1 r1 _=>?_
 refine q2 σ Hf1 H1 ρ s1 r _ _ g1.fh (e2.ext g1.ff) st1 a3 fun vs Hf2 H2 g2 st2 r2=>?_
 exact k _ Hf2 H2 (g1.trans g2) st2 (RepL.cons (r1.ext g2.ff) r2)
noncomputable def dTup (f:Rho→M (List D)):Rho→M D:=fun ρ=>mbind (f ρ) fun ds=>if ds.length≤sizeLine then mret (.tup ds) else mfail
noncomputable def dLst (f:Rho→M (List D)):Rho→M D:=fun ρ=>mbind (f ρ) fun ds=>if ds.length≤sizeLine then mret (.lst ds) else mfail
theorem mif_some {α:Type} {c:Prop} [Decidable c] {a:M α} {s s':Pn} {b:α} (h:(if c then a else mfail) s=some (b,s')):c∧a s=some (b,s'):=by
 split at h
 ·rename_i hc;exact ⟨hc,h⟩
 ·cases h
theorem FreshL.mk {Hf H:Hp} {p:Addr} {vs:List V} {ds:List D} (e:Ext G Hf H) (hp:H p=none) (nf:¬G.fp p) (r:RepL G Hf ds vs):FreshL G H (upd Hf p (.lst vs)) (.lst ds) (.ref p):=fun a ea _=>by
 cases ea
 refine ⟨hp,fun ds' ed=>?_⟩
 cases ed
 have hf:Hf p=none:=by
  cases q:Hf p with
  | none=>rfl
  | some o=>rw [e p o nf q] at hp;cases hp
 exact ⟨vs,Hf,upd_same,hf,fun b o n q=>by rw [upd_ne (ne_of_none q hf)];exact q,r⟩
theorem pd_tup {es:List Expr} {f:Rho→M (List D)} {x1:Nat} {pos:Pos} (h:PDA X G es f):PD X G true (.Tuple es x1 pos) (dTup f):=by
 obtain ⟨t,p,q⟩:=h
 refine ⟨_,pe_tup p,fun σ Hf H ρ s d s' Q e1 e2 e3 e4 k=>?_⟩
 obtain ⟨ds,s1,a1,a2⟩:=mbind_some e4
 obtain ⟨hl,a3⟩:=mif_some a2
 obtain ⟨rfl,rfl⟩:=mret_some a3
 refine q σ Hf H ρ s ds s' _ e1 e2 e3 a1 fun vs Hf1 H1 g1 st1 r1=>⟨by rw [←r1.length];exact hl,fun p hp=>?_⟩
 have nf:=Gh.nofp st1 hp
 have g2:=Gr.new (o:=.tup vs) g1.fh hp nf
 exact k (.ref p) _ _ (g1.trans g2) (Gh.grow st1 hp) (Rep.tup_iff.mpr ⟨p,vs,rfl,nf,upd_same,r1.ext g2.ff⟩) fun _=>.scal fun z=>z
theorem pd_lst {es:List Expr} {f:Rho→M (List D)} {pos:Pos} (h:PDA X G es f):PD X G true (.List es pos) (dLst f):=by
 obtain ⟨t,p,q⟩:=h
 refine ⟨_,pe_lst p,fun σ Hf H ρ s d s' Q e1 e2 e3 e4 k=>?_⟩
 obtain ⟨ds,s1,a1,a2⟩:=mbind_some e4
 obtain ⟨hl,a3⟩:=mif_some a2
 obtain ⟨rfl,rfl⟩:=mret_some a3
 refine q σ Hf H ρ s ds s' _ e1 e2 e3 a1 fun vs Hf1 H1 g1 st1 r1=>⟨by rw [←r1.length];exact hl,fun p hp=>?_⟩
 have nf:=Gh.nofp st1 hp
 have g2:=Gr.new (o:=.lst vs) g1.fh hp nf
 refine k (.ref p) _ _ (g1.trans g2) (Gh.grow st1 hp) (Rep.lst_iff.mpr ⟨p,vs,rfl,nf,upd_same,r1.ext g2.ff⟩) fun _=>FreshL.old g1.hh (fun a ea _=>by cases ea;exact nf) (FreshL.mk g1.fh hp nf r1)
noncomputable def OpD (X:Cx) (G:Gh) (f:Value→Value→Sem Value) (g:D→D→Option D):Prop:=
 ∃r,OpR X f r∧∀(Hf H:Hp) (s:Pn) (x y:V) (d e c:D) (Q:VK),Ext G Hf H→G.st s H→Rep G Hf d x→Rep G Hf e y→g d e=some c→
  (∀v Hf' H',Gr G Hf H Hf' H'→G.st s H'→Rep G Hf' c v→FreshL G H Hf' c v→Q v H')→r x y H Q
noncomputable def dOp (g:D→D→Option D) (a b:Rho→M D):Rho→M D:=fun ρ=>mbind (a ρ) fun d=>mbind (b ρ) fun e=>mOf (g d e)
theorem op2D {fa fb:Rho→M D} {g:D→D→Option D} {ta tb:TE} {r:R2}
  (qa:∀(σ:St) (Hf H:Hp) (ρ:Rho) (s:Pn) (d:D) (s':Pn) (Q:VK),Ext G Hf H→EnvR G Hf σ ρ→G.st s H→fa ρ s=some (d,s')→(∀v Hf' H',Gr G Hf H Hf' H'→G.st s' H'→Rep G Hf' d v→Q v H')→ta σ H Q)
  (qb:∀(σ:St) (Hf H:Hp) (ρ:Rho) (s:Pn) (d:D) (s':Pn) (Q:VK),Ext G Hf H→EnvR G Hf σ ρ→G.st s H→fb ρ s=some (d,s')→(∀v Hf' H',Gr G Hf H Hf' H'→G.st s' H'→Rep G Hf' d v→Q v H')→tb σ H Q)
  (qo:∀(Hf H:Hp) (s:Pn) (x y:V) (d e c:D) (Q:VK),Ext G Hf H→G.st s H→Rep G Hf d x→Rep G Hf e y→g d e=some c→(∀v Hf' H',Gr G Hf H Hf' H'→G.st s H'→Rep G Hf' c v→FreshL G H Hf' c v→Q v H')→r x y H Q)
  (σ:St) (Hf H:Hp) (ρ:Rho) (s:Pn) (d:D) (s':Pn) (Q:VK) (e1:Ext G Hf H) (e2:EnvR G Hf σ ρ) (e3:G.st s H) (e4:dOp g fa fb ρ s=some (d,s'))
  (k:∀v Hf' H',Gr G Hf H Hf' H'→G.st s' H'→Rep G Hf' d v→FreshL G H Hf' d v→Q v H'):tOp r ta tb σ H Q:=by
 obtain ⟨da,s1,a1,a2⟩:=mbind_some e4
 obtain ⟨db,s2,a3,a4⟩:=mbind_some a2
 obtain ⟨a5,rfl⟩:=mOf_some a4
 refine qa σ Hf H ρ s da s1 _ e1 e2 e3 a1 fun x Hf1 H1 g1 st1 r1=>?_
 refine qb σ Hf1 H1 ρ s1 db _ _ g1.fh (e2.ext g1.ff) st1 a3 fun y Hf2 H2 g2 st2 r2=>?_
 refine qo Hf2 H2 _ x y da db d Q g2.fh st2 (r1.ext g2.ff) r2 a5 fun v Hf3 H3 g3 st3 r3 fz=>?_
 exact k v Hf3 H3 ((g1.trans g2).trans g3) st3 r3 (FreshL.old (g1.hh.trans g2.hh) r3.nofp fz)
theorem PD.drop {e:Expr} {f:Rho→M D} {fr:Bool} (h:PD X G fr e f):∃t,PE X e t∧∀(σ:St) (Hf H:Hp) (ρ:Rho) (s:Pn) (d:D) (s':Pn) (Q:VK),Ext G Hf H→EnvR G Hf σ ρ→G.st s H→f ρ s=some (d,s')→
  (∀v Hf' H',Gr G Hf H Hf' H'→G.st s' H'→Rep G Hf' d v→Q v H')→t σ H Q:=by
 obtain ⟨t,p,q⟩:=h
 exact ⟨t,p,fun σ Hf H ρ s d s' Q a b c d' k=>q σ Hf H ρ s d s' Q a b c d' fun v Hf' H' g1 g2 g3 _=>k v Hf' H' g1 g2 g3⟩
theorem pd_op {a b:Expr} {op:Operator} {pos:Pos} {fa fb:Rho→M D} {g:D→D→Option D} {r1 r2:Bool} (ho:OpD X G (binaryOp op) g) (ha:PD X G r1 a fa) (hb:PD X G r2 b fb):PD X G true (.BinOp a op b pos) (dOp g fa fb):=by
 obtain ⟨r,po,qo⟩:=ho
 obtain ⟨ta,pa,qa⟩:=ha.drop
 obtain ⟨tb,pb,qb⟩:=hb.drop
 exact ⟨_,pe_op po pa pb,fun σ Hf H ρ s d s' Q e1 e2 e3 e4 k=>op2D qa qb qo σ Hf H ρ s d s' Q e1 e2 e3 e4 fun v Hf' H' g1 g2 g3 fz=>k v Hf' H' g1 g2 g3 fun _=>fz⟩
theorem pd_cmp {a b:Expr} {op:CmpOp} {pos:Pos} {fa fb:Rho→M D} {g:D→D→Option D} {r1 r2:Bool} (ho:OpD X G (compareOp op) g) (ha:PD X G r1 a fa) (hb:PD X G r2 b fb)
  (hm:behindInMarks op b=false:=by first | exact nomark _ | with_unfolding_all rfl):PD X G true (.Compare a [op] [b] pos) (dOp g fa fb):=by
 obtain ⟨r,po,qo⟩:=ho
 obtain ⟨ta,pa,qa⟩:=ha.drop
 obtain ⟨tb,pb,qb⟩:=hb.drop
 exact ⟨_,pe_cmpR po pa pb hm,fun σ Hf H ρ s d s' Q e1 e2 e3 e4 k=>op2D qa qb qo σ Hf H ρ s d s' Q e1 e2 e3 e4 fun v Hf' H' g1 g2 g3 fz=>k v Hf' H' g1 g2 g3 fun _=>fz⟩
noncomputable def asB (f:Rho→M D):Rho→M Bool:=fun ρ=>mbind (f ρ) fun d=>match d with | .bl b=>mret b | _=>mfail
theorem asB_some {f:Rho→M D} {ρ:Rho} {s s':Pn} {b:Bool} (h:asB f ρ s=some (b,s')):f ρ s=some (.bl b,s'):=by
 obtain ⟨d,s1,a1,a2⟩:=mbind_some h
 cases d with
 | bl c=>obtain ⟨rfl,rfl⟩:=mret_some a2;exact a1
 | _=>cases a2
theorem pdt_cmp {a b:Expr} {op:CmpOp} {pos:Pos} {fa fb:Rho→M D} {g:D→D→Option D} {r1 r2:Bool} (ho:OpD X G (compareOp op) g) (ha:PD X G r1 a fa) (hb:PD X G r2 b fb)
  (hm:behindInMarks op b=false:=by first | exact nomark _ | with_unfolding_all rfl):PDT X G (.Compare a [op] [b] pos) (asB (dOp g fa fb)):=by
 obtain ⟨r,po,qo⟩:=ho
 obtain ⟨ta,pa,qa⟩:=ha.drop
 obtain ⟨tb,pb,qb⟩:=hb.drop
 refine ⟨_,pt_cmpR po pa pb hm,fun σ Hf H ρ s c s' Q e1 e2 e3 e4 k=>?_⟩
 exact op2D qa qb qo σ Hf H ρ s (.bl c) s' _ e1 e2 e3 (asB_some e4) fun v Hf' H' g1 g2 g3 fz=>⟨c,Rep.bl_iff.mp g3,k Hf' H' g1 g2⟩
theorem pdt_val {e:Expr} {f:Rho→M D} {fr:Bool} (h:PD X G fr e f) (he:∀whole,isTrue e X.env whole=(do let v←whole;standAt e.pos;holding [v] (truthy v)):=by intro _;rfl):PDT X G e (asB f):=by
 obtain ⟨t,p,q⟩:=h
 refine ⟨_,pt_val p he,fun σ Hf H ρ s c s' Q e1 e2 e3 e4 k=>?_⟩
 exact q σ Hf H ρ s (.bl c) s' _ e1 e2 e3 (asB_some e4) fun v Hf' H' g1 g2 g3 fz=>⟨c,Rep.bl_iff.mp g3,k Hf' H' g1 g2⟩
noncomputable def bNot (f:Rho→M Bool):Rho→M Bool:=fun ρ=>mbind (f ρ) fun b=>mret (!b)
theorem pdt_not {a:Expr} {pos:Pos} {f:Rho→M Bool} (h:PDT X G a f):PDT X G (.UnaryOp .Not a pos) (bNot f):=by
 obtain ⟨t,p,q⟩:=h
 refine ⟨_,pt_not p,fun σ Hf H ρ s c s' Q e1 e2 e3 e4 k=>?_⟩
 obtain ⟨b,s1,a1,a2⟩:=mbind_some e4
 obtain ⟨rfl,rfl⟩:=mret_some a2
 exact q σ Hf H ρ s b s' _ e1 e2 e3 a1 fun Hf' H' g1 g2=>k Hf' H' g1 g2
noncomputable def bAnd (f g:Rho→M Bool):Rho→M Bool:=fun ρ=>mbind (f ρ) fun b=>if b=true then g ρ else mret false
noncomputable def bOr (f g:Rho→M Bool):Rho→M Bool:=fun ρ=>mbind (f ρ) fun b=>if b=true then mret true else g ρ
noncomputable def PDW (X:Cx) (G:Gh) (e:Expr) (f:Rho→M Bool):Prop:=
 ∃t,PW X e t∧∀(σ:St) (Hf H:Hp) (ρ:Rho) (s:Pn) (b:Bool) (s':Pn) (Q:Bool→Hp→Prop),Ext G Hf H→EnvR G Hf σ ρ→G.st s H→f ρ s=some (b,s')→
  (∀Hf' H',Gr G Hf H Hf' H'→G.st s' H'→Q b H')→t σ H Q
theorem PDW.pt {e:Expr} {f:Rho→M Bool} (h:PDW X G e f):PDT X G e f:=by
 obtain ⟨t,p,q⟩:=h
 exact ⟨t,p.pt,q⟩
theorem pdw_and1 {a:Expr} {pos:Pos} {f:Rho→M Bool} (h:PDT X G a f):PDW X G (.BoolOp .And [a] pos) f:=by
 obtain ⟨t,p,q⟩:=h
 exact ⟨t,pw_and1 p,q⟩
theorem pdw_or1 {a:Expr} {pos:Pos} {f:Rho→M Bool} (h:PDT X G a f):PDW X G (.BoolOp .Or [a] pos) f:=by
 obtain ⟨t,p,q⟩:=h
 exact ⟨t,pw_or1 p,q⟩
theorem pdw_and {a b:Expr} {rest:List Expr} {pos:Pos} {f g:Rho→M Bool} (h:PDT X G a f) (h2:PDW X G (.BoolOp .And (b::rest) pos) g):PDW X G (.BoolOp .And (a::b::rest) pos) (bAnd f g):=by
 obtain ⟨t,p,q⟩:=h
 obtain ⟨u,p2,q2⟩:=h2
 refine ⟨_,pw_and p p2,fun σ Hf H ρ s c s' Q e1 e2 e3 e4 k=>?_⟩
 obtain ⟨b,s1,a1,a2⟩:=mbind_some e4
 refine q σ Hf H ρ s b s1 _ e1 e2 e3 a1 fun Hf1 H1 g1 st1=>?_
 cases b with
 | true=>exact q2 σ Hf1 H1 ρ s1 c s' _ g1.fh (e2.ext g1.ff) st1 a2 fun Hf2 H2 g2 st2=>k Hf2 H2 (g1.trans g2) st2
 | false=>obtain ⟨rfl,rfl⟩:=mret_some a2;exact k Hf1 H1 g1 st1
theorem pdw_or {a b:Expr} {rest:List Expr} {pos:Pos} {f g:Rho→M Bool} (h:PDT X G a f) (h2:PDW X G (.BoolOp .Or (b::rest) pos) g):PDW X G (.BoolOp .Or (a::b::rest) pos) (bOr f g):=by
 obtain ⟨t,p,q⟩:=h
 obtain ⟨u,p2,q2⟩:=h2
 refine ⟨_,pw_or p p2,fun σ Hf H ρ s c s' Q e1 e2 e3 e4 k=>?_⟩
 obtain ⟨b,s1,a1,a2⟩:=mbind_some e4
 refine q σ Hf H ρ s b s1 _ e1 e2 e3 a1 fun Hf1 H1 g1 st1=>?_
 cases b with
 | true=>obtain ⟨rfl,rfl⟩:=mret_some a2;exact k Hf1 H1 g1 st1
 | false=>exact q2 σ Hf1 H1 ρ s1 c s' _ g1.fh (e2.ext g1.ff) st1 a2 fun Hf2 H2 g2 st2=>k Hf2 H2 (g1.trans g2) st2
noncomputable def vAnd (f g:Rho→M D):Rho→M D:=fun ρ=>mbind (f ρ) fun d=>match d with | .bl true=>g ρ | .bl false=>mret (.bl false) | _=>mfail
noncomputable def vOr (f g:Rho→M D):Rho→M D:=fun ρ=>mbind (f ρ) fun d=>match d with | .bl true=>mret (.bl true) | .bl false=>g ρ | _=>mfail
noncomputable def vNot (f:Rho→M D):Rho→M D:=fun ρ=>mbind (f ρ) fun d=>match d with | .bl b=>mret (.bl (!b)) | _=>mfail
theorem pd_one {op} {a:Expr} {pos:Pos} {fr:Bool} {f:Rho→M D} (h:PD X G fr a f):PD X G false (.BoolOp op [a] pos) f:=by
 obtain ⟨t,p,q⟩:=h.weak
 exact ⟨t,pe_one p,q⟩
theorem pd_and {a b:Expr} {rest:List Expr} {pos:Pos} {r1 r2:Bool} {f g:Rho→M D} (h:PD X G r1 a f) (h2:PD X G r2 (.BoolOp .And (b::rest) pos) g):PD X G false (.BoolOp .And (a::b::rest) pos) (vAnd f g):=by
 obtain ⟨t,p,q⟩:=h.drop
 obtain ⟨u,p2,q2⟩:=h2.drop
 refine ⟨_,pe_and p p2,fun σ Hf H ρ s c s' Q e1 e2 e3 e4 k=>?_⟩
 obtain ⟨d,s1,a1,a2⟩:=mbind_some e4
 refine q σ Hf H ρ s d s1 _ e1 e2 e3 a1 fun v Hf1 H1 g1 st1 r1=>?_
 cases d with
 | bl b=>
  cases b with
  | true=>exact ⟨true,Rep.bl_iff.mp r1,iteT (q2 σ Hf1 H1 ρ s1 c s' _ g1.fh (e2.ext g1.ff) st1 a2 fun v Hf2 H2 g2 st2 r2=>k v Hf2 H2 (g1.trans g2) st2 r2 (fun z=>by cases z))⟩
  | false=>obtain ⟨rfl,rfl⟩:=mret_some a2;exact ⟨false,Rep.bl_iff.mp r1,iteF (k _ Hf1 H1 g1 st1 (Rep.bl_iff.mpr rfl) (fun z=>by cases z))⟩
 | _=>cases a2
theorem pd_or {a b:Expr} {rest:List Expr} {pos:Pos} {r1 r2:Bool} {f g:Rho→M D} (h:PD X G r1 a f) (h2:PD X G r2 (.BoolOp .Or (b::rest) pos) g):PD X G false (.BoolOp .Or (a::b::rest) pos) (vOr f g):=by
 obtain ⟨t,p,q⟩:=h.drop
 obtain ⟨u,p2,q2⟩:=h2.drop
 refine ⟨_,pe_or p p2,fun σ Hf H ρ s c s' Q e1 e2 e3 e4 k=>?_⟩
 obtain ⟨d,s1,a1,a2⟩:=mbind_some e4
 refine q σ Hf H ρ s d s1 _ e1 e2 e3 a1 fun v Hf1 H1 g1 st1 r1=>?_
 cases d with
 | bl b=>
  cases b with
  | false=>exact ⟨false,Rep.bl_iff.mp r1,iteF (q2 σ Hf1 H1 ρ s1 c s' _ g1.fh (e2.ext g1.ff) st1 a2 fun v Hf2 H2 g2 st2 r2=>k v Hf2 H2 (g1.trans g2) st2 r2 (fun z=>by cases z))⟩
  | true=>obtain ⟨rfl,rfl⟩:=mret_some a2;exact ⟨true,Rep.bl_iff.mp r1,iteT (k _ Hf1 H1 g1 st1 (Rep.bl_iff.mpr rfl) (fun z=>by cases z))⟩
 | _=>cases a2
theorem pd_not {a:Expr} {pos:Pos} {r1:Bool} {f:Rho→M D} (h:PD X G r1 a f):PD X G true (.UnaryOp .Not a pos) (vNot f):=by
 obtain ⟨t,p,q⟩:=h.drop
 refine ⟨_,pe_not p,fun σ Hf H ρ s c s' Q e1 e2 e3 e4 k=>?_⟩
 obtain ⟨d,s1,a1,a2⟩:=mbind_some e4
 refine q σ Hf H ρ s d s1 _ e1 e2 e3 a1 fun v Hf1 H1 g1 st1 r1=>?_
 cases d with
 | bl b=>obtain ⟨rfl,rfl⟩:=mret_some a2;exact ⟨b,Rep.bl_iff.mp r1,k _ Hf1 H1 g1 st1 (Rep.bl_iff.mpr rfl) fun _=>.scal fun z=>z⟩
 | _=>cases a2
noncomputable def dIf (c:Rho→M Bool) (f g:Rho→M D):Rho→M D:=fun ρ=>mbind (c ρ) fun b=>if b=true then f ρ else g ρ
theorem pd_if {c a b:Expr} {pos:Pos} {r1 r2:Bool} {fc:Rho→M Bool} {f g:Rho→M D} (hc:PDT X G c fc) (ha:PD X G r1 a f) (hb:PD X G r2 b g):PD X G false (.IfExp c a b pos) (dIf fc f g):=by
 obtain ⟨tc,pc,qc⟩:=hc
 obtain ⟨ta,pa,qa⟩:=ha.drop
 obtain ⟨tb,pb,qb⟩:=hb.drop
 refine ⟨_,pe_ifExp pc pa pb,fun σ Hf H ρ s d s' Q e1 e2 e3 e4 k=>?_⟩
 obtain ⟨b,s1,a1,a2⟩:=mbind_some e4
 refine qc σ Hf H ρ s b s1 _ e1 e2 e3 a1 fun Hf1 H1 g1 st1=>?_
 cases b with
 | true=>exact iteT (qa σ Hf1 H1 ρ s1 d s' _ g1.fh (e2.ext g1.ff) st1 a2 fun v Hf2 H2 g2 st2 r2=>k v Hf2 H2 (g1.trans g2) st2 r2 (fun z=>by cases z))
 | false=>exact iteF (qb σ Hf1 H1 ρ s1 d s' _ g1.fh (e2.ext g1.ff) st1 a2 fun v Hf2 H2 g2 st2 r2=>k v Hf2 H2 (g1.trans g2) st2 r2 (fun z=>by cases z))
noncomputable def CallD (X:Cx) (G:Gh) (f:Value) (g:List D→Option D):Prop:=
 ∃r,CallR X f r∧∀(Hf H:Hp) (s:Pn) (xs:List V) (ds:List D) (c:D) (Q:VK),Ext G Hf H→G.st s H→RepL G Hf ds xs→g ds=some c→
  (∀v Hf' H',Gr G Hf H Hf' H'→G.st s H'→Rep G Hf' c v→FreshL G H Hf' c v→Q v H')→r xs H Q
noncomputable def dCall (g:List D→Option D) (fs:Rho→M (List D)):Rho→M D:=fun ρ=>mbind (fs ρ) fun ds=>mOf (g ds)
theorem pd_callB {id:String} {x:Str} {p pos:Pos} {e:Expr} {es:List Expr} {g:List D→Option D} {fs:Rho→M (List D)} (hc:CallD X G (.builtin id) g) (hg:Gl X x) (hm:X.mg x=none) (hv:bootBuiltins x=some (.builtin id)) (ha:PDA X G (e::es) fs)
  (hn:x≠"__name__":=by decide) (hdb:(x==("__debug__" : Str))=false:=by decide)
  (he:starEach (e::es) X.env=(false,eval e X.env)::starEach es X.env:=by rfl) (hpl:(backTo pos (starEach es X.env)).any (·.1)=false:=by rfl):PD X G true (.Call (.Name x p) (e::es) [] pos) (dCall g fs):=by
 obtain ⟨r,pr,qr⟩:=hc
 obtain ⟨t,pa,qa⟩:=ha
 refine ⟨_,pe_callB pr hg hm hv pa hn hdb he hpl,fun σ Hf H ρ s d s' Q e1 e2 e3 e4 k=>?_⟩
 obtain ⟨ds,s1,a1,a2⟩:=mbind_some e4
 obtain ⟨a3,rfl⟩:=mOf_some a2
 refine qa σ Hf H ρ s ds _ _ e1 e2 e3 a1 fun vs Hf1 H1 g1 st1 r1=>?_
 exact qr Hf1 H1 _ vs ds d Q g1.fh st1 r1 a3 fun v Hf2 H2 g2 st2 r2 fz=>k v Hf2 H2 (g1.trans g2) st2 r2 fun _=>FreshL.old g1.hh r2.nofp fz
theorem pd_callTy {T:String} {x:Str} {p pos:Pos} {e:Expr} {es:List Expr} {g:List D→Option D} {fs:Rho→M (List D)} (hc:CallD X G (.type T) g) (hg:Gl X x) (hm:X.mg x=none) (hv:bootBuiltins x=some (.type T)) (ha:PDA X G (e::es) fs)
  (hn:x≠"__name__":=by decide) (hdb:(x==("__debug__" : Str))=false:=by decide)
  (he:starEach (e::es) X.env=(false,eval e X.env)::starEach es X.env:=by rfl) (hpl:(backTo pos (starEach es X.env)).any (·.1)=false:=by rfl):PD X G true (.Call (.Name x p) (e::es) [] pos) (dCall g fs):=by
 obtain ⟨r,pr,qr⟩:=hc
 obtain ⟨t,pa,qa⟩:=ha
 refine ⟨_,pe_callTy pr hg hm hv pa hn hdb he hpl,fun σ Hf H ρ s d s' Q e1 e2 e3 e4 k=>?_⟩
 obtain ⟨ds,s1,a1,a2⟩:=mbind_some e4
 obtain ⟨a3,rfl⟩:=mOf_some a2
 refine qa σ Hf H ρ s ds _ _ e1 e2 e3 a1 fun vs Hf1 H1 g1 st1 r1=>?_
 exact qr Hf1 H1 _ vs ds d Q g1.fh st1 r1 a3 fun v Hf2 H2 g2 st2 r2 fz=>k v Hf2 H2 (g1.trans g2) st2 r2 fun _=>FreshL.old g1.hh r2.nofp fz
noncomputable def IxD (X:Cx) (G:Gh) (g:D→D→Option D):Prop:=
 ∃r,IxR X r∧∀(Hf H:Hp) (s:Pn) (x y:V) (d e c:D) (Q:VK),Ext G Hf H→G.st s H→Rep G Hf d x→Rep G Hf e y→g d e=some c→
  (∀v,Rep G Hf c v→Q v H)→r x y H Q
theorem pd_ix {a b:Expr} {pos:Pos} {fa fb:Rho→M D} {g:D→D→Option D} {r1 r2:Bool} (ho:IxD X G g) (ha:PD X G r1 a fa) (hb:PD X G r2 b fb) (hs:PlainIx b:=by intro _ _;rfl):PD X G false (.Subscript a b pos) (dOp g fa fb):=by
 obtain ⟨r,po,qo⟩:=ho
 obtain ⟨ta,pa,qa⟩:=ha.drop
 obtain ⟨tb,pb,qb⟩:=hb.drop
 refine ⟨_,pe_ix po pa pb hs,fun σ Hf H ρ s d s' Q e1 e2 e3 e4 k=>?_⟩
 obtain ⟨da,s1,a1,a2⟩:=mbind_some e4
 obtain ⟨db,s2,a3,a4⟩:=mbind_some a2
 obtain ⟨a5,rfl⟩:=mOf_some a4
 refine qa σ Hf H ρ s da s1 _ e1 e2 e3 a1 fun x Hf1 H1 g1 st1 r1=>?_
 refine qb σ Hf1 H1 ρ s1 db _ _ g1.fh (e2.ext g1.ff) st1 a3 fun y Hf2 H2 g2 st2 r2=>?_
 exact qo Hf2 H2 _ x y da db d Q g2.fh st2 (r1.ext g2.ff) r2 a5 fun v r3=>k v Hf2 H2 (g1.trans g2) st2 r3 (fun z=>by cases z)
noncomputable def spD (n:Nat) (fr:Bool) (GG:Gh→Prop) (F:List D→M D):Sp:=fun vs H Q _=>∃(G:Gh) (Hf:Hp) (ds:List D) (s:Pn) (d:D) (s':Pn),GG G∧vs.length=n∧Ext G Hf H∧RepL G Hf ds vs∧G.st s H∧F ds s=some (d,s')∧
 ∀v Hf' H',Gr G Hf H Hf' H'→G.st s' H'→Rep G Hf' d v→(fr=true→FreshL G H Hf' d v)→Q v H'
noncomputable def dFn (F:List D→M D) (fs:Rho→M (List D)):Rho→M D:=fun ρ=>mbind (fs ρ) F
theorem pd_call {CX:CXT} {k:Nat} {f:Addr} {fd:FuncData} {ps:List Str} {n:Nat} {fr:Bool} {GG:Gh→Prop} {F:List D→M D} {E:XK} {x:Str} {p pos:Pos} {e:Expr} {es:List Expr} {fs:Rho→M (List D)}
  (FN:FnOk X.prog X.w X.K X.mg X.base CX k f fd ps (spD n fr GG F)) (hG:GG G) (hr:Room k X.A) (hg:Gl X x) (hm:X.mg x=some (.ref f)) (hk:PySem.W.keepIn X.K (.ref f)=true) (hb:Binds X.K fd ps []) (hx:Passes CX X E)
  (ha:PDA X G (e::es) fs) (hlen:(e::es).length=n:=by rfl) (hal:∀ρ s ds s',fs ρ s=some (ds,s')→ds.length=(e::es).length)
  (hdb:(x==("__debug__" : Str))=false:=by decide) (he:starEach (e::es) X.env=(false,eval e X.env)::starEach es X.env:=by rfl) (hpl:(backTo pos (starEach es X.env)).any (·.1)=false:=by rfl) :
  PD X G fr (.Call (.Name x p) (e::es) [] pos) (dFn F fs):=by
 obtain ⟨t,pa,qa⟩:=ha
 refine ⟨_,pe_call FN hr hg hm hk hb .nil hx pa hdb he hpl,fun σ Hf H ρ s d s' Q e1 e2 e3 e4 k=>?_⟩
 obtain ⟨ds,s1,a1,a2⟩:=mbind_some e4
 refine qa σ Hf H ρ s ds _ _ e1 e2 e3 a1 fun vs Hf1 H1 g1 st1 r1=>?_
 refine ⟨G,Hf1,ds,s1,d,s',hG,by rw [List.append_nil,←r1.length,hal _ _ _ _ a1];exact hlen,g1.fh,by rw [List.append_nil];exact r1,st1,a2,fun v Hf2 H2 g2 st2 r2 fz=>?_⟩
 exact k v Hf2 H2 (g1.trans g2) st2 r2 fun z=>FreshL.old g1.hh r2.nofp (fz z)
theorem dCons_len {f:Rho→M D} {g:Rho→M (List D)} {n:Nat} (h:∀ρ s ds s',g ρ s=some (ds,s')→ds.length=n):∀ρ s ds s',dCons f g ρ s=some (ds,s')→ds.length=n+1:=fun ρ s ds s' q=>by
 obtain ⟨d,s1,a1,a2⟩:=mbind_some q
 obtain ⟨r,s2,a3,a4⟩:=mbind_some a2
 obtain ⟨rfl,rfl⟩:=mret_some a4
 simp [h _ _ _ _ a3]
theorem dNil_len:∀ρ s ds s',dNil ρ s=some (ds,s')→ds.length=0:=fun ρ s ds s' q=>by
 obtain ⟨rfl,rfl⟩:=mret_some q
 rfl
end
mutual
noncomputable def noMut:D→Bool
 | .tup ds=>noMuts ds
 | .lst _=>false
 | .dk _=>false
 | .dt _=>false
 | .du _=>false
 | .df _=>false
 | .clo _ _=>false
 | _=>true
noncomputable def noMuts:List D→Bool
 | []=>true
 | d::ds=>noMut d&&noMuts ds
end
mutual
theorem Rep.only {G:Gh} {H H':Hp} (e:∀b vs,¬G.fp b→H b=some (.tup vs)→H' b=some (.tup vs)):∀{d:D} {v:V},noMut d=true→Rep G H d v→Rep G H' d v
 | .non,_,_,h=>h
 | .bl _,_,_,h=>h
 | .int _,_,_,h=>h
 | .str _,_,_,h=>h
 | .tup ds,v,n,h=>by
  obtain ⟨a,vs,e1,nf,e2,r⟩:=Rep.tup_iff.mp h
  exact Rep.tup_iff.mpr ⟨a,vs,e1,nf,e _ _ nf e2,RepL.only e (by simpa [noMut] using n) r⟩
 | .lst ds,v,n,h=>by simp [noMut] at n
 | .dk kvs,v,n,h=>by simp [noMut] at n
 | .dt kvs,v,n,h=>by simp [noMut] at n
 | .du kvs,v,n,h=>by simp [noMut] at n
 | .df kvs,v,n,h=>by simp [noMut] at n
 | .pen,_,_,h=>h
 | .ty _,_,_,h=>h
 | .clo _ _,v,n,h=>by simp [noMut] at n
theorem RepL.only {G:Gh} {H H':Hp} (e:∀b vs,¬G.fp b→H b=some (.tup vs)→H' b=some (.tup vs)):∀{ds:List D} {vs:List V},noMuts ds=true→RepL G H ds vs→RepL G H' ds vs
 | [],_,_,h=>h
 | d::ds,vs,n,h=>by
  obtain ⟨v,r,e1,r1,r2⟩:=RepL.cons_iff.mp h
  have n':noMut d=true∧noMuts ds=true:=by simpa [noMuts] using n
  exact RepL.cons_iff.mpr ⟨v,r,e1,Rep.only e n'.1 r1,RepL.only e n'.2 r2⟩
end
noncomputable def OwnRep (G:Gh) (Hf H:Hp) (a:Addr):D→Prop
 | .lst ds=>∃vs,H a=some (.lst vs)∧RepL G Hf ds vs
 | .dk kvs=>H a=some (.dK kvs)
 | .dt kvs=>∃o,H a=some (.frz o (.dT kvs))
 | .du kvs=>H a=some (.dT kvs)
 | _=>False
theorem OwnRep.there {G:Gh} {Hf H:Hp} {a:Addr} {d:D} (h:OwnRep G Hf H a d):∃o,H a=some o∧∀vs,o≠.tup vs:=by
 cases d with
 | lst ds=>obtain ⟨vs,e,_⟩:=h;exact ⟨_,e,fun _ z=>by cases z⟩
 | dk kvs=>exact ⟨_,h,fun _ z=>by cases z⟩
 | dt kvs=>obtain ⟨o,h⟩:=h;exact ⟨_,h,fun _ z=>by cases z⟩
 | du kvs=>exact ⟨_,h,fun _ z=>by cases z⟩
 | _=>exact h.elim
theorem OwnRep.keep {G:Gh} {Hf H Hf' H':Hp} {a:Addr} {d:D} (h:OwnRep G Hf H a d) (e:Ext G Hf Hf') (ha:∀o,H a=some o→H' a=some o):OwnRep G Hf' H' a d:=by
 cases d with
 | lst ds=>obtain ⟨vs,q,r⟩:=h;exact ⟨vs,ha _ q,r.ext e⟩
 | dk kvs=>exact ha _ h
 | dt kvs=>obtain ⟨o,h⟩:=h;exact ⟨o,ha _ h⟩
 | du kvs=>exact ha _ h
 | _=>exact h.elim
theorem OwnRep.rep {G:Gh} {Hf H Hf':Hp} {a:Addr} {d:D} (h:OwnRep G Hf H a d) (nf:¬G.fp a) (e:Ext G Hf Hf') (ha:∀o,H a=some o→Hf' a=some o):Rep G Hf' d (.ref a):=by
 cases d with
 | lst ds=>obtain ⟨vs,q,r⟩:=h;exact Rep.lst_iff.mpr ⟨a,vs,rfl,nf,ha _ q,r.ext e⟩
 | dk kvs=>exact Rep.dk_iff.mpr ⟨a,rfl,nf,ha _ h⟩
 | dt kvs=>obtain ⟨o,h⟩:=h;exact Rep.dt_iff.mpr ⟨a,o,rfl,nf,ha _ h⟩
 | du kvs=>exact Rep.du_iff.mpr ⟨a,rfl,nf,ha _ h⟩
 | _=>exact h.elim
structure Jf (G:Gh) (own:List Nat) (kn Hf0 H0:Hp) (σ:St) (Hf H:Hp) (ρ:Rho):Prop where
 len:σ.length=ρ.length
 kn:Ext G kn Hf
 gr:Gr G Hf0 H0 Hf H
 fz:∀(i:Nat) (d:D),i∉own→ρ[i]?=some (some d)→∃v,σ[i]?=some (some v)∧Rep G Hf d v
 ow:∀(i:Nat) (d:D),i∈own→ρ[i]?=some (some d)→∃a,σ[i]?=some (some (.ref a))∧¬G.rd a∧Hf a=none∧H0 a=none∧OwnRep G Hf H a d
 ne:∀(i j:Nat) (a:Addr) (di dj:D),i∈own→j∈own→i≠j→ρ[i]?=some (some di)→ρ[j]?=some (some dj)→σ[i]?=some (some (.ref a))→σ[j]?=some (some (.ref a))→False
noncomputable def J (G:Gh) (own:List Nat) (kn Hf0 H0:Hp) (σ:St) (H:Hp) (ρ:Rho):Prop:=∃Hf,Jf G own kn Hf0 H0 σ Hf H ρ
noncomputable def hide (own:List Nat) (ρ:Rho):Rho:=ρ.mapIdx fun i o=>if i∈own then none else o
theorem hide_nil (ρ:Rho):hide [] ρ=ρ:=by
 unfold hide
 apply List.ext_getElem?
 intro i
 simp
theorem hide_get {own:List Nat} {ρ:Rho} {i:Nat} {d:D} (h:(hide own ρ)[i]?=some (some d)):i∉own∧ρ[i]?=some (some d):=by
 unfold hide at h
 rw [List.getElem?_mapIdx] at h
 cases e:ρ[i]? with
 | none=>rw [e] at h;cases h
 | some o=>
  rw [e] at h
  simp only [Option.map_some,Option.some.injEq] at h
  split at h
  ·cases h
  ·rename_i hn;exact ⟨hn,by rw [h]⟩
section
variable {X:Cx} {G:Gh} {own:List Nat} {kn Hf0 H0 Hf H:Hp} {σ:St} {ρ:Rho}
theorem Jf.envA (j:Jf G own kn Hf0 H0 σ Hf H ρ):EnvR G Hf σ (hide own ρ):=fun i d e=>by
 obtain ⟨n,q⟩:=hide_get e
 exact j.fz i d n q
theorem Gh.sub' {G:Gh} {a:Addr} (h:¬G.rd a):¬G.fp a:=fun z=>h (G.sub a z)
theorem Jf.grow {Hf' H':Hp} (j:Jf G own kn Hf0 H0 σ Hf H ρ) (g:Gr G Hf H Hf' H'):Jf G own kn Hf0 H0 σ Hf' H' ρ where
 len:=j.len
 kn:=j.kn.trans g.ff
 gr:=j.gr.trans g
 fz:=fun i d n e=>let ⟨v,a,b⟩:=j.fz i d n e;⟨v,a,b.ext g.ff⟩
 ow:=fun i d m e=>by
  obtain ⟨a,h1,h2,h3,h4,h5⟩:=j.ow i d m e
  have nf:=Gh.sub' h2
  refine ⟨a,h1,h2,?_,h4,h5.keep g.ff fun o q=>g.hh a o nf q⟩
  exact g.nw a nf h3 h5.there
 ne:=j.ne
noncomputable def wide (Hf0 H0 H:Hp):Hp:=fun b=>open Classical in if Hf0 b=none∧Nt (H0 b) then none else H b
theorem wide_ext {Hf0 H0 H:Hp}:Ext G (wide Hf0 H0 H) H:=fun b o _ e=>by
 unfold wide at e
 split at e
 ·cases e
 ·exact e
theorem Jf.wideF (j:Jf G own kn Hf0 H0 σ Hf H ρ):Ext G Hf (wide Hf0 H0 H):=fun b o n e=>by
 unfold wide
 split
 ·rename_i h
  rw [j.gr.nw b n h.1 h.2] at e;cases e
 ·exact j.gr.fh b o n e
theorem Jf.envB (j:Jf G own kn Hf0 H0 σ Hf H ρ):EnvR G (wide Hf0 H0 H) σ ρ:=fun i d e=>by
 by_cases m:i∈own
 ·obtain ⟨a,h1,h2,h3,h4,h5⟩:=j.ow i d m e
  refine ⟨_,h1,h5.rep (Gh.sub' h2) j.wideF fun o q=>?_⟩
  unfold wide
  rw [if_neg (fun z=>z.2.no h4)]
  exact q
 ·obtain ⟨v,h1,h2⟩:=j.fz i d m e
  exact ⟨v,h1,h2.ext j.wideF⟩
theorem Jf.grW {Hf' H':Hp} (j:Jf G own kn Hf0 H0 σ Hf H ρ) (g:Gr G (wide Hf0 H0 H) H Hf' H'):Gr G Hf0 H0 Hf' H' where
 hh:=j.gr.hh.trans g.hh
 ff:=fun b o n e=>g.ff b o n (j.wideF b o n (j.gr.ff b o n e))
 fh:=g.fh
 nw:=fun b n h1 h2=>g.nw b n (by unfold wide;rw [if_pos ⟨h1,h2⟩]) (let ⟨u,e,nt⟩:=h2;⟨u,j.gr.hh b u n e,nt⟩)
noncomputable def okB:D→Bool
 | .lst ds=>noMuts ds
 | .dk _=>true
 | .dt _=>true
 | .du _=>true
 | _=>false
theorem okB_mut {d:D} (h:okB d=true):isMut d:=by
 cases d <;> first | trivial | (simp [okB] at h)
theorem Jf.growB {Hf' H':Hp} (j:Jf G own kn Hf0 H0 σ Hf H ρ) (g:Gr G (wide Hf0 H0 H) H Hf' H') :
  ∃Hf'',Jf G own kn Hf0 H0 σ Hf'' H' ρ∧Ext G Hf Hf''∧(∀d v,noMut d=true→Rep G Hf' d v→Rep G Hf'' d v)∧∀d v,okB d=true→FreshL G H Hf' d v→Rep G Hf' d v→Rep G Hf'' d v∧FreshL G H Hf'' d v:=by
 classical
 -- the owned addresses are left out again
 let OA:Addr→Prop:=fun b=>∃i d,i∈own∧ρ[i]?=some (some d)∧σ[i]?=some (some (.ref b))
 have oaH:∀b,OA b→Hf b=none∧¬G.rd b∧∃o,H b=some o∧∀vs,o≠.tup vs:=fun b ⟨i,d,m,e,q⟩=>by
  obtain ⟨a,h1,h2,h3,h4,h5⟩:=j.ow i d m e
  rw [q] at h1;cases h1
  exact ⟨h3,h2,h5.there⟩
 have W:=j.grW g
 refine ⟨fun b=>if OA b then none else Hf' b,?_⟩
 have fF:Ext G Hf (fun b=>if OA b then none else Hf' b):=fun b o n e=>by
  have:¬OA b:=fun z=>by rw [(oaH b z).1] at e;cases e
  show (if OA b then none else Hf' b)=_
  rw [if_neg this]
  exact g.ff b o n (j.wideF b o n e)
 have Fh:Ext G (fun b=>if OA b then none else Hf' b) H':=fun b o n e=>by
  have e':(if OA b then none else Hf' b)=some o:=e
  split at e'
  ·cases e'
  ·exact g.fh b o n e'
 have tupK:∀b vs,¬G.fp b→Hf' b=some (.tup vs)→(if OA b then none else Hf' b)=some (.tup vs):=fun b vs nf e=>by
  have:¬OA b:=fun z=>by
   obtain ⟨_,_,o,q,nt⟩:=oaH b z
   have q1:=g.hh b o nf q
   have q2:=g.fh b _ nf e
   rw [q1] at q2
   exact nt vs (Option.some.inj q2)
  rw [if_neg this]
  exact e
 have frK:∀a,H a=none→¬OA a:=fun a e z=>by
  obtain ⟨_,_,o,q,nt⟩:=oaH a z
  rw [e] at q;cases q
 refine ⟨⟨j.len,j.kn.trans fF,⟨W.hh,j.gr.ff.trans fF,Fh,fun b n h1 h2=>?_⟩,fun i d n e=>?_,fun i d m e=>?_,j.ne⟩,fF,fun d v n r=>Rep.only tupK n r,fun d v ok fr r=>?_⟩
 ·show (if OA b then none else Hf' b)=none
  split
  ·rfl
  ·exact W.nw b n h1 h2
 ·obtain ⟨v,a,b⟩:=j.fz i d n e
  exact ⟨v,a,b.ext fF⟩
 ·obtain ⟨a,h1,h2,h3,h4,h5⟩:=j.ow i d m e
  refine ⟨a,h1,h2,?_,h4,h5.keep fF fun o q=>g.hh a o (Gh.sub' h2) q⟩
  show (if OA a then none else Hf' a)=none
  rw [if_pos ⟨i,d,m,e,h1⟩]
 ·cases d with
  | lst ds=>
   obtain ⟨a,vs,e,n,q,r'⟩:=Rep.lst_iff.mp r
   have na:=frK a (fr a e trivial).1
   have ea:(if OA a then none else Hf' a)=some (.lst vs):=by rw [if_neg na];exact q
   refine ⟨Rep.lst_iff.mpr ⟨a,vs,e,n,ea,RepL.only tupK ok r'⟩,fun b eb m=>?_⟩
   rw [e] at eb;cases eb
   refine ⟨(fr a e trivial).1,fun ds' ed=>?_⟩
   cases ed
   refine ⟨vs,fun b=>if b=a then none else if OA b then none else Hf' b,ea,if_pos rfl,fun b o nb eb=>?_,?_⟩
   ·have eb':(if b=a then none else if OA b then none else Hf' b)=some o:=eb
    split at eb'
    ·cases eb'
    ·exact eb'
   ·refine RepL.only (fun b ws nb eb=>?_) ok r'
    have hba:b≠a:=fun z=>by rw [z,q] at eb;cases eb
    show (if b=a then none else if OA b then none else Hf' b)=_
    rw [if_neg hba]
    exact tupK b ws nb eb
  | dk ds=>
   obtain ⟨a,e,n,q⟩:=Rep.dk_iff.mp r
   have na:=frK a (fr a e trivial).1
   refine ⟨Rep.dk_iff.mpr ⟨a,e,n,?_⟩,fun b eb m=>⟨(fr b eb m).1,fun ds' ed=>by cases ed⟩⟩
   show (if OA a then none else Hf' a)=_
   rw [if_neg na];exact q
  | dt ds=>
   obtain ⟨a,o,e,n,q⟩:=Rep.dt_iff.mp r
   have na:=frK a (fr a e trivial).1
   refine ⟨Rep.dt_iff.mpr ⟨a,o,e,n,?_⟩,fun b eb m=>⟨(fr b eb m).1,fun ds' ed=>by cases ed⟩⟩
   show (if OA a then none else Hf' a)=_
   rw [if_neg na];exact q
  | du ds=>
   obtain ⟨a,e,n,q⟩:=Rep.du_iff.mp r
   have na:=frK a (fr a e trivial).1
   refine ⟨Rep.du_iff.mpr ⟨a,e,n,?_⟩,fun b eb m=>⟨(fr b eb m).1,fun ds' ed=>by cases ed⟩⟩
   show (if OA a then none else Hf' a)=_
   rw [if_neg na];exact q
  | _=>exact absurd (okB_mut ok) (fun z=>z)
theorem Jf.set {i:Nat} {d:D} {v:V} {own':List Nat} (j:Jf G own kn Hf0 H0 σ Hf H ρ) (ho:∀k,k∈own'→k≠i∧k∈own) (hk:∀k,k∈own→k≠i→k∈own') (r:Rep G Hf d v):Jf G own' kn Hf0 H0 (σ.set i (some v)) Hf H (ρ.set i (some d)) where
 len:=by simp [j.len]
 kn:=j.kn
 gr:=j.gr
 fz:=fun k c n e=>by
  by_cases h:i=k
  ·subst h
   have hl:i < ρ.length:=by
    have:=(List.getElem?_eq_some_iff.mp e).1
    simpa using this
   rw [List.getElem?_set_self hl] at e
   cases e
   exact ⟨v,List.getElem?_set_self (by rw [j.len];exact hl),r⟩
  ·rw [List.getElem?_set_ne h] at e ⊢
   exact j.fz k c (fun z=>n (hk k z (Ne.symm h))) e
 ow:=fun k c m e=>by
  have h:i≠k:=Ne.symm (ho k m).1
  rw [List.getElem?_set_ne h] at e ⊢
  exact j.ow k c (ho k m).2 e
 ne:=fun k l a dk dl mk ml n ek el sk sl=>by
  have h:i≠k:=Ne.symm (ho k mk).1
  have h':i≠l:=Ne.symm (ho l ml).1
  rw [List.getElem?_set_ne h] at ek sk
  rw [List.getElem?_set_ne h'] at el sl
  exact j.ne k l a dk dl (ho k mk).2 (ho l ml).2 n ek el sk sl
noncomputable def isMutB:D→Bool
 | .lst _=>true
 | .dk _=>true
 | .dt _=>true
 | .du _=>true
 | _=>false
theorem isMutB_mut {d:D} (h:isMutB d=true):isMut d:=by
 cases d <;> first | trivial | (simp [isMutB] at h)
theorem Jf.setOwn {i:Nat} {d:D} {v:V} {Hb Hq:Hp} {s:Pn} {own':List Nat} (j0:Jf G own kn Hf0 H0 σ Hq Hb ρ) (j:Jf G own kn Hf0 H0 σ Hf H ρ) (ho:∀k,k∈own'↔k=i∨k∈own) (st:G.st s Hb) (hb:Ext G Hb H) (hq:Ext G Hq Hf)
  (r:Rep G Hf d v) (fr:FreshL G Hb Hf d v) (ok:isMutB d=true):∃Hf',Jf G own' kn Hf0 H0 (σ.set i (some v)) Hf' H (ρ.set i (some d)):=by
 classical
 have mu:=isMutB_mut ok
 obtain ⟨a,ea,nfa⟩:∃a,v=.ref a∧¬G.fp a:=by
  cases d with
  | lst ds=>obtain ⟨a,vs,e,n,_⟩:=Rep.lst_iff.mp r;exact ⟨a,e,n⟩
  | dk ds=>obtain ⟨a,e,n,_⟩:=Rep.dk_iff.mp r;exact ⟨a,e,n⟩
  | dt ds=>obtain ⟨a,_,e,n,_⟩:=Rep.dt_iff.mp r;exact ⟨a,e,n⟩
  | du ds=>obtain ⟨a,e,n,_⟩:=Rep.du_iff.mp r;exact ⟨a,e,n⟩
  | _=>exact mu.elim
 subst ea
 have fra:Hb a=none:=(fr a rfl mu).1
 have hqa:Hq a=none:=by
  cases e:Hq a with
  | none=>rfl
  | some o=>rw [j0.gr.fh a o nfa e] at fra;cases fra
 have h0a:H0 a=none:=by
  cases e:H0 a with
  | none=>rfl
  | some o=>rw [j0.gr.hh a o nfa e] at fra;cases fra
 have qF:Ext G Hq (fun b=>if b=a then none else Hf b):=fun b o n e=>by
  have:b≠a:=fun z=>by rw [z,hqa] at e;cases e
  show (if b=a then none else Hf b)=_
  rw [if_neg this];exact hq b o n e
 have oldA:∀k c,k∈own→ρ[k]?=some (some c)→σ[k]?≠some (some (.ref a)):=fun k c m e z=>by
  obtain ⟨b,h1,_,_,_,h5⟩:=j0.ow k c m e
  rw [z] at h1;cases h1
  obtain ⟨o,q,_⟩:=h5.there
  rw [fra] at q;cases q
 refine ⟨fun b=>if b=a then none else Hf b,by simp [j.len],j0.kn.trans qF,⟨j.gr.hh,j0.gr.ff.trans qF,fun b o n e=>?_,fun b n h1 h2=>?_⟩,fun k c n e=>?_,fun k c m e=>?_,fun k l b dk dl mk ml n ek el sk sl=>?_⟩
 ·have e':(if b=a then none else Hf b)=some o:=e
  split at e'
  ·cases e'
  ·exact j.gr.fh b o n e'
 ·show (if b=a then none else Hf b)=none
  split
  ·rfl
  ·exact j.gr.nw b n h1 h2
 ·have h:i≠k:=fun z=>n ((ho k).mpr (.inl z.symm))
  rw [List.getElem?_set_ne h] at e ⊢
  obtain ⟨v,q1,q2⟩:=j0.fz k c (fun z=>n ((ho k).mpr (.inr z))) e
  exact ⟨v,q1,q2.ext qF⟩
 ·by_cases h:i=k
  ·subst h
   have hl:i < ρ.length:=by
    have:=(List.getElem?_eq_some_iff.mp e).1
    simpa using this
   rw [List.getElem?_set_self hl] at e
   cases e
   refine ⟨a,List.getElem?_set_self (by rw [j.len];exact hl),Gh.nord st fra,by show (if a=a then none else Hf a)=none;rw [if_pos rfl],h0a,?_⟩
   cases d with
   | lst ds=>
    obtain ⟨a',vs,e',n',q',r'⟩:=Rep.lst_iff.mp r
    cases e'
    obtain ⟨ws,Hm,f1,f2,f3,f4⟩:=(fr a rfl mu).2 ds rfl
    rw [q'] at f1;cases f1
    refine ⟨vs,j.gr.fh a _ n' q',f4.ext fun b o nb eb=>?_⟩
    have:b≠a:=fun z=>by rw [z,f2] at eb;cases eb
    show (if b=a then none else Hf b)=_
    rw [if_neg this];exact f3 b o nb eb
   | dk ds=>obtain ⟨a',e',n',q'⟩:=Rep.dk_iff.mp r;cases e';exact j.gr.fh a _ n' q'
   | dt ds=>obtain ⟨a',o',e',n',q'⟩:=Rep.dt_iff.mp r;cases e';exact ⟨o',j.gr.fh a _ n' q'⟩
   | du ds=>obtain ⟨a',e',n',q'⟩:=Rep.du_iff.mp r;cases e';exact j.gr.fh a _ n' q'
   | _=>exact mu.elim
  ·have m':k∈own:=((ho k).mp m).resolve_left (Ne.symm h)
   rw [List.getElem?_set_ne h] at e ⊢
   obtain ⟨b,h1,h2,h3,h4,h5⟩:=j0.ow k c m' e
   obtain ⟨b',g1,g2,g3,g4,g5⟩:=j.ow k c m' e
   rw [h1] at g1;cases g1
   refine ⟨b,h1,h2,?_,h4,h5.keep qF fun o q=>hb b o (Gh.sub' h2) q⟩
   show (if b=a then none else Hf b)=none
   split
   ·rfl
   ·exact g3
 ·by_cases hk:i=k
  ·subst hk
   have h':i≠l:=n
   have hl:i < σ.length:=by
    have:=(List.getElem?_eq_some_iff.mp sk).1
    simpa using this
   rw [List.getElem?_set_self hl] at sk
   cases sk
   rw [List.getElem?_set_ne h'] at el sl
   exact oldA l dl (((ho l).mp ml).resolve_left (Ne.symm h')) el sl
  ·by_cases hl':i=l
   ·subst hl'
    have hl:i < σ.length:=by
     have:=(List.getElem?_eq_some_iff.mp sl).1
     simpa using this
    rw [List.getElem?_set_self hl] at sl
    cases sl
    rw [List.getElem?_set_ne hk] at ek sk
    exact oldA k dk (((ho k).mp mk).resolve_left (Ne.symm hk)) ek sk
   ·rw [List.getElem?_set_ne hk] at ek sk
    rw [List.getElem?_set_ne hl'] at el sl
    exact j.ne k l b dk dl (((ho k).mp mk).resolve_left (Ne.symm hk)) (((ho l).mp ml).resolve_left (Ne.symm hl')) n ek el sk sl
theorem Jf.freeze {own':List Nat} (j:Jf G own kn Hf0 H0 σ Hf H ρ) (ho:∀k,k∈own'→k∈own):∃Hf',Jf G own' kn Hf0 H0 σ Hf' H ρ:=by
 classical
 let OA:Addr→Prop:=fun b=>∃i d,i∈own∧i∉own'∧ρ[i]?=some (some d)∧σ[i]?=some (some (.ref b))
 have oaH:∀b,OA b→Hf b=none∧H0 b=none:=fun b ⟨i,d,m,_,e,q⟩=>by
  obtain ⟨a,h1,h2,h3,h4,h5⟩:=j.ow i d m e
  rw [q] at h1;cases h1
  exact ⟨h3,h4⟩
 have fF:Ext G Hf (fun b=>if OA b then H b else Hf b):=fun b o n e=>by
  have:¬OA b:=fun z=>by rw [(oaH b z).1] at e;cases e
  show (if OA b then H b else Hf b)=_
  rw [if_neg this];exact e
 refine ⟨fun b=>if OA b then H b else Hf b,j.len,j.kn.trans fF,⟨j.gr.hh,j.gr.ff.trans fF,fun b o n e=>?_,fun b n h1 h2=>?_⟩,fun k c n e=>?_,fun k c m e=>?_,fun k l b dk dl mk ml=>j.ne k l b dk dl (ho k mk) (ho l ml)⟩
 ·have e':(if OA b then H b else Hf b)=some o:=e
  split at e'
  ·exact e'
  ·exact j.gr.fh b o n e'
 ·have:¬OA b:=fun z=>h2.no (oaH b z).2
  show (if OA b then H b else Hf b)=none
  rw [if_neg this];exact j.gr.nw b n h1 h2
 ·by_cases m:k∈own
  ·obtain ⟨a,h1,h2,h3,h4,h5⟩:=j.ow k c m e
   refine ⟨_,h1,h5.rep (Gh.sub' h2) fF fun o q=>?_⟩
   show (if OA a then H a else Hf a)=_
   rw [if_pos ⟨k,c,m,n,e,h1⟩];exact q
  ·obtain ⟨v,h1,h2⟩:=j.fz k c m e
   exact ⟨v,h1,h2.ext fF⟩
 ·obtain ⟨a,h1,h2,h3,h4,h5⟩:=j.ow k c (ho k m) e
  refine ⟨a,h1,h2,?_,h4,h5.keep fF fun o q=>q⟩
  have:¬OA a:=fun ⟨i,d,mi,ni,ei,qi⟩=>j.ne i k a d c mi (ho k m) (fun z=>ni (z▸m)) ei e qi h1
  show (if OA a then H a else Hf a)=none
  rw [if_neg this];exact h3
end
theorem Jf.setF {G:Gh} {own:List Nat} {kn Hf0 H0 Hf H:Hp} {σ:St} {ρ:Rho} {i:Nat} {d:D} {v:V} (j:Jf G own kn Hf0 H0 σ Hf H ρ) (hi:i∉own) (r:Rep G Hf d v):Jf G own kn Hf0 H0 (σ.set i (some v)) Hf H (ρ.set i (some d)):=
 j.set (own':=own) (fun k m=>⟨fun z=>hi (by rw [←z];exact m),m⟩) (fun k m _=>m) r
noncomputable def Yld (G:Gh) (fr:Bool) (t:TE) (f:Rho→M D):Prop:=
 ∀(σ:St) (Hf H:Hp) (ρ:Rho) (s:Pn) (d:D) (s':Pn) (Q:VK),Ext G Hf H→EnvR G Hf σ ρ→G.st s H→f ρ s=some (d,s')→
  (∀v Hf' H',Gr G Hf H Hf' H'→G.st s' H'→Rep G Hf' d v→(fr=true→FreshL G H Hf' d v)→Q v H')→t σ H Q
noncomputable def YldJ (G:Gh) (own:List Nat) (fr:Bool) (t:TE) (f:Rho→M D):Prop:=
 ∀(kn Hf0 H0:Hp) (σ:St) (Hf H:Hp) (ρ:Rho) (s:Pn) (d:D) (s':Pn) (Q:VK),Jf G own kn Hf0 H0 σ Hf H ρ→G.st s H→f ρ s=some (d,s')→
  (∀v Hf' H',Jf G own kn Hf0 H0 σ Hf' H' ρ→Ext G Hf Hf'→Ext G H H'→G.st s' H'→Rep G Hf' d v→(fr=true→FreshL G H Hf' d v)→Q v H')→t σ H Q
section
variable {X:Cx} {G:Gh} {own:List Nat} {fr:Bool} {t:TE} {f:Rho→M D}
theorem Yld.a (h:Yld G fr t f):YldJ G own fr t (fun ρ=>f (hide own ρ)):=fun kn Hf0 H0 σ Hf H ρ s d s' Q j st e k=>
 h σ Hf H (hide own ρ) s d s' Q j.gr.fh j.envA st e fun v Hf' H' g st' r fz=>k v Hf' H' (j.grow g) g.ff g.hh st' r fz
theorem Yld.n (h:Yld G fr t f):YldJ G [] fr t f:=fun kn Hf0 H0 σ Hf H ρ s d s' Q j st e k=>
 h.a kn Hf0 H0 σ Hf H ρ s d s' Q j st (by show f (hide [] ρ) s=_;rw [hide_nil];exact e) k
theorem noMut_mut {d:D} (h:noMut d=true):¬isMut d:=by
 cases d <;> first | exact (fun z=>z) | (simp [noMut] at h)
noncomputable def chk (fr:Bool) (f:Rho→M D):Rho→M D:=fun ρ=>mbind (f ρ) fun d=>if (noMut d||(fr&&okB d))=true then mret d else mfail
theorem chk_of {fr:Bool} {f:Rho→M D} {ρ:Rho} {s s':Pn} {d:D} (h:f ρ s=some (d,s')) (c:(noMut d||(fr&&okB d))=true):chk fr f ρ s=some (d,s'):=by
 unfold chk mbind
 rw [h]
 show (if (noMut d||(fr&&okB d))=true then mret d else mfail) s'=_
 rw [if_pos c]
 rfl
theorem Yld.b (h:Yld G fr t f):YldJ G own fr t (chk fr f):=fun kn Hf0 H0 σ Hf H ρ s d s' Q j st e k=>by
 obtain ⟨d1,s1,a1,a2⟩:=mbind_some e
 obtain ⟨c,a3⟩:=mif_some a2
 obtain ⟨rfl,rfl⟩:=mret_some a3
 refine h σ _ H ρ s d s' Q wide_ext j.envB st a1 fun v Hf' H' g st' r fz=>?_
 obtain ⟨F,j',fF,q1,q2⟩:=j.growB g
 rcases Bool.or_eq_true_iff.mp c with c | c
 ·exact k v F H' j' fF g.hh st' (q1 d v c r) fun z a ea m=>absurd m (noMut_mut c)
 ·obtain ⟨c1,c2⟩:=Bool.and_eq_true_iff.mp c
  obtain ⟨x1,x2⟩:=q2 d v c2 (fz c1) r
  exact k v F H' j' fF g.hh st' x1 fun _=>x2
inductive Out where
 | nx (ρ:Rho) | rt (d:D) | bk (ρ:Rho) | ct (ρ:Rho)
noncomputable def Post (G:Gh) (ob own':List Nat) (kn Hf0 H0:Hp) (fr:Bool) (out:Out) (s':Pn) (E:Ends):Prop:=match out with
 | .nx ρ=>∀σ H,J G own' kn Hf0 H0 σ H ρ→G.st s' H→E.nx σ H
 | .bk ρ=>∀σ H,J G ob kn Hf0 H0 σ H ρ→G.st s' H→E.bk σ H
 | .ct ρ=>∀σ H,J G ob kn Hf0 H0 σ H ρ→G.st s' H→E.ct σ H
 | .rt d=>∀v Hf' H',Gr G Hf0 H0 Hf' H'→G.st s' H'→Rep G Hf' d v→(fr=true→FreshL G H0 Hf' d v)→E.rt v H'
noncomputable def Dos (G:Gh) (ob own own':List Nat) (fr:Bool) (t:TS) (g:Rho→M Out):Prop:=
 ∀(kn Hf0 H0:Hp) (σ:St) (H:Hp) (ρ:Rho) (s:Pn) (out:Out) (s':Pn) (E:Ends),J G own kn Hf0 H0 σ H ρ→G.st s H→g ρ s=some (out,s')→Post G ob own' kn Hf0 H0 fr out s' E→t E σ H
noncomputable def PDS (X:Cx) (G:Gh) (ob own own':List Nat) (fr:Bool) (st:Stmt) (g:Rho→M Out):Prop:=∃t,PS X st t∧Dos G ob own own' fr t g
noncomputable def PDSs (X:Cx) (G:Gh) (ob own own':List Nat) (fr:Bool) (sts:List Stmt) (g:Rho→M Out):Prop:=∃t,PSs X sts t∧Dos G ob own own' fr t g
variable {ob own' own2:List Nat}
noncomputable def sNext:Rho→M Out:=fun ρ=>mret (.nx ρ)
noncomputable def sSeq (g1 g2:Rho→M Out):Rho→M Out:=fun ρ=>mbind (g1 ρ) fun o=>match o with | .nx ρ'=>g2 ρ' | .rt d=>mret (.rt d) | .bk ρ'=>mret (.bk ρ') | .ct ρ'=>mret (.ct ρ')
theorem pdss_nil (hs:∀k,k∈own'→k∈own:=by decide):PDSs X G ob own own' fr [] sNext:=⟨_,pss_nil,fun kn Hf0 H0 σ H ρ s out s' E ⟨Hf,j⟩ st e p=>by
 obtain ⟨rfl,rfl⟩:=mret_some e
 exact p σ H (j.freeze hs) st⟩
theorem pdss_cons {st:Stmt} {sts:List Stmt} {g1 g2:Rho→M Out} (h:PDS X G ob own own2 fr st g1) (h2:PDSs X G ob own2 own' fr sts g2):PDSs X G ob own own' fr (st::sts) (sSeq g1 g2):=by
 obtain ⟨t,p,q⟩:=h
 obtain ⟨u,p2,q2⟩:=h2
 refine ⟨_,pss_cons p p2,fun kn Hf0 H0 σ H ρ s out s' E j st e po=>?_⟩
 obtain ⟨o,s1,a1,a2⟩:=mbind_some e
 refine q kn Hf0 H0 σ H ρ s o s1 _ j st a1 ?_
 cases o with
 | nx ρ1=>exact fun σ1 H1 j1 st1=>q2 kn Hf0 H0 σ1 H1 ρ1 s1 out s' E j1 st1 a2 po
 | rt d=>obtain ⟨rfl,rfl⟩:=mret_some a2;exact po
 | bk ρ1=>obtain ⟨rfl,rfl⟩:=mret_some a2;exact po
 | ct ρ1=>obtain ⟨rfl,rfl⟩:=mret_some a2;exact po
noncomputable def sRet (f:Rho→M D):Rho→M Out:=fun ρ=>mbind (f ρ) fun d=>mret (.rt d)
theorem pds_ret {e:Expr} {pos:Pos} (h:PD X G fr e f):PDS X G ob own own' fr (.Return (some e) pos) (sRet f):=by
 obtain ⟨t,p,q⟩:=h
 refine ⟨_,ps_ret p,fun kn Hf0 H0 σ H ρ s out s' E ⟨Hf,j⟩ st e po=>?_⟩
 obtain ⟨d,s1,a1,a2⟩:=mbind_some e
 obtain ⟨rfl,rfl⟩:=mret_some a2
 exact q σ _ H ρ s d s' _ wide_ext j.envB st a1 fun v Hf' H' g st' r fz=>po v Hf' H' (j.grW g) st' r fun z=>FreshL.old j.gr.hh r.nofp (fz z)
theorem pds_retOwn {i:Nat} {x:Str} {pos pos':Pos} (hi:i∈own) (h:PE X (.Name x pos') (tVar i)):PDS X G ob own own' true (.Return (some (.Name x pos')) pos) (sRet (dVar i)):=by
 refine ⟨_,ps_ret h,fun kn Hf0 H0 σ H ρ s out s' E ⟨Hf,j⟩ st e po=>?_⟩
 obtain ⟨d,s1,a1,a2⟩:=mbind_some e
 obtain ⟨rfl,rfl⟩:=mret_some a2
 obtain ⟨e1,rfl⟩:=mOf_some a1
 have e':ρ[i]?=some (some d):=by
  cases q:ρ[i]? with
  | none=>rw [q] at e1;cases e1
  | some o=>rw [q] at e1;simp at e1;rw [e1]
 obtain ⟨v,h1,h2⟩:=j.envB i d e'
 obtain ⟨a,g1,g2,g3,g4,g5⟩:=j.ow i d hi e'
 rw [g1] at h1;cases h1
 refine ⟨_,g1,po (.ref a) _ H (j.grW (.refl wide_ext)) st h2 fun _ b eb _=>?_⟩
 cases eb
 refine ⟨g4,fun ds ed=>?_⟩
 subst ed
 obtain ⟨vs,q1,q2⟩:=g5
 refine ⟨vs,Hf,?_,g3,j.wideF,q2⟩
 unfold wide
 rw [if_neg (fun z=>z.2.no g4)]
 exact q1
noncomputable def sIf (c:Rho→M Bool) (g1 g2:Rho→M Out):Rho→M Out:=fun ρ=>mbind (c ρ) fun b=>if b=true then g1 ρ else g2 ρ
theorem pds_if {c:Expr} {a b:List Stmt} {pos:Pos} {fc:Rho→M Bool} {g1 g2:Rho→M Out} (hc:PDT X G c fc) (ha:PDSs X G ob own own' fr a g1) (hb:PDSs X G ob own own' fr b g2):PDS X G ob own own' fr (.If c a b pos) (sIf fc g1 g2):=by
 obtain ⟨tc,pc,qc⟩:=hc
 obtain ⟨ta,pa,qa⟩:=ha
 obtain ⟨tb,pb,qb⟩:=hb
 refine ⟨_,ps_if pc pa pb,fun kn Hf0 H0 σ H ρ s out s' E ⟨Hf,j⟩ st e po=>?_⟩
 obtain ⟨b,s1,a1,a2⟩:=mbind_some e
 refine qc σ _ H ρ s b s1 _ wide_ext j.envB st a1 fun Hf' H' g st'=>?_
 obtain ⟨F,j',fF,q1,q2⟩:=j.growB g
 cases b with
 | true=>exact iteT (qa kn Hf0 H0 σ H' ρ s1 out s' E ⟨F,j'⟩ st' a2 po)
 | false=>exact iteF (qb kn Hf0 H0 σ H' ρ s1 out s' E ⟨F,j'⟩ st' a2 po)
noncomputable def PAsg (X:Cx) (G:Gh) (fr:Bool) (i:Nat) (st:Stmt) (f:Rho→M D):Prop:=∃te,PS X st (fun E σ H=>te σ H fun y H1=>E.nx (σ.set i (some y)) H1)∧Yld G fr te f
theorem pasg_set {i:Nat} {x:Str} {e:Expr} {pos pos':Pos} (hN:X.N.Nodup) (hi:X.N[i]?=some x) (hx:Loc X.env.scope x) (he:PD X G fr e f) (hs:swapsWith e (some (.Name x pos')) pos.line X.env=pure false:=by rfl)
  (hf:X.fn x=true∨X.env.scope.names.lookup x=some .local:=by first | exact .inl rfl | exact .inr rfl | assumption):PAsg X G fr i (.Assign [.Name x pos'] e pos) f:=by
 obtain ⟨t,p,q⟩:=he
 exact ⟨t,ps_set hN hi hx p hs hf,q⟩
noncomputable def sSet (i:Nat) (f:Rho→M D):Rho→M Out:=fun ρ=>mbind (f ρ) fun d=>mret (.nx (ρ.set i (some d)))
theorem pds_setJ {i:Nat} {st:Stmt} {te:TE} (hp:PS X st (fun E σ H=>te σ H fun y H1=>E.nx (σ.set i (some y)) H1)) (hy:YldJ G own fr te f) (hi:i∉own) {fr':Bool}:PDS X G ob own own fr' st (sSet i f):=
 ⟨_,hp,fun kn Hf0 H0 σ H ρ s out s' E ⟨Hf,j⟩ st e po=>by
  obtain ⟨d,s1,a1,a2⟩:=mbind_some e
  obtain ⟨rfl,rfl⟩:=mret_some a2
  exact hy kn Hf0 H0 σ Hf H ρ s d s' _ j st a1 fun v Hf' H' j' e1 e2 st' r fz=>po _ H' ⟨Hf',j'.setF hi r⟩ st'⟩
theorem pds_set0 {i:Nat} {st:Stmt} {fr':Bool} (h:PAsg X G fr i st f):PDS X G ob [] [] fr' st (sSet i f):=let ⟨_,p,q⟩:=h;pds_setJ p q.n (by simp)
theorem pds_setA {i:Nat} {st:Stmt} {fr':Bool} (h:PAsg X G fr i st f) (hi:i∉own:=by decide):PDS X G ob own own fr' st (sSet i (fun ρ=>f (hide own ρ))):=let ⟨_,p,q⟩:=h;pds_setJ p q.a hi
theorem pds_setB {i:Nat} {st:Stmt} {fr':Bool} (h:PAsg X G fr i st f) (hi:i∉own:=by decide):PDS X G ob own own fr' st (sSet i (chk fr f)):=let ⟨_,p,q⟩:=h;pds_setJ p q.b hi
noncomputable def sOwn (i:Nat) (f:Rho→M D):Rho→M Out:=fun ρ=>mbind (f ρ) fun d=>if isMutB d=true then mret (.nx (ρ.set i (some d))) else mfail
theorem pds_ownJ {i:Nat} {st:Stmt} {te:TE} (hp:PS X st (fun E σ H=>te σ H fun y H1=>E.nx (σ.set i (some y)) H1)) (hy:YldJ G own true te f) (ho:∀k,k∈own'↔k=i∨k∈own) {fr':Bool}:PDS X G ob own own' fr' st (sOwn i f):=
 ⟨_,hp,fun kn Hf0 H0 σ H ρ s out s' E ⟨Hf,j⟩ st e po=>by
  obtain ⟨d,s1,a1,a2⟩:=mbind_some e
  obtain ⟨ok,a3⟩:=mif_some a2
  obtain ⟨rfl,rfl⟩:=mret_some a3
  exact hy kn Hf0 H0 σ Hf H ρ s d s' _ j st a1 fun v Hf' H' j' e1 e2 st' r fz=>po _ H' (j.setOwn j' ho st e2 e1 r (fz rfl) ok) st'⟩
theorem pds_own0 {i:Nat} {st:Stmt} {fr':Bool} (h:PAsg X G true i st f):PDS X G ob [] [i] fr' st (sOwn i f):=let ⟨_,p,q⟩:=h;pds_ownJ p q.n (by intro k;simp)
inductive Sets (G:Gh) (Hf:Hp) (ok:Nat→Prop):St→Rho→St→Rho→Prop
 | nil {σ ρ}:Sets G Hf ok σ ρ σ ρ
 | cons {σ ρ σ' ρ'} {i:Nat} {d:D} {v:V}:ok i→Rep G Hf d v→Sets G Hf ok (σ.set i (some v)) (ρ.set i (some d)) σ' ρ'→Sets G Hf ok σ ρ σ' ρ'
noncomputable def PDG (X:Cx) (G:Gh) (tg:Expr) (ok:Nat→Prop) (τ:D→Rho→Option Rho):Prop:=
 ∃g,PG X tg g∧∀(x:V) (σ:St) (Hf H:Hp) (d:D) (ρ ρ':Rho) (Q:St→Hp→Prop),Ext G Hf H→Rep G Hf d x→τ d ρ=some ρ'→(∀σ',Sets G Hf ok σ ρ σ' ρ'→Q σ' H)→g x σ H Q
noncomputable def gOne (i:Nat):D→Rho→Option Rho:=fun d ρ=>some (ρ.set i (some d))
theorem pdg_name {i:Nat} {x:Str} {pos:Pos} {ok:Nat→Prop} (hN:X.N.Nodup) (hi:X.N[i]?=some x) (hx:Loc X.env.scope x) (oi:ok i) (hf:X.fn x=true∨X.env.scope.names.lookup x=some .local:=by first | exact .inl rfl | exact .inr rfl | assumption):PDG X G (.Name x pos) ok (gOne i):=
 ⟨_,pg_name hN hi hx hf,fun x σ Hf H d ρ ρ' Q e r q k=>by
  cases q
  exact k _ (.cons oi r .nil)⟩
noncomputable def gPair (i j:Nat):D→Rho→Option Rho:=fun d ρ=>match d with | .tup [a,b]=>some ((ρ.set i (some a)).set j (some b)) | _=>none
theorem pdg_pair {i j:Nat} {x y:Str} {pos px py:Pos} {k:Nat} {ok:Nat→Prop} (hc:X.calm=true) (hN:X.N.Nodup) (hi:X.N[i]?=some x) (hj:X.N[j]?=some y) (hx:Loc X.env.scope x) (hy:Loc X.env.scope y) (oi:ok i) (oj:ok j)
  (hfx:X.fn x=true∨X.env.scope.names.lookup x=some .local:=by first | exact .inl rfl | exact .inr rfl | assumption) (hfy:X.fn y=true∨X.env.scope.names.lookup y=some .local:=by first | exact .inl rfl | exact .inr rfl | assumption)
  (hn:(assignEach [.Name x px,.Name y py] X.env).length=2:=by rfl) (hst:(assignEach [.Name x px,.Name y py] X.env).findIdx? (·.1)=none:=by rfl)
  (hp:PGs X [.Name x px,.Name y py] (gCons (gName i) (gCons (gName j) gNil))):PDG X G (.Tuple [.Name x px,.Name y py] k pos) ok (gPair i j):=
 ⟨_,pg_tup hc hp hn hst,fun x σ Hf H d ρ ρ' Q e r q k=>by
  match d,q,r with
  | .tup [a,b],q,r=>
   cases q
   obtain ⟨ad,vs,rfl,n,h,rl⟩:=Rep.tup_iff.mp r
   obtain ⟨v1,r1,rfl,q1,q2⟩:=RepL.cons_iff.mp rl
   obtain ⟨v2,r2,rfl,q3,q4⟩:=RepL.cons_iff.mp q2
   have:=RepL.nil_iff.mp q4
   subst this
   exact ⟨ad,_,rfl,SqT.of (e _ _ n h),rfl,v1,_,rfl,v2,_,rfl,rfl,k _ (.cons oi q1 (.cons oj q3 .nil))⟩⟩
theorem Sets.jf {kn Hf0 H0 Hf H:Hp} {σ σ':St} {ρ ρ':Rho} (h:Sets G Hf (fun i=>i∉own) σ ρ σ' ρ'):Jf G own kn Hf0 H0 σ Hf H ρ→Jf G own kn Hf0 H0 σ' Hf H ρ':=by
 induction h with
 | nil=>exact fun j=>j
 | cons o r _ ih=>exact fun j=>ih (j.setF o r)
noncomputable def ItOk (G:Gh) (J:It) (Hf':Hp) (ds:List D):Prop:=
 ∀(i:Nat) (Hf2 H2:Hp) (s:Pn),Ext G Hf' Hf2→Ext G Hf2 H2→G.st s H2→
  (∀d,ds[i]?=some d→J.go i H2∧∀x H3,J.yld i H2 x H3→∃Hf3,Gr G Hf2 H2 Hf3 H3∧G.st s H3∧Rep G Hf3 d x)∧(i=ds.length→J.stop i H2)
noncomputable def PDI (X:Cx) (G:Gh) (tg iter:Expr) (f:Rho→M (List D)):Prop:=
 ∃wi,PI X tg iter wi∧∀(σ:St) (Hf H:Hp) (ρ:Rho) (s:Pn) (ds:List D) (s':Pn) (R:It→Hp→Prop),Ext G Hf H→EnvR G Hf σ ρ→G.st s H→f ρ s=some (ds,s')→
  (∀J Hf' H',Gr G Hf H Hf' H'→G.st s' H'→ItOk G J Hf' ds→R J H')→wi σ H R
theorem ItOk.range {lo:Int} {n:Nat} {Hf:Hp} {ds:List D} (e:ds=(List.range n).map fun (i:Nat)=>D.int (lo+i)):ItOk G (Itr lo n) Hf ds:=fun i Hf2 H2 s e1 e2 st=>by
 subst e
 refine ⟨fun d q=>?_,fun q=>by show n≤i;rw [q];simp⟩
 have hi:i<n:=by
  have:=(List.getElem?_eq_some_iff.mp q).1
  simpa using this
 have hd:d=.int (lo+i):=by
  rw [List.getElem?_map,List.getElem?_range hi] at q
  simp at q;exact q.symm
 subst hd
 refine ⟨hi,fun x H3 y=>?_⟩
 obtain ⟨y1,y2⟩:=y
 subst y1 y2
 exact ⟨Hf2,.refl e2,st,Rep.int_iff.mpr rfl⟩
theorem ItOk.list {K:PySem.W.Frag} {a:Addr} {vs:List V} {Hf:Hp} {ds:List D} (nf:¬G.fp a) (h:Hf a=some (.lst vs)) (r:RepL G Hf ds vs):ItOk G (Itl K a) Hf ds:=fun i Hf2 H2 s e1 e2 st=>by
 have h2:SqL K H2 a vs:=SqL.of (e2 _ _ nf (e1 _ _ nf h))
 refine ⟨fun d q=>?_,fun q=>⟨vs,h2,by rw [q,r.length];exact Nat.le_refl _⟩⟩
 obtain ⟨v,q1,q2⟩:=r.get q
 refine ⟨⟨vs,v,h2,q1⟩,fun x H3 ⟨y1,y2⟩=>?_⟩
 subst y1
 have e:=y2 vs h2
 rw [q1] at e;cases e
 exact ⟨Hf2,.refl e2,st,q2.ext e1⟩
theorem ItOk.tup {K:PySem.W.Frag} {a:Addr} {vs:List V} {Hf:Hp} {ds:List D} (nf:¬G.fp a) (h:Hf a=some (.tup vs)) (r:RepL G Hf ds vs):ItOk G (Itt K a) Hf ds:=fun i Hf2 H2 s e1 e2 st=>by
 have h2:SqT K H2 a vs:=SqT.of (e2 _ _ nf (e1 _ _ nf h))
 refine ⟨fun d q=>?_,fun q=>⟨vs,h2,by rw [q,r.length];exact Nat.le_refl _⟩⟩
 obtain ⟨v,q1,q2⟩:=r.get q
 refine ⟨⟨vs,v,h2,q1⟩,fun x H3 ⟨y1,y2⟩=>?_⟩
 subst y1
 have e:=y2 vs h2
 rw [q1] at e;cases e
 exact ⟨Hf2,.refl e2,st,q2.ext e1⟩
noncomputable def dRange (lo:Int) (n:Nat):List D:=(List.range n).map fun (i:Nat)=>D.int (lo+i)
noncomputable def iRange1 (f:Rho→M D):Rho→M (List D):=fun ρ=>mbind (f ρ) fun d=>match d with | .int j=>if -(2 ^ 62)≤j∧j<2 ^ 62 then mret (dRange 0 j.toNat) else mfail | _=>mfail
theorem pdi_range1 {tg a:Expr} {p pos:Pos} {r1:Bool} (hg:Gl X "range") (hm:X.mg "range" = none) (ha:PD X G r1 a f) (hs:starEach [a] X.env=[(false,eval a X.env)]:=by rfl):PDI X G tg (.Call (.Name "range" p) [a] [] pos) (iRange1 f):=by
 obtain ⟨t,pa,qa⟩:=ha.drop
 refine ⟨_,pi_range1 hg hm (pa_cons pa pa_nil (by rw [hs];rfl)) hs,fun σ Hf H ρ s ds s' R e1 e2 e3 e4 k=>?_⟩
 obtain ⟨d,s1,a1,a2⟩:=mbind_some e4
 cases d with
 | int j=>
  obtain ⟨c,a3⟩:=mif_some a2
  obtain ⟨rfl,rfl⟩:=mret_some a3
  refine qa σ Hf H ρ s _ _ _ e1 e2 e3 a1 fun v Hf1 H1 g st r=>?_
  rw [Rep.int_iff.mp r]
  exact ⟨j,rfl,c.1,c.2,k _ Hf1 H1 g st (.range rfl)⟩
 | _=>cases a2
noncomputable def iRange2 (f g:Rho→M D):Rho→M (List D):=fun ρ=>mbind (f ρ) fun d=>mbind (g ρ) fun e=>match d,e with | .int i,.int j=>if -(2 ^ 62)≤i∧i<2 ^ 62∧-(2 ^ 62)≤j∧j<2 ^ 62 then mret (dRange i (j-i).toNat) else mfail | _,_=>mfail
noncomputable def iSeqL (f:Rho→M D):Rho→M (List D):=fun ρ=>mbind (f ρ) fun d=>match d with | .lst ds=>mret ds | _=>mfail
noncomputable def iSeqT (f:Rho→M D):Rho→M (List D):=fun ρ=>mbind (f ρ) fun d=>match d with | .tup ds=>mret ds | _=>mfail
theorem pdi_list {tg l:Expr} {r1:Bool} (hl:PD X G r1 l f):PDI X G tg l (iSeqL f):=by
 obtain ⟨t,pa,qa⟩:=hl.drop
 refine ⟨_,pi_list pa,fun σ Hf H ρ s ds s' R e1 e2 e3 e4 k=>?_⟩
 obtain ⟨d,s1,a1,a2⟩:=mbind_some e4
 cases d with
 | lst es=>
  obtain ⟨rfl,rfl⟩:=mret_some a2
  refine qa σ Hf H ρ s _ _ _ e1 e2 e3 a1 fun v Hf1 H1 g st r=>?_
  obtain ⟨a,vs,rfl,nf,h,rl⟩:=Rep.lst_iff.mp r
  exact ⟨a,rfl,⟨vs,SqL.of (g.fh _ _ nf h)⟩,k _ Hf1 H1 g st (.list nf h rl)⟩
 | _=>cases a2
theorem pdi_tup {tg l:Expr} {r1:Bool} (hl:PD X G r1 l f):PDI X G tg l (iSeqT f):=by
 obtain ⟨t,pa,qa⟩:=hl.drop
 refine ⟨_,pi_tup pa,fun σ Hf H ρ s ds s' R e1 e2 e3 e4 k=>?_⟩
 obtain ⟨d,s1,a1,a2⟩:=mbind_some e4
 cases d with
 | tup es=>
  obtain ⟨rfl,rfl⟩:=mret_some a2
  refine qa σ Hf H ρ s _ _ _ e1 e2 e3 a1 fun v Hf1 H1 g st r=>?_
  obtain ⟨a,vs,rfl,nf,h,rl⟩:=Rep.tup_iff.mp r
  exact ⟨a,rfl,⟨vs,SqT.of (g.fh _ _ nf h)⟩,k _ Hf1 H1 g st (.tup nf h rl)⟩
 | _=>cases a2
noncomputable def mFor (τ:D→Rho→Option Rho) (body:Rho→M Out):List D→Rho→M Out
 | [],ρ=>mret (.nx ρ)
 | d::ds,ρ=>mbind (mOf (τ d ρ)) fun ρ1=>mbind (body ρ1) fun o=>match o with | .nx ρ2=>mFor τ body ds ρ2 | .ct ρ2=>mFor τ body ds ρ2 | .bk ρ2=>mret (.nx ρ2) | .rt d=>mret (.rt d)
noncomputable def sFor (fi:Rho→M (List D)) (τ:D→Rho→Option Rho) (body:Rho→M Out):Rho→M Out:=fun ρ=>mbind (fi ρ) fun ds=>mFor τ body ds ρ
noncomputable def PDIJ (X:Cx) (G:Gh) (own:List Nat) (tg iter:Expr) (f:Rho→M (List D)):Prop:=
 ∃wi,PI X tg iter wi∧∀(kn Hf0 H0:Hp) (σ:St) (Hf H:Hp) (ρ:Rho) (s:Pn) (ds:List D) (s':Pn) (R:It→Hp→Prop),Jf G own kn Hf0 H0 σ Hf H ρ→G.st s H→f ρ s=some (ds,s')→
  (∀J Hf' H',Jf G own kn Hf0 H0 σ Hf' H' ρ→Ext G Hf Hf'→G.st s' H'→ItOk G J Hf' ds→R J H')→wi σ H R
theorem pdij_range1 {tg a:Expr} {p pos:Pos} {r1:Bool} (hg:Gl X "range") (hm:X.mg "range" = none) (ha:PD X G r1 a f) (hs:starEach [a] X.env=[(false,eval a X.env)]:=by rfl):PDIJ X G own tg (.Call (.Name "range" p) [a] [] pos) (iRange1 f):=by
 obtain ⟨t,pa,qa⟩:=ha.drop
 refine ⟨_,pi_range1 hg hm (pa_cons pa pa_nil (by rw [hs];rfl)) hs,fun kn Hf0 H0 σ Hf H ρ s ds s' R j st e4 k=>?_⟩
 obtain ⟨d,s1,a1,a2⟩:=mbind_some e4
 cases d with
 | int i=>
  obtain ⟨c,a3⟩:=mif_some a2
  obtain ⟨rfl,rfl⟩:=mret_some a3
  refine qa σ _ H ρ s _ _ _ wide_ext j.envB st a1 fun v Hf1 H1 g st r=>?_
  obtain ⟨F,j',fF,q1,q2⟩:=j.growB g
  rw [Rep.int_iff.mp r]
  exact ⟨i,rfl,c.1,c.2,k _ F H1 j' fF st (.range rfl)⟩
 | _=>cases a2
theorem pdij_range2 {tg a b:Expr} {p pos:Pos} {r1 r2:Bool} {f2:Rho→M D} (hg:Gl X "range") (hm:X.mg "range" = none) (ha:PD X G r1 a f) (hb:PD X G r2 b f2)
  (hs:starEach [a,b] X.env=[(false,eval a X.env),(false,eval b X.env)]:=by rfl) (hs2:starEach [b] X.env=[(false,eval b X.env)]:=by rfl):PDIJ X G own tg (.Call (.Name "range" p) [a,b] [] pos) (iRange2 f f2):=by
 obtain ⟨t,pa,qa⟩:=ha.drop
 obtain ⟨u,pb,qb⟩:=hb.drop
 refine ⟨_,pi_range2 hg hm (pa_cons pa (pa_cons pb pa_nil (by rw [hs2];rfl)) (by rw [hs,hs2])) hs hs2,fun kn Hf0 H0 σ Hf H ρ s ds s' R j st e4 k=>?_⟩
 obtain ⟨d,s1,a1,a2⟩:=mbind_some e4
 obtain ⟨d2,s2,a3,a4⟩:=mbind_some a2
 match d,d2,a4,a1,a3 with
 | .int i,.int l,a4,a1,a3=>
  obtain ⟨c,a5⟩:=mif_some a4
  obtain ⟨rfl,rfl⟩:=mret_some a5
  refine qa σ _ H ρ s _ _ _ wide_ext j.envB st a1 fun v Hf1 H1 g st r=>?_
  refine qb σ Hf1 H1 ρ s1 _ _ _ g.fh (j.envB.ext g.ff) st a3 fun v2 Hf2 H2 g2 st2 r2=>?_
  obtain ⟨F,j',fF,q1,q2⟩:=j.growB (g.trans g2)
  rw [Rep.int_iff.mp r,Rep.int_iff.mp r2]
  exact ⟨i,l,rfl,c,k _ F H2 j' fF st2 (.range rfl)⟩
theorem Jf.weak {kn kn' Hf0 H0 Hf H:Hp} {σ:St} {ρ:Rho} (j:Jf G own kn' Hf0 H0 σ Hf H ρ) (e:Ext G kn kn'):Jf G own kn Hf0 H0 σ Hf H ρ:=⟨j.len,e.trans j.kn,j.gr,j.fz,j.ow,j.ne⟩
theorem pds_for {tg iter:Expr} {body:List Stmt} {pos:Pos} {fi:Rho→M (List D)} {τ:D→Rho→Option Rho} {g:Rho→M Out} (hp:PassesOwn (model X.prog X.w) X.A X.env X.xe) (hc:X.calm=true) (hi:PDIJ X G own tg iter fi) (hg:PDG X G tg (fun i=>i∉own) τ) (hb:PDSs X G own own own fr body g)
  (hs:∀x,foldedSetIterable iter X.env x=pure x:=by intro _;rfl):PDS X G ob own own fr (.For tg iter body [] pos) (sFor fi τ g):=by
 obtain ⟨wi,pi,qi⟩:=hi
 obtain ⟨gt,pg,qg⟩:=hg
 obtain ⟨tb,pb,qb⟩:=hb
 refine ⟨_,ps_for hp hc pi pg pb hs,fun kn Hf0 H0 σ H ρ s out s' E ⟨Hf,j⟩ st e po=>?_⟩
 obtain ⟨ds,s1,a1,a2⟩:=mbind_some e
 refine qi kn Hf0 H0 σ Hf H ρ s ds s1 _ j st a1 fun Jt Hf1 H1 j1 e1 st1 it=>?_
 refine ⟨fun i m σ2 H2=>∃ρ2 s2,J G own Hf1 Hf0 H0 σ2 H2 ρ2∧G.st s2 H2∧mFor τ g (ds.drop i) ρ2 s2=some (out,s')∧i≤ds.length∧m=ds.length-i,⟨_,ρ,s1,⟨Hf1,⟨j1.len,.refl _ _,j1.gr,j1.fz,j1.ow,j1.ne⟩⟩,st1,a2,Nat.zero_le _,rfl⟩,?_⟩
 rintro i m σ2 H2 ⟨ρ2,s2,⟨Hf2,j2⟩,st2,eq2,hle,rfl⟩
 obtain ⟨i1,i2⟩:=it i Hf2 H2 s2 j2.kn j2.gr.fh st2
 by_cases hlt:i<ds.length
 ·have hd:ds.drop i=ds[i]::ds.drop (i+1):=List.drop_eq_getElem_cons hlt
  rw [hd] at eq2
  obtain ⟨ρ3,s3,b1,b2⟩:=mbind_some eq2
  obtain ⟨b1',e3⟩:=mOf_some b1
  subst e3
  obtain ⟨o,s4,b3,b4⟩:=mbind_some b2
  obtain ⟨go,yl⟩:=i1 ds[i] (by simp [hlt])
  refine .inr ⟨go,fun σ' H'=>∃ρ5 s5,J G own Hf1 Hf0 H0 σ' H' ρ5∧G.st s5 H'∧mFor τ g (ds.drop (i+1)) ρ5 s5=some (out,s'),fun σ' H' ⟨ρ5,s5,j5,st5,q5⟩=>⟨_,by omega,ρ5,s5,j5,st5,q5,hlt,rfl⟩,fun x H3 y3=>?_⟩
  obtain ⟨Hf3,g3,st3,r3⟩:=yl x H3 y3
  have j3:=j2.grow g3
  refine qg x σ2 Hf3 H3 ds[i] ρ2 ρ3 _ g3.fh r3 b1' fun σ3 sets=>?_
  have j4:=sets.jf j3
  refine qb Hf1 Hf0 H0 σ3 H3 ρ3 s3 o s4 _ ⟨Hf3,j4⟩ st3 b3 ?_
  cases o with
  | nx ρ5=>exact fun σ5 H5 j5 st5=>⟨ρ5,s4,j5,st5,b4⟩
  | ct ρ5=>exact fun σ5 H5 j5 st5=>⟨ρ5,s4,j5,st5,b4⟩
  | bk ρ5=>
   obtain ⟨rfl,rfl⟩:=mret_some b4
   exact fun σ5 H5 ⟨Hf5,j5⟩ st5=>po σ5 H5 ⟨Hf5,j5.weak (j.kn.trans e1)⟩ st5
  | rt d=>
   obtain ⟨rfl,rfl⟩:=mret_some b4
   exact po
 ·have hd:ds.drop i=[]:=List.drop_eq_nil_iff.mpr (by omega)
  rw [hd] at eq2
  obtain ⟨rfl,rfl⟩:=mret_some eq2
  exact .inl ⟨i2 (by omega),po σ2 H2 ⟨Hf2,j2.weak (j.kn.trans e1)⟩ st2⟩
end
noncomputable def runB (n k:Nat) (g:Rho→M Out):List D→M D:=fun ds=>if ds.length=k then mbind (g (ds.map some++List.replicate (n-k) none)) fun o=>match o with | .rt d=>mret d | .nx _=>mret .non | _=>mfail else mfail
theorem fnD {P:Program} {w:World} {K:PySem.W.Frag} {mg:Str→Option Value} {base:Heap} {x qual:Str} {st:Stmt} {f:Addr} {fd:FuncData} {N ps:List Str} {k:Nat} {own:List Nat} {fr:Bool} {GG:Gh→Prop} {g:Rho→M Out}
  (F:Fun K x qual st f fd) (S:FnScope N ps (defScope st))
  (hb:∀(cdv:Value) (A:Around) (outer:List Env) (s:Shared) (H:Hp) (E:XK),Room k (A.deeper (envOfC qual (defScope st) s.heap.objs.size f cdv))→∀G,GG G→PDSs (cxOf CX0 P w K mg base N qual (defScope st) f cdv A outer s H E).nox G [] [] own fr (defBody st) g) :
  FnOk P w K mg base CX0 (k+1) f fd ps (spD ps.length fr GG (runB N.length ps.length g)):=by
 refine F.ok S (fun vs H Q E h=>?_) fun cdv A outer s H vs Q E hr h=>?_
 ·obtain ⟨G,Hf,ds,pn,d,pn',_,e,_⟩:=h
  exact e
 ·obtain ⟨G,Hf,ds,pn,d,pn',hG,el,e1,r,st',eF,k'⟩:=h
  obtain ⟨t,p,q⟩:=hb cdv A outer s H E hr G hG
  refine ⟨t,p,?_⟩
  obtain ⟨hl,a0⟩:=mif_some eF
  obtain ⟨o,s1,a1,a2⟩:=mbind_some a0
  have hpl:ps.length≤N.length:=by have:=congrArg List.length S.pre;rw [List.length_take] at this;omega
  have j0:Jf G [] Hf Hf H (L2.start N vs) Hf H (ds.map some++List.replicate (N.length-ps.length) none):=by
   refine ⟨?_,.refl _ _,.refl e1,fun i d n e=>?_,fun i d m e=>?_,fun i j a di dj mi mj n e=>?_⟩
   ·unfold L2.start;simp;omega
   ·have hi:i<ds.length:=by
     by_cases hi:i<ds.length
     ·exact hi
     ·rw [List.getElem?_append_right (by simpa using hi),List.getElem?_replicate] at e
      split at e <;> cases e
    have e':ds[i]?=some d:=by
     rw [List.getElem?_append_left (by simpa using hi),List.getElem?_map] at e
     cases q:ds[i]? with
     | none=>rw [q] at e;cases e
     | some c=>rw [q] at e;simp at e;rw [e]
    obtain ⟨v,h1,h2⟩:=r.get e'
    refine ⟨v,?_,h2⟩
    unfold L2.start
    rw [List.getElem?_append_left (by simp;rw [←r.length];exact hi),List.getElem?_map,h1]
    rfl
   ·exact absurd m (by simp)
   ·exact absurd mi (by simp)
  refine q Hf Hf H (L2.start N vs) H _ pn o s1 _ ⟨Hf,j0⟩ st' a1 ?_
  cases o with
  | rt c=>
   obtain ⟨rfl,rfl⟩:=mret_some a2
   exact fun v Hf' H' g' st2 r2 fz=>k' v Hf' H' g' st2 r2 fz
  | nx ρ'=>
   obtain ⟨rfl,rfl⟩:=mret_some a2
   exact fun σ' H' ⟨Hf',j'⟩ st2=>k' .non Hf' H' j'.gr st2 (Rep.non_iff.mpr rfl) fun _=>.scal fun z=>z
  | bk ρ'=>cases a2
  | ct ρ'=>cases a2
noncomputable def tOf (G:Gh) (fr:Bool) (f:Rho→M D):TE:=fun σ H Q=>∃(Hf:Hp) (ρ:Rho) (s:Pn) (d:D) (s':Pn),Ext G Hf H∧EnvR G Hf σ ρ∧G.st s H∧f ρ s=some (d,s')∧
 ∀v Hf' H',Gr G Hf H Hf' H'→G.st s' H'→Rep G Hf' d v→(fr=true→FreshL G H Hf' d v)→Q v H'
noncomputable def tOfT (G:Gh) (f:Rho→M Bool):TT:=fun σ H Q=>∃(Hf:Hp) (ρ:Rho) (s:Pn) (b:Bool) (s':Pn),Ext G Hf H∧EnvR G Hf σ ρ∧G.st s H∧f ρ s=some (b,s')∧
 ∀Hf' H',Gr G Hf H Hf' H'→G.st s' H'→Q b H'
noncomputable def gOf (G:Gh) (ok:Nat→Prop) (τ:D→Rho→Option Rho):TG:=fun x σ H Q=>∃(Hf:Hp) (d:D) (ρ ρ':Rho),Ext G Hf H∧Rep G Hf d x∧τ d ρ=some ρ'∧∀σ',Sets G Hf ok σ ρ σ' ρ'→Q σ' H
section
variable {X:Cx} {G:Gh} {own:List Nat} {fr:Bool} {f:Rho→M D}
theorem PD.canon {e:Expr} (h:PD X G fr e f):PE X e (tOf G fr f):=by
 obtain ⟨t,p,q⟩:=h
 exact fun pins s σ H Q I ⟨Hf,ρ,pn,d,pn',a1,a2,a3,a4,k⟩=>p pins s σ H Q I (q σ Hf H ρ pn d pn' Q a1 a2 a3 a4 k)
theorem PDT.canon {e:Expr} {f:Rho→M Bool} (h:PDT X G e f):PT X e (tOfT G f):=by
 obtain ⟨t,p,q⟩:=h
 exact fun pins s σ H Q I ⟨Hf,ρ,pn,d,pn',a1,a2,a3,a4,k⟩=>p pins s σ H Q I (q σ Hf H ρ pn d pn' Q a1 a2 a3 a4 k)
theorem PDG.canon {tg:Expr} {ok:Nat→Prop} {τ:D→Rho→Option Rho} (h:PDG X G tg ok τ):PG X tg (gOf G ok τ):=by
 obtain ⟨t,p,q⟩:=h
 exact fun pins s σ H v u Q I r ⟨Hf,d,ρ,ρ',a1,a2,a3,k⟩=>p pins s σ H v u Q I r (q v σ Hf H d ρ ρ' Q a1 a2 a3 k)
noncomputable def blkRho (src:List (Option Nat)) (ρ:Rho):Rho:=src.map fun o=>o.bind fun j=>(ρ[j]?).bind id
theorem blkRho_env {Hf:Hp} {σ:St} {ρ:Rho} {src:List (Option Nat)} (h:EnvR G Hf σ ρ):EnvR G Hf (blkSt src σ) (blkRho src ρ):=fun i d e=>by
 unfold blkRho at e
 rw [List.getElem?_map] at e
 cases q:src[i]? with
 | none=>rw [q] at e;cases e
 | some o=>
  rw [q] at e
  cases o with
  | none=>simp at e
  | some j=>
   simp only [Option.map_some,Option.bind_some,Option.some.injEq] at e
   have hj:ρ[j]?=some (some d):=by
    cases e2:ρ[j]? with
    | none=>rw [e2] at e;cases e
    | some o2=>rw [e2] at e;simp at e;rw [e]
   obtain ⟨v,h1,h2⟩:=h j d hj
   refine ⟨v,?_,h2⟩
   unfold blkSt
   rw [List.getElem?_map,q]
   simp [h1]
theorem Sets.len {Hf:Hp} {ok:Nat→Prop} {σ σ':St} {ρ ρ':Rho} (h:Sets G Hf ok σ ρ σ' ρ'):(σ.length=ρ.length→σ'.length=ρ'.length)∧σ'.length=σ.length:=by
 induction h with
 | nil=>exact ⟨fun e=>e,rfl⟩
 | cons _ _ _ ih=>exact ⟨fun e=>ih.1 (by simp [e]),ih.2.trans (by simp)⟩
theorem Sets.env {Hf:Hp} {ok:Nat→Prop} {σ σ':St} {ρ ρ':Rho} (h:Sets G Hf ok σ ρ σ' ρ'):σ.length=ρ.length→EnvR G Hf σ ρ→EnvR G Hf σ' ρ':=by
 induction h with
 | nil=>exact fun _ e=>e
 | @cons σ ρ σ' ρ' i d v o r _ ih=>
  intro hl he
  refine ih (by simp [hl]) fun k c e=>?_
  by_cases h:i=k
  ·subst h
   have hk:i < ρ.length:=by
    have:=(List.getElem?_eq_some_iff.mp e).1
    simpa using this
   rw [List.getElem?_set_self hk] at e
   cases e
   exact ⟨v,List.getElem?_set_self (by rw [hl];exact hk),r⟩
  ·rw [List.getElem?_set_ne h] at e ⊢
   exact he k c e
theorem Sets.envOld {Hf:Hp} {ok:Nat→Prop} {σ σ':St} {ρ ρ' ρ0:Rho} (h:Sets G Hf ok σ ρ σ' ρ') (h0:∀i d,ok i→ρ0[i]?≠some (some d)):EnvR G Hf σ ρ0→EnvR G Hf σ' ρ0:=by
 induction h with
 | nil=>exact fun e=>e
 | @cons σ ρ σ' ρ' i d v o r _ ih=>
  intro he
  refine ih fun k c e=>?_
  have hne:i≠k:=fun z=>h0 k c (z▸o) e
  rw [List.getElem?_set_ne hne]
  exact he k c e
noncomputable def mComp (τ:D→Rho→Option Rho) (ft:Rho→M Bool) (fe:Rho→M D) (ρ:Rho):List D→M (List D)
 | []=>mret []
 | d::ds=>mbind (mOf (τ d ρ)) fun ρ1=>mbind (ft ρ1) fun b=>if b=true then mbind (fe ρ1) fun c=>mbind (mComp τ ft fe ρ ds) fun r=>mret (c::r) else mComp τ ft fe ρ ds
noncomputable def dComp (src:List (Option Nat)) (fi:Rho→M (List D)) (τ:D→Rho→Option Rho) (ft:Rho→M Bool) (fe:Rho→M D):Rho→M D:=fun ρ=>
 mbind (fi ρ) fun ds=>if ds.length≤sizeLine then mbind (mComp τ ft fe (blkRho src ρ) ds) fun r=>mret (.lst r) else mfail
noncomputable def bTrue:Rho→M Bool:=fun _=>mret true
theorem comp_yld {src:List (Option Nat)} {wi:TI} {fi:Rho→M (List D)} {τ:D→Rho→Option Rho} {ft:Rho→M Bool} {fe:Rho→M D} {r1:Bool}
  (qi:∀(σ:St) (Hf H:Hp) (ρ:Rho) (s:Pn) (ds:List D) (s':Pn) (R:It→Hp→Prop),Ext G Hf H→EnvR G Hf σ ρ→G.st s H→fi ρ s=some (ds,s')→
   (∀J Hf' H',Gr G Hf H Hf' H'→G.st s' H'→ItOk G J Hf' ds→R J H')→wi σ H R) :
  Yld G true (tComp src wi (gOf G (fun i=>src[i]?=some none) τ) (tOfT G ft) (tOf G r1 fe)) (dComp src fi τ ft fe):=by
 intro σ Hf H ρ s d s' Q e1 e2 e3 e4 k
 obtain ⟨ds,s1,a1,a2⟩:=mbind_some e4
 obtain ⟨hz,a3⟩:=mif_some a2
 obtain ⟨r,s2,a4,a5⟩:=mbind_some a3
 obtain ⟨rfl,rfl⟩:=mret_some a5
 refine qi σ Hf H ρ s ds s1 _ e1 e2 e3 a1 fun Jt Hf1 H1 g1 st1 it=>?_
 intro p hp
 have nrp:=Gh.nord st1 hp
 have nfp:=Gh.sub' nrp
 have hf1p:Hf1 p=none:=by
  cases e:Hf1 p with
  | none=>rfl
  | some o=>rw [g1.fh p o nfp e] at hp;cases hp
 have h0:∀(i:Nat) (d:D),src[i]?=some none→(blkRho src ρ)[i]?≠some (some d):=fun i d e q=>by
  unfold blkRho at q
  rw [List.getElem?_map,e] at q
  simp at q
 refine ⟨fun i m σ2 H2=>∃(Hf2:Hp) (s2:Pn) (vs:List V) (acc rest:List D),i≤ds.length∧m=ds.length-i∧Gr G Hf1 H1 Hf2 H2∧EnvR G Hf2 σ2 (blkRho src ρ)∧σ2.length=(blkRho src ρ).length∧G.st s2 H2∧Hf2 p=none∧H2 p=some (.lst vs)∧RepL G Hf2 acc vs∧acc.length≤i∧
  mComp τ ft fe (blkRho src ρ) (ds.drop i) s2=some (rest,s')∧acc++rest=r,⟨_,Hf1,s1,[],[],r,Nat.zero_le _,rfl,?_,?_,?_,Gh.grow st1 hp,hf1p,upd_same,RepL.nil_iff.mpr rfl,Nat.le_refl _,a4,rfl⟩,?_⟩
 ·refine ⟨fun b o n e=>?_,.refl _ _,fun b o n e=>?_,fun b n h1 h2=>h1⟩
  ·rw [upd_ne (ne_of_none e hp)];exact e
  ·rw [upd_ne (ne_of_none e hf1p)];exact g1.fh b o n e
 ·exact blkRho_env (e2.ext g1.ff)
 ·unfold blkSt blkRho;simp
 ·rintro i m σ2 H2 ⟨Hf2,sz,vs,acc,rest,hle,rfl,g2,env2,len2,st2,hfp2,hp2,racc,hacc,eq2,hr⟩
  obtain ⟨i1,i2⟩:=it i Hf2 H2 sz g2.ff g2.fh st2
  by_cases hlt:i<ds.length
  ·have hd:ds.drop i=ds[i]::ds.drop (i+1):=List.drop_eq_getElem_cons hlt
   rw [hd] at eq2
   obtain ⟨ρ3,s3,b1,b2⟩:=mbind_some eq2
   obtain ⟨b1',e3'⟩:=mOf_some b1
   subst e3'
   obtain ⟨bo,s4,b3,b4⟩:=mbind_some b2
   obtain ⟨go,yl⟩:=i1 ds[i] (by simp [hlt])
   refine .inr ⟨go,fun x H3 y3=>?_⟩
   obtain ⟨Hf3,g3,st3,r3⟩:=yl x H3 y3
   refine ⟨Hf3,ds[i],blkRho src ρ,ρ3,g3.fh,r3,b1',fun σ4 sets=>?_⟩
   have env2':=env2.ext g3.ff
   have env4:=sets.env len2 env2'
   have env4':=sets.envOld h0 env2'
   refine ⟨Hf3,ρ3,s3,bo,s4,g3.fh,env4,st3,b3,fun Hf5 H5 g5 st5=>?_⟩
   have g25:=g3.trans g5
   have hfp5:Hf5 p=none:=g25.nw p nfp hfp2 ⟨_,hp2,fun _ z=>by cases z⟩
   have hp5:H5 p=some (.lst vs):=g25.hh p _ nfp hp2
   cases bo with
   | false=>
    refine iteF ⟨ds.length-(i+1),by omega,Hf5,s4,vs,acc,rest,hlt,rfl,g2.trans g25,env4'.ext g5.ff,by rw [←len2];exact sets.len.2,st5,hfp5,hp5,racc.ext g25.ff,by omega,?_,hr⟩
    exact b4
   | true=>
    have b4':mbind (fe ρ3) (fun c=>mbind (mComp τ ft fe (blkRho src ρ) (ds.drop (i+1))) fun r=>mret (c::r)) s4=some (rest,s'):=b4
    obtain ⟨c,s6,b5,b6⟩:=mbind_some b4'
    obtain ⟨rr,s7,b7,b8⟩:=mbind_some b6
    obtain ⟨rfl,rfl⟩:=mret_some b8
    refine iteT ⟨Hf5,ρ3,s4,c,s6,g5.fh,env4.ext g5.ff,st5,b5,fun v Hf6 H6 g6 st6 r6 _=>?_⟩
    have hfp6:Hf6 p=none:=g6.nw p nfp hfp5 ⟨_,hp5,fun _ z=>by cases z⟩
    have hp6:H6 p=some (.lst vs):=g6.hh p _ nfp hp5
    have hl:vs.length<sizeLine:=by rw [←racc.length];omega
    refine ⟨vs,hp6,hl,ds.length-(i+1),by omega,Hf6,s6,vs ++ [v],acc ++ [c],rr,hlt,rfl,?_,(env4'.ext g5.ff).ext g6.ff,by rw [←len2];exact sets.len.2,?_,hfp6,upd_same,(racc.ext (g25.ff.trans g6.ff)).append (.one r6),by simp;omega,b7,by rw [←hr];simp⟩
    ·have gg:=(g2.trans g25).trans g6
     refine ⟨fun b o n e=>?_,gg.ff,fun b o n e=>?_,gg.nw⟩
     ·rw [upd_ne (ne_of_none e hp)];exact gg.hh b o n e
     ·rw [upd_ne (ne_of_none e hfp6)];exact gg.fh b o n e
    ·refine G.mono _ _ _ st6 (fun b o rb e=>?_) fun b φ e=>?_
     ·have:b≠p:=fun z=>nrp (z▸rb)
      rw [upd_ne this];exact e
     ·have:b≠p:=fun z=>by rw [z,hp6] at e;cases e
      rw [upd_ne this];exact e
  ·have hd:ds.drop i=[]:=List.drop_eq_nil_iff.mpr (by omega)
   rw [hd] at eq2
   obtain ⟨rfl,rfl⟩:=mret_some eq2
   refine .inl ⟨i2 (by omega),?_⟩
   rw [List.append_nil] at hr
   subst hr
   refine k (.ref p) (upd Hf2 p (.lst vs)) H2 (g1.trans ⟨g2.hh,fun b o n e=>?_,fun b o n e=>?_,fun b n h1 h2=>?_⟩) st2 (Rep.lst_iff.mpr ⟨p,vs,rfl,nfp,upd_same,racc.ext fun b o n e=>?_⟩) fun _ a ea _=>?_
   ·rw [upd_ne (ne_of_none (g2.ff b o n e) hfp2)];exact g2.ff b o n e
   ·by_cases hb:b=p
    ·subst hb;rw [upd_same] at e;rw [hp2];exact e
    ·rw [upd_ne hb] at e;exact g2.fh b o n e
   ·have:b≠p:=fun z=>h2.no (z▸hp)
    rw [upd_ne this];exact g2.nw b n h1 h2
   ·rw [upd_ne (ne_of_none e hfp2)];exact e
   ·cases ea
    refine ⟨?_,fun ds' ed=>?_⟩
    ·cases q:H p with
     | none=>rfl
     | some o=>rw [g1.hh p o nfp q] at hp;cases hp
    ·cases ed
     exact ⟨vs,Hf2,upd_same,hfp2,fun b o n e=>by rw [upd_ne (ne_of_none e hfp2)];exact e,racc⟩
theorem pifs0:PIfs X [] (tOfT G bTrue):=fun pins s σ H Q I ⟨Hf,ρ,pn,b,pn',a1,a2,a3,a4,k⟩=>by
 obtain ⟨rfl,rfl⟩:=mret_some a4
 exact pifs_nil pins s σ H Q I (k Hf H (.refl a1) a3)
theorem pifs1 {c:Expr} {ft:Rho→M Bool} (h:PDT X G c ft):PIfs X [c] (tOfT G ft):=pifs_one h.canon
theorem Jf.put {kn Hf0 H0 Hf H:Hp} {σ:St} {ρ:Rho} {i:Nat} {a:Addr} {d d':D} {o':HO} (j:Jf G own kn Hf0 H0 σ Hf H ρ) (hi:i∈own) (e:ρ[i]?=some (some d)) (sa:σ[i]?=some (some (.ref a)))
  (new:OwnRep G Hf (upd H a o') a d'):Jf G own kn Hf0 H0 σ Hf (upd H a o') (ρ.set i (some d')):=by
 obtain ⟨a',h1,h2,h3,h4,h5⟩:=j.ow i d hi e
 rw [sa] at h1;cases h1
 have il:i < ρ.length:=(List.getElem?_eq_some_iff.mp e).1
 refine ⟨by simp [j.len],j.kn,⟨fun b o n q=>?_,j.gr.ff,fun b o n q=>?_,j.gr.nw⟩,fun k c n q=>?_,fun k c m q=>?_,fun k l b dk dl mk ml n ek el sk sl=>?_⟩
 ·rw [upd_ne (ne_of_none q h4)];exact j.gr.hh b o n q
 ·rw [upd_ne (ne_of_none q h3)];exact j.gr.fh b o n q
 ·have hne:i≠k:=fun z=>n (z▸hi)
  rw [List.getElem?_set_ne hne] at q
  exact j.fz k c n q
 ·by_cases hk:i=k
  ·subst hk
   rw [List.getElem?_set_self il] at q
   cases q
   exact ⟨a,sa,h2,h3,h4,new⟩
  ·rw [List.getElem?_set_ne hk] at q
   obtain ⟨b,g1,g2,g3,g4,g5⟩:=j.ow k c m q
   have hab:b≠a:=fun z=>j.ne i k a d c hi m hk e q sa (z▸g1)
   exact ⟨b,g1,g2,g3,g4,g5.keep (.refl _ _) fun o z=>by rw [upd_ne hab];exact z⟩
 ·have ek':∃d,ρ[k]?=some (some d):=by
   by_cases hk:i=k
   ·exact ⟨d,hk▸e⟩
   ·rw [List.getElem?_set_ne hk] at ek;exact ⟨_,ek⟩
  have el':∃d,ρ[l]?=some (some d):=by
   by_cases hl:i=l
   ·exact ⟨d,hl▸e⟩
   ·rw [List.getElem?_set_ne hl] at el;exact ⟨_,el⟩
  obtain ⟨_,ek'⟩:=ek'
  obtain ⟨_,el'⟩:=el'
  exact j.ne k l b _ _ mk ml n ek' el' sk sl
theorem own_get {kn Hf0 H0 Hf H:Hp} {σ:St} {ρ:Rho} {i:Nat} {ds:List D} (j:Jf G own kn Hf0 H0 σ Hf H ρ) (hi:i∈own) (e:ρ[i]?=some (some (.lst ds))) :
  ∃a vs,σ[i]?=some (some (.ref a))∧¬G.rd a∧H a=some (.lst vs)∧RepL G Hf ds vs:=by
 obtain ⟨a,h1,h2,h3,h4,vs,h5,h6⟩:=j.ow i _ hi e
 exact ⟨a,vs,h1,h2,h5,h6⟩
theorem bind_id {ρ:Rho} {i:Nat} {d:D} (h:(ρ[i]?).bind id=some d):ρ[i]?=some (some d):=by
 cases q:ρ[i]? with
 | none=>rw [q] at h;cases h
 | some o=>rw [q] at h;simp at h;rw [h]
theorem Gh.other {s:Pn} {H:Hp} {a:Addr} {o:HO} (st:G.st s H) (h:¬G.rd a)
  (hx:∀φ,H a≠some (.ext φ):=by intro φ z;first | (have z2:=z.symm.trans (by assumption:_=some (L2.HO.lst _));cases z2) | (have z2:=z.symm.trans (by assumption:_=some (L2.HO.dK _));cases z2) | (have z2:=z.symm.trans (by assumption:_=some (L2.HO.dT _));cases z2)):G.st s (upd H a o):=G.mono _ _ _ st (fun b u rb e=>by
 have:b≠a:=fun z=>h (z▸rb)
 rw [upd_ne this];exact e) fun b φ e=>by
 have:b≠a:=fun z=>hx φ (z▸e)
 rw [upd_ne this];exact e
noncomputable def sApp (i:Nat) (f:Rho→M D):Rho→M Out:=fun ρ=>mbind (f ρ) fun d=>match (ρ[i]?).bind id with
 | some (.lst ds)=>if ds.length<sizeLine then mret (.nx (ρ.set i (some (.lst (ds ++ [d]))))) else mfail
 | _=>mfail
theorem app_yld {i:Nat} {ob:List Nat} {te:TE} {r1:Bool} (hi:i∈own) (hy:YldJ G own r1 te f) :
  Dos G ob own own fr (tDrop (tBM X.K "list" rAppend (tVar i) (tCons te tNil))) (sApp i f):=fun kn Hf0 H0 σ H ρ s out s' E ⟨Hf,j⟩ st e po=>by
 obtain ⟨d,s1,a1,a2⟩:=mbind_some e
 cases hb:(ρ[i]?).bind id with
 | none=>rw [hb] at a2;cases a2
 | some c=>
  rw [hb] at a2
  cases c with
  | lst ds=>
   have a2':(if ds.length<sizeLine then mret (.nx (ρ.set i (some (.lst (ds ++ [d]))))) else mfail) s1=some (out,s'):=a2
   obtain ⟨c2,a3⟩:=mif_some a2'
   obtain ⟨rfl,rfl⟩:=mret_some a3
   have ei:=bind_id hb
   obtain ⟨a,vs,h1,h2,h3,h4⟩:=own_get j hi ei
   refine ⟨_,h1,.inl ⟨rfl,vs,SqL.of h3⟩,?_⟩
   refine hy kn Hf0 H0 σ Hf H ρ s d s' _ j st a1 fun v Hf' H' j' e1 e2 st' r fz=>?_
   obtain ⟨a',vs',h1',h2',h3',h4'⟩:=own_get j' hi ei
   rw [h1] at h1';cases h1'
   refine ⟨a,vs',v,rfl,rfl,h3',by rw [←h4'.length];exact c2,?_⟩
   exact po σ _ ⟨Hf',j'.put hi ei h1 ⟨vs' ++ [v],upd_same,h4'.append (.one r)⟩⟩ (Gh.other st' h2)
  | _=>cases a2
theorem ps_append {i:Nat} {x:Str} {e:Expr} {pos p1 p2 p3:Pos} {te:TE} (hv:PE X (.Name x p1) (tVar i)) (p:PE X e te)
  (hbase:attributeBase (.Name x p1) "append" X.env (eval (.Name x p1) X.env)=eval (.Name x p1) X.env:=by rfl)
  (hfew:((backTo p3 (starEach [e] X.env)).all (fun x=>!x.1)&&(backToKw p3 (keywordEach [] X.env)).all (fun x=>x.1.isSome)
   && decide ([e].length+([]:List Keyword).length+(if ([]:List Keyword).isEmpty then 0 else 1)<30))=true:=by rfl)
  (hline:(p2.endLine==p3.line)=true:=by rfl) (hs:starEach [e] X.env=(false,eval e X.env)::starEach [] X.env:=by rfl)
  (hsw:swapsWith (.Call (.Attribute (.Name x p1) "append" p2) [e] [] p3) none pos.line X.env=pure false:=by rfl) :
  PS X (.Expr (.Call (.Attribute (.Name x p1) "append" p2) [e] [] p3) pos) (tDrop (tBM X.K "list" rAppend (tVar i) (tCons te tNil))):=
 ps_expr (pe_bm PySem.F.plainAttrs_list PySem.F.slot_list_append PySem.F.type_list_append mt_append hv (pa_cons p pa_nil hs) hbase hfew hline hs rfl) hsw
section
variable {i:Nat} {x:Str} {e:Expr} {pos p1 p2 p3:Pos} {r1:Bool} {ob:List Nat} {st:Stmt}
theorem pds_appA (hi:i∈own) (he:PD X G r1 e f) (hp:∀te,PE X e te→PS X st (tDrop (tBM X.K "list" rAppend (tVar i) (tCons te tNil)))):PDS X G ob own own fr st (sApp i (fun ρ=>f (hide own ρ))):=by
 obtain ⟨t,p,q⟩:=he
 exact ⟨_,hp t p,app_yld hi (Yld.a q)⟩
end
end
section
variable {X:Cx} {G:Gh}
noncomputable def dI (C:Int→Int→Bool) (g:Int→Int→D):D→D→Option D
 | .int i,.int j=>if C i j=true then some (g i j) else none
 | _,_=>none
theorem dI_some {C:Int→Int→Bool} {g:Int→Int→D} {d e c:D} (h:dI C g d e=some c):∃i j,d=.int i∧e=.int j∧C i j=true∧c=g i j:=by
 match d,e,h with
 | .int i,.int j,h=>
  have h':(if C i j=true then some (g i j) else none)=some c:=h
  split at h'
  ·rename_i hc;cases h';exact ⟨i,j,rfl,rfl,hc,rfl⟩
  ·cases h'
theorem opd_i {f:Value→Value→Sem Value} {C:Int→Int→Prop} {Cb:Int→Int→Bool} {g:Int→Int→Int} (h:OpR X f (rI C fun i j=>.int (g i j))) (hc:∀i j,Cb i j=true→C i j):OpD X G f (dI Cb fun i j=>.int (g i j)):=
 ⟨_,h,fun Hf H s x y d e c Q e1 st rx ry q k=>by
  obtain ⟨i,j,rfl,rfl,hcb,rfl⟩:=dI_some q
  exact ⟨i,j,Rep.int_iff.mp rx,Rep.int_iff.mp ry,hc i j hcb,k _ Hf H (.refl e1) st (Rep.int_iff.mpr rfl) (.scal fun z=>z)⟩⟩
theorem opd_i0 {f:Value→Value→Sem Value} {g:Int→Int→Int} (h:OpR X f (rI0 fun i j=>.int (g i j))):OpD X G f (dI (fun _ _=>true) fun i j=>.int (g i j)):=
 ⟨_,h,fun Hf H s x y d e c Q e1 st rx ry q k=>by
  obtain ⟨i,j,rfl,rfl,hcb,rfl⟩:=dI_some q
  exact ⟨i,j,Rep.int_iff.mp rx,Rep.int_iff.mp ry,k _ Hf H (.refl e1) st (Rep.int_iff.mpr rfl) (.scal fun z=>z)⟩⟩
theorem opd_b0 {f:Value→Value→Sem Value} {g:Int→Int→Bool} (h:OpR X f (rI0 fun i j=>.bl (g i j))):OpD X G f (dI (fun _ _=>true) fun i j=>.bl (g i j)):=
 ⟨_,h,fun Hf H s x y d e c Q e1 st rx ry q k=>by
  obtain ⟨i,j,rfl,rfl,hcb,rfl⟩:=dI_some q
  exact ⟨i,j,Rep.int_iff.mp rx,Rep.int_iff.mp ry,k _ Hf H (.refl e1) st (Rep.bl_iff.mpr rfl) (.scal fun z=>z)⟩⟩
noncomputable def dSub:=dI (fun _ _=>true) fun i j=>.int (i-j)
noncomputable def cMulB (i j:Int):Bool:=(decide (-(2 ^ 64)<i)&&decide (i<2 ^ 64))||(decide (-(2 ^ 64)<j)&&decide (j<2 ^ 64))
noncomputable def dMul:=dI cMulB fun i j=>.int (i*j)
noncomputable def dFdiv:=dI (fun _ j=>decide (0<j)&&decide (j<1073741824)) fun i j=>.int (i / j)
noncomputable def dMod:=dI (fun _ j=>decide (0<j)) fun i j=>.int (i % j)
theorem opd_sub:OpD X G (binaryOp .Sub) dSub:=opd_i0 op_sub
theorem opd_mul:OpD X G (binaryOp .Mult) dMul:=opd_i op_mul fun i j h=>by
 simp only [cMulB,Bool.or_eq_true,Bool.and_eq_true,decide_eq_true_eq] at h
 exact h
theorem opd_fdiv:OpD X G (binaryOp .FloorDiv) dFdiv:=opd_i op_fdiv fun i j h=>by simpa [CDiv] using h
theorem opd_mod:OpD X G (binaryOp .Mod) dMod:=opd_i op_mod fun i j h=>by simpa using h
noncomputable def dLe:=dI (fun _ _=>true) fun i j=>.bl (decide (i≤j))
noncomputable def dGt:=dI (fun _ _=>true) fun i j=>.bl (decide (j<i))
noncomputable def dGe:=dI (fun _ _=>true) fun i j=>.bl (decide (j≤i))
theorem opd_le:OpD X G (compareOp .LtE) dLe:=opd_b0 op_le
theorem opd_gt:OpD X G (compareOp .Gt) dGt:=opd_b0 op_gt
theorem opd_ge:OpD X G (compareOp .GtE) dGe:=opd_b0 op_ge
noncomputable def intsOf:List D→Option (List Int)
 | []=>some []
 | .int i::ds=>(intsOf ds).map (i :: ·)
 | _::_=>none
theorem intsOf_eq:∀{ds:List D} {ns:List Int},intsOf ds=some ns→ds=ns.map D.int
 | [],ns,h=>by simp [intsOf] at h;subst h;rfl
 | .int i::ds,ns,h=>by
  cases e:intsOf ds with
  | none=>simp [intsOf,e] at h
  | some ms=>simp [intsOf,e] at h;subst h;simp [intsOf_eq e]
 | .non::_,_,h=>by simp [intsOf] at h
 | .bl _::_,_,h=>by simp [intsOf] at h
 | .str _::_,_,h=>by simp [intsOf] at h
 | .tup _::_,_,h=>by simp [intsOf] at h
 | .lst _::_,_,h=>by simp [intsOf] at h
 | .dk _::_,_,h=>by simp [intsOf] at h
 | .dt _::_,_,h=>by simp [intsOf] at h
 | .du _::_,_,h=>by simp [intsOf] at h
 | .df _::_,_,h=>by simp [intsOf] at h
 | .pen::_,_,h=>by simp [intsOf] at h
 | .ty _::_,_,h=>by simp [intsOf] at h
theorem intsOf_map (ns:List Int):intsOf (ns.map D.int)=some ns:=by
 induction ns with
 | nil=>rfl
 | cons n ns ih=>simp [intsOf,ih]
theorem RepL.ints {H:Hp}:∀{ns:List Int} {vs:List V},RepL G H (ns.map D.int) vs→vs=ns.map V.int
 | [],vs,h=>RepL.nil_iff.mp h
 | n::ns,vs,h=>by
  obtain ⟨v,r,rfl,h1,h2⟩:=RepL.cons_iff.mp h
  rw [Rep.int_iff.mp h1,RepL.ints h2]
  rfl
noncomputable def dLt:D→D→Option D
 | .int i,.int j=>some (.bl (decide (i<j)))
 | .tup a,.tup b=>match intsOf a,intsOf b with | some ns,some ms=>some (.bl (HT.lexLt ns ms)) | _,_=>none
 | _,_=>none
theorem opd_lt (hu:X.A.units<cLine):OpD X G (compareOp .Lt) dLt:=
 ⟨_,op_lt.or (op_ltT hu),fun Hf H s x y d e c Q e1 st rx ry q k=>by
  match d,e,q,rx,ry with
  | .int i,.int j,q,rx,ry=>
   cases q
   exact .inl ⟨i,j,Rep.int_iff.mp rx,Rep.int_iff.mp ry,k _ Hf H (.refl e1) st (Rep.bl_iff.mpr rfl) (.scal fun z=>z)⟩
  | .tup a,.tup b,q,rx,ry=>
   have q:(match intsOf a,intsOf b with | some ns,some ms=>some (D.bl (HT.lexLt ns ms)) | _,_=>none)=some c:=q
   cases ea:intsOf a with
   | none=>rw [ea] at q;simp at q
   | some ns=>
    cases eb:intsOf b with
    | none=>rw [ea,eb] at q;simp at q
    | some ms=>
     rw [ea,eb] at q
     cases q
     rw [intsOf_eq ea] at rx
     rw [intsOf_eq eb] at ry
     obtain ⟨p,vs,rfl,np,hp,rp⟩:=Rep.tup_iff.mp rx
     obtain ⟨p2,vs2,rfl,np2,hp2,rp2⟩:=Rep.tup_iff.mp ry
     rw [RepL.ints rp] at hp
     rw [RepL.ints rp2] at hp2
     exact .inr ⟨p,p2,ns,ms,rfl,rfl,SqT.of (e1 _ _ np hp),SqT.of (e1 _ _ np2 hp2),k _ Hf H (.refl e1) st (Rep.bl_iff.mpr rfl) (.scal fun z=>z)⟩⟩
theorem op_catE:OpR X (binaryOp .Add) (fun x y H Q=>∃a b ys,x=.ref a∧y=.ref b∧SqT X.K H a []∧SqT X.K H b ys∧Q (.ref b) H):=by
 intro pins s σ H x y v u Q I rx ry h
 obtain ⟨a,b,ys,rfl,rfl,ha,hb,q⟩:=h
 cases rx
 cases ry
 obtain ⟨its,r1,p1,_⟩:=I.tuple ha
 obtain ⟨its2,r2,p2,_⟩:=I.tuple hb
 have e0:its=[]:=by cases r1;rfl
 subst e0
 obtain ⟨⟨cls,dd,data,sl⟩,ho,hc,n,hd⟩:=id p1
 obtain ⟨⟨cls2,dd2,data2,sl2⟩,ho2,hc2,n2,hd2⟩:=id p2
 simp only at hc hd hc2 hd2
 subst hc hd hc2 hd2
 exact concat_meets ⟨_,ho,rfl⟩ ⟨_,ho2,rfl⟩ noFill_tuple_add seq_tuple_add PySem.F.slot_tuple_add PySem.F.entry_tuple_add (PySem.F.args_tuple_add_2 _ _)
   (tuple_addW0 a b ([]:List Value).toArray its2.toArray n n2 dd dd2 sl sl2 rfl) ⟨ho,ho2,⟨.ref b,H,I,rfl,q⟩⟩
noncomputable def dAdd:D→D→Option D
 | .int i,.int j=>some (.int (i+j))
 | .tup a,.tup b=>if a.length+b.length≤sizeLine then some (.tup (a++b)) else none
 | .lst a,.lst b=>if a.length+b.length≤sizeLine then some (.lst (a++b)) else none
 | _,_=>none
theorem opd_add:OpD X G (binaryOp .Add) dAdd:=
 ⟨_,op_add.or (op_cat.or (op_catT.or op_catE)),fun Hf H s x y d e c Q e1 st rx ry q k=>by
  match d,e,q,rx,ry with
  | .int i,.int j,q,rx,ry=>
   cases q
   exact .inl ⟨i,j,Rep.int_iff.mp rx,Rep.int_iff.mp ry,k _ Hf H (.refl e1) st (Rep.int_iff.mpr rfl) (.scal fun z=>z)⟩
  | .lst a,.lst b,q,rx,ry=>
   have q:(if a.length+b.length≤sizeLine then some (D.lst (a++b)) else none)=some c:=q
   split at q
   ·rename_i hz
    cases q
    obtain ⟨p,vs,rfl,np,hp,rp⟩:=Rep.lst_iff.mp rx
    obtain ⟨p2,vs2,rfl,np2,hp2,rp2⟩:=Rep.lst_iff.mp ry
    refine .inr (.inl ⟨p,p2,vs,vs2,rfl,rfl,e1 _ _ np hp,e1 _ _ np2 hp2,by rw [←rp.length,←rp2.length];exact hz,fun l hl=>?_⟩)
    have nf:=Gh.nofp st hl
    have g2:=Gr.new (o:=.lst (vs++vs2)) e1 hl nf
    have rr:=rp.append rp2
    exact k (.ref l) _ _ g2 (Gh.grow st hl) (Rep.lst_iff.mpr ⟨l,_,rfl,nf,upd_same,rr.ext g2.ff⟩) (FreshL.mk e1 hl nf rr)
   ·cases q
  | .tup a,.tup b,q,rx,ry=>
   have q:(if a.length+b.length≤sizeLine then some (D.tup (a++b)) else none)=some c:=q
   split at q
   ·rename_i hz
    cases q
    obtain ⟨p,vs,rfl,np,hp,rp⟩:=Rep.tup_iff.mp rx
    obtain ⟨p2,vs2,rfl,np2,hp2,rp2⟩:=Rep.tup_iff.mp ry
    by_cases hv:vs=[]
    ·subst hv
     have ea:a=[]:=List.length_eq_zero_iff.mp (by rw [rp.length];rfl)
     subst ea
     exact .inr (.inr (.inr ⟨p,p2,vs2,rfl,rfl,SqT.of (e1 _ _ np hp),SqT.of (e1 _ _ np2 hp2),k _ Hf H (.refl e1) st ry (.scal fun z=>z)⟩))
    ·refine .inr (.inr (.inl ⟨p,p2,vs,vs2,rfl,rfl,SqT.of (e1 _ _ np hp),SqT.of (e1 _ _ np2 hp2),hv,by rw [←rp.length,←rp2.length];exact hz,fun z=>?_,fun _ l hl=>?_⟩))
     ·subst z
      have eb:b=[]:=List.length_eq_zero_iff.mp (by rw [rp2.length];rfl)
      subst eb
      rw [List.append_nil] at k
      exact k _ Hf H (.refl e1) st rx (.scal fun z=>z)
     ·have nf:=Gh.nofp st hl
      have g2:=Gr.new (o:=.tup (vs++vs2)) e1 hl nf
      exact k (.ref l) _ _ g2 (Gh.grow st hl) (Rep.tup_iff.mpr ⟨l,_,rfl,nf,upd_same,(rp.append rp2).ext g2.ff⟩) (.scal fun z=>z)
   ·cases q⟩
noncomputable def dIx:D→D→Option D
 | .lst ds,.int i=>atI ds i
 | .tup ds,.int i=>atI ds i
 | _,_=>none
theorem atI_rep {Hf:Hp} {ds:List D} {vs:List V} {i:Int} {c:D} (r:RepL G Hf ds vs) (h:atI ds i=some c):∃v,atI vs i=some v∧Rep G Hf c v:=by
 unfold atI at h ⊢
 rw [←r.length]
 cases e:ixN ds.length i with
 | none=>rw [e] at h;cases h
 | some j=>
  rw [e] at h
  obtain ⟨v,h1,h2⟩:=r.get (i:=j) (d:=c) h
  exact ⟨v,h1,h2⟩
theorem ixd:IxD X G dIx:=
 ⟨_,ix_list.or ix_tup,fun Hf H s x y d e c Q e1 st rx ry q k=>by
  match d,e,q,rx,ry with
  | .lst ds,.int i,q,rx,ry=>
   obtain ⟨p,vs,rfl,np,hp,rp⟩:=Rep.lst_iff.mp rx
   obtain ⟨v,h1,h2⟩:=atI_rep rp q
   exact .inl ⟨p,vs,i,v,rfl,Rep.int_iff.mp ry,SqL.of (e1 _ _ np hp),h1,k v h2⟩
  | .tup ds,.int i,q,rx,ry=>
   obtain ⟨p,vs,rfl,np,hp,rp⟩:=Rep.tup_iff.mp rx
   obtain ⟨v,h1,h2⟩:=atI_rep rp q
   exact .inr ⟨p,vs,i,v,rfl,Rep.int_iff.mp ry,SqT.of (e1 _ _ np hp),h1,k v h2⟩⟩
theorem RepL.one_inv {H:Hp} {d:D} {xs:List V} (h:RepL G H [d] xs):∃v,xs=[v]∧Rep G H d v:=by
 obtain ⟨v,r,rfl,h1,h2⟩:=RepL.cons_iff.mp h
 rw [RepL.nil_iff.mp h2]
 exact ⟨v,rfl,h1⟩
theorem RepL.two_inv {H:Hp} {d e:D} {xs:List V} (h:RepL G H [d,e] xs):∃v w,xs=[v,w]∧Rep G H d v∧Rep G H e w:=by
 obtain ⟨v,r,rfl,h1,h2⟩:=RepL.cons_iff.mp h
 obtain ⟨w,rfl,h3⟩:=RepL.one_inv h2
 exact ⟨v,w,rfl,h1,h3⟩
noncomputable def dLen:List D→Option D
 | [.lst ds]=>some (.int ds.length)
 | [.tup ds]=>some (.int ds.length)
 | _=>none
theorem call_lenDD:CallD X G (.builtin "len") dLen:=
 ⟨_,call_len_seq,fun Hf H s xs ds c Q e1 st r q k=>by
  match ds,q,r with
  | [.lst es],q,r=>
   cases q
   obtain ⟨v,rfl,rv⟩:=RepL.one_inv r
   obtain ⟨p,vs,rfl,np,hp,rp⟩:=Rep.lst_iff.mp rv
   exact ⟨p,vs,rfl,.inl (SqL.of (e1 _ _ np hp)),k _ Hf H (.refl e1) st (Rep.int_iff.mpr (by rw [rp.length])) (.scal fun z=>z)⟩
  | [.tup es],q,r=>
   cases q
   obtain ⟨v,rfl,rv⟩:=RepL.one_inv r
   obtain ⟨p,vs,rfl,np,hp,rp⟩:=Rep.tup_iff.mp rv
   exact ⟨p,vs,rfl,.inr (SqT.of (e1 _ _ np hp)),k _ Hf H (.refl e1) st (Rep.int_iff.mpr (by rw [rp.length])) (.scal fun z=>z)⟩⟩
noncomputable def dTuple:List D→Option D
 | [.lst ds]=>some (.tup ds)
 | [.tup ds]=>some (.tup ds)
 | _=>none
theorem call_tupleDD:CallD X G (.type "tuple") dTuple:=
 ⟨_,call_tuple_of,fun Hf H s xs ds c Q e1 st r q k=>by
  match ds,q,r with
  | [.lst es],q,r=>
   cases q
   obtain ⟨v,rfl,rv⟩:=RepL.one_inv r
   obtain ⟨p,vs,rfl,np,hp,rp⟩:=Rep.lst_iff.mp rv
   refine ⟨p,vs,rfl,.inl ⟨SqL.of (e1 _ _ np hp),fun l hl=>?_⟩⟩
   have nf:=Gh.nofp st hl
   have g2:=Gr.new (o:=.tup vs) e1 hl nf
   exact k (.ref l) _ _ g2 (Gh.grow st hl) (Rep.tup_iff.mpr ⟨l,_,rfl,nf,upd_same,rp.ext g2.ff⟩) (.scal fun z=>z)
  | [.tup es],q,r=>
   cases q
   obtain ⟨v,rfl,rv⟩:=RepL.one_inv r
   obtain ⟨p,vs,rfl,np,hp,rp⟩:=Rep.tup_iff.mp rv
   exact ⟨p,vs,rfl,.inr ⟨SqT.of (e1 _ _ np hp),k _ Hf H (.refl e1) st rv (.scal fun z=>z)⟩⟩⟩
noncomputable def dMax2:List D→Option D
 | [.int i,.int j]=>some (.int (if j > i then j else i))
 | _=>none
noncomputable def dMin2:List D→Option D
 | [.int i,.int j]=>some (.int (if j<i then j else i))
 | _=>none
theorem call_max2D (hc:X.calm=true):CallD X G (.builtin "max") dMax2:=
 ⟨_,call_max2 hc,fun Hf H s xs ds c Q e1 st r q k=>by
  match ds,q,r with
  | [.int i,.int j],q,r=>
   cases q
   obtain ⟨v,w,rfl,rv,rw'⟩:=RepL.two_inv r
   rw [Rep.int_iff.mp rv,Rep.int_iff.mp rw']
   exact ⟨i,j,rfl,k _ Hf H (.refl e1) st (Rep.int_iff.mpr rfl) (.scal fun z=>z)⟩⟩
theorem call_min2D (hc:X.calm=true):CallD X G (.builtin "min") dMin2:=
 ⟨_,call_min2 hc,fun Hf H s xs ds c Q e1 st r q k=>by
  match ds,q,r with
  | [.int i,.int j],q,r=>
   cases q
   obtain ⟨v,w,rfl,rv,rw'⟩:=RepL.two_inv r
   rw [Rep.int_iff.mp rv,Rep.int_iff.mp rw']
   exact ⟨i,j,rfl,k _ Hf H (.refl e1) st (Rep.int_iff.mpr rfl) (.scal fun z=>z)⟩⟩
noncomputable def boolsOf:List D→Option (List Bool)
 | []=>some []
 | .bl b::ds=>(boolsOf ds).map (b :: ·)
 | _::_=>none
theorem boolsOf_eq:∀{ds:List D} {ns:List Bool},boolsOf ds=some ns→ds=ns.map D.bl
 | [],ns,h=>by simp [boolsOf] at h;subst h;rfl
 | .bl i::ds,ns,h=>by
  cases e:boolsOf ds with
  | none=>simp [boolsOf,e] at h
  | some ms=>simp [boolsOf,e] at h;subst h;simp [boolsOf_eq e]
 | .non::_,_,h=>by simp [boolsOf] at h
 | .int _::_,_,h=>by simp [boolsOf] at h
 | .str _::_,_,h=>by simp [boolsOf] at h
 | .tup _::_,_,h=>by simp [boolsOf] at h
 | .lst _::_,_,h=>by simp [boolsOf] at h
 | .dk _::_,_,h=>by simp [boolsOf] at h
 | .dt _::_,_,h=>by simp [boolsOf] at h
 | .du _::_,_,h=>by simp [boolsOf] at h
 | .df _::_,_,h=>by simp [boolsOf] at h
 | .pen::_,_,h=>by simp [boolsOf] at h
 | .ty _::_,_,h=>by simp [boolsOf] at h
theorem boolsOf_map (ns:List Bool):boolsOf (ns.map D.bl)=some ns:=by
 induction ns with
 | nil=>rfl
 | cons n ns ih=>simp [boolsOf,ih]
theorem RepL.bools {H:Hp}:∀{ns:List Bool} {vs:List V},RepL G H (ns.map D.bl) vs→vs=ns.map V.bl
 | [],vs,h=>RepL.nil_iff.mp h
 | n::ns,vs,h=>by
  obtain ⟨v,r,rfl,h1,h2⟩:=RepL.cons_iff.mp h
  rw [Rep.bl_iff.mp h1,RepL.bools h2]
  rfl
theorem vals_bools:∀{bs:List Bool} {us:List Value},Vals (bs.map V.bl) us→us=bs.map Value.bool
 | [],_,.nil=>rfl
 | b::bs,_,.cons r t=>by
  cases (show _=Value.bool b from r)
  rw [vals_bools t]
  rfl
theorem walk_bools {hc:X.calm=true} {pins:List (Addr×Obj)} {s:Shared} {σ:St} {H:Hp} {p:Addr} {bs:List Bool} {Q:Value→Shared→Prop} {E:Value→Shared→Prop} (fin:Bool) (I:Inv X pins σ H s) (h:H p=some (.lst (bs.map V.bl)))
  (fn:(Nat→Bool)→List Nat→Bool) (hq:∀s',Inv X pins σ H s'→Q (.bool (fn (fun i=>bs.getD i false) (List.range bs.length))) s') :
  wpAny (model X.prog X.w) X.A.in1 (pyIter (.ref p)) (fun it s₂=>∃I fp wr n P St tr,it=.ref I∧Walks X.prog X.w X.A.in1 I fp wr n P St∧St 0 s₂.heap∧TruthOf X.prog X.w X.A.in1 P tr∧
   ∀h' tk,(∀b o,b∉wr→s₂.heap.get? b=some o→h'.get? b=some o)→Q (.bool (fn tr (List.range n))) { s₂ with heap:=h',toks:=tk }) E s:=by
 obtain ⟨its,rv,pl,hz⟩:=I.list (SqL.of h)
 have eu:=vals_bools rv
 subst eu
 refine wpAny_pyIter_list pl.isList ?_
 have hne:p≠s.heap.objs.size:=Nat.ne_of_lt (by
  obtain ⟨o,ho,_⟩:=pl.isList
  exact Heap.lt_size ho)
 refine ⟨s.heap.objs.size,_,_,_,_,_,fun i=>bs.getD i false,rfl,Walks.list (A:=X.A.in1) (I.ok.hd hc) s.heap.objs.size p hne _,⟨⟨_,Heap.get?_push_size _ rfl,rfl,rfl⟩,pl.isList.at fun o e=>Heap.get?_push_of_some _ e⟩,?_,?_⟩
 ·intro i v s' Q' E' hP hQ'
  have hv:v=.bool (bs.getD i false):=by
   have e:(bs.map Value.bool).toArray[i]?=some v:=hP
   rw [List.getElem?_toArray,List.getElem?_map] at e
   cases q:bs[i]? with
   | none=>rw [q] at e;cases e
   | some b=>rw [q] at e;cases e;simp [List.getD,q]
  subst hv
  exact wpAny_truthy_bool hQ'
 ·intro h' tk hk
  have:(List.map Value.bool bs).toArray.size=bs.length:=by simp
  rw [this]
  have I1:Inv X pins σ H { s with heap:=s.heap.push { cls:=.type "list_iterator",data:=.fields #[.ref p,.int 0 0] } }:=I.kept (t':=s.toks) fun b o e=>Heap.get?_push_of_some _ e
  refine hq _ (I.kept (t':=tk) fun b o e=>hk b o ?_ (Heap.get?_push_of_some _ e))
  have:=Nat.ne_of_lt (Heap.lt_size e)
  simpa using this
theorem all_getD (bs:List Bool):(List.range bs.length).all (fun i=>bs.getD i false)=bs.all id:=by
 induction bs with
 | nil=>rfl
 | cons b bs ih=>
  rw [List.length_cons,List.range_succ_eq_map,List.all_cons,List.all_map]
  show (b&&(List.range bs.length).all fun i=>bs.getD i false)=_
  rw [ih];rfl
theorem any_getD (bs:List Bool):(List.range bs.length).any (fun i=>bs.getD i false)=bs.any id:=by
 induction bs with
 | nil=>rfl
 | cons b bs ih=>
  rw [List.length_cons,List.range_succ_eq_map,List.any_cons,List.any_map]
  show (b||(List.range bs.length).any fun i=>bs.getD i false)=_
  rw [ih];rfl
theorem call_allR (hc:X.calm=true):CallR X (.builtin "all") (fun xs H Q=>∃(p:Addr) (bs:List Bool),xs=[.ref p]∧H p=some (.lst (bs.map V.bl))∧Q (.bl (bs.all id)) H):=by
 intro pins s σ H xs us Q I r h
 obtain ⟨p,bs,rfl,hp,q⟩:=h
 obtain ⟨u,rfl,ru⟩:=vals1 r
 cases ru
 refine call_all_walk (walk_bools (hc:=hc) true I hp (fun t l=>l.all t) fun s' I'=>⟨.bl (bs.all id),H,I',?_,q⟩)
 show Value.bool _=_
 rw [all_getD]
theorem call_anyR (hc:X.calm=true):CallR X (.builtin "any") (fun xs H Q=>∃(p:Addr) (bs:List Bool),xs=[.ref p]∧H p=some (.lst (bs.map V.bl))∧Q (.bl (bs.any id)) H):=by
 intro pins s σ H xs us Q I r h
 obtain ⟨p,bs,rfl,hp,q⟩:=h
 obtain ⟨u,rfl,ru⟩:=vals1 r
 cases ru
 refine call_any_walk (walk_bools (hc:=hc) true I hp (fun t l=>l.any t) fun s' I'=>⟨.bl (bs.any id),H,I',?_,q⟩)
 show Value.bool _=_
 rw [any_getD]
noncomputable def dAll:List D→Option D
 | [.lst ds]=>(boolsOf ds).map fun bs=>.bl (bs.all id)
 | _=>none
noncomputable def dAny:List D→Option D
 | [.lst ds]=>(boolsOf ds).map fun bs=>.bl (bs.any id)
 | _=>none
theorem call_allD (hc:X.calm=true):CallD X G (.builtin "all") dAll:=
 ⟨_,call_allR hc,fun Hf H s xs ds c Q e1 st r q k=>by
  match ds,q,r with
  | [.lst es],q,r=>
   obtain ⟨v,rfl,rv⟩:=RepL.one_inv r
   obtain ⟨p,vs,rfl,np,hp,rp⟩:=Rep.lst_iff.mp rv
   cases e:boolsOf es with
   | none=>simp [dAll,e] at q
   | some bs=>
    simp [dAll,e] at q
    subst q
    rw [boolsOf_eq e] at rp
    rw [RepL.bools rp] at hp
    exact ⟨p,bs,rfl,e1 _ _ np hp,k _ Hf H (.refl e1) st (Rep.bl_iff.mpr rfl) (.scal fun z=>z)⟩⟩
theorem call_anyD (hc:X.calm=true):CallD X G (.builtin "any") dAny:=
 ⟨_,call_anyR hc,fun Hf H s xs ds c Q e1 st r q k=>by
  match ds,q,r with
  | [.lst es],q,r=>
   obtain ⟨v,rfl,rv⟩:=RepL.one_inv r
   obtain ⟨p,vs,rfl,np,hp,rp⟩:=Rep.lst_iff.mp rv
   cases e:boolsOf es with
   | none=>simp [dAny,e] at q
   | some bs=>
    simp [dAny,e] at q
    subst q
    rw [boolsOf_eq e] at rp
    rw [RepL.bools rp] at hp
    exact ⟨p,bs,rfl,e1 _ _ np hp,k _ Hf H (.refl e1) st (Rep.bl_iff.mpr rfl) (.scal fun z=>z)⟩⟩
theorem pd_ty {x:Str} {n:String} {pos:Pos} (hg:Gl X x) (hm:X.mg x=none) (hv:bootBuiltins x=some (.type n)) (hn:x≠"__name__":=by decide) (hd:(x==("__debug__" : Str))=false:=by decide):PD X G true (.Name x pos) (dC (.ty n)):=by
 refine ⟨_,pe_bltn (v:=.ty n) hg hm hv rfl hn hd,fun σ Hf H ρ s d s' Q e1 e2 e3 e4 k=>?_⟩
 obtain ⟨rfl,rfl⟩:=mret_some e4
 exact k _ Hf H (.refl e1) e3 (Rep.ty_iff.mpr rfl) fun _=>.scal fun z=>z
noncomputable def tyName:D→Option String
 | .non=>some "NoneType"
 | .bl _=>some "bool"
 | .int _=>some "int"
 | .str _=>some "str"
 | .tup _=>some "tuple"
 | .lst _=>some "list"
 | .dk _=>some "dict"
 | .dt _=>none
 | .du _=>none
 | .df _=>none
 | _=>none
noncomputable def kinds:List String:=["int","bool","str","tuple","list","dict"]
noncomputable def dIsi:List D→Option D
 | [d,.ty T]=>match tyName d with
  | some n=>if kinds.contains T then some (.bl (n==T||(n == "bool" && T == "int"))) else none
  | none=>none
 | _=>none
theorem kit_tab (K:PySem.W.Frag):∀n∈["NoneType","bool","int","str","tuple","list","dict"],∀T∈kinds,PySem.W.kitOne K (.type n) (.type T)=some (n==T||(n == "bool" && T == "int")):=by
 intro n hn T hT
 simp only [kinds,List.mem_cons,List.not_mem_nil,or_false] at hn hT
 rcases hn with rfl | rfl | rfl | rfl | rfl | rfl | rfl <;> rcases hT with rfl | rfl | rfl | rfl | rfl | rfl <;> rfl
theorem tyName_of {Hf H:Hp} {d:D} {v:V} {n:String} (e1:Ext G Hf H) (r:Rep G Hf d v) (h:tyName d=some n):TyOf X.K H v (.type n)∧n∈["NoneType","bool","int","str","tuple","list","dict"]:=by
 cases d with
 | non=>cases h;rw [Rep.non_iff.mp r];exact ⟨.non,by decide⟩
 | bl b=>cases h;rw [Rep.bl_iff.mp r];exact ⟨.bl b,by decide⟩
 | int b=>cases h;rw [Rep.int_iff.mp r];exact ⟨.int b,by decide⟩
 | str b=>cases h;rw [Rep.str_iff.mp r];exact ⟨.str b,by decide⟩
 | tup ds=>cases h;obtain ⟨p,vs,rfl,np,hp,rp⟩:=Rep.tup_iff.mp r;exact ⟨.tup (e1 _ _ np hp),by decide⟩
 | lst ds=>cases h;obtain ⟨p,vs,rfl,np,hp,rp⟩:=Rep.lst_iff.mp r;exact ⟨.lst (e1 _ _ np hp),by decide⟩
 | dk ds=>cases h;obtain ⟨p,rfl,np,hp⟩:=Rep.dk_iff.mp r;exact ⟨.dK (e1 _ _ np hp),by decide⟩
 | dt ds=>cases h
 | du ds=>cases h
 | df ds=>cases h
 | pen=>cases h
 | ty _=>cases h
 | clo _ _=>cases h
theorem call_isiR:CallR X (.builtin "isinstance") (fun xs H Q=>∃x n T,xs=[x,.ty T]∧TyOf X.K H x (.type n)∧n∈["NoneType","bool","int","str","tuple","list","dict"]∧T∈kinds∧Q (.bl (n==T||(n == "bool" && T == "int"))) H):=by
 intro pins s σ H xs us Q I r h
 obtain ⟨x,n,T,rfl,ty,hn,hT,q⟩:=h
 obtain ⟨u,w',rfl,ru,rw'⟩:=vals2 r
 cases (show w'=Value.type T from rw')
 exact isinst_ok I ru ty (kit_tab X.K n hn T hT) fun tk=>⟨.bl _,H,I.tok tk,rfl,q⟩
theorem call_isiD:CallD X G (.builtin "isinstance") dIsi:=
 ⟨_,call_isiR,fun Hf H s xs ds c Q e1 st r q k=>by
  match ds,q,r with
  | [d,.ty T],q,r=>
   obtain ⟨v,w,rfl,rv,rw'⟩:=RepL.two_inv r
   rw [Rep.ty_iff.mp rw']
   have q:(match tyName d with | some n=>if kinds.contains T then some (D.bl (n==T||(n == "bool" && T == "int"))) else none | none=>none)=some c:=q
   cases e:tyName d with
   | none=>rw [e] at q;cases q
   | some n=>
    rw [e] at q
    simp only at q
    split at q
    ·rename_i hk
     cases q
     obtain ⟨t1,t2⟩:=tyName_of (X:=X) e1 rv e
     exact ⟨v,n,T,rfl,t1,t2,by simpa using hk,k _ Hf H (.refl e1) st (Rep.bl_iff.mpr rfl) (.scal fun z=>z)⟩
    ·cases q⟩
end
mutual
noncomputable def plainD:D→Bool
 | .non=>true
 | .bl _=>true
 | .int _=>true
 | .str _=>true
 | .tup ds=>plainDs ds
 | .lst ds=>plainDs ds
 | _=>false
noncomputable def plainDs:List D→Bool
 | []=>true
 | d::ds=>plainD d&&plainDs ds
end
mutual
noncomputable def dep:D→Nat
 | .tup ds=>deps ds+1
 | .lst ds=>deps ds+1
 | _=>0
noncomputable def deps:List D→Nat
 | []=>0
 | d::ds=>max (dep d) (deps ds)
end
theorem dep_mem:∀{ds:List D} {d:D},d∈ds→dep d≤deps ds
 | e::ds,d,h=>by
  rcases List.mem_cons.mp h with rfl | h
  ·simp only [deps];omega
  ·have:=dep_mem h
   simp only [deps];omega
theorem plain_mem:∀{ds:List D} {d:D},plainDs ds=true→d∈ds→plainD d=true
 | e::ds,d,n,h=>by
  have n':plainD e=true∧plainDs ds=true:=by simpa [plainDs] using n
  rcases List.mem_cons.mp h with rfl | h
  ·exact n'.1
  ·exact plain_mem n'.2 h
mutual
noncomputable def dEq:D→D→Bool
 | .non,.non=>true
 | .bl a,.bl b=>a==b
 | .bl a,.int i=>(if a then 1 else 0)==i
 | .int i,.bl b=>i==(if b then 1 else 0)
 | .int i,.int j=>i==j
 | .str x,.str y=>x==y
 | .tup a,.tup b=>dEqs a b
 | .lst a,.lst b=>dEqs a b
 | _,_=>false
noncomputable def dEqs:List D→List D→Bool
 | [],[]=>true
 | a::as,b::bs=>dEq a b&&dEqs as bs
 | _,_=>false
end
mutual
theorem dEq_refl:∀d:D,plainD d=true→dEq d d=true
 | .non,_=>by simp [dEq]
 | .bl _,_=>by simp [dEq]
 | .int _,_=>by simp [dEq]
 | .str _,_=>by simp [dEq]
 | .tup ds,h=>by simp only [dEq];exact dEqs_refl ds (by simpa [plainD] using h)
 | .lst ds,h=>by simp only [dEq];exact dEqs_refl ds (by simpa [plainD] using h)
 | .dk _,h=>by simp [plainD] at h
 | .dt _,h=>by simp [plainD] at h
 | .du _,h=>by simp [plainD] at h
 | .df _,h=>by simp [plainD] at h
 | .pen,h=>by simp [plainD] at h
 | .ty _,h=>by simp [plainD] at h
 | .clo _ _,h=>by simp [plainD] at h
theorem dEqs_refl:∀ds:List D,plainDs ds=true→dEqs ds ds=true
 | [],_=>by simp [dEqs]
 | d::ds,h=>by
  have n':plainD d=true∧plainDs ds=true:=by simpa [plainDs] using h
  simp only [dEqs,dEq_refl d n'.1,dEqs_refl ds n'.2,Bool.and_self]
end
theorem dEqs_len:∀{a b:List D},dEqs a b=true→a.length=b.length
 | [],[],_=>rfl
 | a::as,b::bs,h=>by
  have:dEq a b=true∧dEqs as bs=true:=by simpa [dEqs] using h
  simp [dEqs_len this.2]
 | [],_::_,h=>by simp [dEqs] at h
 | _::_,[],h=>by simp [dEqs] at h
theorem dEqs_range:∀(a b:List D),a.length=b.length→(List.range a.length).all (fun j=>dEq (a.getD j .non) (b.getD j .non))=dEqs a b
 | [],[],_=>rfl
 | a::as,b::bs,h=>by
  have h':as.length=bs.length:=by simpa using h
  rw [List.length_cons,List.range_succ_eq_map,List.all_cons,List.all_map,dEqs,←dEqs_range as bs h']
  rfl
 | [],_::_,h=>by simp at h
 | _::_,[],h=>by simp at h
theorem dEqs_range':∀(a b:List D),((List.range (min a.length b.length)).all (fun j=>dEq (a.getD j .non) (b.getD j .non))&&a.length==b.length)=dEqs a b:=fun a b=>by
 by_cases h:a.length=b.length
 ·rw [←dEqs_range a b h,h];simp
 ·have:dEqs a b=false:=by
   cases e:dEqs a b with
   | false=>rfl
   | true=>exact absurd (dEqs_len e) h
  rw [this];simp [h]
mutual
theorem Rep.inj {G:Gh} {H:Hp}:∀{d e:D} {v:V},plainD d=true→plainD e=true→Rep G H d v→Rep G H e v→d=e
 | .non,e,v,_,pe,h,h'=>by
  rw [Rep.non_iff.mp h] at h'
  cases e <;> first | rfl | (simp [plainD] at pe;done) | (simp [Rep] at h')
 | .bl b,e,v,_,pe,h,h'=>by
  rw [Rep.bl_iff.mp h] at h'
  cases e <;> first | (simp [plainD] at pe;done) | (simp [Rep] at h';rw [h']) | (simp [Rep] at h')
 | .int b,e,v,_,pe,h,h'=>by
  rw [Rep.int_iff.mp h] at h'
  cases e <;> first | (simp [plainD] at pe;done) | (simp [Rep] at h';rw [h']) | (simp [Rep] at h')
 | .str b,e,v,_,pe,h,h'=>by
  rw [Rep.str_iff.mp h] at h'
  cases e <;> first | (simp [plainD] at pe;done) | (simp [Rep] at h';rw [h']) | (simp [Rep] at h')
 | .tup ds,e,v,pd,pe,h,h'=>by
  obtain ⟨a,vs,rfl,n,q,r⟩:=Rep.tup_iff.mp h
  cases e with
  | tup es=>
   obtain ⟨a',vs',e',n',q',r'⟩:=Rep.tup_iff.mp h'
   cases e'
   rw [q] at q';cases q'
   rw [RepL.inj (by simpa [plainD] using pd) (by simpa [plainD] using pe) r r']
  | lst es=>
   obtain ⟨a',vs',e',n',q',r'⟩:=Rep.lst_iff.mp h'
   cases e'
   rw [q] at q';cases q'
  | _=>first | (simp [Rep] at h';done) | (simp [plainD] at pe;done)
 | .lst ds,e,v,pd,pe,h,h'=>by
  obtain ⟨a,vs,rfl,n,q,r⟩:=Rep.lst_iff.mp h
  cases e with
  | lst es=>
   obtain ⟨a',vs',e',n',q',r'⟩:=Rep.lst_iff.mp h'
   cases e'
   rw [q] at q';cases q'
   rw [RepL.inj (by simpa [plainD] using pd) (by simpa [plainD] using pe) r r']
  | tup es=>
   obtain ⟨a',vs',e',n',q',r'⟩:=Rep.tup_iff.mp h'
   cases e'
   rw [q] at q';cases q'
  | _=>first | (simp [Rep] at h';done) | (simp [plainD] at pe;done)
 | .dk _,_,_,pd,_,_,_=>by simp [plainD] at pd
 | .dt _,_,_,pd,_,_,_=>by simp [plainD] at pd
 | .du _,_,_,pd,_,_,_=>by simp [plainD] at pd
 | .df _,_,_,pd,_,_,_=>by simp [plainD] at pd
 | .pen,_,_,pd,_,_,_=>by simp [plainD] at pd
 | .ty _,_,_,pd,_,_,_=>by simp [plainD] at pd
 | .clo _ _,_,_,pd,_,_,_=>by simp [plainD] at pd
theorem RepL.inj {G:Gh} {H:Hp}:∀{ds es:List D} {vs:List V},plainDs ds=true→plainDs es=true→RepL G H ds vs→RepL G H es vs→ds=es
 | [],es,vs,_,pe,h,h'=>by
  rw [RepL.nil_iff.mp h] at h'
  cases es with
  | nil=>rfl
  | cons e es=>obtain ⟨v,r,e1,_⟩:=RepL.cons_iff.mp h';cases e1
 | d::ds,es,vs,pd,pe,h,h'=>by
  obtain ⟨v,r,rfl,r1,r2⟩:=RepL.cons_iff.mp h
  have pd':plainD d=true∧plainDs ds=true:=by simpa [plainDs] using pd
  cases es with
  | nil=>have:=RepL.nil_iff.mp h';cases this
  | cons e es=>
   obtain ⟨v',r',e1,r1',r2'⟩:=RepL.cons_iff.mp h'
   cases e1
   have pe':plainD e=true∧plainDs es=true:=by simpa [plainDs] using pe
   rw [Rep.inj pd'.1 pe'.1 r1 r1',RepL.inj pd'.2 pe'.2 r2 r2']
end
section
variable {X:Cx} {G:Gh} {pins:List (Addr×Obj)} {σ:St} {Hf H:Hp} {s:Shared}
theorem in1_units (A:Around):A.in1.units=A.units+1:=rfl
theorem item_at {ds:List D} {vs:List V} {us:List Value} (r:RepL G Hf ds vs) (rv:Vals vs us) {j:Nat} (h:j<us.toArray.size):∃v,Rep G Hf (ds.getD j .non) v∧RelV v us.toArray[j]∧ds.getD j .non∈ds:=by
 have hl:j<ds.length:=by rw [r.length,rv.length];simpa using h
 have e:ds[j]?=some (ds.getD j .non):=by simp [List.getD,hl]
 obtain ⟨v,h1,h2⟩:=r.get e
 obtain ⟨u,h3,h4⟩:=rv.get h1
 refine ⟨v,h2,?_,?_⟩
 ·have:us.toArray[j]=u:=by
   have h':j<us.length:=by simpa using h
   have q:us[j]?=some us[j]:=by simp [h']
   rw [h3] at q
   simpa using (Option.some.inj q).symm
  rw [this];exact h4
 ·simp [List.getD,hl]
theorem eqAtD (I:Inv X pins σ H s) (e1:Ext G Hf H):∀(n:Nat) (A:Around) (d e:D) (x y:V) (u v:Value),dep d≤n→dep e≤n→A.units+n+1<cLine→plainD d=true→plainD e=true→Rep G Hf d x→Rep G Hf e y→RelV x u→RelV y v→
  SeqAt.EqAt A s u v (dEq d e)∧SeqAt.RcAt A s u v (dEq d e)∧SeqAt.RcNeAt A s u v (!dEq d e):=by
 intro n
 induction n with
 | zero=>
  intro A d e x y u v hd he hu pd pe rd re ru rv
  have hu':A.units<cLine:=by omega
  cases d with
  | tup ds=>simp [dep] at hd
  | lst ds=>simp [dep] at hd
  | dk _=>simp [plainD] at pd
  | dt _=>simp [plainD] at pd
  | du _=>simp [plainD] at pd
  | df _=>simp [plainD] at pd
  | pen=>simp [plainD] at pd
  | ty _=>simp [plainD] at pd
  | clo _ _=>simp [plainD] at pd
  | non=>
   rw [Rep.non_iff.mp rd] at ru
   cases (show u=Value.none from ru)
   cases e with
   | tup ds=>simp [dep] at he
   | lst ds=>simp [dep] at he
   | dk _=>simp [plainD] at pe
   | dt _=>simp [plainD] at pe
   | du _=>simp [plainD] at pe
   | df _=>simp [plainD] at pe
   | pen=>simp [plainD] at pe
   | ty _=>simp [plainD] at pe
   | clo _ _=>simp [plainD] at pe
   | non=>rw [Rep.non_iff.mp re] at rv;cases (show v=Value.none from rv);simp only [dEq];exact ⟨.same _,.none_none,.none_none⟩
   | bl b=>rw [Rep.bl_iff.mp re] at rv;cases (show v=Value.bool b from rv);simp only [dEq];exact ⟨.none_bool b,.none_bool b,.none_bool b⟩
   | int b=>rw [Rep.int_iff.mp re] at rv;obtain ⟨t,rfl⟩:=rv;simp only [dEq];exact ⟨.none_int b t,.none_int b t,.none_int b t⟩
   | str b=>rw [Rep.str_iff.mp re] at rv;obtain ⟨t,rfl⟩:=rv;simp only [dEq];exact ⟨.none_str b t,.none_str b t,.none_str b t⟩
  | bl a=>
   rw [Rep.bl_iff.mp rd] at ru
   cases (show u=Value.bool a from ru)
   cases e with
   | tup ds=>simp [dep] at he
   | lst ds=>simp [dep] at he
   | dk _=>simp [plainD] at pe
   | dt _=>simp [plainD] at pe
   | du _=>simp [plainD] at pe
   | df _=>simp [plainD] at pe
   | pen=>simp [plainD] at pe
   | ty _=>simp [plainD] at pe
   | clo _ _=>simp [plainD] at pe
   | non=>rw [Rep.non_iff.mp re] at rv;cases (show v=Value.none from rv);simp only [dEq];exact ⟨.bool_none a,.bool_none a,.bool_none a⟩
   | bl b=>rw [Rep.bl_iff.mp re] at rv;cases (show v=Value.bool b from rv);simp only [dEq];exact ⟨.bool_bool a b,.bool_bool a b,.bool_bool a b⟩
   | int b=>rw [Rep.int_iff.mp re] at rv;obtain ⟨t,rfl⟩:=rv;simp only [dEq];exact ⟨.bool_int a b t,.bool_int a b t,.bool_int a b t⟩
   | str b=>rw [Rep.str_iff.mp re] at rv;obtain ⟨t,rfl⟩:=rv;simp only [dEq];exact ⟨.bool_str a b t,.bool_str a b t,.bool_str a b t⟩
  | int a=>
   rw [Rep.int_iff.mp rd] at ru
   obtain ⟨ta,rfl⟩:=ru
   cases e with
   | tup ds=>simp [dep] at he
   | lst ds=>simp [dep] at he
   | dk _=>simp [plainD] at pe
   | dt _=>simp [plainD] at pe
   | du _=>simp [plainD] at pe
   | df _=>simp [plainD] at pe
   | pen=>simp [plainD] at pe
   | ty _=>simp [plainD] at pe
   | clo _ _=>simp [plainD] at pe
   | non=>rw [Rep.non_iff.mp re] at rv;cases (show v=Value.none from rv);simp only [dEq];exact ⟨.int_none a ta,.int_none a ta,.int_none a ta⟩
   | bl b=>rw [Rep.bl_iff.mp re] at rv;cases (show v=Value.bool b from rv);simp only [dEq];exact ⟨.int_bool a ta b,.int_bool a ta b,.int_bool a ta b⟩
   | int b=>rw [Rep.int_iff.mp re] at rv;obtain ⟨t,rfl⟩:=rv;simp only [dEq];exact ⟨.int_int a ta b t,.int_int a ta b t,.int_int a ta b t⟩
   | str b=>rw [Rep.str_iff.mp re] at rv;obtain ⟨t,rfl⟩:=rv;simp only [dEq];exact ⟨.int_str a ta b t,.int_str a ta b t,.int_str a ta b t⟩
  | str a=>
   rw [Rep.str_iff.mp rd] at ru
   obtain ⟨ta,rfl⟩:=ru
   cases e with
   | tup ds=>simp [dep] at he
   | lst ds=>simp [dep] at he
   | dk _=>simp [plainD] at pe
   | dt _=>simp [plainD] at pe
   | du _=>simp [plainD] at pe
   | df _=>simp [plainD] at pe
   | pen=>simp [plainD] at pe
   | ty _=>simp [plainD] at pe
   | clo _ _=>simp [plainD] at pe
   | non=>rw [Rep.non_iff.mp re] at rv;cases (show v=Value.none from rv);simp only [dEq];exact ⟨.str_none a ta,.str_none a ta,.str_none a ta⟩
   | bl b=>rw [Rep.bl_iff.mp re] at rv;cases (show v=Value.bool b from rv);simp only [dEq];exact ⟨.str_bool a ta b,.str_bool a ta b,.str_bool a ta b⟩
   | int b=>rw [Rep.int_iff.mp re] at rv;obtain ⟨t,rfl⟩:=rv;simp only [dEq];exact ⟨.str_int a ta b t,.str_int a ta b t,.str_int a ta b t⟩
   | str b=>rw [Rep.str_iff.mp re] at rv;obtain ⟨t,rfl⟩:=rv;simp only [dEq];exact ⟨.str_str a ta b t,.str_str a ta b t,.str_str a ta b t⟩
 | succ n ih=>
  intro A d e x y u v hd he hu pd pe rd re ru rv
  have hu':A.units<cLine:=by omega
  by_cases hs:dep d≤n∧dep e≤n
  ·exact ih A d e x y u v hs.1 hs.2 (by omega) pd pe rd re ru rv
  -- two refs
  have same:∀{l b:Addr},x=.ref l→y=.ref b→l=b→dEq d e=true:=fun ex ey el=>by
   subst ex ey el
   have:=Rep.inj pd pe rd re
   subst this
   exact dEq_refl d pd
  cases d with
  | dk _=>simp [plainD] at pd
  | dt _=>simp [plainD] at pd
  | du _=>simp [plainD] at pd
  | df _=>simp [plainD] at pd
  | pen=>simp [plainD] at pd
  | ty _=>simp [plainD] at pd
  | clo _ _=>simp [plainD] at pd
  | tup ds=>
   obtain ⟨l,vs,rfl,nl,hl,rl⟩:=Rep.tup_iff.mp rd
   cases (show u=Value.ref l from ru)
   obtain ⟨its,rits,pits,_⟩:=I.tuple (SqT.of (K:=X.K) (e1 _ _ nl hl))
   have il:s.heap.IsTuple l its.toArray:=pits
   cases e with
   | dk _=>simp [plainD] at pe
   | dt _=>simp [plainD] at pe
   | du _=>simp [plainD] at pe
   | df _=>simp [plainD] at pe
   | pen=>simp [plainD] at pe
   | ty _=>simp [plainD] at pe
   | clo _ _=>simp [plainD] at pe
   | non=>rw [Rep.non_iff.mp re] at rv;cases (show v=Value.none from rv);simp only [dEq];exact ⟨.tuple_none il hu',.tuple_none il hu',.tuple_none il hu'⟩
   | bl b=>rw [Rep.bl_iff.mp re] at rv;cases (show v=Value.bool b from rv);simp only [dEq];exact ⟨.tuple_bool b il hu',.tuple_bool b il hu',.tuple_bool b il hu'⟩
   | int b=>rw [Rep.int_iff.mp re] at rv;obtain ⟨t,rfl⟩:=rv;simp only [dEq];exact ⟨.tuple_int b t il hu',.tuple_int b t il hu',.tuple_int b t il hu'⟩
   | str b=>rw [Rep.str_iff.mp re] at rv;obtain ⟨t,rfl⟩:=rv;simp only [dEq];exact ⟨.tuple_str b t il hu',.tuple_str b t il hu',.tuple_str b t il hu'⟩
   | lst es=>
    obtain ⟨b,ws,rfl,nb,hb,rb⟩:=Rep.lst_iff.mp re
    cases (show v=Value.ref b from rv)
    obtain ⟨its2,rits2,pits2,_⟩:=I.list (SqL.of (K:=X.K) (e1 _ _ nb hb))
    simp only [dEq];exact ⟨.tuple_list il pits2.isList hu',.tuple_list il pits2.isList hu',.tuple_list il pits2.isList hu'⟩
   | tup es=>
    obtain ⟨b,ws,rfl,nb,hb,rb⟩:=Rep.tup_iff.mp re
    cases (show v=Value.ref b from rv)
    obtain ⟨its2,rits2,pits2,_⟩:=I.tuple (SqT.of (K:=X.K) (e1 _ _ nb hb))
    have ib:s.heap.IsTuple b its2.toArray:=pits2
    have hit:∀j (h1:j<its.toArray.size) (h2:j<its2.toArray.size),SeqAt.EqAt A.in1 s its.toArray[j] its2.toArray[j] ((fun j=>dEq (ds.getD j .non) (es.getD j .non)) j):=fun j h1 h2=>by
     obtain ⟨v1,a1,a2,a3⟩:=item_at rl rits h1
     obtain ⟨v2,b1,b2,b3⟩:=item_at rb rits2 h2
     exact (ih A.in1 _ _ v1 v2 _ _ (Nat.le_trans (dep_mem a3) (by simp [dep] at hd;omega)) (Nat.le_trans (dep_mem b3) (by simp [dep] at he;omega)) (by rw [in1_units];omega)
      (plain_mem (by simpa [plainD] using pd) a3) (plain_mem (by simpa [plainD] using pe) b3) a1 b1 a2 b2).1
    have sz1:its.toArray.size=ds.length:=by rw [rl.length,rits.length];simp
    have sz2:its2.toArray.size=es.length:=by rw [rb.length,rits2.length];simp
    have rc:=SeqAt.RcAt.tuples (e:=fun j=>dEq (ds.getD j .non) (es.getD j .non)) il ib hu' hit
    have rn:=SeqAt.RcNeAt.tuples (e:=fun j=>dEq (ds.getD j .non) (es.getD j .non)) il ib hu' hit
    rw [sz1,sz2,dEqs_range'] at rc rn
    simp only [dEq]
    refine ⟨?_,rc,rn⟩
    by_cases hlb:l=b
    ·have q:=same rfl rfl hlb
     simp only [dEq] at q
     subst hlb
     rw [q];exact .same _
    ·exact .of_refs hlb rc
  | lst ds=>
   obtain ⟨l,vs,rfl,nl,hl,rl⟩:=Rep.lst_iff.mp rd
   cases (show u=Value.ref l from ru)
   obtain ⟨its,rits,pits,_⟩:=I.list (SqL.of (K:=X.K) (e1 _ _ nl hl))
   have il:=pits.isList
   cases e with
   | dk _=>simp [plainD] at pe
   | dt _=>simp [plainD] at pe
   | du _=>simp [plainD] at pe
   | df _=>simp [plainD] at pe
   | pen=>simp [plainD] at pe
   | ty _=>simp [plainD] at pe
   | clo _ _=>simp [plainD] at pe
   | non=>rw [Rep.non_iff.mp re] at rv;cases (show v=Value.none from rv);simp only [dEq];exact ⟨.list_none il hu',.list_none il hu',.list_none il hu'⟩
   | bl b=>rw [Rep.bl_iff.mp re] at rv;cases (show v=Value.bool b from rv);simp only [dEq];exact ⟨.list_bool b il hu',.list_bool b il hu',.list_bool b il hu'⟩
   | int b=>rw [Rep.int_iff.mp re] at rv;obtain ⟨t,rfl⟩:=rv;simp only [dEq];exact ⟨.list_int b t il hu',.list_int b t il hu',.list_int b t il hu'⟩
   | str b=>rw [Rep.str_iff.mp re] at rv;obtain ⟨t,rfl⟩:=rv;simp only [dEq];exact ⟨.list_str b t il hu',.list_str b t il hu',.list_str b t il hu'⟩
   | tup es=>
    obtain ⟨b,ws,rfl,nb,hb,rb⟩:=Rep.tup_iff.mp re
    cases (show v=Value.ref b from rv)
    obtain ⟨its2,rits2,pits2,_⟩:=I.tuple (SqT.of (K:=X.K) (e1 _ _ nb hb))
    have ib:s.heap.IsTuple b its2.toArray:=pits2
    simp only [dEq];exact ⟨.list_tuple il ib hu',.list_tuple il ib hu',.list_tuple il ib hu'⟩
   | lst es=>
    obtain ⟨b,ws,rfl,nb,hb,rb⟩:=Rep.lst_iff.mp re
    cases (show v=Value.ref b from rv)
    obtain ⟨its2,rits2,pits2,_⟩:=I.list (SqL.of (K:=X.K) (e1 _ _ nb hb))
    have ib:=pits2.isList
    have hit:∀j (h1:j<its.toArray.size) (h2:j<its2.toArray.size),SeqAt.EqAt A.in1 s its.toArray[j] its2.toArray[j] ((fun j=>dEq (ds.getD j .non) (es.getD j .non)) j):=fun j h1 h2=>by
     obtain ⟨v1,a1,a2,a3⟩:=item_at rl rits h1
     obtain ⟨v2,b1,b2,b3⟩:=item_at rb rits2 h2
     exact (ih A.in1 _ _ v1 v2 _ _ (Nat.le_trans (dep_mem a3) (by simp [dep] at hd;omega)) (Nat.le_trans (dep_mem b3) (by simp [dep] at he;omega)) (by rw [in1_units];omega)
      (plain_mem (by simpa [plainD] using pd) a3) (plain_mem (by simpa [plainD] using pe) b3) a1 b1 a2 b2).1
    have sz1:its.toArray.size=ds.length:=by rw [rl.length,rits.length];simp
    have sz2:its2.toArray.size=es.length:=by rw [rb.length,rits2.length];simp
    have key:SeqAt.RcAt A s (.ref l) (.ref b) (dEqs ds es)∧SeqAt.RcNeAt A s (.ref l) (.ref b) (!dEqs ds es):=by
     by_cases hsz:ds.length=es.length
     ·have rc:=SeqAt.RcAt.lists (e:=fun j=>dEq (ds.getD j .non) (es.getD j .non)) il ib (by rw [sz1,sz2];exact hsz) hu' hit
      have rn:=SeqAt.RcNeAt.lists (e:=fun j=>dEq (ds.getD j .non) (es.getD j .non)) il ib (by rw [sz1,sz2];exact hsz) hu' hit
      rw [sz1,dEqs_range ds es hsz] at rc rn
      exact ⟨rc,rn⟩
     ·have hne:(its.toArray.size != its2.toArray.size)=true:=by rw [sz1,sz2];simpa using hsz
      have hf:dEqs ds es=false:=by
       cases e:dEqs ds es with
       | false=>rfl
       | true=>exact absurd (dEqs_len e) hsz
      rw [hf]
      exact ⟨.lists_lengths il ib hne hu',.lists_lengths il ib hne hu'⟩
    simp only [dEq]
    refine ⟨?_,key.1,key.2⟩
    by_cases hlb:l=b
    ·have q:=same rfl rfl hlb
     simp only [dEq] at q
     subst hlb
     rw [q];exact .same _
    ·exact .of_refs hlb key.1
  | non=>
   rw [Rep.non_iff.mp rd] at ru
   cases (show u=Value.none from ru)
   cases e with
   | tup es=>
    obtain ⟨b,ws,rfl,nb,hb,rb⟩:=Rep.tup_iff.mp re
    cases (show v=Value.ref b from rv)
    obtain ⟨its2,rits2,pits2,_⟩:=I.tuple (SqT.of (K:=X.K) (e1 _ _ nb hb))
    have ib:s.heap.IsTuple b its2.toArray:=pits2
    simp only [dEq];exact ⟨.none_tuple ib hu',.none_tuple ib hu',.none_tuple ib hu'⟩
   | lst es=>
    obtain ⟨b,ws,rfl,nb,hb,rb⟩:=Rep.lst_iff.mp re
    cases (show v=Value.ref b from rv)
    obtain ⟨its2,rits2,pits2,_⟩:=I.list (SqL.of (K:=X.K) (e1 _ _ nb hb))
    have ib:=pits2.isList
    simp only [dEq];exact ⟨.none_list ib hu',.none_list ib hu',.none_list ib hu'⟩
   | _=>simp [dep] at hs
  | bl a=>
   rw [Rep.bl_iff.mp rd] at ru
   cases (show u=Value.bool a from ru)
   cases e with
   | tup es=>
    obtain ⟨b,ws,rfl,nb,hb,rb⟩:=Rep.tup_iff.mp re
    cases (show v=Value.ref b from rv)
    obtain ⟨its2,rits2,pits2,_⟩:=I.tuple (SqT.of (K:=X.K) (e1 _ _ nb hb))
    have ib:s.heap.IsTuple b its2.toArray:=pits2
    simp only [dEq];exact ⟨.bool_tuple a ib hu',.bool_tuple a ib hu',.bool_tuple a ib hu'⟩
   | lst es=>
    obtain ⟨b,ws,rfl,nb,hb,rb⟩:=Rep.lst_iff.mp re
    cases (show v=Value.ref b from rv)
    obtain ⟨its2,rits2,pits2,_⟩:=I.list (SqL.of (K:=X.K) (e1 _ _ nb hb))
    have ib:=pits2.isList
    simp only [dEq];exact ⟨.bool_list a ib hu',.bool_list a ib hu',.bool_list a ib hu'⟩
   | _=>simp [dep] at hs
  | int a=>
   rw [Rep.int_iff.mp rd] at ru
   obtain ⟨ta,rfl⟩:=ru
   cases e with
   | tup es=>
    obtain ⟨b,ws,rfl,nb,hb,rb⟩:=Rep.tup_iff.mp re
    cases (show v=Value.ref b from rv)
    obtain ⟨its2,rits2,pits2,_⟩:=I.tuple (SqT.of (K:=X.K) (e1 _ _ nb hb))
    have ib:s.heap.IsTuple b its2.toArray:=pits2
    simp only [dEq];exact ⟨.int_tuple a ta ib hu',.int_tuple a ta ib hu',.int_tuple a ta ib hu'⟩
   | lst es=>
    obtain ⟨b,ws,rfl,nb,hb,rb⟩:=Rep.lst_iff.mp re
    cases (show v=Value.ref b from rv)
    obtain ⟨its2,rits2,pits2,_⟩:=I.list (SqL.of (K:=X.K) (e1 _ _ nb hb))
    have ib:=pits2.isList
    simp only [dEq];exact ⟨.int_list a ta ib hu',.int_list a ta ib hu',.int_list a ta ib hu'⟩
   | _=>simp [dep] at hs
  | str a=>
   rw [Rep.str_iff.mp rd] at ru
   obtain ⟨ta,rfl⟩:=ru
   cases e with
   | tup es=>
    obtain ⟨b,ws,rfl,nb,hb,rb⟩:=Rep.tup_iff.mp re
    cases (show v=Value.ref b from rv)
    obtain ⟨its2,rits2,pits2,_⟩:=I.tuple (SqT.of (K:=X.K) (e1 _ _ nb hb))
    have ib:s.heap.IsTuple b its2.toArray:=pits2
    simp only [dEq];exact ⟨.str_tuple a ta ib hu',.str_tuple a ta ib hu',.str_tuple a ta ib hu'⟩
   | lst es=>
    obtain ⟨b,ws,rfl,nb,hb,rb⟩:=Rep.lst_iff.mp re
    cases (show v=Value.ref b from rv)
    obtain ⟨its2,rits2,pits2,_⟩:=I.list (SqL.of (K:=X.K) (e1 _ _ nb hb))
    have ib:=pits2.isList
    simp only [dEq];exact ⟨.str_list a ta ib hu',.str_list a ta ib hu',.str_list a ta ib hu'⟩
   | _=>simp [dep] at hs
end
section
variable {X:Cx} {G:Gh}
noncomputable def okEq (d e:D):Bool:=plainD d&&plainD e&&decide (dep d≤60)&&decide (dep e≤60)
theorem okEq_some {d e:D} (h:okEq d e=true):plainD d=true∧plainD e=true∧dep d≤60∧dep e≤60:=by
 simp only [okEq,Bool.and_eq_true,decide_eq_true_eq] at h
 exact ⟨h.1.1.1,h.1.1.2,h.1.2,h.2⟩
noncomputable def dEqO (d e:D):Option D:=if okEq d e=true then some (.bl (dEq d e)) else none
noncomputable def dNeO (d e:D):Option D:=if okEq d e=true then some (.bl (!dEq d e)) else none
noncomputable def rEqD (G:Gh) (neg:Bool):R2:=fun x y H Q=>∃Hf d e,Ext G Hf H∧okEq d e=true∧Rep G Hf d x∧Rep G Hf e y∧Q (.bl (if neg then !dEq d e else dEq d e)) H
theorem op_eqD (hu:X.A.units+64<cLine):OpR X (compareOp .Eq) (rEqD G false):=by
 intro pins s σ H x y v u Q I rx ry h
 obtain ⟨Hf,d,e,e1,ok,rd,re,q⟩:=h
 obtain ⟨o1,o2,o3,o4⟩:=okEq_some ok
 exact (eqAtD I e1 60 X.A d e x y v u o3 o4 (by omega) o1 o2 rd re rx ry).2.1 _ _ _ _ ⟨.bl (dEq d e),H,I,rfl,q⟩
theorem op_neD (hu:X.A.units+64<cLine):OpR X (compareOp .NotEq) (rEqD G true):=by
 intro pins s σ H x y v u Q I rx ry h
 obtain ⟨Hf,d,e,e1,ok,rd,re,q⟩:=h
 obtain ⟨o1,o2,o3,o4⟩:=okEq_some ok
 exact (eqAtD I e1 60 X.A d e x y v u o3 o4 (by omega) o1 o2 rd re rx ry).2.2 _ _ _ _ ⟨.bl (!dEq d e),H,I,rfl,q⟩
theorem opd_eq (hu:X.A.units+64<cLine):OpD X G (compareOp .Eq) dEqO:=
 ⟨_,op_eqD (G:=G) hu,fun Hf H s x y d e c Q e1 st rx ry q k=>by
  unfold dEqO at q
  split at q
  ·rename_i ok
   cases q
   exact ⟨Hf,d,e,e1,ok,rx,ry,k _ Hf H (.refl e1) st (Rep.bl_iff.mpr rfl) (.scal fun z=>z)⟩
  ·cases q⟩
theorem opd_ne (hu:X.A.units+64<cLine):OpD X G (compareOp .NotEq) dNeO:=
 ⟨_,op_neD (G:=G) hu,fun Hf H s x y d e c Q e1 st rx ry q k=>by
  unfold dNeO at q
  split at q
  ·rename_i ok
   cases q
   exact ⟨Hf,d,e,e1,ok,rx,ry,k _ Hf H (.refl e1) st (Rep.bl_iff.mpr rfl) (.scal fun z=>z)⟩
  ·cases q⟩
noncomputable def okIn (x:D) (ds:List D):Bool:=plainD x&&plainDs ds&&decide (dep x≤60)&&decide (deps ds≤60)
noncomputable def inD (x:D) (ds:List D):Bool:=ds.any fun d=>dEq d x
theorem okIn_some {x:D} {ds:List D} (h:okIn x ds=true):plainD x=true∧plainDs ds=true∧dep x≤60∧deps ds≤60:=by
 simp only [okIn,Bool.and_eq_true,decide_eq_true_eq] at h
 exact ⟨h.1.1.1,h.1.1.2,h.1.2,h.2⟩
open Classical in
noncomputable def ansU (G:Gh) (Hf:Hp) (x:D) (u:Value):Bool:=if h:∃d v,plainD d=true∧Rep G Hf d v∧RelV v u then dEq h.choose x else false
theorem ansU_of {Hf:Hp} {x d:D} {v:V} {u:Value} (pd:plainD d=true) (r:Rep G Hf d v) (ru:RelV v u):ansU G Hf x u=dEq d x:=by
 have h:∃d v,plainD d=true∧Rep G Hf d v∧RelV v u:=⟨d,v,pd,r,ru⟩
 unfold ansU
 rw [dif_pos h]
 obtain ⟨v',p',r',ru'⟩:=h.choose_spec
 have ev:v'=v:=RelV.inj ru' ru
 subst ev
 rw [Rep.inj p' pd r' r]
theorem any_ansU {Hf:Hp} {x:D}:∀{ds:List D} {vs:List V} {us:List Value},plainDs ds=true→RepL G Hf ds vs→Vals vs us→us.any (ansU G Hf x)=inD x ds
 | [],vs,us,_,r,rv=>by
  rw [RepL.nil_iff.mp r] at rv
  cases rv
  rfl
 | d::ds,vs,us,p,r,rv=>by
  obtain ⟨v,rr,rfl,r1,r2⟩:=RepL.cons_iff.mp r
  have p':plainD d=true∧plainDs ds=true:=by simpa [plainDs] using p
  cases rv with
  | cons a b=>
   rw [List.any_cons,ansU_of p'.1 r1 a,any_ansU p'.2 r2 b]
   rfl
theorem mem_vals {Hf:Hp}:∀{ds:List D} {vs:List V} {us:List Value} {u:Value},RepL G Hf ds vs→Vals vs us→u∈us→∃d v,d∈ds∧Rep G Hf d v∧RelV v u
 | [],vs,us,u,r,rv,m=>by
  rw [RepL.nil_iff.mp r] at rv
  cases rv
  simp at m
 | d::ds,vs,us,u,r,rv,m=>by
  obtain ⟨v,rr,rfl,r1,r2⟩:=RepL.cons_iff.mp r
  cases rv with
  | cons a b=>
   rcases List.mem_cons.mp m with e | m
   ·subst e;exact ⟨d,v,by simp,r1,a⟩
   ·obtain ⟨d',v',m',h1,h2⟩:=mem_vals r2 b m
    exact ⟨d',v',by simp [m'],h1,h2⟩
noncomputable def rInD (G:Gh) (neg:Bool):R2:=fun x y H Q=>∃Hf d ds,Ext G Hf H∧okIn d ds=true∧Rep G Hf d x∧(Rep G Hf (.lst ds) y∨Rep G Hf (.tup ds) y)∧Q (.bl (if neg then !inD d ds else inD d ds)) H
theorem in_core {pins:List (Addr×Obj)} {s:Shared} {σ:St} {Hf H:Hp} {d:D} {ds:List D} {x:V} {v:Value} {vs:List V} {its:List Value} (hu:X.A.units+64<cLine) (I:Inv X pins σ H s) (e1:Ext G Hf H) (ok:okIn d ds=true) (rd:Rep G Hf d x) (rx:RelV x v)
  (rl:RepL G Hf ds vs) (rv:Vals vs its):(∀y,y∈its.toArray→SeqAt.EqAt X.A.in1 s y v (ansU G Hf d y))∧its.toArray.any (ansU G Hf d)=inD d ds:=by
 obtain ⟨o1,o2,o3,o4⟩:=okIn_some ok
 refine ⟨fun y hy=>?_,?_⟩
 ·obtain ⟨c,w,m,h1,h2⟩:=mem_vals rl rv (by simpa using hy)
  rw [ansU_of (plain_mem o2 m) h1 h2]
  exact (eqAtD I e1 60 X.A.in1 c d w x y v (Nat.le_trans (dep_mem m) o4) o3 (by rw [in1_units];omega) (plain_mem o2 m) o1 h1 rd h2 rx).1
 ·rw [show its.toArray.any (ansU G Hf d)=its.any (ansU G Hf d) by simp,any_ansU o2 rl rv]
theorem op_inD (hu:X.A.units+64<cLine):OpR X (compareOp .In) (rInD G false):=by
 intro pins s σ H x y v u Q I rx ry h
 obtain ⟨Hf,d,ds,e1,ok,rd,hl,q⟩:=h
 rcases hl with hl | hl
 ·obtain ⟨p,vs,rfl,np,hp,rp⟩:=Rep.lst_iff.mp hl
  cases (show u=Value.ref p from ry)
  obtain ⟨its,rv,pl,hz⟩:=I.list (SqL.of (K:=X.K) (e1 _ _ np hp))
  obtain ⟨c1,c2⟩:=in_core hu I e1 ok rd rx rp rv
  refine SeqAt.in_listAt _ pl.isList c1 ⟨.bl _,H,I,rfl,?_⟩
  rw [c2];exact q
 ·obtain ⟨p,vs,rfl,np,hp,rp⟩:=Rep.tup_iff.mp hl
  cases (show u=Value.ref p from ry)
  obtain ⟨its,rv,pl,hz⟩:=I.tuple (SqT.of (K:=X.K) (e1 _ _ np hp))
  obtain ⟨c1,c2⟩:=in_core hu I e1 ok rd rx rp rv
  refine SeqAt.in_tupleAt _ pl c1 ⟨.bl _,H,I,rfl,?_⟩
  rw [c2];exact q
theorem op_notInD (hu:X.A.units+64<cLine):OpR X (compareOp .NotIn) (rInD G true):=by
 intro pins s σ H x y v u Q I rx ry h
 obtain ⟨Hf,d,ds,e1,ok,rd,hl,q⟩:=h
 rcases hl with hl | hl
 ·obtain ⟨p,vs,rfl,np,hp,rp⟩:=Rep.lst_iff.mp hl
  cases (show u=Value.ref p from ry)
  obtain ⟨its,rv,pl,hz⟩:=I.list (SqL.of (K:=X.K) (e1 _ _ np hp))
  obtain ⟨c1,c2⟩:=in_core hu I e1 ok rd rx rp rv
  refine SeqAt.notIn_listAt _ pl.isList c1 ⟨.bl _,H,I,rfl,?_⟩
  rw [c2];exact q
 ·obtain ⟨p,vs,rfl,np,hp,rp⟩:=Rep.tup_iff.mp hl
  cases (show u=Value.ref p from ry)
  obtain ⟨its,rv,pl,hz⟩:=I.tuple (SqT.of (K:=X.K) (e1 _ _ np hp))
  obtain ⟨c1,c2⟩:=in_core hu I e1 ok rd rx rp rv
  refine SeqAt.notIn_tupleAt _ pl c1 ⟨.bl _,H,I,rfl,?_⟩
  rw [c2];exact q
end
theorem keys_none:typeLookup (.type "list") "keys" = pure none:=by rw [typeLookup_type,builtinLookup_eq_fast];kernel_rfl
theorem entry_update_loop:entryFor table "dict.update.loop" = some Builtin.«dict.update.loop»:=entryFor_of_tree (by kernel_rfl)
theorem plain_update_loop:plainId "dict.update.loop" = true:=by decide +kernel
set_option maxHeartbeats 4000000 in
theorem getAttrQ_miss_list {prog:Program} {w:World} {A:Around} {E:Value→Shared→Prop} {s:Shared} {a:Addr} {o:Obj} {xs:Array Value} {k:Nat} {Q:Option Value→Shared→Prop}
  (hx:s.heap.get? a=some o) (hc:o.cls=.type "list") (hdat:o.data=.seq xs k) (hd:o.dict=none) (hA:A.handled=none)
  (h:∀h' tk,(∀b o,s.heap.get? b=some o→h'.get? b=some o)→Q none { s with heap:=h',toks:=tk }) :
  wpAny (model prog w) A (getAttr? (.ref a) "keys") Q E s:=by
 have hmiss:=keys_none
 have hname:(["__module__","__name__","__qualname__","__doc__","__annotations__"]:List Str).contains ("keys" : Str)=false:=by decide +kernel
 have hsz:("keys" : Str).length+100≤sizeLine:=by decide +kernel
 obtain ⟨c,dct,dat,sl⟩:=o
 simp only at hc hdat hd
 subst hc hdat hd
 obtain ⟨hp,g,d,tk,os⟩:=s
 have hT:∀tk',(⟨hp,g,d,tk',os⟩:Shared).TypeIs (.ref a) "list":=fun _=>⟨_,hx,rfl⟩
 have f1:=sub_AttributeError
 have f3:=F.slot_list_getattribute.lookup
 have f4:=F.slot_list_getattribute.bind (.ref a)
 have f5:=am_list_getattr_none
 unfold getAttr? getAttrBy?
 refine wpAny_bind ?_
 refine wpAny_mkText ?_
 refine wpAny_bind (wpAny_attempt ?_)
 unfold getAttrBy
 repeat (any_goals (first | assumption | exact hT _ | ((with_reducible show wpAny _ _ (call (Value.builtin "list.__getattribute__") _ _) _ _ _);refine call_meets F.slot_list_getattribute (hT _) am_entry_list_getattribute (F.args_list_getattribute_2 _ _) (meets_getattribute_miss_list a xs k sl "keys" _ hmiss hname hsz) ⟨hx,hA,fun h' tk' e hx'=>?_⟩) | wp_step))
 obtain ⟨t',u',he⟩:=hx'.there
 have hTe:∀tk',(⟨h',g,d,tk',os⟩:Shared).TypeIs (.ref e) "AttributeError":=fun _=>⟨_,he,rfl⟩
 have fin:∀tk',wpAny (model prog w) A (do
   let b←isInstance (.ref e) (.type "AttributeError")
   if b=true then pure none else throw (.ref e)) Q E ⟨h',g,d,tk',os⟩:=fun tk'=>by
  refine wpAny_bind (wpAny_isInstance (hTe _) f1 ?_)
  simp only [if_true]
  exact wpAny_pure (h h' tk' hx'.of.keeps)
 show wpAny _ _ (getattributeRaised _ _ _ _ _ _ _) _ _ _
 unfold getattributeRaised
 repeat (any_goals (first | assumption | exact fin _ | wp_step))
section
variable {X:Cx} {pins:List (Addr×Obj)} {σ:St} {H:Hp} {s:Shared} {A:Around} {E:Value→Shared→Prop} {a:Addr} {y v:V} {u r:Value}
theorem d_dictSet {H':Hp} {Q:Unit→Shared→Prop} (hu:A.units<cLine) (I:Inv X pins σ H s) (g:DPut H a y v H') (ry:RelV y u) (rv:RelV v r) (h:∀s',Inv X pins σ H' s'→Q () s') :
  wpAny (model X.prog X.w) A (dictSet a u r) Q E s:=by
 rcases g with ⟨kvs,k,e,ey,l,eH⟩ | ⟨kvs,k,b,e,ey,eb,l,eH⟩
 ·subst ey eH
  obtain ⟨z,hd,vs,rel,dd⟩:=dk_of I.hok e
  have hz:vs.length≤sizeLine:=by rw [←rel.length];exact z
  have hl:(putK kvs k v).length≤sizeLine:=by have:=length_putK kvs k v;omega
  refine wpAny_dictSet_pairs (hsz:=hz) (kV_is ry) dd fun h' dd' hs=>h _ ?_
  have he:∃q,h'.get? a=some q:=let ⟨q,_,_,hq,_⟩:=dd';⟨q,hq⟩
  exact d_write I (by rw [e];exact True.intro) hs he (dk_new hl hd (rel.put k rv) dd')
 ·subst ey eH
  cases (show u=Value.ref b from ry)
  obtain ⟨z,hd,xs,rel,dd⟩:=dt_of I.hok e
  have hz:xs.length≤sizeLine:=by rw [←Paired.length rel];exact z
  have hl:(putK kvs k v).length≤sizeLine:=by have:=length_putK kvs k v;omega
  refine wpAny_dictSet_heap (hsz:=hz) (knd:=tupleKind (mixKind X.prog X.w)) hu (key_of I.hok eb) dd fun h' dd' hs=>h _ ?_
  obtain ⟨q,es,ep,hq,h2,h3,h4,_,h5⟩:=dd'
  refine d_write I (by rw [e];exact True.intro) hs ⟨q,hq⟩ ⟨hl,hd,_,(rel.put k eb rv).keeps fun c ys ec=>?_,q,es,ep,hq,h2,h3,h4,h5⟩
  rw [upd_ne (ne_of ec e (fun z=>nomatch z))]
  exact ec
end
section
variable {X:Cx} {pins:List (Addr×Obj)} {σ:St}
inductive Puts (d:Addr):Hp→List V→Hp→Prop
 | nil {H:Hp}:Puts d H [] H
 | cons {H H1 H2:Hp} {b:Addr} {k v:V} {r:List V}:H b=some (.tup [k,v])→DPut H d k v H1→Puts d H1 r H2→Puts d H (.ref b::r) H2
theorem upd_loop {d l it:Addr} {vs:List V} {E:Value→Shared→Prop} {Q:Shared→Prop} {H':Hp} {A:Around} (hA:A.handled=none) (hu:A.units+1<cLine)
  (hQ:∀s',Inv X pins σ H' s'→Q s') (hfp:∀Hx:Hp,Hx it=none→FpOk X pins Hx it) :
  ∀(k i:Nat) (s:Shared) (H:Hp),vs.length-i=k→i≤vs.length→Inv X pins σ H s→H it=none→s.heap.IsListIter it l i→H l=some (.lst vs)→l≠d→(∀Hx Hy y v,DPut Hx d y v Hy→Hx l=some (.lst vs)→Hy l=some (.lst vs))→Puts d H (vs.drop i) H'→
   codeAny (model X.prog X.w) A (.builtin "dict.update.loop" ⟨[.ref d,.ref it,rawInt i,.none],[]⟩) (wants (fun r s₂=>r=.none∧Q s₂) E) s:=by
 intro k
 induction k with
 | zero=>
  intro i s H hk hi I hit st hl hne hkeep hp
  have hil:i=vs.length:=by omega
  obtain ⟨its,rv,pl,hz⟩:=I.list (SqL.of (K:=X.K) hl)
  refine codeAny_builtin entry_update_loop ?_
  rw [Around.under_plainId plain_update_loop _]
  show wpAny _ A.in1 (pyNext (.ref it) >>= _) _ _ s
  obtain ⟨f0,f1,f2,f3,f4,f5⟩:=hfp H hit
  have hlen:=rv.length
  refine wpAny_bind (wpAny_pyNext_list_end (A:=A.in1) hA st pl.isList (by simp;omega) fun h' eb=>?_)
  have I2:Inv X pins σ H { s with heap:=h' }:=I.turned (t':=s.toks) (fun b o hb e=>eb b o hb e) f0 f1 f3 f4 f5
  have e0:vs.drop i=[]:=by rw [hil];simp
  rw [e0] at hp
  cases hp
  show wpAny _ _ (Builtin.Dict.addKeywords d [] >>= _) _ _ _
  refine wpAny_bind (wpAny_pure ?_)
  exact wpAny_pure ⟨rfl,hQ _ I2⟩
 | succ k ih=>
  intro i s H hk hi I hit st hl hne hkeep hp
  have hlt:i<vs.length:=by omega
  obtain ⟨its,rv,pl,hz⟩:=I.list (SqL.of (K:=X.K) hl)
  have hlen:=rv.length
  refine codeAny_builtin entry_update_loop ?_
  rw [Around.under_plainId plain_update_loop _]
  show wpAny _ A.in1 (pyNext (.ref it) >>= _) _ _ s
  obtain ⟨f0,f1,f2,f3,f4,f5⟩:=hfp H hit
  have hd:vs.drop i=vs[i]::vs.drop (i+1):=List.drop_eq_getElem_cons hlt
  rw [hd] at hp
  generalize hvi:vs[i]=x at hp
  generalize hrest:vs.drop (i+1)=rest at hp
  cases hp with
  | @cons _ H1 _ b k0 v0 _ hb hput hrec=>
   have gx:vs[i]?=some (.ref b):=by rw [List.getElem?_eq_getElem hlt,hvi]
   obtain ⟨u,hu1,ru⟩:=rv.get gx
   cases (show u=Value.ref b from ru)
   refine wpAny_bind (wpAny_pyNext_list_item (A:=A.in1) st pl.isList (x:=.ref b) (by simpa using hu1) fun h' st' sb=>?_)
   have I1:Inv X pins σ H { s with heap:=h' }:=I.turned (t':=s.toks) (fun c o hc e=>(sb.2 c hc).trans e) f0 f1 f3 f4 f5
   obtain ⟨its2,rv2,pt,_⟩:=I1.tuple (SqT.of (K:=X.K) hb)
   obtain ⟨ku,vu,e2,rk,rvv⟩:=rv2.two
   subst e2
   obtain ⟨o,ho,hoc,n,hod⟩:=id pt
   show wpAny _ _ (holding [Value.ref b] _ >>= _) _ _ _
   refine wpAny_bind (wpAny_holding ?_)
   refine wpAny_bind (wpAny_tryCatch ?_)
   unfold Builtin.Dict.pairItems
   refine wpAny_bind (wpAny_typeOf (T:="tuple") ⟨o,ho,hoc⟩ ?_)
   rw [if_pos (by decide)]
   refine wpAny_bind (wpAny_seqItems ho hod ?_)
   refine wpAny_pure ?_
   show wpAny _ _ (holding [ku,vu] (dictSet d ku vu)) _ _ _
   refine wpAny_holding ?_
   obtain ⟨oi,hoi,ci,di⟩:=id st'
   have Ip:=I1.pinned (fp:=[it]) (fun c hc=>by
    have e:c=it:=by simpa using hc
    subst e
    exact hfp H hit) (fun c hc=>by
    have e:c=it:=by simpa using hc
    subst e
    exact ⟨oi,hoi,fun w z=>by rw [di] at z;cases z⟩)
   refine d_dictSet (by rw [in1_units];exact hu) Ip hput rk rvv fun s2 I2=>?_
   have pit:=I2.pin (it,oi) (List.mem_append_right _ (List.mem_append_right _ (mem_pinsAt (by simp) hoi)))
   have ec:((i:Int)+1)=((i+1:Nat):Int):=by push_cast;rfl
   show wpAny _ _ (again (.builtin "dict.update.loop" ⟨[.ref d,.ref it,rawInt ((i:Int)+1),.none],[]⟩)) _ _ _
   rw [ec]
   refine wpAny_pure ⟨plainId_quiet plain_update_loop _,?_⟩
   refine ih (i+1) s2 H1 (by omega) hlt I2.unpinned pit.2.1 ⟨oi,pit.1,ci,di⟩ (hkeep _ _ _ _ hput hl) hne hkeep ?_
   rw [hrest]
   exact hrec
theorem call_dictR (hc:X.calm=true) (hu:X.A.units+64<cLine) (tk:Bool):CallR X (.type "dict") (fun xs H Q=>∃l vs,xs=[.ref l]∧H l=some (.lst vs)∧∀p,H p=none→∃H',Puts p (upd H p (if tk then .dT [] else .dK [])) vs H'∧Q (.ref p) H'):=by
 intro pins s σ H xs us Q I r h
 obtain ⟨l,vs,rfl,hl,q⟩:=h
 obtain ⟨u,rfl,ru⟩:=vals1 r
 cases (show u=Value.ref l from ru)
 obtain ⟨H',puts,q'⟩:=q s.heap.objs.size (I.hok.fresh (Nat.le_refl _))
 have hA:=I.ok.hd hc
 refine callType_codes (Q₁:=fun obj s₁=>obj=.ref s.heap.objs.size∧s₁ = { s with heap:=s.heap.push { cls:=.type "dict",data:=.dict #[] } }) F.kt_called_dict (F.kt_typeCall_dict_1 _) F.entry_dict_init (kt_code_dict_new _ ⟨rfl,rfl⟩) ?_
 rintro obj s₁ ⟨rfl,rfl⟩
 have hbig:=I.big
 have I1:Inv X pins σ (upd H s.heap.objs.size (if tk then .dT [] else .dK [])) { s with heap:=s.heap.push { cls:=.type "dict",data:=.dict #[] } }:=
  I.laid (t':=s.toks) (fun b o e=>Heap.get?_push_of_some _ e) (Nat.le_refl _) (by
   cases tk
   ·exact dk_empty s.heap hbig
   ·exact dt_empty s.heap hbig)
 have hnew:(s.heap.push { cls:=.type "dict",data:=.dict #[] }).get? s.heap.objs.size=some { cls:=.type "dict",data:=.dict #[] }:=Heap.get?_push_size _ rfl
 have hTd:({ s with heap:=s.heap.push { cls:=.type "dict",data:=.dict #[] } }:Shared).TypeIs (.ref s.heap.objs.size) "dict":=⟨_,hnew,rfl⟩
 have hld:l≠s.heap.objs.size:=ne_of_none hl (I.hok.fresh (Nat.le_refl _))
 have hl1:(upd H s.heap.objs.size (if tk then HO.dT [] else HO.dK [])) l=some (.lst vs):=by rw [upd_ne hld];exact hl
 obtain ⟨zz,its,n,rits,hlo⟩:=(show ObjOk X.prog X.w _ _ l (.lst vs) from I1.hok l _ hl1)
 refine ⟨hTd,F.args_dict_init_2 _ _,?_⟩
 unfold Builtin.«dict.__init__»
 refine wpAny_bind ?_
 unfold Builtin.Dict.selfAndRest
 refine wpAny_bind (wpAny_notOrdered_dict hTd ?_)
 show wpAny _ _ (pure (s.heap.objs.size,[Value.ref l])) _ _ _
 refine wpAny_pure ?_
 show wpAny _ _ (Builtin.Dict.updateFrom "dict.__init__" s.heap.objs.size (.ref l) [] .none) _ _ _
 unfold Builtin.Dict.updateFrom
 have hTl:({ s with heap:=s.heap.push { cls:=.type "dict",data:=.dict #[] } }:Shared).TypeIs (.ref l) "list":=⟨_,hlo,rfl⟩
 refine wpAny_bind (wpAny_typeOf hTl ?_)
 rw [if_pos (by decide)]
 refine wpAny_bind (getAttrQ_miss_list hlo rfl rfl rfl hA fun h2 tk2 kp2=>?_)
 simp only [Option.isNone_none,if_true]
 refine wpAny_bind (wpAny_rule ?_)
 have I2:Inv X pins σ (upd H s.heap.objs.size (if tk then .dT [] else .dK [])) { s with heap:=h2,toks:=tk2 }:=I1.kept kp2
 obtain ⟨its',rv',pl',hz'⟩:=I2.list (SqL.of (K:=X.K) hl1)
 refine wpAny_bind (wpAny_pyIter_list pl'.isList ?_)
 refine wpAny_pure ⟨plainId_quiet plain_update_loop _,?_⟩
 have I3:Inv X pins σ (upd H s.heap.objs.size (if tk then .dT [] else .dK [])) { s with heap:=h2.push { cls:=.type "list_iterator",data:=.fields #[.ref l,.int 0 0] },toks:=tk2 }:=I2.kept (t':=tk2) fun b o e=>Heap.get?_push_of_some _ e
 have hfresh:(upd H s.heap.objs.size (if tk then HO.dT [] else HO.dK [])) h2.objs.size=none:=I2.hok.fresh (Nat.le_refl _)
 have hst:(h2.push { cls:=.type "list_iterator",data:=.fields #[.ref l,.int 0 0] }).IsListIter h2.objs.size l 0:=⟨_,Heap.get?_push_size _ rfl,rfl,rfl⟩
 refine upd_loop (l:=l) (vs:=vs) (H':=H') (A:=X.A.in1) (pins:=pins) (σ:=σ) hA (by rw [in1_units];omega) (fun s' I'=>⟨.ref s.heap.objs.size,H',I',rfl,q'⟩) (fun Hx hn=>I2.fpOk (Nat.le_refl _) hn) vs.length 0 _ _ rfl (Nat.zero_le _) I3 hfresh hst hl1 hld ?_ puts
 intro Hx Hy y v hput hxl
 rcases hput with ⟨kvs,k,e,ey,l',eH⟩ | ⟨kvs,k,b,e,ey,eb,l',eH⟩
 ·subst eH;rw [upd_ne hld];exact hxl
 ·subst eH;rw [upd_ne hld];exact hxl
end
section
variable {X:Cx} {G:Gh}
noncomputable def keyOf:D→Option Key
 | .int i=>some (.inl i)
 | .str x=>some (.inr x)
 | _=>none
noncomputable def keysOf:List D→Option (List Key)
 | []=>some []
 | d::ds=>match keyOf d,keysOf ds with | some k,some ks=>some (k::ks) | _,_=>none
noncomputable def valOf:D→Option V
 | .int i=>some (.int i)
 | .bl b=>some (.bl b)
 | .str x=>some (.str x)
 | .non=>some .non
 | _=>none
theorem keyOf_rep {H:Hp} {d:D} {v:V} {k:Key} (h:keyOf d=some k) (r:Rep G H d v):v=kV k:=by
 cases d with
 | int i=>cases h;rw [Rep.int_iff.mp r];rfl
 | str i=>cases h;rw [Rep.str_iff.mp r];rfl
 | _=>cases h
theorem keysOf_rep {H:Hp}:∀{ds:List D} {vs:List V} {ks:List Key},keysOf ds=some ks→RepL G H ds vs→vs=ks.map kV
 | [],vs,ks,h,r=>by cases h;exact RepL.nil_iff.mp r
 | d::ds,vs,ks,h,r=>by
  obtain ⟨v,rr,rfl,r1,r2⟩:=RepL.cons_iff.mp r
  unfold keysOf at h
  cases e1:keyOf d with
  | none=>rw [e1] at h;cases h
  | some k=>
   cases e2:keysOf ds with
   | none=>rw [e1,e2] at h;cases h
   | some ks'=>
    rw [e1,e2] at h
    cases h
    rw [keyOf_rep e1 r1,keysOf_rep e2 r2]
    rfl
theorem valOf_rep {H:Hp} {d:D} {v w:V} (h:valOf d=some w) (r:Rep G H d v):v=w:=by
 cases d with
 | int i=>cases h;exact Rep.int_iff.mp r
 | str i=>cases h;exact Rep.str_iff.mp r
 | bl i=>cases h;exact Rep.bl_iff.mp r
 | non=>cases h;exact Rep.non_iff.mp r
 | _=>cases h
noncomputable def pairT:D→Option (List Key×V)
 | .tup [.tup ks,v]=>match keysOf ks,valOf v with | some k,some w=>some (k,w) | _,_=>none
 | _=>none
noncomputable def pairK:D→Option (Key×V)
 | .tup [k,v]=>match keyOf k,valOf v with | some k,some w=>some (k,w) | _,_=>none
 | _=>none
noncomputable def putsT:List (List Key×V)→List D→Option (List (List Key×V))
 | acc,[]=>some acc
 | acc,d::ds=>match pairT d with | some (k,v)=>putsT (putK acc k v) ds | none=>none
noncomputable def putsK:List (Key×V)→List D→Option (List (Key×V))
 | acc,[]=>some acc
 | acc,d::ds=>match pairK d with | some (k,v)=>putsK (putK acc k v) ds | none=>none
theorem pairT_some {d:D} {k:List Key} {v:V} (h:pairT d=some (k,v)):∃ks w,d=.tup [.tup ks,w]∧keysOf ks=some k∧valOf w=some v:=by
 match d,h with
 | .tup [.tup ks,w],h=>
  have h':(match keysOf ks,valOf w with | some k,some w=>some (k,w) | _,_=>none)=some (k,v):=h
  cases e1:keysOf ks with
  | none=>rw [e1] at h';cases h'
  | some k'=>
   cases e2:valOf w with
   | none=>rw [e1,e2] at h';cases h'
   | some w'=>rw [e1,e2] at h';cases h';exact ⟨ks,w,rfl,e1,e2⟩
theorem pairK_some {d:D} {k:Key} {v:V} (h:pairK d=some (k,v)):∃ks w,d=.tup [ks,w]∧keyOf ks=some k∧valOf w=some v:=by
 match d,h with
 | .tup [ks,w],h=>
  have h':(match keyOf ks,valOf w with | some k,some w=>some (k,w) | _,_=>none)=some (k,v):=h
  cases e1:keyOf ks with
  | none=>rw [e1] at h';cases h'
  | some k'=>
   cases e2:valOf w with
   | none=>rw [e1,e2] at h';cases h'
   | some w'=>rw [e1,e2] at h';cases h';exact ⟨ks,w,rfl,e1,e2⟩
theorem puts_T {Hf H:Hp} {p:Addr} (e1:Ext G Hf H) (hp:H p=none):∀{ds:List D} {vs:List V} {acc res:List (List Key×V)},RepL G Hf ds vs→putsT acc ds=some res→acc.length+ds.length≤sizeLine→Puts p (upd H p (.dT acc)) vs (upd H p (.dT res))
 | [],vs,acc,res,r,h,_=>by
  rw [RepL.nil_iff.mp r]
  cases h
  exact .nil
 | d::ds,vs,acc,res,r,h,hl=>by
  obtain ⟨v,rr,rfl,r1,r2⟩:=RepL.cons_iff.mp r
  unfold putsT at h
  cases e:pairT d with
  | none=>rw [e] at h;cases h
  | some kv=>
   obtain ⟨k,w⟩:=kv
   rw [e] at h
   have h:putsT (putK acc k w) ds=some res:=h
   obtain ⟨ks,wd,rfl,q1,q2⟩:=pairT_some e
   obtain ⟨b,ws,rfl,nb,hb,rb⟩:=Rep.tup_iff.mp r1
   obtain ⟨v1,v2,rfl,rk,rv⟩:=RepL.two_inv rb
   obtain ⟨c,cs,rfl,nc,hcx,rc⟩:=Rep.tup_iff.mp rk
   have ec:=keysOf_rep q1 rc
   subst ec
   have ev:=valOf_rep q2 rv
   subst ev
   have hb':=e1 _ _ nb hb
   have hc':=e1 _ _ nc hcx
   have ll:=length_putK acc k v2
   have hl':acc.length+(ds.length+1)≤sizeLine:=by simpa using hl
   refine .cons (by rw [upd_ne (ne_of_none hb' hp)];exact hb') (DPut.t (k:=k) upd_same (by rw [upd_ne (ne_of_none hc' hp)];exact hc') (by omega)) ?_
   rw [upd_upd]
   exact puts_T e1 hp r2 h (by omega)
theorem puts_K {Hf H:Hp} {p:Addr} (e1:Ext G Hf H) (hp:H p=none):∀{ds:List D} {vs:List V} {acc res:List (Key×V)},RepL G Hf ds vs→putsK acc ds=some res→acc.length+ds.length≤sizeLine→Puts p (upd H p (.dK acc)) vs (upd H p (.dK res))
 | [],vs,acc,res,r,h,_=>by
  rw [RepL.nil_iff.mp r]
  cases h
  exact .nil
 | d::ds,vs,acc,res,r,h,hl=>by
  obtain ⟨v,rr,rfl,r1,r2⟩:=RepL.cons_iff.mp r
  unfold putsK at h
  cases e:pairK d with
  | none=>rw [e] at h;cases h
  | some kv=>
   obtain ⟨k,w⟩:=kv
   rw [e] at h
   have h:putsK (putK acc k w) ds=some res:=h
   obtain ⟨ks,wd,rfl,q1,q2⟩:=pairK_some e
   obtain ⟨b,ws,rfl,nb,hb,rb⟩:=Rep.tup_iff.mp r1
   obtain ⟨v1,v2,rfl,rk,rv⟩:=RepL.two_inv rb
   have ek:=keyOf_rep q1 rk
   subst ek
   have ev:=valOf_rep q2 rv
   subst ev
   have hb':=e1 _ _ nb hb
   have ll:=length_putK acc k v2
   have hl':acc.length+(ds.length+1)≤sizeLine:=by simpa using hl
   refine .cons (by rw [upd_ne (ne_of_none hb' hp)];exact hb') (DPut.k (k:=k) upd_same (by omega)) ?_
   rw [upd_upd]
   exact puts_K e1 hp r2 h (by omega)
noncomputable def dDictT:List D→Option D
 | [.lst ds]=>if ds.length≤sizeLine then (putsT [] ds).map .dt else none
 | _=>none
noncomputable def dDictK:List D→Option D
 | [.lst ds]=>if ds.length≤sizeLine then (putsK [] ds).map .dk else none
 | _=>none
theorem call_dictF (hc:X.calm=true) (hu:X.A.units+64<cLine):CallR X (.type "dict") (fun xs H Q=>∃l vs,xs=[.ref l]∧H l=some (.lst vs)∧∀p,H p=none→∃kvs,Puts p (upd H p (.dT [])) vs (upd H p (.dT kvs))∧∀o,Q (.ref p) (upd H p (.frz o (.dT kvs)))):=by
 intro pins s σ H xs us Q I r h
 obtain ⟨l,vs,ex,hl,hp⟩:=h
 refine thn (call_dictR hc hu true pins s σ H xs us (fun v H'=>∃p kvs,v=.ref p∧H'=upd H p (.dT kvs)∧∀o,Q (.ref p) (upd H p (.frz o (.dT kvs)))) I r ⟨l,vs,ex,hl,fun p hn=>?_⟩) fun u s1 ⟨v,H1,I1,r1,p,kvs,ev,eH,q⟩=>?_
 ·obtain ⟨kvs,pu,q⟩:=hp p hn
  exact ⟨_,pu,p,kvs,rfl,rfl,q⟩
 ·subst ev eH
  have ok:=I1.hok p (.dT kvs) upd_same
  obtain ⟨_,_,xs',_,o,es,ep,h1,_⟩:=(show ObjOk X.prog X.w _ s1.heap p (.dT kvs) from ok)
  have I2:=I1.write (x:=p) (e:=p) (o:=.frz o (.dT kvs)) (h':=s1.heap) (t':=s1.toks) (by rw [upd_same];trivial) (.inl rfl) (fun _ _ _ e=>e) ⟨o,h1⟩ ⟨h1,ok.stay (fun _ _ _ e=>e) (fun b e=>?_) fun b xs e=>?_⟩
  ·rw [upd_upd] at I2
   exact ⟨.ref p,_,I2,r1,q o⟩
  ·have:b≠p:=fun z=>by rw [z,upd_same] at e;cases e
   rw [upd_ne this];exact e
  ·have:b≠p:=fun z=>by rw [z,upd_same] at e;cases e
   rw [upd_ne this];exact e
theorem call_dictT (hc:X.calm=true) (hu:X.A.units+64<cLine):CallD X G (.type "dict") dDictT:=
 ⟨_,call_dictF hc hu,fun Hf H s xs ds c Q e1 st r q k=>by
  match ds,q,r with
  | [.lst es],q,r=>
   have q:(if es.length≤sizeLine then (putsT [] es).map D.dt else none)=some c:=q
   split at q
   ·rename_i hz
    cases e:putsT [] es with
    | none=>rw [e] at q;cases q
    | some res=>
     rw [e] at q
     cases q
     obtain ⟨v,rfl,rv⟩:=RepL.one_inv r
     obtain ⟨l,vs,rfl,nl,hl,rl⟩:=Rep.lst_iff.mp rv
     refine ⟨l,vs,rfl,e1 _ _ nl hl,fun p hp=>⟨_,puts_T e1 hp rl e (by simpa using hz),fun o=>?_⟩⟩
     have nf:=Gh.nofp st hp
     have g2:=Gr.new (o:=.frz o (.dT res)) e1 hp nf
     exact k (.ref p) _ _ g2 (Gh.grow st hp) (Rep.dt_iff.mpr ⟨p,o,rfl,nf,upd_same⟩) fun a ea _=>by cases ea;exact ⟨hp,fun ds ed=>by cases ed⟩
   ·cases q⟩
theorem call_dictK (hc:X.calm=true) (hu:X.A.units+64<cLine):CallD X G (.type "dict") dDictK:=
 ⟨_,call_dictR hc hu false,fun Hf H s xs ds c Q e1 st r q k=>by
  match ds,q,r with
  | [.lst es],q,r=>
   have q:(if es.length≤sizeLine then (putsK [] es).map D.dk else none)=some c:=q
   split at q
   ·rename_i hz
    cases e:putsK [] es with
    | none=>rw [e] at q;cases q
    | some res=>
     rw [e] at q
     cases q
     obtain ⟨v,rfl,rv⟩:=RepL.one_inv r
     obtain ⟨l,vs,rfl,nl,hl,rl⟩:=Rep.lst_iff.mp rv
     refine ⟨l,vs,rfl,e1 _ _ nl hl,fun p hp=>⟨_,puts_K e1 hp rl e (by simpa using hz),?_⟩⟩
     have nf:=Gh.nofp st hp
     have g2:=Gr.new (o:=.dK res) e1 hp nf
     exact k (.ref p) _ _ g2 (Gh.grow st hp) (Rep.dk_iff.mpr ⟨p,rfl,nf,upd_same⟩) fun a ea _=>by cases ea;exact ⟨hp,fun ds ed=>by cases ed⟩
   ·cases q⟩
theorem op_din (hu:X.A.units+1<cLine):OpR X (compareOp .In) (fun x y H Q=>∃a o,y=.ref a∧DGet H a x o∧Q (.bl o.isSome) H):=by
 intro pins s σ H x y v u Q I rx ry h
 obtain ⟨a,o,rfl,g,q⟩:=h
 cases (show u=Value.ref a from ry)
 exact d_in hu I g rx fun s' I'=>⟨.bl _,H,I',rfl,q⟩
theorem op_dnotin (hu:X.A.units+1<cLine):OpR X (compareOp .NotIn) (fun x y H Q=>∃a o,y=.ref a∧DGet H a x o∧Q (.bl (!o.isSome)) H):=by
 intro pins s σ H x y v u Q I rx ry h
 obtain ⟨a,o,rfl,g,q⟩:=h
 cases (show u=Value.ref a from ry)
 exact d_notIn hu I g rx fun s' I'=>⟨.bl _,H,I',rfl,q⟩
noncomputable def dInB:D→D→Option Bool
 | x,.lst ds=>if okIn x ds=true then some (inD x ds) else none
 | x,.tup ds=>if okIn x ds=true then some (inD x ds) else none
 | .tup ks,.dt kvs=>(keysOf ks).map fun k=>(valV kvs k).isSome
 | .tup ks,.du kvs=>(keysOf ks).map fun k=>(valV kvs k).isSome
 | x,.dk kvs=>(keyOf x).map fun k=>(valV kvs k).isSome
 | _,_=>none
noncomputable def dIn (x y:D):Option D:=(dInB x y).map .bl
noncomputable def dNotIn (x y:D):Option D:=(dInB x y).map fun b=>.bl (!b)
theorem inB_cases {Hf H:Hp} {x y:V} {d e:D} {b:Bool} (e1:Ext G Hf H) (rx:Rep G Hf d x) (ry:Rep G Hf e y) (h:dInB d e=some b) :
  (∃ds,okIn d ds=true∧(Rep G Hf (.lst ds) y∨Rep G Hf (.tup ds) y)∧b=inD d ds)∨∃a o,y=.ref a∧DGet H a x o∧b=o.isSome:=by
 cases e with
 | lst ds=>
  have h:(if okIn d ds=true then some (inD d ds) else none)=some b:=by cases d <;> exact h
  split at h
  ·rename_i ok;cases h;exact .inl ⟨ds,ok,.inl ry,rfl⟩
  ·cases h
 | tup ds=>
  have h:(if okIn d ds=true then some (inD d ds) else none)=some b:=by cases d <;> exact h
  split at h
  ·rename_i ok;cases h;exact .inl ⟨ds,ok,.inr ry,rfl⟩
  ·cases h
 | dt kvs=>
  obtain ⟨a,o,rfl,na,ha⟩:=Rep.dt_iff.mp ry
  cases d with
  | tup ks=>
   have h:(keysOf ks).map (fun k=>(valV kvs k).isSome)=some b:=h
   cases q:keysOf ks with
   | none=>rw [q] at h;cases h
   | some k=>
    rw [q] at h;cases h
    obtain ⟨c,cs,rfl,nc,hcx,rc⟩:=Rep.tup_iff.mp rx
    have ec:=keysOf_rep q rc
    subst ec
    exact .inr ⟨a,_,rfl,.inr ⟨kvs,k,c,.inr ⟨o,e1 _ _ na ha⟩,rfl,e1 _ _ nc hcx,rfl⟩,rfl⟩
  | _=>cases h
 | du kvs=>
  obtain ⟨a,rfl,na,ha⟩:=Rep.du_iff.mp ry
  cases d with
  | tup ks=>
   have h:(keysOf ks).map (fun k=>(valV kvs k).isSome)=some b:=h
   cases q:keysOf ks with
   | none=>rw [q] at h;cases h
   | some k=>
    rw [q] at h;cases h
    obtain ⟨c,cs,rfl,nc,hcx,rc⟩:=Rep.tup_iff.mp rx
    have ec:=keysOf_rep q rc
    subst ec
    exact .inr ⟨a,_,rfl,DGet.t (e1 _ _ na ha) (e1 _ _ nc hcx),rfl⟩
  | _=>cases h
 | dk kvs=>
  obtain ⟨a,rfl,na,ha⟩:=Rep.dk_iff.mp ry
  have h:(keyOf d).map (fun k=>(valV kvs k).isSome)=some b:=by cases d <;> exact h
  cases q:keyOf d with
  | none=>rw [q] at h;cases h
  | some k=>
   rw [q] at h;cases h
   have ek:=keyOf_rep q rx
   subst ek
   exact .inr ⟨a,_,rfl,DGet.k (e1 _ _ na ha),rfl⟩
 | _=>cases d <;> cases h
theorem opd_in (hu:X.A.units+64<cLine):OpD X G (compareOp .In) dIn:=
 ⟨_,(op_inD (G:=G) hu).or (op_din (by omega)),fun Hf H s x y d e c Q e1 st rx ry q k=>by
  unfold dIn at q
  cases h:dInB d e with
  | none=>rw [h] at q;cases q
  | some b=>
   rw [h] at q;cases q
   have kk:=k (.bl b) Hf H (.refl e1) st (Rep.bl_iff.mpr rfl) (.scal fun z=>z)
   rcases inB_cases e1 rx ry h with ⟨ds,ok,hl,rfl⟩ | ⟨a,o,ey,g,rfl⟩
   ·exact .inl ⟨Hf,d,ds,e1,ok,rx,hl,kk⟩
   ·exact .inr ⟨a,o,ey,g,kk⟩⟩
theorem opd_notIn (hu:X.A.units+64<cLine):OpD X G (compareOp .NotIn) dNotIn:=
 ⟨_,(op_notInD (G:=G) hu).or (op_dnotin (by omega)),fun Hf H s x y d e c Q e1 st rx ry q k=>by
  unfold dNotIn at q
  cases h:dInB d e with
  | none=>rw [h] at q;cases q
  | some b=>
   rw [h] at q;cases q
   have kk:=k (.bl (!b)) Hf H (.refl e1) st (Rep.bl_iff.mpr rfl) (.scal fun z=>z)
   rcases inB_cases e1 rx ry h with ⟨ds,ok,hl,rfl⟩ | ⟨a,o,ey,g,rfl⟩
   ·exact .inl ⟨Hf,d,ds,e1,ok,rx,hl,kk⟩
   ·exact .inr ⟨a,o,ey,g,kk⟩⟩
end
section
variable {X:Cx} {G:Gh} {own ob:List Nat} {fr:Bool} {f:Rho→M D}
noncomputable def tRange1 (ta:TA):TE:=fun σ H Q=>ta σ H fun vs H1=>∃j:Int,vs=[.int j]∧∀p,H1 p=none→Q (.ref p) (upd H1 p (.rng 0 j))
theorem pe_range1 {a:Expr} {ta:TA} {p pos:Pos} (hg:Gl X "range") (hm:X.mg "range" = none) (ha:PA X [a] ta) (hs:starEach [a] X.env=[(false,eval a X.env)]:=by rfl):PE X (.Call (.Name "range" p) [a] [] pos) (tRange1 ta):=by
 intro pins s σ H Q I h
 refine Call_ (ld_blt I hg hm boot_range (PyProof.Rows.callWith_type1 (thn (ha pos pins s σ H _ I h) fun us s1 ⟨vs,H1,I1,r1,q1⟩=>?_) hs rfl))
 obtain ⟨j,e,q⟩:=q1
 subst e
 cases r1 with
 | cons r rr=>
  cases rr
  obtain ⟨t,rfl⟩:=r
  refine call_range_1 ⟨.ref s1.heap.objs.size,upd H1 s1.heap.objs.size (.rng 0 j),I1.laid (t':=s1.toks+1+1) (fun b o e=>Heap.get?_push_of_some _ e) (Nat.le_refl _) ?_,rfl,q _ (I1.hok.fresh (Nat.le_refl _))⟩
  exact ⟨_,_,_,Heap.get?_push_size _ rfl⟩
theorem vals_range:∀(ys:List Value) (lo:Int),(∀(j:Nat) v,ys[j]?=some v→∃t,v=.int (lo+j) t)→Vals ((List.range ys.length).map fun (i:Nat)=>V.int (lo+i)) ys
 | [],lo,_=>.nil
 | y::ys,lo,h=>by
  obtain ⟨t,e⟩:=h 0 y rfl
  rw [List.length_cons,List.range_succ_eq_map,List.map_cons,List.map_map]
  refine .cons ⟨t,by rw [e]⟩ ?_
  have q:=vals_range ys (lo+1) fun j v hv=>by
   obtain ⟨t,e⟩:=h (j+1) v (by simpa using hv)
   exact ⟨t,by rw [e];congr 1;push_cast;omega⟩
  have ee:((fun (i:Nat)=>V.int (lo+i))∘Nat.succ)=fun (i:Nat)=>V.int (lo+1+i):=by
   funext i
   show V.int (lo+(Nat.succ i:Nat))=V.int (lo+1+i)
   congr 1;push_cast;omega
  rw [ee];exact q
theorem call_listRng (hc:X.calm=true):CallR X (.type "list") (fun xs H Q=>∃r j,xs=[.ref r]∧H r=some (.rng 0 j)∧-(2 ^ 62)≤j∧j≤2 ^ 24∧∀l,H l=none→Q (.ref l) (upd H l (.lst ((List.range j.toNat).map fun (i:Nat)=>V.int (0+i))))):=by
 intro pins s σ H xs us Q I r h
 obtain ⟨rr,j,rfl,hr,h1,h2,q⟩:=h
 obtain ⟨u,rfl,ru⟩:=vals1 r
 cases (show u=Value.ref rr from ru)
 obtain ⟨t,u',v',hro⟩:=(show ObjOk X.prog X.w H s.heap rr (.rng 0 j) from I.hok rr _ hr)
 have hn:Builtin.Range.rangeSize 0 j 1=((j.toNat:Nat):Int):=by rw [rangeSize_one];split <;> omega
 refine call_list_range (I.ok.hd hc) (show IsRange s.heap rr 0 j 1 t u' v' from hro) (small_one (by omega) (by omega) h1 (by omega)) hn (by omega) fun h' tk acc' c' hk hS hacc=>?_
 obtain ⟨sz,hit⟩:=hacc
 have rv:=vals_range acc'.toList 0 fun i v hv=>by
  obtain ⟨t,e⟩:=hit i v (by simpa using hv)
  exact ⟨t,by rw [e];simp⟩
 have el:acc'.toList.length=j.toNat:=by simpa using sz
 rw [el] at rv
 refine ⟨.ref s.heap.objs.size,upd H s.heap.objs.size (.lst ((List.range j.toNat).map fun (i:Nat)=>V.int (0+i))),I.laid hk (Nat.le_refl _) ?_,rfl,q _ (I.hok.fresh (Nat.le_refl _))⟩
 refine ⟨?_,acc'.toList,c',rv,?_⟩
 ·rw [List.length_map,List.length_range]
  show j.toNat≤2 ^ 24
  omega
 ·rw [Array.toArray_toList]
  exact hS
noncomputable def dListRange (f:Rho→M D):Rho→M D:=fun ρ=>mbind (f ρ) fun d=>match d with | .int j=>if -(2 ^ 62)≤j∧j≤2 ^ 24 then mret (.lst (dRange 0 j.toNat)) else mfail | _=>mfail
theorem repL_range {Hf:Hp} (lo:Int):∀(l:List Nat),RepL G Hf (l.map fun (i:Nat)=>D.int (lo+i)) (l.map fun (i:Nat)=>V.int (lo+i))
 | []=>RepL.nil_iff.mpr rfl
 | i::l=>RepL.cons (Rep.int_iff.mpr rfl) (repL_range lo l)
theorem pd_listRange {a:Expr} {p1 p2 pos1 pos:Pos} {r1:Bool} (hc:X.calm=true) (hg:Gl X "range") (hm:X.mg "range" = none) (hg2:Gl X "list") (hm2:X.mg "list" = none) (hv2:bootBuiltins "list" = some (.type "list")) (ha:PD X G r1 a f)
  (hs:starEach [a] X.env=[(false,eval a X.env)]:=by rfl)
  (he:starEach [.Call (.Name "range" p1) [a] [] pos1] X.env=(false,eval (.Call (.Name "range" p1) [a] [] pos1) X.env)::starEach [] X.env:=by rfl):PD X G true (.Call (.Name "list" p2) [.Call (.Name "range" p1) [a] [] pos1] [] pos) (dListRange f):=by
 obtain ⟨t,pa,qa⟩:=ha.drop
 refine ⟨_,pe_callTy (call_listRng hc) hg2 hm2 hv2 (pa_cons (pe_range1 hg hm (pa_cons pa pa_nil (by rw [hs];rfl)) hs) pa_nil he) (by decide) (by decide) he rfl,fun σ Hf H ρ s d s' Q e1 e2 e3 e4 k=>?_⟩
 obtain ⟨dj,s1,a1,a2⟩:=mbind_some e4
 cases dj with
 | int j=>
  obtain ⟨c,a3⟩:=mif_some a2
  obtain ⟨rfl,rfl⟩:=mret_some a3
  refine qa σ Hf H ρ s _ _ _ e1 e2 e3 a1 fun v Hf1 H1 g st r=>?_
  rw [Rep.int_iff.mp r]
  refine ⟨j,rfl,fun p hp=>⟨p,j,rfl,upd_same,c.1,c.2,fun l hl=>?_⟩⟩
  have hlp:l≠p:=fun z=>by rw [z,upd_same] at hl;cases hl
  have hl1:H1 l=none:=by rw [upd_ne hlp] at hl;exact hl
  have st2:G.st s' (upd H1 p (.rng 0 j)):=Gh.grow st hp
  have nf:=Gh.nofp st2 hl
  have fp:Hf1 p=none:=by
   cases q:Hf1 p with
   | none=>rfl
   | some o=>rw [g.fh p o (Gh.nofp st hp) q] at hp;cases hp
  have gA:Gr G Hf1 H1 Hf1 (upd H1 p (.rng 0 j)):=⟨fun b o n q=>by rw [upd_ne (ne_of_none q hp)];exact q,.refl _ _,fun b o n q=>by rw [upd_ne (ne_of_none q fp)];exact g.fh b o n q,fun b n h1 h2=>h1⟩
  have gB:=Gr.new (o:=.lst ((List.range j.toNat).map fun (i:Nat)=>V.int (0+i))) gA.fh hl nf
  have rr:RepL G Hf1 (dRange 0 j.toNat) ((List.range j.toNat).map fun (i:Nat)=>V.int (0+i)):=repL_range 0 _
  refine k (.ref l) _ _ ((g.trans gA).trans gB) (Gh.grow st2 hl) (Rep.lst_iff.mpr ⟨l,_,rfl,nf,upd_same,rr.ext gB.ff⟩) fun _=>?_
  exact FreshL.old (g.trans gA).hh (fun a ea _=>by cases ea;exact nf) (FreshL.mk gA.fh hl nf rr)
 | _=>cases a2
noncomputable def sExt (i:Nat) (f:Rho→M D):Rho→M Out:=fun ρ=>mbind (f ρ) fun d=>match d,(ρ[i]?).bind id with
 | .lst es,some (.lst ds)=>if ds.length+es.length≤sizeLine then mret (.nx (ρ.set i (some (.lst (ds++es))))) else mfail
 | _,_=>mfail
theorem ext_yld {i:Nat} {te:TE} {r1:Bool} (hi:i∈own) (hy:YldJ G own r1 te f):Dos G ob own own fr (tDrop (tBM X.K "list" rExtend (tVar i) (tCons te tNil))) (sExt i f):=fun kn Hf0 H0 σ H ρ s out s' E ⟨Hf,j⟩ st e po=>by
 obtain ⟨d,s1,a1,a2⟩:=mbind_some e
 match d,hb:(ρ[i]?).bind id,a2 with
 | .lst es,some (.lst ds),a2=>
  have a2':(if ds.length+es.length≤sizeLine then mret (.nx (ρ.set i (some (.lst (ds++es))))) else mfail) s1=some (out,s'):=a2
  obtain ⟨c2,a3⟩:=mif_some a2'
  obtain ⟨rfl,rfl⟩:=mret_some a3
  have ei:=bind_id hb
  obtain ⟨a,vs,h1,h2,h3,h4⟩:=own_get j hi ei
  refine ⟨_,h1,.inl ⟨rfl,vs,SqL.of h3⟩,?_⟩
  refine hy kn Hf0 H0 σ Hf H ρ s _ s' _ j st a1 fun v Hf' H' j' e1 e2 st' r fz=>?_
  obtain ⟨a',vs',h1',h2',h3',h4'⟩:=own_get j' hi ei
  rw [h1] at h1';cases h1'
  obtain ⟨b,ws,rfl,nb,hb2,rb⟩:=Rep.lst_iff.mp r
  refine ⟨a,b,vs',ws,rfl,rfl,h3',j'.gr.fh _ _ nb hb2,by rw [←h4'.length,←rb.length];exact c2,?_⟩
  exact po σ _ ⟨Hf',j'.put hi ei h1 ⟨vs'++ws,upd_same,h4'.append rb⟩⟩ (Gh.other st' h2)
 | .lst _,none,a2=>cases a2
 | .lst _,some .non,a2=>cases a2
 | .lst _,some (.bl _),a2=>cases a2
 | .lst _,some (.int _),a2=>cases a2
 | .lst _,some (.str _),a2=>cases a2
 | .lst _,some (.tup _),a2=>cases a2
 | .lst _,some (.dk _),a2=>cases a2
 | .lst _,some (.dt _),a2=>cases a2
 | .lst _,some (.du _),a2=>cases a2
 | .lst _,some (.df _),a2=>cases a2
 | .lst _,some .pen,a2=>cases a2
 | .lst _,some (.ty _),a2=>cases a2
 | .lst _,some (.clo _ _),a2=>cases a2
theorem ps_extend {i:Nat} {x:Str} {e:Expr} {pos p1 p2 p3:Pos} {te:TE} (hv:PE X (.Name x p1) (tVar i)) (p:PE X e te)
  (hbase:attributeBase (.Name x p1) "extend" X.env (eval (.Name x p1) X.env)=eval (.Name x p1) X.env:=by rfl)
  (hfew:((backTo p3 (starEach [e] X.env)).all (fun x=>!x.1)&&(backToKw p3 (keywordEach [] X.env)).all (fun x=>x.1.isSome)
   && decide ([e].length+([]:List Keyword).length+(if ([]:List Keyword).isEmpty then 0 else 1)<30))=true:=by rfl)
  (hline:(p2.endLine==p3.line)=true:=by rfl) (hs:starEach [e] X.env=(false,eval e X.env)::starEach [] X.env:=by rfl)
  (hsw:swapsWith (.Call (.Attribute (.Name x p1) "extend" p2) [e] [] p3) none pos.line X.env=pure false:=by rfl) :
  PS X (.Expr (.Call (.Attribute (.Name x p1) "extend" p2) [e] [] p3) pos) (tDrop (tBM X.K "list" rExtend (tVar i) (tCons te tNil))):=
 ps_expr (pe_bm PySem.F.plainAttrs_list PySem.F.slot_list_extend PySem.F.type_list_extend mt_extend hv (pa_cons p pa_nil hs) hbase hfew hline hs rfl) hsw
theorem pds_extA {i:Nat} {e:Expr} {r1:Bool} {st:Stmt} (hi:i∈own) (he:PD X G r1 e f) (hp:∀te,PE X e te→PS X st (tDrop (tBM X.K "list" rExtend (tVar i) (tCons te tNil)))):PDS X G ob own own fr st (sExt i (fun ρ=>f (hide own ρ))):=by
 obtain ⟨t,p,q⟩:=he
 exact ⟨_,hp t p,ext_yld hi (Yld.a q)⟩
end
structure BlkS (X:Cx) (XN:List Str) (NS:List (Str×NameKind)) (N':List Str) (src:List (Option Nat)) (scope:Scope):Prop where
 xn:X.N=XN
 ns:X.env.scope.names=NS
 nocell:∀y∈scope.names,y.2≠.cell
 kind:scope.kind=.function
 names:∀y∈scope.names,y.2=.local→scope.names.lookup y.1=some .local
 len:src.length=N'.length
 free:∀y∈scope.names,y.2=.free→NS.lookup y.1=some .cell∨NS.lookup y.1=some .free
 from_:(src.zip N').all (fun p=>match p.1 with | some j=>decide (XN[j]?=some p.2)&&(decide (NS.lookup p.2=some .cell)||decide (NS.lookup p.2=some .free))&&decide (scope.names.lookup p.2=some .free) | none=>true)=true
theorem lookup_relabel_free {env:Env}:∀{names:List (Str×NameKind)} {x:Str},names.lookup x=some .free→
  (names.map fun (n,k)=>if (k==NameKind.free&&env.scope.kind == .function&&env.kindOf n==some .cell) then (n,NameKind.cell) else (n,k)).lookup x=some .cell∨
  (names.map fun (n,k)=>if (k==NameKind.free&&env.scope.kind == .function&&env.kindOf n==some .cell) then (n,NameKind.cell) else (n,k)).lookup x=some .free
 | [],_,h=>by simp at h
 | (n,k)::r,x,h=>by
  have ih:=@lookup_relabel_free env r x
  show List.lookup x ((if (k==NameKind.free&&env.scope.kind == .function&&env.kindOf n==some .cell)=true then (n,NameKind.cell) else (n,k))::_)=_∨List.lookup x ((if (k==NameKind.free&&env.scope.kind == .function&&env.kindOf n==some .cell)=true then (n,NameKind.cell) else (n,k))::_)=_
  cases hx:x==n with
  | true=>
   simp only [List.lookup_cons,hx] at h
   cases h
   by_cases hc:(NameKind.free==NameKind.free&&env.scope.kind == .function&&env.kindOf n==some .cell)=true
   ·rw [if_pos hc];left;simp [List.lookup_cons,hx]
   ·rw [if_neg hc];right;simp [List.lookup_cons,hx]
  | false=>
   simp only [List.lookup_cons,hx] at h
   by_cases hc:(k==NameKind.free&&env.scope.kind == .function&&env.kindOf n==some .cell)=true
   ·rw [if_pos hc];simp only [List.lookup_cons,hx];exact ih h
   ·rw [if_neg hc];simp only [List.lookup_cons,hx];exact ih h
theorem lookup_relabel_back {env:Env}:∀{names:List (Str×NameKind)} {x:Str} {k':NameKind},(∀y∈names,y.2≠.cell)→(k'=.cell∨k'=.free)→
  (names.map fun (n,k)=>if (k==NameKind.free&&env.scope.kind == .function&&env.kindOf n==some .cell) then (n,NameKind.cell) else (n,k)).lookup x=some k'→names.lookup x=some .free
 | [],_,_,_,_,h=>by simp at h
 | (n,k)::r,x,k',nc,hk,h=>by
  have ih:=@lookup_relabel_back env r x k' (fun y hy=>nc y (List.mem_cons_of_mem _ hy)) hk
  have h:List.lookup x ((if (k==NameKind.free&&env.scope.kind == .function&&env.kindOf n==some .cell)=true then (n,NameKind.cell) else (n,k))::_)=_:=h
  cases hx:x==n with
  | true=>
   by_cases hc:(k==NameKind.free&&env.scope.kind == .function&&env.kindOf n==some .cell)=true
   ·have:k=.free:=by
     simp only [Bool.and_eq_true,beq_iff_eq] at hc
     exact hc.1.1
    subst this
    simp [List.lookup_cons,hx]
   ·rw [if_neg hc] at h
    simp only [List.lookup_cons,hx] at h ⊢
    cases h
    rcases hk with rfl | rfl
    ·exact absurd rfl (nc _ List.mem_cons_self)
    ·rfl
  | false=>
   by_cases hc:(k==NameKind.free&&env.scope.kind == .function&&env.kindOf n==some .cell)=true
   ·rw [if_pos hc] at h;simp only [List.lookup_cons,hx] at h ⊢;exact ih h
   ·rw [if_neg hc] at h;simp only [List.lookup_cons,hx] at h ⊢;exact ih h
theorem closure_loop {env:Env}:∀(names:List (Str×NameKind)) (acc:List (Str×Addr)),(∀y∈names,y.2=.free→∃c,env.cells.lookup y.1=some c)→
  (∀x c,acc.lookup x=some c→env.cells.lookup x=some c)→
  ∃cl,(forIn names acc fun (p:Str×NameKind) (cs:List (Str×Addr))=>(if (p.2==NameKind.free)=true then do let a←cellOf env p.1;pure (ForInStep.yield ((p.1,a)::cs)) else pure (ForInStep.yield cs):Sem (ForInStep (List (Str×Addr)))))=pure cl∧
   (∀x c,cl.lookup x=some c→env.cells.lookup x=some c)∧(∀x c,acc.lookup x=some c→∃c',cl.lookup x=some c')∧∀y∈names,y.2=.free→∃c,cl.lookup y.1=some c
 | [],acc,_,h2=>⟨acc,by simp,h2,fun x c h=>⟨c,h⟩,fun y hy=>by simp at hy⟩
 | (n,k)::r,acc,h1,h2=>by
  by_cases hk:k=.free
  ·subst hk
   obtain ⟨c,hc⟩:=h1 (n,.free) List.mem_cons_self rfl
   have hcell:cellOf env n=pure c:=by unfold cellOf;rw [hc]
   obtain ⟨cl,q1,q2,q3,q4⟩:=closure_loop (env:=env) r ((n,c)::acc) (fun y hy=>h1 y (List.mem_cons_of_mem _ hy)) fun x c' h=>by
    cases hx:x==n with
    | true=>
     simp only [List.lookup_cons,hx] at h
     cases h
     have:x=n:=by simpa using hx
     rw [this];exact hc
    | false=>simp only [List.lookup_cons,hx] at h;exact h2 x c' h
   refine ⟨cl,?_,q2,fun x c' h=>?_,fun y hy hf=>?_⟩
   ·rw [List.forIn_cons]
    simp only [beq_self_eq_true,if_true,hcell,pure_bind]
    exact q1
   ·cases hx:x==n with
    | true=>exact q3 x c (by simp [List.lookup_cons,hx])
    | false=>exact q3 x c' (by simp only [List.lookup_cons,hx];exact h)
   ·rcases List.mem_cons.mp hy with e | hy
    ·subst e;exact q3 n c (by simp [List.lookup_cons])
    ·exact q4 y hy hf
  ·obtain ⟨cl,q1,q2,q3,q4⟩:=closure_loop (env:=env) r acc (fun y hy=>h1 y (List.mem_cons_of_mem _ hy)) h2
   refine ⟨cl,?_,q2,q3,fun y hy hf=>?_⟩
   ·rw [List.forIn_cons]
    have:(k==NameKind.free)=false:=by simpa using hk
    simp only [this,Bool.false_eq_true,if_false,pure_bind]
    exact q1
   ·rcases List.mem_cons.mp hy with e | hy
    ·subst e;exact absurd hf hk
    ·exact q4 y hy hf
theorem BlkS.ok {X:Cx} {XN:List Str} {NS:List (Str×NameKind)} {N':List Str} {src:List (Option Nat)} {scope:Scope} (B:BlkS X XN NS N' src scope) (ok:X.Ok):∃cl,BlkOk X N' src scope cl:=by
 have hcells:∀y∈scope.names,y.2=.free→∃c,X.env.cells.lookup y.1=some c:=fun y hy hf=>ok.has y.1 (by
  have:=B.free y hy hf
  rw [←B.ns] at this
  exact this)
 obtain ⟨cl,q1,q2,q3,q4⟩:=closure_loop (env:=X.env) scope.names [] hcells (fun x c h=>by simp at h)
 refine ⟨cl,?_,B.nocell,B.kind,B.names,B.len,q2,fun x hx=>?_,fun i j x e1 e2=>?_⟩
 ·unfold closureFor
  show (forIn scope.names [] _ >>= _)=_
  rw [show (forIn scope.names ([]:List (Str×Addr)) fun (x:Str×NameKind) (r:List (Str×Addr))=>_)=_ from q1]
  rfl
 ·have hf:scope.names.lookup x=some .free:=by
   rcases hx with h | h
   ·exact lookup_relabel_back B.nocell (.inl rfl) h
   ·exact lookup_relabel_back B.nocell (.inr rfl) h
  exact q4 (x,.free) (PySem.mem_of_lookup hf) rfl
 ·have hm:(some j,x)∈src.zip N':=by
   have:(src.zip N')[i]?=some (some j,x):=by
    rw [List.getElem?_zip_eq_some]
    exact ⟨e1,e2⟩
   exact List.mem_of_getElem? this
  have q:=List.all_eq_true.mp B.from_ _ hm
  simp only [Bool.and_eq_true,Bool.or_eq_true,decide_eq_true_eq] at q
  obtain ⟨⟨p1,p2⟩,p3⟩:=q
  refine ⟨by rw [B.xn];exact p1,?_,lookup_relabel_free p3⟩
  show X.env.scope.names.lookup x=_∨X.env.scope.names.lookup x=_
  rw [B.ns]
  exact p2
section
variable {X:Cx} {G:Gh} {elt tg iter:Expr} {ifs:List Expr} {scope:Scope} {pos pos' spos:Pos} {XN:List Str} {NS:List (Str×NameKind)} {N':List Str} {src:List (Option Nat)} {fi:Rho→M (List D)} {τ:D→Rho→Option Rho} {ft:Rho→M Bool} {fe:Rho→M D} {r1:Bool} {i:Nat} {x:Str}
theorem pd_compS (hc:X.calm=true) (B:BlkS X XN NS N' src scope) (hi:PDI X G tg iter fi)
  (hg:∀cl pins C s H fp,PDG (blk X pins N' scope cl C s H fp) G tg (fun i=>src[i]?=some none) τ) (ht:∀cl pins C s H fp,PIfs (blk X pins N' scope cl C s H fp) ifs (tOfT G ft)) (he:∀cl pins C s H fp,PD (blk X pins N' scope cl C s H fp) G r1 elt fe)
  (hs:∀x,foldedSetIterable iter X.env x=pure x:=by intro _;rfl):PD X G true (.ListComp elt [⟨tg,iter,ifs,0⟩] scope pos) (dComp src fi τ ft fe):=by
 obtain ⟨wi,pi,qi⟩:=hi
 refine ⟨_,fun pins s σ H Q I h=>?_,comp_yld (r1:=r1) qi⟩
 obtain ⟨cl,B'⟩:=B.ok I.ok
 exact pe_comp hc B' pi (fun pins C s H fp=>(hg cl pins C s H fp).canon) (ht cl) (fun pins C s H fp=>(he cl pins C s H fp).canon) hs pins s σ H Q I h
theorem pasg_compS (hN:X.N.Nodup) (hi':X.N[i]?=some x) (hx:Loc X.env.scope x)
  (hc:X.calm=true) (B:BlkS X XN NS N' src scope) (hi:PDI X G tg iter fi)
  (hg:∀cl pins C s H fp,PDG (blk X pins N' scope cl C s H fp) G tg (fun i=>src[i]?=some none) τ) (ht:∀cl pins C s H fp,PIfs (blk X pins N' scope cl C s H fp) ifs (tOfT G ft)) (he:∀cl pins C s H fp,PD (blk X pins N' scope cl C s H fp) G r1 elt fe)
  (hsw:swapsWith (.ListComp elt [⟨tg,iter,ifs,0⟩] scope pos) (some (.Name x pos')) spos.line X.env=pure true:=by rfl)
  (hs:∀x,foldedSetIterable iter X.env x=pure x:=by intro _;rfl)
  (hf:X.fn x=true∨X.env.scope.names.lookup x=some .local:=by first | exact .inl rfl | exact .inr rfl | assumption) :
  PAsg X G true i (.Assign [.Name x pos'] (.ListComp elt [⟨tg,iter,ifs,0⟩] scope pos) spos) (dComp src fi τ ft fe):=by
 obtain ⟨wi,pi,qi⟩:=hi
 refine ⟨_,fun pins s σ H D I h=>?_,comp_yld (r1:=r1) qi⟩
 obtain ⟨cl,B'⟩:=B.ok I.ok
 exact ps_setC hN hi' hx hc B' pi (fun pins C s H fp=>(hg cl pins C s H fp).canon) (ht cl) (fun pins C s H fp=>(he cl pins C s H fp).canon) hsw hs hf pins s σ H D I h
end
noncomputable def Cal (P:Program) (w:World) (K:PySem.W.Frag) (mg:Str→Option Value) (base:Heap) (k:Nat) (x:Str) (n:Nat) (fr:Bool) (GG:Gh→Prop) (F:List D→M D):Prop:=
 ∃f fd ps,FnOk P w K mg base CX0 k f fd ps (spD n fr GG F)∧mg x=some (.ref f)∧PySem.W.keepIn K (.ref f)=true∧Binds K fd ps []
theorem Cal.mono {P:Program} {w:World} {K:PySem.W.Frag} {mg:Str→Option Value} {base:Heap} {j k:Nat} {x:Str} {n:Nat} {fr:Bool} {GG:Gh→Prop} {F:List D→M D} (c:Cal P w K mg base j x n fr GG F) (h:j≤k:=by decide):Cal P w K mg base k x n fr GG F:=
 let ⟨f,fd,ps,a,b,c,d⟩:=c
 ⟨f,fd,ps,a.mono h,b,c,d⟩
theorem pd_cal {X:Cx} {G:Gh} {k:Nat} {x:Str} {n:Nat} {fr:Bool} {GG:Gh→Prop} {F:List D→M D} {p pos:Pos} {e:Expr} {es:List Expr} {fs:Rho→M (List D)} (c:Cal X.prog X.w X.K X.mg X.base k x n fr GG F) (hG:GG G) (hr:Room k X.A) (hg:Gl X x)
  (ha:PDA X G (e::es) fs) (hal:∀ρ s ds s',fs ρ s=some (ds,s')→ds.length=(e::es).length) (hlen:(e::es).length=n:=by rfl)
  (hdb:(x==("__debug__" : Str))=false:=by decide) (he:starEach (e::es) X.env=(false,eval e X.env)::starEach es X.env:=by rfl) (hpl:(backTo pos (starEach es X.env)).any (·.1)=false:=by rfl) :
  PD X G fr (.Call (.Name x p) (e::es) [] pos) (dFn F fs):=by
 obtain ⟨f,fd,ps,a,b,c,d⟩:=c
 exact pd_call a hG hr hg b c d pass0 ha hlen hal hdb he hpl
noncomputable def hidB (h base:Heap) (as:List Addr):Heap:=PySem.W.hideAll h ((List.range h.objs.size).filter fun a=>!((base.get? a).isSome||decide (a∈as)))
theorem hidB_size {h base:Heap} {as:List Addr}:(hidB h base as).objs.size=h.objs.size:=PySem.W.hideAll_size _ _
theorem hidB_get {h base:Heap} {as:List Addr} {b:Addr} {o:Obj} (e:h.get? b=some o) (n:(∃u,base.get? b=some u)∨b∈as):(hidB h base as).get? b=some o:=
 PySem.W.hideAll_get _ e fun hm=>by
  have q:=(List.mem_filter.mp hm).2
  rcases n with ⟨u,n⟩ | n
  ·simp [n] at q
  ·simp [n] at q
theorem of_hidB {h base:Heap} {as:List Addr} {b:Addr} {o:Obj} (e:(hidB h base as).get? b=some o):h.get? b=some o∧((∃u,base.get? b=some u)∨b∈as):=by
 have e':h.get? b=some o:=PySem.W.of_hideAll _ e
 refine ⟨e',?_⟩
 by_cases c:((base.get? b).isSome||decide (b∈as))=true
 ·rcases Bool.or_eq_true_iff.mp c with c | c
  ·exact .inl (Option.isSome_iff_exists.mp c)
  ·exact .inr (of_decide_eq_true c)
 ·have z:(hidB h base as).get? b=none:=PySem.W.hideAll_none _ (List.mem_filter.mpr ⟨List.mem_range.mpr (Heap.lt_size e'),by simpa using c⟩)
  rw [z] at e;cases e
theorem Env0.more {P:Program} {w:World} {K:PySem.W.Frag} {mg:Str→Option Value} {base:Heap} {A:Around} {outer:List Env} {s:Shared} {H:Hp} {as:List Addr} (e:Env0 P w K mg base A outer s H) (ha:∀b∈as,H b=none) (hf:∀b∈as,b∉frs outer) :
  Env0 P w K mg (hidB s.heap base as) A outer s H:=by
 have up:∀b o,base.get? b=some o→(hidB s.heap base as).get? b=some o:=fun b o q=>hidB_get (e.bs b o q).1 (.inl ⟨o,q⟩)
 refine ⟨e.frames,⟨e.mod.kin.keeps up,e.mod.glob.keeps up,let ⟨mb,h1,h2⟩:=e.mod.blt;⟨mb,h1.keeps up,h2⟩,e.mod.nolimit.keeps up⟩,fun b o q=>?_,Nat.le_of_eq hidB_size,?_,e.frf,e.hok,e.bare⟩
 ·obtain ⟨q1,q2⟩:=of_hidB q
  refine ⟨q1,?_⟩
  rcases q2 with ⟨u,q2⟩ | q2
  ·exact (e.bs b u q2).2
  ·exact ha b q2
 ·have all:∀l:List Env,(∀b∈frs l,b∈frs outer)→s.heap.FunFrames base l→s.heap.FunFrames (hidB s.heap base as) l:=by
   intro l
   induction l with
   | nil=>intro _ _;trivial
   | cons env r ih=>
    intro hs hl
    obtain ⟨hk,⟨L,o,hf',hn,ho,hd⟩,hr⟩:=hl
    have hL:L∈frs outer:=hs L (by unfold frs;rw [List.filterMap_cons,hf'];exact List.mem_cons_self)
    refine ⟨hk,⟨L,o,hf',?_,ho,hd⟩,ih (fun b hb=>hs b (by unfold frs;rw [List.filterMap_cons,hf'];exact List.mem_cons_of_mem _ hb)) hr⟩
    cases q:(hidB s.heap base as).get? L with
    | none=>rfl
    | some u=>
     rcases (of_hidB q).2 with ⟨u',q'⟩ | q'
     ·rw [hn] at q';cases q'
     ·exact absurd hL (hf L q')
  exact all outer (fun _ h=>h) e.funs
noncomputable def fnφ (p:Addr) (fd:FuncData):Heap→Prop:=fun h=>∃oc od sl,h.get? p=some ⟨oc,od,.func fd,sl⟩
noncomputable def codeφ (c:Addr) (q:Str):Heap→Prop:=fun h=>h.CodeRec (.ref c) q
theorem fnφ_at {P:Program} {w:World} {H:Hp} {h:Heap} {p:Addr} {fd:FuncData} (ok:HOk P w H h) (e:H p=some (.ext (fnφ p fd))):fnφ p fd h:=(ok p _ e).1
theorem codeφ_at {P:Program} {w:World} {H:Hp} {h:Heap} {c:Addr} {q:Str} (ok:HOk P w H h) (e:H c=some (.ext (codeφ c q))):h.CodeRec (.ref c) q:=(ok c _ e).1
structure CloScope (N ps:List Str) (sc:Scope):Prop where
 kind:sc.kind=.function
 co:sc.isCoroutine=false
 gen:sc.isGenerator=false
 nd:N.Nodup
 pre:N.take ps.length=ps
 par:∀x∈ps,sc.names.lookup x=some .local
 nocell:∀y∈sc.names,y.2≠.cell
noncomputable def cxC (CX:CXT) (P:Program) (w:World) (K:PySem.W.Frag) (mg:Str→Option Value) (base:Heap) (N:List Str) (qual:Str) (scope:Scope) (f:Addr) (cd:Value) (cl:List (Str×Addr)) (A:Around) (outer:List Env) (s:Shared) (H:Hp) (E:XK):Cx where
 prog:=P
 w:=w
 K:=K
 mg:=mg
 base:=base
 A:=A.deeper (PySem.W.envX qual scope s.heap.objs.size f cd cl)
 N:=N
 s₀:=s
 H₀:=H
 env:=PySem.W.envX qual scope s.heap.objs.size f cd cl
 outer:=outer
 stack:=PySem.W.envX qual scope s.heap.objs.size f cd cl::outer
 ex:=[]
 calm:=true
 fn:=fun _=>false
 pn:=[]
 xe:=fun e s'=>wpAny (model P w) (A.deeper (PySem.W.envX qual scope s.heap.objs.size f cd cl)) (leaving (PySem.W.envX qual scope s.heap.objs.size f cd cl) e) (fun _ s''=>CX outer H s E e s'') (fun e' s''=>CX outer H s E e' s'') s'
structure CloAt (base:Heap) (cl:List (Str×Addr)) (sc:Scope) (N ps:List Str) (cvs:List V):Prop where
 inj:∀x y c,cl.lookup x=some c→cl.lookup y=some c→x=y
 cell:∀x c,cl.lookup x=some c→∃v,base.IsCell c v
 has:∀x,sc.names.lookup x=some .free→∃c,cl.lookup x=some c
 cap:∀(i:Nat) (x:Str) (v:V),N[ps.length+i]?=some x→cvs[i]?=some v→sc.names.lookup x=some .free∧∃c u,cl.lookup x=some c∧base.IsCell c (some u)∧RelV v u
 len:N.length=ps.length+cvs.length
theorem lookup_of_nd {α:Type}:∀{l:List (Str×α)} {x:Str} {u:α},(l.map (·.1)).Nodup→(x,u)∈l→l.lookup x=some u
 | [],_,_,_,h=>by simp at h
 | (y,w)::l,x,u,nd,h=>by
  rw [List.map_cons,List.nodup_cons] at nd
  rcases List.mem_cons.mp h with e | hm
  ·cases e;simp [List.lookup_cons]
  ·have hne:(x==y)=false:=by
    simp only [beq_eq_false_iff_ne]
    rintro rfl
    exact nd.1 (List.mem_map_of_mem (f:=(·.1)) hm)
   rw [List.lookup_cons,hne]
   exact lookup_of_nd nd.2 hm
theorem zip_fst_sub:∀(ps:List Str) (us:List Value),((ps.zip us).map (·.1)).Sublist ps
 | [],_=>by simp
 | _::_,[]=>by simp
 | p::ps,u::us=>by simpa using zip_fst_sub ps us
theorem zip_rev_lookup {ps:List Str} {us:List Value} {i:Nat} {x:Str} {u:Value} (nd:ps.Nodup) (h1:ps[i]?=some x) (h2:us[i]?=some u):(ps.zip us).reverse.lookup x=some u:=by
 refine lookup_of_nd ?_ ?_
 ·rw [List.map_reverse]
  refine List.pairwise_reverse.mpr ?_
  exact (nd.sublist (zip_fst_sub _ _)).imp Ne.symm
 ·rw [List.mem_reverse]
  exact List.mem_of_getElem? (i:=i) (List.getElem?_zip_eq_some.mpr ⟨h1,h2⟩)
theorem inv_clo {CX:CXT} {P:Program} {w:World} {K:PySem.W.Frag} {mg:Str→Option Value} {base:Heap} {N ps:List Str} {qual:Str} {scope:Scope} {f:Addr} {cd:Value} {cl:List (Str×Addr)} {A:Around} {outer:List Env} {s:Shared} {H:Hp} {E:XK} {us:List Value} {vs cvs:List V} {h':Heap} {tk:Nat}
  (S:CloScope N ps scope) (C:CloAt base cl scope N ps cvs) (hd:A.handled=none) (e0:Env0 P w K mg base A outer s H) (hl:vs.length=ps.length) (r:Vals vs us)
  (hns:h'.Ns s.heap.objs.size (fun x=>(ps.zip us).reverse.lookup x)) (hk:∀b o,s.heap.get? b=some o→h'.get? b=some o) :
  Inv (cxC CX P w K mg base N qual scope f cd cl A outer s H E) [] (vs.map some++cvs.map some) H { s with heap:=h',toks:=tk }:=by
 have noA:∀b:Addr,b∉(cxC CX P w K mg base N qual scope f cd cl A outer s H E).ex:=fun b z=>absurd (show b∈([]:List Addr) from z) (by simp)
 have up:∀b o,base.get? b=some o→h'.get? b=some o:=fun b o q=>hk b o (e0.bs b o q).1
 have cellAt:∀x c,cl.lookup x=some c→∃v,base.IsCell c v:=C.cell
 refine ⟨⟨e0.mod,S.kind,rfl,rfl,Nat.le_refl _,fun y z c h1 h2=>C.inj y z c h1 h2,fun y hy=>?_,fun y c z _=>(by cases z),fun _=>hd,Around.frames_deeper e0.frames,.inr ⟨rfl,rfl⟩,fun b z=>absurd z (noA b),e0.bs,e0.bsz,fun b _ _=>noA b,fun b z=>absurd z (noA b),e0.funs,e0.frf⟩,
  rfl,e0.bare,Un.kept hk,⟨_,hns,fun i y v h1 h2 h3=>?_⟩,fun y c h=>?_,e0.hok.fresh (Nat.le_refl _),fun y c h=>?_,fun p hp=>absurd (show p∈([]:List (Addr×Obj)) from hp) (by simp),e0.hok.kept hk,?_⟩
 ·have hy:scope.names.lookup y=some .cell∨scope.names.lookup y=some .free:=hy
  rcases hy with hy | hy
  ·exact absurd rfl (S.nocell _ (PySem.mem_of_lookup hy))
  ·exact C.has y hy
 ·have h1:N[i]?=some y:=h1
  by_cases hi:i<vs.length
  ·have ha:vs[i]?=some v:=by
    rw [List.getElem?_append_left (by simpa using hi),List.getElem?_map] at h2
    cases e:vs[i]? with
    | none=>rw [e] at h2;cases h2
    | some a=>rw [e] at h2;cases h2;rfl
   obtain ⟨u,hu,rv⟩:=r.get ha
   have hp:ps[i]?=some y:=by
    rw [←S.pre,List.getElem?_take_of_lt (by omega)];exact h1
   have ndP:ps.Nodup:=by rw [←S.pre];exact S.nd.sublist (List.take_sublist _ _)
   exact ⟨u,rv,.inl ⟨S.par y (List.mem_of_getElem? hp),zip_rev_lookup ndP hp hu⟩⟩
  ·rw [List.getElem?_append_right (by simpa using hi),List.getElem?_map,List.length_map] at h2
   have hc:cvs[i-vs.length]?=some v:=by
    cases e:cvs[i-vs.length]? with
    | none=>rw [e] at h2;cases h2
    | some a=>rw [e] at h2;cases h2;rfl
   obtain ⟨q1,c,u,q2,q3,q4⟩:=C.cap (i-vs.length) y v (by rw [show ps.length+(i-vs.length)=i by omega];exact h1) hc
   exact ⟨u,q4,.inr ⟨.inr q1,c,q2,q3.keeps up⟩⟩
 ·obtain ⟨v,q⟩:=C.cell y c h
  exact ⟨v,q.keeps up⟩
 ·obtain ⟨v,o,q,_⟩:=C.cell y c h
  exact (e0.bs c o q).2
 ·show _=N.length
  rw [C.len];simp [hl]
theorem fn_cloE {CX:CXT} {P:Program} {w:World} {K:PySem.W.Frag} {mg:Str→Option Value} {base:Heap} {k:Nat} {f:Addr} {name qual:Str} {params:Arguments} {body:Expr} {scope:Scope} {cl:List (Str×Addr)} {pm ct:Value} {c':Addr} {N ps:List Str} {cvs:List V} {sp:Sp}
  (S:CloScope N ps scope) (C:CloAt base cl scope N ps cvs) (len:∀vs H Q E,sp vs H Q E→vs.length=ps.length)
  (at_:∀vs H Q E,sp vs H Q E→H f=some (.ext (fnφ f (PySem.W.kla_fn name qual params body scope cl pm (.ref c') ct)))∧H c'=some (.ext (codeφ c' qual)))
  (hbody:∀(A:Around) (outer:List Env) (s:Shared) (H:Hp) (vs:List V) (Q:VK) (E:XK),Room k (A.deeper (PySem.W.envX qual scope s.heap.objs.size f (.ref c') cl))→sp vs H Q E→
   ∃t,PE (cxC CX P w K mg base N qual scope f (.ref c') cl A outer s H E) body t∧t (vs.map some++cvs.map some) H Q) :
  FnOk P w K mg base CX (k+1) f (PySem.W.kla_fn name qual params body scope cl pm (.ref c') ct) ps sp:=by
 refine ⟨len,fun A outer s H args us vs Q E hr e0 hb r hsp=>?_⟩
 have hl:=len _ _ _ _ hsp
 obtain ⟨a1,a2⟩:=at_ _ _ _ _ hsp
 obtain ⟨oc,od,sl,ho⟩:=fnφ_at e0.hok a1
 have lim:s.heap.NoLimit:=e0.mod.nolimit.keeps fun b o e=>(e0.bs b o e).1
 have hkind:∀y∈ps.zip us,scope.names.lookup y.1=some .local:=fun ⟨n,v⟩ hy=>S.par n (List.of_mem_zip hy).1
 refine PySem.W.kla_callFunE hr.depth ho rfl S.co S.gen rfl (codeφ_at e0.hok a2) (hb _ _ _ _ ?_)
 refine wpAny_newFunctionEnv S.nocell hkind (fun h' hns hsb=>?_) S.kind
 have hk:∀b o,s.heap.get? b=some o→h'.get? b=some o:=fun b o e=>hsb.extBut b o (Nat.ne_of_lt (Heap.lt_size e)) (Heap.get?_push_of_some _ e)
 refine ⟨lim.keeps hk,?_⟩
 show codeAny _ _ (.expr body (PySem.W.envX qual scope s.heap.objs.size f (.ref c') cl)) _ _
 obtain ⟨t,ht,hq⟩:=hbody A outer s H vs Q E (hr.deeper _) hsp
 refine PySem.W.kla_codeExpr (wpAny_mono (ht [] _ _ H Q (inv_clo S C hr.hd e0 hl r hns hk) hq) (fun u s' hs=>?_) fun e s' hs=>hs)
 obtain ⟨v,H',J,rv,q⟩:=hs
 exact ⟨v,H',J.os,J.bare,J.base,J.hok,rv,q⟩
theorem fn_cloS {CX:CXT} {P:Program} {w:World} {K:PySem.W.Frag} {mg:Str→Option Value} {base:Heap} {k:Nat} {f:Addr} {name qual:Str} {params:Arguments} {body:List Stmt} {scope:Scope} {cl:List (Str×Addr)} {doc pm ct:Value} {c':Addr} {N ps:List Str} {cvs:List V} {sp:Sp}
  (S:CloScope N ps scope) (C:CloAt base cl scope N ps cvs) (len:∀vs H Q E,sp vs H Q E→vs.length=ps.length)
  (at_:∀vs H Q E,sp vs H Q E→H f=some (.ext (fnφ f (PySem.W.fnX name qual params body scope cl .none .none doc pm none (.ref c') ct)))∧H c'=some (.ext (codeφ c' qual)))
  (hbody:∀(A:Around) (outer:List Env) (s:Shared) (H:Hp) (vs:List V) (Q:VK) (E:XK),Room k (A.deeper (PySem.W.envX qual scope s.heap.objs.size f (.ref c') cl))→sp vs H Q E→
   ∃t,PSs (cxC CX P w K mg base N qual scope f (.ref c') cl A outer s H E) body t∧t { nx:=fun _ H'=>Q .non H',rt:=Q } (vs.map some++cvs.map some) H) :
  FnOk P w K mg base CX (k+1) f (PySem.W.fnX name qual params body scope cl .none .none doc pm none (.ref c') ct) ps sp:=by
 refine ⟨len,fun A outer s H args us vs Q E hr e0 hb r hsp=>?_⟩
 have hl:=len _ _ _ _ hsp
 obtain ⟨a1,a2⟩:=at_ _ _ _ _ hsp
 obtain ⟨oc,od,sl,ho⟩:=fnφ_at e0.hok a1
 have lim:s.heap.NoLimit:=e0.mod.nolimit.keeps fun b o e=>(e0.bs b o e).1
 have hkind:∀y∈ps.zip us,scope.names.lookup y.1=some .local:=fun ⟨n,v⟩ hy=>S.par n (List.of_mem_zip hy).1
 refine codeAny_call_function hr.depth ho rfl S.co S.gen rfl (codeφ_at e0.hok a2) (hb _ _ _ _ ?_)
 refine wpAny_newFunctionEnv S.nocell hkind (fun h' hns hsb=>?_) S.kind
 have hk:∀b o,s.heap.get? b=some o→h'.get? b=some o:=fun b o e=>hsb.extBut b o (Nat.ne_of_lt (Heap.lt_size e)) (Heap.get?_push_of_some _ e)
 refine ⟨lim.keeps hk,?_⟩
 show codeAny _ _ (.func body (PySem.W.envX qual scope s.heap.objs.size f (.ref c') cl)) _ _
 obtain ⟨t,ht,hq⟩:=hbody A outer s H vs Q E (hr.deeper _) hsp
 refine codeAny_func (wpAny_mono (ht [] _ _ H _ (inv_clo S C hr.hd e0 hl r hns hk) hq) (fun fl s' hs=>?_) fun e s' hs=>hs)
 cases fl with
 | ret u=>
  obtain ⟨v,σ',H',J,rv,q⟩:=hs
  exact ⟨v,H',J.os,J.bare,J.base,J.hok,rv,q⟩
 | next=>
  obtain ⟨σ',H',J,q⟩:=hs
  exact ⟨.non,H',J.os,J.bare,J.base,J.hok,rfl,q⟩
 | brk=>
  obtain ⟨_,_,_,q⟩:=hs
  exact False.elim q
 | cont=>
  obtain ⟨_,_,_,q⟩:=hs
  exact False.elim q
structure Mk0 (X:Cx) (c P:Addr):Prop where
 code:X.env.code=.ref c
 hd:PySem.W.CodeHd X.base c P
 bm:∃bm o,X.mg "__builtins__" = some (.ref bm)∧bm≠builtinsNs∧bm≠mainGlobals∧X.base.get? bm=some o∧o.cls=.type "module"∧o.dict=some builtinsNs∧o.data=.plain
noncomputable def Slot (P:Addr) (q:Str) (lpos:Pos) (ps:Array Value) (H Hm:Hp) (c':Addr):Prop:=
 (Hm=H∧codeAmong lpos ps.toList=some (.ref c')∧H c'=some (.ext (codeφ c' q)))∨(codeAmong lpos ps.toList=none∧H c'=none∧c'≠P∧Hm=upd (upd H P (.tbl (ps ++ #[rawInt lpos.line,rawInt lpos.col,.ref c']))) c' (.ext (codeφ c' q)))
noncomputable def MadeQ (P:Addr) (q:Str) (lpos:Pos) (isFd:FuncData→Addr→Prop) (H:Hp) (R:Addr→Addr→FuncData→Hp→Prop):Prop:=
 ∃ps,H P=some (.tbl ps)∧TriplesOk ps.toList∧(∀cv,codeAmong lpos ps.toList=some cv→∃c',cv=.ref c'∧H c'=some (.ext (codeφ c' q)))∧
  ∀p c' fd Hm,isFd fd c'→Slot P q lpos ps H Hm c'→Hm p=none→R p c' fd (upd Hm p (.ext (fnφ p fd)))
section
variable {X:Cx} {pins:List (Addr×Obj)} {σ:St} {H:Hp} {s:Shared} {c P:Addr} {ps:Array Value}
theorem Mk0.bat (M:Mk0 X c P) (I:Inv X pins σ H s) (hP:H P=some (.tbl ps)):s.heap.BuiltinsAt X.mg P:=by
 obtain ⟨bm,o,e1,e2,e3,e4,e5⟩:=M.bm
 refine ⟨bm,o,e1,e2,e3,fun z=>?_,I.bk _ _ e4,e5⟩
 have:=(I.bs _ _ e4).2
 rw [z,hP] at this;cases this
theorem gne (I:Inv X pins σ H s) (hP:H P=some (.tbl ps)):mainGlobals≠P:=fun z=>by
 obtain ⟨o,es,ep,e,_⟩:=I.mod.glob
 have:=(I.bs _ _ e).2
 rw [z,hP] at this;cases this
theorem ext_ok {P0:Program} {w:World} {H':Hp} {h:Heap} {a:Addr} {φ:Heap→Prop} (h1:φ h) (h2:∃o,h.get? a=some o) (h3:∀h1 h2:Heap,φ h1→(∀o,h1.get? a=some o→h2.get? a=some o)→φ h2):ObjOk P0 w H' h a (.ext φ):=⟨h1,h2,h3⟩
theorem fnφ_keep {p:Addr} {fd:FuncData}:∀h1 h2:Heap,fnφ p fd h1→(∀o,h1.get? p=some o→h2.get? p=some o)→fnφ p fd h2:=fun h1 h2 ⟨oc,od,sl,e⟩ k=>⟨oc,od,sl,k _ e⟩
theorem codeφ_keep {p:Addr} {q:Str}:∀h1 h2:Heap,codeφ p q h1→(∀o,h1.get? p=some o→h2.get? p=some o)→codeφ p q h2:=fun h1 h2 ⟨a,o,vs,t,e,e1,r⟩ k=>by
 cases e
 exact ⟨p,o,vs,t,rfl,k _ e1,r⟩
theorem codeφ_there {p:Addr} {q:Str} {h:Heap} (x:codeφ p q h):∃o,h.get? p=some o:=by
 obtain ⟨a,o,vs,t,e,e1,r⟩:=x
 cases e
 exact ⟨o,e1⟩
theorem inv_row {h':Heap} {tk:Nat} {c':Addr} {more:Array Value} {q:Str} (I:Inv X pins σ H s) (hP:H P=some (.tbl ps)) (hx:Heap.ExtBut P s.heap h') (hge:s.heap.objs.size≤c') (hc:h'.CodeRec (.ref c') q) (ht:h'.get? P=some (PySem.W.tabObj (ps++more))) :
  Inv X pins σ (upd (upd H P (.tbl (ps++more))) c' (.ext (codeφ c' q))) { s with heap:=h',toks:=tk }∧H c'=none∧c'≠P:=by
 have hc0:H c'=none:=I.hok.fresh hge
 have hcP:c'≠P:=fun z=>by rw [z,hP] at hc0;cases hc0
 have old:∀{b:Addr} {u:HO},H b=some u→b≠c':=fun e z=>by rw [z,hc0] at e;cases e
 have get:∀{b:Addr} {u:HO},H b=some u→b≠P→upd (upd H P (.tbl (ps++more))) c' (.ext (codeφ c' q)) b=some u:=fun {b u} e n=>by rw [upd_ne (old e),upd_ne n];exact e
 refine ⟨I.call (g':=s.gens) (d':=s.drawn) (ch:=[]) ?_ ?_ I.bare (fun b hb=>absurd hb (by simp)),hc0,hcP⟩
 ·refine ⟨fun b o e n _ _=>hx b o (fun z=>by rw [z,hP] at n;cases n) e,fun b o e n _ _=>⟨o.slots,hx b o (fun z=>by rw [z,hP] at n;cases n) e⟩,fun b o e n _=>?_,fun b o e _=>?_,fun b xs e=>get e (fun z=>by rw [z,hP] at e;cases e),fun b o u e=>get e (fun z=>by rw [z,hP] at e;cases e),fun b ps' e=>?_⟩
  ·rw [upd_ne (Nat.ne_of_lt (Nat.lt_of_lt_of_le (Heap.lt_size e) hge)),upd_ne (fun z=>by rw [z,hP] at n;cases n)];exact n
  ·by_cases hb:b=P
   ·exact ⟨_,hb▸ht⟩
   ·exact ⟨o,hx b o hb e⟩
  ·by_cases hb:b=P
   ·subst hb
    rw [hP] at e;cases e
    exact ⟨more,by rw [upd_ne (old hP),upd_same]⟩
   ·exact ⟨#[],by rw [get e hb];simp⟩
 ·intro a o e
  by_cases ha:a=c'
  ·subst ha
   rw [upd_same] at e;cases e
   exact ext_ok hc (codeφ_there hc) codeφ_keep
  ·rw [upd_ne ha] at e
   by_cases hb:a=P
   ·subst hb
    rw [upd_same] at e;cases e
    exact ht
   ·rw [upd_ne hb] at e
    refine (I.hok a o e).stay (fun b u hb' r=>hx b u ?_ r) (fun b r=>get r (fun z=>by rw [z,hP] at r;cases r)) fun b xs r=>get r (fun z=>by rw [z,hP] at r;cases r)
    rcases hb' with rfl | hb'
    ·exact hb
    ·intro z;rw [z,hP] at hb';cases hb'
structure CloOf (X:Cx) (scope:Scope) (cl:List (Str×Addr)):Prop where
 of:∀x c,cl.lookup x=some c→X.env.cells.lookup x=some c
 has:∀y∈scope.names,y.2=.free→∃c,cl.lookup y.1=some c
theorem clo_get {scope:Scope} (ok:X.Ok) (hfree:∀y∈scope.names,y.2=.free→X.env.kindOf y.1=some .cell∨X.env.kindOf y.1=some .free):∃cl,closureFor scope X.env=pure cl∧CloOf X scope cl:=by
 obtain ⟨cl,q1,q2,q3,q4⟩:=closure_loop (env:=X.env) scope.names [] (fun y hy hf=>ok.has y.1 (hfree y hy hf)) (fun x c h=>by simp at h)
 refine ⟨cl,?_,q2,q4⟩
 unfold closureFor
 show (forIn scope.names [] _ >>= _)=_
 rw [show (forIn scope.names ([]:List (Str×Addr)) fun (x:Str×NameKind) (r:List (Str×Addr))=>_)=_ from q1]
 rfl
theorem pe_lam {params:Arguments} {body:Expr} {scope:Scope} {lpos:Pos} {q:Str} (M:Mk0 X c P) (hq:X.env.qual ++ "<lambda>" = q) (hfree:∀y∈scope.names,y.2=.free→X.env.kindOf y.1=some .cell∨X.env.kindOf y.1=some .free) (hdef:defaultsOf params X.env=([],[]):=by rfl) :
  PE X (.Lambda params body scope lpos) (fun σ H Q=>MadeQ P q lpos (fun fd c'=>∃cl pm ctv,CloOf X scope cl∧fd=PySem.W.kla_fn "<lambda>" q params body scope cl pm (.ref c') ctv) H fun p _ _ H'=>Q (.ref p) H'):=by
 intro pins s σ H Q I ⟨ps,hP,ht,hhit,h⟩
 obtain ⟨cl,hcl,co⟩:=clo_get I.ok hfree
 have hP':s.heap.get? P=some (PySem.W.tabObj ps):=I.hok P _ hP
 have hg:s.heap.Ns mainGlobals X.mg:=I.mod.glob.keeps I.bk
 have hb:=M.bat I hP
 refine PySem.W.kla_eval hdef ?_
 rw [hq]
 cases hc:codeAmong lpos ps.toList with
 | some cv=>
  obtain ⟨c',rfl,hc'⟩:=hhit cv hc
  refine PySem.W.kla_makeFunctionHit hcl I.ok.glob hg M.code (M.hd.keeps I.bk) hP' ht hc hb fun ctv h' tk hk hsz=>?_
  refine ⟨.ref h'.objs.size,upd H h'.objs.size (.ext (fnφ _ _)),I.laid (t':=tk) (fun b u e=>Heap.get?_push_of_some _ (hk b u e)) hsz (ext_ok ⟨_,_,_,Heap.get?_push_size _ rfl⟩ ⟨_,Heap.get?_push_size _ rfl⟩ fnφ_keep),rfl,h _ c' _ H ⟨cl,_,_,co,rfl⟩ (.inl ⟨rfl,hc,hc'⟩) (I.hok.fresh hsz)⟩
 | none=>
  refine PySem.W.kla_makeFunction hcl I.ok.glob hg M.code (M.hd.keeps I.bk) hP' ht hc (gne I hP) hb fun c' ctv h' tk hx hge hlt hrec htb=>?_
  obtain ⟨I1,hc0,hcP⟩:=inv_row (tk:=tk) I hP hx hge hrec htb
  refine ⟨.ref h'.objs.size,upd _ h'.objs.size (.ext (fnφ _ _)),I1.laid (t':=tk) (fun b u e=>Heap.get?_push_of_some _ e) (Nat.le_refl _) (ext_ok ⟨_,_,_,Heap.get?_push_size _ rfl⟩ ⟨_,Heap.get?_push_size _ rfl⟩ fnφ_keep),rfl,h _ c' _ _ ⟨cl,_,_,co,rfl⟩ (.inr ⟨hc,hc0,hcP,rfl⟩) (I1.hok.fresh (Nat.le_refl _))⟩
theorem ps_def {name:Str} {params:Arguments} {body:List Stmt} {scope:Scope} {lpos:Pos} {q:Str} {i:Nat} (M:Mk0 X c P) (hN:X.N.Nodup) (hi:X.N[i]?=some name) (hx:Loc X.env.scope name) (hq:qualnameIn X.env name name=q) (hfree:∀y∈scope.names,y.2=.free→X.env.kindOf y.1=some .cell∨X.env.kindOf y.1=some .free)
  (hd0:params.defaults=[]:=by rfl) (hk0:params.kw_defaults=[]:=by rfl) (ha:annTrees params none X.env=[]:=by rfl)
  (hf:X.fn name=true∨X.env.scope.names.lookup name=some .local:=by first | exact .inl rfl | exact .inr rfl | assumption) :
  PS X (.FunctionDef name params body [] none [] scope none name lpos) (fun D σ H=>MadeQ P q lpos (fun fd c'=>∃cl doc pm ctv,CloOf X scope cl∧fd=PySem.W.fnX name q params body scope cl .none .none doc pm none (.ref c') ctv) H fun p _ _ H'=>D.nx (σ.set i (some (.ref p))) H'):=by
 intro pins s σ H D I ⟨ps,hP,ht,hhit,h⟩
 obtain ⟨cl,hcl,co⟩:=clo_get I.ok hfree
 have hP':s.heap.get? P=some (PySem.W.tabObj ps):=I.hok P _ hP
 have hg:s.heap.Ns mainGlobals X.mg:=I.mod.glob.keeps I.bk
 have hb:=M.bat I hP
 refine PySem.W.nestDef_K hd0 hk0 ha ?_
 rw [hq]
 cases hc:codeAmong lpos ps.toList with
 | some cv=>
  obtain ⟨c',rfl,hc'⟩:=hhit cv hc
  refine PySem.W.makeFunction_hit hcl I.ok.glob hg M.code (M.hd.keeps I.bk) hP' ht hc hb fun ctv doc h' tk hk hsz=>?_
  have I1:=I.laid (t':=tk) (o:=.ext (fnφ h'.objs.size (PySem.W.fnX name q params body scope cl .none .none doc ((X.mg "__name__").getD .none) none (.ref c') ctv))) (h':=h'.push { cls:=.type "function",data:=.func (PySem.W.fnX name q params body scope cl .none .none doc ((X.mg "__name__").getD .none) none (.ref c') ctv) }) (fun b u e=>Heap.get?_push_of_some _ (hk b u e)) hsz (ext_ok ⟨_,_,_,Heap.get?_push_size _ rfl⟩ ⟨_,Heap.get?_push_size _ rfl⟩ fnφ_keep)
  exact store_ok2 I1 hN hi hx (v:=.ref h'.objs.size) rfl (fun s' I' _=>⟨_,_,I',h _ c' _ H ⟨cl,_,_,_,co,rfl⟩ (.inl ⟨rfl,hc,hc'⟩) (I.hok.fresh hsz)⟩) hf
 | none=>
  refine PySem.W.makeFunction_K hcl I.ok.glob hg M.code (M.hd.keeps I.bk) hP' ht hc (gne I hP) hb fun c' ctv doc h' tk hx' hge hlt hrec htb=>?_
  obtain ⟨I1,hc0,hcP⟩:=inv_row (tk:=tk) I hP hx' hge hrec htb
  have I2:=I1.laid (t':=tk) (o:=.ext (fnφ h'.objs.size (PySem.W.fnX name q params body scope cl .none .none doc ((X.mg "__name__").getD .none) none (.ref c') ctv))) (h':=h'.push (PySem.W.fnMade name q params body scope cl doc ((X.mg "__name__").getD .none) c' ctv)) (fun b u e=>Heap.get?_push_of_some _ e) (Nat.le_refl _) (ext_ok ⟨_,_,_,Heap.get?_push_size _ rfl⟩ ⟨_,Heap.get?_push_size _ rfl⟩ fnφ_keep)
  exact store_ok2 I2 hN hi hx (v:=.ref h'.objs.size) rfl (fun s' I' _=>⟨_,_,I',h _ c' _ _ ⟨cl,_,_,_,co,rfl⟩ (.inr ⟨hc,hc0,hcP,rfl⟩) (I1.hok.fresh (Nat.le_refl _))⟩) hf
end
structure Cells (X:Cx) (σ:St) (base':Heap):Prop where
 inj:∀x y c,X.env.cells.lookup x=some c→X.env.cells.lookup y=some c→x=y
 cell:∀x c,X.env.cells.lookup x=some c→∃v,base'.IsCell c v
 has:∀x,(X.env.kindOf x=some .cell∨X.env.kindOf x=some .free)→∃c,X.env.cells.lookup x=some c
 val:∀(i:Nat) (x:Str) (v:V),X.N[i]?=some x→σ[i]?=some (some v)→X.env.kindOf x=some .cell→∃c u,X.env.cells.lookup x=some c∧base'.IsCell c (some u)∧RelV v u
section
variable {X:Cx} {pins:List (Addr×Obj)} {σ:St} {H:Hp} {s:Shared}
noncomputable def celAs (X:Cx):List Addr:=X.env.cells.filterMap fun p=>X.env.cells.lookup p.1
theorem celAs_mem {x:Str} {c:Addr} (e:X.env.cells.lookup x=some c):c∈celAs X:=List.mem_filterMap.mpr ⟨(x,c),PySem.mem_of_lookup e,e⟩
theorem celAs_of {c:Addr} (h:c∈celAs X):∃x,X.env.cells.lookup x=some c:=by
 obtain ⟨p,_,e⟩:=List.mem_filterMap.mp h
 exact ⟨p.1,e⟩
theorem inv_cells (I:Inv X pins σ H s) (hfn:∀x,X.fn x=true):Env0 X.prog X.w X.K X.mg (hidB s.heap X.base (celAs X)) X.A X.stack s H∧Cells X σ (hidB s.heap X.base (celAs X)):=by
 have cellK:∀x c v,X.env.cells.lookup x=some c→s.heap.IsCell c v→(hidB s.heap X.base (celAs X)).IsCell c v:=fun x c v e ⟨o,ho,hd⟩=>⟨o,hidB_get ho (.inr (celAs_mem e)),hd⟩
 refine ⟨Env0.more I.env0 (fun b hb=>?_) fun b hb hf=>?_,⟨I.ok.inj,fun x c e=>?_,I.ok.has,fun i x v h1 h2 h3=>?_⟩⟩
 ·obtain ⟨x,e⟩:=celAs_of hb
  exact I.freeC x b e
 ·obtain ⟨x,e⟩:=celAs_of hb
  rcases List.mem_cons.mp (I.stkSub b hf) with z | z
  ·exact I.cne x b e z
  ·obtain ⟨_,o,ho,_⟩:=I.ok.funs.mem z
   exact absurd (Nat.lt_of_lt_of_le (Heap.lt_size ho) (I.ok.cab x b (hfn x) e)) (Nat.lt_irrefl _)
 ·obtain ⟨v,q⟩:=I.cell x c e
  exact ⟨v,cellK x c v e q⟩
 ·obtain ⟨m,_,hl⟩:=I.loc
  obtain ⟨u,r,l⟩:=hl i x v h1 h2 (.inr (.inl h3))
  rcases l with ⟨hk,_⟩ | ⟨_,c,hc,hcell⟩
  ·rw [h3] at hk;cases hk
  ·exact ⟨c,u,hc,cellK x c _ hc hcell,r⟩
theorem pe_callC {x:Str} {p pos:Pos} {e:Expr} {es:List Expr} {t:TA} {k:Nat} {f:Addr} {fd:FuncData} {ps:List Str} {sp:Heap→Sp} (F:∀base,FnOk X.prog X.w X.K X.mg base CX0 k f fd ps (sp base)) (hfn:∀x,X.fn x=true) (hr:Room k X.A) (hg:Gl X x) (hm:X.mg x=some (.ref f)) (hk:PySem.W.keepIn X.K (.ref f)=true) (hb:Binds X.K fd ps [])
  (ha:PA X (e::es) t) (hdb:(x==("__debug__" : Str))=false:=by decide) (he:starEach (e::es) X.env=(false,eval e X.env)::starEach es X.env:=by rfl) (hpl:(backTo pos (starEach es X.env)).any (·.1)=false:=by rfl) :
  PE X (.Call (.Name x p) (e::es) [] pos) (fun σ H Q=>t σ H fun vs H1=>∀base',Cells X σ base'→sp base' vs H1 Q E0):=by
 intro pins s σ H Q I h
 refine wpAny_Call_Name_kw (ld_glob I hg hm ?_ hdb)
 refine PySem.W.callWith_K (h₀:=X.base) I.ok.mod.kin hk (thn (ha pos pins s σ H _ I h) fun us s1 ⟨vs,H1,I1,r,q⟩=>⟨I1.kIn,?_⟩) he hpl
 obtain ⟨e0,cs⟩:=inv_cells I1 hfn
 have q':=q _ cs
 have hl:(us ++ []).length=ps.length:=by rw [List.append_nil,←r.length];exact (F _).len _ _ _ _ q'
 refine wpAny_call (codeAny_mono ((F _).run X.A X.stack s1 H1 ⟨us,[]⟩ us vs Q E0 hr e0 (by have:=hb s1 us I1.kIn hl;rw [List.append_nil] at this;exact this) r q') fun r s' hq=>?_)
 cases r with
 | error e=>exact hq.elim
 | ok fl=>
  cases fl with
  | ret u=>exact I1.after hq
  | next=>exact False.elim hq
  | brk=>exact False.elim hq
  | cont=>exact False.elim hq
theorem pe_callV {x:Str} {p pos:Pos} {e:Expr} {es:List Expr} {t:TA} {k i:Nat} (hf:PE X (.Name x p) (tVar i)) (hr:Room k X.A) (ha:PA X (e::es) t)
  (he:starEach (e::es) X.env=(false,eval e X.env)::starEach es X.env:=by rfl) (hpl:(backTo pos (starEach es X.env)).any (·.1)=false:=by rfl) :
  PE X (.Call (.Name x p) (e::es) [] pos) (fun σ H Q=>∃f fd ps sp,σ[i]?=some (some (.ref f))∧Binds X.K fd ps []∧FnOk X.prog X.w X.K X.mg X.base CX0 k f fd ps sp∧(∀h:Heap,HOk X.prog X.w H h→X.K.In h→fnφ f fd h)∧
   t σ H fun vs H1=>(∀h:Heap,HOk X.prog X.w H1 h→X.K.In h→fnφ f fd h)∧sp vs H1 Q E0):=by
 intro pins s σ H Q I ⟨f,fd,ps,sp,e,hb,F,h0,h⟩
 refine wpAny_Call_Name_kw (thn (hf pins s σ H (fun v H'=>v=.ref f∧H'=H) I ⟨_,e,rfl,rfl⟩) fun u s1 ⟨v,H1,I1,rv,ev,eH⟩=>?_)
 subst ev eH
 cases (show u=Value.ref f from rv)
 have at1:∀{pins σ H s},Inv X pins σ H s→(∀h:Heap,HOk X.prog X.w H h→X.K.In h→fnφ f fd h)→PySem.W.FnAt f s.heap:=fun I z=>by
  obtain ⟨oc,od,sl,q⟩:=z _ I.hok I.kIn
  exact ⟨oc,od,fd,sl,q⟩
 refine PySem.W.callWith_F (at1 I1 h0) (thn (ha pos pins s1 σ _ _ I1 h) fun us s2 ⟨vs,H2,I2,r,h2,q⟩=>⟨at1 I2 h2,?_⟩) he hpl
 exact run_fn F hr hb .nil pass0 I2 r (by rw [List.append_nil];exact q)
end
mutual
noncomputable def noClo:D→Bool
 | .tup ds=>noClos ds
 | .lst ds=>noClos ds
 | .clo _ _=>false
 | _=>true
noncomputable def noClos:List D→Bool
 | []=>true
 | d::ds=>noClo d&&noClos ds
end
mutual
theorem Rep.re {G G':Gh} {H:Hp} (hf:G'.fp=G.fp) (hp:G'.pen=G.pen):∀{d:D} {v:V},noClo d=true→Rep G H d v→Rep G' H d v
 | .non,_,_,h=>Rep.non_iff.mpr (Rep.non_iff.mp h)
 | .bl _,_,_,h=>Rep.bl_iff.mpr (Rep.bl_iff.mp h)
 | .int _,_,_,h=>Rep.int_iff.mpr (Rep.int_iff.mp h)
 | .str _,_,_,h=>Rep.str_iff.mpr (Rep.str_iff.mp h)
 | .tup ds,v,n,h=>by
  obtain ⟨a,vs,e1,nf,e2,r⟩:=Rep.tup_iff.mp h
  exact Rep.tup_iff.mpr ⟨a,vs,e1,by rw [hf];exact nf,e2,RepL.re hf hp (by simpa [noClo] using n) r⟩
 | .lst ds,v,n,h=>by
  obtain ⟨a,vs,e1,nf,e2,r⟩:=Rep.lst_iff.mp h
  exact Rep.lst_iff.mpr ⟨a,vs,e1,by rw [hf];exact nf,e2,RepL.re hf hp (by simpa [noClo] using n) r⟩
 | .dk _,_,_,h=>by
  obtain ⟨a,e1,nf,e2⟩:=Rep.dk_iff.mp h
  exact Rep.dk_iff.mpr ⟨a,e1,by rw [hf];exact nf,e2⟩
 | .dt _,_,_,h=>by
  obtain ⟨a,o,e1,nf,e2⟩:=Rep.dt_iff.mp h
  exact Rep.dt_iff.mpr ⟨a,o,e1,by rw [hf];exact nf,e2⟩
 | .du _,_,_,h=>by
  obtain ⟨a,e1,nf,e2⟩:=Rep.du_iff.mp h
  exact Rep.du_iff.mpr ⟨a,e1,by rw [hf];exact nf,e2⟩
 | .df _,_,_,h=>by
  obtain ⟨a,o,e1,nf,e2⟩:=Rep.df_iff.mp h
  exact Rep.df_iff.mpr ⟨a,o,e1,by rw [hf];exact nf,e2⟩
 | .pen,_,_,h=>Rep.pen_iff.mpr ((Rep.pen_iff.mp h).trans hp.symm)
 | .ty _,_,_,h=>Rep.ty_iff.mpr (Rep.ty_iff.mp h)
 | .clo _ _,_,n,_=>by simp [noClo] at n
theorem RepL.re {G G':Gh} {H:Hp} (hf:G'.fp=G.fp) (hp:G'.pen=G.pen):∀{ds:List D} {vs:List V},noClos ds=true→RepL G H ds vs→RepL G' H ds vs
 | [],_,_,h=>RepL.nil_iff.mpr (RepL.nil_iff.mp h)
 | d::ds,vs,n,h=>by
  obtain ⟨v,r,e,h1,h2⟩:=RepL.cons_iff.mp h
  have n':noClo d=true∧noClos ds=true:=by simpa [noClos] using n
  exact RepL.cons_iff.mpr ⟨v,r,e,Rep.re hf hp n'.1 h1,RepL.re hf hp n'.2 h2⟩
end
theorem Gr.re {G G':Gh} {Hf H Hf' H':Hp} (hf:G'.fp=G.fp) (g:Gr G Hf H Hf' H'):Gr G' Hf H Hf' H':=
 ⟨fun b o n=>g.hh b o (by rw [←hf];exact n),fun b o n=>g.ff b o (by rw [←hf];exact n),fun b o n=>g.fh b o (by rw [←hf];exact n),fun b n=>g.nw b (by rw [←hf];exact n)⟩
theorem Ext.re {G G':Gh} {H H':Hp} (hf:G'.fp=G.fp) (g:Ext G H H'):Ext G' H H':=fun b o n=>g b o (by rw [←hf];exact n)
theorem FreshL.re {G G':Gh} {H Hf':Hp} {d:D} {v:V} (hf:G'.fp=G.fp) (hp:G'.pen=G.pen) (n:noClo d=true) (h:FreshL G H Hf' d v):FreshL G' H Hf' d v:=fun a e m=>by
 obtain ⟨h1,h2⟩:=h a e m
 refine ⟨h1,fun ds ed=>?_⟩
 obtain ⟨vs,Hm,q1,q2,q3,q4⟩:=h2 ds ed
 subst ed
 exact ⟨vs,Hm,q1,q2,q3.re hf,q4.re hf hp (by simpa [noClo] using n)⟩
noncomputable def spK (n:Nat) (G:Gh) (cvs:List V) (F:List D→M D):Sp:=fun us H Q _=>∃(Hf:Hp) (ds cds:List D) (s:Pn) (d:D) (s':Pn),us.length=n∧Ext G Hf H∧RepL G Hf ds us∧RepL G Hf cds cvs∧G.st s H∧F (ds++cds) s=some (d,s')∧
 ∀v Hf' H',Gr G Hf H Hf' H'→G.st s' H'→Rep G Hf' d v→Q v H'
noncomputable def CloG (P:Program) (w:World) (K:PySem.W.Frag) (mg:Str→Option Value) (k n:Nat) (T:Nat→List D→M D) (base:Heap) (G:Gh):Prop:=
 ∀t v cvs,G.clo t v cvs→∃f fd ps,v=.ref f∧ps.length=n∧Binds K fd ps []∧(∀s H,G.st s H→∀h:Heap,HOk P w H h→K.In h→fnφ f fd h)∧FnOk P w K mg base CX0 k f fd ps (spK n G cvs (T t))
noncomputable def dApp (T:Nat→List D→M D) (i:Nat) (fs:Rho→M (List D)):Rho→M D:=fun ρ=>mbind (dVar i ρ) fun c=>mbind (fs ρ) fun ds=>match c with | .clo t cds=>T t (ds++cds) | _=>mfail
theorem dVar_some {i:Nat} {ρ:Rho} {s s':Pn} {d:D} (h:dVar i ρ s=some (d,s')):ρ[i]?=some (some d)∧s'=s:=by
 obtain ⟨e,rfl⟩:=mOf_some h
 refine ⟨?_,rfl⟩
 cases q:ρ[i]? with
 | none=>rw [q] at e;cases e
 | some o=>rw [q] at e;simp at e;rw [e]
section
variable {X:Cx} {G:Gh}
theorem pd_callV {T:Nat→List D→M D} {k n i:Nat} {x:Str} {p pos:Pos} {e:Expr} {es:List Expr} {fs:Rho→M (List D)} (hG:CloG X.prog X.w X.K X.mg k n T X.base G) (hr:Room k X.A) (hf:PE X (.Name x p) (tVar i)) (ha:PDA X G (e::es) fs)
  (hal:∀ρ s ds s',fs ρ s=some (ds,s')→ds.length=(e::es).length) (hlen:(e::es).length=n:=by rfl)
  (he:starEach (e::es) X.env=(false,eval e X.env)::starEach es X.env:=by rfl) (hpl:(backTo pos (starEach es X.env)).any (·.1)=false:=by rfl) :
  PD X G false (.Call (.Name x p) (e::es) [] pos) (dApp T i fs):=by
 obtain ⟨t,pa,qa⟩:=ha
 refine ⟨_,pe_callV hf hr pa he hpl,fun σ Hf H ρ s d s' Q e1 e2 e3 e4 k=>?_⟩
 obtain ⟨c,s0,b0,b1⟩:=mbind_some e4
 obtain ⟨a0,rfl⟩:=dVar_some b0
 obtain ⟨ds,s1,a1,a2⟩:=mbind_some b1
 cases c with
 | clo t cds=>
  obtain ⟨v,hσ,r⟩:=e2 i _ a0
  obtain ⟨cvs,hc,rc⟩:=Rep.clo_iff.mp r
  obtain ⟨f,fd,ps,rfl,hl,hb,hat,F⟩:=hG t v cvs hc
  refine ⟨f,fd,ps,_,hσ,hb,F,hat _ H e3,qa σ Hf H ρ _ ds s1 _ e1 e2 e3 a1 fun vs Hf1 H1 g1 st1 r1=>⟨hat _ H1 st1,Hf1,ds,cds,s1,d,s',?_,g1.fh,r1,rc.ext g1.ff,st1,a2,fun v Hf2 H2 g2 st2 r2=>k v Hf2 H2 (g1.trans g2) st2 r2 (fun z=>by cases z)⟩⟩
  rw [←r1.length,hal _ _ _ _ a1];exact hlen
 | _=>cases a2
end
noncomputable def runE (n:Nat) (f:Rho→M D):List D→M D:=fun ds=>if ds.length=n then f (ds.map some) else mfail
theorem envR_of {G:Gh} {Hf:Hp} {ds:List D} {vs:List V} (r:RepL G Hf ds vs):EnvR G Hf (vs.map some) (ds.map some):=fun i d e=>by
 rw [List.getElem?_map] at e
 cases q:ds[i]? with
 | none=>rw [q] at e;cases e
 | some d'=>
  rw [q] at e;cases e
  obtain ⟨v,h1,h2⟩:=r.get q
  exact ⟨v,by rw [List.getElem?_map,h1];rfl,h2⟩
theorem fnKE {P:Program} {w:World} {K:PySem.W.Frag} {mg:Str→Option Value} {base:Heap} {k:Nat} {f:Addr} {name qual:Str} {params:Arguments} {body:Expr} {scope:Scope} {cl:List (Str×Addr)} {pm ct:Value} {c':Addr} {N ps:List Str} {cvs:List V} {G:Gh} {fr:Bool} {fe:Rho→M D}
  (S:CloScope N ps scope) (C:CloAt base cl scope N ps cvs) (hG:∀s H,G.st s H→H f=some (.ext (fnφ f (PySem.W.kla_fn name qual params body scope cl pm (.ref c') ct)))∧H c'=some (.ext (codeφ c' qual)))
  (hb:∀(A:Around) (outer:List Env) (s:Shared) (H:Hp) (E:XK),Room k (A.deeper (PySem.W.envX qual scope s.heap.objs.size f (.ref c') cl))→PD (cxC CX0 P w K mg base N qual scope f (.ref c') cl A outer s H E).nox G fr body fe) :
  FnOk P w K mg base CX0 (k+1) f (PySem.W.kla_fn name qual params body scope cl pm (.ref c') ct) ps (spK ps.length G cvs (runE N.length fe)):=by
 refine fn_cloE (cvs:=cvs) S C (fun vs H Q E ⟨_,_,_,_,_,_,h,_⟩=>h) (fun vs H Q E ⟨_,_,_,s,_,_,_,_,_,_,st,_⟩=>hG s H st) fun A outer s H vs Q E hr h=>?_
 obtain ⟨Hf,ds,cds,pn,d,pn',el,e1,r1,r2,st,eF,k'⟩:=h
 obtain ⟨t,p,q⟩:=hb A outer s H E hr
 refine ⟨t,p.nox,?_⟩
 obtain ⟨hl,a0⟩:=mif_some eF
 have env:=envR_of (r1.append r2)
 rw [List.map_append] at env
 exact q _ Hf H _ pn d pn' Q e1 env st a0 fun v Hf' H' g st' r _=>k' v Hf' H' g st' r
theorem fnKS {P:Program} {w:World} {K:PySem.W.Frag} {mg:Str→Option Value} {base:Heap} {k:Nat} {f:Addr} {name qual:Str} {params:Arguments} {body:List Stmt} {scope:Scope} {cl:List (Str×Addr)} {doc pm ct:Value} {c':Addr} {N ps:List Str} {cvs:List V} {G:Gh} {fr:Bool} {g:Rho→M Out}
  (S:CloScope N ps scope) (C:CloAt base cl scope N ps cvs) (hG:∀s H,G.st s H→H f=some (.ext (fnφ f (PySem.W.fnX name qual params body scope cl .none .none doc pm none (.ref c') ct)))∧H c'=some (.ext (codeφ c' qual)))
  (hb:∀(A:Around) (outer:List Env) (s:Shared) (H:Hp) (E:XK),Room k (A.deeper (PySem.W.envX qual scope s.heap.objs.size f (.ref c') cl))→PDSs (cxC CX0 P w K mg base N qual scope f (.ref c') cl A outer s H E).nox G [] [] [] fr body g) :
  FnOk P w K mg base CX0 (k+1) f (PySem.W.fnX name qual params body scope cl .none .none doc pm none (.ref c') ct) ps (spK ps.length G cvs (runB N.length N.length g)):=by
 refine fn_cloS (cvs:=cvs) S C (fun vs H Q E ⟨_,_,_,_,_,_,h,_⟩=>h) (fun vs H Q E ⟨_,_,_,s,_,_,_,_,_,_,st,_⟩=>hG s H st) fun A outer s H vs Q E hr h=>?_
 obtain ⟨Hf,ds,cds,pn,d,pn',el,e1,r1,r2,st,eF,k'⟩:=h
 obtain ⟨t,p,q⟩:=hb A outer s H E hr
 refine ⟨t,p.nox,?_⟩
 obtain ⟨hl,a0⟩:=mif_some eF
 obtain ⟨o,s1,a1,a2⟩:=mbind_some a0
 have env:=envR_of (r1.append r2)
 rw [List.map_append,List.map_append] at env
 rw [Nat.sub_self,List.replicate_zero,List.append_nil,List.map_append] at a1
 have j0:Jf G [] Hf Hf H (vs.map some++cvs.map some) Hf H (ds.map some++cds.map some):=by
  refine ⟨?_,.refl _ _,.refl e1,fun i d n e=>env i d e,fun i d m e=>absurd m (by simp),fun i j a di dj mi mj n e=>absurd mi (by simp)⟩
  simp [r1.length,r2.length]
 refine q Hf Hf H _ H _ pn o s1 _ ⟨Hf,j0⟩ st a1 ?_
 cases o with
 | rt c=>
  obtain ⟨rfl,rfl⟩:=mret_some a2
  exact fun v Hf' H' g' st2 r2 fz=>k' v Hf' H' g' st2 r2
 | nx ρ'=>
  obtain ⟨rfl,rfl⟩:=mret_some a2
  exact fun σ' H' ⟨Hf',j'⟩ st2=>k' .non Hf' H' j'.gr st2 (Rep.non_iff.mpr rfl)
 | bk ρ'=>cases a2
 | ct ρ'=>cases a2
structure TabG (P:Addr) (q:Str) (G:Gh):Prop where
 get:∀s H,G.st s H→∃ps,H P=some (.tbl ps)∧TriplesOk ps.toList∧∀pos cv,codeAmong pos ps.toList=some cv→∃c',cv=.ref c'∧H c'=some (.ext (codeφ c' q))∧¬G.fp c'
 fp:G.fp P
 put:∀s H ps (pos:Pos) c',G.st s H→H P=some (.tbl ps)→H c'=none→codeAmong pos ps.toList=none→G.st s (upd (upd H P (.tbl (ps ++ #[rawInt pos.line,rawInt pos.col,.ref c']))) c' (.ext (codeφ c' q)))
noncomputable def cloG (G:Gh) (t:Nat) (p c':Addr) (fd:FuncData) (q:Str) (cvs:List V):Gh where
 fp:=G.fp
 rd:=G.rd
 pen:=G.pen
 st:=fun s H=>G.st s H∧H p=some (.ext (fnφ p fd))∧H c'=some (.ext (codeφ c' q))
 mono:=fun s H H' ⟨h1,h2,h3⟩ k1 k2=>⟨G.mono s H H' h1 k1 k2,k2 _ _ h2,k2 _ _ h3⟩
 sub:=G.sub
 dom:=fun s H b h=>G.dom s H b h.1
 ntp:=fun s H b vs h=>G.ntp s H b vs h.1
 clo:=fun t' v cs=>t'=t∧v=.ref p∧cs=cvs
noncomputable def CalA (P:Program) (w:World) (K:PySem.W.Frag) (mg:Str→Option Value) (k:Nat) (x:Str) (n:Nat) (fr:Bool) (GG:Heap→Gh→Prop) (F:List D→M D):Prop:=
 ∃f fd ps,(∀base,FnOk P w K mg base CX0 k f fd ps (spD n fr (GG base) F))∧mg x=some (.ref f)∧PySem.W.keepIn K (.ref f)=true∧Binds K fd ps []
theorem CalA.mono {P:Program} {w:World} {K:PySem.W.Frag} {mg:Str→Option Value} {j k:Nat} {x:Str} {n:Nat} {fr:Bool} {GG:Heap→Gh→Prop} {F:List D→M D} (c:CalA P w K mg j x n fr GG F) (h:j≤k:=by decide):CalA P w K mg k x n fr GG F:=
 let ⟨f,fd,ps,a,b,c,d⟩:=c
 ⟨f,fd,ps,fun base=>(a base).mono h,b,c,d⟩
structure CapS (X:Cx) (XN:List Str) (NS:List (Str×NameKind)) (N ps:List Str) (cix:List Nat) (scope:Scope):Prop where
 xn:X.N=XN
 ns:X.env.scope.names=NS
 len:N.length=ps.length+cix.length
 at_:(cix.zip (N.drop ps.length)).all (fun p=>decide (XN[p.1]?=some p.2)&&decide (NS.lookup p.2=some .cell)&&decide (scope.names.lookup p.2=some .free))=true
 free:∀y∈scope.names,y.2=.free→NS.lookup y.1=some .cell∨NS.lookup y.1=some .free
theorem CapS.hfree {X:Cx} {XN:List Str} {NS:List (Str×NameKind)} {N ps:List Str} {cix:List Nat} {scope:Scope} (B:CapS X XN NS N ps cix scope):∀y∈scope.names,y.2=.free→X.env.kindOf y.1=some .cell∨X.env.kindOf y.1=some .free:=fun y hy hf=>by
 have:=B.free y hy hf
 rw [←B.ns] at this
 exact this
theorem CapS.cloAt {X:Cx} {XN:List Str} {NS:List (Str×NameKind)} {N ps:List Str} {cix:List Nat} {scope:Scope} {σ:St} {base':Heap} {cl:List (Str×Addr)} {cvs:List V} (B:CapS X XN NS N ps cix scope) (cs:Cells X σ base') (co:CloOf X scope cl) (hl:cvs.length=cix.length)
  (hv:∀(i j:Nat) (v:V),cix[i]?=some j→cvs[i]?=some v→σ[j]?=some (some v)):CloAt base' cl scope N ps cvs:=by
 refine ⟨fun x y c h1 h2=>cs.inj x y c (co.of x c h1) (co.of y c h2),fun x c h=>cs.cell x c (co.of x c h),fun x h=>co.has (x,.free) (PySem.mem_of_lookup h) rfl,fun i x v h1 h2=>?_,by rw [B.len,hl]⟩
 have hi:i<cix.length:=by rw [←hl];exact (List.getElem?_eq_some_iff.mp h2).1
 have hj:cix[i]?=some cix[i]:=List.getElem?_eq_getElem hi
 have hx:(N.drop ps.length)[i]?=some x:=by rw [List.getElem?_drop];exact h1
 have q:=List.all_eq_true.mp B.at_ (cix[i],x) (List.mem_of_getElem? (i:=i) (List.getElem?_zip_eq_some.mpr ⟨hj,hx⟩))
 simp only [Bool.and_eq_true,decide_eq_true_eq] at q
 obtain ⟨⟨q1,q2⟩,q3⟩:=q
 refine ⟨q3,?_⟩
 obtain ⟨c,u,e1,e2,e3⟩:=cs.val cix[i] x v (by rw [B.xn];exact q1) (hv i _ v hj h2) (by show X.env.scope.names.lookup x=_;rw [B.ns];exact q2)
 obtain ⟨c2,e4⟩:=co.has (x,.free) (PySem.mem_of_lookup q3) rfl
 have e5:=co.of x c2 e4
 rw [e1] at e5;cases e5
 exact ⟨c,u,e4,e2,e3⟩
noncomputable def capsD (ρ:Rho):List Nat→Option (List D)
 | []=>some []
 | i::r=>((ρ[i]?).bind id).bind fun d=>(capsD ρ r).map (d :: ·)
theorem caps_rep {G:Gh} {Hf:Hp} {σ:St} {ρ:Rho} (e:EnvR G Hf σ ρ):∀{cix:List Nat} {cds:List D},capsD ρ cix=some cds→∃cvs,cvs.length=cix.length∧RepL G Hf cds cvs∧∀(i j:Nat) (v:V),cix[i]?=some j→cvs[i]?=some v→σ[j]?=some (some v)
 | [],cds,h=>by cases h;exact ⟨[],rfl,RepL.nil_iff.mpr rfl,fun i j v h1=>by simp at h1⟩
 | a::r,cds,h=>by
  unfold capsD at h
  cases q:(ρ[a]?).bind id with
  | none=>rw [q] at h;cases h
  | some d=>
   rw [q] at h
   cases q2:capsD ρ r with
   | none=>rw [q2] at h;cases h
   | some ds=>
    rw [q2] at h;cases h
    obtain ⟨v,h1,h2⟩:=e a d (by
     cases q3:ρ[a]? with
     | none=>rw [q3] at q;cases q
     | some o=>rw [q3] at q;simp at q;rw [q])
    obtain ⟨cvs,l1,l2,l3⟩:=caps_rep e q2
    refine ⟨v::cvs,by simp [l1],RepL.cons h2 l2,fun i j u e1 e2=>?_⟩
    cases i with
    | zero=>simp at e1 e2;subst e1;subst e2;exact h1
    | succ i=>exact l3 i j u (by simpa using e1) (by simpa using e2)
noncomputable def dFnC (F:List D→M D) (t:Nat) (cix:List Nat) (f:Rho→M D):Rho→M D:=fun ρ=>mbind (f ρ) fun d=>mbind (mOf (capsD ρ cix)) fun cds=>if (noClo d&&noClos cds)=true then mbind (F [d,.clo t cds]) fun c=>if noClo c=true then mret c else mfail else mfail
section
variable {X:Cx} {G:Gh} {P c:Addr} {q:Str}
theorem slot_st {lpos:Pos} {ps:Array Value} {H Hm:Hp} {c':Addr} {s:Pn} (TG:TabG P q G) (st:G.st s H) (hP:H P=some (.tbl ps)) (sl:Slot P q lpos ps H Hm c'):G.st s Hm∧Hm c'=some (.ext (codeφ c' q))∧Ext G H Hm:=by
 rcases sl with ⟨rfl,h1,h2⟩ | ⟨h1,h2,h3,rfl⟩
 ·exact ⟨st,h2,.refl _ _⟩
 ·refine ⟨TG.put s H ps lpos c' st hP h2 h1,upd_same,fun b o n e=>?_⟩
  rw [upd_ne (ne_of_none e h2),upd_ne (fun z=>n (by rw [z];exact TG.fp))]
  exact e
theorem made_gr {Hf H Hm:Hp} {p:Addr} {o:HO} (e1:Ext G Hf H) (ex:Ext G H Hm) (hp:Hm p=none):Gr G Hf H Hf (upd Hm p o):=by
 have hh:Ext G H (upd Hm p o):=fun b u n e=>by
  have:=ex b u n e
  rw [upd_ne (ne_of_none this hp)];exact this
 exact ⟨hh,.refl _ _,e1.trans hh,fun _ _ h _=>h⟩
theorem clo_ok {base':Heap} {k:Nat} {T:Nat→List D→M D} {t:Nat} {p c':Addr} {fd:FuncData} {cvs:List V} {ps:List Str} {F:List D→M D} (hb:Binds X.K fd ps []) (hF:FnOk X.prog X.w X.K X.mg base' CX0 k p fd ps (spK ps.length (cloG G t p c' fd q cvs) cvs F)) (hT:T t=F) :
  CloG X.prog X.w X.K X.mg k ps.length T base' (cloG G t p c' fd q cvs):=by
 rintro t' v cs ⟨rfl,rfl,rfl⟩
 exact ⟨p,fd,ps,rfl,rfl,hb,fun s H st h ok _=>fnφ_at ok st.2.1,by rw [hT];exact hF⟩
variable {k kl:Nat} {x:Str} {fr frb:Bool} {F:List D→M D} {T:Nat→List D→M D} {t:Nat} {e1:Expr} {f1:Rho→M D} {r1:Bool} {params:Arguments} {scope:Scope} {lpos ppos pos:Pos} {XN N ps:List Str} {NS:List (Str×NameKind)} {cix:List Nat}
theorem ofC {t:Nat} {p c':Addr} {fd:FuncData} {cvs:List V} {H:Hp} {d:D} {v:V} (n:noClo d=true) (r:Rep (cloG G t p c' fd q cvs) H d v):Rep G H d v:=Rep.re (G:=cloG G t p c' fd q cvs) (G':=G) rfl rfl n r
theorem toC {t:Nat} {p c':Addr} {fd:FuncData} {cvs:List V} {H:Hp} {d:D} {v:V} (n:noClo d=true) (r:Rep G H d v):Rep (cloG G t p c' fd q cvs) H d v:=Rep.re (G:=G) (G':=cloG G t p c' fd q cvs) rfl rfl n r
theorem toCL {t:Nat} {p c':Addr} {fd:FuncData} {cvs:List V} {H:Hp} {d:List D} {v:List V} (n:noClos d=true) (r:RepL G H d v):RepL (cloG G t p c' fd q cvs) H d v:=RepL.re (G:=G) (G':=cloG G t p c' fd q cvs) rfl rfl n r
theorem grC {t:Nat} {p c':Addr} {fd:FuncData} {cvs:List V} {Hf H Hf' H':Hp} (g:Gr (cloG G t p c' fd q cvs) Hf H Hf' H'):Gr G Hf H Hf' H':=Gr.re (G:=cloG G t p c' fd q cvs) (G':=G) rfl g
theorem frC {t:Nat} {p c':Addr} {fd:FuncData} {cvs:List V} {H Hf':Hp} {d:D} {v:V} (n:noClo d=true) (h:FreshL (cloG G t p c' fd q cvs) H Hf' d v):FreshL G H Hf' d v:=FreshL.re (G:=cloG G t p c' fd q cvs) (G':=G) rfl rfl n h
theorem pd_callLam {body:Expr} {fe:Rho→M D} (M:Mk0 X c P) (TG:TabG P q G) (hW:CalA X.prog X.w X.K X.mg k x 2 fr (CloG X.prog X.w X.K X.mg (kl+1) ps.length T) F) (hfn:∀x,X.fn x=true) (hr:Room k X.A) (hg:Gl X x) (h1:PD X G r1 e1 f1)
  (hq:X.env.qual ++ "<lambda>" = q) (S:CloScope N ps scope) (B:CapS X XN NS N ps cix scope) (hT:T t=runE N.length fe)
  (hbind:∀(cl:List (Str×Addr)) (pm cd ct:Value) (us:List Value),us.length=ps.length→bindArgs (PySem.W.kla_fn "<lambda>" q params body scope cl pm cd ct) ⟨us,[]⟩=pure (ps.zip us))
  (hb:∀(base:Heap) (f c':Addr) (cl:List (Str×Addr)) (G:Gh) (A:Around) (outer:List Env) (s:Shared) (H:Hp) (E:XK),Room kl (A.deeper (PySem.W.envX q scope s.heap.objs.size f (.ref c') cl))→PD (cxC CX0 X.prog X.w X.K X.mg base N q scope f (.ref c') cl A outer s H E).nox G frb body fe)
  (hdef:defaultsOf params X.env=([],[]):=by rfl) (hdb:(x==("__debug__" : Str))=false:=by decide)
  (he:starEach [e1,.Lambda params body scope lpos] X.env=(false,eval e1 X.env)::starEach [.Lambda params body scope lpos] X.env:=by rfl) (he2:starEach [Expr.Lambda params body scope lpos] X.env=(false,eval (.Lambda params body scope lpos) X.env)::starEach [] X.env:=by rfl)
  (hpl:(backTo pos (starEach [Expr.Lambda params body scope lpos] X.env)).any (·.1)=false:=by rfl) :
  PD X G fr (.Call (.Name x ppos) [e1,.Lambda params body scope lpos] [] pos) (dFnC F t cix f1):=by
 obtain ⟨t1,p1,q1⟩:=h1.drop
 obtain ⟨f,fd0,ps0,FN,hm,hk,hbd⟩:=hW
 refine ⟨_,pe_callC FN hfn hr hg hm hk hbd (pa_cons p1 (pa_cons (pe_lam M hq B.hfree hdef) pa_nil he2) he) hdb he hpl,fun σ Hf H ρ s d s' Q x1 x2 x3 x4 k=>?_⟩
 obtain ⟨d1,s1,a1,a2⟩:=mbind_some x4
 obtain ⟨cds,s2,b3,a4⟩:=mbind_some a2
 obtain ⟨a3,rfl⟩:=mOf_some b3
 obtain ⟨hn,a5⟩:=mif_some a4
 obtain ⟨cc,s3,a6,a7⟩:=mbind_some a5
 obtain ⟨hn2,a8⟩:=mif_some a7
 obtain ⟨rfl,rfl⟩:=mret_some a8
 obtain ⟨hn0,hn1⟩:=Bool.and_eq_true_iff.mp hn
 refine q1 σ Hf H ρ s d1 _ _ x1 x2 x3 a1 fun v1 Hf1 H1 g1 st1 rv1=>?_
 obtain ⟨tp,hP,htr,hhit⟩:=TG.get _ H1 st1
 refine ⟨tp,hP,htr,fun cv h=>let ⟨c',z1,z2,_⟩:=hhit lpos cv h;⟨c',z1,z2⟩,fun p c' fd Hm ⟨cl,pm,ctv,co,efd⟩ sl hp=>?_⟩
 subst efd
 obtain ⟨stm,hc',ex⟩:=slot_st TG st1 hP sl
 have gr:=made_gr (o:=.ext (fnφ p (PySem.W.kla_fn "<lambda>" q params body scope cl pm (.ref c') ctv))) g1.fh ex hp
 have hcp:c'≠p:=fun z=>by rw [z,hp] at hc';cases hc'
 obtain ⟨cvs,l1,l2,l3⟩:=caps_rep (x2.ext g1.ff) a3
 intro base' cs
 have C:CloAt base' cl scope N ps cvs:=B.cloAt cs co l1 l3
 refine ⟨cloG G t p c' (PySem.W.kla_fn "<lambda>" q params body scope cl pm (.ref c') ctv) q cvs,Hf1,[d1,.clo t cds],_,d,_,clo_ok (X:=X) (.all (hbind cl pm (.ref c') ctv)) (fnKE S C (fun s H st=>st.2) fun A outer s H E hr=>hb base' p c' cl _ A outer s H E hr) hT,rfl,gr.fh,?_,⟨Gh.grow stm hp,upd_same,by rw [upd_ne hcp];exact hc'⟩,a6,fun v Hf3 H3 g3 st3 r3 fz=>?_⟩
 ·refine .cons (toC hn0 rv1) (.one (Rep.clo_iff.mpr ⟨cvs,⟨rfl,rfl,rfl⟩,toCL hn1 l2⟩))
 ·have g3':Gr G Hf1 _ Hf3 H3:=grC g3
  have gg:=(g1.trans gr).trans g3'
  have rr:Rep G Hf3 d v:=ofC hn2 r3
  refine k v Hf3 H3 gg st3.1 rr fun z=>?_
  exact FreshL.old (g1.hh.trans gr.hh) rr.nofp (frC hn2 (fz z))
end
theorem boot_len:bootBuiltins "len" = some (.builtin "len"):=by decide +kernel
theorem boot_isinstance:bootBuiltins "isinstance" = some (.builtin "isinstance"):=by decide +kernel
theorem boot_all:bootBuiltins "all" = some (.builtin "all"):=by decide +kernel
theorem boot_any:bootBuiltins "any" = some (.builtin "any"):=by decide +kernel
theorem boot_max:bootBuiltins "max" = some (.builtin "max"):=by decide +kernel
theorem boot_min:bootBuiltins "min" = some (.builtin "min"):=by decide +kernel
theorem boot_sorted:bootBuiltins "sorted" = some (.builtin "sorted"):=by decide +kernel
theorem boot_tuple:bootBuiltins "tuple" = some (.type "tuple"):=by decide +kernel
theorem boot_list:bootBuiltins "list" = some (.type "list"):=by decide +kernel
theorem boot_int:bootBuiltins "int" = some (.type "int"):=by decide +kernel
theorem boot_bool:bootBuiltins "bool" = some (.type "bool"):=by decide +kernel
theorem boot_dict:bootBuiltins "dict" = some (.type "dict"):=by decide +kernel
noncomputable abbrev AnyG:Gh→Prop:=fun _=>True
noncomputable def dosOf (G:Gh) (ob own own':List Nat) (fr:Bool) (g:Rho→M Out):TS:=fun E σ H=>∃kn Hf0 H0 ρ s out s',J G own kn Hf0 H0 σ H ρ∧G.st s H∧g ρ s=some (out,s')∧Post G ob own' kn Hf0 H0 fr out s' E
end TF
namespace TF
open PySem L2
noncomputable def Ok {α:Type} (m:M α) (s:Pn) (Q:α→Pn→Prop):Prop:=∃a s',m s=some (a,s')∧Q a s'
theorem Ok.bind {α β:Type} {m:M α} {k:α→M β} {s:Pn} {Q:β→Pn→Prop} (h:Ok m s fun a s1=>Ok (k a) s1 Q):Ok (mbind m k) s Q:=by
 obtain ⟨a,s1,e,b,s2,e2,q⟩:=h
 exact ⟨b,s2,by unfold mbind;rw [e];exact e2,q⟩
theorem Ok.ret {α:Type} {a:α} {s:Pn} {Q:α→Pn→Prop} (h:Q a s):Ok (mret a) s Q:=⟨a,s,rfl,h⟩
theorem Ok.eq {α:Type} {m:M α} {s s':Pn} {a:α} {Q:α→Pn→Prop} (e:m s=some (a,s')) (h:Q a s'):Ok m s Q:=⟨a,s',e,h⟩
theorem Ok.mono {α:Type} {m:M α} {s:Pn} {Q Q':α→Pn→Prop} (h:Ok m s Q) (k:∀a s',Q a s'→Q' a s'):Ok m s Q':=let ⟨a,s',e,q⟩:=h;⟨a,s',e,k a s' q⟩
theorem Ok.of {α:Type} {o:Option α} {a:α} {s:Pn} {Q:α→Pn→Prop} (e:o=some a) (h:Q a s):Ok (mOf o) s Q:=⟨a,s,by unfold mOf;rw [e],h⟩
theorem Ok.ite {α:Type} {c:Prop} [Decidable c] {m:M α} {s:Pn} {Q:α→Pn→Prop} (hc:c) (h:Ok m s Q):Ok (if c then m else mfail) s Q:=by rw [if_pos hc];exact h
section
variable {ρ:Rho} {s:Pn} {Q:Out→Pn→Prop} {f:Rho→M D} {g1 g2:Rho→M Out}
theorem Ok.seq (h:Ok (g1 ρ) s fun o s1=>match o with | .nx ρ'=>Ok (g2 ρ') s1 Q | .rt d=>Q (.rt d) s1 | .bk ρ'=>Q (.bk ρ') s1 | .ct ρ'=>Q (.ct ρ') s1):Ok (sSeq g1 g2 ρ) s Q:=by
 refine Ok.bind (h.mono fun o s1 q=>?_)
 cases o with
 | nx ρ'=>exact q
 | rt d=>exact .ret q
 | bk ρ'=>exact .ret q
 | ct ρ'=>exact .ret q
theorem Ok.next (h:Q (.nx ρ) s):Ok (sNext ρ) s Q:=.ret h
theorem Ok.sset {i:Nat} (h:Ok (f ρ) s fun d s1=>Q (.nx (ρ.set i (some d))) s1):Ok (sSet i f ρ) s Q:=.bind (h.mono fun _ _ q=>.ret q)
theorem Ok.sown {i:Nat} (h:Ok (f ρ) s fun d s1=>isMutB d=true∧Q (.nx (ρ.set i (some d))) s1):Ok (sOwn i f ρ) s Q:=.bind (h.mono fun _ _ q=>.ite q.1 (.ret q.2))
theorem Ok.sret (h:Ok (f ρ) s fun d s1=>Q (.rt d) s1):Ok (sRet f ρ) s Q:=.bind (h.mono fun _ _ q=>.ret q)
theorem Ok.sif {c:Rho→M Bool} (h:Ok (c ρ) s fun b s1=>if b=true then Ok (g1 ρ) s1 Q else Ok (g2 ρ) s1 Q):Ok (sIf c g1 g2 ρ) s Q:=by
 refine .bind (h.mono fun b s1 q=>?_)
 cases b with
 | true=>simpa using q
 | false=>simpa using q
theorem Ok.sapp {i:Nat} {ds:List D} (hi:(ρ[i]?).bind id=some (.lst ds)) (hl:ds.length<sizeLine) (h:Ok (f ρ) s fun d s1=>Q (.nx (ρ.set i (some (.lst (ds ++ [d]))))) s1):Ok (sApp i f ρ) s Q:=by
 refine .bind (h.mono fun d s1 q=>?_)
 simp only [hi]
 exact .ite hl (.ret q)
theorem Ok.sext {i:Nat} {ds:List D} (hi:(ρ[i]?).bind id=some (.lst ds)) (h:Ok (f ρ) s fun d s1=>∃es,d=.lst es∧ds.length+es.length≤sizeLine∧Q (.nx (ρ.set i (some (.lst (ds++es))))) s1):Ok (sExt i f ρ) s Q:=by
 refine .bind (h.mono fun d s1 q=>?_)
 obtain ⟨es,rfl,hl,q⟩:=q
 simp only [hi]
 exact .ite hl (.ret q)
theorem Ok.loop {τ:D→Rho→Option Rho} {body:Rho→M Out} (I:Nat→Rho→Pn→Prop):∀(ds:List D) (k:Nat) (ρ:Rho) (s:Pn),I k ρ s→
  (∀i d ρ s,ds[i]?=some d→I (k+i) ρ s→∃ρ1,τ d ρ=some ρ1∧Ok (body ρ1) s fun o s'=>∃ρ',o=.nx ρ'∧I (k+i+1) ρ' s')→Ok (mFor τ body ds ρ) s fun o s'=>∃ρ',o=.nx ρ'∧I (k+ds.length) ρ' s'
 | [],k,ρ,s,h0,_=>.ret ⟨ρ,rfl,h0⟩
 | d::ds,k,ρ,s,h0,h=>by
  obtain ⟨ρ1,e1,ok⟩:=h 0 d ρ s rfl h0
  refine Ok.bind (.of e1 (.bind (ok.mono fun o s' q=>?_)))
  obtain ⟨ρ',rfl,q⟩:=q
  refine (Ok.loop I ds (k+1) ρ' s' q fun i d' ρ2 s2 e2 q2=>?_).mono fun o s2 q2=>?_
  ·have:=h (i+1) d' ρ2 s2 (by simpa using e2) (by rw [show k+(i+1)=k+1+i by omega];exact q2)
   rw [show k+(i+1)+1=k+1+i+1 by omega] at this
   exact this
  ·rw [show k+(d::ds).length=k+1+ds.length by simp;omega]
   exact q2
theorem Ok.sfor {fi:Rho→M (List D)} {τ:D→Rho→Option Rho} {body:Rho→M Out} (I:Nat→Rho→Pn→Prop) (h:Ok (fi ρ) s fun ds s1=>I 0 ρ s1∧(∀i d ρ s,ds[i]?=some d→I i ρ s→∃ρ1,τ d ρ=some ρ1∧Ok (body ρ1) s fun o s'=>∃ρ',o=.nx ρ'∧I (i+1) ρ' s')∧
  ∀ρ' s',I ds.length ρ' s'→Q (.nx ρ') s'):Ok (sFor fi τ body ρ) s Q:=by
 refine .bind (h.mono fun ds s1 q=>?_)
 obtain ⟨q0,q1,q2⟩:=q
 refine (Ok.loop I ds 0 ρ s1 q0 fun i d ρ s e=>?_).mono fun o s' q=>?_
 ·rw [Nat.zero_add];exact q1 i d ρ s e
 ·obtain ⟨ρ',rfl,q⟩:=q
  rw [Nat.zero_add] at q
  exact q2 ρ' s' q
end
section
variable {ρ ρ':Rho} {s s1 s2:Pn} {f f2:Rho→M D} {g1 g2:Rho→M Out} {d e c:D} {r:Option (Out×Pn)}
theorem runB_eq {n k:Nat} {g:Rho→M Out} {ds:List D} (hl:ds.length=k) (h:g (ds.map some++List.replicate (n-k) none) s=some (.rt d,s1)):runB n k g ds s=some (d,s1):=by
 unfold runB
 rw [if_pos hl]
 unfold mbind
 rw [h]
 rfl
theorem sRet_eq (h:f ρ s=some (d,s1)):sRet f ρ s=some (.rt d,s1):=by unfold sRet mbind;rw [h];rfl
theorem sSeq_rt (h:g1 ρ s=some (.rt d,s1)):sSeq g1 g2 ρ s=some (.rt d,s1):=by unfold sSeq mbind;rw [h];rfl
theorem sSeq_nx (h:g1 ρ s=some (.nx ρ',s1)) (h2:g2 ρ' s1=r):sSeq g1 g2 ρ s=r:=by unfold sSeq mbind;rw [h];exact h2
theorem sSet_eq {i:Nat} (h:f ρ s=some (d,s1)):sSet i f ρ s=some (.nx (ρ.set i (some d)),s1):=by unfold sSet mbind;rw [h];rfl
theorem op_eq' {g:D→D→Option D} (h1:f ρ s=some (d,s1)) (h2:f2 ρ s1=some (e,s2)) (h:g d e=some c):dOp g f f2 ρ s=some (c,s2):=by
 unfold dOp mbind;rw [h1];simp only;rw [h2];simp only;unfold mOf;rw [h]
theorem call_eq {g:List D→Option D} {fs:Rho→M (List D)} {ds:List D} (h1:fs ρ s=some (ds,s1)) (h:g ds=some c):dCall g fs ρ s=some (c,s1):=by
 unfold dCall mbind;rw [h1];simp only;unfold mOf;rw [h]
theorem fn_eq {F:List D→M D} {fs:Rho→M (List D)} {ds:List D} {q:Option (D×Pn)} (h1:fs ρ s=some (ds,s1)) (h:F ds s1=q):dFn F fs ρ s=q:=by
 unfold dFn mbind;rw [h1];exact h
theorem cons_eq {fs:Rho→M (List D)} {ds:List D} (h1:f ρ s=some (d,s1)) (h2:fs ρ s1=some (ds,s2)):dCons f fs ρ s=some (d::ds,s2):=by
 unfold dCons mbind;rw [h1];simp only;rw [h2];rfl
theorem nil_eq:dNil ρ s=some ([],s):=rfl
theorem tup_eq {fs:Rho→M (List D)} {ds:List D} (h1:fs ρ s=some (ds,s1)) (hl:ds.length≤sizeLine):dTup fs ρ s=some (.tup ds,s1):=by
 unfold dTup mbind;rw [h1];simp only;rw [if_pos hl];rfl
theorem lst_eq {fs:Rho→M (List D)} {ds:List D} (h1:fs ρ s=some (ds,s1)) (hl:ds.length≤sizeLine):dLst fs ρ s=some (.lst ds,s1):=by
 unfold dLst mbind;rw [h1];simp only;rw [if_pos hl];rfl
theorem asB_eq {b:Bool} (h:f ρ s=some (.bl b,s1)):asB f ρ s=some (b,s1):=by unfold asB mbind;rw [h];rfl
theorem not_eq' {fb:Rho→M Bool} {b:Bool} (h:fb ρ s=some (b,s1)):bNot fb ρ s=some (!b,s1):=by unfold bNot mbind;rw [h];rfl
end
theorem comp_pure {τ:D→Rho→Option Rho} {ft:Rho→M Bool} {fe:Rho→M D} {ρ:Rho} {s:Pn} (r:D→Rho) (b:D→Bool) (c:D→D):∀(ds:List D),(∀d∈ds,τ d ρ=some (r d)∧ft (r d) s=some (b d,s)∧(b d=true→fe (r d) s=some (c d,s)))→
  mComp τ ft fe ρ ds s=some ((ds.filter b).map c,s)
 | [],_=>rfl
 | d::ds,h=>by
  obtain ⟨h1,h2,h3⟩:=h d (by simp)
  have ih:=comp_pure r b c ds fun d' m=>h d' (by simp [m])
  unfold mComp
  simp only [mbind,mOf,h1,h2]
  cases hb:b d with
  | true=>simp [mbind,h3 hb,ih,hb,mret]
  | false=>simp [ih,hb]
end TF
namespace TP
open PySem L2 TF
noncomputable def g_pairs_of:Rho→M Out:=(sSeq (sOwn 1 (dLst dNil))
 (sSeq (sFor (iRange1 (dCall dLen (dCons (dVar 0) dNil))) (gOne 2)
 (sSeq (sFor (iRange2 (dOp dAdd (dVar 2) (dC (.int 1))) (dCall dLen (dCons (dVar 0) dNil))) (gOne 3)
 (sSeq (sApp 1 (fun ρ=>(dTup (dCons (dOp dIx (dVar 0) (dVar 2)) (dCons (dOp dIx (dVar 0) (dVar 3)) dNil))) (hide [1] ρ)))
 sNext))
 sNext))
 (sSeq (sRet (dVar 1))
 sNext)))
noncomputable def F_pairs_of:List D→M D:=runB 4 1 g_pairs_of
noncomputable def g_are_tied:Rho→M Out:=(sSeq (sRet (dOp dIn (dTup (dCons (dCall dMin2 (dCons (dVar 1) (dCons (dVar 2) dNil))) (dCons (dCall dMax2 (dCons (dVar 1) (dCons (dVar 2) dNil))) dNil))) (dVar 0)))
 sNext)
noncomputable def F_are_tied:List D→M D:=runB 3 3 g_are_tied
noncomputable def g_near:Rho→M Out:=(sSeq (sRet (dComp [none,some 0,some 1] (iRange1 (dOp dIx (dVar 0) (dC (.int 0)))) (gOne 0) (asB (dFn F_are_tied (dCons (dOp dIx (dVar 1) (dC (.int 1))) (dCons (dVar 2) (dCons (dVar 0) dNil))))) (dVar 0)))
 sNext)
noncomputable def F_near:List D→M D:=runB 2 2 g_near
noncomputable def g_marked_ties:Rho→M Out:=(sSeq (sRet (dCall dDictT (dCons (dComp [none] (iSeqT (dOp dIx (dVar 0) (dC (.int 1)))) (gOne 0) bTrue (dTup (dCons (dVar 0) (dCons (dC (.bl true)) dNil)))) dNil)))
 sNext)
noncomputable def F_marked_ties:List D→M D:=runB 1 1 g_marked_ties
noncomputable def g_is_whole:Rho→M Out:=(sSeq (sRet (vAnd (dCall dIsi (dCons (dVar 0) (dCons (dC (.ty "int")) dNil))) (vNot (dCall dIsi (dCons (dVar 0) (dCons (dC (.ty "bool")) dNil))))))
 sNext)
noncomputable def F_is_whole:List D→M D:=runB 1 1 g_is_whole
noncomputable def g_is_place:Rho→M Out:=(sSeq (sRet (vAnd (dFn F_is_whole (dCons (dVar 1) dNil)) (vAnd (dOp dLe (dC (.int 0)) (dVar 1)) (dOp dLt (dVar 1) (dVar 0)))))
 sNext)
noncomputable def F_is_place:List D→M D:=runB 2 2 g_is_place
noncomputable def g_rises:Rho→M Out:=(sSeq (sRet (dCall dAll (dCons (dComp [none,some 0] (iRange1 (dOp dSub (dCall dLen (dCons (dVar 0) dNil)) (dC (.int 1)))) (gOne 0) bTrue (dOp dLt (dOp dIx (dVar 1) (dVar 0)) (dOp dIx (dVar 1) (dOp dAdd (dVar 0) (dC (.int 1)))))) dNil)))
 sNext)
noncomputable def F_rises:List D→M D:=runB 1 1 g_rises
end TP
namespace TP
open PySem L2 TF
local macro_rules | `(tactic| walk_at "ev")=>`(tactic| simp [runB,sSeq,sRet,sSet,sNext,sIf,asB,dOp,dCall,dCons,dNil,dTup,dLst,dVar,dC,dFn,mbind,mret,mOf,dAdd,dSub,dI,hide,blkRho,vOr,vAnd,vNot,bAnd,bOr,bNot])
noncomputable def pairD (p:Nat×Nat):D:=.tup [.int p.1,.int p.2]
noncomputable def webD (n:Nat) (ties:List (Nat×Nat)):D:=.tup [.int n,.tup (ties.map pairD)]
noncomputable def tied (ties:List (Nat×Nat)) (a b:Nat):Bool:=decide ((min a b,max a b)∈ties)
theorem dEq_pair (p q:Nat×Nat):dEq (pairD p) (pairD q)=decide (p=q):=by
 obtain ⟨a,b⟩:=p
 obtain ⟨c,d⟩:=q
 simp only [pairD,dEq,dEqs,Bool.and_true]
 by_cases h1:a=c
 ·by_cases h2:b=d
  ·subst h1 h2;simp
  ·have:((b:Int)==(d:Int))=false:=by simp;omega
   simp [this,h2]
 ·have:((a:Int)==(c:Int))=false:=by simp;omega
  simp [this,h1]
theorem inD_pairs (p:Nat×Nat) (ties:List (Nat×Nat)):inD (pairD p) (ties.map pairD)=decide (p∈ties):=by
 unfold inD
 induction ties with
 | nil=>simp
 | cons t ts ih=>
  rw [List.map_cons,List.any_cons,ih,dEq_pair]
  by_cases h:t=p
  ·subst h;simp
  ·have:¬p=t:=fun z=>h z.symm
   simp [h,this]
theorem plain_pairs:∀ties:List (Nat×Nat),plainDs (ties.map pairD)=true
 | []=>by simp [plainDs]
 | t::ts=>by simp [plainDs,pairD,plainD,plain_pairs ts]
theorem deps_pairs:∀ties:List (Nat×Nat),deps (ties.map pairD)≤1
 | []=>by simp [deps]
 | t::ts=>by
  have:=deps_pairs ts
  simp only [List.map_cons,deps,pairD,dep]
  omega
theorem dep_pair (p:Nat×Nat):dep (pairD p)=1:=by simp [pairD,dep,deps]
theorem plain_pair (p:Nat×Nat):plainD (pairD p)=true:=by simp [pairD,plainD,plainDs]
theorem okIn_pairs (p:Nat×Nat) (ties:List (Nat×Nat)):okIn (pairD p) (ties.map pairD)=true:=by
 have:=deps_pairs ties
 simp [okIn,plain_pair,plain_pairs,dep_pair]
 omega
theorem dIn_pairs (p:Nat×Nat) (ties:List (Nat×Nat)):dIn (pairD p) (.tup (ties.map pairD))=some (.bl (decide (p∈ties))):=by
 have:dInB (pairD p) (.tup (ties.map pairD))=some (decide (p∈ties)):=by
  show (if okIn (pairD p) (ties.map pairD)=true then some (inD (pairD p) (ties.map pairD)) else none)=_
  rw [if_pos (okIn_pairs p ties),inD_pairs]
 unfold dIn
 rw [this]
 rfl
theorem min_eq (a b:Nat):(if (b:Int)<a then (b:Int) else a)=((min a b:Nat):Int):=by split <;> omega
theorem max_eq (a b:Nat):(if (b:Int) > a then (b:Int) else a)=((max a b:Nat):Int):=by split <;> omega
theorem atI_0 {α:Type} (x:α) (xs:List α):atI (x::xs) 0=some x:=atI_nat (j:=0) rfl
theorem atI_1 {α:Type} (x y:α) (xs:List α):atI (x::y::xs) 1=some y:=atI_nat (j:=1) rfl
theorem two_le:2≤sizeLine:=by decide
theorem minmax_tup (a b:Nat):D.tup [.int (if b<a then (b:Int) else a),.int (if a<b then (b:Int) else a)]=pairD (min a b,max a b):=by
 unfold pairD
 congr 2
 ·congr 1;split <;> omega
 ·congr 2;split <;> omega
theorem are_tied_eq (ties:List (Nat×Nat)) (a b:Nat) (s:Pn):F_are_tied [.tup (ties.map pairD),.int a,.int b] s=some (.bl (tied ties a b),s):=by
 simp [F_are_tied,g_are_tied,runB,sSeq,sRet,sNext,dOp,dCall,dCons,dNil,dTup,dVar,mbind,mret,mOf,dMin2,dMax2,two_le,minmax_tup,dIn_pairs,tied]
theorem ev_comp {src:List (Option Nat)} {fi:Rho→M (List D)} {τ:D→Rho→Option Rho} {ft:Rho→M Bool} {fe:Rho→M D} {ρ:Rho} {s:Pn} {ds:List D} (r:D→Rho) (b:D→Bool) (c:D→D) (hi:fi ρ s=some (ds,s)) (hl:ds.length≤sizeLine)
  (h:∀d∈ds,τ d (blkRho src ρ)=some (r d)∧ft (r d) s=some (b d,s)∧(b d=true→fe (r d) s=some (c d,s))):dComp src fi τ ft fe ρ s=some (.lst ((ds.filter b).map c),s):=by
 unfold dComp
 simp only [mbind,hi,hl,if_true,comp_pure r b c ds h,mret]
theorem small_int (n:Nat) (h:n≤100000):-(2 ^ 62)≤(n:Int)∧(n:Int)<2 ^ 62:=by omega
theorem sizeLine_v:sizeLine=16777216:=by decide
theorem ev_range1 {f:Rho→M D} {ρ:Rho} {s:Pn} {n:Nat} (h:f ρ s=some (.int n,s)) (hn:n≤100000):iRange1 f ρ s=some (dRange 0 n,s):=by
 unfold iRange1
 simp only [mbind,h]
 show (if -(2 ^ 62)≤(n:Int)∧(n:Int)<2 ^ 62 then mret (dRange 0 (n:Int).toNat) else mfail) s=_
 rw [if_pos (small_int n hn)]
 rfl
theorem ev_range2 {f g:Rho→M D} {ρ:Rho} {s:Pn} {a n:Nat} (h:f ρ s=some (.int a,s)) (h2:g ρ s=some (.int n,s)) (ha:a≤100000) (hn:n≤100000):iRange2 f g ρ s=some (dRange a (n-a),s):=by
 unfold iRange2
 simp only [mbind,h,h2]
 show (if -(2 ^ 62)≤(a:Int)∧(a:Int)<2 ^ 62∧-(2 ^ 62)≤(n:Int)∧(n:Int)<2 ^ 62 then mret (dRange a ((n:Int)-a).toNat) else mfail) s=_
 rw [if_pos (by omega),show ((n:Int)-(a:Int)).toNat=n-a by omega]
 rfl
theorem dRange_len (lo:Int) (n:Nat):(dRange lo n).length=n:=by simp [dRange]
theorem dRange_get {lo n i:Nat} {d:D} (h:(dRange lo n)[i]?=some d):i<n∧d=.int ((lo+i:Nat):Int):=by
 have hi:i<n:=by
  have:=(List.getElem?_eq_some_iff.mp h).1
  simpa [dRange] using this
 refine ⟨hi,?_⟩
 unfold dRange at h
 rw [List.getElem?_map,List.getElem?_range hi] at h
 simp at h
 rw [←h];simp
theorem dRange_mem {n:Nat} {d:D} (h:d∈dRange 0 n):∃i:Nat,i<n∧d=.int (i:Int):=by
 unfold dRange at h
 obtain ⟨i,hi,e⟩:=List.mem_map.mp h
 exact ⟨i,by simpa using hi,by rw [←e];simp⟩
theorem dRange0 (n:Nat):dRange 0 n=(List.range n).map fun (i:Nat)=>D.int (i:Int):=by
 unfold dRange
 simp
noncomputable def nat0:D→Nat
 | .int i=>i.toNat
 | _=>0
theorem filter_ints (n:Nat) (p:Nat→Bool):((dRange 0 n).filter fun d=>p (nat0 d)).map (fun d=>d)=((List.range n).filter p).map fun (i:Nat)=>D.int (i:Int):=by
 rw [dRange0,List.filter_map]
 simp only [List.map_id']
 congr 1
end TP
namespace TP
open PySem L2 TF
theorem Ok.toEq {α:Type} {m:M α} {s s':Pn} {a:α} (h:Ok m s fun b t=>b=a∧t=s'):m s=some (a,s'):=by
 obtain ⟨b,t,e,rfl,rfl⟩:=h
 exact e
theorem rng_len {n:Nat} (hn:n≤100000):(dRange 0 n).length≤sizeLine:=by rw [dRange_len,sizeLine_v];omega
theorem near_c (n:Nat) (ties:List (Nat×Nat)) (p:Nat) (s:Pn) (hn:n≤100000):dComp [none,some 0,some 1] (iRange1 (dOp dIx (dVar 0) (dC (.int 0)))) (gOne 0) (asB (dFn F_are_tied (dCons (dOp dIx (dVar 1) (dC (.int 1))) (dCons (dVar 2) (dCons (dVar 0) dNil))))) (dVar 0) [some (webD n ties),some (.int p)] s
   = some (.lst (((List.range n).filter fun o=>tied ties p o).map fun (i:Nat)=>D.int (i:Int)),s):=by
 rw [←filter_ints]
 refine ev_comp (ds:=dRange 0 n) (fun d=>[some d,some (webD n ties),some (.int p)]) (fun d=>tied ties p (nat0 d)) (fun d=>d) (ev_range1 (op_eq' (d:=webD n ties) (e:=.int 0) rfl rfl (by unfold webD;exact atI_0 _ _)) hn) (rng_len hn) ?_
 intro d hd
 obtain ⟨i,hi,rfl⟩:=dRange_mem hd
 refine ⟨rfl,asB_eq (fn_eq (cons_eq (op_eq' (d:=webD n ties) (e:=.int 1) rfl rfl (by unfold webD;exact atI_1 _ _ _)) (cons_eq rfl (cons_eq rfl rfl))) ?_),fun _=>rfl⟩
 exact are_tied_eq ties p i s
theorem near_eq (n:Nat) (ties:List (Nat×Nat)) (p:Nat) (s:Pn) (hn:n≤100000):F_near [webD n ties,.int p] s=some (.lst (((List.range n).filter fun o=>tied ties p o).map fun (i:Nat)=>D.int (i:Int)),s):=
 runB_eq rfl (sSeq_rt (sRet_eq (near_c n ties p s hn)))
noncomputable def SeqD (row:D) (ds:List D):Prop:=row=.lst ds∨row=.tup ds
theorem SeqD.len {row:D} {ds:List D} (h:SeqD row ds):dLen [row]=some (.int ds.length):=by
 rcases h with rfl | rfl <;> rfl
theorem SeqD.ix {row:D} {ds:List D} (h:SeqD row ds) {i:Nat} (hi:i<ds.length):dIx row (.int (i:Int))=some (ds.getD i .non):=by
 have e:ds[i]?=some (ds.getD i .non):=by simp [List.getD,hi]
 rcases h with rfl | rfl <;> exact atI_nat e
noncomputable def preP (n i:Nat):List (Nat×Nat):=(List.range i).flatMap fun a=>(List.range (n-(a+1))).map fun k=>(a,a+1+k)
noncomputable def allP (n:Nat):List (Nat×Nat):=preP n n
theorem preP_succ (n i:Nat):preP n (i+1)=preP n i++(List.range (n-(i+1))).map fun k=>(i,i+1+k):=by
 unfold preP
 rw [List.range_succ,List.flatMap_append]
 simp
theorem preP_len (n:Nat):∀i,(preP n i).length≤i*n
 | 0=>by simp [preP]
 | i+1=>by
  have:=preP_len n i
  rw [preP_succ,List.length_append,List.length_map,List.length_range]
  have e:(i+1)*n=i*n+n:=Nat.succ_mul i n
  omega
noncomputable def prD (ds:List D) (p:Nat×Nat):D:=.tup [ds.getD p.1 .non,ds.getD p.2 .non]
theorem app_len (n i j:Nat) (hn:n≤1000) (hi:i<n) (hj:j≤n):(preP n i).length+j<sizeLine:=by
 have h1:=preP_len n i
 have h2:i*n≤1000*1000:=Nat.mul_le_mul (by omega) hn
 rw [sizeLine_v];omega
theorem pairs_of_eq (row:D) (ds:List D) (h:SeqD row ds) (hn:ds.length≤1000) (s:Pn):F_pairs_of [row] s=some (.lst ((allP ds.length).map (prD ds)),s):=by
 refine runB_eq rfl (Ok.toEq ?_)
 refine Ok.seq (.sown (.eq (a:=.lst []) rfl ⟨rfl,?_⟩))
 show Ok _ s _
 refine Ok.seq (.sfor (fun i ρ s'=>s=s'∧∃o2 o3,ρ=[some row,some (.lst ((preP ds.length i).map (prD ds))),o2,o3]) (.eq (ev_range1 (call_eq (cons_eq rfl rfl) h.len) (by omega)) ⟨⟨rfl,none,none,rfl⟩,fun i d ρ s' hd hI=>?_,fun ρ' s' hI=>?_⟩))
 ·obtain ⟨rfl,o2,o3,rfl⟩:=hI
  obtain ⟨hi,rfl⟩:=dRange_get hd
  refine ⟨_,rfl,?_⟩
  refine Ok.seq (.sfor (fun j ρ s'=>s=s'∧∃o3,ρ=[some row,some (.lst ((preP ds.length i).map (prD ds)++(List.range j).map fun k=>prD ds (i,i+1+k))),some (.int ((0+i:Nat):Int)),o3]) (.eq (ev_range2 (a:=i+1) (op_eq' (d:=.int ((0+i:Nat):Int)) (e:=.int 1) (c:=.int ((i+1:Nat):Int)) rfl rfl (by simp [dAdd])) (call_eq (cons_eq rfl rfl) h.len) (by omega) (by omega)) ⟨⟨rfl,o3,by simp⟩,fun j d ρ s' hd hJ=>?_,fun ρ' s' hJ=>?_⟩))
  ·obtain ⟨rfl,o3,rfl⟩:=hJ
   obtain ⟨hj,rfl⟩:=dRange_get hd
   refine ⟨_,rfl,?_⟩
   refine Ok.seq (.sapp (ds:=(preP ds.length i).map (prD ds)++(List.range j).map fun k=>prD ds (i,i+1+k)) rfl (by simp only [List.length_append,List.length_map,List.length_range];exact app_len _ _ _ hn hi (by omega)) (.eq (tup_eq (cons_eq (op_eq' (d:=row) (e:=.int ((0+i:Nat):Int)) rfl rfl (by rw [Nat.zero_add];exact h.ix hi)) (cons_eq (op_eq' (d:=row) (e:=.int ((i+1+j:Nat):Int)) rfl rfl (h.ix (by omega))) rfl)) two_le) ?_))
   refine Ok.next ⟨_,rfl,rfl,some (.int ((i+1+j:Nat):Int)),?_⟩
   rw [List.range_succ,List.map_append,←List.append_assoc]
   rfl
  ·obtain ⟨rfl,o3',rfl⟩:=hJ
   refine Ok.next ⟨_,rfl,rfl,some (.int ((0+i:Nat):Int)),o3',?_⟩
   rw [preP_succ,List.map_append,List.map_map,dRange_len]
   rfl
 ·obtain ⟨rfl,o2,o3,rfl⟩:=hI
  refine Ok.seq (.sret (.eq rfl ⟨?_,rfl⟩))
  rw [dRange_len];rfl
end TP
namespace TP
open PySem L2 TF
noncomputable def keyP (p:Nat×Nat):List Key:=[.inl (p.1:Int),.inl (p.2:Int)]
theorem keyP_inj {p q:Nat×Nat} (h:keyP p=keyP q):p=q:=by
 simp only [keyP,List.cons.injEq,Sum.inl.injEq,and_true] at h
 obtain ⟨a,b⟩:=p
 obtain ⟨c,d⟩:=q
 simp only at h
 have h1:a=c:=by omega
 have h2:b=d:=by omega
 rw [h1,h2]
noncomputable def kvT (acc:List (List Key×V)) (ties:List (Nat×Nat)):List (List Key×V):=ties.foldl (fun acc p=>putK acc (keyP p) (.bl true)) acc
theorem pairT_p (p:Nat×Nat):pairT (.tup [pairD p,.bl true])=some (keyP p,.bl true):=rfl
theorem puts_ties:∀(ties:List (Nat×Nat)) (acc:List (List Key×V)),putsT acc (ties.map fun p=>D.tup [pairD p,.bl true])=some (kvT acc ties)
 | [],acc=>rfl
 | t::ts,acc=>by
  rw [List.map_cons]
  unfold putsT
  rw [pairT_p]
  exact puts_ties ts _
theorem kvT_look (p:Nat×Nat):∀(ties:List (Nat×Nat)) (acc:List (List Key×V)),(valV (kvT acc ties) (keyP p)).isSome=(decide (p∈ties)||(valV acc (keyP p)).isSome)
 | [],acc=>by simp [kvT]
 | t::ts,acc=>by
  have ih:=kvT_look p ts (putK acc (keyP t) (.bl true))
  have e:kvT acc (t::ts)=kvT (putK acc (keyP t) (.bl true)) ts:=rfl
  rw [e,ih,valV_put]
  by_cases h:p=t
  ·subst h;simp
  ·have hk:¬keyP p=keyP t:=fun z=>h (keyP_inj z)
   rw [if_neg hk]
   simp [h]
theorem marked_eq (n:Nat) (ties:List (Nat×Nat)) (s:Pn) (hl:ties.length≤100000):F_marked_ties [webD n ties] s=some (.dt (kvT [] ties),s):=by
 have hc:dComp [none] (iSeqT (dOp dIx (dVar 0) (dC (.int 1)))) (gOne 0) bTrue (dTup (dCons (dVar 0) (dCons (dC (.bl true)) dNil))) [some (webD n ties)] s=some (.lst ((ties.map pairD).map fun d=>D.tup [d,.bl true]),s):=by
  have q:=ev_comp (src:=[none]) (fi:=iSeqT (dOp dIx (dVar 0) (dC (.int 1)))) (τ:=gOne 0) (ft:=bTrue) (fe:=dTup (dCons (dVar 0) (dCons (dC (.bl true)) dNil))) (ρ:=[some (webD n ties)]) (s:=s) (ds:=ties.map pairD) (fun d=>[some d]) (fun _=>true) (fun d=>D.tup [d,.bl true])
   (by unfold iSeqT mbind;rw [op_eq' (d:=webD n ties) (e:=.int 1) (c:=.tup (ties.map pairD)) rfl rfl (by unfold webD;exact atI_1 _ _ _)];rfl) (by rw [List.length_map,sizeLine_v];omega)
   (fun d hd=>⟨rfl,rfl,fun _=>tup_eq (cons_eq rfl (cons_eq rfl rfl)) two_le⟩)
  have q2:(ties.map pairD).filter (fun _=>true)=ties.map pairD:=List.filter_eq_self.mpr (by simp)
  rw [q,q2]
 refine runB_eq rfl (sSeq_rt (sRet_eq (call_eq (cons_eq hc rfl) ?_)))
 rw [List.map_map]
 show (if ((ties.map ((fun d=>D.tup [d,.bl true])∘pairD)).length≤sizeLine) then (putsT [] _).map D.dt else none)=_
 rw [if_pos (by rw [List.length_map,sizeLine_v];omega)]
 have e:=puts_ties ties []
 show (putsT [] (ties.map fun p=>D.tup [pairD p,.bl true])).map D.dt=_
 rw [e];rfl
theorem mem_preP {n i:Nat} {p:Nat×Nat} (h:p∈preP n i):p.1<i∧p.1<p.2∧p.2<n:=by
 unfold preP at h
 obtain ⟨a,ha,h⟩:=List.mem_flatMap.mp h
 obtain ⟨k,hk,rfl⟩:=List.mem_map.mp h
 simp at ha hk
 exact ⟨ha,by simp;omega,by simp;omega⟩
theorem prD_range {n:Nat} {p:Nat×Nat} (h:p∈allP n):prD (dRange 0 n) p=pairD p:=by
 obtain ⟨h1,h2,h3⟩:=mem_preP h
 have g:∀i,i<n→(dRange 0 n).getD i .non=.int (i:Int):=fun i hi=>by
  rw [dRange0]
  simp [List.getD,hi]
 unfold prD pairD
 rw [g _ h1,g _ h3]
theorem pairs_range {n:Nat} (s:Pn) (hn:n≤1000):F_pairs_of [.lst (dRange 0 n)] s=some (.lst ((allP n).map pairD),s):=by
 rw [pairs_of_eq _ _ (.inl rfl) (by rw [dRange_len];exact hn) s,dRange_len]
 congr 3
 exact List.map_congr_left fun p hp=>prD_range hp
theorem listRange_eq {f:Rho→M D} {ρ:Rho} {s:Pn} {n:Nat} (h:f ρ s=some (.int n,s)) (hn:n≤1000):dListRange f ρ s=some (.lst (dRange 0 n),s):=by
 unfold dListRange mbind
 rw [h]
 show (if -(2 ^ 62)≤(n:Int)∧(n:Int)≤2 ^ 24 then mret (D.lst (dRange 0 (n:Int).toNat)) else mfail) s=_
 rw [if_pos (by omega)]
 rfl
theorem allP_len (n:Nat) (hn:n≤1000):(allP n).length≤1000000:=by
 have h1:=preP_len n n
 have h2:n*n≤1000*1000:=Nat.mul_le_mul hn hn
 unfold allP
 omega
theorem filter_pairs (l:List (Nat×Nat)) (b:D→Bool) (q:Nat×Nat→Bool) (h:∀p,b (pairD p)=q p):((l.map pairD).filter b).map (fun d=>d)=(l.filter q).map pairD:=by
 rw [List.filter_map,List.map_id']
 congr 1
 exact List.filter_congr fun p _=>h p
noncomputable def nat2:D→Nat×Nat
 | .tup [a,b]=>(nat0 a,nat0 b)
 | _=>(0,0)
theorem nat2_pair (p:Nat×Nat):nat2 (pairD p)=p:=rfl
end TP
namespace TF
open PySem L2
theorem Ok.runB {n k:Nat} {g:Rho→M Out} {ds:List D} {s:Pn} {Q:D→Pn→Prop} (hl:ds.length=k) (h:Ok (g (ds.map some++List.replicate (n-k) none)) s fun o s'=>match o with | .rt d=>Q d s' | .nx _=>Q .non s' | _=>False):Ok (runB n k g ds) s Q:=by
 unfold TF.runB
 rw [if_pos hl]
 refine .bind (h.mono fun o s' q=>?_)
 cases o with
 | rt d=>exact .ret q
 | nx ρ=>exact .ret q
 | bk ρ=>exact q.elim
 | ct ρ=>exact q.elim
theorem Ok.fn {F:List D→M D} {fs:Rho→M (List D)} {ρ:Rho} {s s1:Pn} {ds:List D} {Q:D→Pn→Prop} (h1:fs ρ s=some (ds,s1)) (h:Ok (F ds) s1 Q):Ok (dFn F fs ρ) s Q:=by
 obtain ⟨a,s',e,q⟩:=h
 exact ⟨a,s',fn_eq h1 e,q⟩
theorem Ok.op {g:D→D→Option D} {f f2:Rho→M D} {ρ:Rho} {s:Pn} {Q:D→Pn→Prop} (h:Ok (f ρ) s fun d s1=>Ok (f2 ρ) s1 fun e s2=>∃c,g d e=some c∧Q c s2):Ok (dOp g f f2 ρ) s Q:=
 .bind (h.mono fun d s1 q=>.bind (q.mono fun e s2 q=>let ⟨c,e1,q⟩:=q;.of e1 q))
theorem Ok.cons {f:Rho→M D} {fs:Rho→M (List D)} {ρ:Rho} {s:Pn} {Q:List D→Pn→Prop} (h:Ok (f ρ) s fun d s1=>Ok (fs ρ) s1 fun ds s2=>Q (d::ds) s2):Ok (dCons f fs ρ) s Q:=
 .bind (h.mono fun d s1 q=>.bind (q.mono fun e s2 q=>.ret q))
theorem Ok.nil {ρ:Rho} {s:Pn} {Q:List D→Pn→Prop} (h:Q [] s):Ok (dNil ρ) s Q:=.ret h
end TF
namespace TP
open PySem L2 TF
theorem mem_allP {n:Nat} {p:Nat×Nat}:p∈allP n↔p.1<p.2∧p.2<n:=by
 constructor
 ·intro h;exact (mem_preP h).2
 ·intro ⟨h1,h2⟩
  unfold allP preP
  refine List.mem_flatMap.mpr ⟨p.1,by simp;omega,List.mem_map.mpr ⟨p.2-(p.1+1),by simp;omega,?_⟩⟩
  obtain ⟨a,b⟩:=p
  simp only at h1 h2 ⊢
  rw [show a+1+(b-(a+1))=b by omega]
theorem dRange_get0 {n i:Nat} {d:D} (h:(dRange 0 n)[i]?=some d):i<n∧d=.int (i:Int):=by
 have:=dRange_get (lo:=0) h
 rw [Nat.zero_add] at this
 exact this
noncomputable def IsWeb (n:Nat) (ties:List (Nat×Nat)):Prop:=ties.Sublist (allP n)
theorem IsWeb.mem {n:Nat} {ties:List (Nat×Nat)} (h:IsWeb n ties) {p:Nat×Nat} (hp:p∈ties):p.1<p.2∧p.2<n:=mem_allP.mp (h.subset hp)
theorem IsWeb.len {n:Nat} {ties:List (Nat×Nat)} (h:IsWeb n ties) (hn:n≤24):ties.length≤576:=by
 have h1:=h.length_le
 have h2:=preP_len n n
 have h3:n*n≤24*24:=Nat.mul_le_mul hn hn
 unfold allP at h1
 omega
theorem IsWeb.filter {n:Nat} (f:Nat×Nat→Bool):IsWeb n ((allP n).filter f):=List.filter_sublist
theorem tied_lt {ties:List (Nat×Nat)} {a b:Nat} (h:a<b):tied ties a b=decide ((a,b)∈ties):=by
 unfold tied
 rw [show min a b=a by omega,show max a b=b by omega]
theorem tied_comm (ties:List (Nat×Nat)) (a b:Nat):tied ties a b=tied ties b a:=by
 unfold tied
 rw [show min a b=min b a by omega,show max a b=max b a by omega]
theorem web0 {n:Nat} {ties:List (Nat×Nat)}:dIx (webD n ties) (.int 0)=some (.int n):=by unfold webD;exact atI_0 _ _
end TP
namespace TP
open PySem L2 TF
theorem sub_len {n i j:Nat} {l:List (Nat×Nat)} (h:l.Sublist (preP n i++(List.range j).map fun k=>(i,i+1+k))) (hn:n≤1000) (hi:i<n) (hj:j≤n):(l.map pairD).length<sizeLine:=by
 have h1:=h.length_le
 rw [List.length_append,List.length_map,List.length_range] at h1
 have h2:=app_len n i j hn hi hj
 rw [List.length_map];omega
end TP
namespace HT
open PySem PySem.Spec PyProof.Rows
section
variable {prog:Program} {w:World} {A:Around} {E:Value→Shared→Prop} {s:Shared}
end
end HT
namespace TF
open PySem PySem.Spec PyProof.Rows L2
section
variable {X:Cx} {G:Gh}
noncomputable def sUnp (τ:D→Rho→Option Rho) (f:Rho→M D):Rho→M Out:=fun ρ=>mbind (f ρ) fun d=>match τ d ρ with | some ρ'=>mret (.nx ρ') | none=>mfail
theorem pds_unp {ob own:List Nat} {fr r1:Bool} {tg e:Expr} {pos:Pos} {τ:D→Rho→Option Rho} {f:Rho→M D} (he:PD X G r1 e f) (hg:PDG X G tg (fun i=>i∉own) τ) (hs:swapsWithSole [tg] e pos.line X.env=pure false:=by rfl) (hw:swappedStores [tg] e X.env=pure none:=by rfl)
  (h1:(assignEach [tg] X.env).map (·.2)=[assign tg X.env]:=by rfl):PDS X G ob own own fr (.Assign [tg] e pos) (sUnp τ (fun ρ=>f (hide own ρ))):=by
 obtain ⟨t,p,q⟩:=he
 obtain ⟨g,pg,qg⟩:=hg
 have hy:Yld G r1 t f:=q
 refine ⟨_,ps_asg p pg hs hw h1,fun kn Hf0 H0 σ H ρ s out s' E ⟨Hf,j⟩ st e po=>?_⟩
 obtain ⟨d,s1,a1,a2⟩:=mbind_some e
 refine hy.a kn Hf0 H0 σ Hf H ρ s d s1 _ j st a1 fun v Hf' H' j' e1 e2 st' r fz=>?_
 cases eq:τ d ρ with
 | none=>rw [eq] at a2;cases a2
 | some ρ'=>
  rw [eq] at a2
  obtain ⟨rfl,rfl⟩:=mret_some a2
  exact qg v σ Hf' H' d ρ ρ' _ j'.gr.fh r eq fun σ' hs'=>po σ' H' ⟨Hf',hs'.jf j'⟩ st'
theorem pds_unp0 {ob:List Nat} {fr r1:Bool} {tg e:Expr} {pos:Pos} {τ:D→Rho→Option Rho} {f:Rho→M D} (he:PD X G r1 e f) (hg:PDG X G tg (fun i=>i∉([]:List Nat)) τ) (hs:swapsWithSole [tg] e pos.line X.env=pure false:=by rfl) (hw:swappedStores [tg] e X.env=pure none:=by rfl)
  (h1:(assignEach [tg] X.env).map (·.2)=[assign tg X.env]:=by rfl):PDS X G ob [] [] fr (.Assign [tg] e pos) (sUnp τ f):=by
 have h:=pds_unp (ob:=ob) (fr:=fr) he hg hs hw h1
 have e:(fun ρ=>f (hide [] ρ))=f:=by funext ρ;rw [hide_nil]
 rw [e] at h
 exact h
theorem Cal.none {P:Program} {w:World} {K:PySem.W.Frag} {mg:Str→Option Value} {base:Heap} {k:Nat} {x:Str} {n:Nat} {fr:Bool} {GG:Gh→Prop} {f:Addr} {fd:FuncData} {ps:List Str} (hm:mg x=some (.ref f)) (hk:PySem.W.keepIn K (.ref f)=true) (hb:Binds K fd ps []) :
  Cal P w K mg base k x n fr GG (fun _=>mfail):=by
 refine ⟨f,fd,ps,⟨fun vs H Q E h=>?_,fun A outer s H args us vs Q E _ _ _ _ h=>?_⟩,hm,hk,hb⟩
 ·obtain ⟨G,Hf,ds,s,d,s',_,_,_,_,_,h,_⟩:=h
  cases h
 ·obtain ⟨G,Hf,ds,s,d,s',_,_,_,_,_,h,_⟩:=h
  cases h
end
end TF
namespace TF
open PySem PySem.Spec PyProof.Rows L2 PySem.SeqAt
open AutoSeq1 (wpAny_loadPart')
theorem tuple_mulW (l:Addr) (items:Array Value) (n:Nat) (dd:Option Addr) (sl:Array (Option Value)) (x:Int) (u:Tok) (hc0:¬((x < -(2 ^ 63):Bool)||(x≥2 ^ 63:Bool))=true) (hc1:¬(items.isEmpty||x==1)=true) (hc2:¬((x≤0:Bool)||items.isEmpty)=true)
  (hc3:¬((items.size:Int)*x > (2 ^ 63-1) / 8)) (hc4:¬Builtin.Tuple.tupleTooMany ((items.size:Int)*x)=true) (hsz:(List.foldl (fun x1 x2=>x1++x2) #[] (List.replicate x.toNat items)).size≤sizeLine) :
  Meets (Builtin.«tuple.__mul__» ⟨[.ref l,.int x u],[]⟩) (fun _ R s=>s.heap.get? l=some { cls:=.type "tuple",dict:=dd,data:=.seq items n,slots:=sl }∧R (.ok (.ret (Value.ref s.heap.objs.size))) { s with heap:=s.heap.push { cls:=Value.type "tuple",data:=Data.seq (List.foldl (fun x1 x2=>x1++x2) #[] (List.replicate x.toNat items)) },toks:=s.toks }):=
 .of_wp fun prog w A R s h=>by
  obtain ⟨hp,g,d,tk,os⟩:=s;obtain ⟨hl,h⟩:=h;have f1:=AutoSeq1.idx_int;have f2:=AutoSeq1.sub_tuple_tuple;have f3:=AutoSeq1.sub_list_list;have f4:=AutoSeq1.sub_tuple_list;have f5:=AutoSeq1.sub_list_tuple;wp_walk using wpAny_loadPart' hl
  rw [if_neg hc0];wp_walk using wpAny_loadPart' hl
  rw [if_neg hc3];wp_walk using wpAny_loadPart' hl
  try (refine wpAny_ite_false (decide_eq_false (Nat.not_lt.mpr hsz)) ?_;wp_walk)
  exact ⟨_,rfl,h⟩
theorem noFill_tuple_mul:fillsNumberSlot (.type "tuple") "mul" = pure false:=
 PySem.fillsNumberSlot_seq (id:="tuple.__mul__") (r:=some (.builtin "tuple.__rmul__")) PySem.F.slot_tuple_mul.lookup (by decide +kernel) PySem.F.slot_tuple_rmul.lookup (by decide +kernel)
theorem repeat_tuple:seqRepeat? (.type "tuple")=pure (some (.builtin "tuple.__mul__")):=by
 unfold seqRepeat?
 rw [PySem.seqSlot_of (T:="tuple") (name:="__mul__") (id:="tuple.__mul__") PySem.F.slot_tuple_mul.lookup (by decide +kernel),PySem.seqSlot_of (T:="tuple") (name:="__rmul__") (id:="tuple.__rmul__") PySem.F.slot_tuple_rmul.lookup (by decide +kernel)]
 rfl
theorem int_rmul_tuple (a:Int) (t:Tok) (l:Addr) (items:Array Value) (n:Nat) (dd:Option Addr) (sl:Array (Option Value)) :
  Meets (Builtin.«int.__rmul__» ⟨[.int a t,.ref l],[]⟩) (fun _ R s=>s.heap.get? l=some { cls:=.type "tuple",dict:=dd,data:=.seq items n,slots:=sl }∧R (.ok (.ret Value.notImplemented)) s):=
 .of_wp fun prog w A R s h=>by obtain ⟨hp,g,d,tk,os⟩:=s;obtain ⟨hl,h⟩:=h;wp_walk;exact ⟨_,rfl,h⟩
section
variable {X:Cx} {G:Gh}
noncomputable def rRepT (K:PySem.W.Frag):R2:=fun x y H Q=>∃l k xs,x=.ref l∧y=.int k∧SqT K H l xs∧xs≠[]∧2≤k∧k<2 ^ 62∧xs.length*k.toNat≤sizeLine∧
 ∀p,H p=none→Q (.ref p) (upd H p (.tup (List.replicate k.toNat xs).flatten))
theorem op_repT:OpR X (binaryOp .Mult) (rRepT X.K):=by
 intro pins s σ H x y v u Q I rx ry h
 obtain ⟨l,k,xs,rfl,rfl,hH,hne,h1,h2,hz,q⟩:=h
 cases rx
 obtain ⟨t,rfl⟩:=ry
 obtain ⟨its,r,p1,_⟩:=I.tuple hH
 obtain ⟨⟨cls,dd,data,sl⟩,ho,hc,n,hd⟩:=id p1
 simp only at hc hd
 subst hc hd
 have hl:=r.length
 have hsz:its.toArray.size=xs.length:=by rw [List.size_toArray];exact hl.symm
 have hne':its≠[]:=fun z=>hne (r.nil_iff.mp z)
 have hemp:its.toArray.isEmpty=false:=by cases its with | nil=>exact absurd rfl hne' | cons a b=>rfl
 have e0:((k.toNat:Nat):Int)=k:=by omega
 have hcap:((its.toArray.size:Int)*k)=((xs.length*k.toNat:Nat):Int):=by rw [hsz,Int.natCast_mul,e0]
 have sl2:(sizeLine:Nat)=16777216:=sizeLine_eq
 have hnew:List.foldl (fun x1 x2=>x1++x2) #[] (List.replicate k.toNat its.toArray)=(List.replicate k.toNat its).flatten.toArray:=by
  have:=foldl_rep its k.toNat []
  rw [List.nil_append] at this
  exact this
 have hfl:(List.replicate k.toNat its).flatten.length≤sizeLine:=by rw [len_rep,Nat.mul_comm,←hl];exact hz
 refine wpAny_binaryOp_repeat_ref (T:="tuple") (U:="int") (by decide) ⟨_,ho,rfl⟩ (fun s'=>typeIs_int s' k t) noFill_tuple_mul F.fills_int_mul F.slot_int_rmul repeat_tuple F.slot_int_index.lookup
  (call_meets F.slot_int_rmul (typeIs_int s k t) F.entry_int_rmul (F.args_int_rmul_2 _ _) (int_rmul_tuple k t l its.toArray n dd sl)
   ⟨ho,rfl,⟨_,ho,rfl⟩,call_meets PySem.F.slot_tuple_mul ⟨_,ho,rfl⟩ PySem.F.entry_tuple_mul (PySem.F.args_tuple_mul_2 _ _) (tuple_mulW l its.toArray n dd sl k t ?_ ?_ ?_ ?_ ?_ ?_) ⟨ho,?_⟩⟩)
 ·simp;omega
 ·rw [hemp];simp;omega
 ·rw [hemp];simp;omega
 ·rw [hcap];omega
 ·unfold Builtin.Tuple.tupleTooMany
  rw [hcap,decide_eq_true_eq];omega
 ·rw [hnew,List.size_toArray];exact hfl
 ·rw [hnew]
  exact ⟨.ref s.heap.objs.size,_,I.laid (t':=s.toks) (o:=.tup (List.replicate k.toNat xs).flatten) (fun b ob q=>Heap.get?_push_of_some _ q) (Nat.le_refl _) ⟨by rw [len_rep,Nat.mul_comm];exact hz,_,r.rep k.toNat,IsTup.new _ _⟩,rfl,q _ (I.hok.fresh (Nat.le_refl _))⟩
theorem RepL.rep {Hf:Hp} {ds:List D} {vs:List V} (r:RepL G Hf ds vs):∀k:Nat,RepL G Hf (List.replicate k ds).flatten (List.replicate k vs).flatten
 | 0=>RepL.nil_iff.mpr rfl
 | k+1=>by
  rw [List.replicate_succ,List.replicate_succ,List.flatten_cons,List.flatten_cons]
  exact r.append (RepL.rep r k)
noncomputable def dMulA:D→D→Option D
 | .int i,.int j=>if cMulB i j=true then some (.int (i*j)) else none
 | .tup ds,.int k=>if ds≠[]∧2≤k∧k<2 ^ 62∧ds.length*k.toNat≤sizeLine then some (.tup (List.replicate k.toNat ds).flatten) else none
 | .lst ds,.int k=>if -(2 ^ 63)≤k∧k<2 ^ 63∧ds.length*k.toNat≤sizeLine then some (.lst (List.replicate k.toNat ds).flatten) else none
 | _,_=>none
theorem opd_mulA:OpD X G (binaryOp .Mult) dMulA:=by
 obtain ⟨r0,po,qo⟩:=opd_mul (X:=X) (G:=G)
 refine ⟨_,po.or (op_repT.or op_rep),fun Hf H s x y d e c Q e1 st rx ry q k=>?_⟩
 match d,e,q,rx,ry with
 | .int i,.int j,q,rx,ry=>exact .inl (qo Hf H s x y _ _ c Q e1 st rx ry q k)
 | .tup ds,.int j,q,rx,ry=>
  have q:(if ds≠[]∧2≤j∧j<2 ^ 62∧ds.length*j.toNat≤sizeLine then some (D.tup (List.replicate j.toNat ds).flatten) else none)=some c:=q
  split at q
  ·rename_i hz
   cases q
   obtain ⟨p,vs,rfl,np,hp,rp⟩:=Rep.tup_iff.mp rx
   refine .inr (.inl ⟨p,j,vs,rfl,Rep.int_iff.mp ry,SqT.of (e1 _ _ np hp),fun z=>hz.1 (List.length_eq_zero_iff.mp (by rw [rp.length,z];rfl)),hz.2.1,hz.2.2.1,by rw [←rp.length];exact hz.2.2.2,fun l hl=>?_⟩)
   have nf:=Gh.nofp st hl
   have g2:=Gr.new (o:=.tup (List.replicate j.toNat vs).flatten) e1 hl nf
   exact k (.ref l) _ _ g2 (Gh.grow st hl) (Rep.tup_iff.mpr ⟨l,_,rfl,nf,upd_same,(rp.rep _).ext g2.ff⟩) (.scal fun z=>z)
  ·cases q
 | .lst ds,.int j,q,rx,ry=>
  have q:(if -(2 ^ 63)≤j∧j<2 ^ 63∧ds.length*j.toNat≤sizeLine then some (D.lst (List.replicate j.toNat ds).flatten) else none)=some c:=q
  split at q
  ·rename_i hz
   cases q
   obtain ⟨p,vs,rfl,np,hp,rp⟩:=Rep.lst_iff.mp rx
   refine .inr (.inr ⟨p,j,vs,rfl,Rep.int_iff.mp ry,e1 _ _ np hp,hz.1,hz.2.1,by rw [←rp.length];exact hz.2.2,fun l hl=>?_⟩)
   have nf:=Gh.nofp st hl
   have g2:=Gr.new (o:=.lst (List.replicate j.toNat vs).flatten) e1 hl nf
   exact k (.ref l) _ _ g2 (Gh.grow st hl) (Rep.lst_iff.mpr ⟨l,_,rfl,nf,upd_same,(rp.rep _).ext g2.ff⟩) (FreshL.mk e1 hl nf (rp.rep _))
  ·cases q
end
end TF
namespace TF
open PySem PySem.Spec PyProof.Rows L2
section
variable {X:Cx} {G:Gh}
theorem pd_neg {i:Int} {j p pos}:PD X G true (.UnaryOp .USub (.Constant (.int i) j p) pos) (dC (.int (-i))):=by
 refine ⟨_,pe_un un_neg pe_int,fun σ Hf H ρ s d s' Q e1 e2 e3 e4 k=>?_⟩
 obtain ⟨rfl,rfl⟩:=mret_some e4
 exact ⟨i,rfl,k _ Hf H (.refl e1) e3 (Rep.int_iff.mpr rfl) fun _=>.scal fun z=>z⟩
end
end TF
namespace TF
open PySem L2
section
variable {f g:Rho→M D} {ρ:Rho} {s s1:Pn} {a b:Bool} {r:Option (D×Pn)}
theorem vAnd_t (h:f ρ s=some (.bl true,s1)) (h2:g ρ s1=r):vAnd f g ρ s=r:=by unfold vAnd mbind;rw [h];exact h2
theorem vAnd_f (h:f ρ s=some (.bl false,s1)):vAnd f g ρ s=some (.bl false,s1):=by unfold vAnd mbind;rw [h];rfl
theorem vAnd_eq (h:f ρ s=some (.bl a,s)) (h2:a=true→g ρ s=some (.bl b,s)):vAnd f g ρ s=some (.bl (a&&b),s):=by
 cases a with
 | false=>exact vAnd_f h
 | true=>rw [Bool.true_and];exact vAnd_t h (h2 rfl)
theorem vNot_eq (h:f ρ s=some (.bl a,s1)):vNot f ρ s=some (.bl (!a),s1):=by unfold vNot mbind;rw [h];rfl
end
section
variable {f g:Rho→M Bool} {ρ:Rho} {s s1:Pn} {a b:Bool} {r:Option (Bool×Pn)}
theorem band_f (h:f ρ s=some (false,s1)):bAnd f g ρ s=some (false,s1):=by unfold bAnd mbind;rw [h];rfl
theorem band_t (h:f ρ s=some (true,s1)) (h2:g ρ s1=r):bAnd f g ρ s=r:=by unfold bAnd mbind;rw [h];exact h2
theorem bor_t (h:f ρ s=some (true,s1)):bOr f g ρ s=some (true,s1):=by unfold bOr mbind;rw [h];rfl
theorem bor_f (h:f ρ s=some (false,s1)) (h2:g ρ s1=r):bOr f g ρ s=r:=by unfold bOr mbind;rw [h];exact h2
theorem band_eq (h:f ρ s=some (a,s)) (h2:a=true→g ρ s=some (b,s)):bAnd f g ρ s=some (a&&b,s):=by
 cases a with
 | false=>exact band_f h
 | true=>rw [Bool.true_and];exact band_t h (h2 rfl)
end
section
variable {c:Rho→M Bool} {g1 g2:Rho→M Out} {ρ:Rho} {s s1:Pn} {r:Option (Out×Pn)}
theorem sIf_t (h:c ρ s=some (true,s1)) (h2:g1 ρ s1=r):sIf c g1 g2 ρ s=r:=by unfold sIf mbind;rw [h];exact h2
theorem sIf_f (h:c ρ s=some (false,s1)) (h2:g2 ρ s1=r):sIf c g1 g2 ρ s=r:=by unfold sIf mbind;rw [h];exact h2
end
section
variable {fa fb:Rho→M D} {f:D→Rho→M Bool} {g:D→D→Option D} {ρ:Rho} {s s1 s2:Pn} {d e:D} {k:Bool} {r:Option (Bool×Pn)}
end
theorem eqi (a b:Int):dEqO (.int a) (.int b)=some (.bl (a==b)):=by
 unfold dEqO
 rw [if_pos (by simp [okEq,plainD,dep])]
 simp [dEq]
theorem nei (a b:Int):dNeO (.int a) (.int b)=some (.bl (!(a==b))):=by
 unfold dNeO
 rw [if_pos (by simp [okEq,plainD,dep])]
 simp [dEq]
theorem pick_ix {ds:List D} {r:Nat} (h:r<ds.length):∃d∈ds,dIx (.lst ds) (.int (r:Int))=some d:=
 ⟨ds[r],List.getElem_mem h,atI_nat (List.getElem?_eq_getElem h)⟩
theorem mFor_cons_nx {τ:D→Rho→Option Rho} {body:Rho→M Out} {d:D} {ds:List D} {ρ ρ1 ρ2:Rho} {s s1:Pn} {r:Option (Out×Pn)} (h:τ d ρ=some ρ1) (hb:body ρ1 s=some (.nx ρ2,s1)) (h2:mFor τ body ds ρ2 s1=r):mFor τ body (d::ds) ρ s=r:=by
 unfold mFor mbind mOf
 simp only [h,hb]
 exact h2
theorem mFor_cons_rt {τ:D→Rho→Option Rho} {body:Rho→M Out} {d e:D} {ds:List D} {ρ ρ1:Rho} {s s1:Pn} (h:τ d ρ=some ρ1) (hb:body ρ1 s=some (.rt e,s1)):mFor τ body (d::ds) ρ s=some (.rt e,s1):=by
 unfold mFor mbind mOf
 simp only [h,hb]
 rfl
theorem sFor_eq {fi:Rho→M (List D)} {τ:D→Rho→Option Rho} {body:Rho→M Out} {ds:List D} {ρ:Rho} {s s1:Pn} {r:Option (Out×Pn)} (h:fi ρ s=some (ds,s1)) (h2:mFor τ body ds ρ s1=r):sFor fi τ body ρ s=r:=by
 unfold sFor mbind;rw [h];exact h2
theorem seqT_eq {f:Rho→M D} {ρ:Rho} {s s1:Pn} {ds:List D} (h:f ρ s=some (.tup ds,s1)):iSeqT f ρ s=some (ds,s1):=by unfold iSeqT mbind;rw [h];rfl
theorem seqL_eq {f:Rho→M D} {ρ:Rho} {s s1:Pn} {ds:List D} (h:f ρ s=some (.lst ds,s1)):iSeqL f ρ s=some (ds,s1):=by unfold iSeqL mbind;rw [h];rfl
end TF
namespace TP
open PySem L2 TF
noncomputable def kindD:D→Bool
 | .non=>true | .bl _=>true | .int _=>true | .str _=>true | .tup _=>true | .lst _=>true | _=>false
noncomputable def intB:D→Bool | .int _=>true | .bl _=>true | _=>false
noncomputable def boolB:D→Bool | .bl _=>true | _=>false
noncomputable def wholeB:D→Bool | .int _=>true | _=>false
theorem isi_int {d:D} (h:kindD d=true):dIsi [d,.ty "int"]=some (.bl (intB d)):=by
 cases d <;> first | rfl | cases h
theorem isi_bool {d:D} (h:kindD d=true):dIsi [d,.ty "bool"]=some (.bl (boolB d)):=by
 cases d <;> first | rfl | cases h
theorem is_whole_eq {d:D} (h:kindD d=true) (s:Pn):F_is_whole [d] s=some (.bl (wholeB d),s):=by
 refine runB_eq rfl (sSeq_rt (sRet_eq ?_))
 have e:wholeB d=((intB d) && !(boolB d)):=by cases d <;> rfl
 rw [e]
 exact vAnd_eq (call_eq (cons_eq rfl (cons_eq rfl rfl)) (isi_int h)) fun _=>vNot_eq (call_eq (cons_eq rfl (cons_eq rfl rfl)) (isi_bool h))
noncomputable def placeB (n:Int):D→Bool | .int i=>decide (0≤i)&&decide (i<n) | _=>false
theorem is_place_eq {d:D} (h:kindD d=true) (n:Int) (s:Pn):F_is_place [.int n,d] s=some (.bl (placeB n d),s):=by
 refine runB_eq rfl (sSeq_rt (sRet_eq ?_))
 have hw:=fn_eq (ρ:=[some (D.int n),some d]) (F:=F_is_whole) (fs:=dCons (dVar 1) dNil) (s:=s) (cons_eq rfl rfl) (is_whole_eq h s)
 cases d with
 | int i=>exact vAnd_t hw (vAnd_eq (op_eq' (d:=.int 0) (e:=.int i) rfl rfl rfl) fun _=>op_eq' (d:=.int i) (e:=.int n) rfl rfl rfl)
 | pen=>cases h
 | ty _=>cases h
 | clo _ _=>cases h
 | dk _=>cases h
 | dt _=>cases h
 | _=>exact vAnd_f hw
theorem filter_tt {α:Type} (l:List α):l.filter (fun _=>true)=l:=List.filter_eq_self.mpr (by simp)
end TP
namespace TF
open PySem L2
section
variable {f:Rho→M D} {fs:Rho→M (List D)} {ρ:Rho} {s:Pn}
theorem Ok.fn' {F:List D→M D} {Q:D→Pn→Prop} (h:Ok (fs ρ) s fun ds s1=>Ok (F ds) s1 Q):Ok (dFn F fs ρ) s Q:=.bind h
theorem Ok.sunp {τ:D→Rho→Option Rho} {Q:Out→Pn→Prop} (h:Ok (f ρ) s fun d s1=>∃ρ',τ d ρ=some ρ'∧Q (.nx ρ') s1):Ok (sUnp τ f ρ) s Q:=
 .bind (h.mono fun d s1 q=>by obtain ⟨ρ',e,q⟩:=q;rw [e];exact .ret q)
end
theorem tup1_eq {f:Rho→M D} {ρ:Rho} {s:Pn} {x:D} (h1:f ρ s=some (x,s)):dTup (dCons f dNil) ρ s=some (.tup [x],s):=tup_eq (cons_eq h1 rfl) (by show 1≤sizeLine;decide)
theorem tup2_eq {f g:Rho→M D} {ρ:Rho} {s:Pn} {x y:D} (h1:f ρ s=some (x,s)) (h2:g ρ s=some (y,s)):dTup (dCons f (dCons g dNil)) ρ s=some (.tup [x,y],s):=tup_eq (cons_eq h1 (cons_eq h2 rfl)) TP.two_le
theorem lst1_eq {f:Rho→M D} {ρ:Rho} {s:Pn} {x:D} (h1:f ρ s=some (x,s)):dLst (dCons f dNil) ρ s=some (.lst [x],s):=lst_eq (cons_eq h1 rfl) (by show 1≤sizeLine;decide)
noncomputable def LT (P:D→Prop) (m:Nat) (d:D):Prop:=∃L,d=.lst L∧L.length=m∧∀x∈L,P x
theorem LT.pick {P:D→Prop} {m r:Nat} {d:D} (h:LT P m d) (hr:r<m):∃x,dIx d (.int (r:Int))=some x∧P x:=by
 obtain ⟨L,rfl,l1,p1⟩:=h
 obtain ⟨x,hx,e⟩:=pick_ix (ds:=L) (r:=r) (by omega)
 exact ⟨x,e,p1 x hx⟩
theorem LT.nil (P:D→Prop):LT P 0 (.lst []):=⟨[],rfl,rfl,by simp⟩
theorem LT.cons {P:D→Prop} {m:Nat} {x:D} {L:List D} (hx:P x) (h:LT P m (.lst L)):LT P (m+1) (.lst (x::L)):=by
 obtain ⟨L',e,l1,p1⟩:=h
 cases e
 exact ⟨x::L,rfl,by simp [l1],fun y hy=>by
  rcases List.mem_cons.mp hy with h | h
  ·rw [h];exact hx
  ·exact p1 y h⟩
end TF
namespace TF
open PySem PySem.Spec PyProof.Rows L2
noncomputable def penKv (m t:Int) (wa:Addr):List (Key×V):=[(.inr (Str.ofString "mixed"),.int m),(.inr (Str.ofString "turn"),.int t),(.inr (Str.ofString "wide"),.ref wa)]
theorem k_mt:¬((Sum.inr (Str.ofString "mixed"):Key)=Sum.inr (Str.ofString "turn")):=by decide
theorem k_mw:¬((Sum.inr (Str.ofString "mixed"):Key)=Sum.inr (Str.ofString "wide")):=by decide
theorem k_tw:¬((Sum.inr (Str.ofString "turn"):Key)=Sum.inr (Str.ofString "wide")):=by decide
theorem pen_m (m t:Int) (wa:Addr):valV (penKv m t wa) (.inr (Str.ofString "mixed"))=some (.int m):=valV_pos rfl
theorem pen_t (m t:Int) (wa:Addr):valV (penKv m t wa) (.inr (Str.ofString "turn"))=some (.int t):=(valV_neg k_mt).trans (valV_pos rfl)
theorem pen_w (m t:Int) (wa:Addr):valV (penKv m t wa) (.inr (Str.ofString "wide"))=some (.ref wa):=(valV_neg k_mw).trans ((valV_neg k_tw).trans (valV_pos rfl))
theorem pen_put (m t t':Int) (wa:Addr):putK (penKv m t wa) (.inr (Str.ofString "turn")) (.int t')=penKv m t' wa:=by
 have h2:¬((Sum.inr (Str.ofString "wide"):Key)=Sum.inr (Str.ofString "turn")):=fun z=>k_tw z.symm
 unfold putK penKv
 rw [if_pos (by simp)]
 have h3:¬(Str.ofString "mixed" = Str.ofString "turn"):=by decide
 have h4:¬(Str.ofString "wide" = Str.ofString "turn"):=by decide
 simp [h3,h4]
noncomputable def stD (p wa:Addr) (s:Pn) (H:Hp):Prop:=∃m t,s.1=[m,t]∧H p=some (.dK (penKv m t wa))∧H wa=some (.lst (s.2.map V.int))∧p≠wa
noncomputable def penD (p wa:Addr):Gh where
 fp:=fun b=>b=p∨b=wa
 rd:=fun b=>b=p∨b=wa
 pen:=.ref p
 st:=stD p wa
 mono:=fun s H H' ⟨m,t,e0,e1,e2,ne⟩ k _=>⟨m,t,e0,k p _ (.inl rfl) e1,k wa _ (.inr rfl) e2,ne⟩
 sub:=fun b h=>h
 dom:=fun s H b ⟨m,t,e0,e1,e2,ne⟩ hb=>by
  rcases hb with rfl | rfl
  ·exact ⟨_,e1⟩
  ·exact ⟨_,e2⟩
 ntp:=fun s H b vs ⟨m,t,e0,e1,e2,ne⟩ hb z=>by
  rcases hb with r | r
  ·rw [r,e1] at z;cases z
  ·rw [r,e2] at z;cases z
noncomputable def PenD:Gh→Prop:=fun G=>∃p wa,G=penD p wa
noncomputable def drawW (k:Int):List Int→List Int
 | c::r=>if c<k then r else c::r
 | []=>[]
noncomputable def lastF (m t:Int):Int:=
 let one:=(m+7919*t*t) % 2147483629
 let two:=(one*one+40692*t+3) % 998244353
 (two*two+one) % 2147483587 / 16
noncomputable def drawS (k m t:Int) (w:List Int):D×Pn:=match drawW k w with
 | c::r=>(.int (c % k),([m,t],(c / k)::r))
 | []=>(.int (lastF m (t+1) % k),([m,t+1],[]))
noncomputable def drawF:List D→M D:=fun ds s=>match ds,s with
 | [.pen,.int k],([m,t],w)=>if 0<k∧k<1073741824∧0≤t∧t<2 ^ 60 then some (drawS k m t w) else none
 | _,_=>none
theorem drawF_some {ds:List D} {s s':Pn} {d:D} (h:drawF ds s=some (d,s')):∃k m t w,ds=[.pen,.int k]∧s=([m,t],w)∧0<k∧k<1073741824∧0≤t∧t<2 ^ 60∧drawS k m t w=(d,s'):=by
 unfold drawF at h
 split at h
 ·split at h
  ·rename_i k m t w c
   exact ⟨k,m,t,w,rfl,rfl,c.1,c.2.1,c.2.2.1,c.2.2.2,Option.some.inj h⟩
  ·cases h
 ·cases h
noncomputable def okD (T:Nat) (s:Pn):Prop:=∃m t:Int,s.1=[m,t]∧0≤t∧t≤T
theorem okD.mono {T T':Nat} {s:Pn} (h:okD T s) (hT:T≤T'):okD T' s:=by
 obtain ⟨m,t,e,h1,h2⟩:=h
 exact ⟨m,t,e,h1,by omega⟩
theorem draw_ok {T:Nat} {s:Pn} {k:Int} (ok:okD T s) (hT:T<1000000000) (h1:0<k) (h2:k<1073741824):∃r s',drawF [.pen,.int k] s=some (.int r,s')∧0≤r∧r<k∧okD (T+1) s':=by
 obtain ⟨l,w⟩:=s
 obtain ⟨m,t,e,t0,tT⟩:=ok
 simp only at e
 subst e
 have hd:drawF [.pen,.int k] ([m,t],w)=some (drawS k m t w):=if_pos ⟨h1,h2,t0,by omega⟩
 unfold drawS at hd
 split at hd
 ·exact ⟨_,_,hd,Int.emod_nonneg _ (by omega),Int.emod_lt_of_pos _ h1,m,t,rfl,t0,by omega⟩
 ·exact ⟨_,_,hd,Int.emod_nonneg _ (by omega),Int.emod_lt_of_pos _ h1,m,t+1,rfl,by omega,by omega⟩
theorem Ok.drawD {fs:Rho→M (List D)} {ρ:Rho} {s:Pn} {m T:Nat} {Q:D→Pn→Prop} (ok:okD T s) (hT:T<1000000000) (h1:fs ρ s=some ([.pen,.int (m:Int)],s)) (hm:0<m) (hm2:m<1073741824) (h:∀(r:Nat) s',r<m→okD (T+1) s'→Q (.int (r:Int)) s'):Ok (dFn drawF fs ρ) s Q:=by
 obtain ⟨r,s1,e,r0,r1,ok1⟩:=draw_ok ok hT (show 0<(m:Int) by omega) (show (m:Int)<1073741824 by omega)
 obtain ⟨n,rfl⟩:=Int.eq_ofNat_of_zero_le r0
 exact .fn h1 (.eq e (h n s1 (by omega) ok1))
theorem pss_anyG {X:Cx} {GG:Gh→Prop} {ob own own':List Nat} {fr:Bool} {sts:List Stmt} {g:Rho→M Out} (h:∀G,GG G→PDSs X G ob own own' fr sts g):PSs X sts (fun E σ H=>∃G,GG G∧dosOf G ob own own' fr g E σ H):=by
 intro pins s σ H D I ⟨G,hG,kn,Hf0,H0,ρ,pn,out,pn',j,st,e,po⟩
 obtain ⟨t,p,q⟩:=h G hG
 exact p pins s σ H D I (q kn Hf0 H0 σ H ρ pn out pn' D j st e po)
noncomputable def wideOf (ns:List Int):List Int:=ns.filter fun c=>decide (10 ^ 15≤c)
noncomputable def spPen (K:PySem.W.Frag):Sp:=fun vs H Q _=>∃(a:Addr) (ns:List Int),vs=[.ref a]∧SqL K H a (ns.map V.int)∧ns.length≤63∧
 ∀(p wa:Addr) (m:Int) (H':Hp),stD p wa ([m,0],wideOf ns) H'→(∀b u,H b=some u→H' b=some u)→H p=none→H wa=none→Q (.ref p) H'
noncomputable def tW:TE:=tDGet (tVar 0) (tC (.str (Str.ofString "wide")))
noncomputable def tTn:TE:=tDGet (tVar 0) (tC (.str (Str.ofString "turn")))
noncomputable def tMx:TE:=tDGet (tVar 0) (tC (.str (Str.ofString "mixed")))
noncomputable def tLenW (K:PySem.W.Frag):TE:=tCB (fun xs H Q=>∃p ys,xs=[.ref p]∧(SqL K H p ys∨SqT K H p ys)∧Q (.int ys.length) H) (tCons tW tNil)
noncomputable def tW0 (K:PySem.W.Frag):TE:=tOp (rIxL K) tW (tC (.int 0))
noncomputable def tail3:TS:=tSeq (sDPut (tVar 0) (tC (.str (Str.ofString "turn"))) (tOp (rI0 fun i j=>.int (i+j)) tTn (tC (.int 1))))
 (tSeq (tAsg (tOp (rI (fun _ j=>0<j) fun i j=>.int (i % j)) (tOp (rI0 fun i j=>.int (i+j)) tMx (tOp (rI CMul fun i j=>.int (i*j)) (tOp (rI CMul fun i j=>.int (i*j)) (tC (.int 7919)) tTn) tTn)) (tC (.int 2147483629))) (gName 3))
 (tSeq (tAsg (tOp (rI (fun _ j=>0<j) fun i j=>.int (i % j)) (tOp (rI0 fun i j=>.int (i+j)) (tOp (rI0 fun i j=>.int (i+j)) (tOp (rI CMul fun i j=>.int (i*j)) (tVar 3) (tVar 3)) (tOp (rI CMul fun i j=>.int (i*j)) (tC (.int 40692)) tTn)) (tC (.int 3))) (tC (.int 998244353))) (gName 4))
 (tRet (tOp (rI (fun _ j=>0<j) fun i j=>.int (i % j)) (tOp (rI CDiv fun i j=>.int (i / j)) (tOp (rI (fun _ j=>0<j) fun i j=>.int (i % j)) (tOp (rI0 fun i j=>.int (i+j)) (tOp (rI CMul fun i j=>.int (i*j)) (tVar 4) (tVar 4)) (tVar 3)) (tC (.int 2147483587))) (tC (.int 16))) (tVar 1)))))
noncomputable def tail2 (K : PySem.W.Frag) : TS := tSeq (tIfS (tTest (tOp (rI0 fun i j => .bl (decide (j < i))) (tLenW K) (tC (.int 0))))
    (tSeq (tAsg (tOp (rI (fun _ j => 0 < j) fun i j => .int (i % j)) (tW0 K) (tVar 1)) (gName 2)) (tSeq (tAsg (tOp (rI CDiv fun i j => .int (i / j)) (tW0 K) (tVar 1)) (gSub tW (tC (.int 0)) rSetL)) (tRet (tVar 2)))) tNext) tail3
noncomputable def tdrawT (K : PySem.W.Frag) : TS := tSeq (tIfS (tAnd (tTest (tOp (rI0 fun i j => .bl (decide (j < i))) (tLenW K) (tC (.int 0)))) (tTest (tOp (rI0 fun i j => .bl (decide (i < j))) (tW0 K) (tVar 1))))
    (tDrop (tBM K "list" rPopAt tW (tCons (tC (.int 0)) tNil))) tNext) (tail2 K)
theorem dg_w {H:Hp} {p wa:Addr} {m t:Int} (h:H p=some (.dK (penKv m t wa))):DGet H p (.str (Str.ofString "wide")) (some (.ref wa)):=by have:=DGet.k (k:=.inr (Str.ofString "wide")) h;rwa [pen_w] at this
theorem dg_t {H:Hp} {p wa:Addr} {m t:Int} (h:H p=some (.dK (penKv m t wa))):DGet H p (.str (Str.ofString "turn")) (some (.int t)):=by have:=DGet.k (k:=.inr (Str.ofString "turn")) h;rwa [pen_t] at this
theorem dg_m {H:Hp} {p wa:Addr} {m t:Int} (h:H p=some (.dK (penKv m t wa))):DGet H p (.str (Str.ofString "mixed")) (some (.int m)):=by have:=DGet.k (k:=.inr (Str.ofString "mixed")) h;rwa [pen_m] at this
theorem dp_t {H:Hp} {p wa:Addr} {m t t':Int} (h:H p=some (.dK (penKv m t wa))):DPut H p (.str (Str.ofString "turn")) (.int t') (upd H p (.dK (penKv m t' wa))):=by
 have:=DPut.k (k:=.inr (Str.ofString "turn")) (v:=.int t') h (by show 3<sizeLine;decide)
 rwa [pen_put] at this
theorem tail3_sem {p wa:Addr} {m x t:Int} {Q:VK} {N:St→Hp→Prop} {H:Hp} {o2:Option V} (m0:0<m) (m1:m<1073741824) (t0:0≤t) (t1:t<2 ^ 60) (hp:H p=some (.dK (penKv x t wa)))
  (k:Q (.int (lastF x (t+1) % m)) (upd H p (.dK (penKv x (t+1) wa)))):tail3 { nx:=N,rt:=Q } [some (.ref p),some (.int m),o2,none,none] H:=by
 have hp2:upd H p (.dK (penKv x (t+1) wa)) p=some (.dK (penKv x (t+1) wa)):=upd_same
 generalize hT:t+1=T at hp2 k
 have b1:∀z:Int,0≤z % 2147483629∧z % 2147483629<2147483629:=fun z=>⟨Int.emod_nonneg _ (by decide),Int.emod_lt_of_pos _ (by decide)⟩
 have b2:∀z:Int,0≤z % 998244353∧z % 998244353<998244353:=fun z=>⟨Int.emod_nonneg _ (by decide),Int.emod_lt_of_pos _ (by decide)⟩
 refine ⟨.ref p,rfl,p,.int t,rfl,dg_t hp,t,1,rfl,rfl,.ref p,rfl,p,upd H p (.dK (penKv x T wa)),rfl,by rw [←hT];exact dp_t hp,?_⟩
 refine ⟨.ref p,rfl,p,.int x,rfl,dg_m hp2,.ref p,rfl,p,.int T,rfl,dg_t hp2,7919,T,rfl,rfl,.inl ⟨by decide,by decide⟩,.ref p,rfl,p,.int T,rfl,dg_t hp2,7919*T,T,rfl,rfl,.inr ⟨by omega,by omega⟩,x,7919*T*T,rfl,rfl,x+7919*T*T,2147483629,rfl,rfl,(by show (0:Int)<2147483629;decide),?_⟩
 have h1:=b1 (x+7919*T*T)
 have h2:=b2 (((x+7919*T*T) % 2147483629)*((x+7919*T*T) % 2147483629)+40692*T+3)
 refine ⟨.int ((x+7919*T*T) % 2147483629),rfl,.int ((x+7919*T*T) % 2147483629),rfl,((x+7919*T*T) % 2147483629),((x+7919*T*T) % 2147483629),rfl,rfl,.inl ⟨by omega,by omega⟩,.ref p,rfl,p,.int T,rfl,dg_t hp2,40692,T,rfl,rfl,.inl ⟨by decide,by decide⟩,((x+7919*T*T) % 2147483629)*((x+7919*T*T) % 2147483629),40692*T,rfl,rfl,((x+7919*T*T) % 2147483629)*((x+7919*T*T) % 2147483629)+40692*T,3,rfl,rfl,((x+7919*T*T) % 2147483629)*((x+7919*T*T) % 2147483629)+40692*T+3,998244353,rfl,rfl,(by show (0:Int)<998244353;decide),?_⟩
 refine ⟨.int ((((x+7919*T*T) % 2147483629)*((x+7919*T*T) % 2147483629)+40692*T+3) % 998244353),rfl,.int ((((x+7919*T*T) % 2147483629)*((x+7919*T*T) % 2147483629)+40692*T+3) % 998244353),rfl,((((x+7919*T*T) % 2147483629)*((x+7919*T*T) % 2147483629)+40692*T+3) % 998244353),((((x+7919*T*T) % 2147483629)*((x+7919*T*T) % 2147483629)+40692*T+3) % 998244353),rfl,rfl,.inl ⟨by omega,by omega⟩,.int ((x+7919*T*T) % 2147483629),rfl,((((x+7919*T*T) % 2147483629)*((x+7919*T*T) % 2147483629)+40692*T+3) % 998244353)*((((x+7919*T*T) % 2147483629)*((x+7919*T*T) % 2147483629)+40692*T+3) % 998244353),((x+7919*T*T) % 2147483629),rfl,rfl,((((x+7919*T*T) % 2147483629)*((x+7919*T*T) % 2147483629)+40692*T+3) % 998244353)*((((x+7919*T*T) % 2147483629)*((x+7919*T*T) % 2147483629)+40692*T+3) % 998244353)+((x+7919*T*T) % 2147483629),2147483587,rfl,rfl,(by show (0:Int)<2147483587;decide),(((((x+7919*T*T) % 2147483629)*((x+7919*T*T) % 2147483629)+40692*T+3) % 998244353)*((((x+7919*T*T) % 2147483629)*((x+7919*T*T) % 2147483629)+40692*T+3) % 998244353)+((x+7919*T*T) % 2147483629)) % 2147483587,16,rfl,rfl,(by show (0:Int)<16∧(16:Int)<1073741824;decide),.int m,rfl,(((((x+7919*T*T) % 2147483629)*((x+7919*T*T) % 2147483629)+40692*T+3) % 998244353)*((((x+7919*T*T) % 2147483629)*((x+7919*T*T) % 2147483629)+40692*T+3) % 998244353)+((x+7919*T*T) % 2147483629)) % 2147483587 / 16,m,rfl,rfl,m0,?_⟩
 exact k
theorem len_map_int (w:List Int):((w.map V.int).length:Int)=(w.length:Int):=by simp
theorem ix0 (c:Int) (r:List Int):ixN ((c::r).map V.int).length 0=some 0:=by
 unfold ixN
 rw [if_pos (by decide),if_pos (by rw [len_map_int];simp)]
 rfl
theorem tail2_sem {K:PySem.W.Frag} {p wa:Addr} {m x t:Int} {w1:List Int} {Q:VK} {N:St→Hp→Prop} {H:Hp} (m0:0<m) (m1:m<1073741824) (t0:0≤t) (t1:t<2 ^ 60) (hp:H p=some (.dK (penKv x t wa))) (hw:H wa=some (.lst (w1.map V.int))) (ne:p≠wa)
  (k1:∀c r,w1=c::r→Q (.int (c % m)) (upd H wa (.lst (((c / m)::r).map V.int)))) (k2:w1=[]→Q (.int (lastF x (t+1) % m)) (upd H p (.dK (penKv x (t+1) wa)))) :
  tail2 K { nx:=N,rt:=Q } [some (.ref p),some (.int m),none,none,none] H:=by
 refine ⟨.ref p,rfl,p,.ref wa,rfl,dg_w hp,wa,w1.map V.int,rfl,.inl (SqL.of hw),_,0,rfl,rfl,_,rfl,?_⟩
 cases w1 with
 | nil=>
  refine iteF ?_
  exact tail3_sem m0 m1 t0 t1 hp (k2 rfl)
 | cons c r=>
  have e:decide ((0:Int)<(((c::r).map V.int).length:Int))=true:=by rw [decide_eq_true_eq,len_map_int];simp
  rw [e]
  refine iteT ?_
  have hi:atI ((c::r).map V.int) 0=some (.int c):=atI_nat (j:=0) rfl
  refine ⟨.ref p,rfl,p,.ref wa,rfl,dg_w hp,wa,_,0,.int c,rfl,rfl,SqL.of hw,hi,.int m,rfl,c,m,rfl,rfl,m0,?_⟩
  refine ⟨.ref p,rfl,p,.ref wa,rfl,dg_w hp,wa,_,0,.int c,rfl,rfl,SqL.of hw,hi,.int m,rfl,c,m,rfl,rfl,⟨m0,m1⟩,.ref p,rfl,p,.ref wa,rfl,dg_w hp,wa,(c::r).map V.int,0,0,rfl,rfl,hw,ix0 c r,?_⟩
  exact ⟨_,rfl,k1 c r rfl⟩
theorem draw_sem {K:PySem.W.Frag} {p wa:Addr} {m x t:Int} {ww:List Int} {d:D} {pn':Pn} {Q:VK} {N:St→Hp→Prop} {H:Hp} (m0:0<m) (m1:m<1073741824) (t0:0≤t) (t1:t<2 ^ 60) (eS:drawS m x t ww=(d,pn')) (hp:H p=some (.dK (penKv x t wa))) (hw:H wa=some (.lst (ww.map V.int))) (ne:p≠wa)
  (k:∀(i:Int) (H':Hp),d=.int i→(∀b,b≠p→b≠wa→H' b=H b)→stD p wa pn' H'→Q (.int i) H') :
  tdrawT K { nx:=N,rt:=Q } [some (.ref p),some (.int m),none,none,none] H:=by
 have fin:∀(H1:Hp) (w1:List Int),w1=drawW m ww→H1 p=some (.dK (penKv x t wa))→H1 wa=some (.lst (w1.map V.int))→(∀b,b≠p→b≠wa→H1 b=H b)→tail2 K { nx:=N,rt:=Q } [some (.ref p),some (.int m),none,none,none] H1:=by
  intro H1 w1 e1 hp1 hw1 ag
  refine tail2_sem m0 m1 t0 t1 hp1 hw1 ne (fun c r ec=>?_) fun ec=>?_
  ·have:drawS m x t ww=(.int (c % m),([x,t],(c / m)::r)):=by unfold drawS;rw [←e1,ec]
   rw [this] at eS
   cases eS
   refine k _ _ rfl (fun b h1 h2=>by rw [upd_ne h2];exact ag b h1 h2) ⟨x,t,rfl,by rw [upd_ne ne];exact hp1,upd_same,ne⟩
  ·have:drawS m x t ww=(.int (lastF x (t+1) % m),([x,t+1],[])):=by unfold drawS;rw [←e1,ec]
   rw [this] at eS
   cases eS
   subst ec
   refine k _ _ rfl (fun b h1 h2=>by rw [upd_ne h1];exact ag b h1 h2) ⟨x,t+1,rfl,upd_same,by rw [upd_ne (Ne.symm ne)];exact hw1,ne⟩
 refine ⟨.ref p,rfl,p,.ref wa,rfl,dg_w hp,wa,ww.map V.int,rfl,.inl (SqL.of hw),_,0,rfl,rfl,_,rfl,?_⟩
 cases ww with
 | nil=>
  refine iteF ?_
  refine iteF ?_
  exact fin H [] rfl hp hw fun _ _ _=>rfl
 | cons c r=>
  have e:decide ((0:Int)<(((c::r).map V.int).length:Int))=true:=by rw [decide_eq_true_eq,len_map_int];simp
  rw [e]
  refine iteT ?_
  have hi:atI ((c::r).map V.int) 0=some (.int c):=atI_nat (j:=0) rfl
  refine ⟨.ref p,rfl,p,.ref wa,rfl,dg_w hp,wa,_,0,.int c,rfl,rfl,SqL.of hw,hi,.int m,rfl,c,m,rfl,rfl,_,rfl,?_⟩
  by_cases hc:c<m
  ·rw [decide_eq_true hc]
   refine iteT ?_
   refine ⟨.ref p,rfl,p,.ref wa,rfl,dg_w hp,.inl ⟨rfl,_,SqL.of hw⟩,wa,(c::r).map V.int,0,0,.int c,rfl,rfl,hw,by decide,by decide,seqIndex_of (by decide) (by rw [len_map_int];simp),rfl,?_⟩
   refine fin _ r (by show r=if c<m then r else c::r;rw [if_pos hc]) (by rw [upd_ne ne];exact hp) (by rw [upd_same];rfl) fun b h1 h2=>by rw [upd_ne h2]
  ·rw [decide_eq_false hc]
   refine iteF ?_
   exact fin H (c::r) (by show c::r=if c<m then r else c::r;rw [if_neg hc]) hp hw fun _ _ _=>rfl
theorem gr_off {p wa:Addr} {Hf H H':Hp} (e1:Ext (penD p wa) Hf H) (ag:∀b,b≠p→b≠wa→H' b=H b):Gr (penD p wa) Hf H Hf H':=
 have no:∀b,¬(penD p wa).fp b→b≠p∧b≠wa:=fun b n=>⟨fun z=>n (.inl z),fun z=>n (.inr z)⟩
 ⟨fun b u n q=>by rw [ag b (no b n).1 (no b n).2];exact q,.refl _ _,fun b u n q=>by rw [ag b (no b n).1 (no b n).2];exact e1 b u n q,fun b n h1 h2=>h1⟩
theorem draw_spec {K:PySem.W.Frag} {vs:List V} {H:Hp} {Q:VK} {E:XK} {N:St→Hp→Prop} (h:spD 2 true PenD drawF vs H Q E):∃p m,vs=[.ref p,.int m]∧tdrawT K { nx:=N,rt:=Q } [some (.ref p),some (.int m),none,none,none] H:=by
 obtain ⟨G,Hf,ds,pn,d,pn',hG,el,e1,r,st',eF,k'⟩:=h
 obtain ⟨p,wa,rfl⟩:=hG
 obtain ⟨m,x,t,ww,rfl,rfl,m0,m1,t0,t1,eS⟩:=drawF_some eF
 obtain ⟨v1,v2,rfl,r1,r2⟩:=RepL.two_inv r
 cases (Rep.pen_iff.mp r1)
 cases (Rep.int_iff.mp r2)
 obtain ⟨x',t',ea,hp,hw,ne⟩:=st'
 simp only [List.cons.injEq,and_true] at ea
 obtain ⟨rfl,rfl⟩:=ea
 refine ⟨p,m,rfl,draw_sem m0 m1 t0 t1 eS hp hw ne fun i H' ed ag st=>?_⟩
 exact k' _ Hf H' (gr_off e1 ag) st (by rw [ed];exact Rep.int_iff.mpr rfl) fun _=>.scal fun z=>by rw [ed] at z;exact z
theorem pe_compS {X:Cx} {XN:List Str} {NS:List (Str×NameKind)} {elt tg iter:Expr} {ifs:List Expr} {scope:Scope} {pos:Pos} {N':List Str} {src:List (Option Nat)} {wi:TI} {g:TG} {tt:TT} {te:TE} (hc:X.calm=true) (B:BlkS X XN NS N' src scope) (hi:PI X tg iter wi)
  (hg:∀cl pins C s H fp,PG (L2.blk X pins N' scope cl C s H fp) tg g) (ht:∀cl pins C s H fp,PIfs (L2.blk X pins N' scope cl C s H fp) ifs tt) (he:∀cl pins C s H fp,PE (L2.blk X pins N' scope cl C s H fp) elt te)
  (hs:∀x,foldedSetIterable iter X.env x=pure x:=by intro _;rfl):PE X (.ListComp elt [⟨tg,iter,ifs,0⟩] scope pos) (tComp src wi g tt te):=by
 intro pins s σ H Q I h
 obtain ⟨cl,B'⟩:=B.ok I.ok
 exact pe_comp hc B' hi (hg cl) (ht cl) (he cl) hs pins s σ H Q I h
noncomputable def tpenW (K:PySem.W.Frag):TE:=tComp [none] (iList K (tVar 0)) (gName 0) (tTest (tOp (rI0 fun i j=>.bl (decide (j≤i))) (tVar 0) (tOp (rI CPow fun i j=>.int (i ^ j.toNat)) (tC (.int 10)) (tC (.int 15))))) (tVar 0)
noncomputable def tpenT (K:PySem.W.Frag):TS:=tSeq (tAsg (tC (.int 7)) (gName 1))
 (tSeq (tFor (iList K (tVar 0)) (gName 2) (tAsg (tOp (rI (fun _ j=>0<j) fun i j=>.int (i % j)) (tOp (rI0 fun i j=>.int (i+j)) (tOp (rI0 fun i j=>.int (i+j)) (tOp (rI CMul fun i j=>.int (i*j)) (tVar 1) (tC (.int 48271))) (tOp (rI (fun _ j=>0<j) fun i j=>.int (i % j)) (tVar 2) (tC (.int 1000000007)))) (tC (.int 11))) (tC (.int 2147483629))) (gName 1)))
 (tRet (tDisp [(tC (.str (Str.ofString "mixed")),tVar 1),(tC (.str (Str.ofString "turn")),tC (.int 0)),(tC (.str (Str.ofString "wide")),tpenW K)])))
theorem sq_upd {K:PySem.W.Frag} {H:Hp} {a p:Addr} {xs:List V} {o:HO} (sq:SqL K H a xs) (hp:H p=none):SqL K (upd H p o) a xs:=by
 have hne:∀u,H a=some u→a≠p:=fun u e z=>by rw [z,hp] at e;cases e
 rcases sq with (q | ⟨o',q⟩) | q
 ·exact .inl (.inl (by rw [upd_ne (hne _ q)];exact q))
 ·exact .inl (.inr ⟨o',by rw [upd_ne (hne _ q)];exact q⟩)
 ·exact .inr q
theorem upd_upd' {H:Hp} {p:Addr} {o o':HO}:upd (upd H p o) p o'=upd H p o':=by
 funext b
 by_cases h:b=p
 ·subst h;rw [upd_same,upd_same]
 ·rw [upd_ne h,upd_ne h,upd_ne h]
theorem merge_pen (m t:Int) (wa:Addr):mergeK [] (penKv m t wa)=penKv m t wa:=by
 have h3:¬(Str.ofString "mixed" = Str.ofString "turn"):=by decide
 have h4:¬(Str.ofString "mixed" = Str.ofString "wide"):=by decide
 have h5:¬(Str.ofString "turn" = Str.ofString "wide"):=by decide
 simp [mergeK,penKv,putK,h3,h4,h5]
theorem wide_take (ns:List Int) (i:Nat) (c:Int) (h:ns[i]?=some c):wideOf (ns.take (i+1))=wideOf (ns.take i)++(if decide (10 ^ 15≤c)=true then [c] else []):=by
 unfold wideOf
 rw [List.take_succ,h,List.filter_append]
 congr 1
 by_cases hc:(10:Int) ^ 15≤c
 ·rw [if_pos (decide_eq_true hc)]
  exact List.filter_cons_of_pos (decide_eq_true hc)
 ·rw [if_neg (by simpa using hc)]
  exact List.filter_cons_of_neg (by simpa using hc)
theorem penW_sem {K:PySem.W.Frag} {a:Addr} {ns:List Int} {H:Hp} {Q:VK} {o1 o2:Option V} (sq:SqL K H a (ns.map V.int)) (hl:ns.length≤63) (k:∀p,H p=none→Q (.ref p) (upd H p (.lst ((wideOf ns).map V.int)))):tpenW K [some (.ref a),o1,o2] H Q:=by
 refine ⟨.ref a,rfl,a,rfl,⟨_,sq⟩,fun p hp=>?_⟩
 refine ⟨fun i n σ2 H2=>i≤ns.length∧n=ns.length-i∧(∃o,σ2=[o])∧H2=upd H p (.lst ((wideOf (ns.take i)).map V.int)),⟨ns.length,Nat.zero_le _,by omega,⟨none,rfl⟩,rfl⟩,fun i n σ2 H2 ⟨hi,hn,⟨o,hσ⟩,hH⟩=>?_⟩
 subst hσ hH
 have sq2:SqL K (upd H p (.lst ((wideOf (ns.take i)).map V.int))) a (ns.map V.int):=sq_upd sq hp
 by_cases he:i=ns.length
 ·refine .inl ⟨⟨_,sq2,by rw [List.length_map];omega⟩,?_⟩
  subst he
  rw [List.take_length]
  exact k p hp
 ·have hlt:i<ns.length:=by omega
  have gi:(ns.map V.int)[i]?=some (.int ns[i]):=by rw [List.getElem?_map,List.getElem?_eq_getElem hlt];rfl
  refine .inr ⟨⟨_,_,sq2,gi⟩,fun x H3 ⟨y1,y2⟩=>?_⟩
  subst y1
  have ex:=y2 _ sq2
  rw [gi] at ex
  cases ex
  refine ⟨.int ns[i],rfl,10,15,rfl,rfl,⟨by decide,by decide,by decide⟩,ns[i],10 ^ (15:Int).toNat,rfl,rfl,_,rfl,?_⟩
  have ew:=wide_take ns i ns[i] (List.getElem?_eq_getElem hlt)
  by_cases hc:(10:Int) ^ 15≤ns[i]
  ·have hd:decide ((10:Int) ^ (15:Int).toNat≤ns[i])=true:=decide_eq_true hc
   rw [hd]
   refine iteT ?_
   refine ⟨.int ns[i],rfl,(wideOf (ns.take i)).map V.int,upd_same,?_,n-1,by omega,by omega,by omega,⟨_,rfl⟩,?_⟩
   ·have:(wideOf (ns.take i)).length≤(ns.take i).length:=List.length_filter_le ..
    rw [List.length_map,sizeLine_eq]
    have:=List.length_take_le i ns
    omega
   ·rw [upd_upd',ew,if_pos (decide_eq_true hc),List.map_append]
    rfl
  ·have hd:decide ((10:Int) ^ (15:Int).toNat≤ns[i])=false:=decide_eq_false hc
   rw [hd]
   refine iteF ?_
   refine ⟨n-1,by omega,by omega,by omega,⟨_,rfl⟩,?_⟩
   rw [ew,if_neg (by simpa using hc),List.append_nil]
theorem pen_sem {K:PySem.W.Frag} {a:Addr} {ns:List Int} {H:Hp} {Q:VK} {N:St→Hp→Prop} (sq:SqL K H a (ns.map V.int)) (hl:ns.length≤63) (k:∀(p wa:Addr) (m:Int) (H':Hp),stD p wa ([m,0],wideOf ns) H'→(∀b u,H b=some u→H' b=some u)→H p=none→H wa=none→Q (.ref p) H') :
  tpenT K { nx:=N,rt:=Q } [some (.ref a),none,none] H:=by
 refine ⟨.ref a,rfl,a,rfl,⟨_,sq⟩,?_⟩
 refine ⟨fun i n σ2 H2=>i≤ns.length∧n=ns.length-i∧(∃x o2,σ2=[some (.ref a),some (.int x),o2])∧H2=H,⟨ns.length,Nat.zero_le _,by omega,⟨7,none,rfl⟩,rfl⟩,fun i n σ2 H2 ⟨hi,hn,⟨x,o2,hσ⟩,hH⟩=>?_⟩
 subst hσ hH
 by_cases he:i=ns.length
 ·refine .inl ⟨⟨_,sq,by rw [List.length_map];omega⟩,?_⟩
  intro p hp
  refine ⟨.int x,rfl,?_⟩
  have hp2:(upd H2 p (.dK [])) p=some (.dK []):=upd_same
  show tpenW K [some (.ref a),some (.int x),o2] (upd H2 p (.dK [])) (fun y H3=>H3 p=some (.dK [])∧∃kvs:List (Key×V),[(V.str (Str.ofString "mixed"),V.int x),(V.str (Str.ofString "turn"),V.int 0),(V.str (Str.ofString "wide"),y)]=kvs.map (fun kv=>(kV kv.1,kv.2))∧kvs.length≤15∧Q (.ref p) (upd H3 p (.dK (mergeK [] kvs))))
  refine penW_sem (sq_upd sq hp) hl fun wa hwa=>?_
  have ne:p≠wa:=fun z=>by rw [←z,upd_same] at hwa;cases hwa
  refine ⟨by rw [upd_ne ne];exact hp2,penKv x 0 wa,rfl,by show 3≤15;decide,?_⟩
  rw [merge_pen]
  have hwa0:H2 wa=none:=by rw [upd_ne (Ne.symm ne)] at hwa;exact hwa
  exact k p wa x _ ⟨x,0,rfl,upd_same,by rw [upd_ne (Ne.symm ne)];exact upd_same,ne⟩ (fun b u e=>by rw [upd_ne (ne_of_none e hp),upd_ne (ne_of_none e hwa0),upd_ne (ne_of_none e hp)];exact e) hp hwa0
 ·have hlt:i<ns.length:=by omega
  have gi:(ns.map V.int)[i]?=some (.int ns[i]):=by rw [List.getElem?_map,List.getElem?_eq_getElem hlt];rfl
  refine .inr ⟨⟨_,_,sq,gi⟩,fun σ' H'=>(∃x o2,σ'=[some (.ref a),some (.int x),o2])∧H'=H2,fun σ' H' h=>⟨n-1,by omega,by omega,by omega,h.1,h.2⟩,fun x' H' ⟨y1,y2⟩=>?_⟩
  subst y1
  have ex:=y2 _ sq
  rw [gi] at ex
  cases ex
  refine ⟨.int x,rfl,x,48271,rfl,rfl,.inr ⟨by decide,by decide⟩,.int ns[i],rfl,ns[i],1000000007,rfl,rfl,(by show (0:Int)<1000000007;decide),x*48271,ns[i] % 1000000007,rfl,rfl,x*48271+ns[i] % 1000000007,11,rfl,rfl,x*48271+ns[i] % 1000000007+11,2147483629,rfl,rfl,(by show (0:Int)<2147483629;decide),⟨_,_,rfl⟩,rfl⟩
noncomputable def inT (L:List (Addr×Str)) (b:Addr):Prop:=∃q,(b,q)∈L
noncomputable def TabSt (G0:Gh) (L:List (Addr×Str)) (P:Addr) (q:Str) (H:Hp):Prop:=∃ps,H P=some (.tbl ps)∧TriplesOk ps.toList∧∀pos cv,codeAmong pos ps.toList=some cv→∃c',cv=.ref c'∧H c'=some (.ext (codeφ c' q))∧¬G0.fp c'∧¬inT L c'
noncomputable def tabsG (G0:Gh) (L:List (Addr×Str)):Gh where
 fp:=fun b=>G0.fp b∨inT L b
 rd:=fun b=>G0.rd b∨inT L b
 pen:=G0.pen
 st:=fun s H=>G0.st s H∧∀P q,(P,q)∈L→TabSt G0 L P q H
 mono:=fun s H H' ⟨h1,h2⟩ k1 k2=>⟨G0.mono s H H' h1 (fun b o r=>k1 b o (.inl r)) k2,fun P q m=>by
  obtain ⟨ps,e,t,h⟩:=h2 P q m
  refine ⟨ps,k1 P _ (.inr ⟨q,m⟩) e,t,fun pos cv hc=>?_⟩
  obtain ⟨c',z1,z2,z3⟩:=h pos cv hc
  exact ⟨c',z1,k2 _ _ z2,z3⟩⟩
 sub:=fun b h=>h.elim (fun z=>.inl (G0.sub b z)) .inr
 dom:=fun s H b ⟨h1,h2⟩ hb=>by
  rcases hb with z | ⟨q,m⟩
  ·exact G0.dom s H b h1 z
  ·obtain ⟨ps,e,_⟩:=h2 b q m
   exact ⟨_,e⟩
 ntp:=fun s H b vs ⟨h1,h2⟩ hb=>by
  rcases hb with z | ⟨q,m⟩
  ·exact G0.ntp s H b vs h1 z
  ·obtain ⟨ps,e,_⟩:=h2 b q m
   rw [e];intro z;cases z
theorem codeAmong_put {pos pos':Pos} {c:Value} (l:List Value) (h:TriplesOk l) {cv:Value} (hc:codeAmong pos' (l ++ [rawInt pos.line,rawInt pos.col,c])=some cv):codeAmong pos' l=some cv∨cv=c:=by
 fun_induction TriplesOk l with
 | case1=>
  simp only [List.nil_append,rawInt,codeAmong] at hc
  split at hc
  ·exact .inr (Option.some.inj hc).symm
  ·cases hc
 | case2 a b d e f rest ih=>
  simp only [List.cons_append,codeAmong] at hc ⊢
  split at hc
  ·rename_i h1;rw [if_pos h1];exact .inl hc
  ·rename_i h1;rw [if_neg h1];exact ih h hc
 | case3=>cases h
theorem triples_put {pos:Pos} {c:Value} (l:List Value) (h:TriplesOk l):TriplesOk (l ++ [rawInt pos.line,rawInt pos.col,c]):=by
 fun_induction TriplesOk l with
 | case1=>simp [TriplesOk,rawInt]
 | case2 a b d e f rest ih=>simp only [List.cons_append,TriplesOk];exact ih h
 | case3=>cases h
noncomputable def LOk (L:List (Addr×Str)):Prop:=∀P q q',(P,q)∈L→(P,q')∈L→q=q'
noncomputable def PenT (GG0:Gh→Prop) (L:List (Addr×Str)) (G:Gh):Prop:=∃G0,GG0 G0∧(∀b,inT L b→¬G0.rd b)∧G=tabsG G0 L
theorem tabG_of {G0:Gh} {L:List (Addr×Str)} {P:Addr} {q:Str} (lo:LOk L) (hrd:∀b,inT L b→¬G0.rd b) (m:(P,q)∈L):TabG P q (tabsG G0 L):=by
 refine ⟨fun s H st=>?_,.inr ⟨q,m⟩,fun s H ps pos c' st hP hc hn=>?_⟩
 ·obtain ⟨ps,e,t,h⟩:=st.2 P q m
  refine ⟨ps,e,t,fun pos cv hc=>?_⟩
  obtain ⟨c',z1,z2,z3,z4⟩:=h pos cv hc
  exact ⟨c',z1,z2,fun z=>z.elim z3 z4⟩
 ·have hcP:c'≠P:=fun z=>by rw [z,hP] at hc;cases hc
  have notL:¬inT L c':=fun ⟨q',m'⟩=>by
   obtain ⟨_,e,_⟩:=st.2 c' q' m'
   rw [hc] at e;cases e
  have k2:∀b φ,H b=some (.ext φ)→upd (upd H P (.tbl (ps ++ #[rawInt pos.line,rawInt pos.col,.ref c']))) c' (.ext (codeφ c' q)) b=some (.ext φ):=fun b φ e=>by
   rw [upd_ne (ne_of_none e hc),upd_ne (fun z=>by rw [z,hP] at e;cases e)];exact e
  refine ⟨G0.mono s H _ st.1 (fun b o r e=>?_) k2,fun P' q' m'=>?_⟩
  ·rw [upd_ne (ne_of_none e hc),upd_ne (fun z=>hrd P ⟨q,m⟩ (by rw [←z];exact r))];exact e
  ·by_cases hb:P'=P
   ·subst hb
    have:=lo P' q q' m m'
    subst this
    obtain ⟨ps',e,t,h⟩:=st.2 P' q m
    rw [hP] at e;cases e
    refine ⟨_,by rw [upd_ne (Ne.symm hcP),upd_same],?_,fun pos' cv hcv=>?_⟩
    ·rw [Array.toList_append];exact triples_put _ t
    ·rw [Array.toList_append] at hcv
     rcases codeAmong_put (pos:=pos) _ t hcv with z | z
     ·obtain ⟨c2,z1,z2,z3⟩:=h pos' cv z
      exact ⟨c2,z1,k2 _ _ z2,z3⟩
     ·exact ⟨c',z,upd_same,Gh.nofp st.1 hc,notL⟩
   ·obtain ⟨ps',e,t,h⟩:=st.2 P' q' m'
    refine ⟨ps',by rw [upd_ne (ne_of_none e hc),upd_ne hb];exact e,t,fun pos' cv hcv=>?_⟩
    obtain ⟨c2,z1,z2,z3⟩:=h pos' cv hcv
    exact ⟨c2,z1,k2 _ _ z2,z3⟩
noncomputable def TabsG (L:List (Addr×Str)) (G:Gh):Prop:=∀P q,(P,q)∈L→TabG P q G
theorem PenT.tabs {GG0:Gh→Prop} {L:List (Addr×Str)} {G:Gh} (lo:LOk L) (h:PenT GG0 L G):TabsG L G:=by
 obtain ⟨G0,_,hrd,rfl⟩:=h
 exact fun P q m=>tabG_of lo hrd m
mutual
theorem Rep.tr {G G':Gh} {H H':Hp} (h:∀a o,¬G.fp a→H a=some o→(∀ps,o≠.tbl ps)→¬G'.fp a∧H' a=some o) (hp:G'.pen=G.pen):∀{d:D} {v:V},noClo d=true→Rep G H d v→Rep G' H' d v
 | .non,_,_,r=>Rep.non_iff.mpr (Rep.non_iff.mp r)
 | .bl _,_,_,r=>Rep.bl_iff.mpr (Rep.bl_iff.mp r)
 | .int _,_,_,r=>Rep.int_iff.mpr (Rep.int_iff.mp r)
 | .str _,_,_,r=>Rep.str_iff.mpr (Rep.str_iff.mp r)
 | .tup ds,v,n,r=>by
  obtain ⟨a,vs,e1,nf,e2,r⟩:=Rep.tup_iff.mp r
  obtain ⟨z1,z2⟩:=h a _ nf e2 (fun _ z=>by cases z)
  exact Rep.tup_iff.mpr ⟨a,vs,e1,z1,z2,RepL.tr h hp (by simpa [noClo] using n) r⟩
 | .lst ds,v,n,r=>by
  obtain ⟨a,vs,e1,nf,e2,r⟩:=Rep.lst_iff.mp r
  obtain ⟨z1,z2⟩:=h a _ nf e2 (fun _ z=>by cases z)
  exact Rep.lst_iff.mpr ⟨a,vs,e1,z1,z2,RepL.tr h hp (by simpa [noClo] using n) r⟩
 | .dk _,_,_,r=>by
  obtain ⟨a,e1,nf,e2⟩:=Rep.dk_iff.mp r
  obtain ⟨z1,z2⟩:=h a _ nf e2 (fun _ z=>by cases z)
  exact Rep.dk_iff.mpr ⟨a,e1,z1,z2⟩
 | .dt _,_,_,r=>by
  obtain ⟨a,o,e1,nf,e2⟩:=Rep.dt_iff.mp r
  obtain ⟨z1,z2⟩:=h a _ nf e2 (fun _ z=>by cases z)
  exact Rep.dt_iff.mpr ⟨a,o,e1,z1,z2⟩
 | .du _,_,_,r=>by
  obtain ⟨a,e1,nf,e2⟩:=Rep.du_iff.mp r
  obtain ⟨z1,z2⟩:=h a _ nf e2 (fun _ z=>by cases z)
  exact Rep.du_iff.mpr ⟨a,e1,z1,z2⟩
 | .df _,_,_,r=>by
  obtain ⟨a,o,e1,nf,e2⟩:=Rep.df_iff.mp r
  obtain ⟨z1,z2⟩:=h a _ nf e2 (fun _ z=>by cases z)
  exact Rep.df_iff.mpr ⟨a,o,e1,z1,z2⟩
 | .pen,_,_,r=>Rep.pen_iff.mpr ((Rep.pen_iff.mp r).trans hp.symm)
 | .ty _,_,_,r=>Rep.ty_iff.mpr (Rep.ty_iff.mp r)
 | .clo _ _,_,n,_=>by simp [noClo] at n
theorem RepL.tr {G G':Gh} {H H':Hp} (h:∀a o,¬G.fp a→H a=some o→(∀ps,o≠.tbl ps)→¬G'.fp a∧H' a=some o) (hp:G'.pen=G.pen):∀{ds:List D} {vs:List V},noClos ds=true→RepL G H ds vs→RepL G' H' ds vs
 | [],_,_,r=>RepL.nil_iff.mpr (RepL.nil_iff.mp r)
 | d::ds,vs,n,r=>by
  obtain ⟨v,rr,e,h1,h2⟩:=RepL.cons_iff.mp r
  have n':noClo d=true∧noClos ds=true:=by simpa [noClos] using n
  exact RepL.cons_iff.mpr ⟨v,rr,e,Rep.tr h hp n'.1 h1,RepL.tr h hp n'.2 h2⟩
end
open Classical in
noncomputable def hidL (L:List (Addr×Str)) (H H2:Hp):Hp:=fun b=>if inT L b then H2 b else H b
theorem hidL_in {L:List (Addr×Str)} {H H2:Hp} {b:Addr} (h:inT L b):hidL L H H2 b=H2 b:=by unfold hidL;rw [if_pos h]
theorem hidL_out {L:List (Addr×Str)} {H H2:Hp} {b:Addr} (h:¬inT L b):hidL L H H2 b=H b:=by unfold hidL;rw [if_neg h]
theorem fn_tabs {P:Program} {w:World} {K:PySem.W.Frag} {mg:Str→Option Value} {base:Heap} {k:Nat} {f:Addr} {fd:FuncData} {ps:List Str} {n:Nat} {fr:Bool} {GG0:Gh→Prop} {L:List (Addr×Str)} {F:List D→M D} (FN:FnOk P w K mg base CX0 k f fd ps (spD n fr GG0 F))
  (hF:∀ds s d s',F ds s=some (d,s')→noClos ds=true∧noClo d=true):FnOk P w K mg base CX0 k f fd ps (spD n fr (PenT GG0 L) F):=by
 refine FN.imp fun vs H Q E h=>?_
 obtain ⟨G,Hf,ds,s,d,s',⟨G0,hG0,hrd,rfl⟩,hl,e1,r,st,eF,k⟩:=h
 obtain ⟨n1,n2⟩:=hF _ _ _ _ eF
 have nfp:∀b,inT L b→¬G0.fp b:=fun b m z=>hrd b m (G0.sub b z)
 have e1':Ext G0 (hidL L Hf fun _=>none) H:=fun b o nb q=>by
  by_cases m:inT L b
  ·rw [hidL_in m] at q;cases q
  ·rw [hidL_out m] at q;exact e1 b o (fun z=>z.elim nb m) q
 refine ⟨G0,hidL L Hf fun _=>none,ds,s,d,s',hG0,hl,e1',RepL.tr (G:=tabsG G0 L) (G':=G0) (fun a o na q _=>?_) rfl n1 r,st.1,eF,fun v Hf' H' g st' r' fz=>?_⟩
 ·have m:¬inT L a:=fun z=>na (.inr z)
  exact ⟨fun z=>na (.inl z),by rw [hidL_out m];exact q⟩
 ·have tab:∀b,inT L b→∃ps,H' b=some (.tbl ps):=fun b ⟨q,m⟩=>by
   obtain ⟨ps,e,_⟩:=st.2 b q m
   exact ⟨ps,g.hh b _ (nfp b ⟨q,m⟩) e⟩
  have out:∀a o,¬G0.fp a→Hf' a=some o→(∀ps,o≠.tbl ps)→¬inT L a:=fun a o na q no m=>by
   obtain ⟨ps,e⟩:=tab a m
   rw [g.fh a o na q] at e
   exact no ps (Option.some.inj e)
  have tr:∀a o,¬G0.fp a→Hf' a=some o→(∀ps,o≠.tbl ps)→¬(tabsG G0 L).fp a∧hidL L Hf' Hf a=some o:=fun a o na q no=>by
   have m:=out a o na q no
   exact ⟨fun z=>z.elim na m,by rw [hidL_out m];exact q⟩
  refine k v (hidL L Hf' Hf) H' ⟨fun b o nb q=>g.hh b o (fun z=>nb (.inl z)) q,fun b o nb q=>?_,fun b o nb q=>?_,fun b nb q1 q2=>?_⟩ ⟨st',fun P q m=>?_⟩ (Rep.tr (G:=G0) (G':=tabsG G0 L) tr rfl n2 r') fun z a ea mu=>?_
  ·have m:¬inT L b:=fun z=>nb (.inr z)
   rw [hidL_out m]
   exact g.ff b o (fun z=>nb (.inl z)) (by rw [hidL_out m];exact q)
  ·have m:¬inT L b:=fun z=>nb (.inr z)
   rw [hidL_out m] at q
   exact g.fh b o (fun z=>nb (.inl z)) q
  ·have m:¬inT L b:=fun z=>nb (.inr z)
   rw [hidL_out m]
   exact g.nw b (fun z=>nb (.inl z)) (by rw [hidL_out m];exact q1) q2
  ·obtain ⟨ps,e,t,h⟩:=st.2 P q m
   refine ⟨ps,g.hh P _ (nfp P ⟨q,m⟩) e,t,fun pos cv hc=>?_⟩
   obtain ⟨c',z1,z2,z3,z4⟩:=h pos cv hc
   exact ⟨c',z1,g.hh c' _ z3 z2,z3,z4⟩
  ·obtain ⟨h1,h2⟩:=fz z a ea mu
   refine ⟨h1,fun xs ed=>?_⟩
   obtain ⟨us,Hm,q1,q2,q3,q4⟩:=h2 xs ed
   have na:¬inT L a:=fun m=>by
    obtain ⟨q,m⟩:=m
    obtain ⟨ps,e,_⟩:=st.2 a q m
    rw [h1] at e;cases e
   refine ⟨us,hidL L Hm fun _=>none,by rw [hidL_out na];exact q1,by rw [hidL_out na];exact q2,fun b o nb q=>?_,?_⟩
   ·have m:¬inT L b:=fun z=>nb (.inr z)
    rw [hidL_out m] at q ⊢
    exact q3 b o (fun z=>nb (.inl z)) q
   ·subst ed
    refine RepL.tr (G:=G0) (G':=tabsG G0 L) (fun b o nb q no=>?_) rfl (by simpa [noClo] using n2) q4
    have m:=out b o nb (q3 b o nb q) no
    exact ⟨fun z=>z.elim nb m,by rw [hidL_out m];exact q⟩
theorem cal_tabs {P:Program} {w:World} {K:PySem.W.Frag} {mg:Str→Option Value} {base:Heap} {k:Nat} {x:Str} {n:Nat} {fr:Bool} {GG0:Gh→Prop} {L:List (Addr×Str)} {F:List D→M D} (c:Cal P w K mg base k x n fr GG0 F) (hF:∀ds s d s',F ds s=some (d,s')→noClos ds=true∧noClo d=true):Cal P w K mg base k x n fr (PenT GG0 L) F:=
 let ⟨f,fd,ps,a,b,c,d⟩:=c
 ⟨f,fd,ps,fn_tabs a hF,b,c,d⟩
theorem drawF_no:∀ds s d s',drawF ds s=some (d,s')→noClos ds=true∧noClo d=true:=fun ds s d s' h=>by
 obtain ⟨k,m,t,w,rfl,rfl,_,_,_,_,e⟩:=drawF_some h
 refine ⟨rfl,?_⟩
 unfold drawS at e
 split at e <;> (cases e;rfl)
theorem fnD_body {N ps:List Str} {own:List Nat} {fr:Bool} {G:Gh} {t:TS} {g:Rho→M Out} {vs:List V} {ds:List D} {Hf H:Hp} {pn pn':Pn} {d:D} {Q:VK} (hpl:ps.length≤N.length) (q:Dos G [] [] own fr t g) (e1:Ext G Hf H) (r:RepL G Hf ds vs) (st':G.st pn H) (eF:runB N.length ps.length g ds pn=some (d,pn'))
  (k':∀v Hf' H',Gr G Hf H Hf' H'→G.st pn' H'→Rep G Hf' d v→(fr=true→FreshL G H Hf' d v)→Q v H'):t { nx:=fun _ H'=>Q .non H',rt:=Q } (L2.start N vs) H:=by
 obtain ⟨hl,a0⟩:=mif_some eF
 obtain ⟨o,s1,a1,a2⟩:=mbind_some a0
 have j0:Jf G [] Hf Hf H (L2.start N vs) Hf H (ds.map some++List.replicate (N.length-ps.length) none):=by
  refine ⟨?_,.refl _ _,.refl e1,fun i d n e=>?_,fun i d m e=>absurd m (by simp),fun i j a di dj mi mj n e=>absurd mi (by simp)⟩
  ·have:=r.length
   unfold L2.start;simp;omega
  ·have hi:i<ds.length:=by
    by_cases hi:i<ds.length
    ·exact hi
    ·rw [List.getElem?_append_right (by simpa using hi),List.getElem?_replicate] at e
     split at e <;> cases e
   have e':ds[i]?=some d:=by
    rw [List.getElem?_append_left (by simpa using hi),List.getElem?_map] at e
    cases q:ds[i]? with
    | none=>rw [q] at e;cases e
    | some c=>rw [q] at e;simp at e;rw [e]
   obtain ⟨v,h1,h2⟩:=r.get e'
   refine ⟨v,?_,h2⟩
   unfold L2.start
   rw [List.getElem?_append_left (by simp;rw [←r.length];exact hi),List.getElem?_map,h1]
   rfl
 refine q Hf Hf H (L2.start N vs) H _ pn o s1 _ ⟨Hf,j0⟩ st' a1 ?_
 cases o with
 | rt c=>
  obtain ⟨rfl,rfl⟩:=mret_some a2
  exact fun v Hf' H' g' st2 r2 fz=>k' v Hf' H' g' st2 r2 fz
 | nx ρ'=>
  obtain ⟨rfl,rfl⟩:=mret_some a2
  exact fun σ' H' ⟨Hf',j'⟩ st2=>k' .non Hf' H' j'.gr st2 (Rep.non_iff.mpr rfl) fun _=>.scal fun z=>z
 | bk ρ'=>cases a2
 | ct ρ'=>cases a2
theorem fnDC {P:Program} {w:World} {K:PySem.W.Frag} {mg:Str→Option Value} {base:Heap} {x qual:Str} {st:Stmt} {f:Addr} {fd:FuncData} {N ps:List Str} {k:Nat} {own:List Nat} {fr:Bool} {GG:Gh→Prop} {g:Rho→M Out}
  (F:Fun K x qual st f fd) (S:FnScope N ps (defScope st))
  (hb:∀(A:Around) (outer:List Env) (s:Shared) (H:Hp) (E:XK),Room k (A.deeper (envOfC qual (defScope st) s.heap.objs.size f fd.code))→∀G,GG G→PDSs (cxOf CX0 P w K mg base N qual (defScope st) f fd.code A outer s H E).nox G [] [] own fr (defBody st) g) :
  FnOk P w K mg base CX0 (k+1) f fd ps (spD ps.length fr GG (runB N.length ps.length g)):=by
 obtain ⟨oc,od,kV,doc,pm,an,cdv,ct,osl,rfl,lk,hcd⟩:=F.ex
 refine fn_of lk hcd S (fun vs H Q E ⟨_,_,_,_,_,_,_,e,_⟩=>e) fun A outer s H vs Q E hr h=>?_
 obtain ⟨G,Hf,ds,pn,d,pn',hG,el,e1,r,st',eF,k'⟩:=h
 obtain ⟨t,p,q⟩:=hb A outer s H E hr G hG
 exact ⟨t,p.nox,fnD_body (by have:=congrArg List.length S.pre;rw [List.length_take] at this;omega) q e1 r st' eF k'⟩
section
variable {X:Cx} {G:Gh} {P c:Addr} {q:Str} {k kl n:Nat} {x:Str} {fr frb:Bool} {F:List D→M D} {T:Nat→List D→M D} {t:Nat} {e1:Expr} {f1:Rho→M D} {r1:Bool} {params:Arguments} {scope:Scope} {lpos ppos pos:Pos} {XN N ps:List Str} {NS:List (Str×NameKind)} {cix:List Nat}
noncomputable def sDefRet (i:Nat) (f:Rho→M D):Rho→M Out:=fun ρ=>if i < ρ.length then sRet f (ρ.set i none) else mfail
theorem pdss_defRet {name:Str} {body:List Stmt} {ob own own':List Nat} {i:Nat} {g:Rho→M Out} {npos rpos:Pos} (M:Mk0 X c P) (TG:TabG P q G) (hW:CalA X.prog X.w X.K X.mg k x 2 fr (CloG X.prog X.w X.K X.mg (kl+1) ps.length T) F) (hfn:∀x,X.fn x=true) (hr:Room k X.A) (hg:Gl X x)
  (hN:X.N.Nodup) (hi:X.N[i]?=some name) (hx:Loc X.env.scope name) (hpv:PE X (.Name name npos) (tVar i)) (h1:PD X G r1 e1 f1)
  (hq:qualnameIn X.env name name=q) (S:CloScope N ps scope) (B:CapS X XN NS N ps cix scope) (hT:T t=runB N.length N.length g)
  (hbind:∀(cl:List (Str×Addr)) (doc pm cd ct:Value) (us:List Value),us.length=ps.length→bindArgs (PySem.W.fnX name q params body scope cl .none .none doc pm none cd ct) ⟨us,[]⟩=pure (ps.zip us))
  (hb:∀(base:Heap) (f c':Addr) (cl:List (Str×Addr)) (G:Gh) (A:Around) (outer:List Env) (s:Shared) (H:Hp) (E:XK),Room kl (A.deeper (PySem.W.envX q scope s.heap.objs.size f (.ref c') cl))→PDSs (cxC CX0 X.prog X.w X.K X.mg base N q scope f (.ref c') cl A outer s H E).nox G [] [] [] frb body g)
  (hd0:params.defaults=[]:=by rfl) (hk0:params.kw_defaults=[]:=by rfl) (ha:annTrees params none X.env=[]:=by rfl) (hdb:(x==("__debug__" : Str))=false:=by decide)
  (he:starEach [e1,.Name name npos] X.env=(false,eval e1 X.env)::starEach [.Name name npos] X.env:=by rfl) (he2:starEach [Expr.Name name npos] X.env=(false,eval (.Name name npos) X.env)::starEach [] X.env:=by rfl)
  (hpl:(backTo pos (starEach [Expr.Name name npos] X.env)).any (·.1)=false:=by rfl) :
  PDSs X G ob own own' fr [.FunctionDef name params body [] none [] scope none name lpos,.Return (some (.Call (.Name x ppos) [e1,.Name name npos] [] pos)) rpos] (sDefRet i (dFnC F t cix f1)):=by
 obtain ⟨t1,p1,q1⟩:=h1.drop
 obtain ⟨f,fd0,ps0,FN,hm,hk,hbd⟩:=hW
 refine ⟨_,pss_cons (ps_def M hN hi hx hq B.hfree hd0 hk0 ha (.inl (hfn name))) (pss_one (ps_ret (pe_callC FN hfn hr hg hm hk hbd (pa_cons p1 (pa_cons hpv pa_nil he2) he) hdb he hpl))),fun kn Hf0 H0 σ H ρ s out s' E ⟨Hf,j⟩ st e po=>?_⟩
 obtain ⟨hilt,e⟩:=mif_some e
 obtain ⟨d,s9,x4,x5⟩:=mbind_some e
 obtain ⟨rfl,rfl⟩:=mret_some x5
 obtain ⟨d1,s1,a1,a2⟩:=mbind_some x4
 obtain ⟨cds,s2,b3,a4⟩:=mbind_some a2
 obtain ⟨a3,rfl⟩:=mOf_some b3
 obtain ⟨hn,a5⟩:=mif_some a4
 obtain ⟨cc,s3,a6,a7⟩:=mbind_some a5
 obtain ⟨hn2,a8⟩:=mif_some a7
 obtain ⟨rfl,rfl⟩:=mret_some a8
 obtain ⟨hn0,hn1⟩:=Bool.and_eq_true_iff.mp hn
 obtain ⟨tp,hP,htr,hhit⟩:=TG.get _ H st
 refine ⟨tp,hP,htr,fun cv h=>let ⟨c',z1,z2,_⟩:=hhit lpos cv h;⟨c',z1,z2⟩,fun p c' fd Hm ⟨cl,doc,pm,ctv,co,efd⟩ sl hp=>?_⟩
 subst efd
 obtain ⟨stm,hc',ex⟩:=slot_st TG st hP sl
 have nfc:¬G.fp c':=by
  rcases sl with ⟨_,z1,_⟩ | ⟨_,z2,_⟩
  ·obtain ⟨c2,e1,_,e3⟩:=hhit lpos _ z1
   cases e1;exact e3
  ·exact Gh.nofp st z2
 have nfp:¬G.fp p:=Gh.nofp stm hp
 have hcp:c'≠p:=fun z=>by rw [z,hp] at hc';cases hc'
 have gr:=made_gr (Hf:=wide Hf0 H0 H) (o:=.ext (fnφ p (PySem.W.fnX name q params body scope cl .none .none doc pm none (.ref c') ctv))) wide_ext ex hp
 have env:EnvR G (wide Hf0 H0 H) (σ.set i (some (.ref p))) (ρ.set i none):=fun l d' e'=>by
  by_cases hl:l=i
  ·subst hl
   rw [List.getElem?_set_self hilt] at e';cases e'
  ·rw [List.getElem?_set_ne (Ne.symm hl)] at e' ⊢
   exact j.envB l d' e'
 refine q1 (σ.set i (some (.ref p))) _ _ (ρ.set i none) s d1 _ _ gr.fh env (Gh.grow stm hp) a1 fun v1 Hf1 H1 g1 st1 rv1=>?_
 refine ⟨.ref p,by rw [List.getElem?_set_self (by rw [j.len];exact hilt)],?_⟩
 obtain ⟨cvs,l1,l2,l3⟩:=caps_rep (env.ext g1.ff) a3
 intro base' cs
 have C:CloAt base' cl scope N ps cvs:=B.cloAt cs co l1 l3
 have hp1:H1 p=some (.ext (fnφ p (PySem.W.fnX name q params body scope cl .none .none doc pm none (.ref c') ctv))):=g1.hh p _ nfp upd_same
 have hc1:H1 c'=some (.ext (codeφ c' q)):=g1.hh c' _ nfc (by rw [upd_ne hcp];exact hc')
 refine ⟨cloG G t p c' (PySem.W.fnX name q params body scope cl .none .none doc pm none (.ref c') ctv) q cvs,Hf1,[d1,.clo t cds],_,d,_,clo_ok (X:=X) (.all (hbind cl doc pm (.ref c') ctv)) (fnKS S C (fun s H st=>st.2) fun A outer s H E hr=>hb base' p c' cl _ A outer s H E hr) hT,rfl,g1.fh,?_,⟨st1,hp1,hc1⟩,a6,fun v Hf3 H3 g3 st3 r3 fz=>?_⟩
 ·exact .cons (toC hn0 rv1) (.one (Rep.clo_iff.mpr ⟨cvs,⟨rfl,rfl,rfl⟩,toCL hn1 l2⟩))
 ·have gg:=(gr.trans g1).trans (grC g3)
  have rr:Rep G Hf3 d v:=ofC hn2 r3
  exact po v Hf3 H3 (j.grW gg) st3.1 rr fun z=>FreshL.old ((j.gr.hh.trans gr.hh).trans g1.hh) rr.nofp (frC hn2 (fz z))
end
noncomputable def BMn (mg:Str→Option Value) (h:Heap):Prop:=∃bm o,mg "__builtins__" = some (.ref bm)∧bm≠builtinsNs∧bm≠mainGlobals∧h.get? bm=some o∧o.cls=.type "module"∧o.dict=some builtinsNs∧o.data=.plain
theorem law_callT {P:Program} {w:World} {K:PySem.W.Frag} {mg mb:Str→Option Value} {CX:CXT} {k:Nat} {fa a:Addr} {fd:FuncData} {x:Str} {sp:Sp} {s₁:Shared} {vs:List Value} {ns:List Int} {tb:List (Addr×Addr)}
  (KX:K.In s₁.heap) (hns:s₁.heap.Ns mainGlobals mg) (hb:s₁.heap.Ns builtinsNs mb) (hbb:∀x:Str,x≠"__name__"→mb x=bootBuiltins x) (hlim:s₁.heap.NoLimit) (hg:s₁.gens = #[])
  (hT:∀e∈tb,PySem.W.CodeHd s₁.heap e.1 e.2∧s₁.heap.get? e.2=some (PySem.W.tabObj #[])) (hKt:PySem.W.noTabs K=true) (hbm:BMn mg s₁.heap)
  (ha:s₁.heap.get? a=some { cls:=.type "list",data:=.seq vs.toArray }) (hi:IntsAre vs ns) (hl:ns.length≤sizeLine) (hr:Room k callerA)
  (F:∀base:Heap,K.In base→base.Ns mainGlobals mg→(∀e∈tb,PySem.W.CodeHd base e.1 e.2)→BMn mg base→FnOk P w K mg base CX k fa fd [x] sp) (hbind:∀(s:Shared) (u:Value),BindsTo s fd ⟨[u],[]⟩ [(x,u)])
  (hsp:∀H:Hp,SqL K H a (ns.map V.int)→(∀e∈tb,H e.2=some (.tbl #[]))→sp [.ref a] H (fun v _=>v=.bl true) fun _ _ _=>False)
  (hCX:∀H e s',CX [] H s₁ (fun _ _ _=>False) e s'→False) :
  codeAny (model P w) callerA (.call (.ref fa) ⟨[.ref a],[]⟩) (fun r s'=>r=.ok (.ret (.bool true))∧OldK s₁.heap s'.heap∧s'.os=s₁.os∧AllBare s'.gens) s₁:=by
 have rv:=vals_ints hi
 have lenV:=hi.length
 have tabne:∀e∈tb,e.2≠a:=fun e he z=>by
  have:=(hT e he).2
  rw [z,ha] at this;cases this
 have noK:∀e∈tb,K.lookup e.2=none:=fun e he=>by
  cases q:K.lookup e.2 with
  | none=>rfl
  | some o=>
   have h2:=List.all_eq_true.mp hKt (e.2,o) (PySem.W.mem_of_lookupK q)
   have e1:=KX _ _ q
   rw [(hT e he).2] at e1
   cases e1
   exact absurd (show false=true from h2) Bool.false_ne_true
 have core:∀H:Hp,(∀b u,H b=some u→(b=a∧u=.frz { cls:=.type "list",data:=.seq vs.toArray } (.lst (ns.map V.int))∧K.lookup a=none)∨(u=.tbl #[]∧∃e∈tb,e.2=b))→SqL K H a (ns.map V.int)→(∀e∈tb,H e.2=some (.tbl #[]))→
   codeAny (model P w) callerA (.call (.ref fa) ⟨[.ref a],[]⟩) (fun r s'=>r=.ok (.ret (.bool true))∧OldK s₁.heap s'.heap∧s'.os=s₁.os∧AllBare s'.gens) s₁:=by
  intro H hO hS hTb
  have hok:HOk P w H s₁.heap:=fun b u e=>by
   rcases hO b u e with ⟨rfl,rfl,_⟩ | ⟨rfl,e',he,rfl⟩
   ·exact ⟨ha,by rw [List.length_map];exact hl,vs,_,rv,ha⟩
   ·exact (hT e' he).2
  have base_of:∀{b:Addr} {o:Obj},s₁.heap.get? b=some o→H b=none→(hidT s₁.heap H).get? b=some o:=fun e n=>hidT_get e n
  have noA:∀{b:Addr} {o:Obj},s₁.heap.get? b=some o→(∀vs n,o.data≠.seq vs n)→(∀vs,o.data≠.fields vs∨o.cls≠.none)→H b=none:=fun {b o} e d1 d2=>by
   cases q:H b with
   | none=>rfl
   | some u=>
    rcases hO b u q with ⟨rfl,_,_⟩ | ⟨_,e',he,rfl⟩
    ·rw [ha] at e;cases e;exact absurd rfl (d1 _ _)
    ·rw [(hT e' he).2] at e;cases e
     rcases d2 #[] with z | z
     ·exact absurd rfl z
     ·exact absurd rfl z
  have nsK:∀{b:Addr} {m:Str→Option Value},s₁.heap.Ns b m→(hidT s₁.heap H).Ns b m:=fun {b m} ⟨o,es,ep,e,d,r⟩=>⟨o,es,ep,base_of e (noA e (fun _ _ z=>by rw [d] at z;cases z) fun _=>.inl fun z=>by rw [d] at z;cases z),d,r⟩
  have hKb:K.In (hidT s₁.heap H):=fun b o e=>base_of (KX b o e) (by
   cases q:H b with
   | none=>rfl
   | some u=>
    rcases hO b u q with ⟨rfl,_,z⟩ | ⟨_,e',he,rfl⟩
    ·rw [z] at e;cases e
    ·rw [noK e' he] at e;cases e)
  have hM:Mod K mg (hidT s₁.heap H):=⟨hKb,nsK hns,⟨mb,nsK hb,hbb⟩,let ⟨mc,h1,h2⟩:=hlim;⟨mc,nsK h1,h2⟩⟩
  have e0:Env0 P w K mg (hidT s₁.heap H) callerA [] s₁ H:=⟨rfl,hM,fun b o e=>of_hidT e,Nat.le_of_eq (hidT_size _ _),trivial,fun b hb=>absurd (show b∈([]:List Addr) from hb) (by simp),hok,.of_eq hg⟩
  have hCd:∀e∈tb,PySem.W.CodeHd (hidT s₁.heap H) e.1 e.2:=fun e he=>by
   obtain ⟨o,vs',file,tf,flags,tg,inF,text,tt,e1,r1,r2,r3⟩:=(hT e he).1
   exact ⟨o,vs',file,tf,flags,tg,inF,text,tt,base_of e1 (noA e1 (fun _ _ z=>by rw [r2] at z;cases z) fun _=>.inr (by rw [r1];nofun)),r1,r2,r3⟩
  have hBm:BMn mg (hidT s₁.heap H):=by
   obtain ⟨bm,o,e1,e2,e3,e4,e5,e6,e7⟩:=hbm
   exact ⟨bm,o,e1,e2,e3,base_of e4 (noA e4 (fun _ _ z=>by rw [e7] at z;cases z) fun _=>.inl fun z=>by rw [e7] at z;cases z),e5,e6,e7⟩
  refine codeAny_mono ((F _ hKb (nsK hns) hCd hBm).run callerA [] s₁ H ⟨[.ref a],[]⟩ [.ref a] [.ref a] _ _ hr e0 (hbind s₁ (.ref a)) (.cons rfl .nil) (hsp H hS hTb)) fun r s' h=>?_
  cases r with
  | error e=>exact (hCX H e s' h).elim
  | ok fl=>
   cases fl with
   | next=>exact False.elim h
   | brk=>exact False.elim h
   | cont=>exact False.elim h
   | ret u=>
    obtain ⟨v,H',os,bare,un,hok',r',q⟩:=h
    have q':v=.bl true:=q
    subst q'
    obtain rfl:u=Value.bool true:=r'
    refine ⟨rfl,⟨fun b o e=>?_,fun b o e=>un.there b o e (by simp)⟩,os,bare⟩
    cases q:H b with
    | none=>exact .inl (un.keep b o e q (by intro z;exact absurd (show b∈([]:List Addr) from z) (by simp)) (by simp))
    | some u=>
     rcases hO b u q with ⟨rfl,rfl,_⟩ | ⟨rfl,e',he,rfl⟩
     ·have z2:=un.frzs b _ _ q
      obtain ⟨e1,_⟩:=hok b _ q
      obtain ⟨e2,_⟩:=hok' b _ z2
      rw [e] at e1;cases e1
      exact .inl e2
     ·obtain ⟨more,z⟩:=un.tbls _ _ q
      have z2:s'.heap.get? e'.2=some (PySem.W.tabObj (#[]++more)):=hok' _ _ z
      have e1:=(hT e' he).2
      rw [e] at e1;cases e1
      exact .inr (.inl ⟨((hT e' he).1.tab (hT e' he).2).isCodeTable,rfl,#[],more,rfl,z2⟩)
 cases hk:K.lookup a with
 | some o=>
  have e:=KX a o hk
  rw [ha] at e
  cases e
  refine core (fun b=>open Classical in if ∃e∈tb,e.2=b then some (.tbl #[]) else none) (fun b u z=>?_) (.inr ⟨_,vs.toArray,_,hk,rfl,rfl,rfl,by rw [List.size_toArray,lenV];exact hl,by simpa using rv⟩) (fun e he=>if_pos ⟨e,he,rfl⟩)
  by_cases h:∃e∈tb,e.2=b
  ·rw [if_pos h] at z;cases z;exact .inr ⟨rfl,h⟩
  ·rw [if_neg h] at z;cases z
 | none=>
  refine core (fun b=>open Classical in if ∃e∈tb,e.2=b then some (.tbl #[]) else if b=a then some (.frz { cls:=.type "list",data:=.seq vs.toArray } (.lst (ns.map V.int))) else none) (fun b u z=>?_) (.inl (.inr ⟨{ cls:=.type "list",data:=.seq vs.toArray },?_⟩)) (fun e he=>if_pos ⟨e,he,rfl⟩)
  ·by_cases h:∃e∈tb,e.2=b
   ·rw [if_pos h] at z;cases z;exact .inr ⟨rfl,h⟩
   ·rw [if_neg h] at z
    by_cases hb:b=a
    ·rw [if_pos hb] at z;cases z;exact .inl ⟨hb,rfl,hk⟩
    ·rw [if_neg hb] at z;cases z
  ·show (if ∃e∈tb,e.2=a then _ else _)=_
   rw [if_neg (fun ⟨e,he,z⟩=>tabne e he z),if_pos rfl]
theorem walk_ofT {l : PySem.W.OpenLaw} {n k : Nat} {q : Program} {loose : List Str} {XP : (Str → Option Value) → Heap → Prop} {YP : World → Heap → Prop} {d : DefRec} {K : Params → PySem.W.Frag} {CX : World → CXT} {sp : World → Sp} {x : Str} {tb : List (Str × Addr × Addr)}
    (hn : l.most = some n) (hn2 : n ≤ sizeLine) (hdf : d.params.defaults = []) (hr : Room k callerA)
    (hY : ∀ (w : World) (h : Heap), YP w h → (K w.params).In h)
    (hrec : ∀ e ∈ tb, ∃ d, (recsOf q).find? (fun r => r.name == e.1) = some d) (htab : ∀ w : World, ∀ e ∈ tb, PySem.W.tabIn (K w.params) e.1 = some e.2) (hno : ∀ w : World, PySem.W.noTabs (K w.params) = true)
    (F : ∀ (w : World) (mg : Str → Option Value) (fa : Addr) (h : Heap), (K w.params).In h → h.Ns mainGlobals mg → mg d.name = some (.ref fa) →
      ∃ fd : FuncData, (∀ (s : Shared) (u : Value), BindsTo s fd ⟨[u], []⟩ [(x, u)]) ∧
        ∀ base : Heap, (K w.params).In base → base.Ns mainGlobals mg → (∀ e ∈ tb, PySem.W.CodeHd base e.2.1 e.2.2) → BMn mg base → FnOk l.prog w (K w.params) mg base (CX w) k fa fd [x] (sp w))
    (hsp : ∀ (w : World) (H : Hp) (a : Addr) (ns : List Int), ns.length ≤ n → SqL (K w.params) H a (ns.map V.int) → (∀ e ∈ tb, H e.2.2 = some (.tbl #[])) → sp w [.ref a] H (fun v _ => v = .bl true) fun _ _ _ => False)
    (hCX : ∀ (w : World) (H : Hp) (s : Shared) (e : Value) (s' : Shared), CX w [] H s (fun _ _ _ => False) e s' → False) :
    PySem.W.WalkO q loose XP YP l.row.toRowW d [] (fun f vs => PySem.call f vs) := by
  refine Att.attach_call hn hdf fun w s₀ s₁ mg mb fa o pm cd doc a vs ns G Y ho hd hcd hmg hobj hints hlen hg => ?_
  have KX := hY w _ Y
  obtain ⟨fd, hb, hF⟩ := F w mg fa _ KX G.T.g hmg
  have hT : ∀ e ∈ tb.map (·.2), PySem.W.CodeHd s₁.heap e.1 e.2 ∧ s₁.heap.get? e.2 = some (PySem.W.tabObj #[]) := fun e he => by
    obtain ⟨e', he', rfl⟩ := List.mem_map.mp he
    obtain ⟨d', hd'⟩ := hrec e' he'
    exact PySem.W.tab_of G.T KX hd' (htab w e' he')
  exact law_callT (tb := tb.map (·.2)) KX G.T.g G.T.b G.T.builtins G.T.nolimit hg hT (hno w) (let ⟨bm, ob, a, b, c, d, e, f⟩ := G.T.bmain; ⟨bm, ob, a, b, (fun z => by
      obtain ⟨o, es, ep, e', hd', _⟩ := G.T.g
      rw [z, e'] at c; cases c; rw [hd'] at f; cases f), c, d, e, f⟩) hobj hints (Nat.le_trans hlen hn2) hr
    (fun base h1 h2 h3 h4 => hF base h1 h2 (fun e he => h3 e.2 (List.mem_map_of_mem (f := (·.2)) he)) h4) hb (fun H hS hTb => hsp w H a ns hlen hS fun e he => hTb e.2 (List.mem_map_of_mem (f := (·.2)) he)) fun H e s' => hCX w H s₁ e s'
end TF
namespace L2
open PySem PySem.Spec PyProof.Rows
section
variable {X:Cx} {pins:List (Addr×Obj)} {σ:St} {H:Hp} {s:Shared} {h':Heap}
end
end L2
namespace TF
open PySem PySem.Spec PyProof.Rows L2
section
variable {X:Cx} {G:Gh}
end
section
variable {X:Cx} {G:Gh}
noncomputable def maxI (n:Int) (r:List Int):Int:=r.foldl max n
theorem maxI_ge (r:List Int):∀n,n≤maxI n r∧∀a∈r,a≤maxI n r:=by
 induction r with
 | nil=>intro n;exact ⟨Int.le_refl _,by simp⟩
 | cons b r ih=>
  intro n
  obtain ⟨h1,h2⟩:=ih (max n b)
  refine ⟨?_,fun a ha=>?_⟩
  ·show n≤maxI (max n b) r;omega
  ·show a≤maxI (max n b) r
   rcases List.mem_cons.mp ha with rfl | ha
   ·omega
   ·exact h2 a ha
theorem maxI_mem (r:List Int):∀n,maxI n r∈n::r:=by
 induction r with
 | nil=>intro n;simp [maxI]
 | cons b r ih=>
  intro n
  have h:=ih (max n b)
  show maxI (max n b) r∈n::b::r
  rcases List.mem_cons.mp h with h | h
  ·rw [h]
   rcases Int.le_total n b with z | z
   ·rw [Int.max_eq_right z];simp
   ·rw [Int.max_eq_left z];simp
  ·exact List.mem_cons_of_mem _ (List.mem_cons_of_mem _ h)
theorem max_uniq {n M:Int} {r:List Int} (h1:M∈n::r) (h2:∀a∈n::r,a≤M):M=maxI n r:=by
 obtain ⟨g1,g2⟩:=maxI_ge r n
 have g3:=h2 _ (maxI_mem r n)
 have g4:M≤maxI n r:=by
  rcases List.mem_cons.mp h1 with h | h
  ·rw [h];exact g1
  ·exact g2 M h
 omega
noncomputable def dMaxL:List D→Option D
 | [.lst ds]=>match intsOf ds with | some (n::r)=>some (.int (maxI n r)) | _=>none
 | _=>none
theorem call_maxR (hc:X.calm=true):CallR X (.builtin "max") (fun xs H Q=>∃p n r,xs=[.ref p]∧SqL X.K H p ((n::r).map V.int)∧Q (.int (maxI n r)) H):=by
 intro pins s σ H xs us Q I r h
 obtain ⟨p,n,rr,rfl,hp,q⟩:=h
 obtain ⟨u,rfl,ru⟩:=vals1 r
 cases ru
 obtain ⟨its,rv,pl,hz⟩:=I.list hp
 have hi:IntsAre its (n::rr):=intsAre_of rv
 obtain ⟨xs,e⟩:=hi.allInts.items
 have hns:n::rr=xs.toList.map (·.1):=by rw [←hi.numsOf,←nums_intItems,←e]
 have hl:=pl.isList
 rw [e] at hl
 have hsz:0<xs.size:=by
  have h3:0<(n::rr).length:=by simp
  rw [hns,List.length_map,Array.length_toList] at h3;exact h3
 refine max_intList (I.ok.hd hc) hl hsz fun v h' tk hv hk=>?_
 obtain ⟨t,rfl⟩:=intItems_at hv
 obtain ⟨h1,h2⟩:=argBest_gt (numAt xs) (xs.size-1)
 have e2:numAt xs (argBest (fun i j=>decide (numAt xs i > numAt xs j)) (xs.size-1))=maxI n rr:=by
  refine max_uniq ?_ fun a ha=>?_
  ·rw [hns,numAt_eq];exact getD_mem (by rw [List.length_map,Array.length_toList];omega)
  ·rw [hns] at ha
   obtain ⟨j,hj,rfl⟩:=mem_getD ha
   rw [List.length_map,Array.length_toList] at hj
   rw [←numAt_eq];exact h2 j (by omega)
 rw [e2]
 exact ⟨.int (maxI n rr),H,I.kept (t':=tk) hk,⟨_,rfl⟩,q⟩
theorem call_maxLD (hc:X.calm=true):CallD X G (.builtin "max") dMaxL:=
 ⟨_,call_maxR hc,fun Hf H s xs ds c Q e1 st r q k=>by
  match ds,q,r with
  | [.lst es],q,r=>
   have q:(match intsOf es with | some (n::r)=>some (D.int (maxI n r)) | _=>none)=some c:=q
   cases he:intsOf es with
   | none=>rw [he] at q;cases q
   | some ns=>
    cases ns with
    | nil=>rw [he] at q;cases q
    | cons n rr=>
     rw [he] at q
     cases q
     obtain ⟨v,rfl,rv⟩:=RepL.one_inv r
     obtain ⟨p,vs,rfl,np,hp,rp⟩:=Rep.lst_iff.mp rv
     rw [intsOf_eq he] at rp
     rw [RepL.ints rp] at hp
     exact ⟨p,n,rr,rfl,SqL.of (e1 _ _ np hp),k _ Hf H (.refl e1) st (Rep.int_iff.mpr rfl) (.scal fun z=>z)⟩⟩
end
theorem perm_sorted_eq:∀{a b:List Int},a.Perm b→a.Pairwise (·≤·)→b.Pairwise (·≤·)→a=b
 | [],b,p,_,_=>(List.nil_perm.mp p).symm
 | x::a,[],p,_,_=>absurd p.length_eq (by simp)
 | x::a,y::b,p,ha,hb=>by
  have ha':=List.pairwise_cons.mp ha
  have hb':=List.pairwise_cons.mp hb
  have e:x=y:=by
   have h1:x∈y::b:=p.mem_iff.mp (by simp)
   have h2:y∈x::a:=p.mem_iff.mpr (by simp)
   rcases List.mem_cons.mp h1 with h1 | h1
   ·exact h1
   ·rcases List.mem_cons.mp h2 with h2 | h2
    ·exact h2.symm
    ·have:=hb'.1 x h1
     have:=ha'.1 y h2
     omega
  subst e
  rw [perm_sorted_eq (List.Perm.cons_inv p) ha'.2 hb'.2]
noncomputable def sortI (ns:List Int):List Int:=ns.mergeSort fun a b=>decide (a≤b)
theorem sortI_perm (ns:List Int):(sortI ns).Perm ns:=List.mergeSort_perm ns _
theorem sortI_sorted (ns:List Int):(sortI ns).Pairwise (·≤·):=by
 have h:=List.pairwise_mergeSort (le:=fun (a b:Int)=>decide (a≤b)) (fun a b c h1 h2=>by simp at h1 h2 ⊢;omega) (fun a b=>by simp;omega) ns
 exact h.imp fun h=>by simpa using h
theorem sortI_uniq {a ns:List Int} (p:a.Perm ns) (h:a.Pairwise (·≤·)):a=sortI ns:=perm_sorted_eq (p.trans (sortI_perm ns).symm) h (sortI_sorted ns)
section
variable {X:Cx} {G:Gh}
theorem vals_of_ints:∀{vs:List Value} {ns:List Int},IntsAre vs ns→Vals (ns.map V.int) vs
 | _,_,.nil=>.nil
 | _,_,.cons n t r=>.cons ⟨t,rfl⟩ (vals_of_ints r)
theorem call_sortR:CallR X (.builtin "sorted") (fun xs H Q=>∃(p:Addr) (ns:List Int),xs=[.ref p]∧SqL X.K H p (ns.map V.int)∧ns.length<64∧∀l,H l=none→Q (.ref l) (upd H l (.lst ((sortI ns).map V.int)))):=by
 intro pins s σ H xs us Q I r h
 obtain ⟨p,ns,rfl,hp,h64,q⟩:=h
 obtain ⟨u,rfl,ru⟩:=vals1 r
 cases ru
 obtain ⟨its,rv,pl,hz⟩:=I.list hp
 have hi:IntsAre its ns:=intsAre_of rv
 have hl:=rv.length
 rw [List.length_map] at hl
 refine sorted_ints pl.isList hi (by omega) fun out ns' a1 a2 a3=>?_
 obtain ⟨e,he⟩:=sortedAll_at s.heap its out
 have eo:out=out.toList.toArray:=by simp
 rw [eo] at he
 have en:=sortI_uniq a2 a3
 subst en
 have hle:s.heap.objs.size≤s.heap.objs.size+1:=Nat.le_succ _
 refine ⟨.ref (s.heap.objs.size+1),_,I.laid (a:=s.heap.objs.size+1) (o:=.lst ((sortI ns).map V.int)) (t':=s.toks) (fun _ _=>sortedAll_old) hle ⟨?_,out.toList,e,vals_of_ints a1,he⟩,rfl,q _ (I.hok.fresh hle)⟩
 rw [List.length_map,(sortI_perm ns).length_eq,sizeLine_eq]
 omega
noncomputable def dSorted:List D→Option D
 | [.lst ds]=>match intsOf ds with | some ns=>if ns.length<64 then some (.lst ((sortI ns).map .int)) else none | none=>none
 | _=>none
theorem repL_ints {Hf:Hp}:∀ns:List Int,RepL G Hf (ns.map D.int) (ns.map V.int)
 | []=>RepL.nil_iff.mpr rfl
 | n::ns=>.cons (Rep.int_iff.mpr rfl) (repL_ints ns)
theorem call_sortedD:CallD X G (.builtin "sorted") dSorted:=
 ⟨_,call_sortR,fun Hf H s xs ds c Q e1 st r q k=>by
  match ds,q,r with
  | [.lst es],q,r=>
   have q:(match intsOf es with | some ns=>if ns.length<64 then some (D.lst ((sortI ns).map .int)) else none | none=>none)=some c:=q
   cases he:intsOf es with
   | none=>rw [he] at q;cases q
   | some ns=>
    rw [he] at q
    have q:(if ns.length<64 then some (D.lst ((sortI ns).map .int)) else none)=some c:=q
    split at q
    ·rename_i h64
     cases q
     obtain ⟨v,rfl,rv⟩:=RepL.one_inv r
     obtain ⟨p,vs,rfl,np,hp,rp⟩:=Rep.lst_iff.mp rv
     rw [intsOf_eq he] at rp
     rw [RepL.ints rp] at hp
     refine ⟨p,ns,rfl,SqL.of (e1 _ _ np hp),h64,fun l hl=>?_⟩
     have nf:=Gh.nofp st hl
     have g2:=Gr.new (o:=.lst ((sortI ns).map V.int)) e1 hl nf
     exact k (.ref l) _ _ g2 (Gh.grow st hl) (Rep.lst_iff.mpr ⟨l,_,rfl,nf,upd_same,repL_ints _⟩) (FreshL.mk e1 hl nf (repL_ints _))
    ·cases q⟩
end
end TF
namespace HT
open PySem PySem.Spec PyProof.Rows
section
variable {prog:Program} {w:World} {A:Around} {E:Value→Shared→Prop} {s:Shared}
end
end HT
namespace TF
open PySem PySem.Spec PyProof.Rows L2
section
variable {X:Cx} {G:Gh}
end
end TF
namespace L2
open PySem PySem.Spec PyProof.Rows
open AutoSeq1 (wpAny_loadPart')
section
variable {prog:Program} {w:World} {A:Around} {E:Value→Shared→Prop} {s:Shared}
end
end L2
namespace TF
open PySem PySem.Spec PyProof.Rows L2
section
variable {X:Cx} {G:Gh}
end
section
variable {X:Cx} {G:Gh}
theorem pds_appS {i:Nat} {x:Str} {e:Expr} {pos p1 p2 p3:Pos} {r1 fr:Bool} {ob own:List Nat} {f:Rho→M D} (hi:i∈own) (hv:PE X (.Name x p1) (tVar i)) (he:PD X G r1 e f)
  (hbase:attributeBase (.Name x p1) "append" X.env (eval (.Name x p1) X.env)=eval (.Name x p1) X.env:=by rfl)
  (hfew:((backTo p3 (starEach [e] X.env)).all (fun x=>!x.1)&&(backToKw p3 (keywordEach [] X.env)).all (fun x=>x.1.isSome)
   && decide ([e].length+([]:List Keyword).length+(if ([]:List Keyword).isEmpty then 0 else 1)<30))=true:=by rfl)
  (hline:(p2.endLine==p3.line)=true:=by rfl) (hs:starEach [e] X.env=(false,eval e X.env)::starEach [] X.env:=by rfl)
  (hsw:swapsWith (.Call (.Attribute (.Name x p1) "append" p2) [e] [] p3) none pos.line X.env=pure false:=by rfl) :
  PDS X G ob own own fr (.Expr (.Call (.Attribute (.Name x p1) "append" p2) [e] [] p3) pos) (sApp i (fun ρ=>f (hide own ρ))):=
 pds_appA hi he fun te p=>ps_append hv p hbase hfew hline hs hsw
end
end TF
namespace L2
open PySem PySem.Spec PyProof.Rows
section
variable {prog:Program} {w:World} {A:Around} {E:Value→Shared→Prop} {s:Shared}
end
end L2
namespace TF
open PySem PySem.Spec PyProof.Rows L2
section
variable {X:Cx} {G:Gh}
end
end TF
namespace L2
open PySem PySem.Spec PyProof.Rows
end L2
namespace TF
open PySem PySem.Spec PyProof.Rows L2
section
variable {X:Cx} {G:Gh}
end
end TF
namespace L2
open PySem PySem.Spec PyProof.Rows
section
variable {prog:Program} {w:World} {A:Around} {E:Value→Shared→Prop} {s:Shared} {o:Obj} {es:Array DictEntry} {d it:Addr} {ep i:Nat}
end
section
variable {X:Cx} {tg:Expr}
end
end L2
namespace TF
open PySem PySem.Spec PyProof.Rows L2
section
variable {X:Cx} {G:Gh}
end
end TF
namespace L2
open PySem PySem.Spec PyProof.Rows
section
variable {prog:Program} {w:World} {A:Around} {E:Value→Shared→Prop} {s:Shared} {z TI TO i1 i2:Addr} {f1 f2:List Addr} {n1 n2 k:Nat} {P1 P2:Nat→Value→Prop} {S1 S2:Nat→Heap→Prop} {a b:Value}
end
section
variable {prog:Program} {w:World} {A:Around} {E:Value→Shared→Prop} {s:Shared}
end
end L2
namespace L2
open PySem PySem.Spec PyProof.Rows
end L2
namespace TF
open PySem PySem.Spec PyProof.Rows L2
section
variable {X:Cx} {G:Gh}
end
end TF
namespace TS
open PySem PySem.W PyProof.Rows
noncomputable def Tri {α:Type} (lt:Nat→Nat→Bool) (n:Nat):KasT α→(α→Prop)→Prop
 | .ret a,Q=>Q a
 | .ask i j k,Q=>i<n∧j<n∧Tri lt n (k (lt i j)) Q
theorem Tri.bind {α β:Type} {lt:Nat→Nat→Bool} {n:Nat} {f:α→KasT β} {Q:β→Prop}:∀{t:KasT α},Tri lt n t (fun a=>Tri lt n (f a) Q)→Tri lt n (t.bind f) Q
 | .ret _,h=>h
 | .ask i j k,h=>⟨h.1,h.2.1,Tri.bind (t:=k (lt i j)) h.2.2⟩
theorem Tri.mono {α:Type} {lt:Nat→Nat→Bool} {n:Nat} {Q R:α→Prop} (hr:∀a,Q a→R a):∀{t:KasT α},Tri lt n t Q→Tri lt n t R
 | .ret _,h=>hr _ h
 | .ask i j k,h=>⟨h.1,h.2.1,Tri.mono hr (t:=k (lt i j)) h.2.2⟩
theorem Tri.wp {α:Type} {lt:Nat→Nat→Bool} {n:Nat} {Q:α→Prop} {R:α→Shared→Prop} {s:Shared} {cmp:Nat→Nat→(Bool→Shared→Prop)→Shared→Prop} (hc:∀i j,i<n→j<n→∀C:Bool→Shared→Prop,C (lt i j) s→cmp i j C s) (hr:∀a,Q a→R a s):∀{t:KasT α},Tri lt n t Q→t.kasWp cmp R s
 | .ret _,h=>hr _ h
 | .ask i j k,h=>hc i j h.1 h.2.1 _ (Tri.wp hc hr (t:=k (lt i j)) h.2.2)
noncomputable def g (p:Array Nat) (k:Nat):Nat:=p.getD k 0
theorem g_eq {p q:Array Nat} {i j:Nat} (h:p[i]?=q[j]?):g p i=g q j:=by
 have e:∀(r:Array Nat) (k:Nat),g r k=(r[k]?).getD 0:=fun r k=>by unfold g;simp [Array.getD_eq_getD_getElem?]
 rw [e,e,h]
structure Pm (n:Nat) (p:Array Nat):Prop where
 pos:0<n
 pm:p.toList.Perm (List.range n)
section
variable {lt:Nat→Nat→Bool} {n:Nat} {p q:Array Nat}
theorem Pm.size (h:Pm n p):p.size=n:=by
 have:=h.pm.length_eq
 simpa using this
theorem Pm.of (h:Pm n p) (e:q.Perm p):Pm n q:=⟨h.pos,(Array.perm_iff_toList_perm.mp e).trans h.pm⟩
theorem Pm.bd (h:Pm n p) (k:Nat):g p k<n:=by
 unfold g
 by_cases hk:k<p.size
 ·have:p.getD k 0=p[k]:=by simp [Array.getD,hk]
  rw [this]
  have m:p[k]∈p.toList:=by simp
  have:=h.pm.mem_iff.mp m
  simpa using this
 ·have:p.getD k 0=0:=by simp [Array.getD,hk]
  rw [this];exact h.pos
theorem Pm.inj (h:Pm n p) {i j:Nat} (hi:i<n) (hj:j<n) (e:g p i=g p j):i=j:=by
 have hi':i<p.size:=by rw [h.size];exact hi
 have hj':j<p.size:=by rw [h.size];exact hj
 have nd:p.toList.Nodup:=h.pm.nodup_iff.mpr List.nodup_range
 have e1:g p i=p.toList[i]'(by simpa using hi'):=by unfold g;simp [Array.getD,hi']
 have e2:g p j=p.toList[j]'(by simpa using hj'):=by unfold g;simp [Array.getD,hj']
 rw [e1,e2] at e
 have pw:=List.pairwise_iff_getElem.mp nd
 rcases Nat.lt_trichotomy i j with z | z | z
 ·exact absurd e (pw i j (by simpa using hi') (by simpa using hj') z)
 ·exact z
 ·exact absurd e.symm (pw j i (by simpa using hj') (by simpa using hi') z)
structure Ord (lt:Nat→Nat→Bool) (n:Nat):Prop where
 tr:∀a b c,lt a b=true→lt b c=true→lt a c=true
 to:∀a b,a<n→b<n→a≠b→lt a b=false→lt b a=true
noncomputable def So (lt:Nat→Nat→Bool) (p:Array Nat) (m:Nat):Prop:=∀i j,i<j→j<m→lt (g p i) (g p j)=true
noncomputable def De (lt:Nat→Nat→Bool) (p:Array Nat) (m:Nat):Prop:=∀i j,i<j→j<m→lt (g p j) (g p i)=true
theorem Pm.to (h:Pm n p) (o:Ord lt n) {i j:Nat} (hi:i<n) (hj:j<n) (hij:i≠j) (e:lt (g p i) (g p j)=false):lt (g p j) (g p i)=true:=
 o.to _ _ (h.bd i) (h.bd j) (fun z=>hij (h.inj hi hj z)) e
theorem asc_ok (o:Ord lt n) (h:Pm n p):∀(f k:Nat),1≤k→k+f=n→So lt p k→Tri lt n (kas_asc p f k) (fun m=>k≤m∧m≤n∧So lt p m∧(m<n→lt (g p m) (g p (m-1))=true))
 | 0,k,h1,h2,hs=>⟨Nat.le_refl _,by omega,hs,fun z=>by omega⟩
 | f+1,k,h1,h2,hs=>by
  show g p k<n∧g p (k-1)<n∧Tri lt n (if lt (g p k) (g p (k-1))=true then .ret k else kas_asc p f (k+1)) _
  refine ⟨h.bd _,h.bd _,?_⟩
  cases e:lt (g p k) (g p (k-1)) with
  | true=>rw [if_pos rfl];exact ⟨Nat.le_refl _,by omega,hs,fun _=>e⟩
  | false=>
   rw [if_neg (by simp)]
   have e2:=h.to o (i:=k) (j:=k-1) (by omega) (by omega) (by omega) e
   refine Tri.mono (fun m ⟨a,b⟩=>⟨by omega,b⟩) (asc_ok o h f (k+1) (by omega) (by omega) fun i j hij hj=>?_)
   by_cases hjk:j<k
   ·exact hs i j hij hjk
   ·have:j=k:=by omega
    subst this
    by_cases hi:i=j-1
    ·subst hi;exact e2
    ·exact o.tr _ _ _ (hs i (j-1) (by omega) (by omega)) e2
theorem desc_ok (o:Ord lt n) (h:Pm n p):∀(f k:Nat),1≤k→k+f=n→De lt p k→Tri lt n (kas_desc f p k 0) (fun r=>r.1=p∧r.2.2=0∧k≤r.2.1∧r.2.1≤n∧De lt p r.2.1)
 | 0,k,h1,h2,hs=>⟨rfl,rfl,Nat.le_refl _,by show k≤n;omega,hs⟩
 | f+1,k,h1,h2,hs=>by
  show g p k<n∧g p (k-1)<n∧Tri lt n (if lt (g p k) (g p (k-1))=true then (if 0 > 0 then kas_desc f (kas_rev p (k-(0+1)) k) (k+1) 0 else kas_desc f p (k+1) 0) else .ask (g p (k-1)) (g p k) fun d=>if d=true then .ret (p,k,0) else kas_desc f p (k+1) (0+1)) _
  refine ⟨h.bd _,h.bd _,?_⟩
  cases e:lt (g p k) (g p (k-1)) with
  | true=>
   rw [if_pos rfl,if_neg (by omega)]
   refine Tri.mono (fun m ⟨a,b,c,d⟩=>⟨a,b,by omega,d⟩) (desc_ok o h f (k+1) (by omega) (by omega) fun i j hij hj=>?_)
   by_cases hjk:j<k
   ·exact hs i j hij hjk
   ·have:j=k:=by omega
    subst this
    by_cases hi:i=j-1
    ·subst hi;exact e
    ·exact o.tr _ _ _ e (hs i (j-1) (by omega) (by omega))
  | false=>
   rw [if_neg (by simp)]
   have e2:=h.to o (i:=k) (j:=k-1) (by omega) (by omega) (by omega) e
   refine ⟨h.bd _,h.bd _,?_⟩
   show Tri lt n (if lt (g p (k-1)) (g p k)=true then _ else _) _
   rw [e2,if_pos rfl]
   exact ⟨rfl,rfl,Nat.le_refl _,by show k≤n;omega,hs⟩
theorem g_rev (hj:q.size=n) {m:Nat} (hm:m≤n) (k:Nat):g (kas_rev q 0 m) k=if k<m then g q (m-1-k) else g q k:=by
 have e:=getElem?_mirror_all (xs:=q) (i:=0) (j:=m) (by omega) k
 unfold kas_rev
 by_cases hk:k<m
 ·rw [if_pos ⟨by omega,hk⟩] at e
  rw [if_pos hk]
  exact g_eq (by rw [e];congr 1;omega)
 ·rw [if_neg (fun z=>hk z.2)] at e
  rw [if_neg hk]
  exact g_eq e
theorem tail_ok (o:Ord lt n) (h:Pm n p) {k:Nat} (h1:1≤k) (h2:k≤n) (hs:De lt p k):Tri lt n (kas_tail3 k n p) (fun r=>1≤r.1∧r.1≤n∧Pm n r.2∧So lt r.2 r.1):=by
 have h':Pm n (kas_rev p 0 k):=h.of (mirror_perm _ _ _ _)
 have hs':So lt (kas_rev p 0 k) k:=fun i j hij hj=>by
  rw [g_rev h.size h2,g_rev h.size h2,if_pos (by omega),if_pos hj]
  exact hs _ _ (by omega) (by omega)
 refine Tri.bind (Tri.mono (fun m ⟨a,b,c,_⟩=>?_) (asc_ok o h' (n-k) k h1 (by omega) hs'))
 exact ⟨by show 1≤m;omega,b,h',c⟩
theorem count_ok (o:Ord lt n) (h:Pm n p):Tri lt n (kas_count n p) (fun r=>1≤r.1∧r.1≤n∧Pm n r.2∧So lt r.2 r.1):=by
 have hn:=h.pos
 refine Tri.bind (Tri.mono (fun m ⟨a,b,c,d⟩=>?_) (asc_ok o h (n-1) 1 (by omega) (by omega) fun i j hij hj=>by omega))
 by_cases hm:m=n
 ·rw [if_pos (by simpa using hm)]
  exact ⟨a,b,h,c⟩
 ·rw [if_neg (by simpa using hm)]
  by_cases h1:m > 1
  ·rw [if_pos h1]
   refine ⟨h.bd 0,h.bd (m-1),?_⟩
   have e:lt (p.getD 0 0) (p.getD (m-1) 0)=true:=c 0 (m-1) (by omega) (by omega)
   show Tri lt n (if lt (p.getD 0 0) (p.getD (m-1) 0)=true then _ else _) _
   rw [e,if_pos rfl]
   exact ⟨a,b,h,c⟩
  ·rw [if_neg h1]
   have:m=1:=by omega
   subst this
   have e:=d (by omega)
   have hd:De lt p (1+1):=fun i j hij hj=>by
    have h1:i=0:=by omega
    have h2:j=1:=by omega
    subst h1 h2
    exact e
   refine Tri.bind (Tri.mono (fun r ⟨r1,r2,r3,r4,r5⟩=>?_) (desc_ok o h (n-(1+1)) (1+1) (by omega) (by omega) hd))
   rw [if_neg (by omega),r1]
   exact tail_ok o h (by omega) r4 r5
theorem place_ok (o:Ord lt n) (h:Pm n p) {k:Nat} (hk:k<n) (hs:So lt p k):∀(f l r:Nat),l≤r→r≤k→r-l≤f→(∀i,i<l→lt (g p i) (g p k)=true)→(∀i,r≤i→i<k→lt (g p k) (g p i)=true)→
  Tri lt n (kas_place p k f l r) (fun m=>m≤k∧(∀i,i<m→lt (g p i) (g p k)=true)∧∀i,m≤i→i<k→lt (g p k) (g p i)=true)
 | 0,l,r,h1,h2,h3,ha,hb=>⟨by omega,ha,fun i hi=>hb i (by omega)⟩
 | f+1,l,r,h1,h2,h3,ha,hb=>by
  show Tri lt n (if l≥r then .ret l else .ask (g p k) (g p ((l+r) / 2)) fun c=>if c=true then kas_place p k f l ((l+r) / 2) else kas_place p k f ((l+r) / 2+1) r) _
  by_cases hlr:l≥r
  ·rw [if_pos hlr]
   exact ⟨by omega,ha,fun i hi=>hb i (by omega)⟩
  ·rw [if_neg hlr]
   refine ⟨h.bd _,h.bd _,?_⟩
   show Tri lt n (if lt (g p k) (g p ((l+r) / 2))=true then kas_place p k f l ((l+r) / 2) else kas_place p k f ((l+r) / 2+1) r) _
   cases e:lt (g p k) (g p ((l+r) / 2)) with
   | true=>
    rw [if_pos rfl]
    refine place_ok o h hk hs f l _ (by omega) (by omega) (by omega) ha fun i hi hik=>?_
    by_cases hq:i=(l+r) / 2
    ·subst hq;exact e
    ·exact o.tr _ _ _ e (hs _ i (by omega) hik)
   | false=>
    rw [if_neg (by simp)]
    have e2:=h.to o (i:=k) (j:=(l+r) / 2) hk (by omega) (by omega) e
    refine place_ok o h hk hs f _ r (by omega) h2 (by omega) (fun i hi=>?_) hb
    by_cases hq:i=(l+r) / 2
    ·subst hq;exact e2
    ·exact o.tr _ _ _ (hs i _ (by omega) (by omega)) e2
theorem bin_ok (o:Ord lt n):∀(f k:Nat) (p:Array Nat),Pm n p→1≤k→k+f=n→So lt p k→Tri lt n (kas_bin f p k) (fun q=>Pm n q∧So lt q n)
 | 0,k,p,h,h1,h2,hs=>⟨h,by have:k=n:=(by omega);subst this;exact hs⟩
 | f+1,k,p,h,h1,h2,hs=>by
  refine Tri.bind (Tri.mono (fun m ⟨a,b,c⟩=>?_) (place_ok o h (k:=k) (by omega) hs k 0 k (by omega) (by omega) (by omega) (fun i hi=>by omega) fun i hi hik=>by omega))
  have hg:∀i,g (bubble p k (k-m)) i=if i=m then g p k else if m<i∧i≤k then g p (i-1) else g p i:=fun i=>by
   have e:=getElem?_bubble (xs:=p) (src:=k) (by rw [h.size];omega) (k-m) (by omega) i
   rw [show k-(k-m)=m by omega] at e
   by_cases q1:i=m
   ·rw [if_pos q1] at e ⊢;exact g_eq e
   ·rw [if_neg q1] at e ⊢
    by_cases q2:m<i∧i≤k
    ·rw [if_pos q2] at e ⊢;exact g_eq e
    ·rw [if_neg q2] at e ⊢;exact g_eq e
  refine bin_ok o f (k+1) _ (h.of (bubble_perm _ _ _)) (by omega) (by omega) fun i j hij hj=>?_
  rw [hg,hg]
  by_cases i1:i=m
  ·rw [if_pos i1,if_neg (by omega),if_pos (by omega)]
   exact c _ (by omega) (by omega)
  ·rw [if_neg i1]
   by_cases i2:m<i∧i≤k
   ·rw [if_pos i2,if_neg (by omega),if_pos (by omega)]
    exact hs _ _ (by omega) (by omega)
   ·rw [if_neg i2]
    by_cases j1:j=m
    ·rw [if_pos j1];exact b i (by omega)
    ·rw [if_neg j1]
     by_cases j2:m<j∧j≤k
     ·rw [if_pos j2]
      exact hs _ _ (by omega) (by omega)
     ·rw [if_neg j2]
      exact hs _ _ hij (by omega)
theorem sort_ok (o:Ord lt n) (hn:0<n):Tri lt n (kas_sort n) (fun q=>Pm n q∧So lt q n):=by
 have h:Pm n (List.toArray (List.range n)):=⟨hn,by simp⟩
 refine Tri.bind (Tri.mono (fun r ⟨a,b,c,d⟩=>?_) (count_ok o h))
 by_cases hr:r.1<n
 ·rw [if_pos hr]
  have e:max r.1 1=r.1:=by omega
  rw [e]
  exact bin_ok o _ _ _ c a (by omega) d
 ·rw [if_neg hr]
  exact ⟨c,by have:r.1=n:=(by omega);rw [this] at d;exact d⟩
end
end TS
namespace TS
open PySem PySem.W PyProof.Rows
noncomputable def lexB:List Int→List Int→Bool
 | [],[]=>false
 | [],_::_=>true
 | _::_,[]=>false
 | a::as,b::bs=>if a=b then lexB as bs else decide (a<b)
theorem lexB_irr:∀a,lexB a a=false
 | []=>rfl
 | a::as=>by unfold lexB;rw [if_pos rfl];exact lexB_irr as
theorem lexB_tr:∀a b c,lexB a b=true→lexB b c=true→lexB a c=true
 | [],[],_,h,_=>by cases h
 | [],_::_,[],_,h=>by cases h
 | [],_::_,_::_,_,_=>rfl
 | _::_,[],_,h,_=>by cases h
 | _::_,_::_,[],_,h=>by cases h
 | a::as,b::bs,c::cs,h1,h2=>by
  unfold lexB at h1 h2 ⊢
  split at h1
  ·rename_i e;subst e
   split at h2
   ·rename_i e;subst e;rw [if_pos rfl];exact lexB_tr as bs cs h1 h2
   ·rename_i e;rw [if_neg e];exact h2
  ·rename_i e1
   split at h2
   ·rename_i e;subst e;rw [if_neg e1];exact h1
   ·rename_i e2
    simp at h1 h2
    rw [if_neg (by omega)]
    simp;omega
theorem lexB_to:∀a b,a≠b→lexB a b=false→lexB b a=true
 | [],[],n,_=>absurd rfl n
 | [],_::_,_,h=>by cases h
 | _::_,[],_,_=>rfl
 | a::as,b::bs,n,h=>by
  unfold lexB at h ⊢
  split at h
  ·rename_i e;subst e;rw [if_pos rfl]
   exact lexB_to as bs (fun z=>n (by rw [z])) h
  ·rename_i e
   simp at h
   rw [if_neg (Ne.symm e)]
   simp;omega
theorem lexB_asy {a b:List Int} (h:lexB a b=true):lexB b a=false:=by
 cases e:lexB b a with
 | false=>rfl
 | true=>have:=lexB_tr _ _ _ h e;rw [lexB_irr] at this;cases this
noncomputable def leT (a b:List Int):Bool:=!lexB b a
theorem leT_anti {a b:List Int} (h1:leT a b=true) (h2:leT b a=true):a=b:=by
 unfold leT at h1 h2
 simp at h1 h2
 by_cases e:a=b
 ·exact e
 ·rw [lexB_to a b e h2] at h1;cases h1
theorem leT_tr (a b c:List Int) (h1:leT a b=true) (h2:leT b c=true):leT a c=true:=by
 unfold leT at h1 h2 ⊢
 simp at h1 h2 ⊢
 by_cases e1:a=b
 ·subst e1;exact h2
 ·by_cases e2:b=c
  ·subst e2;exact h1
  ·exact lexB_asy (lexB_tr _ _ _ (lexB_to b a (Ne.symm e1) h1) (lexB_to c b (Ne.symm e2) h2))
theorem leT_to (a b:List Int):(leT a b||leT b a)=true:=by
 unfold leT
 cases e:lexB b a with
 | false=>rfl
 | true=>rw [lexB_asy e];rfl
theorem perm_le_eq:∀{a b:List (List Int)},a.Perm b→a.Pairwise (fun x y=>leT x y=true)→b.Pairwise (fun x y=>leT x y=true)→a=b
 | [],b,p,_,_=>(List.nil_perm.mp p).symm
 | x::a,[],p,_,_=>absurd p.length_eq (by simp)
 | x::a,y::b,p,ha,hb=>by
  have ha':=List.pairwise_cons.mp ha
  have hb':=List.pairwise_cons.mp hb
  have e:x=y:=by
   have h1:x∈y::b:=p.mem_iff.mp (by simp)
   have h2:y∈x::a:=p.mem_iff.mpr (by simp)
   rcases List.mem_cons.mp h1 with h1 | h1
   ·exact h1
   ·rcases List.mem_cons.mp h2 with h2 | h2
    ·exact h2.symm
    ·exact leT_anti (ha'.1 y h2) (hb'.1 x h1)
  subst e
  rw [perm_le_eq (List.Perm.cons_inv p) ha'.2 hb'.2]
noncomputable def sortT (nss:List (List Int)):List (List Int):=nss.mergeSort leT
theorem sortT_perm (nss:List (List Int)):(sortT nss).Perm nss:=List.mergeSort_perm nss _
theorem sortT_sorted (nss:List (List Int)):(sortT nss).Pairwise (fun x y=>leT x y=true):=List.pairwise_mergeSort leT_tr leT_to nss
theorem sortT_uniq {a nss:List (List Int)} (p:a.Perm nss) (h:a.Pairwise (fun x y=>leT x y=true)):a=sortT nss:=perm_le_eq (p.trans (sortT_perm nss).symm) h (sortT_sorted nss)
noncomputable def TupAt (h:Heap) (v:Value) (ns:List Int):Prop:=∃a xs,v=.ref a∧h.IsTuple a (List.toArray xs)∧IntsAre xs ns
section
variable {prog:Program} {w:World} {A:Around} {E:Value→Shared→Prop} {s:Shared}
theorem lex_T {fin:Bool} {Q:Bool→Shared→Prop}:∀{as bs:List Int} {xs ys:List Value} (i:Nat),IntsAre xs as→IntsAre ys bs→fin=decide (as.length<bs.length)→Q (lexB as bs) s→KatLex prog w A true fin Q (xs.zip ys) i s
 | [],[],_,_,i,.nil,.nil,e,h=>by subst e;exact kat_nil h
 | [],_::_,_,_,i,.nil,.cons _ _ _,e,h=>by subst e;exact kat_nil h
 | _::_,[],_,_,i,.cons _ _ _,.nil,e,h=>by subst e;exact kat_nil h
 | a::as,b::bs,_,_,i,.cons _ t hx,.cons _ u hy,e,h=>by
  unfold lexB at h
  refine kat_cons (wpAny_eqBool_int ?_)
  by_cases q:a=b
  ·rw [if_pos q] at h
   rw [show (a==b)=true by simp [q]]
   exact kat_yes (lex_T (i+1) hx hy (by rw [e];simp) h)
  ·rw [if_neg q] at h
   rw [show (a==b)=false by simp [q]]
   refine kat_no ?_
   by_cases hi:i=0
   ·subst hi
    exact oneLt_int h
   ·rw [show (true&&i==0)=false by simp [hi]]
    exact kat_one _ _ (lt_int h)
theorem ask_T {x y:Value} {as bs:List Int} {C:Bool→Shared→Prop} (hx:TupAt s.heap x as) (hy:TupAt s.heap y bs) (h:C (lexB as bs) s):wpAny (model prog w) A (keyLt' (tuples' true) x y) C E s:=by
 obtain ⟨a,xs,rfl,⟨o,ho,hc,n,hd⟩,ix⟩:=hx
 obtain ⟨b,ys,rfl,⟨o',ho',hc',n',hd'⟩,iy⟩:=hy
 refine kat_lt ho hd ho' hd' ?_
 have e:decide ((List.toArray xs).size<(List.toArray ys).size)=decide (as.length<bs.length):=by rw [List.size_toArray,List.size_toArray,ix.length,iy.length]
 exact lex_T 0 ix iy e h
theorem tups_T {h:Heap}:∀{vs:List Value} {nss:List (List Int)},Paired (TupAt h) vs nss→(∀ns∈nss,ns≠[])→∃fs,KatTups h vs fs∧fs.length=vs.length∧∀v∈fs,∃n t,v=Value.int n t
 | _,_,.nil,_=>⟨[],.nil,rfl,fun _ z=>by simp at z⟩
 | _,_,.cons (a:=v) (b:=ns) hv r,hne=>by
  obtain ⟨fs,h1,h2,h3⟩:=tups_T r fun ns' m=>hne ns' (List.mem_cons_of_mem _ m)
  obtain ⟨a,xs,rfl,⟨o,ho,hc,n,hd⟩,ix⟩:=hv
  cases ix with
  | nil=>exact absurd rfl (hne [] (by simp))
  | cons m t r'=>
   refine ⟨.int m t::fs,.cons ho hc hd (by simp) h1,by simp [h2],fun v hv=>?_⟩
   rcases List.mem_cons.mp hv with rfl | hv
   ·exact ⟨m,t,rfl⟩
   ·exact h3 v hv
theorem kind_T {vs:List Value} {nss:List (List Int)} {Q:SortKind→Shared→Prop} (h:Paired (TupAt s.heap) vs nss) (hne:∀ns∈nss,ns≠[]) (h0:0<vs.length) (q:Q (tuples' true) s):wpAny (model prog w) A (keyKind' vs.toArray) Q E s:=by
 obtain ⟨fs,h1,h2,h3⟩:=tups_T h hne
 refine kat_kind (T:=.type "int") h1 (by omega) (fun v hv=>?_) rfl ?_
 ·obtain ⟨n,t,rfl⟩:=h3 v hv
  exact Looks.of_pure rfl
 ·exact q
theorem TupAt.at {h h':Heap} {v:Value} {ns:List Int} {b:Addr} (k:∀c o,c≠b→h.get? c=some o→h'.get? c=some o) (hb:∃o,h.get? b=some o∧o.cls=.type "list") (x:TupAt h v ns):TupAt h' v ns:=by
 obtain ⟨a,xs,e,⟨o,ho,hc,r⟩,i⟩:=x
 refine ⟨a,xs,e,⟨o,k a o (fun z=>?_) ho,hc,r⟩,i⟩
 obtain ⟨o',h1,h2⟩:=hb
 rw [z,h1] at ho;cases ho
 rw [h2] at hc
 exact absurd (Value.type.inj hc) (by decide)
theorem Paired.get3 {α β:Type} {F:α→β→Prop}:∀{l:List α} {r:List β} {i:Nat} (d:α) (d':β),Paired F l r→i<l.length→F (l.getD i d) (r.getD i d')
 | _,_,i,_,_,.nil,e=>absurd e (by simp)
 | _,_,0,_,_,.cons h t,e=>h
 | _,_,i+1,d,d',.cons h t,e=>by
  have:=Paired.get3 d d' t (i:=i) (by simpa using e)
  simpa using this
theorem range_getD {α:Type} (vs:List α) (d:α):((List.range vs.length).map fun i=>vs.getD i d)=vs:=by
 refine List.ext_getElem (by simp) fun i h1 h2=>?_
 simp [h2]
theorem small_T (vs:List Value) (κ:SortKind):(arrOf (SortSt.mk' κ (vs.toArray.zip vs.toArray) #[] 7 none)).map (·.2)=List.toArray ((List.toArray (List.range vs.length)).toList.map fun i=>vs.getD i Value.none):=by
 apply Array.toList_inj.mp
 show ((vs.toArray.zip vs.toArray).map (·.2)).toList=_
 rw [List.toList_toArray,List.toList_toArray,range_getD,Array.toList_map]
 show (pairsOf vs).toList.map Prod.snd=_
 rw [pairsOf_toList]
 exact List.map_snd_zip (Nat.le_refl _)
theorem list_sort_T {a:Addr} {vs:List Value} {nss:List (List Int)} {n:Nat} {P:PySem.Fin→Shared→Prop} (ho:s.heap.get? a=some (seqObj "list" vs.toArray n)) (ht:Paired (TupAt s.heap) vs nss) (h64:vs.length<64) (nd:nss.Nodup) (hne:2≤vs.length→∀ns∈nss,ns≠[])
  (h:∀p:Array Nat,p.toList.Perm (List.range vs.length)→(p.toList.map fun i=>nss.getD i [])=sortT nss→P (.done (.ret .none)) { s with heap:=sortedHeap s.heap a vs (List.toArray (p.toList.map fun i=>vs.getD i Value.none)) }) :
  wpAny (model prog w) A (Builtin.«list.sort» ⟨[.ref a],[]⟩) P E s:=by
 have hlen:vs.length=nss.length:=Paired.length ht
 rw [list_sort_plain];have ha:a<s.heap.objs.size:=Heap.lt_size ho
 refine wpAny_bind (listItems_at ho rfl ?_);refine wpAny_bind (listUpdate_at ho rfl ?_)
 obtain ⟨e1,ho1⟩:∃e1,(s.heap.update a (Obj.mapSeq fun _=>#[])).get? a=some (seqObj "list" #[] e1):=⟨_,get?_update_seq ho (fun _=>#[])⟩
 refine wpAny_bind (seqEpoch_at ho1 rfl ?_);refine wpAny_bind (wpAny_newTuple ?_);refine wpAny_bind (wpAny_newList ?_);refine wpAny_holding ?_
 have ho6:(((s.heap.update a (Obj.mapSeq fun _=>#[])).push (seqObj "tuple" vs.toArray 0)).push (seqObj "list" #[] 0)).get? a=some (seqObj "list" #[] e1):=Heap.get?_push_of_some _ (Heap.get?_push_of_some _ ho1)
 have kk:∀c o,c≠a→s.heap.get? c=some o→(((s.heap.update a (Obj.mapSeq fun _=>#[])).push (seqObj "tuple" vs.toArray 0)).push (seqObj "list" #[] 0)).get? c=some o:=fun c o hc e=>Heap.get?_push_of_some _ (Heap.get?_push_of_some _ (by rw [Heap.get?_update_ne _ _ _ _ hc];exact e))
 have ht2:Paired (TupAt (((s.heap.update a (Obj.mapSeq fun _=>#[])).push (seqObj "tuple" vs.toArray 0)).push (seqObj "list" #[] 0))) vs nss:=L2.Paired.mapP ht fun v ns x=>x.at kk ⟨_,ho,rfl⟩
 show wpAny (model prog w) A _ P E { s with heap:=((s.heap.update a (Obj.mapSeq fun _=>#[])).push (seqObj "tuple" vs.toArray 0)).push (seqObj "list" #[] 0) };dsimp only
 have hsz:vs.toArray.size=vs.length:=by simp
 by_cases h2:vs.toArray.size<2
 ·rw [if_pos h2,if_pos h2];refine wpAny_bind (wpAny_pure ?_);rw [StateT.run_pure]
  refine wpAny_bind (wpAny_pure ?_);dsimp only
  refine wpAny_bind (seqEpoch_at ho6 rfl ?_);refine wpAny_bind (listUpdate_at ho6 rfl ?_ (hsz2:=by rw [Array.size_map];show (pairsOf vs).size≤_;rw [pairsOf_size,sizeLine_eq];omega))
  simp only [bne_self_eq_false,Bool.false_eq_true,if_false]
  have eo:(arrOf (SortSt.mk' general' (vs.toArray.zip vs.toArray) #[] 7 none)).map (·.2)=List.toArray ((List.toArray (List.range vs.length)).toList.map fun i=>vs.getD i Value.none):=by
   exact small_T vs general'
  rw [eo]
  refine wpAny_pure (h _ (by simp) ?_)
  match nss,(by omega:nss.length<2),hlen with
  | [],_,hl=>
   simp only [List.length_nil] at hl
   rw [hl]
   exact sortT_uniq (by simp) (by simp)
  | [x],_,hl=>
   simp only [List.length_cons,List.length_nil] at hl
   rw [hl]
   exact sortT_uniq (by simp) (by simp)
 ·rw [if_neg h2,if_neg h2]
  have h2':2≤vs.length:=by omega
  refine wpAny_bind (kind_T (s:={ s with heap:=((s.heap.update a (Obj.mapSeq fun _=>#[])).push (seqObj "tuple" vs.toArray 0)).push (seqObj "list" #[] 0) }) ht2 (hne h2') (by omega) ?_)
  let lt:Nat→Nat→Bool:=fun i j=>lexB (nss.getD i []) (nss.getD j [])
  have hord:Ord lt vs.length:=⟨fun x y z=>lexB_tr _ _ _,fun x y hx hy hxy=>lexB_to _ _ fun z=>hxy ?_⟩
  ·have wp:=Tri.wp (s:={ s with heap:=((s.heap.update a (Obj.mapSeq fun _=>#[])).push (seqObj "tuple" vs.toArray 0)).push (seqObj "list" #[] 0) }) (cmp:=kas_ask prog w A (tuples' true) vs) (R:=fun q s'=>(Pm vs.length q∧So lt q vs.length)∧s' = { s with heap:=((s.heap.update a (Obj.mapSeq fun _=>#[])).push (seqObj "tuple" vs.toArray 0)).push (seqObj "list" #[] 0) }) (fun i j hi hj C hC=>ask_T (Paired.get3 _ [] ht2 hi) (Paired.get3 _ [] ht2 hj) hC) (fun q hq=>⟨hq,rfl⟩) (sort_ok hord (by omega))
   refine wpAny_bind (wpAny_mono (kat_run (ks:=vs) (vs:=vs) (Q:=fun st' s'=>∃p:Array Nat,(Pm vs.length p∧So lt p vs.length)∧arrOf st'=p.map (kas_item (vs.toArray.zip vs.toArray))∧failedOf st'=none∧s' = { s with heap:=((s.heap.update a (Obj.mapSeq fun _=>#[])).push (seqObj "tuple" vs.toArray 0)).push (seqObj "list" #[] 0) }) rfl h2' h64 (fun p' st' s' a1 a2 a3 a4=>⟨p',a4.1,a2,a3,a4.2⟩) wp) ?_ fun _ _ e=>e)
   rintro ⟨⟨⟩,st'⟩ s' ⟨p,⟨hpm,hso⟩,har,hf,rfl⟩;dsimp only
   have hout:=kat_snds (ks:=vs) (vs:=vs) rfl har
   have hps:p.toList.length=vs.length:=by rw [Array.length_toList];exact hpm.size
   rw [hout]
   refine wpAny_bind (seqEpoch_at ho6 rfl ?_);refine wpAny_bind (listUpdate_at ho6 rfl ?_ (hsz2:=by rw [List.size_toArray,List.length_map,hps,sizeLine_eq];omega))
   rw [hf];simp only [bne_self_eq_false,Bool.false_eq_true,if_false]
   refine wpAny_pure (h p hpm.pm (sortT_uniq ?_ ?_))
   ·have e:=(hpm.pm).map (fun i=>nss.getD i [])
    rw [hlen] at e
    rw [range_getD] at e
    exact e
   ·rw [List.pairwise_iff_getElem]
    intro i j hi hj hij
    have hj':j<vs.length:=by rw [List.length_map,hps] at hj;exact hj
    have:=hso i j hij hj'
    have e1:g p i=p.toList[i]'(by rw [hps];omega):=by unfold g;simp [Array.getD,show i<p.size by rw [hpm.size];omega]
    have e2:g p j=p.toList[j]'(by rw [hps];omega):=by unfold g;simp [Array.getD,show j<p.size by rw [hpm.size];omega]
    rw [e1,e2] at this
    rw [List.getElem_map,List.getElem_map]
    unfold leT
    rw [lexB_asy this];rfl
  ·have hx':x<nss.length:=by omega
   have hy':y<nss.length:=by omega
   have e1:nss.getD x []=nss[x]:=by simp [hx']
   have e2:nss.getD y []=nss[y]:=by simp [hy']
   rw [e1,e2] at z
   have pw:=List.pairwise_iff_getElem.mp nd
   rcases Nat.lt_trichotomy x y with q | q | q
   ·exact absurd z (pw x y hx' hy' q)
   ·exact q
   ·exact absurd z.symm (pw y x hy' hx' q)
end
end TS
namespace TS
open PySem PySem.W PyProof.Rows
section
variable {prog:Program} {w:World} {A:Around} {E:Value→Shared→Prop} {s:Shared}
theorem sorted_T {l:Addr} {vs:List Value} {nss:List (List Int)} {Q:Value→Shared→Prop} (hl:s.heap.IsList l vs.toArray) (ht:Paired (TupAt s.heap) vs nss) (h64:vs.length<64) (nd:nss.Nodup) (hne:2≤vs.length→∀ns∈nss,ns≠[])
  (h:∀p:Array Nat,p.toList.Perm (List.range vs.length)→(p.toList.map fun i=>nss.getD i [])=sortT nss→Q (.ref (s.heap.objs.size+1)) { s with heap:=sortedAll s.heap vs (List.toArray (p.toList.map fun i=>vs.getD i Value.none)) }):wpAny (model prog w) A (call (.builtin "sorted") [.ref l]) Q E s:=by
 refine Calls.call_function_entry kind_sorted plain_sorted entry_sorted (args_sorted1 _) ?_;unfold Builtin.«sorted»;refine wpAny_bind (m:=checkCount "sorted" 1 1 _) (wpAny_pure ?_);refine wpAny_bind (collect_list hl ?_ (by rw [sizeLine_eq];omega));refine wpAny_bind (wpAny_newList ?_)
 have z1:((s.heap.push (seqObj "list" #[] 0)).update s.heap.objs.size (Obj.mapSeq (· ++ vs.toArray))).objs.size=s.heap.objs.size+1:=by rw [Heap.size_update,size_push']
 have g1:(((s.heap.push (seqObj "list" #[] 0)).update s.heap.objs.size (Obj.mapSeq (· ++ vs.toArray))).push (seqObj "list" vs.toArray 0)).get? (s.heap.objs.size+1)=some (seqObj "list" vs.toArray 0):=by rw [←z1];exact Heap.get?_push_size _ rfl
 have kp:∀c o,c≠s.heap.objs.size→s.heap.get? c=some o→(((s.heap.push (seqObj "list" #[] 0)).update s.heap.objs.size (Obj.mapSeq (· ++ vs.toArray))).push (seqObj "list" vs.toArray 0)).get? c=some o:=fun c o hc e=>Heap.get?_push_of_some _ (by rw [Heap.get?_update_ne _ _ _ _ hc];exact Heap.get?_push_of_some _ e)
 have ht2:Paired (TupAt (((s.heap.push (seqObj "list" #[] 0)).update s.heap.objs.size (Obj.mapSeq (· ++ vs.toArray))).push (seqObj "list" vs.toArray 0))) vs nss:=L2.Paired.mapP ht fun v ns ⟨a,xs,e,⟨o,ho,r⟩,i⟩=>⟨a,xs,e,⟨o,kp a o (Nat.ne_of_lt (Heap.lt_size ho)) ho,r⟩,i⟩
 show wpAny _ _ _ _ _ { s with heap:=((s.heap.push (seqObj "list" #[] 0)).update s.heap.objs.size (Obj.mapSeq (· ++ vs.toArray))).push (seqObj "list" vs.toArray 0) };rw [z1]
 refine wpAny_bind (wpAny_holding (wpAny_call_entry slot_list_sort ⟨_,g1,rfl⟩ entry_list_sort (list_sort_T (s:={ s with heap:=((s.heap.push (seqObj "list" #[] 0)).update s.heap.objs.size (Obj.mapSeq (· ++ vs.toArray))).push (seqObj "list" vs.toArray 0) }) g1 ht2 h64 nd hne fun p a1 a2=>⟨_,rfl,?_⟩) (args_list_sort _)));exact wpAny_pure ⟨_,rfl,h p a1 a2⟩
end
theorem Paired.pick {α β:Type} {F:α→β→Prop} {l:List α} {r:List β} (d:α) (d':β) (h:Paired F l r):∀(ix:List Nat),(∀i∈ix,i<l.length)→Paired F (ix.map fun i=>l.getD i d) (ix.map fun i=>r.getD i d')
 | [],_=>.nil
 | i::ix,hb=>.cons (Paired.get3 d d' h (hb i (by simp))) (Paired.pick d d' h ix fun j m=>hb j (List.mem_cons_of_mem _ m))
end TS
namespace TF
open PySem PySem.Spec PyProof.Rows L2 TS
section
variable {X:Cx} {G:Gh}
theorem tupsAt_of {pins:List (Addr×Obj)} {s:Shared} {σ:St} {H:Hp} {T:V→List Int→Prop} (I:Inv X pins σ H s) (hT:∀v ns,T v ns→∃a,v=.ref a∧SqT X.K H a (ns.map V.int)):∀{vs:List V} {its:List Value} {nss:List (List Int)},Vals vs its→Paired T vs nss→Paired (TupAt s.heap) its nss
 | _,_,_,.nil,.nil=>.nil
 | _,_,_,.cons r rr,.cons t tt=>by
  refine .cons ?_ (tupsAt_of I hT rr tt)
  obtain ⟨a,rfl,hq⟩:=hT _ _ t
  cases r
  obtain ⟨xs,rv,pl,hz⟩:=I.tuple hq
  exact ⟨a,xs,rfl,show s.heap.IsTuple a xs.toArray from pl,intsAre_of rv⟩
theorem call_sortTR:CallR X (.builtin "sorted") (fun xs H Q=>∃(p:Addr) (vs:List V) (nss:List (List Int)) (T:V→List Int→Prop),xs=[.ref p]∧SqL X.K H p vs∧(∀v ns,T v ns→∃a,v=.ref a∧SqT X.K H a (ns.map V.int))∧Paired T vs nss∧
  nss.length<64∧nss.Nodup∧(2≤nss.length→∀ns∈nss,ns≠[])∧∀l vs',Paired T vs' (sortT nss)→H l=none→Q (.ref l) (upd H l (.lst vs'))):=by
 intro pins s σ H xs us Q I r h
 obtain ⟨p,vs,nss,T,rfl,hp,hT,pT,h64,nd,hne,q⟩:=h
 obtain ⟨u,rfl,ru⟩:=vals1 r
 cases ru
 obtain ⟨its,rv,pl,hz⟩:=I.list hp
 have hl:=rv.length
 have hl2:vs.length=nss.length:=Paired.length pT
 refine sorted_T pl.isList (tupsAt_of I hT rv pT) (by omega) nd (fun z=>hne (by omega)) fun pm a1 a2=>?_
 obtain ⟨e,he⟩:=sortedAll_at s.heap its (List.toArray (pm.toList.map fun i=>its.getD i Value.none))
 have hle:s.heap.objs.size≤s.heap.objs.size+1:=Nat.le_succ _
 have hb:∀i∈pm.toList,i<its.length:=fun i m=>by
  have:=a1.mem_iff.mp m
  simpa using this
 have pv:Vals (pm.toList.map fun i=>vs.getD i V.non) (pm.toList.map fun i=>its.getD i Value.none):=TS.Paired.pick _ _ rv _ fun i m=>by rw [hl];exact hb i m
 have pt:Paired T (pm.toList.map fun i=>vs.getD i V.non) (pm.toList.map fun i=>nss.getD i []):=TS.Paired.pick _ _ pT _ fun i m=>by rw [hl];exact hb i m
 rw [a2] at pt
 refine ⟨.ref (s.heap.objs.size+1),_,I.laid (a:=s.heap.objs.size+1) (o:=.lst (pm.toList.map fun i=>vs.getD i V.non)) (t':=s.toks) (fun _ _=>sortedAll_old) hle ⟨?_,_,e,pv,he⟩,rfl,q _ _ pt (I.hok.fresh hle)⟩
 have:=a1.length_eq
 rw [List.length_range] at this
 rw [List.length_map,this,sizeLine_eq]
 omega
noncomputable def tupI (ns:List Int):D:=.tup (ns.map .int)
noncomputable def tupsOf:List D→Option (List (List Int))
 | []=>some []
 | .tup ds::r=>match intsOf ds,tupsOf r with | some ns,some nss=>some (ns::nss) | _,_=>none
 | _::_=>none
theorem tupsOf_map:∀nss:List (List Int),tupsOf (nss.map tupI)=some nss
 | []=>rfl
 | ns::nss=>by
  show (match intsOf (ns.map D.int),tupsOf (nss.map tupI) with | some ns,some nss=>some (ns::nss) | _,_=>none)=_
  rw [intsOf_map,tupsOf_map nss]
theorem tupsOf_eq:∀{ds:List D} {nss:List (List Int)},tupsOf ds=some nss→ds=nss.map tupI
 | [],nss,h=>by
  have h:some []=some nss:=h
  cases h;rfl
 | d::r,nss,h=>by
  cases d with
  | tup ds=>
   have h:(match intsOf ds,tupsOf r with | some ns,some nss=>some (ns::nss) | _,_=>none)=some nss:=h
   cases e1:intsOf ds with
   | none=>rw [e1] at h;cases h
   | some ns=>
    cases e2:tupsOf r with
    | none=>rw [e1,e2] at h;cases h
    | some ms=>
     rw [e1,e2] at h;cases h
     rw [List.map_cons,←tupsOf_eq e2]
     unfold tupI
     rw [←intsOf_eq e1]
  | _=>cases h
noncomputable def okSort (nss:List (List Int)):Prop:=nss.length<64∧nss.Nodup∧(2≤nss.length→∀ns∈nss,ns≠[])
instance (nss:List (List Int)):Decidable (okSort nss):=by unfold okSort;infer_instance
noncomputable def dSortTs:List D→Option D
 | [.lst ds]=>match tupsOf ds with | some nss=>if okSort nss then some (.lst ((sortT nss).map tupI)) else none | none=>none
 | _=>none
theorem repT_pair {Hf:Hp}:∀{nss:List (List Int)} {vs:List V},RepL G Hf (nss.map tupI) vs→Paired (fun v ns=>Rep G Hf (tupI ns) v) vs nss
 | [],vs,h=>by
  rw [RepL.nil_iff.mp h];exact .nil
 | ns::nss,vs,h=>by
  obtain ⟨v,r,rfl,h1,h2⟩:=RepL.cons_iff.mp h
  exact .cons h1 (repT_pair h2)
theorem pair_repT {Hf:Hp}:∀{nss:List (List Int)} {vs:List V},Paired (fun v ns=>Rep G Hf (tupI ns) v) vs nss→RepL G Hf (nss.map tupI) vs
 | _,_,.nil=>RepL.nil_iff.mpr rfl
 | _,_,.cons h t=>.cons h (pair_repT t)
theorem call_sortedTs:CallD X G (.builtin "sorted") dSortTs:=
 ⟨_,call_sortTR,fun Hf H s xs ds c Q e1 st r q k=>by
  match ds,q,r with
  | [.lst es],q,r=>
   have q:(match tupsOf es with | some nss=>if okSort nss then some (D.lst ((sortT nss).map tupI)) else none | none=>none)=some c:=q
   cases he:tupsOf es with
   | none=>rw [he] at q;cases q
   | some nss=>
    rw [he] at q
    have q:(if okSort nss then some (D.lst ((sortT nss).map tupI)) else none)=some c:=q
    split at q
    ·rename_i ok
     cases q
     obtain ⟨v,rfl,rv⟩:=RepL.one_inv r
     obtain ⟨p,vs,rfl,np,hp,rp⟩:=Rep.lst_iff.mp rv
     rw [tupsOf_eq he] at rp
     refine ⟨p,vs,nss,fun v ns=>Rep G Hf (tupI ns) v,rfl,SqL.of (e1 _ _ np hp),fun v ns h=>?_,repT_pair rp,ok.1,ok.2.1,ok.2.2,fun l vs' pt hl=>?_⟩
     ·obtain ⟨a,us,rfl,na,ha,ra⟩:=Rep.tup_iff.mp h
      rw [RepL.ints ra] at ha
      exact ⟨a,rfl,SqT.of (e1 _ _ na ha)⟩
     ·have nf:=Gh.nofp st hl
      have g2:=Gr.new (o:=.lst vs') e1 hl nf
      have rl:=pair_repT pt
      exact k (.ref l) _ _ g2 (Gh.grow st hl) (Rep.lst_iff.mpr ⟨l,_,rfl,nf,upd_same,rl.ext g2.ff⟩) (FreshL.mk e1 hl nf rl)
    ·cases q⟩
end
end TF
namespace TF
open PySem PySem.Spec PyProof.Rows L2
section
variable {X:Cx} {G:Gh} {own:List Nat} {fr:Bool}
end
section
variable {X:Cx} {G:Gh}
end
section
variable {X:Cx} {G:Gh} {ob:List Nat} {fr:Bool}
end
section
variable {X:Cx} {G:Gh} {ob own:List Nat} {fr:Bool}
end
section
variable {X:Cx} {G:Gh} {ob own:List Nat} {fr:Bool}
noncomputable def rIndex (K:PySem.W.Frag):V→List V→Hp→VK→Prop:=fun x vs H Q=>∃(p:Addr) (ns:List Int) (k:Int),x=.ref p∧vs=[.int k]∧SqL K H p (ns.map V.int)∧k∈ns∧Q (.int (ns.idxOf k:Nat)) H
theorem mt_index : MtR X "list.index" (rIndex X.K) := by
  intro pins s σ H x xs v us Q I rx rv h
  obtain ⟨p, ns, k, rfl, rfl, hp, hk, q⟩ := h
  cases rx
  obtain ⟨u, rfl, t, rfl⟩ := vals1 rv
  obtain ⟨its, r2, pl, hz⟩ := I.list hp
  have hi : IntsAre its ns := intsAre_of r2
  obtain ⟨⟨c0, d0, dat, sl0⟩, hob, hcl, n0, hdat⟩ := id pl.isList
  simp only at hcl hdat
  subst hcl hdat
  have l1 := hi.length
  have l2 : ns.idxOf k < ns.length := by rw [List.idxOf_lt_length_iff]; exact hk
  have l3 : ns.length ≤ sizeLine := by simpa using hz
  have l4 := line63
  have go := SeqAt.list_indexAt p its.toArray n0 d0 sl0 (.int k t) (isInt k) (ns.idxOf k) (by simpa [l1] using l2) (by omega)
    (by show isInt k its[ns.idxOf k] = true
        rw [isInt_at k hi (ns.idxOf k) (by omega) l2]; simpa using List.getElem_idxOf l2)
    (fun j hjs hlt => by
        show isInt k its[j] = false
        rw [isInt_at k hi j (by simpa using hjs) (by have : j < ns.idxOf k := hlt; omega)]; exact ne_of_lt_idxOf hlt _)
  refine call_meets PySem.F.slot_list_index ⟨_, hob, rfl⟩ PySem.F.entry_list_index (PySem.F.args_list_index_2 _ _) go ⟨hob, fun y hy => (eq_isInt k t hi y (by simpa using hy)).at _ _, ?_⟩
  exact ⟨.int (ns.idxOf k : Nat), H, I.tok _, ⟨_, rfl⟩, q⟩
noncomputable def dIndex:D→D→Option D
 | .lst ds,.int k=>(intsOf ds).bind fun ns=>if k∈ns then some (.int (ns.idxOf k:Nat)) else none
 | _,_=>none
theorem pd_index {o e:Expr} {ap cp:Pos} {r1 r2:Bool} {fo fe:Rho→M D} (ho:PD X G r1 o fo) (he:PD X G r2 e fe)
  (hbase:attributeBase o "index" X.env (eval o X.env)=eval o X.env:=by rfl)
  (hfew:((backTo cp (starEach [e] X.env)).all (fun x=>!x.1)&&(backToKw cp (keywordEach [] X.env)).all (fun x=>x.1.isSome)
   && decide ([e].length+([]:List Keyword).length+(if ([]:List Keyword).isEmpty then 0 else 1)<30))=true:=by rfl)
  (hline:(ap.endLine==cp.line)=true:=by rfl) (hs:starEach [e] X.env=(false,eval e X.env)::starEach [] X.env:=by rfl) :
  PD X G true (.Call (.Attribute o "index" ap) [e] [] cp) (dOp dIndex fo fe):=by
 obtain ⟨to,po,qo⟩:=ho.drop
 obtain ⟨te,pe,qe⟩:=he.drop
 refine ⟨_,pe_bm PySem.F.plainAttrs_list PySem.F.slot_list_index PySem.F.type_list_index mt_index po (pa_cons pe pa_nil hs) hbase hfew hline hs rfl,fun σ Hf H ρ s d s' Q e1 e2 e3 e4 k=>?_⟩
 obtain ⟨da,s1,a1,a2⟩:=mbind_some e4
 obtain ⟨db,s2,a3,a4⟩:=mbind_some a2
 obtain ⟨a5,rfl⟩:=mOf_some a4
 refine qo σ Hf H ρ s da s1 _ e1 e2 e3 a1 fun x Hf1 H1 g1 st1 r1=>?_
 match da,db,a5,r1,a3 with
 | .lst ds,.int kk,a5,r1,a3=>
  have a5:((intsOf ds).bind fun ns=>if kk∈ns then some (D.int (ns.idxOf kk:Nat)) else none)=some d:=a5
  cases he:intsOf ds with
  | none=>rw [he] at a5;cases a5
  | some ns=>
   rw [he] at a5
   have a5:(if kk∈ns then some (D.int (ns.idxOf kk:Nat)) else none)=some d:=a5
   split at a5
   ·rename_i hmem
    cases a5
    obtain ⟨p,vs,rfl,np,hp,rp⟩:=Rep.lst_iff.mp r1
    refine ⟨.inl ⟨rfl,vs,SqL.of (g1.fh _ _ np hp)⟩,?_⟩
    refine qe σ Hf1 H1 ρ s1 _ _ _ g1.fh (e2.ext g1.ff) st1 a3 fun y Hf2 H2 g2 st2 r2=>?_
    rw [intsOf_eq he] at rp
    rw [RepL.ints rp] at hp
    cases (Rep.int_iff.mp r2)
    exact ⟨p,ns,kk,rfl,rfl,SqL.of (g2.fh _ _ np (g2.ff _ _ np hp)),hmem,k _ Hf2 H2 (g1.trans g2) st2 (Rep.int_iff.mpr rfl) fun _=>.scal fun z=>z⟩
   ·cases a5
end
section
variable {X:Cx} {G:Gh} {ob own:List Nat} {fr:Bool}
noncomputable def dIsB (d e:D):Option D:=match d,e with | .bl a,.bl b=>some (.bl (a==b)) | _,_=>none
theorem op_isB:OpR X (compareOp .Is) (fun x y H Q=>∃a b,x=.bl a∧y=.bl b∧Q (.bl (a==b)) H):=by
 intro pins s σ H x y v u Q I rx ry h
 obtain ⟨a,b,rfl,rfl,q⟩:=h
 cases rx
 cases ry
 exact is_bool (fin_bl I q rfl)
theorem opd_isB:OpD X G (compareOp .Is) dIsB:=
 ⟨_,op_isB,fun Hf H s x y d e c Q e1 st rx ry q k=>by
  match d,e,q,rx,ry with
  | .bl a,.bl b,q,rx,ry=>
   cases q
   exact ⟨a,b,Rep.bl_iff.mp rx,Rep.bl_iff.mp ry,k _ Hf H (.refl e1) st (Rep.bl_iff.mpr rfl) (.scal fun z=>z)⟩⟩
end
end TF
namespace HT
open PySem PySem.Spec PyProof.Rows
section
variable {prog:Program} {w:World} {A:Around} {E:Value→Shared→Prop} {s:Shared}
end
end HT
namespace TF
open PySem PySem.Spec PyProof.Rows L2
section
variable {X:Cx} {G:Gh}
end
end TF
namespace HT
open PySem PySem.Spec PyProof.Rows
section
variable {prog:Program} {w:World} {A:Around} {R:Result→Shared→Prop} {I:Addr} {fp wr:List Addr} {n:Nat} {P:Nat→Value→Prop} {St:Nat→Heap→Prop}
end
section
variable {prog:Program} {w:World} {A:Around} {E:Value→Shared→Prop} {s:Shared}
end
section
variable {prog:Program} {w:World} {A:Around} {R:Result→Shared→Prop} {I:Addr} {fp wr:List Addr} {n:Nat} {P:Nat→Value→Prop} {St:Nat→Heap→Prop}
end
section
variable {prog:Program} {w:World} {A:Around} {E:Value→Shared→Prop} {s:Shared}
end
end HT
namespace L2
open PySem PySem.Spec PyProof.Rows
section
variable {X:Cx}
end
end L2
namespace TF
open PySem PySem.Spec PyProof.Rows L2
section
variable {X:Cx} {G:Gh}
end
end TF
namespace TS
open PySem PySem.Spec PyProof.Rows L2
section
variable {prog:Program} {w:World} {A:Around} {E:Value→Shared→Prop} {s:Shared}
end
end TS
namespace TF
open PySem PySem.Spec PyProof.Rows L2 TS
section
variable {X:Cx} {G:Gh}
end
end TF
namespace TP2
open PySem L2 TF TP
noncomputable def g_all_near:Rho→M Out:=(sSeq (sRet (dComp [none,some 0] (iRange1 (dOp dIx (dVar 0) (dC (.int 0)))) (gOne 0) bTrue (dFn F_near (dCons (dVar 1) (dCons (dVar 0) dNil)))))
 sNext)
noncomputable def F_all_near:List D→M D:=runB 1 1 g_all_near
noncomputable def g_is_near_all:Rho→M Out:=(sSeq (sRet (dCall dAll (dCons (dComp [none,some 0,some 1] (iSeqT (dVar 2)) (gOne 0) bTrue (dOp dIn (dVar 0) (dOp dIx (dVar 1) (dVar 2)))) dNil)))
 sNext)
noncomputable def F_is_near_all:List D→M D:=runB 3 3 g_is_near_all
noncomputable def g_all_knots:Rho→M Out:=(sSeq (sSet 1 (dLst (dCons (dTup dNil) dNil)))
 (sSeq (sFor (iRange1 (dCall dLen (dCons (dVar 0) dNil))) (gOne 2)
 (sSeq (sSet 1 (dOp dAdd (dVar 1) (dComp [none,some 2,some 0] (iSeqL (dVar 1)) (gOne 0) (asB (dFn F_is_near_all (dCons (dVar 2) (dCons (dVar 1) (dCons (dVar 0) dNil))))) (dOp dAdd (dVar 0) (dTup (dCons (dVar 1) dNil))))))
 sNext))
 (sSeq (sRet (dVar 1))
 sNext)))
noncomputable def F_all_knots:List D→M D:=runB 3 1 g_all_knots
noncomputable def g__law_tweb:Rho→M Out:=(sSeq (sSet 2 (dFn drawF (dCons (dVar 0) (dCons (dOp dAdd (dVar 1) (dC (.int 1))) dNil))))
 (sSeq (sSet 3 (dFn drawF (dCons (dVar 0) (dCons (dC (.int 9)) dNil))))
 (sSeq (sSet 4 (dOp dAdd (dC (.int 1)) (dFn drawF (dCons (dVar 0) (dCons (dC (.int 5)) dNil)))))
 (sSeq (sOwn 5 (dLst dNil))
 (sSeq (sFor (iRange1 (dVar 2)) (gOne 6)
 (sSeq (sFor (iRange2 (dOp dAdd (dVar 6) (dC (.int 1))) (dVar 2)) (gOne 7)
 (sSeq (sSet 8 (fun ρ=>(dOp dIx (dLst (dCons (dC (.bl false)) (dCons (dC (.bl true)) (dCons (dOp dIn (dOp dSub (dVar 7) (dVar 6)) (dTup (dCons (dC (.int 1)) (dCons (dOp dSub (dVar 2) (dC (.int 1))) dNil)))) (dCons (dOp dNeO (dOp dMod (dVar 6) (dVar 4)) (dOp dMod (dVar 7) (dVar 4))) dNil))))) (dCall dMin2 (dCons (dVar 3) (dCons (dC (.int 3)) dNil)))) (hide [5] ρ)))
 (sSeq (sIf (asB (dOp dGt (dVar 3) (dC (.int 3))))
 (sSeq (sSet 8 (fun ρ=>(dOp dLt (dFn drawF (dCons (dVar 0) (dCons (dC (.int 6)) dNil))) (dVar 4)) (hide [5] ρ)))
 sNext)
 sNext)
 (sSeq (sIf (asB (dVar 8))
 (sSeq (sApp 5 (fun ρ=>(dTup (dCons (dVar 6) (dCons (dVar 7) dNil))) (hide [5] ρ)))
 sNext)
 sNext)
 sNext))))
 sNext))
 (sSeq (sRet (dTup (dCons (dVar 2) (dCons (dCall dTuple (dCons (dVar 5) dNil)) dNil))))
 sNext))))))
noncomputable def F__law_tweb:List D→M D:=runB 9 2 g__law_tweb
end TP2
namespace TP3
open PySem L2 TF TP
open TP2
noncomputable def g_is_full:Rho→M Out:=(sSeq (sRet (vNot (dCall dAny (dCons (dComp [none,some 0,some 1] (iRange1 (dCall dLen (dCons (dVar 0) dNil))) (gOne 0) bTrue (dFn F_is_near_all (dCons (dVar 1) (dCons (dVar 0) (dCons (dVar 2) dNil))))) dNil))))
 sNext)
noncomputable def F_is_full:List D→M D:=runB 2 2 g_is_full
noncomputable def g_full_knots:Rho→M Out:=(sSeq (sSet 1 (dFn F_all_near (dCons (dVar 0) dNil)))
 (sSeq (sRet (dCall dSortTs (dCons (dComp [none,some 1] (iSeqL (dFn F_all_knots (dCons (dVar 1) dNil))) (gOne 0) (asB (dFn F_is_full (dCons (dVar 1) (dCons (dVar 0) dNil)))) (dVar 0)) dNil)))
 sNext))
noncomputable def F_full_knots:List D→M D:=runB 2 1 g_full_knots
end TP3
namespace TP3
open PySem L2 TF TP
open TP2
noncomputable def g_is_knot:Rho→M Out:=(sSeq (sIf (bNot (asB (dCall dIsi (dCons (dVar 1) (dCons (dC (.ty "tuple")) dNil)))))
 (sSeq (sRet (dC (.bl false)))
 sNext)
 sNext)
 (sSeq (sIf (bOr (bNot (asB (dCall dAll (dCons (dComp [none,some 0] (iSeqT (dVar 1)) (gOne 0) bTrue (dFn F_is_place (dCons (dOp dIx (dVar 1) (dC (.int 0))) (dCons (dVar 0) dNil)))) dNil)))) (bNot (asB (dFn F_rises (dCons (dVar 1) dNil)))))
 (sSeq (sRet (dC (.bl false)))
 sNext)
 sNext)
 (sSeq (sSet 2 (dFn F_marked_ties (dCons (dVar 0) dNil)))
 (sSeq (sRet (dCall dAll (dCons (dComp [none,some 2] (iSeqL (dFn F_pairs_of (dCons (dVar 1) dNil))) (gOne 0) bTrue (dOp dIn (dVar 0) (dVar 1))) dNil)))
 sNext))))
noncomputable def F_is_knot:List D→M D:=runB 3 2 g_is_knot
end TP3
namespace TP3
open PySem L2 TF TP
open TP2
end TP3
namespace TP3
open PySem L2 TF TP
open TP2
end TP3
namespace TP3
open PySem L2 TF TP
open TP2
end TP3
namespace TP3
open PySem L2 TF TP
open TP2
end TP3
namespace TP3
open PySem L2 TF TP
open TP2
end TP3
namespace TQ
open PySem L2 TF TQ
open TP
open TP2
open TP3
noncomputable def g_do_meet:Rho→M Out:=(sSeq (sRet (vAnd (dOp dLt (dOp dIx (dVar 0) (dC (.int 0))) (dOp dIx (dVar 1) (dC (.int 1)))) (dOp dLt (dOp dIx (dVar 1) (dC (.int 0))) (dOp dIx (dVar 0) (dC (.int 1))))))
 sNext)
noncomputable def F_do_meet:List D→M D:=runB 2 2 g_do_meet
noncomputable def g_is_same_or_tied:Rho→M Out:=(sSeq (sRet (vOr (dOp dEqO (dVar 1) (dVar 2)) (dFn F_are_tied (dCons (dVar 0) (dCons (dVar 1) (dCons (dVar 2) dNil))))))
 sNext)
noncomputable def F_is_same_or_tied:List D→M D:=runB 3 3 g_is_same_or_tied
noncomputable def L_lam_put_in:List D→M D:=runB 4 4 (sSeq (sIf (asB (dOp dEqO (dOp dIx (dVar 0) (dC (.int 0))) (dOp dIx (dVar 1) (dC (.int 0)))))
 (sSeq (sRet (dFn F_are_tied (dCons (dOp dIx (dVar 2) (dOp dIx (dVar 0) (dC (.int 0)))) (dCons (dOp dIx (dVar 0) (dC (.int 1))) (dCons (dOp dIx (dVar 1) (dC (.int 1))) dNil)))))
 sNext)
 sNext)
 (sSeq (sRet (dFn F_are_tied (dCons (dVar 3) (dCons (dOp dIx (dVar 0) (dC (.int 0))) (dCons (dOp dIx (dVar 1) (dC (.int 0))) dNil)))))
 sNext))
noncomputable def L_lam_turned:List D→M D:=runE 3 (vNot (dFn F_are_tied (dCons (dVar 2) (dCons (dVar 0) (dCons (dVar 1) dNil)))))
noncomputable def L_lam_by_pairs:List D→M D:=runB 4 4 (sSeq (sRet (vAnd (dFn F_is_same_or_tied (dCons (dVar 2) (dCons (dOp dIx (dVar 0) (dC (.int 0))) (dCons (dOp dIx (dVar 1) (dC (.int 0))) dNil)))) (dFn F_is_same_or_tied (dCons (dVar 3) (dCons (dOp dIx (dVar 0) (dC (.int 1))) (dCons (dOp dIx (dVar 1) (dC (.int 1))) dNil))))))
 sNext)
noncomputable def L_lam_numbered_anew:List D→M D:=runE 3 (dFn F_are_tied (dCons (dVar 2) (dCons (dVar 0) (dCons (dVar 1) dNil))))
noncomputable def L_lam_even_web:List D→M D:=runE 3 (dOp dNeO (dOp dMod (dVar 0) (dVar 2)) (dOp dMod (dVar 1) (dVar 2)))
noncomputable def L_lam_web_on_ring:List D→M D:=runE 4 (dOp dIn (dCall dMin2 (dCons (dOp dSub (dVar 1) (dVar 0)) (dCons (dOp dAdd (dOp dSub (dVar 2) (dVar 1)) (dVar 0)) dNil))) (dVar 3))
noncomputable def Tl:Nat→List D→M D
 | 0=>L_lam_turned
 | 1=>L_lam_numbered_anew
 | 2=>F_do_meet
 | 3=>L_lam_put_in
 | 4=>L_lam_by_pairs
 | 6=>L_lam_even_web
 | 7=>L_lam_web_on_ring
 | _=>fun _=>mfail
noncomputable def g_web_where:Rho→M Out:=(sSeq (sSet 2 (dFn F_pairs_of (dCons (dListRange (dCall dLen (dCons (dVar 0) dNil))) dNil)))
 (sSeq (sRet (dTup (dCons (dCall dLen (dCons (dVar 0) dNil)) (dCons (dCall dTuple (dCons (dComp [none,some 1,some 0] (iSeqL (dVar 2)) (gOne 0) (asB (dApp Tl 1 (dCons (dOp dIx (dVar 2) (dOp dIx (dVar 0) (dC (.int 0)))) (dCons (dOp dIx (dVar 2) (dOp dIx (dVar 0) (dC (.int 1)))) dNil)))) (dVar 0)) dNil)) dNil))))
 sNext))
noncomputable def F_web_where:List D→M D:=runB 3 2 g_web_where
noncomputable def g_spots:Rho→M Out:=(sSeq (sOwn 1 (dLst dNil))
 (sSeq (sFor (iRange1 (dCall dLen (dCons (dVar 0) dNil))) (gOne 2)
 (sSeq (sExt 1 (fun ρ=>(dComp [none,some 2] (iRange1 (dOp dIx (dVar 0) (dVar 2))) (gOne 0) bTrue (dTup (dCons (dVar 1) (dCons (dVar 0) dNil)))) (hide [1] ρ)))
 sNext))
 (sSeq (sRet (dVar 1))
 sNext)))
noncomputable def F_spots:List D→M D:=runB 3 1 g_spots
noncomputable def g_put_in:Rho→M Out:=(sSeq (sSet 2 (dFn F_marked_ties (dCons (dVar 0) dNil)))
 (sSeq (sSet 3 (dComp [none] (iSeqL (dVar 1)) (gOne 0) bTrue (dFn F_marked_ties (dCons (dVar 0) dNil))))
 (sDefRet 4 (dFnC F_web_where 3 [3,2] (dFn F_spots (dCons (dComp [none] (iSeqL (dVar 1)) (gOne 0) bTrue (dOp dIx (dVar 0) (dC (.int 0)))) dNil))))))
noncomputable def F_put_in:List D→M D:=runB 5 2 g_put_in
noncomputable def g_turned:Rho→M Out:=(sSeq (sSet 1 (dFn F_marked_ties (dCons (dVar 0) dNil)))
 (sSeq (sRet (dFnC F_web_where 0 [1] (dListRange (dOp dIx (dVar 0) (dC (.int 0))))))
 sNext))
noncomputable def F_turned:List D→M D:=runB 2 1 g_turned
noncomputable def g_beside:Rho→M Out:=(sSeq (sRet (dFn F_put_in (dCons (dTup (dCons (dCall dLen (dCons (dVar 0) dNil)) (dCons (dTup dNil) dNil))) (dCons (dVar 0) dNil))))
 sNext)
noncomputable def F_beside:List D→M D:=runB 1 1 g_beside
noncomputable def g_wholly_tied:Rho→M Out:=(sSeq (sRet (dFn F_put_in (dCons (dFn F_turned (dCons (dTup (dCons (dCall dLen (dCons (dVar 0) dNil)) (dCons (dTup dNil) dNil))) dNil)) (dCons (dVar 0) dNil))))
 sNext)
noncomputable def F_wholly_tied:List D→M D:=runB 1 1 g_wholly_tied
noncomputable def g_by_pairs:Rho→M Out:=(sSeq (sSet 2 (dFn F_marked_ties (dCons (dVar 0) dNil)))
 (sSeq (sSet 3 (dFn F_marked_ties (dCons (dVar 1) dNil)))
 (sDefRet 4 (dFnC F_web_where 4 [2,3] (dFn F_spots (dCons (dOp dMulA (dLst (dCons (dOp dIx (dVar 1) (dC (.int 0))) dNil)) (dOp dIx (dVar 0) (dC (.int 0)))) dNil))))))
noncomputable def F_by_pairs:List D→M D:=runB 5 2 g_by_pairs
end TQ
namespace TF
open PySem PySem.Spec PyProof.Rows L2
noncomputable def spLawT (K:PySem.W.Frag) (L:List (Addr×Str)):Sp:=fun vs H Q _=>∃(a:Addr) (ns:List Int),vs=[.ref a]∧SqL K H a (ns.map V.int)∧ns.length≤63∧(∀P q,(P,q)∈L→H P=some (.tbl #[]))∧∀H',Q (.bl true) H'
theorem spLaw_tabs {L:List (Addr×Str)} {tb:List (Str×Addr×Addr)} {H:Hp} (h:∀P q,(P,q)∈L→∃x c,(x,c,P)∈tb) (hT:∀e∈tb,H e.2.2=some (.tbl #[])):∀P q,(P,q)∈L→H P=some (.tbl #[]):=fun P q m=>by
 obtain ⟨x,c,z⟩:=h P q m
 exact hT _ z
theorem tabs0 {G0:Gh} {L:List (Addr×Str)} {H:Hp} (h:∀P q,(P,q)∈L→H P=some (.tbl #[])):∀P q,(P,q)∈L→TabSt G0 L P q H:=fun P q m=>⟨#[],h P q m,trivial,fun pos cv hc=>by cases hc⟩
theorem lawD_runT {L:List (Addr×Str)} {H0 H:Hp} {p wa:Addr} {m:Int} {w:List Int} {g:Rho→M Out} {Q:VK} {n:Nat} {s':Pn} {x:V} (st:stD p wa ([m,0],w) H) (hTb:∀P q,(P,q)∈L→H0 P=some (.tbl #[])) (kp:∀b u,H0 b=some u→H b=some u) (hp:H0 p=none) (hw:H0 wa=none) (hQ:∀H',Q (.bl true) H')
  (hg:g (none::some .pen::List.replicate n none) ([m,0],w)=some (.rt (.bl true),s')) :
  ∃G,PenT PenD L G∧dosOf G [] [] [] false g { nx:=fun _ H'=>Q .non H',rt:=Q } (some x::some (.ref p)::List.replicate n none) H:=by
 refine ⟨tabsG (penD p wa) L,⟨penD p wa,⟨p,wa,rfl⟩,fun b ⟨q,mb⟩ hb=>?_,rfl⟩,fun _=>none,fun _=>none,H,none::some .pen::List.replicate n none,([m,0],w),_,s',⟨fun _=>none,⟨by simp,.refl _ _,.refl (fun b o _ e=>by cases e),fun i d _ e=>?_,fun i d m=>by simp at m,fun i j b di dj m=>by simp at m⟩⟩,⟨st,tabs0 fun P q z=>kp _ _ (hTb P q z)⟩,hg,fun v Hf' H' g st r _=>?_⟩
 ·have e:=hTb b q mb
  rcases hb with rfl | rfl
  ·rw [hp] at e;cases e
  ·rw [hw] at e;cases e
 ·match i,e with
  | 0,e=>cases e
  | 1,e=>cases e;exact ⟨_,rfl,Rep.pen_iff.mpr rfl⟩
  | i+2,e=>
   have e':(List.replicate n (none:Option D))[i]?=some (some d):=e
   rw [List.getElem?_replicate] at e'
   split at e' <;> cases e'
 ·rw [Rep.bl_iff.mp r]
  exact hQ H'
theorem lok_nd:∀{L:List (Addr×Str)},(L.map (·.1)).Nodup→LOk L
 | [],_=>fun P q q' h=>by simp at h
 | (a,b)::L,nd=>fun P q q' h1 h2=>by
  rw [List.map_cons,List.nodup_cons] at nd
  rcases List.mem_cons.mp h1 with e1 | m1
  ·cases e1
   rcases List.mem_cons.mp h2 with e2 | m2
   ·cases e2;rfl
   ·exact absurd (List.mem_map_of_mem (f:=(·.1)) m2) nd.1
  ·rcases List.mem_cons.mp h2 with e2 | m2
   ·cases e2;exact absurd (List.mem_map_of_mem (f:=(·.1)) m1) nd.1
   ·exact lok_nd nd.2 P q q' m1 m2
end TF
namespace TT
open PySem PyProof.Rows
section
variable {M:Model} {A:Around} {E:Value→Shared→Prop} {s:Shared}
end
end TT
namespace TT
open PySem PyProof.Rows
section
variable (rk:Keyed→Int)
variable {rk} {a b out:Array Keyed} {ia ib:Nat}
end
end TT
namespace TT
open PySem PyProof.Rows
section
variable {M:Model} {A:Around} {E:Value→Shared→Prop} {s:Shared}
variable {rk:Keyed→Int} {κ:SortKind} {In:Keyed→Prop}
end
end TT
namespace TT
open PySem PyProof.Rows
section
variable (rk:Keyed→Int)
variable {rk} {a b out:Array Keyed} {na nb:Nat}
end
section
variable {M:Model} {A:Around} {E:Value→Shared→Prop} {s:Shared} {rk:Keyed→Int} {κ:SortKind} {In:Keyed→Prop}
end
end TT
namespace TT
open PySem PyProof.Rows
section
variable {M:Model} {A:Around} {E:Value→Shared→Prop} {s:Shared} {rk:Keyed→Int} {κ:SortKind} {In:Keyed→Prop}
end
end TT
namespace TT
open PySem PyProof.Rows
section
variable (rk:Keyed→Int)
end
section
variable {rk:Keyed→Int}
end
section
variable {M:Model} {A:Around} {E:Value→Shared→Prop} {s:Shared} {rk:Keyed→Int} {κ:SortKind} {In:Keyed→Prop}
end
end TT
namespace TT
open PySem PyProof.Rows
section
variable {M:Model} {A:Around} {E:Value→Shared→Prop} {s:Shared} {rk:Keyed→Int} {κ:SortKind} {In:Keyed→Prop}
end
end TT
namespace TT
open PySem PyProof.Rows
section
variable {M:Model} {A:Around} {E:Value→Shared→Prop} {s:Shared} {rk:Keyed→Int} {κ:SortKind} {In:Keyed→Prop} {a₀:List Keyed}
end
end TT
namespace TT
open PySem PyProof.Rows
section
variable {M:Model} {A:Around} {E:Value→Shared→Prop} {s:Shared} {rk:Keyed→Int} {κ:SortKind} {In:Keyed→Prop} {a₀:List Keyed}
end
end TT
namespace TT
open PySem PyProof.Rows L2 TS
open Classical in
section
variable {prog:Program} {w:World} {A:Around} {E:Value→Shared→Prop} {s:Shared}
end
end TT
namespace TF
open PySem PySem.Spec PyProof.Rows L2
section
variable {X:Cx} {G:Gh}
theorem pds_extS {i:Nat} {x:Str} {e:Expr} {pos p1 p2 p3:Pos} {r1 fr:Bool} {ob own:List Nat} {f:Rho→M D} (hi:i∈own) (hv:PE X (.Name x p1) (tVar i)) (he:PD X G r1 e f)
  (hbase:attributeBase (.Name x p1) "extend" X.env (eval (.Name x p1) X.env)=eval (.Name x p1) X.env:=by rfl)
  (hfew:((backTo p3 (starEach [e] X.env)).all (fun x=>!x.1)&&(backToKw p3 (keywordEach [] X.env)).all (fun x=>x.1.isSome)
   && decide ([e].length+([]:List Keyword).length+(if ([]:List Keyword).isEmpty then 0 else 1)<30))=true:=by rfl)
  (hline:(p2.endLine==p3.line)=true:=by rfl) (hs:starEach [e] X.env=(false,eval e X.env)::starEach [] X.env:=by rfl)
  (hsw:swapsWith (.Call (.Attribute (.Name x p1) "extend" p2) [e] [] p3) none pos.line X.env=pure false:=by rfl) :
  PDS X G ob own own fr (.Expr (.Call (.Attribute (.Name x p1) "extend" p2) [e] [] p3) pos) (sExt i (fun ρ=>f (hide own ρ))):=
 pds_extA hi he fun te p=>ps_extend hv p hbase hfew hline hs hsw
end
end TF
namespace L2
open PySem PySem.Spec PyProof.Rows
section
variable {X:Cx} {tg:Expr}
end
end L2
namespace TF
open PySem PySem.Spec PyProof.Rows L2
section
variable {X:Cx} {G:Gh} {ob own:List Nat} {fr:Bool}
end
end TF
namespace TF
open PySem PySem.Spec PyProof.Rows L2
open Sem (wp)
section
variable {prog:Program} {w:World} {A:Around} {E:Value→Shared→Prop} {s:Shared}
end
variable {X:Cx} {G:Gh} {f:Rho→M D}
end TF
namespace HT
open PySem PySem.Spec PyProof.Rows
end HT
namespace HT
open PySem PySem.Spec PyProof.Rows
section
variable {prog:Program} {w:World}
variable (prog w) in
variable {A:Around} {E:Value→Shared→Prop} {s:Shared}
end
end HT
namespace HT
open PySem PySem.Spec PyProof.Rows
namespace FS
end FS
section
variable {prog:Program} {w:World} {A:Around} {E:Value→Shared→Prop} {s:Shared}
end
end HT
namespace HT
open PySem PySem.Spec PyProof.Rows
section
variable {prog:Program} {w:World} {A:Around} {E:Value→Shared→Prop} {s:Shared}
variable {a:Addr} {o:Obj} {es:Array (Int×Value)} {ep:Nat} {t:SetTable}
namespace FS
end FS
end
end HT
namespace HT
open PySem PySem.Spec PyProof.Rows
section
variable {prog:Program} {w:World} {A:Around} {E:Value→Shared→Prop} {s:Shared}
variable {a:Addr} {o:Obj} {es:Array (Int×Value)} {ep:Nat} {t:SetTable}
end
end HT
namespace HT
open PySem PySem.Spec PyProof.Rows
section
variable {prog:Program} {w:World} {A:Around} {E:Value→Shared→Prop} {s:Shared}
variable {a:Addr} {o:Obj} {es:Array (Int×Value)} {ep:Nat} {t:SetTable}
end
end HT
namespace TF
open PySem PySem.Spec PyProof.Rows L2
section
variable {X:Cx} {G:Gh}
end
section
variable {X:Cx} {G:Gh} {ob own:List Nat} {fr:Bool} {f:Rho→M D}
end
end TF
namespace TT
open PySem PyProof.Rows L2 TS
section
variable {prog:Program} {w:World} {A:Around} {E:Value→Shared→Prop} {s:Shared}
end
end TT
namespace TS
open PySem PySem.Spec PyProof.Rows L2
section
variable {prog:Program} {w:World} {A:Around} {E:Value→Shared→Prop} {s:Shared}
end
end TS
namespace TF
open PySem PySem.Spec PyProof.Rows L2 TS
section
variable {X:Cx} {G:Gh}
end
end TF
namespace TF
open PySem PySem.Spec PyProof.Rows L2 TT
section
variable {X:Cx} {G:Gh}
end
end TF
namespace TQ
open PySem L2 TF TQ
open TP
open TP2
open TP3
noncomputable def g__law_twebs:Rho→M Out:=(sSeq (sSet 3 (dOp dIx (dLst (dCons (dC (.int 1)) (dCons (dC (.int 2)) (dCons (dC (.int 5)) (dCons (dC (.int 12)) (dCons (dC (.int 24)) dNil)))))) (dFn drawF (dCons (dVar 0) (dCons (dC (.int 5)) dNil)))))
 (sSeq (sOwn 4 (dLst dNil))
 (sSeq (sSet 5 (fun ρ=>(dVar 2) (hide [4] ρ)))
 (sSeq (sFor (iRange1 (dVar 1)) (gOne 6)
 (sSeq (sApp 4 (fun ρ=>(dFn F__law_tweb (dCons (dVar 0) (dCons (dCall dMin2 (dCons (dVar 5) (dCons (dVar 3) dNil))) dNil))) (hide [4] ρ)))
 (sSeq (sSet 5 (chk true (dOp dSub (dVar 5) (dOp dIx (dOp dIx (dVar 4) (dC (.int (-1)))) (dC (.int 0))))))
 sNext)))
 (sSeq (sRet (dVar 4))
 sNext)))))
noncomputable def F__law_twebs:List D→M D:=runB 7 3 g__law_twebs
end TQ
namespace TF
open PySem PySem.Spec PyProof.Rows L2
section
variable {X:Cx} {G:Gh} {f g:Rho→M D}
end
end TF
namespace TQ
open PySem L2 TF
end TQ
namespace TF
open PySem PySem.Spec PyProof.Rows L2
section
variable {X:Cx} {G:Gh}
end
theorem boot_sum:bootBuiltins "sum" = some (.builtin "sum"):=by decide +kernel
section
variable {X:Cx} {G:Gh}
noncomputable def okSum (ns:List Int):Bool:=ns.all fun n=>decide (-4294967296≤n)&&decide (n≤4294967296)
theorem sum_take_bd {ns:List Int} (h:okSum ns=true):∀j:Nat,-(4294967296*(j:Int))≤(ns.take j).sum∧(ns.take j).sum≤4294967296*(j:Int):=by
 intro j
 induction ns generalizing j with
 | nil=>rw [List.take_nil];show _≤(0:Int)∧(0:Int)≤_;omega
 | cons n r ih=>
  cases j with
  | zero=>rw [List.take_zero];show _≤(0:Int)∧(0:Int)≤_;omega
  | succ j=>
   unfold okSum at h
   simp only [List.all_cons,Bool.and_eq_true,decide_eq_true_eq] at h
   have:=ih h.2 j
   rw [List.take_succ_cons,List.sum_cons]
   omega
noncomputable def dSum:List D→Option D
 | [.lst ds]=>match intsOf ds with | some ns=>if okSum ns=true then some (.int ns.sum) else none | none=>none
 | _=>none
theorem call_sumR (hc:X.calm=true):CallR X (.builtin "sum") (fun xs H Q=>∃p ns,xs=[.ref p]∧SqL X.K H p (ns.map V.int)∧okSum ns=true∧Q (.int ns.sum) H):=by
 intro pins s σ H xs us Q I r h
 obtain ⟨p,ns,rfl,hp,ok,q⟩:=h
 obtain ⟨u,rfl,ru⟩:=vals1 r
 cases ru
 obtain ⟨its,rv,pl,hz⟩:=I.list hp
 have hi:IntsAre its ns:=intsAre_of rv
 obtain ⟨xs,e⟩:=hi.allInts.items
 have hns:ns=xs.toList.map (·.1):=by rw [←hi.numsOf,←nums_intItems,←e]
 have hl:=pl.isList
 rw [e] at hl
 have hlen:ns.length=xs.size:=by rw [hns,List.length_map,Array.length_toList]
 have hz2:ns.length≤16777216:=by
  have:=hz
  rw [List.length_map] at this
  rw [show sizeLine=16777216 by decide] at this
  exact this
 refine sum_intList (I.ok.hd hc) hl (fun j hj=>?_) fun h' tk t' hk=>?_
 ·rw [preSum_eq,←hns]
  have h1:=sum_take_bd ok (j+1)
  have h2:-4294967296≤numAt xs j∧numAt xs j≤4294967296:=by
   rw [numAt_eq,←hns]
   have hm:ns.getD j 0∈ns:=getD_mem (by omega)
   have:=List.all_eq_true.mp ok _ hm
   simp only [Bool.and_eq_true,decide_eq_true_eq] at this
   exact this
  constructor
  ·constructor <;> omega
  ·constructor <;> omega
 ·rw [preSum_eq,←hns,←hlen,List.take_length]
  exact ⟨.int ns.sum,H,I.kept (t':=tk) hk,⟨_,rfl⟩,q⟩
theorem call_sumD (hc:X.calm=true):CallD X G (.builtin "sum") dSum:=
 ⟨_,call_sumR hc,fun Hf H s xs ds c Q e1 st r q k=>by
  match ds,q,r with
  | [.lst es],q,r=>
   have q:(match intsOf es with | some ns=>if okSum ns=true then some (D.int ns.sum) else none | none=>none)=some c:=q
   cases he:intsOf es with
   | none=>rw [he] at q;cases q
   | some ns=>
    rw [he] at q
    by_cases ok:okSum ns=true
    ·have q:(if okSum ns=true then some (D.int ns.sum) else none)=some c:=q
     rw [if_pos ok] at q
     cases q
     obtain ⟨v,rfl,rv⟩:=RepL.one_inv r
     obtain ⟨p,vs,rfl,np,hp,rp⟩:=Rep.lst_iff.mp rv
     rw [intsOf_eq he] at rp
     rw [RepL.ints rp] at hp
     exact ⟨p,ns,rfl,SqL.of (e1 _ _ np hp),ok,k _ Hf H (.refl e1) st (Rep.int_iff.mpr rfl) (.scal fun z=>z)⟩
    ·have q:(if okSum ns=true then some (D.int ns.sum) else none)=some c:=q
     rw [if_neg ok] at q;cases q⟩
end
end TF
namespace TF
open PySem PySem.Spec PyProof.Rows L2 PySem.SeqAt
open AutoSeq1 (wpAny_loadPart')
theorem tuple_mulW1 (l:Addr) (items:Array Value) (n:Nat) (dd:Option Addr) (sl:Array (Option Value)) (u:Tok) :
  Meets (Builtin.«tuple.__mul__» ⟨[.ref l,.int 1 u],[]⟩) (fun _ R s=>s.heap.get? l=some { cls:=.type "tuple",dict:=dd,data:=.seq items n,slots:=sl }∧R (.ok (.ret (Value.ref l))) s):=
 .of_wp fun prog w A R s h=>by
  obtain ⟨hp,g,d,tk,os⟩:=s;obtain ⟨hl,h⟩:=h;have f1:=AutoSeq1.idx_int;have f2:=AutoSeq1.sub_tuple_tuple;have f3:=AutoSeq1.sub_list_list;have f4:=AutoSeq1.sub_tuple_list;have f5:=AutoSeq1.sub_list_tuple;wp_walk using wpAny_loadPart' hl
  exact ⟨_,rfl,h⟩
theorem tuple_mulW0 (l:Addr) (items:Array Value) (n:Nat) (dd:Option Addr) (sl:Array (Option Value)) (u:Tok) (hc1:items.isEmpty=false) :
  Meets (Builtin.«tuple.__mul__» ⟨[.ref l,.int 0 u],[]⟩) (fun _ R s=>s.heap.get? l=some { cls:=.type "tuple",dict:=dd,data:=.seq items n,slots:=sl }∧R (.ok (.ret (Value.ref s.heap.objs.size))) { s with heap:=s.heap.push { cls:=Value.type "tuple",data:=Data.seq #[] },toks:=s.toks }):=
 .of_wp fun prog w A R s h=>by
  obtain ⟨hp,g,d,tk,os⟩:=s;obtain ⟨hl,h⟩:=h;have f1:=AutoSeq1.idx_int;have f2:=AutoSeq1.sub_tuple_tuple;have f3:=AutoSeq1.sub_list_list;have f4:=AutoSeq1.sub_tuple_list;have f5:=AutoSeq1.sub_list_tuple;wp_walk using wpAny_loadPart' hl
  exact ⟨_,rfl,h⟩
section
variable {X:Cx} {G:Gh}
noncomputable def rRepT1 (K:PySem.W.Frag):R2:=fun x y H Q=>∃l xs,x=.ref l∧y=.int 1∧SqT K H l xs∧Q (.ref l) H
noncomputable def rRepT0 (K:PySem.W.Frag):R2:=fun x y H Q=>∃l xs,x=.ref l∧y=.int 0∧SqT K H l xs∧xs≠[]∧∀p,H p=none→Q (.ref p) (upd H p (.tup []))
theorem op_repT1:OpR X (binaryOp .Mult) (rRepT1 X.K):=by
 intro pins s σ H x y v u Q I rx ry h
 obtain ⟨l,xs,rfl,rfl,hH,q⟩:=h
 cases rx
 obtain ⟨t,rfl⟩:=ry
 obtain ⟨its,r,p1,_⟩:=I.tuple hH
 obtain ⟨⟨cls,dd,data,sl⟩,ho,hc,n,hd⟩:=id p1
 simp only at hc hd
 subst hc hd
 exact wpAny_binaryOp_repeat_ref (T:="tuple") (U:="int") (by decide) ⟨_,ho,rfl⟩ (fun s'=>typeIs_int s' 1 t) noFill_tuple_mul F.fills_int_mul F.slot_int_rmul repeat_tuple F.slot_int_index.lookup
  (call_meets F.slot_int_rmul (typeIs_int s 1 t) F.entry_int_rmul (F.args_int_rmul_2 _ _) (int_rmul_tuple 1 t l its.toArray n dd sl)
   ⟨ho,rfl,⟨_,ho,rfl⟩,call_meets PySem.F.slot_tuple_mul ⟨_,ho,rfl⟩ PySem.F.entry_tuple_mul (PySem.F.args_tuple_mul_2 _ _) (tuple_mulW1 l its.toArray n dd sl t) ⟨ho,.ref l,H,I,rfl,q⟩⟩)
theorem op_repT0:OpR X (binaryOp .Mult) (rRepT0 X.K):=by
 intro pins s σ H x y v u Q I rx ry h
 obtain ⟨l,xs,rfl,rfl,hH,hne,q⟩:=h
 cases rx
 obtain ⟨t,rfl⟩:=ry
 obtain ⟨its,r,p1,_⟩:=I.tuple hH
 obtain ⟨⟨cls,dd,data,sl⟩,ho,hc,n,hd⟩:=id p1
 simp only at hc hd
 subst hc hd
 have hne':its≠[]:=fun z=>hne (r.nil_iff.mp z)
 have hemp:its.toArray.isEmpty=false:=by cases its with | nil=>exact absurd rfl hne' | cons a b=>rfl
 exact wpAny_binaryOp_repeat_ref (T:="tuple") (U:="int") (by decide) ⟨_,ho,rfl⟩ (fun s'=>typeIs_int s' 0 t) noFill_tuple_mul F.fills_int_mul F.slot_int_rmul repeat_tuple F.slot_int_index.lookup
  (call_meets F.slot_int_rmul (typeIs_int s 0 t) F.entry_int_rmul (F.args_int_rmul_2 _ _) (int_rmul_tuple 0 t l its.toArray n dd sl)
   ⟨ho,rfl,⟨_,ho,rfl⟩,call_meets PySem.F.slot_tuple_mul ⟨_,ho,rfl⟩ PySem.F.entry_tuple_mul (PySem.F.args_tuple_mul_2 _ _) (tuple_mulW0 l its.toArray n dd sl t hemp) ⟨ho,.ref s.heap.objs.size,_,I.laid (t':=s.toks) (o:=.tup []) (fun b ob q=>Heap.get?_push_of_some _ q) (Nat.le_refl _) ⟨Nat.zero_le _,[],.nil,IsTup.new _ _⟩,rfl,q _ (I.hok.fresh (Nat.le_refl _))⟩⟩)
noncomputable def dMulT (d e:D):Option D:=match d,e with
 | .tup ds,.int k=>if k=1 then some (.tup ds) else if k=0∧ds≠[] then some (.tup []) else dMulA (.tup ds) (.int k)
 | _,_=>dMulA d e
theorem opd_mulT:OpD X G (binaryOp .Mult) dMulT:=by
 obtain ⟨r0,po,qo⟩:=opd_mulA (X:=X) (G:=G)
 refine ⟨_,po.or (op_repT1.or op_repT0),fun Hf H s x y d e c Q e1 st rx ry q k=>?_⟩
 by_cases hd:∃ds j,d=.tup ds∧e=.int j
 ·obtain ⟨ds,j,rfl,rfl⟩:=hd
  have q:(if j=1 then some (D.tup ds) else if j=0∧ds≠[] then some (.tup []) else dMulA (.tup ds) (.int j))=some c:=q
  by_cases h1:j=1
  ·rw [if_pos h1] at q
   cases q
   obtain ⟨p,vs,rfl,np,hp,rp⟩:=Rep.tup_iff.mp rx
   refine .inr (.inl ⟨p,vs,rfl,by rw [Rep.int_iff.mp ry,h1],SqT.of (e1 _ _ np hp),?_⟩)
   exact k (.ref p) _ _ (.refl e1) st (Rep.tup_iff.mpr ⟨p,vs,rfl,np,hp,rp⟩) (.scal fun z=>z)
  ·rw [if_neg h1] at q
   by_cases h2:j=0∧ds≠[]
   ·rw [if_pos h2] at q
    cases q
    obtain ⟨p,vs,rfl,np,hp,rp⟩:=Rep.tup_iff.mp rx
    refine .inr (.inr ⟨p,vs,rfl,by rw [Rep.int_iff.mp ry,h2.1],SqT.of (e1 _ _ np hp),fun z=>h2.2 (List.length_eq_zero_iff.mp (by rw [rp.length,z];rfl)),fun l hl=>?_⟩)
    have nf:=Gh.nofp st hl
    have g2:=Gr.new (o:=.tup []) e1 hl nf
    exact k (.ref l) _ _ g2 (Gh.grow st hl) (Rep.tup_iff.mpr ⟨l,_,rfl,nf,upd_same,RepL.nil_iff.mpr rfl⟩) (.scal fun z=>z)
   ·rw [if_neg h2] at q
    exact .inl (qo Hf H s x y _ _ c Q e1 st rx ry q k)
 ·have q':dMulA d e=some c:=by
   unfold dMulT at q
   split at q
   ·exact absurd ⟨_,_,rfl,rfl⟩ hd
   ·exact q
  exact .inl (qo Hf H s x y _ _ c Q e1 st rx ry q' k)
end
end TF
namespace TQ
open PySem L2 TF TQ
open TP
open TP2 hiding g_all_near F_all_near
open TP3 hiding g_full_knots F_full_knots
noncomputable def g_all_near:Rho→M Out:=(sSeq (sSet 1 (dTup (dCons (dOp dIx (dVar 0) (dC (.int 0))) (dCons (dFn F_marked_ties (dCons (dVar 0) dNil)) dNil))))
 (sSeq (sRet (dComp [none,some 1] (iRange1 (dOp dIx (dVar 0) (dC (.int 0)))) (gOne 0) bTrue (dFn F_near (dCons (dVar 1) (dCons (dVar 0) dNil)))))
 sNext))
noncomputable def F_all_near:List D→M D:=runB 2 1 g_all_near
noncomputable def g_full_knots:Rho→M Out:=(sSeq (sSet 1 (dFn F_all_near (dCons (dVar 0) dNil)))
 (sSeq (sRet (dCall dSortTs (dCons (dComp [none,some 1] (iSeqL (dFn F_all_knots (dCons (dVar 1) dNil))) (gOne 0) (asB (dFn F_is_full (dCons (dVar 1) (dCons (dVar 0) dNil)))) (dVar 0)) dNil)))
 sNext))
noncomputable def F_full_knots:List D→M D:=runB 2 1 g_full_knots
noncomputable def g_heaviest_with (Fs:List D→M D):Rho→M Out:=(sSeq (sSet 4 (dComp [none,some 2,some 0] (iSeqL (dVar 3)) (gOne 0) (bAnd (asB (dOp dNeO (dVar 0) (dVar 1))) (asB (dOp dNotIn (dVar 0) (dOp dIx (dVar 2) (dVar 1))))) (dVar 0)))
 (sSeq (sRet (dOp dAdd (dLst (dCons (dVar 2) dNil)) (dFn Fs (dCons (dVar 0) (dCons (dVar 1) (dCons (dVar 4) dNil))))))
 sNext))
noncomputable def F_heaviest_with (Fs:List D→M D):List D→M D:=runB 5 4 (g_heaviest_with Fs)
noncomputable def g_apart_among:Rho→M Out:=(sSeq (sRet (dComp [none,some 0,some 1] (iSeqL (dVar 2)) (gOne 0) (asB (dOp dIn (dVar 0) (dOp dIx (dVar 1) (dVar 2)))) (dVar 0)))
 sNext)
noncomputable def F_apart_among:List D→M D:=runB 3 3 g_apart_among
noncomputable def g_weighed:Rho→M Out:=(sSeq (sRet (dCall dSum (dCons (dComp [none,some 0] (iSeqL (dVar 1)) (gOne 0) bTrue (dOp dIx (dVar 1) (dVar 0))) dNil)))
 sNext)
noncomputable def F_weighed:List D→M D:=runB 2 2 g_weighed
noncomputable def g_heaviest_among (Fs:List D→M D):Rho→M Out:=(sSeq (sIf (asB (dOp dEqO (dVar 2) (dLst dNil)))
 (sSeq (sRet (dLst dNil))
 sNext)
 sNext)
 (sSeq (sSet 3 (dComp [none,some 0,some 2] (iSeqL (dVar 2)) (gOne 0) bTrue (dFn F_apart_among (dCons (dVar 1) (dCons (dVar 0) (dCons (dVar 2) dNil))))))
 (sSeq (sFor (iRange1 (dCall dLen (dCons (dVar 2) dNil))) (gOne 4)
 (sSeq (sIf (asB (dOp dLe (dFn F_weighed (dCons (dVar 1) (dCons (dOp dIx (dVar 3) (dVar 4)) dNil))) (dOp dIx (dVar 1) (dOp dIx (dVar 2) (dVar 4)))))
 (sSeq (sRet (dFn (F_heaviest_with Fs) (dCons (dVar 0) (dCons (dVar 1) (dCons (dOp dIx (dVar 2) (dVar 4)) (dCons (dVar 2) dNil))))))
 sNext)
 sNext)
 sNext))
 (sSeq (sSet 5 (dComp [none] (iSeqL (dVar 3)) (gOne 0) bTrue (dCall dLen (dCons (dVar 0) dNil))))
 (sSeq (sSet 6 (dOp dIx (dVar 2) (dOp dIndex (dVar 5) (dCall dMaxL (dCons (dVar 5) dNil)))))
 (sSeq (sSet 7 (dFn (F_heaviest_with Fs) (dCons (dVar 0) (dCons (dVar 1) (dCons (dVar 6) (dCons (dVar 2) dNil))))))
 (sSeq (sSet 8 (dFn Fs (dCons (dVar 0) (dCons (dVar 1) (dCons (dComp [none,some 6] (iSeqL (dVar 2)) (gOne 0) (asB (dOp dNeO (dVar 0) (dVar 1))) (dVar 0)) dNil)))))
 (sSeq (sRet (dIf (asB (dOp dGe (dFn F_weighed (dCons (dVar 1) (dCons (dVar 7) dNil))) (dFn F_weighed (dCons (dVar 1) (dCons (dVar 8) dNil))))) (dVar 7) (dVar 8)))
 sNext))))))))
noncomputable def F_heaviest_among:Nat→List D→M D
 | 0=>fun _=>mfail
 | n+1=>runB 9 3 (g_heaviest_among (F_heaviest_among n))
noncomputable def g_heaviest_knot:Rho→M Out:=(sSeq (sSet 2 (dComp [none] (iSeqL (dFn F_all_near (dCons (dFn F_turned (dCons (dVar 0) dNil)) dNil))) (gOne 0) bTrue (dCall dDictK (dCons (dComp [none] (iSeqL (dVar 0)) (gOne 0) bTrue (dTup (dCons (dVar 0) (dCons (dC (.bl true)) dNil)))) dNil))))
 (sSeq (sRet (dCall dTuple (dCons (dCall dSorted (dCons (dFn (F_heaviest_among 26) (dCons (dVar 2) (dCons (dVar 1) (dCons (dListRange (dOp dIx (dVar 0) (dC (.int 0)))) dNil)))) dNil)) dNil)))
 sNext))
noncomputable def F_heaviest_knot:List D→M D:=runB 3 2 g_heaviest_knot
noncomputable def g_most:Rho→M Out:=(sSeq (sSet 1 (dFn F_heaviest_knot (dCons (dVar 0) (dCons (dOp dMulT (dTup (dCons (dC (.int 1)) dNil)) (dOp dIx (dVar 0) (dC (.int 0)))) dNil))))
 (sSeq (sRet (dTup (dCons (dCall dLen (dCons (dVar 1) dNil)) (dCons (dVar 1) dNil))))
 sNext))
noncomputable def F_most:List D→M D:=runB 2 1 g_most
end TQ
namespace K63
open PySem.Spec PyProof.Rows
open PySem L2 TF TQ
open TP
open TP2 hiding g_all_near F_all_near
open TP3 hiding g_full_knots F_full_knots
noncomputable def top (i:Nat):Stmt:=PySem.Challenge.pw_tiefold_k63_whole_the_most_of_joined_web.main.body.getD i (.Pass ⟨0,0,0,0⟩)
noncomputable abbrev s_is_whole:Stmt:=top 1
noncomputable abbrev s_rises:Stmt:=top 2
noncomputable abbrev s_pairs_of:Stmt:=top 3
noncomputable abbrev s_is_place:Stmt:=top 5
noncomputable abbrev s_near:Stmt:=top 6
noncomputable abbrev s_all_near:Stmt:=top 7
noncomputable abbrev s_are_tied:Stmt:=top 8
noncomputable abbrev s_marked_ties:Stmt:=top 9
noncomputable abbrev s_turned:Stmt:=top 10
noncomputable abbrev s_web_where:Stmt:=top 11
noncomputable abbrev s_beside:Stmt:=top 13
noncomputable abbrev s_wholly_tied:Stmt:=top 14
noncomputable abbrev s_put_in:Stmt:=top 15
noncomputable abbrev s_by_pairs:Stmt:=top 16
noncomputable abbrev s_is_same_or_tied:Stmt:=top 17
noncomputable abbrev s_spots:Stmt:=top 18
noncomputable abbrev s_is_knot:Stmt:=top 20
noncomputable abbrev s_full_knots:Stmt:=top 21
noncomputable abbrev s_all_knots:Stmt:=top 22
noncomputable abbrev s_is_near_all:Stmt:=top 23
noncomputable abbrev s_is_full:Stmt:=top 24
noncomputable abbrev s_most:Stmt:=top 26
noncomputable abbrev s_heaviest_knot:Stmt:=top 27
noncomputable abbrev s_heaviest_among:Stmt:=top 28
noncomputable abbrev s_apart_among:Stmt:=top 29
noncomputable abbrev s_heaviest_with:Stmt:=top 30
noncomputable abbrev s_weighed:Stmt:=top 31
noncomputable abbrev s__law_tpen:Stmt:=top 33
noncomputable abbrev s__law_tdraw:Stmt:=top 34
noncomputable abbrev s__law_tweb:Stmt:=top 35
noncomputable abbrev s__law_twebs:Stmt:=top 36
noncomputable abbrev s__law_tright:Stmt:=top 37
noncomputable abbrev s_law:Stmt:=top 38
structure Txt (mg:Str→Option Value):Prop where
 b_all:mg "all" = none
 b_any:mg "any" = none
 b_bool:mg "bool" = none
 b_dict:mg "dict" = none
 b_int:mg "int" = none
 b_isinstance:mg "isinstance" = none
 b_len:mg "len" = none
 b_list:mg "list" = none
 b_max:mg "max" = none
 b_min:mg "min" = none
 b_range:mg "range" = none
 b_sorted:mg "sorted" = none
 b_sum:mg "sum" = none
 b_tuple:mg "tuple" = none
set_option maxHeartbeats 4000000
variable {P:Program} {w:World} {K:PySem.W.Frag} {mg:Str→Option Value} {base:Heap} {a_f:Addr} {fd_f:FuncData}
theorem sc_marked_ties:FnScope ["web"] ["web"] (defScope s_marked_ties):=⟨rfl,rfl,rfl,by decide +kernel,rfl,by decide +kernel,by decide +kernel⟩
theorem ok_marked_ties (F:Fun K "marked_ties" "marked_ties" s_marked_ties a_f fd_f) (T:Txt mg) :
  FnOk P w K mg base CX0 1 a_f fd_f ["web"] (spD 1 true AnyG F_marked_ties):=
 have c_nd:=sc_marked_ties.nd
 fnD (own:=[]) F sc_marked_ties fun cdv A outer s H E hr G hG=>
 (pdss_cons (own2:=[]) (pds_ret (pd_callTy (call_dictT rfl hr.units) rfl T.b_dict TF.boot_dict (pda_cons (pd_compS rfl (⟨rfl,rfl,by decide +kernel,rfl,by decide +kernel,rfl,by decide +kernel,by decide +kernel⟩:BlkS _ ["web"] (defScope s_marked_ties).names ["tie"] [none] _) (pdi_tup (pd_ix ixd (pd_var 0 (pv 0)) pd_int)) (fun _ _ _ _ _ _=>(pdg_name (show (["tie"]:List Str).Nodup by decide +kernel) rfl (Or.inl rfl) rfl)) (fun _ _ _ _ _ _=>pifs0) (fun _ _ _ _ _ _=>(pd_tup (pda_cons (pd_var 0 (pv 0)) (pda_cons pd_bl pda_nil))))) pda_nil)))
 (pdss_nil (own:=[])))
theorem sc_pairs_of:FnScope ["row","pairs","i","j"] ["row"] (defScope s_pairs_of):=⟨rfl,rfl,rfl,by decide +kernel,rfl,by decide +kernel,by decide +kernel⟩
theorem ok_pairs_of (F:Fun K "pairs_of" "pairs_of" s_pairs_of a_f fd_f) (T:Txt mg) :
  FnOk P w K mg base CX0 1 a_f fd_f ["row"] (spD 1 true AnyG F_pairs_of):=
 have c_nd:=sc_pairs_of.nd
 fnD (own:=[]) F sc_pairs_of fun cdv A outer s H E hr G hG=>
 (pdss_cons (own2:=[1]) (pds_own0 (pasg_set c_nd rfl (Or.inl rfl) (pd_lst pda_nil)))
 (pdss_cons (own2:=[1]) (pds_for (own:=[1]) PassesOwn.never rfl (pdij_range1 rfl T.b_range (pd_callB (call_lenDD) rfl T.b_len TF.boot_len (pda_cons (pd_var 0 (pv 0)) pda_nil))) (pdg_name c_nd rfl (Or.inl rfl) (by decide))
 (pdss_cons (own2:=[1]) (pds_for (own:=[1]) PassesOwn.never rfl (pdij_range2 rfl T.b_range (pd_op opd_add (pd_var 2 (pv 2)) pd_int) (pd_callB (call_lenDD) rfl T.b_len TF.boot_len (pda_cons (pd_var 0 (pv 0)) pda_nil))) (pdg_name c_nd rfl (Or.inl rfl) (by decide))
 (pdss_cons (own2:=[1]) (pds_appA (own:=[1]) (i:=1) (by decide) (pd_tup (pda_cons (pd_ix ixd (pd_var 0 (pv 0)) (pd_var 2 (pv 2))) (pda_cons (pd_ix ixd (pd_var 0 (pv 0)) (pd_var 3 (pv 3))) pda_nil))) (fun _ h=>ps_append (pv 1) h))
 (pdss_nil (own:=[1]))))
 (pdss_nil (own:=[1]))))
 (pdss_cons (own2:=[1]) (pds_retOwn (i:=1) (by decide) (pv 1))
 (pdss_nil (own:=[1])))))
theorem sc_web_where:FnScope ["row","tied","pairs"] ["row","tied"] (defScope s_web_where):=⟨rfl,rfl,rfl,by decide +kernel,rfl,by decide +kernel,by decide +kernel⟩
theorem ok_web_where (F:Fun K "web_where" "web_where" s_web_where a_f fd_f) (T:Txt mg) (c_pairs_of:Cal P w K mg base 1 "pairs_of" 1 true AnyG F_pairs_of) :
  FnOk P w K mg base CX0 5 a_f fd_f ["row","tied"] (spD 2 false (CloG P w K mg 4 2 Tl base) F_web_where):=
 have c_nd:=sc_web_where.nd
 fnD (own:=[]) F sc_web_where fun cdv A outer s H E hr G hG=>
 (pdss_cons (own2:=[]) (pds_set0 (pasg_set c_nd rfl (Or.inl rfl) (pd_cal (c_pairs_of.mono) trivial hr rfl (pda_cons (pd_listRange rfl rfl T.b_range rfl T.b_list TF.boot_list (pd_callB (call_lenDD) rfl T.b_len TF.boot_len (pda_cons (pd_var 0 (pv 0)) pda_nil))) pda_nil) (dCons_len dNil_len))))
 (pdss_cons (own2:=[]) (pds_ret (PD.weak (pd_tup (pda_cons (pd_callB (call_lenDD) rfl T.b_len TF.boot_len (pda_cons (pd_var 0 (pv 0)) pda_nil)) (pda_cons (pd_callTy (call_tupleDD) rfl T.b_tuple TF.boot_tuple (pda_cons (pd_compS rfl (⟨rfl,rfl,by decide +kernel,rfl,by decide +kernel,rfl,by decide +kernel,by decide +kernel⟩:BlkS _ ["row","tied","pairs"] (defScope s_web_where).names ["pair","tied","row"] [none,some 1,some 0] _) (pdi_list (pd_var 2 (pv 2))) (fun _ _ _ _ _ _=>(pdg_name (show (["pair","tied","row"]:List Str).Nodup by decide +kernel) rfl (Or.inl rfl) rfl)) (fun _ _ _ _ _ _=>(pifs1 (pdt_val (pd_callV hG (hr.mono (by decide)) (pv 1) (pda_cons (pd_ix ixd (pd_var 2 (pv 2)) (pd_ix ixd (pd_var 0 (pv 0)) pd_int)) (pda_cons (pd_ix ixd (pd_var 2 (pv 2)) (pd_ix ixd (pd_var 0 (pv 0)) pd_int)) pda_nil)) (dCons_len (dCons_len dNil_len)))))) (fun _ _ _ _ _ _=>(pd_var 0 (pv 0)))) pda_nil)) pda_nil)))))
 (pdss_nil (own:=[]))))
theorem sc_are_tied:FnScope ["ties","a","b"] ["ties","a","b"] (defScope s_are_tied):=⟨rfl,rfl,rfl,by decide +kernel,rfl,by decide +kernel,by decide +kernel⟩
theorem ok_are_tied (F:Fun K "are_tied" "are_tied" s_are_tied a_f fd_f) (T:Txt mg) :
  FnOk P w K mg base CX0 1 a_f fd_f ["ties","a","b"] (spD 3 false AnyG F_are_tied):=
 have c_nd:=sc_are_tied.nd
 fnD (own:=[]) F sc_are_tied fun cdv A outer s H E hr G hG=>
 (pdss_cons (own2:=[]) (pds_ret (PD.weak (pd_cmp (opd_in hr.units) (pd_tup (pda_cons (pd_callB (call_min2D rfl) rfl T.b_min TF.boot_min (pda_cons (pd_var 1 (pv 1)) (pda_cons (pd_var 2 (pv 2)) pda_nil))) (pda_cons (pd_callB (call_max2D rfl) rfl T.b_max TF.boot_max (pda_cons (pd_var 1 (pv 1)) (pda_cons (pd_var 2 (pv 2)) pda_nil))) pda_nil))) (pd_var 0 (pv 0)))))
 (pdss_nil (own:=[])))
theorem sc_spots:FnScope ["lengths","found","i"] ["lengths"] (defScope s_spots):=⟨rfl,rfl,rfl,by decide +kernel,rfl,by decide +kernel,by decide +kernel⟩
theorem ok_spots (F:Fun K "spots" "spots" s_spots a_f fd_f) (T:Txt mg) :
  FnOk P w K mg base CX0 1 a_f fd_f ["lengths"] (spD 1 true AnyG F_spots):=
 have c_nd:=sc_spots.nd
 fnD (own:=[]) F sc_spots fun cdv A outer s H E hr G hG=>
 (pdss_cons (own2:=[1]) (pds_own0 (pasg_set c_nd rfl (Or.inl rfl) (pd_lst pda_nil)))
 (pdss_cons (own2:=[1]) (pds_for (own:=[1]) PassesOwn.never rfl (pdij_range1 rfl T.b_range (pd_callB (call_lenDD) rfl T.b_len TF.boot_len (pda_cons (pd_var 0 (pv 0)) pda_nil))) (pdg_name c_nd rfl (Or.inr rfl) (by decide))
 (pdss_cons (own2:=[1]) (pds_extS (own:=[1]) (i:=1) (by decide) (pv 1) (pd_compS rfl (⟨rfl,rfl,by decide +kernel,rfl,by decide +kernel,rfl,by decide +kernel,by decide +kernel⟩:BlkS _ ["lengths","found","i"] (defScope s_spots).names ["place","i"] [none,some 2] _) (pdi_range1 rfl T.b_range (pd_ix ixd (pd_var 0 (pv 0)) (pd_var 2 (pv 2)))) (fun _ _ _ _ _ _=>(pdg_name (show (["place","i"]:List Str).Nodup by decide +kernel) rfl (Or.inl rfl) rfl)) (fun _ _ _ _ _ _=>pifs0) (fun _ _ _ _ _ _=>(pd_tup (pda_cons (pd_var 1 (pv 1)) (pda_cons (pd_var 0 (pv 0)) pda_nil))))))
 (pdss_nil (own:=[1]))))
 (pdss_cons (own2:=[1]) (pds_retOwn (i:=1) (by decide) (pv 1))
 (pdss_nil (own:=[1])))))
theorem sc_put_in:FnScope ["web","webs","ties","inner_ties","are_tied_there"] ["web","webs"] (defScope s_put_in):=⟨rfl,rfl,rfl,by decide +kernel,rfl,by decide +kernel,by decide +kernel⟩
theorem ok_put_in (F:Fun K "put_in" "put_in" s_put_in a_f fd_f) (T:Txt mg) {L:List (Addr×Str)} (lo:LOk L) (c_marked_ties:Cal P w K mg base 1 "marked_ties" 1 true AnyG F_marked_ties) (c_spots:Cal P w K mg base 1 "spots" 1 true AnyG F_spots) (c_web_where:CalA P w K mg 5 "web_where" 2 false (CloG P w K mg 4 2 Tl) F_web_where) (ca_are_tied:∀base,Cal P w K mg base 1 "are_tied" 3 false AnyG F_are_tied) {tc tP:Addr} (hcode:fd_f.code=.ref tc) (hCd:PySem.W.CodeHd base tc tP) (hBm:BMn mg base) (hL:(tP,(Str.ofString "put_in.<locals>.are_tied_there"))∈L) :
  FnOk P w K mg base CX0 6 a_f fd_f ["web","webs"] (spD 2 false (TabsG L) F_put_in):=
 have c_nd:=sc_put_in.nd
 fnDC (own:=[]) F sc_put_in fun A outer s H E hr G hG=>
 have hT:TabsG L G:=hG
 have TG9:=hT _ _ hL
 have M9:Mk0 (cxOf CX0 P w K mg base ["web","webs","ties","inner_ties","are_tied_there"] "put_in" (defScope s_put_in) a_f fd_f.code A outer s H E).nox tc tP:=⟨hcode,hCd,hBm⟩
 (pdss_cons (own2:=[]) (pds_set0 (pasg_set c_nd rfl (Or.inr rfl) (pd_cal (c_marked_ties.mono) trivial hr rfl (pda_cons (pd_var 0 (pv 0)) pda_nil) (dCons_len dNil_len))))
 (pdss_cons (own2:=[]) (pds_set0 (pasg_set c_nd rfl (Or.inr rfl) (pd_compS rfl (⟨rfl,rfl,by decide +kernel,rfl,by decide +kernel,rfl,by decide +kernel,by decide +kernel⟩:BlkS _ ["web","webs","ties","inner_ties","are_tied_there"] (defScope s_put_in).names ["inner"] [none] _) (pdi_list (pd_var 1 (pv 1))) (fun _ _ _ _ _ _=>(pdg_name (show (["inner"]:List Str).Nodup by decide +kernel) rfl (Or.inl rfl) rfl)) (fun _ _ _ _ _ _=>pifs0) (fun _ _ _ _ _ _=>(pd_cal (c_marked_ties.mono) trivial hr rfl (pda_cons (pd_var 0 (pv 0)) pda_nil) (dCons_len dNil_len))))))
 (pdss_defRet (kl:=3) (frb:=false) (i:=4) (N:=["a","b","inner_ties","ties"]) (ps:=["a","b"]) (cix:=[3,2]) (T:=Tl) (t:=3) (q:="put_in.<locals>.are_tied_there") M9 TG9 (c_web_where.mono) (fun _=>rfl) hr rfl c_nd rfl (Or.inl rfl) (pv 4) (pd_cal (c_spots.mono) trivial hr rfl (pda_cons (pd_compS rfl (⟨rfl,rfl,by decide +kernel,rfl,by decide +kernel,rfl,by decide +kernel,by decide +kernel⟩:BlkS _ ["web","webs","ties","inner_ties","are_tied_there"] (defScope s_put_in).names ["inner"] [none] _) (pdi_list (pd_var 1 (pv 1))) (fun _ _ _ _ _ _=>(pdg_name (show (["inner"]:List Str).Nodup by decide +kernel) rfl (Or.inl rfl) rfl)) (fun _ _ _ _ _ _=>pifs0) (fun _ _ _ _ _ _=>(pd_ix ixd (pd_var 0 (pv 0)) pd_int))) pda_nil) (dCons_len dNil_len)) rfl (⟨rfl,rfl,rfl,by decide +kernel,rfl,by decide +kernel,by decide +kernel⟩:CloScope ["a","b","inner_ties","ties"] ["a","b"] _) (⟨rfl,rfl,rfl,by decide +kernel,by decide +kernel⟩:CapS _ ["web","webs","ties","inner_ties","are_tied_there"] (defScope s_put_in).names ["a","b","inner_ties","ties"] ["a","b"] [3,2] _) rfl (fun _ _ _ _ _ us hl=>match us,hl with | [_,_],_=>rfl) (fun base f c cl G A outer s H E hr=>have c_nd:(["a","b","inner_ties","ties"]:List Str).Nodup:=(by decide +kernel);(pdss_cons (own2:=[]) (pds_if (own':=[]) (pdt_cmp (opd_eq hr.units) (pd_ix ixd (pd_var 0 (pv 0)) pd_int) (pd_ix ixd (pd_var 1 (pv 1)) pd_int))
 (pdss_cons (own2:=[]) (pds_ret (pd_cal ((ca_are_tied base).mono) trivial hr rfl (pda_cons (pd_ix ixd (pd_var 2 (pv 2)) (pd_ix ixd (pd_var 0 (pv 0)) pd_int)) (pda_cons (pd_ix ixd (pd_var 0 (pv 0)) pd_int) (pda_cons (pd_ix ixd (pd_var 1 (pv 1)) pd_int) pda_nil))) (dCons_len (dCons_len (dCons_len dNil_len)))))
 (pdss_nil (own:=[])))
 pdss_nil)
 (pdss_cons (own2:=[]) (pds_ret (pd_cal ((ca_are_tied base).mono) trivial hr rfl (pda_cons (pd_var 3 (pv 3)) (pda_cons (pd_ix ixd (pd_var 0 (pv 0)) pd_int) (pda_cons (pd_ix ixd (pd_var 1 (pv 1)) pd_int) pda_nil))) (dCons_len (dCons_len (dCons_len dNil_len)))))
 (pdss_nil (own:=[]))))))))
theorem sc_beside:FnScope ["webs"] ["webs"] (defScope s_beside):=⟨rfl,rfl,rfl,by decide +kernel,rfl,by decide +kernel,by decide +kernel⟩
theorem ok_beside (F:Fun K "beside" "beside" s_beside a_f fd_f) (T:Txt mg) {L:List (Addr×Str)} (lo:LOk L) (c_put_in:Cal P w K mg base 6 "put_in" 2 false (TabsG L) F_put_in) :
  FnOk P w K mg base CX0 7 a_f fd_f ["webs"] (spD 1 false (TabsG L) F_beside):=
 have c_nd:=sc_beside.nd
 fnD (own:=[]) F sc_beside fun cdv A outer s H E hr G hG=>
 have hT:TabsG L G:=hG
 (pdss_cons (own2:=[]) (pds_ret (pd_cal (c_put_in.mono) hT hr rfl (pda_cons (pd_tup (pda_cons (pd_callB (call_lenDD) rfl T.b_len TF.boot_len (pda_cons (pd_var 0 (pv 0)) pda_nil)) (pda_cons (pd_tup pda_nil) pda_nil))) (pda_cons (pd_var 0 (pv 0)) pda_nil)) (dCons_len (dCons_len dNil_len))))
 (pdss_nil (own:=[])))
theorem sc_turned:FnScope ["web","ties"] ["web"] (defScope s_turned):=⟨rfl,rfl,rfl,by decide +kernel,rfl,by decide +kernel,by decide +kernel⟩
theorem ok_turned (F:Fun K "turned" "turned" s_turned a_f fd_f) (T:Txt mg) {L:List (Addr×Str)} (lo:LOk L) (c_marked_ties:Cal P w K mg base 1 "marked_ties" 1 true AnyG F_marked_ties) (c_web_where:CalA P w K mg 5 "web_where" 2 false (CloG P w K mg 4 2 Tl) F_web_where) (ca_are_tied:∀base,Cal P w K mg base 1 "are_tied" 3 false AnyG F_are_tied) {tc tP:Addr} (hcode:fd_f.code=.ref tc) (hCd:PySem.W.CodeHd base tc tP) (hBm:BMn mg base) (hL:(tP,(Str.ofString "turned.<locals>.<lambda>"))∈L) :
  FnOk P w K mg base CX0 6 a_f fd_f ["web"] (spD 1 false (TabsG L) F_turned):=
 have c_nd:=sc_turned.nd
 fnDC (own:=[]) F sc_turned fun A outer s H E hr G hG=>
 have hT:TabsG L G:=hG
 have TG9:=hT _ _ hL
 have M9:Mk0 (cxOf CX0 P w K mg base ["web","ties"] "turned" (defScope s_turned) a_f fd_f.code A outer s H E).nox tc tP:=⟨hcode,hCd,hBm⟩
 (pdss_cons (own2:=[]) (pds_set0 (pasg_set c_nd rfl (Or.inr rfl) (pd_cal (c_marked_ties.mono) trivial hr rfl (pda_cons (pd_var 0 (pv 0)) pda_nil) (dCons_len dNil_len))))
 (pdss_cons (own2:=[]) (pds_ret (pd_callLam (kl:=3) (frb:=true) (N:=["a","b","ties"]) (ps:=["a","b"]) (cix:=[1]) (T:=Tl) (t:=0) (q:="turned.<locals>.<lambda>") M9 TG9 (c_web_where.mono) (fun _=>rfl) hr rfl (pd_listRange rfl rfl T.b_range rfl T.b_list TF.boot_list (pd_ix ixd (pd_var 0 (pv 0)) pd_int)) rfl (⟨rfl,rfl,rfl,by decide +kernel,rfl,by decide +kernel,by decide +kernel⟩:CloScope ["a","b","ties"] ["a","b"] _) (⟨rfl,rfl,rfl,by decide +kernel,by decide +kernel⟩:CapS _ ["web","ties"] (defScope s_turned).names ["a","b","ties"] ["a","b"] [1] _) rfl (fun _ _ _ _ us hl=>match us,hl with | [_,_],_=>rfl) (fun base f c cl G A outer s H E hr=>(pd_not (pd_cal ((ca_are_tied base).mono) trivial hr rfl (pda_cons (pd_var 2 (pv 2)) (pda_cons (pd_var 0 (pv 0)) (pda_cons (pd_var 1 (pv 1)) pda_nil))) (dCons_len (dCons_len (dCons_len dNil_len))))))))
 (pdss_nil (own:=[]))))
theorem sc_wholly_tied:FnScope ["webs"] ["webs"] (defScope s_wholly_tied):=⟨rfl,rfl,rfl,by decide +kernel,rfl,by decide +kernel,by decide +kernel⟩
theorem ok_wholly_tied (F:Fun K "wholly_tied" "wholly_tied" s_wholly_tied a_f fd_f) (T:Txt mg) {L:List (Addr×Str)} (lo:LOk L) (c_put_in:Cal P w K mg base 6 "put_in" 2 false (TabsG L) F_put_in) (c_turned:Cal P w K mg base 6 "turned" 1 false (TabsG L) F_turned) :
  FnOk P w K mg base CX0 7 a_f fd_f ["webs"] (spD 1 false (TabsG L) F_wholly_tied):=
 have c_nd:=sc_wholly_tied.nd
 fnD (own:=[]) F sc_wholly_tied fun cdv A outer s H E hr G hG=>
 have hT:TabsG L G:=hG
 (pdss_cons (own2:=[]) (pds_ret (pd_cal (c_put_in.mono) hT hr rfl (pda_cons (pd_cal (c_turned.mono) hT hr rfl (pda_cons (pd_tup (pda_cons (pd_callB (call_lenDD) rfl T.b_len TF.boot_len (pda_cons (pd_var 0 (pv 0)) pda_nil)) (pda_cons (pd_tup pda_nil) pda_nil))) pda_nil) (dCons_len dNil_len)) (pda_cons (pd_var 0 (pv 0)) pda_nil)) (dCons_len (dCons_len dNil_len))))
 (pdss_nil (own:=[])))
theorem sc_is_same_or_tied:FnScope ["ties","a","b"] ["ties","a","b"] (defScope s_is_same_or_tied):=⟨rfl,rfl,rfl,by decide +kernel,rfl,by decide +kernel,by decide +kernel⟩
theorem ok_is_same_or_tied (F:Fun K "is_same_or_tied" "is_same_or_tied" s_is_same_or_tied a_f fd_f) (T:Txt mg) (c_are_tied:Cal P w K mg base 1 "are_tied" 3 false AnyG F_are_tied) :
  FnOk P w K mg base CX0 2 a_f fd_f ["ties","a","b"] (spD 3 false AnyG F_is_same_or_tied):=
 have c_nd:=sc_is_same_or_tied.nd
 fnD (own:=[]) F sc_is_same_or_tied fun cdv A outer s H E hr G hG=>
 (pdss_cons (own2:=[]) (pds_ret (pd_or (pd_cmp (opd_eq hr.units) (pd_var 1 (pv 1)) (pd_var 2 (pv 2))) (pd_one (pd_cal (c_are_tied.mono) trivial hr rfl (pda_cons (pd_var 0 (pv 0)) (pda_cons (pd_var 1 (pv 1)) (pda_cons (pd_var 2 (pv 2)) pda_nil))) (dCons_len (dCons_len (dCons_len dNil_len)))))))
 (pdss_nil (own:=[])))
theorem sc_by_pairs:FnScope ["web","other","ties","other_ties","are_tied_there"] ["web","other"] (defScope s_by_pairs):=⟨rfl,rfl,rfl,by decide +kernel,rfl,by decide +kernel,by decide +kernel⟩
theorem ok_by_pairs (F:Fun K "by_pairs" "by_pairs" s_by_pairs a_f fd_f) (T:Txt mg) {L:List (Addr×Str)} (lo:LOk L) (c_marked_ties:Cal P w K mg base 1 "marked_ties" 1 true AnyG F_marked_ties) (c_spots:Cal P w K mg base 1 "spots" 1 true AnyG F_spots) (c_web_where:CalA P w K mg 5 "web_where" 2 false (CloG P w K mg 4 2 Tl) F_web_where) (ca_is_same_or_tied:∀base,Cal P w K mg base 2 "is_same_or_tied" 3 false AnyG F_is_same_or_tied) {tc tP:Addr} (hcode:fd_f.code=.ref tc) (hCd:PySem.W.CodeHd base tc tP) (hBm:BMn mg base) (hL:(tP,(Str.ofString "by_pairs.<locals>.are_tied_there"))∈L) :
  FnOk P w K mg base CX0 6 a_f fd_f ["web","other"] (spD 2 false (TabsG L) F_by_pairs):=
 have c_nd:=sc_by_pairs.nd
 fnDC (own:=[]) F sc_by_pairs fun A outer s H E hr G hG=>
 have hT:TabsG L G:=hG
 have TG9:=hT _ _ hL
 have M9:Mk0 (cxOf CX0 P w K mg base ["web","other","ties","other_ties","are_tied_there"] "by_pairs" (defScope s_by_pairs) a_f fd_f.code A outer s H E).nox tc tP:=⟨hcode,hCd,hBm⟩
 (pdss_cons (own2:=[]) (pds_set0 (pasg_set c_nd rfl (Or.inr rfl) (pd_cal (c_marked_ties.mono) trivial hr rfl (pda_cons (pd_var 0 (pv 0)) pda_nil) (dCons_len dNil_len))))
 (pdss_cons (own2:=[]) (pds_set0 (pasg_set c_nd rfl (Or.inr rfl) (pd_cal (c_marked_ties.mono) trivial hr rfl (pda_cons (pd_var 1 (pv 1)) pda_nil) (dCons_len dNil_len))))
 (pdss_defRet (kl:=3) (frb:=false) (i:=4) (N:=["a","b","ties","other_ties"]) (ps:=["a","b"]) (cix:=[2,3]) (T:=Tl) (t:=4) (q:="by_pairs.<locals>.are_tied_there") M9 TG9 (c_web_where.mono) (fun _=>rfl) hr rfl c_nd rfl (Or.inl rfl) (pv 4) (pd_cal (c_spots.mono) trivial hr rfl (pda_cons (pd_op opd_mulA (pd_lst (pda_cons (pd_ix ixd (pd_var 1 (pv 1)) pd_int) pda_nil)) (pd_ix ixd (pd_var 0 (pv 0)) pd_int)) pda_nil) (dCons_len dNil_len)) rfl (⟨rfl,rfl,rfl,by decide +kernel,rfl,by decide +kernel,by decide +kernel⟩:CloScope ["a","b","ties","other_ties"] ["a","b"] _) (⟨rfl,rfl,rfl,by decide +kernel,by decide +kernel⟩:CapS _ ["web","other","ties","other_ties","are_tied_there"] (defScope s_by_pairs).names ["a","b","ties","other_ties"] ["a","b"] [2,3] _) rfl (fun _ _ _ _ _ us hl=>match us,hl with | [_,_],_=>rfl) (fun base f c cl G A outer s H E hr=>have c_nd:(["a","b","ties","other_ties"]:List Str).Nodup:=(by decide +kernel);(pdss_cons (own2:=[]) (pds_ret (pd_and (pd_cal ((ca_is_same_or_tied base).mono) trivial hr rfl (pda_cons (pd_var 2 (pv 2)) (pda_cons (pd_ix ixd (pd_var 0 (pv 0)) pd_int) (pda_cons (pd_ix ixd (pd_var 1 (pv 1)) pd_int) pda_nil))) (dCons_len (dCons_len (dCons_len dNil_len)))) (pd_one (pd_cal ((ca_is_same_or_tied base).mono) trivial hr rfl (pda_cons (pd_var 3 (pv 3)) (pda_cons (pd_ix ixd (pd_var 0 (pv 0)) pd_int) (pda_cons (pd_ix ixd (pd_var 1 (pv 1)) pd_int) pda_nil))) (dCons_len (dCons_len (dCons_len dNil_len)))))))
 (pdss_nil (own:=[])))))))
theorem sc_near:FnScope ["web","place"] ["web","place"] (defScope s_near):=⟨rfl,rfl,rfl,by decide +kernel,rfl,by decide +kernel,by decide +kernel⟩
theorem ok_near (F:Fun K "near" "near" s_near a_f fd_f) (T:Txt mg) (c_are_tied:Cal P w K mg base 1 "are_tied" 3 false AnyG F_are_tied) :
  FnOk P w K mg base CX0 2 a_f fd_f ["web","place"] (spD 2 true AnyG F_near):=
 have c_nd:=sc_near.nd
 fnD (own:=[]) F sc_near fun cdv A outer s H E hr G hG=>
 (pdss_cons (own2:=[]) (pds_ret (pd_compS rfl (⟨rfl,rfl,by decide +kernel,rfl,by decide +kernel,rfl,by decide +kernel,by decide +kernel⟩:BlkS _ ["web","place"] (defScope s_near).names ["other","web","place"] [none,some 0,some 1] _) (pdi_range1 rfl T.b_range (pd_ix ixd (pd_var 0 (pv 0)) pd_int)) (fun _ _ _ _ _ _=>(pdg_name (show (["other","web","place"]:List Str).Nodup by decide +kernel) rfl (Or.inl rfl) rfl)) (fun _ _ _ _ _ _=>(pifs1 (pdt_val (pd_cal (c_are_tied.mono) trivial hr rfl (pda_cons (pd_ix ixd (pd_var 1 (pv 1)) pd_int) (pda_cons (pd_var 2 (pv 2)) (pda_cons (pd_var 0 (pv 0)) pda_nil))) (dCons_len (dCons_len (dCons_len dNil_len))))))) (fun _ _ _ _ _ _=>(pd_var 0 (pv 0)))))
 (pdss_nil (own:=[])))
theorem sc_all_near:FnScope ["web","marked"] ["web"] (defScope s_all_near):=⟨rfl,rfl,rfl,by decide +kernel,rfl,by decide +kernel,by decide +kernel⟩
theorem ok_all_near (F:Fun K "all_near" "all_near" s_all_near a_f fd_f) (T:Txt mg) (c_marked_ties:Cal P w K mg base 1 "marked_ties" 1 true AnyG F_marked_ties) (c_near:Cal P w K mg base 2 "near" 2 true AnyG F_near) :
  FnOk P w K mg base CX0 3 a_f fd_f ["web"] (spD 1 true AnyG F_all_near):=
 have c_nd:=sc_all_near.nd
 fnD (own:=[]) F sc_all_near fun cdv A outer s H E hr G hG=>
 (pdss_cons (own2:=[]) (pds_set0 (pasg_set c_nd rfl (Or.inr rfl) (pd_tup (pda_cons (pd_ix ixd (pd_var 0 (pv 0)) pd_int) (pda_cons (pd_cal (c_marked_ties.mono) trivial hr rfl (pda_cons (pd_var 0 (pv 0)) pda_nil) (dCons_len dNil_len)) pda_nil)))))
 (pdss_cons (own2:=[]) (pds_ret (pd_compS rfl (⟨rfl,rfl,by decide +kernel,rfl,by decide +kernel,rfl,by decide +kernel,by decide +kernel⟩:BlkS _ ["web","marked"] (defScope s_all_near).names ["place","marked"] [none,some 1] _) (pdi_range1 rfl T.b_range (pd_ix ixd (pd_var 0 (pv 0)) pd_int)) (fun _ _ _ _ _ _=>(pdg_name (show (["place","marked"]:List Str).Nodup by decide +kernel) rfl (Or.inl rfl) rfl)) (fun _ _ _ _ _ _=>pifs0) (fun _ _ _ _ _ _=>(pd_cal (c_near.mono) trivial hr rfl (pda_cons (pd_var 1 (pv 1)) (pda_cons (pd_var 0 (pv 0)) pda_nil)) (dCons_len (dCons_len dNil_len))))))
 (pdss_nil (own:=[]))))
theorem sc_heaviest_with:FnScope ["aparts","weights","place","places","others"] ["aparts","weights","place","places"] (defScope s_heaviest_with):=⟨rfl,rfl,rfl,by decide +kernel,rfl,by decide +kernel,by decide +kernel⟩
theorem ok_heaviest_with (F:Fun K "heaviest_with" "heaviest_with" s_heaviest_with a_f fd_f) (T:Txt mg) {Fs:List D→M D} {lv:Nat} (hlv:0≤lv) (c_heaviest_among:Cal P w K mg base lv "heaviest_among" 3 false AnyG Fs) :
  FnOk P w K mg base CX0 (lv+1) a_f fd_f ["aparts","weights","place","places"] (spD 4 false AnyG (F_heaviest_with Fs)):=
 have c_nd:=sc_heaviest_with.nd
 fnD (own:=[]) F sc_heaviest_with fun cdv A outer s H E hr G hG=>
 (pdss_cons (own2:=[]) (pds_set0 (pasg_compS c_nd rfl (Or.inl rfl) rfl (⟨rfl,rfl,by decide +kernel,rfl,by decide +kernel,rfl,by decide +kernel,by decide +kernel⟩:BlkS _ ["aparts","weights","place","places","others"] (defScope s_heaviest_with).names ["other","place","aparts"] [none,some 2,some 0] _) (pdi_list (pd_var 3 (pv 3))) (fun _ _ _ _ _ _=>(pdg_name (show (["other","place","aparts"]:List Str).Nodup by decide +kernel) rfl (Or.inl rfl) rfl)) (fun _ _ _ _ _ _=>(pifs1 (PDW.pt (pdw_and (pdt_cmp (opd_ne hr.units) (pd_var 0 (pv 0)) (pd_var 1 (pv 1))) (pdw_and1 (pdt_cmp (opd_notIn hr.units) (pd_var 0 (pv 0)) (pd_ix ixd (pd_var 2 (pv 2)) (pd_var 1 (pv 1))))))))) (fun _ _ _ _ _ _=>(pd_var 0 (pv 0)))))
 (pdss_cons (own2:=[]) (pds_ret (PD.weak (pd_op opd_add (pd_lst (pda_cons (pd_var 2 (pv 2)) pda_nil)) (pd_cal (c_heaviest_among) trivial hr rfl (pda_cons (pd_var 0 (pv 0)) (pda_cons (pd_var 1 (pv 1)) (pda_cons (pd_var 4 (pv 4)) pda_nil))) (dCons_len (dCons_len (dCons_len dNil_len)))))))
 (pdss_nil (own:=[]))))
theorem sc_apart_among:FnScope ["aparts","place","places"] ["aparts","place","places"] (defScope s_apart_among):=⟨rfl,rfl,rfl,by decide +kernel,rfl,by decide +kernel,by decide +kernel⟩
theorem ok_apart_among (F:Fun K "apart_among" "apart_among" s_apart_among a_f fd_f) (T:Txt mg) :
  FnOk P w K mg base CX0 1 a_f fd_f ["aparts","place","places"] (spD 3 true AnyG F_apart_among):=
 have c_nd:=sc_apart_among.nd
 fnD (own:=[]) F sc_apart_among fun cdv A outer s H E hr G hG=>
 (pdss_cons (own2:=[]) (pds_ret (pd_compS rfl (⟨rfl,rfl,by decide +kernel,rfl,by decide +kernel,rfl,by decide +kernel,by decide +kernel⟩:BlkS _ ["aparts","place","places"] (defScope s_apart_among).names ["other","aparts","place"] [none,some 0,some 1] _) (pdi_list (pd_var 2 (pv 2))) (fun _ _ _ _ _ _=>(pdg_name (show (["other","aparts","place"]:List Str).Nodup by decide +kernel) rfl (Or.inl rfl) rfl)) (fun _ _ _ _ _ _=>(pifs1 (pdt_cmp (opd_in hr.units) (pd_var 0 (pv 0)) (pd_ix ixd (pd_var 1 (pv 1)) (pd_var 2 (pv 2)))))) (fun _ _ _ _ _ _=>(pd_var 0 (pv 0)))))
 (pdss_nil (own:=[])))
theorem sc_weighed:FnScope ["weights","places"] ["weights","places"] (defScope s_weighed):=⟨rfl,rfl,rfl,by decide +kernel,rfl,by decide +kernel,by decide +kernel⟩
theorem ok_weighed (F:Fun K "weighed" "weighed" s_weighed a_f fd_f) (T:Txt mg) :
  FnOk P w K mg base CX0 1 a_f fd_f ["weights","places"] (spD 2 false AnyG F_weighed):=
 have c_nd:=sc_weighed.nd
 fnD (own:=[]) F sc_weighed fun cdv A outer s H E hr G hG=>
 (pdss_cons (own2:=[]) (pds_ret (PD.weak (pd_callB (call_sumD rfl) rfl T.b_sum TF.boot_sum (pda_cons (pd_compS rfl (⟨rfl,rfl,by decide +kernel,rfl,by decide +kernel,rfl,by decide +kernel,by decide +kernel⟩:BlkS _ ["weights","places"] (defScope s_weighed).names ["place","weights"] [none,some 0] _) (pdi_list (pd_var 1 (pv 1))) (fun _ _ _ _ _ _=>(pdg_name (show (["place","weights"]:List Str).Nodup by decide +kernel) rfl (Or.inl rfl) rfl)) (fun _ _ _ _ _ _=>pifs0) (fun _ _ _ _ _ _=>(pd_ix ixd (pd_var 1 (pv 1)) (pd_var 0 (pv 0))))) pda_nil))))
 (pdss_nil (own:=[])))
theorem sc_heaviest_among:FnScope ["aparts","weights","places","rows","i","counts","branching","with_it","without_it"] ["aparts","weights","places"] (defScope s_heaviest_among):=⟨rfl,rfl,rfl,by decide +kernel,rfl,by decide +kernel,by decide +kernel⟩
theorem ok_heaviest_among (F:Fun K "heaviest_among" "heaviest_among" s_heaviest_among a_f fd_f) (T:Txt mg) {Fs:List D→M D} {lv:Nat} (hlv:1≤lv) (c_apart_among:Cal P w K mg base 1 "apart_among" 3 true AnyG F_apart_among) (c_heaviest_among:Cal P w K mg base lv "heaviest_among" 3 false AnyG Fs) (c_heaviest_with:Cal P w K mg base (lv+1) "heaviest_with" 4 false AnyG (F_heaviest_with Fs)) (c_weighed:Cal P w K mg base 1 "weighed" 2 false AnyG F_weighed) :
  FnOk P w K mg base CX0 (lv+2) a_f fd_f ["aparts","weights","places"] (spD 3 false AnyG (runB 9 3 (g_heaviest_among Fs))):=
 have c_nd:=sc_heaviest_among.nd
 fnD (own:=[]) F sc_heaviest_among fun cdv A outer s H E hr G hG=>
 (pdss_cons (own2:=[]) (pds_if (own':=[]) (pdt_cmp (opd_eq hr.units) (pd_var 2 (pv 2)) (pd_lst pda_nil))
 (pdss_cons (own2:=[]) (pds_ret (PD.weak (pd_lst pda_nil)))
 (pdss_nil (own:=[])))
 pdss_nil)
 (pdss_cons (own2:=[]) (pds_set0 (pasg_compS c_nd rfl (Or.inl rfl) rfl (⟨rfl,rfl,by decide +kernel,rfl,by decide +kernel,rfl,by decide +kernel,by decide +kernel⟩:BlkS _ ["aparts","weights","places","rows","i","counts","branching","with_it","without_it"] (defScope s_heaviest_among).names ["place","aparts","places"] [none,some 0,some 2] _) (pdi_list (pd_var 2 (pv 2))) (fun _ _ _ _ _ _=>(pdg_name (show (["place","aparts","places"]:List Str).Nodup by decide +kernel) rfl (Or.inl rfl) rfl)) (fun _ _ _ _ _ _=>pifs0) (fun _ _ _ _ _ _=>(pd_cal (c_apart_among.mono (h:=Nat.le_trans (by decide) (Nat.le_succ_of_le hlv))) trivial hr rfl (pda_cons (pd_var 1 (pv 1)) (pda_cons (pd_var 0 (pv 0)) (pda_cons (pd_var 2 (pv 2)) pda_nil))) (dCons_len (dCons_len (dCons_len dNil_len)))))))
 (pdss_cons (own2:=[]) (pds_for (own:=[]) PassesOwn.never rfl (pdij_range1 rfl T.b_range (pd_callB (call_lenDD) rfl T.b_len TF.boot_len (pda_cons (pd_var 2 (pv 2)) pda_nil))) (pdg_name c_nd rfl (Or.inl rfl) (by decide))
 (pdss_cons (own2:=[]) (pds_if (own':=[]) (pdt_cmp (opd_le) (pd_cal (c_weighed.mono (h:=Nat.le_trans (by decide) (Nat.le_succ_of_le hlv))) trivial hr rfl (pda_cons (pd_var 1 (pv 1)) (pda_cons (pd_ix ixd (pd_var 3 (pv 3)) (pd_var 4 (pv 4))) pda_nil)) (dCons_len (dCons_len dNil_len))) (pd_ix ixd (pd_var 1 (pv 1)) (pd_ix ixd (pd_var 2 (pv 2)) (pd_var 4 (pv 4)))))
 (pdss_cons (own2:=[]) (pds_ret (pd_cal (c_heaviest_with) trivial hr rfl (pda_cons (pd_var 0 (pv 0)) (pda_cons (pd_var 1 (pv 1)) (pda_cons (pd_ix ixd (pd_var 2 (pv 2)) (pd_var 4 (pv 4))) (pda_cons (pd_var 2 (pv 2)) pda_nil)))) (dCons_len (dCons_len (dCons_len (dCons_len dNil_len))))))
 (pdss_nil (own:=[])))
 pdss_nil)
 (pdss_nil (own:=[]))))
 (pdss_cons (own2:=[]) (pds_set0 (pasg_compS c_nd rfl (Or.inl rfl) rfl (⟨rfl,rfl,by decide +kernel,rfl,by decide +kernel,rfl,by decide +kernel,by decide +kernel⟩:BlkS _ ["aparts","weights","places","rows","i","counts","branching","with_it","without_it"] (defScope s_heaviest_among).names ["row"] [none] _) (pdi_list (pd_var 3 (pv 3))) (fun _ _ _ _ _ _=>(pdg_name (show (["row"]:List Str).Nodup by decide +kernel) rfl (Or.inl rfl) rfl)) (fun _ _ _ _ _ _=>pifs0) (fun _ _ _ _ _ _=>(pd_callB (call_lenDD) rfl T.b_len TF.boot_len (pda_cons (pd_var 0 (pv 0)) pda_nil)))))
 (pdss_cons (own2:=[]) (pds_set0 (pasg_set c_nd rfl (Or.inr rfl) (pd_ix ixd (pd_var 2 (pv 2)) (pd_index (pd_var 5 (pv 5)) (pd_callB (call_maxLD rfl) rfl T.b_max TF.boot_max (pda_cons (pd_var 5 (pv 5)) pda_nil))))))
 (pdss_cons (own2:=[]) (pds_set0 (pasg_set c_nd rfl (Or.inl rfl) (pd_cal (c_heaviest_with) trivial hr rfl (pda_cons (pd_var 0 (pv 0)) (pda_cons (pd_var 1 (pv 1)) (pda_cons (pd_var 6 (pv 6)) (pda_cons (pd_var 2 (pv 2)) pda_nil)))) (dCons_len (dCons_len (dCons_len (dCons_len dNil_len)))))))
 (pdss_cons (own2:=[]) (pds_set0 (pasg_set c_nd rfl (Or.inl rfl) (pd_cal (c_heaviest_among.mono (h:=Nat.le_succ _)) trivial hr rfl (pda_cons (pd_var 0 (pv 0)) (pda_cons (pd_var 1 (pv 1)) (pda_cons (pd_compS rfl (⟨rfl,rfl,by decide +kernel,rfl,by decide +kernel,rfl,by decide +kernel,by decide +kernel⟩:BlkS _ ["aparts","weights","places","rows","i","counts","branching","with_it","without_it"] (defScope s_heaviest_among).names ["other","branching"] [none,some 6] _) (pdi_list (pd_var 2 (pv 2))) (fun _ _ _ _ _ _=>(pdg_name (show (["other","branching"]:List Str).Nodup by decide +kernel) rfl (Or.inl rfl) rfl)) (fun _ _ _ _ _ _=>(pifs1 (pdt_cmp (opd_ne hr.units) (pd_var 0 (pv 0)) (pd_var 1 (pv 1))))) (fun _ _ _ _ _ _=>(pd_var 0 (pv 0)))) pda_nil))) (dCons_len (dCons_len (dCons_len dNil_len))))))
 (pdss_cons (own2:=[]) (pds_ret (pd_if (pdt_cmp (opd_ge) (pd_cal (c_weighed.mono (h:=Nat.le_trans (by decide) (Nat.le_succ_of_le hlv))) trivial hr rfl (pda_cons (pd_var 1 (pv 1)) (pda_cons (pd_var 7 (pv 7)) pda_nil)) (dCons_len (dCons_len dNil_len))) (pd_cal (c_weighed.mono (h:=Nat.le_trans (by decide) (Nat.le_succ_of_le hlv))) trivial hr rfl (pda_cons (pd_var 1 (pv 1)) (pda_cons (pd_var 8 (pv 8)) pda_nil)) (dCons_len (dCons_len dNil_len)))) (pd_var 7 (pv 7)) (pd_var 8 (pv 8))))
 (pdss_nil (own:=[]))))))))))
theorem sc_heaviest_knot:FnScope ["web","weights","aparts"] ["web","weights"] (defScope s_heaviest_knot):=⟨rfl,rfl,rfl,by decide +kernel,rfl,by decide +kernel,by decide +kernel⟩
theorem ok_heaviest_knot (F:Fun K "heaviest_knot" "heaviest_knot" s_heaviest_knot a_f fd_f) (T:Txt mg) {L:List (Addr×Str)} (lo:LOk L) (c_all_near:Cal P w K mg base 3 "all_near" 1 true AnyG F_all_near) (c_heaviest_among:Cal P w K mg base 53 "heaviest_among" 3 false AnyG (F_heaviest_among 26)) (c_turned:Cal P w K mg base 6 "turned" 1 false (TabsG L) F_turned) :
  FnOk P w K mg base CX0 54 a_f fd_f ["web","weights"] (spD 2 true (TabsG L) F_heaviest_knot):=
 have c_nd:=sc_heaviest_knot.nd
 fnD (own:=[]) F sc_heaviest_knot fun cdv A outer s H E hr G hG=>
 have hT:TabsG L G:=hG
 (pdss_cons (own2:=[]) (pds_set0 (pasg_compS c_nd rfl (Or.inl rfl) rfl (⟨rfl,rfl,by decide +kernel,rfl,by decide +kernel,rfl,by decide +kernel,by decide +kernel⟩:BlkS _ ["web","weights","aparts"] (defScope s_heaviest_knot).names ["row"] [none] _) (pdi_list (pd_cal (c_all_near.mono) trivial hr rfl (pda_cons (pd_cal (c_turned.mono) hT hr rfl (pda_cons (pd_var 0 (pv 0)) pda_nil) (dCons_len dNil_len)) pda_nil) (dCons_len dNil_len))) (fun _ _ _ _ _ _=>(pdg_name (show (["row"]:List Str).Nodup by decide +kernel) rfl (Or.inl rfl) rfl)) (fun _ _ _ _ _ _=>pifs0) (fun _ _ _ _ _ _=>(pd_callTy (call_dictK rfl hr.units) rfl T.b_dict TF.boot_dict (pda_cons (pd_compS rfl (⟨rfl,rfl,by decide +kernel,rfl,by decide +kernel,rfl,by decide +kernel,by decide +kernel⟩:BlkS _ ["row"] [((PySem.Str.ofString ".0"),PySem.NameKind.local),((PySem.Str.ofString "row"),PySem.NameKind.local),((PySem.Str.ofString "dict"),PySem.NameKind.globalImplicit)] ["other"] [none] _) (pdi_list (pd_var 0 (pv 0))) (fun _ _ _ _ _ _=>(pdg_name (show (["other"]:List Str).Nodup by decide +kernel) rfl (Or.inl rfl) rfl)) (fun _ _ _ _ _ _=>pifs0) (fun _ _ _ _ _ _=>(pd_tup (pda_cons (pd_var 0 (pv 0)) (pda_cons pd_bl pda_nil))))) pda_nil)))))
 (pdss_cons (own2:=[]) (pds_ret (pd_callTy (call_tupleDD) rfl T.b_tuple TF.boot_tuple (pda_cons (pd_callB (call_sortedD) rfl T.b_sorted TF.boot_sorted (pda_cons (pd_cal (c_heaviest_among.mono) trivial hr rfl (pda_cons (pd_var 2 (pv 2)) (pda_cons (pd_var 1 (pv 1)) (pda_cons (pd_listRange rfl rfl T.b_range rfl T.b_list TF.boot_list (pd_ix ixd (pd_var 0 (pv 0)) pd_int)) pda_nil))) (dCons_len (dCons_len (dCons_len dNil_len)))) pda_nil)) pda_nil)))
 (pdss_nil (own:=[]))))
theorem sc_most:FnScope ["web","knot"] ["web"] (defScope s_most):=⟨rfl,rfl,rfl,by decide +kernel,rfl,by decide +kernel,by decide +kernel⟩
theorem ok_most (F:Fun K "most" "most" s_most a_f fd_f) (T:Txt mg) {L:List (Addr×Str)} (lo:LOk L) (c_heaviest_knot:Cal P w K mg base 54 "heaviest_knot" 2 true (TabsG L) F_heaviest_knot) :
  FnOk P w K mg base CX0 55 a_f fd_f ["web"] (spD 1 true (TabsG L) F_most):=
 have c_nd:=sc_most.nd
 fnD (own:=[]) F sc_most fun cdv A outer s H E hr G hG=>
 have hT:TabsG L G:=hG
 (pdss_cons (own2:=[]) (pds_set0 (pasg_set c_nd rfl (Or.inl rfl) (pd_cal (c_heaviest_knot.mono) hT hr rfl (pda_cons (pd_var 0 (pv 0)) (pda_cons (pd_op opd_mulT (pd_tup (pda_cons pd_int pda_nil)) (pd_ix ixd (pd_var 0 (pv 0)) pd_int)) pda_nil)) (dCons_len (dCons_len dNil_len)))))
 (pdss_cons (own2:=[]) (pds_ret (pd_tup (pda_cons (pd_callB (call_lenDD) rfl T.b_len TF.boot_len (pda_cons (pd_var 1 (pv 1)) pda_nil)) (pda_cons (pd_var 1 (pv 1)) pda_nil))))
 (pdss_nil (own:=[]))))
theorem sc_is_near_all:FnScope ["nears","place","knot"] ["nears","place","knot"] (defScope s_is_near_all):=⟨rfl,rfl,rfl,by decide +kernel,rfl,by decide +kernel,by decide +kernel⟩
theorem ok_is_near_all (F:Fun K "is_near_all" "is_near_all" s_is_near_all a_f fd_f) (T:Txt mg) :
  FnOk P w K mg base CX0 1 a_f fd_f ["nears","place","knot"] (spD 3 false AnyG F_is_near_all):=
 have c_nd:=sc_is_near_all.nd
 fnD (own:=[]) F sc_is_near_all fun cdv A outer s H E hr G hG=>
 (pdss_cons (own2:=[]) (pds_ret (PD.weak (pd_callB (call_allD rfl) rfl T.b_all TF.boot_all (pda_cons (pd_compS rfl (⟨rfl,rfl,by decide +kernel,rfl,by decide +kernel,rfl,by decide +kernel,by decide +kernel⟩:BlkS _ ["nears","place","knot"] (defScope s_is_near_all).names ["other","nears","place"] [none,some 0,some 1] _) (pdi_tup (pd_var 2 (pv 2))) (fun _ _ _ _ _ _=>(pdg_name (show (["other","nears","place"]:List Str).Nodup by decide +kernel) rfl (Or.inl rfl) rfl)) (fun _ _ _ _ _ _=>pifs0) (fun _ _ _ _ _ _=>(pd_cmp (opd_in hr.units) (pd_var 0 (pv 0)) (pd_ix ixd (pd_var 1 (pv 1)) (pd_var 2 (pv 2)))))) pda_nil))))
 (pdss_nil (own:=[])))
theorem sc_all_knots:FnScope ["nears","knots","place"] ["nears"] (defScope s_all_knots):=⟨rfl,rfl,rfl,by decide +kernel,rfl,by decide +kernel,by decide +kernel⟩
theorem ok_all_knots (F:Fun K "all_knots" "all_knots" s_all_knots a_f fd_f) (T:Txt mg) (c_is_near_all:Cal P w K mg base 1 "is_near_all" 3 false AnyG F_is_near_all) :
  FnOk P w K mg base CX0 2 a_f fd_f ["nears"] (spD 1 false AnyG F_all_knots):=
 have c_nd:=sc_all_knots.nd
 fnD (own:=[]) F sc_all_knots fun cdv A outer s H E hr G hG=>
 (pdss_cons (own2:=[]) (pds_set0 (pasg_set c_nd rfl (Or.inl rfl) (pd_lst (pda_cons (pd_tup pda_nil) pda_nil))))
 (pdss_cons (own2:=[]) (pds_for (own:=[]) PassesOwn.never rfl (pdij_range1 rfl T.b_range (pd_callB (call_lenDD) rfl T.b_len TF.boot_len (pda_cons (pd_var 0 (pv 0)) pda_nil))) (pdg_name c_nd rfl (Or.inr rfl) (by decide))
 (pdss_cons (own2:=[]) (pds_set0 (pasg_set c_nd rfl (Or.inl rfl) (pd_op opd_add (pd_var 1 (pv 1)) (pd_compS rfl (⟨rfl,rfl,by decide +kernel,rfl,by decide +kernel,rfl,by decide +kernel,by decide +kernel⟩:BlkS _ ["nears","knots","place"] (defScope s_all_knots).names ["knot","place","nears"] [none,some 2,some 0] _) (pdi_list (pd_var 1 (pv 1))) (fun _ _ _ _ _ _=>(pdg_name (show (["knot","place","nears"]:List Str).Nodup by decide +kernel) rfl (Or.inl rfl) rfl)) (fun _ _ _ _ _ _=>(pifs1 (pdt_val (pd_cal (c_is_near_all.mono) trivial hr rfl (pda_cons (pd_var 2 (pv 2)) (pda_cons (pd_var 1 (pv 1)) (pda_cons (pd_var 0 (pv 0)) pda_nil))) (dCons_len (dCons_len (dCons_len dNil_len))))))) (fun _ _ _ _ _ _=>(pd_op opd_add (pd_var 0 (pv 0)) (pd_tup (pda_cons (pd_var 1 (pv 1)) pda_nil))))))))
 (pdss_nil (own:=[]))))
 (pdss_cons (own2:=[]) (pds_ret (pd_var 1 (pv 1)))
 (pdss_nil (own:=[])))))
theorem sc_is_full:FnScope ["nears","knot"] ["nears","knot"] (defScope s_is_full):=⟨rfl,rfl,rfl,by decide +kernel,rfl,by decide +kernel,by decide +kernel⟩
theorem ok_is_full (F:Fun K "is_full" "is_full" s_is_full a_f fd_f) (T:Txt mg) (c_is_near_all:Cal P w K mg base 1 "is_near_all" 3 false AnyG F_is_near_all) :
  FnOk P w K mg base CX0 2 a_f fd_f ["nears","knot"] (spD 2 false AnyG F_is_full):=
 have c_nd:=sc_is_full.nd
 fnD (own:=[]) F sc_is_full fun cdv A outer s H E hr G hG=>
 (pdss_cons (own2:=[]) (pds_ret (PD.weak (pd_not (pd_callB (call_anyD rfl) rfl T.b_any TF.boot_any (pda_cons (pd_compS rfl (⟨rfl,rfl,by decide +kernel,rfl,by decide +kernel,rfl,by decide +kernel,by decide +kernel⟩:BlkS _ ["nears","knot"] (defScope s_is_full).names ["place","nears","knot"] [none,some 0,some 1] _) (pdi_range1 rfl T.b_range (pd_callB (call_lenDD) rfl T.b_len TF.boot_len (pda_cons (pd_var 0 (pv 0)) pda_nil))) (fun _ _ _ _ _ _=>(pdg_name (show (["place","nears","knot"]:List Str).Nodup by decide +kernel) rfl (Or.inl rfl) rfl)) (fun _ _ _ _ _ _=>pifs0) (fun _ _ _ _ _ _=>(pd_cal (c_is_near_all.mono) trivial hr rfl (pda_cons (pd_var 1 (pv 1)) (pda_cons (pd_var 0 (pv 0)) (pda_cons (pd_var 2 (pv 2)) pda_nil))) (dCons_len (dCons_len (dCons_len dNil_len)))))) pda_nil)))))
 (pdss_nil (own:=[])))
theorem sc_full_knots:FnScope ["web","nears"] ["web"] (defScope s_full_knots):=⟨rfl,rfl,rfl,by decide +kernel,rfl,by decide +kernel,by decide +kernel⟩
theorem ok_full_knots (F:Fun K "full_knots" "full_knots" s_full_knots a_f fd_f) (T:Txt mg) (c_all_knots:Cal P w K mg base 2 "all_knots" 1 false AnyG F_all_knots) (c_all_near:Cal P w K mg base 3 "all_near" 1 true AnyG F_all_near) (c_is_full:Cal P w K mg base 2 "is_full" 2 false AnyG F_is_full) :
  FnOk P w K mg base CX0 4 a_f fd_f ["web"] (spD 1 true AnyG F_full_knots):=
 have c_nd:=sc_full_knots.nd
 fnD (own:=[]) F sc_full_knots fun cdv A outer s H E hr G hG=>
 (pdss_cons (own2:=[]) (pds_set0 (pasg_set c_nd rfl (Or.inr rfl) (pd_cal (c_all_near.mono) trivial hr rfl (pda_cons (pd_var 0 (pv 0)) pda_nil) (dCons_len dNil_len))))
 (pdss_cons (own2:=[]) (pds_ret (pd_callB call_sortedTs rfl T.b_sorted TF.boot_sorted (pda_cons (pd_compS rfl (⟨rfl,rfl,by decide +kernel,rfl,by decide +kernel,rfl,by decide +kernel,by decide +kernel⟩:BlkS _ ["web","nears"] (defScope s_full_knots).names ["knot","nears"] [none,some 1] _) (pdi_list (pd_cal (c_all_knots.mono) trivial hr rfl (pda_cons (pd_var 1 (pv 1)) pda_nil) (dCons_len dNil_len))) (fun _ _ _ _ _ _=>(pdg_name (show (["knot","nears"]:List Str).Nodup by decide +kernel) rfl (Or.inl rfl) rfl)) (fun _ _ _ _ _ _=>(pifs1 (pdt_val (pd_cal (c_is_full.mono) trivial hr rfl (pda_cons (pd_var 1 (pv 1)) (pda_cons (pd_var 0 (pv 0)) pda_nil)) (dCons_len (dCons_len dNil_len)))))) (fun _ _ _ _ _ _=>(pd_var 0 (pv 0)))) pda_nil)))
 (pdss_nil (own:=[]))))
theorem sc_is_whole:FnScope ["thing"] ["thing"] (defScope s_is_whole):=⟨rfl,rfl,rfl,by decide +kernel,rfl,by decide +kernel,by decide +kernel⟩
theorem ok_is_whole (F:Fun K "is_whole" "is_whole" s_is_whole a_f fd_f) (T:Txt mg) :
  FnOk P w K mg base CX0 1 a_f fd_f ["thing"] (spD 1 false AnyG F_is_whole):=
 have c_nd:=sc_is_whole.nd
 fnD (own:=[]) F sc_is_whole fun cdv A outer s H E hr G hG=>
 (pdss_cons (own2:=[]) (pds_ret (pd_and (pd_callB (call_isiD) rfl T.b_isinstance TF.boot_isinstance (pda_cons (pd_var 0 (pv 0)) (pda_cons (pd_ty rfl T.b_int TF.boot_int) pda_nil))) (pd_one (pd_not (pd_callB (call_isiD) rfl T.b_isinstance TF.boot_isinstance (pda_cons (pd_var 0 (pv 0)) (pda_cons (pd_ty rfl T.b_bool TF.boot_bool) pda_nil)))))))
 (pdss_nil (own:=[])))
theorem sc_is_place:FnScope ["n","thing"] ["n","thing"] (defScope s_is_place):=⟨rfl,rfl,rfl,by decide +kernel,rfl,by decide +kernel,by decide +kernel⟩
theorem ok_is_place (F:Fun K "is_place" "is_place" s_is_place a_f fd_f) (T:Txt mg) (c_is_whole:Cal P w K mg base 1 "is_whole" 1 false AnyG F_is_whole) :
  FnOk P w K mg base CX0 2 a_f fd_f ["n","thing"] (spD 2 false AnyG F_is_place):=
 have c_nd:=sc_is_place.nd
 fnD (own:=[]) F sc_is_place fun cdv A outer s H E hr G hG=>
 (pdss_cons (own2:=[]) (pds_ret (pd_and (pd_cal (c_is_whole.mono) trivial hr rfl (pda_cons (pd_var 1 (pv 1)) pda_nil) (dCons_len dNil_len)) (pd_and (pd_cmp (opd_le) pd_int (pd_var 1 (pv 1))) (pd_one (pd_cmp (opd_lt hr.units0) (pd_var 1 (pv 1)) (pd_var 0 (pv 0)))))))
 (pdss_nil (own:=[])))
theorem sc_rises:FnScope ["row"] ["row"] (defScope s_rises):=⟨rfl,rfl,rfl,by decide +kernel,rfl,by decide +kernel,by decide +kernel⟩
theorem ok_rises (F:Fun K "rises" "rises" s_rises a_f fd_f) (T:Txt mg) :
  FnOk P w K mg base CX0 1 a_f fd_f ["row"] (spD 1 false AnyG F_rises):=
 have c_nd:=sc_rises.nd
 fnD (own:=[]) F sc_rises fun cdv A outer s H E hr G hG=>
 (pdss_cons (own2:=[]) (pds_ret (PD.weak (pd_callB (call_allD rfl) rfl T.b_all TF.boot_all (pda_cons (pd_compS rfl (⟨rfl,rfl,by decide +kernel,rfl,by decide +kernel,rfl,by decide +kernel,by decide +kernel⟩:BlkS _ ["row"] (defScope s_rises).names ["i","row"] [none,some 0] _) (pdi_range1 rfl T.b_range (pd_op opd_sub (pd_callB (call_lenDD) rfl T.b_len TF.boot_len (pda_cons (pd_var 0 (pv 0)) pda_nil)) pd_int)) (fun _ _ _ _ _ _=>(pdg_name (show (["i","row"]:List Str).Nodup by decide +kernel) rfl (Or.inl rfl) rfl)) (fun _ _ _ _ _ _=>pifs0) (fun _ _ _ _ _ _=>(pd_cmp (opd_lt hr.units0) (pd_ix ixd (pd_var 1 (pv 1)) (pd_var 0 (pv 0))) (pd_ix ixd (pd_var 1 (pv 1)) (pd_op opd_add (pd_var 0 (pv 0)) pd_int))))) pda_nil))))
 (pdss_nil (own:=[])))
theorem sc_is_knot:FnScope ["web","thing","ties"] ["web","thing"] (defScope s_is_knot):=⟨rfl,rfl,rfl,by decide +kernel,rfl,by decide +kernel,by decide +kernel⟩
theorem ok_is_knot (F:Fun K "is_knot" "is_knot" s_is_knot a_f fd_f) (T:Txt mg) (c_is_place:Cal P w K mg base 2 "is_place" 2 false AnyG F_is_place) (c_marked_ties:Cal P w K mg base 1 "marked_ties" 1 true AnyG F_marked_ties) (c_pairs_of:Cal P w K mg base 1 "pairs_of" 1 true AnyG F_pairs_of) (c_rises:Cal P w K mg base 1 "rises" 1 false AnyG F_rises) :
  FnOk P w K mg base CX0 3 a_f fd_f ["web","thing"] (spD 2 false AnyG F_is_knot):=
 have c_nd:=sc_is_knot.nd
 fnD (own:=[]) F sc_is_knot fun cdv A outer s H E hr G hG=>
 (pdss_cons (own2:=[]) (pds_if (own':=[]) (pdt_not (pdt_val (pd_callB (call_isiD) rfl T.b_isinstance TF.boot_isinstance (pda_cons (pd_var 1 (pv 1)) (pda_cons (pd_ty rfl T.b_tuple TF.boot_tuple) pda_nil)))))
 (pdss_cons (own2:=[]) (pds_ret (PD.weak pd_bl))
 (pdss_nil (own:=[])))
 pdss_nil)
 (pdss_cons (own2:=[]) (pds_if (own':=[]) (PDW.pt (pdw_or (pdt_not (pdt_val (pd_callB (call_allD rfl) rfl T.b_all TF.boot_all (pda_cons (pd_compS rfl (⟨rfl,rfl,by decide +kernel,rfl,by decide +kernel,rfl,by decide +kernel,by decide +kernel⟩:BlkS _ ["web","thing","ties"] (defScope s_is_knot).names ["place","web"] [none,some 0] _) (pdi_tup (pd_var 1 (pv 1))) (fun _ _ _ _ _ _=>(pdg_name (show (["place","web"]:List Str).Nodup by decide +kernel) rfl (Or.inl rfl) rfl)) (fun _ _ _ _ _ _=>pifs0) (fun _ _ _ _ _ _=>(pd_cal (c_is_place.mono) trivial hr rfl (pda_cons (pd_ix ixd (pd_var 1 (pv 1)) pd_int) (pda_cons (pd_var 0 (pv 0)) pda_nil)) (dCons_len (dCons_len dNil_len))))) pda_nil)))) (pdw_or1 (pdt_not (pdt_val (pd_cal (c_rises.mono) trivial hr rfl (pda_cons (pd_var 1 (pv 1)) pda_nil) (dCons_len dNil_len)))))))
 (pdss_cons (own2:=[]) (pds_ret (PD.weak pd_bl))
 (pdss_nil (own:=[])))
 pdss_nil)
 (pdss_cons (own2:=[]) (pds_set0 (pasg_set c_nd rfl (Or.inr rfl) (pd_cal (c_marked_ties.mono) trivial hr rfl (pda_cons (pd_var 0 (pv 0)) pda_nil) (dCons_len dNil_len))))
 (pdss_cons (own2:=[]) (pds_ret (PD.weak (pd_callB (call_allD rfl) rfl T.b_all TF.boot_all (pda_cons (pd_compS rfl (⟨rfl,rfl,by decide +kernel,rfl,by decide +kernel,rfl,by decide +kernel,by decide +kernel⟩:BlkS _ ["web","thing","ties"] (defScope s_is_knot).names ["pair","ties"] [none,some 2] _) (pdi_list (pd_cal (c_pairs_of.mono) trivial hr rfl (pda_cons (pd_var 1 (pv 1)) pda_nil) (dCons_len dNil_len))) (fun _ _ _ _ _ _=>(pdg_name (show (["pair","ties"]:List Str).Nodup by decide +kernel) rfl (Or.inl rfl) rfl)) (fun _ _ _ _ _ _=>pifs0) (fun _ _ _ _ _ _=>(pd_cmp (opd_in hr.units) (pd_var 0 (pv 0)) (pd_var 1 (pv 1))))) pda_nil))))
 (pdss_nil (own:=[]))))))
theorem sc__law_tweb:FnScope ["pen","limit","n","way","by","ties","a","b","good"] ["pen","limit"] (defScope s__law_tweb):=⟨rfl,rfl,rfl,by decide +kernel,rfl,by decide +kernel,by decide +kernel⟩
theorem ok__law_tweb (F:Fun K "_law_tweb" "_law_tweb" s__law_tweb a_f fd_f) (T:Txt mg) {L:List (Addr×Str)} (lo:LOk L) (c__law_tdraw:Cal P w K mg base 1 "_law_tdraw" 2 true (PenT PenD L) drawF) :
  FnOk P w K mg base CX0 2 a_f fd_f ["pen","limit"] (spD 2 true (PenT PenD L) F__law_tweb):=
 have c_nd:=sc__law_tweb.nd
 fnD (own:=[]) F sc__law_tweb fun cdv A outer s H E hr G hG=>
 have hT:TabsG L G:=PenT.tabs lo hG
 (pdss_cons (own2:=[]) (pds_set0 (pasg_set c_nd rfl (Or.inl rfl) (pd_cal (c__law_tdraw.mono) hG hr rfl (pda_cons (pd_var 0 (pv 0)) (pda_cons (pd_op opd_add (pd_var 1 (pv 1)) pd_int) pda_nil)) (dCons_len (dCons_len dNil_len)))))
 (pdss_cons (own2:=[]) (pds_set0 (pasg_set c_nd rfl (Or.inl rfl) (pd_cal (c__law_tdraw.mono) hG hr rfl (pda_cons (pd_var 0 (pv 0)) (pda_cons pd_int pda_nil)) (dCons_len (dCons_len dNil_len)))))
 (pdss_cons (own2:=[]) (pds_set0 (pasg_set c_nd rfl (Or.inl rfl) (pd_op opd_add pd_int (pd_cal (c__law_tdraw.mono) hG hr rfl (pda_cons (pd_var 0 (pv 0)) (pda_cons pd_int pda_nil)) (dCons_len (dCons_len dNil_len))))))
 (pdss_cons (own2:=[5]) (pds_own0 (pasg_set c_nd rfl (Or.inl rfl) (pd_lst pda_nil)))
 (pdss_cons (own2:=[5]) (pds_for (own:=[5]) PassesOwn.never rfl (pdij_range1 rfl T.b_range (pd_var 2 (pv 2))) (pdg_name c_nd rfl (Or.inl rfl) (by decide))
 (pdss_cons (own2:=[5]) (pds_for (own:=[5]) PassesOwn.never rfl (pdij_range2 rfl T.b_range (pd_op opd_add (pd_var 6 (pv 6)) pd_int) (pd_var 2 (pv 2))) (pdg_name c_nd rfl (Or.inl rfl) (by decide))
 (pdss_cons (own2:=[5]) (pds_setA (own:=[5]) (pasg_set c_nd rfl (Or.inl rfl) (pd_ix ixd (pd_lst (pda_cons pd_bl (pda_cons pd_bl (pda_cons (pd_cmp (opd_in hr.units) (pd_op opd_sub (pd_var 7 (pv 7)) (pd_var 6 (pv 6))) (pd_tup (pda_cons pd_int (pda_cons (pd_op opd_sub (pd_var 2 (pv 2)) pd_int) pda_nil)))) (pda_cons (pd_cmp (opd_ne hr.units) (pd_op opd_mod (pd_var 6 (pv 6)) (pd_var 4 (pv 4))) (pd_op opd_mod (pd_var 7 (pv 7)) (pd_var 4 (pv 4)))) pda_nil))))) (pd_callB (call_min2D rfl) rfl T.b_min TF.boot_min (pda_cons (pd_var 3 (pv 3)) (pda_cons pd_int pda_nil))))))
 (pdss_cons (own2:=[5]) (pds_if (own':=[5]) (pdt_cmp (opd_gt) (pd_var 3 (pv 3)) pd_int)
 (pdss_cons (own2:=[5]) (pds_setA (own:=[5]) (pasg_set c_nd rfl (Or.inl rfl) (pd_cmp (opd_lt hr.units0) (pd_cal (c__law_tdraw.mono) hG hr rfl (pda_cons (pd_var 0 (pv 0)) (pda_cons pd_int pda_nil)) (dCons_len (dCons_len dNil_len))) (pd_var 4 (pv 4)))))
 (pdss_nil (own:=[5])))
 pdss_nil)
 (pdss_cons (own2:=[5]) (pds_if (own':=[5]) (pdt_val (pd_var 8 (pv 8)))
 (pdss_cons (own2:=[5]) (pds_appA (own:=[5]) (i:=5) (by decide) (pd_tup (pda_cons (pd_var 6 (pv 6)) (pda_cons (pd_var 7 (pv 7)) pda_nil))) (fun _ h=>ps_append (pv 5) h))
 (pdss_nil (own:=[5])))
 pdss_nil)
 (pdss_nil (own:=[5]))))))
 (pdss_nil (own:=[5]))))
 (pdss_cons (own2:=[5]) (pds_ret (pd_tup (pda_cons (pd_var 2 (pv 2)) (pda_cons (pd_callTy (call_tupleDD) rfl T.b_tuple TF.boot_tuple (pda_cons (pd_var 5 (pv 5)) pda_nil)) pda_nil))))
 (pdss_nil (own:=[5]))))))))
theorem sc__law_twebs:FnScope ["pen","many","limit","size","webs","left","k"] ["pen","many","limit"] (defScope s__law_twebs):=⟨rfl,rfl,rfl,by decide +kernel,rfl,by decide +kernel,by decide +kernel⟩
theorem ok__law_twebs (F:Fun K "_law_twebs" "_law_twebs" s__law_twebs a_f fd_f) (T:Txt mg) {L:List (Addr×Str)} (lo:LOk L) (c__law_tdraw:Cal P w K mg base 1 "_law_tdraw" 2 true (PenT PenD L) drawF) (c__law_tweb:Cal P w K mg base 2 "_law_tweb" 2 true (PenT PenD L) F__law_tweb) :
  FnOk P w K mg base CX0 3 a_f fd_f ["pen","many","limit"] (spD 3 true (PenT PenD L) F__law_twebs):=
 have c_nd:=sc__law_twebs.nd
 fnD (own:=[]) F sc__law_twebs fun cdv A outer s H E hr G hG=>
 have hT:TabsG L G:=PenT.tabs lo hG
 (pdss_cons (own2:=[]) (pds_set0 (pasg_set c_nd rfl (Or.inl rfl) (pd_ix ixd (pd_lst (pda_cons pd_int (pda_cons pd_int (pda_cons pd_int (pda_cons pd_int (pda_cons pd_int pda_nil)))))) (pd_cal (c__law_tdraw.mono) hG hr rfl (pda_cons (pd_var 0 (pv 0)) (pda_cons pd_int pda_nil)) (dCons_len (dCons_len dNil_len))))))
 (pdss_cons (own2:=[4]) (pds_own0 (pasg_set c_nd rfl (Or.inl rfl) (pd_lst pda_nil)))
 (pdss_cons (own2:=[4]) (pds_setA (own:=[4]) (pasg_set c_nd rfl (Or.inl rfl) (pd_var 2 (pv 2))))
 (pdss_cons (own2:=[4]) (pds_for (own:=[4]) PassesOwn.never rfl (pdij_range1 rfl T.b_range (pd_var 1 (pv 1))) (pdg_name c_nd rfl (Or.inl rfl) (by decide))
 (pdss_cons (own2:=[4]) (pds_appS (own:=[4]) (i:=4) (by decide) (pv 4) (pd_cal (c__law_tweb.mono) hG hr rfl (pda_cons (pd_var 0 (pv 0)) (pda_cons (pd_callB (call_min2D rfl) rfl T.b_min TF.boot_min (pda_cons (pd_var 5 (pv 5)) (pda_cons (pd_var 3 (pv 3)) pda_nil))) pda_nil)) (dCons_len (dCons_len dNil_len))))
 (pdss_cons (own2:=[4]) (pds_setB (own:=[4]) (pasg_set c_nd rfl (Or.inl rfl) (pd_op opd_sub (pd_var 5 (pv 5)) (pd_ix ixd (pd_ix ixd (pd_var 4 (pv 4)) pd_neg) pd_int))))
 (pdss_nil (own:=[4])))))
 (pdss_cons (own2:=[4]) (pds_retOwn (i:=4) (by decide) (pv 4))
 (pdss_nil (own:=[4])))))))
noncomputable def g__law_tright:Rho→M Out:=(sSeq (sUnp (gPair 2 3) (dFn F_most (dCons (dVar 0) dNil)))
 (sSeq (sRet (vAnd (dOp dEqO (dVar 2) (dVar 1)) (vAnd (dOp dEqO (dCall dLen (dCons (dVar 3) dNil)) (dVar 1)) (dOp dIsB (dFn F_is_knot (dCons (dVar 0) (dCons (dVar 3) dNil))) (dC (.bl true))))))
 sNext))
noncomputable def F__law_tright:List D→M D:=runB 4 2 g__law_tright
theorem sc__law_tright:FnScope ["web","due","many","knot"] ["web","due"] (defScope s__law_tright):=⟨rfl,rfl,rfl,by decide +kernel,rfl,by decide +kernel,by decide +kernel⟩
theorem ok__law_tright (F:Fun K "_law_tright" "_law_tright" s__law_tright a_f fd_f) (T:Txt mg) {L:List (Addr×Str)} (lo:LOk L) (c_is_knot:Cal P w K mg base 3 "is_knot" 2 false AnyG F_is_knot) (c_most:Cal P w K mg base 55 "most" 1 true (TabsG L) F_most) :
  FnOk P w K mg base CX0 56 a_f fd_f ["web","due"] (spD 2 false (TabsG L) F__law_tright):=
 have c_nd:=sc__law_tright.nd
 fnD (own:=[]) F sc__law_tright fun cdv A outer s H E hr G hG=>
 have hT:TabsG L G:=hG
 (pdss_cons (own2:=[]) (pds_unp0 (pd_cal (c_most.mono) hT hr rfl (pda_cons (pd_var 0 (pv 0)) pda_nil) (dCons_len dNil_len)) (pdg_pair rfl c_nd rfl rfl (Or.inl rfl) (Or.inl rfl) (by decide) (by decide) (hp:=pgs_cons (pg_name c_nd rfl (Or.inl rfl)) (pgs_cons (pg_name c_nd rfl (Or.inl rfl)) pgs_nil))))
 (pdss_cons (own2:=[]) (pds_ret (pd_and (pd_cmp (opd_eq hr.units) (pd_var 2 (pv 2)) (pd_var 1 (pv 1))) (pd_and (pd_cmp (opd_eq hr.units) (pd_callB (call_lenDD) rfl T.b_len TF.boot_len (pda_cons (pd_var 3 (pv 3)) pda_nil)) (pd_var 1 (pv 1))) (pd_one (pd_cmp (opd_isB) (pd_cal (c_is_knot.mono) trivial hr rfl (pda_cons (pd_var 0 (pv 0)) (pda_cons (pd_var 3 (pv 3)) pda_nil)) (dCons_len (dCons_len dNil_len))) pd_bl)))))
 (pdss_nil (own:=[]))))
noncomputable def g_law:Rho→M Out:=(sSeq (sFor (iRange1 (dC (.int 2))) (gOne 2)
 (sSeq (sSet 3 (dFn F__law_twebs (dCons (dVar 1) (dCons (dFn drawF (dCons (dVar 1) (dCons (dC (.int 6)) dNil))) (dCons (dC (.int 24)) dNil)))))
 (sSeq (sSet 4 (dComp [none] (iSeqL (dVar 3)) (gOne 0) bTrue (dOp dIx (dFn F_most (dCons (dVar 0) dNil)) (dC (.int 0)))))
 (sSeq (sIf (bOr (bNot (asB (dFn F__law_tright (dCons (dFn F_beside (dCons (dVar 3) dNil)) (dCons (dCall dMaxL (dCons (dOp dAdd (dVar 4) (dLst (dCons (dC (.int 0)) dNil))) dNil)) dNil))))) (bNot (asB (dFn F__law_tright (dCons (dFn F_wholly_tied (dCons (dVar 3) dNil)) (dCons (dCall dSum (dCons (dVar 4) dNil)) dNil))))))
 (sSeq (sRet (dC (.bl false)))
 sNext)
 sNext)
 (sSeq (sSet 5 (dFn F__law_tweb (dCons (dVar 1) (dCons (dC (.int 6)) dNil))))
 (sSeq (sSet 3 (dFn F__law_twebs (dCons (dVar 1) (dCons (dOp dIx (dVar 5) (dC (.int 0))) (dCons (dC (.int 24)) dNil)))))
 (sSeq (sSet 6 (dComp [none,some 3] (iSeqL (dFn F_full_knots (dCons (dVar 5) dNil))) (gOne 0) bTrue (dCall dSum (dCons (dComp [none,some 1] (iSeqT (dVar 0)) (gOne 0) bTrue (dOp dIx (dFn F_most (dCons (dOp dIx (dVar 1) (dVar 0)) dNil)) (dC (.int 0)))) dNil))))
 (sSeq (sIf (bNot (asB (dFn F__law_tright (dCons (dFn F_put_in (dCons (dVar 5) (dCons (dVar 3) dNil))) (dCons (dCall dMaxL (dCons (dVar 6) dNil)) dNil)))))
 (sSeq (sRet (dC (.bl false)))
 sNext)
 sNext)
 (sSeq (sSet 7 (dFn F__law_tweb (dCons (dVar 1) (dCons (dOp dIx (dLst (dCons (dC (.int 1)) (dCons (dC (.int 4)) (dCons (dC (.int 8)) dNil)))) (dFn drawF (dCons (dVar 1) (dCons (dC (.int 3)) dNil)))) dNil))))
 (sSeq (sSet 8 (dFn F__law_tweb (dCons (dVar 1) (dCons (dOp dFdiv (dC (.int 24)) (dCall dMax2 (dCons (dC (.int 1)) (dCons (dOp dIx (dVar 7) (dC (.int 0))) dNil)))) dNil))))
 (sSeq (sIf (bNot (asB (dFn F__law_tright (dCons (dFn F_by_pairs (dCons (dVar 7) (dCons (dVar 8) dNil))) (dCons (dOp dMul (dOp dIx (dFn F_most (dCons (dVar 7) dNil)) (dC (.int 0))) (dOp dIx (dFn F_most (dCons (dVar 8) dNil)) (dC (.int 0)))) dNil)))))
 (sSeq (sRet (dC (.bl false)))
 sNext)
 sNext)
 sNext)))))))))))
 (sSeq (sRet (dC (.bl true)))
 sNext))
theorem sc_law:FnScope ["script","pen","turn","webs","sizes","web","sums","one","other"] ["script"] (defScope s_law):=⟨rfl,rfl,rfl,by decide +kernel,rfl,by decide +kernel,by decide +kernel⟩
theorem der_law {cdv:Value} {A:Around} {outer:List Env} {s:Shared} {H:Hp} {E:XK} {L:List (Addr×Str)} (lo:LOk L) (T:Txt mg) (hr:Room 56 (A.deeper (envOfC "law" (defScope s_law) s.heap.objs.size a_f cdv))) (c__law_tdraw:Cal P w K mg base 1 "_law_tdraw" 2 true (PenT PenD L) drawF) (c__law_tright:Cal P w K mg base 56 "_law_tright" 2 false (TabsG L) F__law_tright) (c__law_tweb:Cal P w K mg base 2 "_law_tweb" 2 true (PenT PenD L) F__law_tweb) (c__law_twebs:Cal P w K mg base 3 "_law_twebs" 3 true (PenT PenD L) F__law_twebs) (c_beside:Cal P w K mg base 7 "beside" 1 false (TabsG L) F_beside) (c_by_pairs:Cal P w K mg base 6 "by_pairs" 2 false (TabsG L) F_by_pairs) (c_full_knots:Cal P w K mg base 4 "full_knots" 1 true AnyG F_full_knots) (c_most:Cal P w K mg base 55 "most" 1 true (TabsG L) F_most) (c_put_in:Cal P w K mg base 6 "put_in" 2 false (TabsG L) F_put_in) (c_wholly_tied:Cal P w K mg base 7 "wholly_tied" 1 false (TabsG L) F_wholly_tied) (G:Gh) (hG:(PenT PenD L) G) :
  PDSs (cxOf CX0 P w K mg base ["script","pen","turn","webs","sizes","web","sums","one","other"] "law" (defScope s_law) a_f cdv A outer s H E).nox G [] [] [] false ((defBody s_law).drop 1) g_law:=
 have c_nd:=sc_law.nd
 have hT:TabsG L G:=PenT.tabs lo hG
 (pdss_cons (own2:=[]) (pds_for (own:=[]) PassesOwn.never rfl (pdij_range1 rfl T.b_range pd_int) (pdg_name c_nd rfl (Or.inl rfl) (by decide))
 (pdss_cons (own2:=[]) (pds_set0 (pasg_set c_nd rfl (Or.inr rfl) (pd_cal (c__law_twebs.mono) hG hr rfl (pda_cons (pd_var 1 (pv 1)) (pda_cons (pd_cal (c__law_tdraw.mono) hG hr rfl (pda_cons (pd_var 1 (pv 1)) (pda_cons pd_int pda_nil)) (dCons_len (dCons_len dNil_len))) (pda_cons pd_int pda_nil))) (dCons_len (dCons_len (dCons_len dNil_len))))))
 (pdss_cons (own2:=[]) (pds_set0 (pasg_compS c_nd rfl (Or.inl rfl) rfl (⟨rfl,rfl,by decide +kernel,rfl,by decide +kernel,rfl,by decide +kernel,by decide +kernel⟩:BlkS _ ["script","pen","turn","webs","sizes","web","sums","one","other"] (defScope s_law).names ["web"] [none] _) (pdi_list (pd_var 3 (pv 3))) (fun _ _ _ _ _ _=>(pdg_name (show (["web"]:List Str).Nodup by decide +kernel) rfl (Or.inl rfl) rfl)) (fun _ _ _ _ _ _=>pifs0) (fun _ _ _ _ _ _=>(pd_ix ixd (pd_cal (c_most.mono) hT hr rfl (pda_cons (pd_var 0 (pv 0)) pda_nil) (dCons_len dNil_len)) pd_int))))
 (pdss_cons (own2:=[]) (pds_if (own':=[]) (PDW.pt (pdw_or (pdt_not (pdt_val (pd_cal (c__law_tright.mono) hT hr rfl (pda_cons (pd_cal (c_beside.mono) hT hr rfl (pda_cons (pd_var 3 (pv 3)) pda_nil) (dCons_len dNil_len)) (pda_cons (pd_callB (call_maxLD rfl) rfl T.b_max TF.boot_max (pda_cons (pd_op opd_add (pd_var 4 (pv 4)) (pd_lst (pda_cons pd_int pda_nil))) pda_nil)) pda_nil)) (dCons_len (dCons_len dNil_len))))) (pdw_or1 (pdt_not (pdt_val (pd_cal (c__law_tright.mono) hT hr rfl (pda_cons (pd_cal (c_wholly_tied.mono) hT hr rfl (pda_cons (pd_var 3 (pv 3)) pda_nil) (dCons_len dNil_len)) (pda_cons (pd_callB (call_sumD rfl) rfl T.b_sum TF.boot_sum (pda_cons (pd_var 4 (pv 4)) pda_nil)) pda_nil)) (dCons_len (dCons_len dNil_len))))))))
 (pdss_cons (own2:=[]) (pds_ret (PD.weak pd_bl))
 (pdss_nil (own:=[])))
 pdss_nil)
 (pdss_cons (own2:=[]) (pds_set0 (pasg_set c_nd rfl (Or.inl rfl) (pd_cal (c__law_tweb.mono) hG hr rfl (pda_cons (pd_var 1 (pv 1)) (pda_cons pd_int pda_nil)) (dCons_len (dCons_len dNil_len)))))
 (pdss_cons (own2:=[]) (pds_set0 (pasg_set c_nd rfl (Or.inr rfl) (pd_cal (c__law_twebs.mono) hG hr rfl (pda_cons (pd_var 1 (pv 1)) (pda_cons (pd_ix ixd (pd_var 5 (pv 5)) pd_int) (pda_cons pd_int pda_nil))) (dCons_len (dCons_len (dCons_len dNil_len))))))
 (pdss_cons (own2:=[]) (pds_set0 (pasg_compS c_nd rfl (Or.inl rfl) rfl (⟨rfl,rfl,by decide +kernel,rfl,by decide +kernel,rfl,by decide +kernel,by decide +kernel⟩:BlkS _ ["script","pen","turn","webs","sizes","web","sums","one","other"] (defScope s_law).names ["knot","webs"] [none,some 3] _) (pdi_list (pd_cal (c_full_knots.mono) trivial hr rfl (pda_cons (pd_var 5 (pv 5)) pda_nil) (dCons_len dNil_len))) (fun _ _ _ _ _ _=>(pdg_name (show (["knot","webs"]:List Str).Nodup by decide +kernel) rfl (Or.inl rfl) rfl)) (fun _ _ _ _ _ _=>pifs0) (fun _ _ _ _ _ _=>(pd_callB (call_sumD rfl) rfl T.b_sum TF.boot_sum (pda_cons (pd_compS rfl (⟨rfl,rfl,by decide +kernel,rfl,by decide +kernel,rfl,by decide +kernel,by decide +kernel⟩:BlkS _ ["knot","webs"] [((PySem.Str.ofString ".0"),PySem.NameKind.local),((PySem.Str.ofString "knot"),PySem.NameKind.local),((PySem.Str.ofString "sum"),PySem.NameKind.globalImplicit),((PySem.Str.ofString "webs"),PySem.NameKind.cell)] ["place","webs"] [none,some 1] _) (pdi_tup (pd_var 0 (pv 0))) (fun _ _ _ _ _ _=>(pdg_name (show (["place","webs"]:List Str).Nodup by decide +kernel) rfl (Or.inl rfl) rfl)) (fun _ _ _ _ _ _=>pifs0) (fun _ _ _ _ _ _=>(pd_ix ixd (pd_cal (c_most.mono) hT hr rfl (pda_cons (pd_ix ixd (pd_var 1 (pv 1)) (pd_var 0 (pv 0))) pda_nil) (dCons_len dNil_len)) pd_int))) pda_nil)))))
 (pdss_cons (own2:=[]) (pds_if (own':=[]) (pdt_not (pdt_val (pd_cal (c__law_tright.mono) hT hr rfl (pda_cons (pd_cal (c_put_in.mono) hT hr rfl (pda_cons (pd_var 5 (pv 5)) (pda_cons (pd_var 3 (pv 3)) pda_nil)) (dCons_len (dCons_len dNil_len))) (pda_cons (pd_callB (call_maxLD rfl) rfl T.b_max TF.boot_max (pda_cons (pd_var 6 (pv 6)) pda_nil)) pda_nil)) (dCons_len (dCons_len dNil_len)))))
 (pdss_cons (own2:=[]) (pds_ret (PD.weak pd_bl))
 (pdss_nil (own:=[])))
 pdss_nil)
 (pdss_cons (own2:=[]) (pds_set0 (pasg_set c_nd rfl (Or.inl rfl) (pd_cal (c__law_tweb.mono) hG hr rfl (pda_cons (pd_var 1 (pv 1)) (pda_cons (pd_ix ixd (pd_lst (pda_cons pd_int (pda_cons pd_int (pda_cons pd_int pda_nil)))) (pd_cal (c__law_tdraw.mono) hG hr rfl (pda_cons (pd_var 1 (pv 1)) (pda_cons pd_int pda_nil)) (dCons_len (dCons_len dNil_len)))) pda_nil)) (dCons_len (dCons_len dNil_len)))))
 (pdss_cons (own2:=[]) (pds_set0 (pasg_set c_nd rfl (Or.inl rfl) (pd_cal (c__law_tweb.mono) hG hr rfl (pda_cons (pd_var 1 (pv 1)) (pda_cons (pd_op opd_fdiv pd_int (pd_callB (call_max2D rfl) rfl T.b_max TF.boot_max (pda_cons pd_int (pda_cons (pd_ix ixd (pd_var 7 (pv 7)) pd_int) pda_nil)))) pda_nil)) (dCons_len (dCons_len dNil_len)))))
 (pdss_cons (own2:=[]) (pds_if (own':=[]) (pdt_not (pdt_val (pd_cal (c__law_tright.mono) hT hr rfl (pda_cons (pd_cal (c_by_pairs.mono) hT hr rfl (pda_cons (pd_var 7 (pv 7)) (pda_cons (pd_var 8 (pv 8)) pda_nil)) (dCons_len (dCons_len dNil_len))) (pda_cons (pd_op opd_mul (pd_ix ixd (pd_cal (c_most.mono) hT hr rfl (pda_cons (pd_var 7 (pv 7)) pda_nil) (dCons_len dNil_len)) pd_int) (pd_ix ixd (pd_cal (c_most.mono) hT hr rfl (pda_cons (pd_var 8 (pv 8)) pda_nil) (dCons_len dNil_len)) pd_int)) pda_nil)) (dCons_len (dCons_len dNil_len)))))
 (pdss_cons (own2:=[]) (pds_ret (PD.weak pd_bl))
 (pdss_nil (own:=[])))
 pdss_nil)
 (pdss_nil (own:=[])))))))))))))
 (pdss_cons (own2:=[]) (pds_ret (PD.weak pd_bl))
 (pdss_nil (own:=[]))))
end K63
namespace K63
open PySem.Spec PyProof.Rows
open PySem L2 TF TQ
open TP
open TP2 hiding g_all_near F_all_near
open TP3 hiding g_full_knots F_full_knots
theorem sc__law_tdraw:FnScope ["pen","many","found","one","two"] ["pen","many"] (defScope s__law_tdraw):=⟨rfl,rfl,rfl,by decide +kernel,rfl,by decide +kernel,by decide +kernel⟩
set_option maxHeartbeats 4000000 in
theorem ok__law_tdraw {P:Program} {w:World} {K:PySem.W.Frag} {mg:Str→Option Value} {base:Heap} {a_f:Addr} {fd_f:FuncData} (F:Fun K "_law_tdraw" "_law_tdraw" s__law_tdraw a_f fd_f) (T:Txt mg) :
  FnOk P w K mg base CX0 1 a_f fd_f ["pen","many"] (spD 2 true PenD drawF):=by
 have nd:=sc__law_tdraw.nd
 refine F.ok sc__law_tdraw (fun vs H Q E h=>?_) fun cdv A outer s0 H vs Q E hr h=>?_
 ·obtain ⟨G,Hf,ds,pn,d,pn',_,e,_⟩:=h
  exact e
 ·obtain ⟨p,m,rfl,hs⟩:=draw_spec (K:=K) (N:=fun _ H'=>Q .non H') h
  have hu:=L2.hu_of hr
  refine ⟨_,pss_cons (ps_if (PW.pt (pw_and (pt_cmpR op_gt (pe_callB call_len_seq rfl T.b_len TF.boot_len (pa_cons (pe_dget hu (pv 0) pe_str (fun _ _=>rfl)) pa_nil)) pe_int (nomark _)) (pw_and1 (pt_cmpR op_lt (pe_ix ix_list (pe_dget hu (pv 0) pe_str (fun _ _=>rfl)) pe_int (fun _ _=>rfl)) (pv 1) (nomark _)))))
    (pss_one (ps_expr (pe_bm PySem.F.plainAttrs_list PySem.F.slot_list_pop PySem.F.type_list_pop mt_popAt (pe_dget hu (pv 0) pe_str (fun _ _=>rfl)) (pa_cons pe_int pa_nil)))) pss_nil)
   (pss_cons (ps_if (pt_cmpR op_gt (pe_callB call_len_seq rfl T.b_len TF.boot_len (pa_cons (pe_dget hu (pv 0) pe_str (fun _ _=>rfl)) pa_nil)) pe_int (nomark _))
    (pss_cons (ps_set (i:=2) nd rfl (Or.inl rfl) (pe_op op_mod (pe_ix ix_list (pe_dget hu (pv 0) pe_str (fun _ _=>rfl)) pe_int (fun _ _=>rfl)) (pv 1)))
    (pss_cons (ps_asg (pe_op op_fdiv (pe_ix ix_list (pe_dget hu (pv 0) pe_str (fun _ _=>rfl)) pe_int (fun _ _=>rfl)) (pv 1)) (pg_sub (pe_dget hu (pv 0) pe_str (fun _ _=>rfl)) pe_int set_list))
    (pss_one (ps_ret (pv 2))))) pss_nil)
   (pss_cons (ps_dput hu (pv 0) pe_str (pe_op op_add (pe_dget hu (pv 0) pe_str (fun _ _=>rfl)) pe_int) rfl)
   (pss_cons (ps_set (i:=3) nd rfl (Or.inl rfl) (pe_op op_mod (pe_op op_add (pe_dget hu (pv 0) pe_str (fun _ _=>rfl)) (pe_op op_mul (pe_op op_mul pe_int (pe_dget hu (pv 0) pe_str (fun _ _=>rfl))) (pe_dget hu (pv 0) pe_str (fun _ _=>rfl)))) pe_int))
   (pss_cons (ps_set (i:=4) nd rfl (Or.inl rfl) (pe_op op_mod (pe_op op_add (pe_op op_add (pe_op op_mul (pv 3) (pv 3)) (pe_op op_mul pe_int (pe_dget hu (pv 0) pe_str (fun _ _=>rfl)))) pe_int) pe_int))
   (pss_one (ps_ret (pe_op op_mod (pe_op op_fdiv (pe_op op_mod (pe_op op_add (pe_op op_mul (pv 4) (pv 4)) (pv 3)) pe_int) pe_int) (pv 1)))))))),hs⟩
theorem sc__law_tpen:FnScope ["script","mixed","cell"] ["script"] (defScope s__law_tpen):=⟨rfl,rfl,rfl,by decide +kernel,rfl,by decide +kernel,by decide +kernel⟩
set_option maxHeartbeats 4000000 in
theorem ok__law_tpen {P:Program} {w:World} {K:PySem.W.Frag} {mg:Str→Option Value} {base:Heap} {a_f:Addr} {fd_f:FuncData} (F:Fun K "_law_tpen" "_law_tpen" s__law_tpen a_f fd_f) (T:Txt mg) :
  FnOk P w K mg base CX0 1 a_f fd_f ["script"] (spPen K):=by
 have nd:=sc__law_tpen.nd
 refine F.ok sc__law_tpen (fun vs H Q E h=>?_) fun cdv A outer s0 H vs Q E hr h=>?_
 ·obtain ⟨a,ns,rfl,_⟩:=h
  rfl
 ·obtain ⟨a,ns,rfl,hsq⟩:=id h
  refine ⟨_,pss_cons (ps_set (i:=1) nd rfl (Or.inl rfl) pe_int)
   (pss_cons (ps_for PassesOwn.never rfl (pi_list (pv 0)) (pg_name (i:=2) nd rfl (Or.inl rfl)) (pss_one (ps_set (i:=1) nd rfl (Or.inl rfl) (pe_op op_mod (pe_op op_add (pe_op op_add (pe_op op_mul (pv 1) pe_int) (pe_op op_mod (pv 2) pe_int)) pe_int) pe_int))))
   (pss_one (ps_ret (pe_disp (pps_cons pe_str (pv 1) (pps_cons pe_str pe_int (pps_cons pe_str
    (pe_compS (N':=["cell"]) (src:=[none]) rfl (⟨rfl,rfl,by decide +kernel,rfl,by decide +kernel,rfl,by decide +kernel,by decide +kernel⟩:BlkS _ ["script","mixed","cell"] (defScope s__law_tpen).names ["cell"] [none] _) (pi_list (pv 0)) (fun _ _ _ _ _ _=>pg_name (i:=0) (show (["cell"]:List Str).Nodup by decide +kernel) rfl (Or.inl rfl)) (fun _ _ _ _ _ _=>pifs_one (pt_cmpR op_ge (pv 0) (pe_op op_pow pe_int pe_int) (nomark _))) (fun _ _ _ _ _ _=>pv 0)) pps_nil))) rfl rfl (by simp) (by decide))))),pen_sem hsq.1 hsq.2.1 hsq.2.2⟩
end K63
namespace TP2
open PySem L2 TF TP
theorem good_ok (n way by' i j:Nat) (hb:0<by') (hway:way<9) (ρ0 ρ1:D) (t:Option D) (o8:Option D) (s:Pn):∃b,(dOp dIx (dLst (dCons (dC (.bl false)) (dCons (dC (.bl true)) (dCons (dOp dIn (dOp dSub (dVar 7) (dVar 6)) (dTup (dCons (dC (.int 1)) (dCons (dOp dSub (dVar 2) (dC (.int 1))) dNil)))) (dCons (dOp dNeO (dOp dMod (dVar 6) (dVar 4)) (dOp dMod (dVar 7) (dVar 4))) dNil))))) (dCall dMin2 (dCons (dVar 3) (dCons (dC (.int 3)) dNil)))) [some ρ0,some ρ1,some (.int (n:Int)),some (.int (way:Int)),some (.int (by':Int)),t,some (.int (i:Int)),some (.int (j:Int)),o8] s=some (.bl b,s):=by
 have e3:∃b,dIn (.int ((j:Int)-i)) (.tup [.int 1,.int ((n:Int)-1)])=some (.bl b):=by
  refine ⟨inD (.int ((j:Int)-i)) [.int 1,.int ((n:Int)-1)],?_⟩
  have h:okIn (.int ((j:Int)-i)) [.int 1,.int ((n:Int)-1)]=true:=by simp [okIn,plainD,plainDs,dep,deps]
  simp only [dIn,dInB,h,if_true,Option.map]
 obtain ⟨b3,e3⟩:=e3
 have hm:∀z:Int,dMod (.int z) (.int (by':Int))=some (.int (z % by')):=fun z=>by
  show (if (decide (0<(by':Int)))=true then _ else _)=_
  rw [if_pos (by rw [decide_eq_true_eq];omega)]
 have hl:TF.LT (fun d=>∃b,d=.bl b) 4 (.lst [.bl false,.bl true,.bl b3,.bl (!((i:Int) % by'==(j:Int) % by'))]):=.cons ⟨_,rfl⟩ (.cons ⟨_,rfl⟩ (.cons ⟨_,rfl⟩ (.cons ⟨_,rfl⟩ (LT.nil _))))
 obtain ⟨x,ex,b,rfl⟩:=hl.pick (r:=min way 3) (by omega)
 refine ⟨b,op_eq' (lst_eq (cons_eq rfl (cons_eq rfl (cons_eq (op_eq' (d:=.int ((j:Int)-i)) (e:=.tup [.int 1,.int ((n:Int)-1)]) (op_eq' (d:=.int (j:Int)) (e:=.int (i:Int)) rfl rfl rfl) (tup2_eq rfl (op_eq' (d:=.int (n:Int)) (e:=.int 1) rfl rfl rfl)) e3) (cons_eq (op_eq' (op_eq' (d:=.int (i:Int)) (e:=.int (by':Int)) rfl rfl (hm _)) (op_eq' (d:=.int (j:Int)) (e:=.int (by':Int)) rfl rfl (hm _)) (nei _ _)) rfl)))) (by show 4≤sizeLine;decide)) (call_eq (c:=.int ((min way 3:Nat):Int)) (cons_eq rfl (cons_eq rfl rfl)) ?_) ex⟩
 show some (D.int (if (3:Int)<(way:Int) then 3 else (way:Int)))=_
 congr 2
 split <;> omega
set_option maxHeartbeats 1000000 in
theorem tweb_ok {T:Nat} {s:Pn} (ok:okD T s) (hT:T<900000000) (most:Nat) (hm:most≤24):Ok (F__law_tweb [.pen,.int (most:Int)]) s fun d s'=>okD (T+1000) s'∧∃n ties,d=webD n ties∧n≤most∧IsWeb n ties:=by
 refine Ok.runB rfl ?_
 refine Ok.seq (.sset (.drawD (m:=most+1) ok (by omega) (cons_eq rfl (cons_eq (op_eq' (d:=.int (most:Int)) (e:=.int 1) rfl rfl rfl) rfl)) (by omega) (by omega) fun n s1 hn ok1=>?_))
 refine Ok.seq (.sset (.drawD (m:=9) ok1 (by omega) (cons_eq rfl (cons_eq rfl rfl)) (by omega) (by omega) fun way s2 hw ok2=>?_))
 refine Ok.seq (.sset (.op (.eq (a:=.int 1) rfl (.drawD (m:=5) ok2 (by omega) (cons_eq rfl (cons_eq rfl rfl)) (by omega) (by omega) fun r s3 hr ok3=>⟨.int ((1+r:Nat):Int),by simp [dAdd],?_⟩))))
 generalize hby:1+r=by'
 refine Ok.seq (.sown (.eq (a:=.lst []) rfl ⟨rfl,?_⟩))
 refine Ok.seq (.sfor (fun i ρ s'=>okD (T+3+i*24) s'∧∃(ties:List (Nat×Nat)) (o6 o7 o8:Option D),ties.Sublist (preP n i)∧ρ=[some .pen,some (.int (most:Int)),some (.int (n:Int)),some (.int (way:Int)),some (.int (by':Int)),some (.lst (ties.map pairD)),o6,o7,o8]) (.eq (ev_range1 rfl (by omega)) ⟨⟨ok3.mono (by omega),[],none,none,none,List.nil_sublist _,rfl⟩,fun i d ρ s' hd hI=>?_,fun ρ' s' hI=>?_⟩))
 ·obtain ⟨ok5,ties,o6,o7,o8,hsub,rfl⟩:=hI
  obtain ⟨hi,rfl⟩:=dRange_get0 hd
  refine ⟨_,rfl,?_⟩
  refine Ok.seq (.sfor (fun j ρ s'=>okD (T+3+i*24+j) s'∧∃(ties:List (Nat×Nat)) (o7 o8:Option D),ties.Sublist (preP n i++(List.range j).map fun k=>(i,i+1+k))∧ρ=[some .pen,some (.int (most:Int)),some (.int (n:Int)),some (.int (way:Int)),some (.int (by':Int)),some (.lst (ties.map pairD)),some (.int (i:Int)),o7,o8]) (.eq (ev_range2 (a:=i+1) (n:=n) (op_eq' (d:=.int (i:Int)) (e:=.int 1) (c:=.int ((i+1:Nat):Int)) rfl rfl (by simp [dAdd])) rfl (by omega) (by omega)) ⟨⟨ok5,ties,o7,o8,by simpa using hsub,rfl⟩,fun j d ρ s' hd hJ=>?_,fun ρ' s' hJ=>?_⟩))
  ·obtain ⟨ok6,ties,o7,o8,hsub,rfl⟩:=hJ
   obtain ⟨hj,rfl⟩:=dRange_get hd
   refine ⟨_,rfl,?_⟩
   have fin:∀b s7,okD (T+3+i*24+j+1) s7→Ok (sSeq (sIf (asB (dVar 8)) (sSeq (sApp 5 (fun ρ=>(dTup (dCons (dVar 6) (dCons (dVar 7) dNil))) (hide [5] ρ))) sNext) sNext) sNext [some .pen,some (.int (most:Int)),some (.int (n:Int)),some (.int (way:Int)),some (.int (by':Int)),some (.lst (ties.map pairD)),some (.int (i:Int)),some (.int ((i+1+j:Nat):Int)),some (.bl b)]) s7
     fun o s'=>∃ρ',o=.nx ρ'∧okD (T+3+i*24+(j+1)) s'∧∃(ties:List (Nat×Nat)) (o7 o8:Option D),ties.Sublist (preP n i++(List.range (j+1)).map fun k=>(i,i+1+k))∧ρ'=[some .pen,some (.int (most:Int)),some (.int (n:Int)),some (.int (way:Int)),some (.int (by':Int)),some (.lst (ties.map pairD)),some (.int (i:Int)),o7,o8]:=by
    intro b s7 ok7
    refine Ok.seq (.sif (.eq (asB_eq rfl) ?_))
    cases b with
    | true=>
     refine .seq (.sapp (ds:=ties.map pairD) rfl (sub_len hsub (by omega) hi (by omega)) (.eq (tup_eq (cons_eq rfl (cons_eq rfl rfl)) two_le) ?_))
     refine .next (.next ⟨_,rfl,ok7,ties ++ [(i,i+1+j)],some (.int ((i+1+j:Nat):Int)),some (.bl true),?_,?_⟩)
     ·rw [List.range_succ,List.map_append,←List.append_assoc]
      exact List.Sublist.append hsub (List.Sublist.refl _)
     ·rw [List.map_append];rfl
    | false=>
     refine .next (.next ⟨_,rfl,ok7,ties,some (.int ((i+1+j:Nat):Int)),some (.bl false),?_,rfl⟩)
     rw [List.range_succ,List.map_append,←List.append_assoc]
     exact hsub.trans (List.sublist_append_left _ _)
   obtain ⟨b,eb⟩:=good_ok n way by' i (i+1+j) (by omega) hw .pen (.int (most:Int)) none o8 s'
   refine Ok.seq (.sset (.eq eb ?_))
   refine Ok.seq (.sif (.eq (asB_eq (op_eq' (d:=.int (way:Int)) (e:=.int 3) rfl rfl rfl)) ?_))
   by_cases h3:(3:Int)<(way:Int)
   ·rw [if_pos (decide_eq_true h3)]
    have hjn:i*24≤24*24:=Nat.mul_le_mul_right 24 (by omega)
    refine .seq (.sset (.op (.drawD (m:=6) ok6 (by omega) (cons_eq rfl (cons_eq rfl rfl)) (by omega) (by omega) fun v s7 hv ok7=>.eq (a:=.int (by':Int)) rfl ⟨_,rfl,?_⟩)))
    exact .next (fin _ s7 ok7)
   ·rw [if_neg (by simp;omega)]
    exact .next (fin b s' (ok6.mono (by omega)))
  ·obtain ⟨ok6,ties,o7',o8',hsub,rfl⟩:=hJ
   rw [dRange_len] at hsub ok6
   refine Ok.next ⟨_,rfl,ok6.mono (by rw [Nat.add_mul];omega),ties,some (.int (i:Int)),o7',o8',?_,rfl⟩
   rw [preP_succ]
   exact hsub
 ·obtain ⟨ok5,ties,o6,o7,o8,hsub,rfl⟩:=hI
  rw [dRange_len] at hsub ok5
  have hjn:n*24≤24*24:=Nat.mul_le_mul_right 24 (by omega)
  exact Ok.seq (.sret (.eq (tup_eq (cons_eq rfl (cons_eq (call_eq (cons_eq rfl rfl) rfl) rfl)) two_le) ⟨ok5.mono (by omega),n,ties,rfl,by omega,hsub⟩))
end TP2
namespace TP2
open PySem L2 TF TP
noncomputable abbrev nD (i:Nat):D:=.int (i:Int)
noncomputable def tupN (k:List Nat):D:=.tup (k.map nD)
noncomputable def okK (ties:List (Nat×Nat)) (i:Nat) (k:List Nat):Bool:=k.all fun o=>decide ((o,i)∈ties)
noncomputable def kn (ties:List (Nat×Nat)):Nat→List (List Nat)
 | 0=>[[]]
 | i+1=>kn ties i++((kn ties i).filter (okK ties i)).map (· ++ [i])
theorem kn_mem {ties:List (Nat×Nat)}:∀{i:Nat} {k:List Nat},k∈kn ties i→(∀o∈k,o<i)∧k.length≤i
 | 0,k,h=>by
  have:k=[]:=by simpa [kn] using h
  subst this
  simp
 | i+1,k,h=>by
  rw [kn] at h
  rcases List.mem_append.mp h with h | h
  ·have:=kn_mem h
   exact ⟨fun o ho=>Nat.lt_succ_of_lt (this.1 o ho),by omega⟩
  ·obtain ⟨q,hq,rfl⟩:=List.mem_map.mp h
   have:=kn_mem (List.mem_filter.mp hq).1
   refine ⟨fun o ho=>?_,by simp;omega⟩
   rcases List.mem_append.mp ho with ho | ho
   ·exact Nat.lt_succ_of_lt (this.1 o ho)
   ·rw [List.mem_singleton.mp ho];omega
theorem kn_len (ties:List (Nat×Nat)):∀i,(kn ties i).length≤2 ^ i
 | 0=>by simp [kn]
 | i+1=>by
  have h:=kn_len ties i
  have h2:=List.length_filter_le (okK ties i) (kn ties i)
  rw [kn,List.length_append,List.length_map,Nat.pow_succ]
  omega
theorem dIn_kv (p:Nat×Nat) (ties:List (Nat×Nat)):dIn (pairD p) (.dt (kvT [] ties))=some (.bl (decide (p∈ties))):=by
 have e:dInB (pairD p) (.dt (kvT [] ties))=some (decide (p∈ties)):=by
  show (keysOf [.int (p.1:Int),.int (p.2:Int)]).map (fun k=>(valV (kvT [] ties) k).isSome)=_
  show some ((valV (kvT [] ties) (keyP p)).isSome)=_
  rw [kvT_look]
  simp [valV]
 unfold dIn
 rw [e];rfl
theorem all_bools {α:Type} (l:List α) (p:α→Bool):dAll [.lst (l.map fun x=>D.bl (p x))]=some (.bl (l.all p)):=by
 show (boolsOf _).map _=_
 rw [show l.map (fun x=>D.bl (p x))=(l.map p).map D.bl by rw [List.map_map];rfl,boolsOf_map]
 show some (D.bl _)=some (D.bl _)
 rw [List.all_map];rfl
theorem tup_add (k:List Nat) (i:Nat) (h:k.length≤1000):dAdd (tupN k) (.tup [nD i])=some (tupN (k ++ [i])):=by
 unfold tupN
 show (if (k.map nD).length + [nD i].length≤sizeLine then some (D.tup (k.map nD ++ [nD i])) else none)=_
 rw [if_pos (by rw [List.length_map,sizeLine_v];simp;omega),List.map_append]
 rfl
noncomputable def nearL (n:Nat) (ties:List (Nat×Nat)) (p:Nat):List Nat:=(List.range n).filter fun o=>tied ties p o
noncomputable def nearsD (n:Nat) (ties:List (Nat×Nat)):D:=.lst ((List.range n).map fun p=>.lst ((nearL n ties p).map nD))
theorem all_near_eq (n:Nat) (ties:List (Nat×Nat)) (hn:n≤100000) (s:Pn):F_all_near [webD n ties] s=some (nearsD n ties,s):=by
 refine runB_eq rfl (sSeq_rt (sRet_eq ?_))
 have hc:=ev_comp (src:=[none,some 0]) (fi:=iRange1 (dOp dIx (dVar 0) (dC (.int 0)))) (τ:=gOne 0) (ft:=bTrue) (fe:=dFn F_near (dCons (dVar 1) (dCons (dVar 0) dNil))) (ρ:=[some (webD n ties)]) (s:=s) (ds:=dRange 0 n) (fun d=>[some d,some (webD n ties)]) (fun _=>true) (fun d=>.lst ((nearL n ties (nat0 d)).map nD)) (ev_range1 (op_eq' (d:=webD n ties) (e:=.int 0) rfl rfl web0) hn) (rng_len hn) fun d hd=>by
  obtain ⟨i,hi,rfl⟩:=dRange_mem hd
  exact ⟨rfl,rfl,fun _=>fn_eq (cons_eq rfl (cons_eq rfl rfl)) (near_eq n ties i s hn)⟩
 rw [filter_tt,dRange0,List.map_map] at hc
 exact hc
theorem dEq_nD (a b:Nat):dEq (nD a) (nD b)=decide (a=b):=by
 show ((a:Int)==(b:Int))=_
 rw [Bool.eq_iff_iff,beq_iff_eq,decide_eq_true_eq]
 constructor <;> intro h <;> omega
theorem inD_nats (o:Nat) (l:List Nat):inD (nD o) (l.map nD)=decide (o∈l):=by
 unfold inD
 induction l with
 | nil=>simp
 | cons t ts ih=>
  rw [List.map_cons,List.any_cons,ih,dEq_nD]
  by_cases h:t=o
  ·subst h;simp
  ·have:¬o=t:=fun z=>h z.symm
   simp [h,this]
theorem plain_nats (l:List Nat):plainDs (l.map nD)=true:=by
 induction l with
 | nil=>simp [plainDs]
 | cons a l ih=>simp [plainDs,plainD,ih]
theorem deps_nD (l:List Nat):deps (l.map nD)=0:=by
 induction l with
 | nil=>simp [deps]
 | cons a l ih=>simp [deps,dep,ih]
theorem dIn_nats (o:Nat) (l:List Nat):dIn (nD o) (.lst (l.map nD))=some (.bl (decide (o∈l))):=by
 have h:okIn (nD o) (l.map nD)=true:=by simp [okIn,plainD,plain_nats,dep,deps_nD]
 simp only [dIn,dInB,h,if_true,Option.map,inD_nats]
noncomputable def okN (n:Nat) (ties:List (Nat×Nat)) (i:Nat) (k:List Nat):Bool:=k.all fun o=>decide (o∈nearL n ties i)
theorem near_all_eq (n:Nat) (ties:List (Nat×Nat)) (i:Nat) (hi:i<n) (k:List Nat) (hk:k.length≤1000) (s:Pn):F_is_near_all [nearsD n ties,nD i,tupN k] s=some (.bl (okN n ties i k),s):=by
 refine runB_eq rfl (sSeq_rt (sRet_eq ?_))
 have hx:dIx (nearsD n ties) (nD i)=some (.lst ((nearL n ties i).map nD)):=by
  refine atI_nat ?_
  rw [List.getElem?_map,List.getElem?_range hi]
  rfl
 have hc:=ev_comp (src:=[none,some 0,some 1]) (fi:=iSeqT (dVar 2)) (τ:=gOne 0) (ft:=bTrue) (fe:=dOp dIn (dVar 0) (dOp dIx (dVar 1) (dVar 2))) (ρ:=[some (nearsD n ties),some (nD i),some (tupN k)]) (s:=s) (ds:=k.map nD) (fun d=>[some d,some (nearsD n ties),some (nD i)]) (fun _=>true) (fun d=>.bl (decide (nat0 d∈nearL n ties i))) (seqT_eq rfl) (by rw [List.length_map,sizeLine_v];omega) (fun d hd=>by
  obtain ⟨o,ho,rfl⟩:=List.mem_map.mp hd
  exact ⟨rfl,rfl,fun _=>op_eq' (d:=nD o) rfl (op_eq' (d:=nearsD n ties) (e:=nD i) rfl rfl hx) (dIn_nats o _)⟩)
 rw [filter_tt,List.map_map] at hc
 exact call_eq (cons_eq hc rfl) (all_bools k fun o=>decide (o∈nearL n ties i))
theorem okN_okK {n i:Nat} {ties:List (Nat×Nat)} {k:List Nat} (hi:i<n) (hk:∀o∈k,o<i):okN n ties i k=okK ties i k:=by
 unfold okN okK
 rw [Bool.eq_iff_iff,List.all_eq_true,List.all_eq_true]
 have e:∀o∈k,(decide (o∈nearL n ties i)=true↔decide ((o,i)∈ties)=true):=fun o ho=>by
  have h1:=hk o ho
  unfold nearL
  rw [decide_eq_true_eq,List.mem_filter,List.mem_range,tied_comm,tied_lt h1,decide_eq_true_eq]
  exact ⟨fun h=>h.2,fun h=>⟨by omega,h⟩⟩
 exact ⟨fun h o ho=>(e o ho).mp (h o ho),fun h o ho=>(e o ho).mpr (h o ho)⟩
theorem all_knots_eq (n:Nat) (ties:List (Nat×Nat)) (hn:n≤20) (s:Pn):F_all_knots [nearsD n ties] s=some (.lst ((kn ties n).map tupN),s):=by
 have p20:∀i,i≤20→2 ^ i≤1048576:=fun i hi=>Nat.pow_le_pow_right (by omega) hi
 have hlen:∀(r:List (Option D)),dCall dLen (dCons (dVar 0) dNil) (some (nearsD n ties)::r) s=some (nD n,s):=fun r=>call_eq (cons_eq rfl rfl) (by show some (D.int (((List.range n).map _).length:Nat))=_;rw [List.length_map,List.length_range])
 apply Ok.toEq
 refine Ok.runB rfl ?_
 refine Ok.seq (.sset (.eq (a:=.lst [.tup []]) (lst1_eq (tup_eq rfl (by decide))) ?_))
 refine Ok.seq (.sfor (fun i ρ s'=>s=s'∧∃o2,ρ=[some (nearsD n ties),some (.lst ((kn ties i).map tupN)),o2]) (.eq (ev_range1 (hlen _) (by omega)) ⟨⟨rfl,none,rfl⟩,fun i d ρ s' hd hI=>?_,fun ρ' s' hI=>?_⟩))
 ·obtain ⟨rfl,o2,rfl⟩:=hI
  obtain ⟨hi,rfl⟩:=dRange_get0 hd
  refine ⟨_,rfl,?_⟩
  have hkl:=kn_len ties i
  have hpi:=p20 i (by omega)
  have unT:∀k:List Nat,(match tupN k with | .tup ds=>ds.map nat0 | _=>[])=k:=fun k=>by
   unfold tupN
   show (k.map nD).map nat0=k
   rw [List.map_map];exact List.map_id k
  have hc:=ev_comp (src:=[none,some 2,some 0]) (fi:=iSeqL (dVar 1)) (τ:=gOne 0) (ft:=asB (dFn F_is_near_all (dCons (dVar 2) (dCons (dVar 1) (dCons (dVar 0) dNil))))) (fe:=dOp dAdd (dVar 0) (dTup (dCons (dVar 1) dNil))) (ρ:=[some (nearsD n ties),some (.lst ((kn ties i).map tupN)),some (nD i)]) (s:=s) (ds:=(kn ties i).map tupN) (fun d=>[some d,some (nD i),some (nearsD n ties)]) (fun d=>okK ties i (match d with | .tup ds=>ds.map nat0 | _=>[])) (fun d=>tupN ((match d with | .tup ds=>ds.map nat0 | _=>[]) ++ [i])) (seqL_eq rfl) (by rw [List.length_map,sizeLine_v];omega) (fun d hd=>by
   obtain ⟨k,hk,rfl⟩:=List.mem_map.mp hd
   have hkm:=kn_mem hk
   have e:=near_all_eq n ties i hi k (by omega) s
   rw [okN_okK hi hkm.1] at e
   refine ⟨rfl,?_,fun _=>?_⟩
   ·rw [unT];exact asB_eq (fn_eq (cons_eq rfl (cons_eq rfl (cons_eq rfl rfl))) e)
   ·rw [unT];exact op_eq' (d:=tupN k) (e:=.tup [nD i]) rfl (tup1_eq rfl) (tup_add k i (by omega)))
  have e2:(((kn ties i).map tupN).filter fun d=>okK ties i (match d with | .tup ds=>ds.map nat0 | _=>[])).map (fun d=>tupN ((match d with | .tup ds=>ds.map nat0 | _=>[]) ++ [i]))=(((kn ties i).filter (okK ties i)).map (· ++ [i])).map tupN:=by
   rw [List.filter_map,List.map_map,List.map_map]
   have:((fun d=>okK ties i (match d with | .tup ds=>ds.map nat0 | _=>[]))∘tupN)=okK ties i:=by
    funext k
    show okK ties i (match tupN k with | .tup ds=>ds.map nat0 | _=>[])=_
    rw [unT]
   rw [this]
   refine List.map_congr_left fun k _=>?_
   show tupN ((match tupN k with | .tup ds=>ds.map nat0 | _=>[]) ++ [i])=_
   rw [unT]
   rfl
  rw [e2] at hc
  have hf:((kn ties i).filter (okK ties i)).length≤(kn ties i).length:=List.length_filter_le _ _
  refine Ok.seq (.sset (.eq (op_eq' (d:=.lst ((kn ties i).map tupN)) (c:=.lst ((kn ties (i+1)).map tupN)) rfl hc ?_) ?_))
  ·show (if _≤sizeLine then some (D.lst _) else none)=_
   rw [if_pos (by simp only [List.length_map,sizeLine_v];omega),←List.map_append]
   rfl
  ·exact .next ⟨_,rfl,rfl,some (nD i),rfl⟩
 ·obtain ⟨rfl,o2,rfl⟩:=hI
  rw [dRange_len]
  exact Ok.seq (.sret (.eq (a:=.lst ((kn ties n).map tupN)) rfl ⟨rfl,rfl⟩))
end TP2
namespace TP2
open PySem L2 TF TP
noncomputable def mxN (l:List Nat):Nat:=l.foldl max 0
theorem foldl_max_ge (l:List Nat):∀a,a≤l.foldl max a∧∀x∈l,x≤l.foldl max a:=by
 induction l with
 | nil=>intro a;simp
 | cons b l ih=>
  intro a
  obtain ⟨h1,h2⟩:=ih (max a b)
  refine ⟨?_,fun x hx=>?_⟩
  ·show a≤l.foldl max (max a b);omega
  ·show x≤l.foldl max (max a b)
   rcases List.mem_cons.mp hx with rfl | hx
   ·omega
   ·exact h2 x hx
theorem foldl_max_le (l:List Nat) (b:Nat) (h:∀x∈l,x≤b):∀a,a≤b→l.foldl max a≤b:=by
 induction l with
 | nil=>intro a ha;exact ha
 | cons c l ih=>
  intro a ha
  exact ih (fun x hx=>h x (by simp [hx])) (max a c) (by have:=h c (by simp);omega)
theorem maxI_nat (l:List Nat):∀a:Nat,maxI (a:Int) (l.map fun (i:Nat)=>(i:Int))=((l.foldl max a:Nat):Int):=by
 induction l with
 | nil=>intro a;rfl
 | cons b l ih=>
  intro a
  show maxI (max (a:Int) (b:Int)) (l.map fun (i:Nat)=>(i:Int))=_
  rw [show max (a:Int) (b:Int)=((max a b:Nat):Int) by omega,ih]
  rfl
theorem intsOf_nats (l:List Nat):intsOf (l.map nD)=some (l.map fun (i:Nat)=>(i:Int)):=by
 have:=intsOf_map (l.map fun (i:Nat)=>(i:Int))
 rw [List.map_map] at this
 exact this
theorem mulL_eq (ds:List D) (k:Int) (h:-(2 ^ 63)≤k∧k<2 ^ 63∧ds.length*k.toNat≤sizeLine):dMulA (.lst ds) (.int k)=some (.lst (List.replicate k.toNat ds).flatten):=by
 unfold dMulA
 exact if_pos h
end TP2
namespace TP2
open PySem L2 TF TP
theorem rise_ext:∀{a b:List Nat},a.Pairwise (· < ·)→b.Pairwise (· < ·)→(∀x,x∈a↔x∈b)→a=b
 | [],[],_,_,_=>rfl
 | [],y::b,_,_,h=>absurd ((h y).mpr (by simp)) (by simp)
 | x::a,[],_,_,h=>absurd ((h x).mp (by simp)) (by simp)
 | x::a,y::b,ha,hb,h=>by
  have ha':=List.pairwise_cons.mp ha
  have hb':=List.pairwise_cons.mp hb
  have e:x=y:=by
   have h1:=(h x).mp (by simp)
   have h2:=(h y).mpr (by simp)
   rcases List.mem_cons.mp h1 with h1 | h1
   ·exact h1
   ·rcases List.mem_cons.mp h2 with h2 | h2
    ·exact h2.symm
    ·have:=ha'.1 y h2
     have:=hb'.1 x h1
     omega
  subst e
  rw [rise_ext ha'.2 hb'.2 fun z=>?_]
  constructor
  ·intro hz
   rcases List.mem_cons.mp ((h z).mp (List.mem_cons_of_mem _ hz)) with e | e
   ·exact absurd (ha'.1 z hz) (by omega)
   ·exact e
  ·intro hz
   rcases List.mem_cons.mp ((h z).mpr (List.mem_cons_of_mem _ hz)) with e | e
   ·exact absurd (hb'.1 z hz) (by omega)
   ·exact e
theorem len_split {α:Type} (q:α→Bool):∀l:List α,l.length=(l.filter q).length+(l.filter fun x=>!q x).length
 | []=>rfl
 | a::l=>by
  have:=len_split q l
  cases h:q a with
  | true=>simp [List.filter_cons,h];omega
  | false=>simp [List.filter_cons,h];omega
theorem cover_len {α:Type} {p:Nat→α→Bool} {m:Nat}:∀(B:List Nat) (L:List α),(∀K∈L,∃u∈B,p u K=true)→(∀u∈B,(L.filter (p u)).length≤m)→L.length≤B.length*m
 | [],L,h,_=>by
  cases L with
  | nil=>simp
  | cons K L=>obtain ⟨u,hu,_⟩:=h K (by simp);simp at hu
 | u::B,L,h,hm=>by
  have e:L.length=(L.filter (p u)).length+(L.filter fun K=>!p u K).length:=len_split (p u) L
  have h1:=hm u (by simp)
  have h2:=cover_len B (L.filter fun K=>!p u K) (fun K hK=>by
   obtain ⟨hL,hn⟩:=List.mem_filter.mp hK
   obtain ⟨w,hw,pw⟩:=h K hL
   rcases List.mem_cons.mp hw with rfl | hw
   ·rw [pw] at hn;simp at hn
   ·exact ⟨w,hw,pw⟩) (fun w hw=>by
   refine Nat.le_trans (List.Sublist.length_le ?_) (hm w (List.mem_cons_of_mem _ hw))
   exact List.Sublist.filter (p w) (List.filter_sublist (p:=fun K=>!p u K) (l:=L)))
  rw [List.length_cons,Nat.succ_mul]
  omega
theorem argmax (f:Nat→Nat):∀(V:List Nat),V≠[]→∃v∈V,∀u∈V,f u≤f v
 | [],h=>absurd rfl h
 | [x],_=>⟨x,by simp,fun u hu=>by rw [List.mem_singleton.mp hu];exact Nat.le_refl _⟩
 | x::y::V,_=>by
  obtain ⟨v,hv,h⟩:=argmax f (y::V) (by simp)
  by_cases hx:f x≤f v
  ·exact ⟨v,List.mem_cons_of_mem _ hv,fun u hu=>(List.mem_cons.mp hu).elim (fun e=>by rw [e];exact hx) (h u)⟩
  ·exact ⟨x,by simp,fun u hu=>(List.mem_cons.mp hu).elim (fun e=>by rw [e];exact Nat.le_refl _) fun m=>Nat.le_trans (h u m) (by omega)⟩
structure Full (adj:Nat→Nat→Bool) (V K:List Nat):Prop where
 rise:K.Pairwise (· < ·)
 sub:∀o∈K,o∈V
 tie:∀a∈K,∀b∈K,a≠b→adj a b=true
 full:∀v∈V,¬∀o∈K,adj v o=true
noncomputable def mm:List Nat:=[1,1,2,3,4,6,9,12,18,27,36]
theorem mm_step:∀n≤10,∀d<n,(n-d)*mm.getD d 0≤mm.getD n 0:=by decide
theorem mm_mono:∀b≤10,∀a≤b,mm.getD a 0≤mm.getD b 0:=by decide
theorem full_count {adj:Nat→Nat→Bool} (sy:∀a b,adj a b=adj b a) (ir:∀a,adj a a=false):∀(n:Nat),n≤10→∀(V:List Nat) (L:List (List Nat)),V.length=n→L.Nodup→(∀K∈L,Full adj V K)→L.length≤mm.getD n 0:=by
 intro n
 induction n using Nat.strongRecOn with
 | _ n ih=>
  intro hn V L hV nd hL
  by_cases h0:V=[]
  ·subst h0
   have hn0:n=0:=by simpa using hV.symm
   subst hn0
   match L,nd,hL with
   | [],_,_=>simp
   | [_],_,_=>simp [mm]
   | a::b::L,nd,hL=>
    exfalso
    have e:∀K,Full adj [] K→K=[]:=fun K h=>by
     cases K with
     | nil=>rfl
     | cons x K=>exact absurd (h.sub x (by simp)) (by simp)
    have h1:=e a (hL a (by simp))
    have h2:=e b (hL b (by simp))
    rw [h1,h2] at nd
    simp at nd
  ·obtain ⟨v,hv,hmax⟩:=argmax (fun u=>(V.filter (adj u)).length) V h0
   have hd:(V.filter (adj v)).length<n:=by
    rw [←hV]
    refine Nat.lt_of_le_of_ne (List.length_filter_le _ _) fun e=>?_
    have:=(List.length_filter_eq_length_iff.mp e) v hv
    rw [ir] at this;cases this
   have hB:(V.filter fun u=>!adj v u).length=n-(V.filter (adj v)).length:=by
    have:=len_split (adj v) V
    omega
   have hc:=cover_len (p:=fun u K=>decide (u∈K)) (m:=mm.getD (V.filter (adj v)).length 0) (V.filter fun u=>!adj v u) L (fun K hK=>?_) fun u hu=>?_
   ·rw [hB] at hc
    exact Nat.le_trans hc (mm_step n hn _ hd)
   ·have F:=hL K hK
    by_cases h:∃o∈K,adj v o=false
    ·obtain ⟨o,ho,e⟩:=h
     exact ⟨o,List.mem_filter.mpr ⟨F.sub o ho,by rw [e];rfl⟩,by simpa using ho⟩
    ·exfalso
     refine F.full v hv fun o ho=>?_
     cases e:adj v o with
     | true=>rfl
     | false=>exact absurd ⟨o,ho,e⟩ h
   ·have hu':=(List.mem_filter.mp hu).1
    have hdu:(V.filter (adj u)).length≤(V.filter (adj v)).length:=hmax u hu'
    have hnd:((L.filter fun K=>decide (u∈K)).map fun K=>K.filter fun o=>decide (o≠u)).Nodup:=by
     refine List.pairwise_map.mpr ((List.Nodup.sublist (List.filter_sublist (p:=fun K=>decide (u∈K)) (l:=L)) nd).imp_of_mem fun {a b} ha hb hab e=>hab ?_)
     obtain ⟨ha1,ha2⟩:=List.mem_filter.mp ha
     obtain ⟨hb1,hb2⟩:=List.mem_filter.mp hb
     simp at ha2 hb2
     refine rise_ext (hL a ha1).rise (hL b hb1).rise fun x=>?_
     by_cases hx:x=u
     ·subst hx;exact ⟨fun _=>hb2,fun _=>ha2⟩
     ·have q:x∈a.filter (fun o=>decide (o≠u))↔x∈b.filter fun o=>decide (o≠u):=by rw [e]
      simpa [hx] using q
    have:=ih (V.filter (adj u)).length (by omega) (by omega) (V.filter (adj u)) _ rfl hnd fun K hK=>?_
    ·rw [List.length_map] at this
     exact Nat.le_trans this (mm_mono _ (by omega) _ hdu)
    ·obtain ⟨K0,hK0,rfl⟩:=List.mem_map.mp hK
     obtain ⟨hK1,hK2⟩:=List.mem_filter.mp hK0
     simp at hK2
     have F:=hL K0 hK1
     refine ⟨F.rise.sublist List.filter_sublist,fun o ho=>?_,fun a ha b hb=>F.tie a (List.mem_filter.mp ha).1 b (List.mem_filter.mp hb).1,fun x hx z=>?_⟩
     ·obtain ⟨h1,h2⟩:=List.mem_filter.mp ho
      simp at h2
      exact List.mem_filter.mpr ⟨F.sub o h1,F.tie u hK2 o h1 (Ne.symm h2)⟩
     ·obtain ⟨h1,h2⟩:=List.mem_filter.mp hx
      refine F.full x h1 fun o ho=>?_
      by_cases ho2:o=u
      ·subst ho2;rw [sy];exact h2
      ·exact z o (List.mem_filter.mpr ⟨ho,by simpa using ho2⟩)
end TP2
namespace TP2
open PySem L2 TF TP
noncomputable def RT (ties:List (Nat×Nat)) (a b:Nat):Prop:=a<b∧(a,b)∈ties
theorem mem_kn {ties:List (Nat×Nat)}:∀{n:Nat} {k:List Nat},k∈kn ties n↔k.Pairwise (RT ties)∧∀o∈k,o<n
 | 0,k=>by
  constructor
  ·intro h
   have:k=[]:=by simpa [kn] using h
   subst this
   exact ⟨.nil,by simp⟩
  ·rintro ⟨_,h⟩
   cases k with
   | nil=>simp [kn]
   | cons a k=>exact absurd (h a (by simp)) (by omega)
 | n+1,k=>by
  rw [kn,List.mem_append]
  constructor
  ·rintro (h | h)
   ·have:=mem_kn.mp h
    exact ⟨this.1,fun o ho=>Nat.lt_succ_of_lt (this.2 o ho)⟩
   ·obtain ⟨q,hq,rfl⟩:=List.mem_map.mp h
    obtain ⟨hq1,hq2⟩:=List.mem_filter.mp hq
    have:=mem_kn.mp hq1
    unfold okK at hq2
    rw [List.all_eq_true] at hq2
    refine ⟨List.pairwise_append.mpr ⟨this.1,by simp,fun a ha b hb=>?_⟩,fun o ho=>?_⟩
    ·rw [List.mem_singleton.mp hb]
     exact ⟨this.2 a ha,by simpa using hq2 a ha⟩
    ·rcases List.mem_append.mp ho with ho | ho
     ·exact Nat.lt_succ_of_lt (this.2 o ho)
     ·rw [List.mem_singleton.mp ho];omega
  ·rintro ⟨h1,h2⟩
   by_cases hn:n∈k
   ·right
    obtain ⟨a,b,rfl⟩:=List.append_of_mem hn
    have hp:=List.pairwise_append.mp h1
    have hb:b=[]:=by
     cases b with
     | nil=>rfl
     | cons y b=>
      have r1:=(List.pairwise_cons.mp hp.2.1).1 y (by simp)
      have:=h2 y (by simp)
      have:=r1.1
      omega
    subst hb
    have ha:∀o∈a,RT ties o n:=fun o ho=>hp.2.2 o ho n (by simp)
    refine List.mem_map.mpr ⟨a,List.mem_filter.mpr ⟨mem_kn.mpr ⟨hp.1,fun o ho=>(ha o ho).1⟩,?_⟩,rfl⟩
    unfold okK
    rw [List.all_eq_true]
    exact fun o ho=>by simpa using (ha o ho).2
   ·left
    refine mem_kn.mpr ⟨h1,fun o ho=>?_⟩
    have:=h2 o ho
    have:o≠n:=fun z=>hn (z▸ho)
    omega
theorem kn_nodup (ties:List (Nat×Nat)):∀n,(kn ties n).Nodup
 | 0=>by simp [kn]
 | n+1=>by
  rw [kn]
  refine List.pairwise_append.mpr ⟨kn_nodup ties n,?_,fun a ha b hb e=>?_⟩
  ·refine List.pairwise_map.mpr (((kn_nodup ties n).sublist List.filter_sublist).imp fun h e=>h ?_)
   exact List.append_cancel_right e
  ·obtain ⟨q,_,rfl⟩:=List.mem_map.mp hb
   have:=(kn_mem ha).1 n (by rw [e];simp)
   omega
theorem kn_rise {ties:List (Nat×Nat)} {n:Nat} {k:List Nat} (h:k∈kn ties n):k.Pairwise (· < ·):=(mem_kn.mp h).1.imp fun h=>h.1
theorem rise_R {R:Nat→Nat→Prop} {k:List Nat} (hr:k.Pairwise (· < ·)) (h:k.Pairwise R) {a b:Nat} (ha:a∈k) (hb:b∈k) (hab:a<b):R a b:=by
 obtain ⟨i,hi,rfl⟩:=List.getElem_of_mem ha
 obtain ⟨j,hj,rfl⟩:=List.getElem_of_mem hb
 have p1:=List.pairwise_iff_getElem.mp hr
 have p2:=List.pairwise_iff_getElem.mp h
 rcases Nat.lt_trichotomy i j with z | z | z
 ·exact p2 i j hi hj z
 ·subst z;exact absurd hab (Nat.lt_irrefl _)
 ·have:=p1 j i hj hi z;omega
noncomputable def insK (p:Nat) (k:List Nat):List Nat:=(k.filter fun o=>decide (o<p))++p::(k.filter fun o=>decide (p<o))
theorem insK_mem {p:Nat} {k:List Nat} (hp:p∉k) (x:Nat):x∈insK p k↔x=p∨x∈k:=by
 unfold insK
 simp only [List.mem_append,List.mem_filter,List.mem_cons,decide_eq_true_eq]
 constructor
 ·rintro (h | h | h)
  ·exact .inr h.1
  ·exact .inl h
  ·exact .inr h.1
 ·rintro (h | h)
  ·exact .inr (.inl h)
  ·have:x≠p:=fun z=>hp (z▸h)
   by_cases hx:x<p
   ·exact .inl ⟨h,hx⟩
   ·exact .inr (.inr ⟨h,by omega⟩)
theorem insK_rise {p:Nat} {k:List Nat} (hk:k.Pairwise (· < ·)):(insK p k).Pairwise (· < ·):=by
 unfold insK
 refine List.pairwise_append.mpr ⟨hk.sublist List.filter_sublist,List.pairwise_cons.mpr ⟨fun b hb=>?_,hk.sublist List.filter_sublist⟩,fun a ha b hb=>?_⟩
 ·simpa using (List.mem_filter.mp hb).2
 ·have h1:a<p:=by simpa using (List.mem_filter.mp ha).2
  rcases List.mem_cons.mp hb with rfl | hb
  ·exact h1
  ·have:p<b:=by simpa using (List.mem_filter.mp hb).2
   omega
theorem insK_perm {p:Nat} {k:List Nat} (hp:p∉k):(insK p k).Perm (k ++ [p]):=by
 unfold insK
 have h1:(k.filter fun o=>decide (p<o))=k.filter fun o=>!decide (o<p):=by
  refine List.filter_congr fun o ho=>?_
  have:o≠p:=fun z=>hp (z▸ho)
  rw [←decide_not]
  congr 1
  simp;omega
 rw [h1]
 refine List.perm_middle.trans ?_
 refine List.Perm.trans ?_ (List.perm_append_singleton p k).symm
 exact List.Perm.cons p (List.filter_append_perm (fun o=>decide (o<p)) k)
theorem insK_kn {n:Nat} {ties:List (Nat×Nat)} {k:List Nat} {p:Nat} (h:k∈kn ties n) (hp:p∉k) (hn:p<n):insK p k∈kn ties n↔okN n ties p k=true:=by
 have hk:=mem_kn.mp h
 have hr:=kn_rise h
 have key:okN n ties p k=true↔∀o∈k,tied ties p o=true:=by
  unfold okN nearL
  rw [List.all_eq_true]
  constructor
  ·intro z o ho
   have:=z o ho
   rw [decide_eq_true_eq,List.mem_filter] at this
   exact this.2
  ·intro z o ho
   rw [decide_eq_true_eq,List.mem_filter,List.mem_range]
   exact ⟨hk.2 o ho,z o ho⟩
 rw [key,mem_kn]
 constructor
 ·rintro ⟨h1,_⟩ o ho
  have hop:o≠p:=fun z=>hp (z▸ho)
  have ir:=insK_rise (p:=p) hr
  have mo:=(insK_mem hp o).mpr (.inr ho)
  have mp:=(insK_mem hp p).mpr (.inl rfl)
  by_cases hlt:o<p
  ·rw [tied_comm,tied_lt hlt]
   simpa using (rise_R ir h1 mo mp hlt).2
  ·have hlt:p<o:=by omega
   rw [tied_lt hlt]
   simpa using (rise_R ir h1 mp mo hlt).2
 ·intro z
  have zl:∀o∈k,o<p→(o,p)∈ties:=fun o ho hlt=>by
   have:=z o ho
   rw [tied_comm,tied_lt hlt] at this
   simpa using this
  have zg:∀o∈k,p<o→(p,o)∈ties:=fun o ho hlt=>by
   have:=z o ho
   rw [tied_lt hlt] at this
   simpa using this
  refine ⟨?_,fun o ho=>?_⟩
  ·unfold insK
   refine List.pairwise_append.mpr ⟨hk.1.sublist List.filter_sublist,List.pairwise_cons.mpr ⟨fun b hb=>?_,hk.1.sublist List.filter_sublist⟩,fun a ha b hb=>?_⟩
   ·obtain ⟨hb1,hb2⟩:=List.mem_filter.mp hb
    simp at hb2
    exact ⟨hb2,zg b hb1 hb2⟩
   ·obtain ⟨ha1,ha2⟩:=List.mem_filter.mp ha
    simp at ha2
    rcases List.mem_cons.mp hb with rfl | hb
    ·exact ⟨ha2,zl a ha1 ha2⟩
    ·obtain ⟨hb1,hb2⟩:=List.mem_filter.mp hb
     simp at hb2
     exact rise_R hr hk.1 ha1 hb1 (by omega)
  ·rcases (insK_mem hp o).mp ho with rfl | ho
   ·exact hn
   ·exact hk.2 o ho
theorem IsWeb.irr {n:Nat} {ties:List (Nat×Nat)} (h:IsWeb n ties) (a:Nat):tied ties a a=false:=by
 unfold tied
 rw [decide_eq_false_iff_not]
 intro z
 have h1:min a a<max a a:=(TP.IsWeb.mem h z).1
 omega
noncomputable def isFullK (n:Nat) (ties:List (Nat×Nat)) (k:List Nat):Bool:=!(List.range n).any fun p=>okN n ties p k
noncomputable def fullK (n:Nat) (ties:List (Nat×Nat)):List (List Nat):=(kn ties n).filter (isFullK n ties)
theorem full_of {n:Nat} {ties:List (Nat×Nat)} {k:List Nat} (h:k∈fullK n ties):Full (tied ties) (List.range n) k:=by
 obtain ⟨h1,h2⟩:=List.mem_filter.mp h
 have hk:=mem_kn.mp h1
 refine ⟨kn_rise h1,fun o ho=>List.mem_range.mpr (hk.2 o ho),fun a ha b hb hab=>?_,fun v hv z=>?_⟩
 ·by_cases hlt:a<b
  ·rw [tied_lt hlt];simpa using (rise_R (kn_rise h1) hk.1 ha hb hlt).2
  ·have hlt:b<a:=by omega
   rw [tied_comm,tied_lt hlt];simpa using (rise_R (kn_rise h1) hk.1 hb ha hlt).2
 ·unfold isFullK at h2
  rw [Bool.not_eq_true',List.any_eq_false] at h2
  refine h2 v hv ?_
  unfold okN nearL
  rw [List.all_eq_true]
  intro o ho
  rw [decide_eq_true_eq,List.mem_filter,List.mem_range]
  exact ⟨hk.2 o ho,z o ho⟩
theorem full_len {n:Nat} {ties:List (Nat×Nat)} (hw:IsWeb n ties) (hn:n≤10):(fullK n ties).length≤36:=by
 have:=full_count (adj:=tied ties) (tied_comm ties) (IsWeb.irr hw) n hn (List.range n) (fullK n ties) (by simp) ((kn_nodup ties n).sublist List.filter_sublist) fun K hK=>full_of hK
 exact Nat.le_trans this (mm_mono 10 (Nat.le_refl _) n hn)
theorem full_ne {n:Nat} {ties:List (Nat×Nat)} (h:2≤(fullK n ties).length):∀k∈fullK n ties,k≠[]:=by
 intro k hk e
 subst e
 have h2:=(List.mem_filter.mp hk).2
 unfold isFullK at h2
 rw [Bool.not_eq_true',List.any_eq_false] at h2
 cases n with
 | zero=>
  have:(fullK 0 ties).length≤(kn ties 0).length:=List.length_filter_le _ _
  simp [kn] at this
  omega
 | succ n=>exact h2 0 (by simp) (by simp [okN])
end TP2
namespace TP3
open PySem L2 TF TP TS
open TP2
theorem any_bools {α:Type} (l:List α) (p:α→Bool):dAny [.lst (l.map fun x=>D.bl (p x))]=some (.bl (l.any p)):=by
 show (boolsOf _).map _=_
 rw [show l.map (fun x=>D.bl (p x))=(l.map p).map D.bl by rw [List.map_map];rfl,boolsOf_map]
 show some (D.bl _)=some (D.bl _)
 rw [List.any_map];rfl
theorem is_full_eq (n:Nat) (ties:List (Nat×Nat)) (hn:n≤100000) (k:List Nat) (hk:k.length≤1000) (s:Pn):F_is_full [nearsD n ties,tupN k] s=some (.bl (isFullK n ties k),s):=by
 refine runB_eq rfl (sSeq_rt (sRet_eq ?_))
 have hlen:dCall dLen (dCons (dVar 0) dNil) [some (nearsD n ties),some (tupN k)] s=some (nD n,s):=call_eq (cons_eq rfl rfl) (by show some (D.int (((List.range n).map _).length:Nat))=_;rw [List.length_map,List.length_range])
 have hc:=ev_comp (src:=[none,some 0,some 1]) (fi:=iRange1 (dCall dLen (dCons (dVar 0) dNil))) (τ:=gOne 0) (ft:=bTrue) (fe:=dFn F_is_near_all (dCons (dVar 1) (dCons (dVar 0) (dCons (dVar 2) dNil)))) (ρ:=[some (nearsD n ties),some (tupN k)]) (s:=s) (ds:=dRange 0 n) (fun d=>[some d,some (nearsD n ties),some (tupN k)]) (fun _=>true) (fun d=>.bl (okN n ties (nat0 d) k)) (ev_range1 hlen hn) (rng_len hn) (fun d hd=>by
  obtain ⟨i,hi,rfl⟩:=dRange_mem hd
  exact ⟨rfl,rfl,fun _=>fn_eq (cons_eq rfl (cons_eq rfl (cons_eq rfl rfl))) (near_all_eq n ties i hi k hk s)⟩)
 rw [filter_tt,dRange0,List.map_map] at hc
 exact vNot_eq (call_eq (cons_eq hc rfl) (any_bools (List.range n) fun p=>okN n ties p k))
noncomputable def natsI (k:List Nat):List Int:=k.map fun (x:Nat)=>(x:Int)
theorem tupN_I (k:List Nat):tupN k=tupI (natsI k):=by
 unfold tupN tupI natsI
 rw [List.map_map];rfl
theorem natsI_inj {a b:List Nat} (h:natsI a=natsI b):a=b:=by
 unfold natsI at h
 exact (List.map_inj_right (fun x y e=>by omega)).mp h
noncomputable def fullD (n:Nat) (ties:List (Nat×Nat)):List D:=(sortT ((fullK n ties).map natsI)).map tupI
theorem sort_full {n:Nat} {ties:List (Nat×Nat)} (hw:IsWeb n ties) (hn:n≤10):dSortTs [.lst ((fullK n ties).map tupN)]=some (.lst (fullD n ties)):=by
 have e:(fullK n ties).map tupN=((fullK n ties).map natsI).map tupI:=by
  rw [List.map_map];exact List.map_congr_left fun k _=>tupN_I k
 show (match tupsOf ((fullK n ties).map tupN) with | some nss=>if okSort nss then some (D.lst ((sortT nss).map tupI)) else none | none=>none)=_
 rw [e,tupsOf_map]
 show (if okSort ((fullK n ties).map natsI) then some (D.lst ((sortT ((fullK n ties).map natsI)).map tupI)) else none)=_
 have hl:=full_len hw hn
 have ok:okSort ((fullK n ties).map natsI):=by
  refine ⟨by rw [List.length_map];omega,?_,fun h2 ns hns=>?_⟩
  ·refine List.pairwise_map.mpr (List.Pairwise.imp (fun {a b} h e=>h (natsI_inj e)) ((kn_nodup ties n).sublist (List.filter_sublist (p:=isFullK n ties))))
  ·obtain ⟨k,hk,rfl⟩:=List.mem_map.mp hns
   rw [List.length_map] at h2
   have:=full_ne h2 k hk
   cases k with
   | nil=>exact absurd rfl this
   | cons a k=>exact fun z=>by cases z
 rw [if_pos ok]
 rfl
theorem unT (k:List Nat):(match tupN k with | .tup ds=>ds.map nat0 | _=>[])=k:=by
 unfold tupN
 show (k.map nD).map nat0=k
 rw [List.map_map];exact List.map_id k
theorem filter_tupN (l:List (List Nat)) (f:List Nat→Bool):(((l.map tupN).filter fun d=>f (match d with | .tup ds=>ds.map nat0 | _=>[])).map fun d=>d)=(l.filter f).map tupN:=by
 rw [List.filter_map,List.map_map]
 have:((fun d=>f (match d with | .tup ds=>ds.map nat0 | _=>[]))∘tupN)=f:=by
  funext k
  show f (match tupN k with | .tup ds=>ds.map nat0 | _=>[])=_
  rw [unT]
 rw [this];rfl
theorem kn_small {ties:List (Nat×Nat)} {n:Nat} (hn:n≤10):(kn ties n).length≤1024:=by
 have:=kn_len ties n
 have:2 ^ n≤2 ^ 10:=Nat.pow_le_pow_right (by omega) hn
 omega
theorem full_knots_eq (n:Nat) (ties:List (Nat×Nat)) (hw:IsWeb n ties) (hn:n≤10) (s:Pn):F_full_knots [webD n ties] s=some (.lst (fullD n ties),s):=by
 refine runB_eq rfl (sSeq_nx (sSet_eq (fn_eq (cons_eq rfl rfl) (all_near_eq n ties (by omega) s))) (sSeq_rt (sRet_eq ?_)))
 have hkn:=kn_small (ties:=ties) hn
 have hc:=ev_comp (src:=[none,some 1]) (fi:=iSeqL (dFn F_all_knots (dCons (dVar 1) dNil))) (τ:=gOne 0) (ft:=asB (dFn F_is_full (dCons (dVar 1) (dCons (dVar 0) dNil)))) (fe:=dVar 0) (ρ:=[some (webD n ties),some (nearsD n ties)]) (s:=s) (ds:=(kn ties n).map tupN) (fun d=>[some d,some (nearsD n ties)]) (fun d=>isFullK n ties (match d with | .tup ds=>ds.map nat0 | _=>[])) (fun d=>d) (seqL_eq (fn_eq (cons_eq rfl rfl) (all_knots_eq n ties (by omega) s))) (by rw [List.length_map,sizeLine_v];omega) (fun d hd=>by
  obtain ⟨k,hk,rfl⟩:=List.mem_map.mp hd
  have hkm:=kn_mem hk
  refine ⟨rfl,?_,fun _=>rfl⟩
  rw [unT]
  exact asB_eq (fn_eq (cons_eq rfl (cons_eq rfl rfl)) (is_full_eq n ties (by omega) k (by omega) s)))
 rw [filter_tupN] at hc
 exact call_eq (cons_eq hc rfl) (sort_full hw hn)
end TP3
namespace TP3
open PySem L2 TF TP TS
open TP2
theorem mem_knS {n:Nat} {ties:List (Nat×Nat)} {k:List Nat}:k∈kn ties n↔k.Pairwise (· < ·)∧(∀o∈k,o<n)∧∀a∈k,∀b∈k,a≠b→tied ties a b=true:=by
 rw [mem_kn]
 constructor
 ·rintro ⟨h1,h2⟩
  have hr:k.Pairwise (· < ·):=h1.imp fun h=>h.1
  refine ⟨hr,h2,fun a ha b hb hab=>?_⟩
  by_cases hlt:a<b
  ·rw [tied_lt hlt];simpa using (rise_R hr h1 ha hb hlt).2
  ·have hlt:b<a:=by omega
   rw [tied_comm,tied_lt hlt];simpa using (rise_R hr h1 hb ha hlt).2
 ·rintro ⟨hr,h2,h3⟩
  refine ⟨?_,h2⟩
  refine List.Pairwise.imp_of_mem (fun {a b} ha hb hab=>?_) hr
  refine ⟨hab,?_⟩
  have:=h3 a ha b hb (by omega)
  rw [tied_lt hab] at this
  simpa using this
theorem range_rise (n:Nat):(List.range n).Pairwise (· < ·):=List.pairwise_lt_range
theorem rise_nodup {k:List Nat} (h:k.Pairwise (· < ·)):k.Nodup:=h.imp fun h=>by omega
section
variable {m n:Nat} {f:Nat→Nat} {tm tn:List (Nat×Nat)}
theorem nodup_len {α:Type} [BEq α] [LawfulBEq α]:∀{a b:List α},a.Nodup→(∀x∈a,x∈b)→a.length≤b.length
 | [],_,_,_=>by simp
 | x::a,b,nd,h=>by
  have nd':=List.nodup_cons.mp nd
  have hx:=h x (by simp)
  have ih:=nodup_len (a:=a) (b:=b.erase x) nd'.2 fun y hy=>(List.mem_erase_of_ne (fun (z:y=x)=>nd'.1 (by rw [←z];exact hy))).mpr (h y (by simp [hy]))
  have:=List.length_erase_of_mem hx
  have:0<b.length:=List.length_pos_of_mem hx
  simp only [List.length_cons];omega
theorem mxN_mem {l:List Nat} (h:∃r,l=0::r):mxN l∈l:=by
 have key:∀(l:List Nat) (a:Nat),l.foldl max a=a∨l.foldl max a∈l:=by
  intro l
  induction l with
  | nil=>intro a;exact .inl rfl
  | cons b l ih=>
   intro a
   show l.foldl max (max a b)=a∨l.foldl max (max a b)∈b::l
   rcases ih (max a b) with e | e
   ·rcases Nat.le_total a b with h | h
    ·right;rw [e,Nat.max_eq_right h];simp
    ·left;rw [e,Nat.max_eq_left h]
   ·right;exact List.mem_cons_of_mem _ e
 obtain ⟨r,rfl⟩:=h
 rcases key (0::r) 0 with e | e
 ·unfold mxN;rw [e];simp
 ·exact e
theorem mxN_ge {l:List Nat} {x:Nat} (h:x∈l):x≤mxN l:=(foldl_max_ge l 0).2 x h
theorem okN_iff {n p:Nat} {ties:List (Nat×Nat)} {k:List Nat}:okN n ties p k=true↔∀o∈k,o<n∧tied ties p o=true:=by
 unfold okN nearL
 rw [List.all_eq_true]
 simp only [decide_eq_true_eq,List.mem_filter,List.mem_range]
end
end TP3
namespace TP3
open PySem L2 TF TP TS
open TP2
theorem are_tiedD_eq (ties:List (Nat×Nat)) (a b:Nat) (s:Pn):F_are_tied [.dt (kvT [] ties),.int a,.int b] s=some (.bl (tied ties a b),s):=by
 simp [F_are_tied,g_are_tied,runB,sSeq,sRet,sNext,dOp,dCall,dCons,dNil,dTup,dVar,mbind,mret,mOf,dMin2,dMax2,two_le,minmax_tup,dIn_kv,tied]
theorem getD_nD {as:List Nat} {j:Nat} (hj:j<as.length):atI (as.map nD) (j:Int)=some (nD (as.getD j 0)):=by
 refine atI_nat ?_
 rw [List.getElem?_map,List.getD_eq_getElem?_getD,List.getElem?_eq_getElem hj]
 rfl
theorem lenL_nats (ps:List Nat):dLen [.lst (ps.map nD)]=some (nD ps.length):=by
 show some (D.int ((ps.map nD).length:Nat))=_
 rw [List.length_map]
theorem adj_rise {as:List Nat}:((List.range (as.length-1)).all fun i=>decide (as.getD i 0<as.getD (i+1) 0))=decide (as.Pairwise (· < ·)):=by
 rw [Bool.eq_iff_iff,List.all_eq_true,decide_eq_true_eq,List.pairwise_iff_getElem]
 have g:∀j (h:j<as.length),as.getD j 0=as[j]:=fun j h=>by rw [List.getD_eq_getElem?_getD,List.getElem?_eq_getElem h];rfl
 constructor
 ·intro h
  have step:∀d i (h1:i+d+1<as.length),as.getD i 0<as.getD (i+d+1) 0:=by
   intro d
   induction d with
   | zero=>intro i h1;simpa using h i (by rw [List.mem_range];omega)
   | succ d ih=>
    intro i h1
    have q1:=ih i (by omega)
    have q2:as.getD (i+d+1) 0<as.getD (i+d+1+1) 0:=by simpa using h (i+d+1) (by rw [List.mem_range];omega)
    have:i+(d+1)+1=i+d+1+1:=by omega
    rw [this];omega
  intro i j hi hj hij
  have:=step (j-i-1) i (by omega)
  rw [show i+(j-i-1)+1=j by omega,g i hi,g j hj] at this
  exact this
 ·intro h i hi
  have hi:=List.mem_range.mp hi
  rw [decide_eq_true_eq,g i (by omega),g (i+1) (by omega)]
  exact h i (i+1) (by omega) (by omega) (by omega)
theorem risesN_eq (as:List Nat) (hl:as.length≤100000) (s:Pn):F_rises [tupN as] s=some (.bl (decide (as.Pairwise (· < ·))),s):=by
 refine runB_eq rfl (sSeq_rt (sRet_eq ?_))
 have hi:iRange1 (dOp dSub (dCall dLen (dCons (dVar 0) dNil)) (dC (.int 1))) [some (tupN as)] s=some (dRange 0 (as.length-1),s):=by
  by_cases h0:as.length=0
  ·have:as=[]:=List.length_eq_zero_iff.mp h0
   subst this
   rfl
  ·refine ev_range1 (op_eq' (d:=.int as.length) (e:=.int 1) (call_eq (cons_eq rfl rfl) ?_) rfl ?_) (by omega)
   ·show some (D.int ((as.map nD).length:Nat))=_
    rw [List.length_map]
   ·show some (D.int _)=some (D.int _)
    congr 2;omega
 have hc:=ev_comp (src:=[none,some 0]) (τ:=gOne 0) (ft:=bTrue) (fe:=dOp dLt (dOp dIx (dVar 1) (dVar 0)) (dOp dIx (dVar 1) (dOp dAdd (dVar 0) (dC (.int 1))))) (ρ:=[some (tupN as)]) (s:=s) (fun d=>[some d,some (tupN as)]) (fun _=>true) (fun d=>.bl (decide (as.getD (nat0 d) 0<as.getD (nat0 d+1) 0))) hi (rng_len (by omega)) fun d hd=>by
  obtain ⟨i,hi,rfl⟩:=dRange_mem hd
  refine ⟨rfl,rfl,fun _=>?_⟩
  refine op_eq' (op_eq' (d:=tupN as) (e:=.int (i:Int)) rfl rfl (getD_nD (by omega))) (op_eq' (d:=tupN as) (e:=.int ((i+1:Nat):Int)) rfl (op_eq' (d:=.int (i:Int)) (e:=.int 1) rfl rfl (by simp [dAdd])) (getD_nD (by omega))) ?_
  show some (D.bl (decide ((as.getD i 0:Int)<(as.getD (i+1) 0:Int))))=some (D.bl (decide (as.getD i 0<as.getD (i+1) 0)))
  congr 3
  rw [Int.ofNat_lt]
 refine call_eq (cons_eq hc rfl) ?_
 rw [filter_tt,dRange0,List.map_map,←adj_rise]
 exact all_bools (List.range (as.length-1)) fun i=>decide (as.getD i 0<as.getD (i+1) 0)
theorem prD_nats {as:List Nat} {p:Nat×Nat} (h1:p.1<as.length) (h2:p.2<as.length):prD (as.map nD) p=pairD (as.getD p.1 0,as.getD p.2 0):=by
 have g:∀j,j<as.length→(as.map nD).getD j .non=nD (as.getD j 0):=fun j hj=>by
  rw [List.getD_eq_getElem?_getD,List.getElem?_map,List.getElem?_eq_getElem hj,List.getD_eq_getElem?_getD,List.getElem?_eq_getElem hj]
  rfl
 unfold prD
 rw [g _ h1,g _ h2]
 rfl
theorem tied_pairs {n:Nat} {ties:List (Nat×Nat)} {as:List Nat} (hr:as.Pairwise (· < ·)) (hn:∀o∈as,o<n):((allP as.length).all fun p=>decide ((as.getD p.1 0,as.getD p.2 0)∈ties))=decide (as∈kn ties n):=by
 rw [Bool.eq_iff_iff,List.all_eq_true,decide_eq_true_eq,mem_kn]
 have g:∀j (h:j<as.length),as.getD j 0=as[j]:=fun j h=>by rw [List.getD_eq_getElem?_getD,List.getElem?_eq_getElem h];rfl
 constructor
 ·intro h
  refine ⟨List.pairwise_iff_getElem.mpr fun i j hi hj hij=>⟨List.pairwise_iff_getElem.mp hr i j hi hj hij,?_⟩,hn⟩
  have:=h (i,j) (mem_allP.mpr ⟨hij,hj⟩)
  rw [decide_eq_true_eq] at this
  simp only [g i hi,g j hj] at this
  exact this
 ·rintro ⟨h,_⟩ ⟨i,j⟩ hp
  have hp:=mem_allP.mp hp
  simp only at hp
  rw [decide_eq_true_eq]
  simp only [g i (by omega),g j (by omega)]
  exact (List.pairwise_iff_getElem.mp h i j (by omega) (by omega) hp.1).2
theorem is_knotN_eq (n:Nat) (ties:List (Nat×Nat)) (hl:ties.length≤100000) (as:List Nat) (hal:as.length≤1000) (s:Pn):F_is_knot [webD n ties,tupN as] s=some (.bl (decide (as∈kn ties n)),s):=by
 refine runB_eq rfl ?_
 refine sSeq_nx (sIf_f (not_eq' (b:=true) (asB_eq (call_eq (cons_eq rfl (cons_eq rfl rfl)) rfl))) rfl) ?_
 have hc:=ev_comp (src:=[none,some 0]) (fi:=iSeqT (dVar 1)) (τ:=gOne 0) (ft:=bTrue) (fe:=dFn F_is_place (dCons (dOp dIx (dVar 1) (dC (.int 0))) (dCons (dVar 0) dNil))) (ρ:=[some (webD n ties),some (tupN as),none]) (s:=s) (fun d=>[some d,some (webD n ties)]) (fun _=>true) (fun d=>.bl (placeB (n:Int) d)) (seqT_eq rfl) (by rw [List.length_map,sizeLine_v];omega) fun d hd=>by
  obtain ⟨a,_,rfl⟩:=List.mem_map.mp hd
  exact ⟨rfl,rfl,fun _=>fn_eq (cons_eq (op_eq' (d:=webD n ties) (e:=.int 0) rfl rfl web0) (cons_eq rfl rfl)) (is_place_eq rfl (n:Int) s)⟩
 rw [filter_tt] at hc
 have hp:=not_eq' (asB_eq (call_eq (cons_eq hc (rfl:dNil [some (webD n ties),some (tupN as),none] s=some ([],s))) (all_bools (as.map nD) (placeB (n:Int)))))
 have hpl:(as.map nD).all (placeB (n:Int))=decide (∀o∈as,o<n):=by
  rw [Bool.eq_iff_iff,List.all_eq_true,decide_eq_true_eq]
  constructor
  ·intro h o ho
   have:=h (nD o) (List.mem_map.mpr ⟨o,ho,rfl⟩)
   simp only [placeB,Bool.and_eq_true,decide_eq_true_eq] at this
   omega
  ·intro h d hd
   obtain ⟨o,ho,rfl⟩:=List.mem_map.mp hd
   have:=h o ho
   simp only [placeB,Bool.and_eq_true,decide_eq_true_eq]
   omega
 rw [hpl] at hp
 by_cases ha:∀o∈as,o<n
 ·rw [decide_eq_true ha] at hp
  have hr:bNot (asB (dFn F_rises (dCons (dVar 1) dNil))) [some (webD n ties),some (tupN as),none] s=some (!decide (as.Pairwise (· < ·)),s):=not_eq' (asB_eq (fn_eq (cons_eq rfl rfl) (risesN_eq as (by omega) s)))
  by_cases hrr:as.Pairwise (· < ·)
  ·rw [decide_eq_true hrr] at hr
   refine sSeq_nx (sIf_f (bor_f hp hr) rfl) (sSeq_nx (sSet_eq (fn_eq (cons_eq rfl rfl) (marked_eq n ties s hl))) (sSeq_rt (sRet_eq ?_)))
   have hps:dFn F_pairs_of (dCons (dVar 1) dNil) [some (webD n ties),some (tupN as),some (.dt (kvT [] ties))] s=some (.lst ((allP (as.map nD).length).map (prD (as.map nD))),s):=fn_eq (cons_eq rfl rfl) (pairs_of_eq (.tup (as.map nD)) (as.map nD) (.inr rfl) (by simpa using hal) s)
   have hap:=allP_len as.length (by omega)
   have hc2:=ev_comp (src:=[none,some 2]) (fi:=iSeqL (dFn F_pairs_of (dCons (dVar 1) dNil))) (τ:=gOne 0) (ft:=bTrue) (fe:=dOp dIn (dVar 0) (dVar 1)) (ρ:=[some (webD n ties),some (tupN as),some (.dt (kvT [] ties))]) (s:=s) (fun d=>[some d,some (.dt (kvT [] ties))]) (fun _=>true) (fun d=>.bl (decide (nat2 d∈ties))) (seqL_eq hps) (by rw [List.length_map,List.length_map,sizeLine_v];omega) fun d hd=>by
    obtain ⟨p,hpm,rfl⟩:=List.mem_map.mp hd
    rw [List.length_map] at hpm
    have hpp:=mem_allP.mp hpm
    rw [prD_nats (by omega) (by omega)]
    exact ⟨rfl,rfl,fun _=>op_eq' (d:=pairD (as.getD p.1 0,as.getD p.2 0)) rfl rfl (dIn_kv _ ties)⟩
   rw [filter_tt,List.map_map,List.length_map] at hc2
   refine call_eq (cons_eq hc2 rfl) ?_
   have e2:(allP as.length).map ((fun d=>D.bl (decide (nat2 d∈ties)))∘prD (as.map nD))=(allP as.length).map fun p=>D.bl (decide ((as.getD p.1 0,as.getD p.2 0)∈ties)):=by
    refine List.map_congr_left fun p hpm=>?_
    have hpp:=mem_allP.mp hpm
    show D.bl (decide (nat2 (prD (as.map nD) p)∈ties))=_
    rw [prD_nats (by omega) (by omega),nat2_pair]
   rw [e2,all_bools (allP as.length) fun p=>decide ((as.getD p.1 0,as.getD p.2 0)∈ties),tied_pairs hrr ha]
  ·rw [decide_eq_false hrr] at hr
   have:decide (as∈kn ties n)=false:=decide_eq_false fun z=>hrr (kn_rise z)
   rw [this]
   exact sSeq_rt (sIf_t (bor_f hp hr) (sSeq_rt rfl))
 ·rw [decide_eq_false ha] at hp
  have:decide (as∈kn ties n)=false:=decide_eq_false fun z=>ha (kn_mem z).1
  rw [this]
  exact sSeq_rt (sIf_t (bor_t hp) (sSeq_rt rfl))
end TP3
namespace TP3
open PySem L2 TF TP TS
open TP2
end TP3
namespace TP3
open PySem L2 TF TP TS
open TP2
end TP3
namespace TP3
open PySem L2 TF TP TS
open TP2
section
variable (ap:Nat→Nat→Bool)
noncomputable def cntA (ps:List Nat) (p:Nat):Nat:=(ps.filter fun o=>ap p o).length
noncomputable def restA (ps:List Nat) (p:Nat):List Nat:=ps.filter fun o=>!decide (o=p) && !ap p o
noncomputable def pickMax (ps:List Nat):Nat:=ps.getD ((ps.map (cntA ap ps)).idxOf (mxN (ps.map (cntA ap ps)))) 0
structure KnA (ps K:List Nat):Prop where
 nd:K.Nodup
 sub:∀x∈K,x∈ps
 two:∀x∈K,∀y∈K,x≠y→ap x y=false
end
section
variable {ap:Nat→Nat→Bool}
theorem mx_mem {l:List Nat} (h:l≠[]):mxN l∈l:=by
 have:=mxN_mem (l:=0::l) ⟨l,rfl⟩
 have e:mxN (0::l)=mxN l:=rfl
 rw [e] at this
 rcases List.mem_cons.mp this with z | z
 ·cases l with
  | nil=>exact absurd rfl h
  | cons a r=>
   have h1:=mxN_ge (l:=a::r) (x:=a) (by simp)
   have h2:a=0:=by omega
   rw [z,h2];simp
 ·exact z
theorem pick_at {ps:List Nat} (f:Nat→Nat) {v:Nat} (h:v∈ps.map f):ps.getD ((ps.map f).idxOf v) 0∈ps∧f (ps.getD ((ps.map f).idxOf v) 0)=v:=by
 have hl:=List.idxOf_lt_length_iff.mpr h
 have e:=List.getElem_idxOf hl
 rw [List.getElem_map] at e
 have hl':(ps.map f).idxOf v<ps.length:=by simpa using hl
 rw [List.getD_eq_getElem?_getD,List.getElem?_eq_getElem hl']
 exact ⟨List.getElem_mem hl',e⟩
theorem pickMax_spec {ps:List Nat} (h:ps≠[]):pickMax ap ps∈ps:=(pick_at (cntA ap ps) (mx_mem (by simpa using h))).1
theorem restA_sub {ps:List Nat} {p:Nat}:∀x∈restA ap ps p,x∈ps∧x≠p∧ap p x=false:=fun x hx=>by
 obtain ⟨h1,h2⟩:=List.mem_filter.mp hx
 simp only [Bool.and_eq_true,Bool.not_eq_true',decide_eq_false_iff_not] at h2
 exact ⟨h1,h2.1,h2.2⟩
theorem filter_lt {ps:List Nat} {p:Nat} (h:p∈ps) (f:Nat→Bool) (hf:f p=false):(ps.filter f).length<ps.length:=by
 induction ps with
 | nil=>simp at h
 | cons a r ih=>
  have hr:=List.length_filter_le f r
  rcases List.mem_cons.mp h with e | h
  ·subst e
   rw [List.filter_cons_of_neg (by simpa using hf)]
   simp only [List.length_cons];omega
  ·have:=ih h
   by_cases fa:f a=true
   ·rw [List.filter_cons_of_pos fa];simp only [List.length_cons];omega
   ·rw [List.filter_cons_of_neg fa];simp only [List.length_cons];omega
theorem restA_lt {ps:List Nat} {p:Nat} (h:p∈ps):(restA ap ps p).length<ps.length:=filter_lt h _ (by simp)
theorem without_lt {ps:List Nat} {p:Nat} (h:p∈ps):(ps.filter fun o=>!decide (o=p)).length<ps.length:=filter_lt h _ (by simp)
theorem KnA.with {ps K:List Nat} {p:Nat} (sy:∀a b,ap a b=ap b a) (hp:p∈ps) (h:KnA ap (restA ap ps p) K):KnA ap ps (p::K) where
 nd:=List.nodup_cons.mpr ⟨fun z=>(restA_sub p (h.sub p z)).2.1 rfl,h.nd⟩
 sub:=fun x hx=>by
  rcases List.mem_cons.mp hx with e | hx
  ·rw [e];exact hp
  ·exact (restA_sub x (h.sub x hx)).1
 two:=fun x hx y hy ne=>by
  rcases List.mem_cons.mp hx with e | hx
  ·rcases List.mem_cons.mp hy with e' | hy
   ·exact absurd (e.trans e'.symm) ne
   ·rw [e];exact (restA_sub y (h.sub y hy)).2.2
  ·rcases List.mem_cons.mp hy with e' | hy
   ·rw [e',sy];exact (restA_sub x (h.sub x hx)).2.2
   ·exact h.two x hx y hy ne
theorem KnA.mono {ps qs K:List Nat} (h:KnA ap ps K) (s:∀x∈ps,x∈qs):KnA ap qs K:=⟨h.nd,fun x hx=>s x (h.sub x hx),h.two⟩
theorem KnA.rest {ps K:List Nat} {p:Nat} (h:KnA ap ps K):KnA ap (restA ap ps p) (K.filter fun o=>!decide (o=p) && !ap p o) where
 nd:=h.nd.sublist List.filter_sublist
 sub:=fun x hx=>by
  obtain ⟨h1,h2⟩:=List.mem_filter.mp hx
  exact List.mem_filter.mpr ⟨h.sub x h1,h2⟩
 two:=fun x hx y hy=>h.two x (List.mem_filter.mp hx).1 y (List.mem_filter.mp hy).1
theorem rest_drop (ir:∀a,ap a a=false) {K:List Nat} {p:Nat} {ps:List Nat} (h:KnA ap ps K) (hm:p∈K∨cntA ap ps p≤1):K.length≤(K.filter fun o=>!decide (o=p) && !ap p o).length+1:=by
 have e:=len_split (fun o=>!decide (o=p) && !ap p o) K
 have hd:(K.filter fun o=>!(!decide (o=p) && !ap p o)).length≤1:=by
  have nd:(K.filter fun o=>!(!decide (o=p) && !ap p o)).Nodup:=h.nd.sublist List.filter_sublist
  by_cases hp:p∈K
  ·have:=nodup_len (b:=[p]) nd fun x hx=>by
    obtain ⟨h1,h2⟩:=List.mem_filter.mp hx
    by_cases z:x=p
    ·simp [z]
    ·have:=h.two p hp x h1 (Ne.symm z)
     simp [z,this] at h2
   simpa using this
  ·have hc:=hm.resolve_left hp
   have:=nodup_len (b:=ps.filter fun o=>ap p o) nd fun x hx=>by
    obtain ⟨h1,h2⟩:=List.mem_filter.mp hx
    have z:x≠p:=fun z=>hp (z▸h1)
    simp [z] at h2
    exact List.mem_filter.mpr ⟨h.sub x h1,h2⟩
   unfold cntA at hc
   omega
 omega
end
noncomputable def kvA (l:List Nat):List (Key×V):=l.map fun (o:Nat)=>(Sum.inl (o:Int),V.bl true)
theorem kvA_val {x:Nat}:∀l:List Nat,valV (kvA l) (Sum.inl (x:Int))=if x∈l then some (.bl true) else none
 | []=>rfl
 | q::qs=>by
  by_cases e:q=x
  ·subst e
   show valV ((Sum.inl (q:Int),V.bl true)::kvA qs) _=_
   rw [valV_pos rfl];simp
  ·have hn:¬((Sum.inl (q:Int):Key)=Sum.inl (x:Int)):=fun z=>by
    have:=Sum.inl.inj z
    omega
   show valV ((Sum.inl (q:Int),V.bl true)::kvA qs) _=_
   rw [valV_neg hn,kvA_val qs]
   have:x≠q:=fun z=>e z.symm
   simp [this]
theorem puts_A:∀(l:List Nat) (acc:List (Key×V)),l.Nodup→(∀x∈l,valV acc (Sum.inl (x:Int))=none)→putsK acc (l.map fun o=>D.tup [nD o,.bl true])=some (acc++kvA l)
 | [],acc,_,_=>by simp [putsK,kvA]
 | p::ps,acc,nd,h=>by
  have nd':=List.nodup_cons.mp nd
  show putsK (putK acc (Sum.inl (p:Int)) (.bl true)) (ps.map fun o=>D.tup [nD o,.bl true])=_
  rw [puts_A ps _ nd'.2 fun x hx=>?_,putK_new _ (h p (by simp))]
  ·show some ((acc ++ [_])++kvA ps)=some (acc++(_::kvA ps))
   simp
  ·rw [valV_put,if_neg (fun z=>nd'.1 (by
    have:=Sum.inl.inj z
    have:x=p:=by omega
    exact this▸hx))]
   exact h x (by simp [hx])
theorem kvA_in (l:List Nat) (x:Nat):dIn (nD x) (.dk (kvA l))=some (.bl (decide (x∈l))):=by
 show ((some (Sum.inl (x:Int):Key)).map fun k=>(valV (kvA l) k).isSome).map D.bl=_
 simp only [Option.map_some]
 rw [kvA_val]
 by_cases h:x∈l <;> simp [h]
theorem kvA_notIn (l:List Nat) (x:Nat):dNotIn (nD x) (.dk (kvA l))=some (.bl (!decide (x∈l))):=by
 show ((some (Sum.inl (x:Int):Key)).map fun k=>(valV (kvA l) k).isSome).map (fun b=>D.bl (!b))=_
 simp only [Option.map_some]
 rw [kvA_val]
 by_cases h:x∈l <;> simp [h]
noncomputable def apsD (n:Nat) (A:Nat→List Nat):D:=.lst ((List.range n).map fun p=>.dk (kvA (A p)))
theorem aps_ix {n p:Nat} {A:Nat→List Nat} (h:p<n):dIx (apsD n A) (nD p)=some (.dk (kvA (A p))):=by
 show atI _ (p:Int)=_
 refine atI_nat ?_
 rw [List.getElem?_map,List.getElem?_range h];rfl
section
variable {n:Nat} {A:Nat→List Nat} {ap:Nat→Nat→Bool}
theorem dNe_nD (a b:Nat):dNeO (nD a) (nD b)=some (.bl (!decide (a=b))):=by
 rw [nei]
 congr 3
 rw [Bool.eq_iff_iff,beq_iff_eq,decide_eq_true_eq]
 constructor <;> intro h <;> omega
theorem lst_cat {ds es:List D} (h:ds.length+es.length≤100000):dAdd (.lst ds) (.lst es)=some (.lst (ds++es)):=by
 show (if ds.length+es.length≤sizeLine then some (D.lst (ds++es)) else none)=_
 rw [if_pos (by rw [sizeLine_v];omega)]
theorem eq_nil (ds:List D) (hp:plainDs ds=true) (hd:deps ds≤10):dEqO (.lst ds) (.lst [])=some (.bl (decide (ds=[]))):=by
 have hok:okEq (.lst ds) (.lst [])=true:=by
  unfold okEq
  simp [plainD,dep,plainDs,deps,hp]
  omega
 unfold dEqO
 rw [if_pos hok]
 cases ds with
 | nil=>rfl
 | cons a r=>rfl
theorem maxL_any {l:List Nat} (h:l≠[]):dMaxL [.lst (l.map nD)]=some (nD (mxN l)):=by
 cases l with
 | nil=>exact absurd rfl h
 | cons m r=>
  have e:intsOf ((m::r).map nD)=some ((m:Int)::r.map fun (i:Nat)=>(i:Int)):=intsOf_nats (m::r)
  show (match intsOf ((m::r).map nD) with | some (n::r)=>some (D.int (maxI n r)) | _=>none)=_
  rw [e]
  show some (D.int (maxI (m:Int) (r.map fun (i:Nat)=>(i:Int))))=_
  rw [maxI_nat r m]
  have e2:mxN (m::r)=r.foldl max m:=by
   show r.foldl max (max 0 m)=_
   rw [Nat.max_eq_right (Nat.zero_le m)]
  rw [e2]
theorem index_nats {l:List Nat} {v:Nat} (h:v∈l):dIndex (.lst (l.map nD)) (nD v)=some (nD (l.idxOf v)):=by
 show ((intsOf (l.map nD)).bind fun ns=>if (v:Int)∈ns then some (D.int (ns.idxOf (v:Int):Nat)) else none)=_
 rw [intsOf_nats]
 show (if (v:Int)∈l.map (fun (i:Nat)=>(i:Int)) then some (D.int ((l.map fun (i:Nat)=>(i:Int)).idxOf (v:Int):Nat)) else none)=_
 rw [if_pos (List.mem_map.mpr ⟨v,h,rfl⟩)]
 have:(l.map fun (i:Nat)=>(i:Int)).idxOf (v:Int)=l.idxOf v:=by
  clear h
  induction l with
  | nil=>rfl
  | cons a r ih=>
   rw [List.map_cons,List.idxOf_cons,List.idxOf_cons,ih]
   have:((a:Int)==(v:Int))=(a==v):=by
    rw [Bool.eq_iff_iff,beq_iff_eq,beq_iff_eq]
    constructor <;> intro h <;> omega
   rw [this]
 rw [this]
end
end TP3
namespace TP3
open PySem L2 TF TP TS
open TP2
noncomputable def turnT (n:Nat) (ties:List (Nat×Nat)):List (Nat×Nat):=(allP n).filter fun p=>!decide (p∈ties)
theorem turnT_web (n:Nat) (ties:List (Nat×Nat)):IsWeb n (turnT n ties):=IsWeb.filter _
theorem tied_iff {ties:List (Nat×Nat)} {a b:Nat}:tied ties a b=true↔(min a b,max a b)∈ties:=by unfold tied;exact decide_eq_true_iff
theorem tied_turn {n:Nat} {ties:List (Nat×Nat)} {a b:Nat}:tied (turnT n ties) a b=true↔a<n∧b<n∧a≠b∧tied ties a b=false:=by
 rw [tied_iff]
 unfold turnT
 rw [List.mem_filter,mem_allP]
 have e:tied ties a b=decide ((min a b,max a b)∈ties):=rfl
 rw [e]
 simp only [Bool.not_eq_true',decide_eq_false_iff_not]
 constructor
 ·rintro ⟨⟨h1,h2⟩,h3⟩
  exact ⟨by omega,by omega,by omega,h3⟩
 ·rintro ⟨h1,h2,h3,h4⟩
  exact ⟨⟨by omega,by omega⟩,h4⟩
theorem mem_near_turn {n:Nat} {ties:List (Nat×Nat)} (p o:Nat):tied (turnT n ties) p o=decide (o∈nearL n (turnT n ties) p):=by
 unfold nearL
 rw [Bool.eq_iff_iff,decide_eq_true_iff,List.mem_filter,List.mem_range]
 exact ⟨fun h=>⟨(tied_turn.mp h).2.1,h⟩,fun h=>h.2⟩
theorem turn_irr {n:Nat} {ties:List (Nat×Nat)} (a:Nat):tied (turnT n ties) a a=false:=by
 cases h:tied (turnT n ties) a a with
 | false=>rfl
 | true=>exact absurd rfl (tied_turn.mp h).2.2.1
noncomputable def riseOf (n:Nat) (b:List Nat):List Nat:=(List.range n).filter fun x=>decide (x∈b)
theorem riseOf_perm {n:Nat} {b:List Nat} (nd:b.Nodup) (h:∀x∈b,x<n):(riseOf n b).Perm b:=by
 refine (List.perm_ext_iff_of_nodup (List.nodup_range.sublist List.filter_sublist) nd).mpr fun a=>?_
 rw [List.mem_filter,List.mem_range,decide_eq_true_iff]
 exact ⟨fun z=>z.2,fun z=>⟨h a z,z⟩⟩
theorem riseOf_rise (n:Nat) (b:List Nat):(riseOf n b).Pairwise (· < ·):=(range_rise n).sublist List.filter_sublist
noncomputable def longer (a k:List Nat):List Nat:=if a.length<k.length then k else a
noncomputable def mostK (n:Nat) (ties:List (Nat×Nat)):List Nat:=(kn ties n).foldl longer []
theorem longer_spec:∀(l:List (List Nat)) (a:List Nat),(l.foldl longer a=a∨l.foldl longer a∈l)∧a.length≤(l.foldl longer a).length∧∀k∈l,k.length≤(l.foldl longer a).length
 | [],a=>⟨.inl rfl,Nat.le_refl _,fun k h=>by cases h⟩
 | x::r,a=>by
  obtain ⟨h1,h2,h3⟩:=longer_spec r (longer a x)
  have h4:a.length≤(longer a x).length∧x.length≤(longer a x).length∧(longer a x=a∨longer a x=x):=by
   unfold longer
   split
   ·exact ⟨by omega,Nat.le_refl _,.inr rfl⟩
   ·exact ⟨Nat.le_refl _,by omega,.inl rfl⟩
  rw [List.foldl_cons]
  refine ⟨?_,by omega,fun k hk=>?_⟩
  ·rcases h1 with h | h
   ·rcases h4.2.2 with z | z
    ·exact .inl (h.trans z)
    ·exact .inr (by rw [h,z];simp)
   ·exact .inr (by simp [h])
  ·rcases List.mem_cons.mp hk with rfl | hk
   ·omega
   ·exact h3 k hk
theorem sort_rise {n:Nat} {b:List Nat} (nd:b.Nodup) (h:∀x∈b,x<n) (hl:b.length<64):dSorted [.lst (b.map nD)]=some (.lst ((riseOf n b).map nD)):=by
 have e:intsOf (b.map nD)=some (natsI b):=by
  have:b.map nD=(natsI b).map D.int:=by unfold natsI;rw [List.map_map];rfl
  rw [this,intsOf_map]
 show (match intsOf (b.map nD) with | some ns=>if ns.length<64 then some (D.lst ((sortI ns).map .int)) else none | none=>none)=_
 rw [e]
 show (if (natsI b).length<64 then some (D.lst ((sortI (natsI b)).map .int)) else none)=_
 rw [if_pos (by unfold natsI;simp;omega)]
 have q:natsI (riseOf n b)=sortI (natsI b):=sortI_uniq ((riseOf_perm nd h).map _) (List.pairwise_map.mpr ((riseOf_rise n b).imp fun h=>by omega))
 rw [←q]
 unfold natsI
 rw [List.map_map];rfl
theorem mostK_spec {n:Nat} {ties:List (Nat×Nat)} (hw:IsWeb n ties) (hn:n≤24):mostK n ties∈kn ties n∧∀K∈kn ties n,K.length≤(mostK n ties).length:=by
 obtain ⟨h1,_,h3⟩:=longer_spec (kn ties n) []
 refine ⟨?_,h3⟩
 rcases h1 with h | h
 ·show (kn ties n).foldl longer []∈_
  rw [h]
  exact mem_knS.mpr ⟨List.Pairwise.nil,(fun o h=>by cases h),fun a h=>by cases h⟩
 ·exact h
theorem mostK_len {n:Nat} {ties:List (Nat×Nat)}:(mostK n ties).length≤n:=by
 obtain ⟨h1,_,h3⟩:=longer_spec (kn ties n) []
 rcases h1 with h | h
 ·show ((kn ties n).foldl longer []).length≤n
  rw [h];exact Nat.zero_le _
 ·exact (kn_mem h).2
end TP3
namespace TP3
open PySem L2 TF TP TS
open TP2
noncomputable def unD:D→List Nat
 | .tup ds=>ds.map nat0
 | .lst ds=>ds.map nat0
 | _=>[]
theorem unD_tupN (k:List Nat):unD (tupN k)=k:=by
 show (k.map nD).map nat0=k
 rw [List.map_map];exact List.map_id k
noncomputable def unZ (ns:List Int):List Nat:=ns.map Int.toNat
theorem unZ_nats (k:List Nat):unZ (natsI k)=k:=by
 unfold unZ natsI
 rw [List.map_map]
 exact List.map_id' k
noncomputable def fullL (n:Nat) (ties:List (Nat×Nat)):List (List Nat):=(sortT ((fullK n ties).map natsI)).map unZ
theorem fullL_perm (n:Nat) (ties:List (Nat×Nat)):(fullL n ties).Perm (fullK n ties):=by
 have h:=(sortT_perm ((fullK n ties).map natsI)).map unZ
 rw [List.map_map] at h
 have e:(fullK n ties).map (unZ∘natsI)=fullK n ties:=by
  have:unZ∘natsI=id:=funext unZ_nats
  rw [this];exact List.map_id _
 rw [e] at h
 exact h
theorem fullD_L (n:Nat) (ties:List (Nat×Nat)):fullD n ties=(fullL n ties).map tupN:=by
 unfold fullD fullL
 rw [List.map_map]
 refine List.map_congr_left fun ns hns=>?_
 obtain ⟨K,hK,rfl⟩:=List.mem_map.mp ((sortT_perm _).mem_iff.mp hns)
 show _=tupN (unZ (natsI K))
 rw [unZ_nats,tupN_I]
theorem mem_fullL {n:Nat} {ties:List (Nat×Nat)} {k:List Nat}:k∈fullL n ties↔k∈fullK n ties:=(fullL_perm n ties).mem_iff
theorem fullL_len {n:Nat} {ties:List (Nat×Nat)} (hw:IsWeb n ties) (hn:n≤10):(fullL n ties).length≤36:=by
 rw [(fullL_perm n ties).length_eq];exact full_len hw hn
theorem full_kn {n:Nat} {ties:List (Nat×Nat)} {k:List Nat} (h:k∈fullK n ties):k∈kn ties n:=(List.mem_filter.mp h).1
theorem knot_in_full {n:Nat} {ties:List (Nat×Nat)} (hw:IsWeb n ties):∀(j:Nat) (k:List Nat),n-k.length=j→k∈kn ties n→∃F∈fullK n ties,∀x∈k,x∈F:=by
 intro j
 induction j using Nat.strongRecOn with
 | _ j ih=>
  intro k hj hk
  by_cases hf:isFullK n ties k=true
  ·exact ⟨k,List.mem_filter.mpr ⟨hk,hf⟩,fun x hx=>hx⟩
  ·have hf:isFullK n ties k=false:=by simpa using hf
   unfold isFullK at hf
   rw [Bool.not_eq_false',List.any_eq_true] at hf
   obtain ⟨p,hp,ok⟩:=hf
   have hpn:=List.mem_range.mp hp
   have hpk:p∉k:=fun z=>by
    have:=(okN_iff.mp ok p z).2
    rw [IsWeb.irr hw] at this;cases this
   have h2:=(insK_kn hk hpk hpn).mpr ok
   have hl:(insK p k).length=k.length+1:=by rw [(insK_perm hpk).length_eq];simp
   have hle:=(kn_mem h2).2
   obtain ⟨F,hF,hs⟩:=ih (n-(insK p k).length) (by omega) (insK p k) rfl h2
   exact ⟨F,hF,fun x hx=>hs x ((insK_mem hpk x).mpr (.inr hx))⟩
theorem mxN_le {l:List Nat} {b:Nat} (h:∀x∈l,x≤b):mxN l≤b:=foldl_max_le l b h 0 (Nat.zero_le _)
theorem fullL_ne {n:Nat} {ties:List (Nat×Nat)} (hw:IsWeb n ties):fullL n ties≠[]:=fun h=>by
 obtain ⟨F,hF,_⟩:=knot_in_full hw _ [] rfl (mem_knS.mpr ⟨by simp,by simp,by simp⟩)
 have:=mem_fullL.mpr hF
 rw [h] at this;simp at this
end TP3
namespace TP3
open PySem L2 TF TP TS
open TP2
theorem intsOf_nD (k:List Nat):intsOf (k.map nD)=some (natsI k):=by
 have:k.map nD=(natsI k).map D.int:=by unfold natsI;rw [List.map_map];rfl
 rw [this,intsOf_map]
end TP3
namespace TP3
open PySem L2 TF TP TS
open TP2
section
variable (ties:List (Nat×Nat))
end
section
variable {ties:List (Nat×Nat)} {many:Nat}
end
end TP3
namespace TP3
open PySem L2 TF TP TS
open TP2
theorem mFor_find {τ:D→Rho→Option Rho} {body:Rho→M Out} {s:Pn} (I:Rho→Prop) (g:Nat→Option D):∀(l:List Nat) (ρ:Rho),I ρ→
  (∀x∈l,∀ρ,I ρ→∃ρ1,τ (nD x) ρ=some ρ1∧match g x with | some d=>body ρ1 s=some (.rt d,s) | none=>∃ρ2,body ρ1 s=some (.nx ρ2,s)∧I ρ2)→
  match l.findSome? g with | some d=>mFor τ body (l.map nD) ρ s=some (.rt d,s) | none=>∃ρ2,mFor τ body (l.map nD) ρ s=some (.nx ρ2,s)∧I ρ2
 | [],ρ,h0,_=>⟨ρ,rfl,h0⟩
 | x::l,ρ,h0,h=>by
  obtain ⟨ρ1,e1,e2⟩:=h x (by simp) ρ h0
  rw [List.findSome?_cons]
  cases hg:g x with
  | some d=>
   rw [hg] at e2
   exact mFor_cons_rt e1 e2
  | none=>
   rw [hg] at e2
   obtain ⟨ρ2,e3,h2⟩:=e2
   have ih:=mFor_find I g l ρ2 h2 fun y hy=>h y (by simp [hy])
   simp only
   cases hl:l.findSome? g with
   | some d=>rw [hl] at ih;exact mFor_cons_nx e1 e3 ih
   | none=>
    rw [hl] at ih
    obtain ⟨ρ3,e4,h3⟩:=ih
    exact ⟨ρ3,mFor_cons_nx e1 e3 e4,h3⟩
end TP3
namespace TP3
open PySem L2 TF TP TS
open TP2
end TP3
namespace TP3
open PySem L2 TF TP TS
open TP2
end TP3
namespace TQ
open PySem L2 TF TS
open TP
open TP2
open TP3
theorem app_eq {T:Nat→List D→M D} {i t:Nat} {fs:Rho→M (List D)} {ρ:Rho} {s s1:Pn} {ds cds:List D} {r:Option (D×Pn)} (h1:(ρ[i]?).bind id=some (.clo t cds)) (h2:fs ρ s=some (ds,s1)) (h3:T t (ds++cds) s1=r):dApp T i fs ρ s=r:=by
 unfold dApp mbind dVar mOf
 rw [h1]
 simp only [h2]
 exact h3
theorem fnC_eq {F:List D→M D} {t:Nat} {cix:List Nat} {f:Rho→M D} {ρ:Rho} {s s1 s2:Pn} {d c:D} {cds:List D} (h1:f ρ s=some (d,s1)) (h2:capsD ρ cix=some cds) (n1:noClo d=true) (n2:noClos cds=true) (h3:F [d,.clo t cds] s1=some (c,s2)) (n3:noClo c=true):dFnC F t cix f ρ s=some (c,s2):=by
 unfold dFnC mbind mOf
 rw [h1,h2]
 simp only
 rw [if_pos (by rw [n1,n2];rfl),h3]
 simp only
 rw [if_pos n3]
 rfl
theorem noClos_of:∀{ds:List D},(∀d∈ds,noClo d=true)→noClos ds=true
 | [],_=>rfl
 | d::ds,h=>by
  show (noClo d&&noClos ds)=true
  rw [h d List.mem_cons_self,noClos_of fun x (hx:x∈ds)=>h x (List.mem_cons_of_mem _ hx)]
  rfl
theorem runE_eq {n:Nat} {f:Rho→M D} {ds:List D} {s:Pn} {r:Option (D×Pn)} (hl:ds.length=n) (h:f (ds.map some) s=r):runE n f ds s=r:=by
 unfold runE
 rw [if_pos hl]
 exact h
theorem noClo_web (n:Nat) (ties:List (Nat×Nat)):noClo (webD n ties)=true:=by
 have:noClos (ties.map pairD)=true:=noClos_of fun d hd=>by obtain ⟨p,_,rfl⟩:=List.mem_map.mp hd;rfl
 simp only [webD,noClo,noClos,this];rfl
theorem noClos_range (lo:Int) (n:Nat):noClos (dRange lo n)=true:=noClos_of fun d hd=>by
 unfold dRange at hd
 obtain ⟨i,_,rfl⟩:=List.mem_map.mp hd
 rfl
theorem noClos_pairs (l:List (Nat×Nat)):noClos (l.map pairD)=true:=noClos_of fun d hd=>by obtain ⟨p,_,rfl⟩:=List.mem_map.mp hd;rfl
theorem web_where_eq {row:D} {ds cds:List D} {t:Nat} (h:SeqD row ds) (hn:ds.length≤1000) (b:Nat×Nat→Bool) (s:Pn) (hb:∀p∈allP ds.length,Tl t ([ds.getD p.1 .non,ds.getD p.2 .non]++cds) s=some (.bl (b p),s)):F_web_where [row,.clo t cds] s=some (webD ds.length ((allP ds.length).filter b),s):=by
 have hln:∀r,dCall dLen (dCons (dVar 0) dNil) (some row::r) s=some (nD ds.length,s):=fun r=>call_eq (cons_eq rfl rfl) h.len
 refine runB_eq rfl (sSeq_nx (sSet_eq (fn_eq (cons_eq (listRange_eq (hln _) hn) rfl) (pairs_range s hn))) (sSeq_rt (sRet_eq ?_)))
 have hap:=allP_len ds.length hn
 have hc:=ev_comp (src:=[none,some 1,some 0]) (fi:=iSeqL (dVar 2)) (τ:=gOne 0) (ft:=asB (dApp Tl 1 (dCons (dOp dIx (dVar 2) (dOp dIx (dVar 0) (dC (.int 0)))) (dCons (dOp dIx (dVar 2) (dOp dIx (dVar 0) (dC (.int 1)))) dNil)))) (fe:=dVar 0) (ρ:=[some row,some (.clo t cds),some (.lst ((allP ds.length).map pairD))]) (s:=s) (ds:=(allP ds.length).map pairD) (fun d=>[some d,some (.clo t cds),some row]) (fun d=>b (nat2 d)) (fun d=>d) (seqL_eq rfl) (by rw [List.length_map,sizeLine_v];omega) fun d hd=>by
  obtain ⟨p,hpm,rfl⟩:=List.mem_map.mp hd
  have hpp:=mem_allP.mp hpm
  refine ⟨rfl,asB_eq (app_eq (t:=t) (cds:=cds) rfl (cons_eq (op_eq' (d:=row) (e:=nD p.1) rfl (op_eq' (d:=pairD p) (e:=.int 0) rfl rfl (atI_0 _ _)) (h.ix (by omega))) (cons_eq (op_eq' (d:=row) (e:=nD p.2) rfl (op_eq' (d:=pairD p) (e:=.int 1) rfl rfl (atI_1 _ _ _)) (h.ix (by omega))) rfl)) (hb p hpm)),fun _=>rfl⟩
 rw [filter_pairs (allP ds.length) _ b fun p=>by rw [nat2_pair]] at hc
 exact tup_eq (cons_eq (hln _) (cons_eq (call_eq (cons_eq hc rfl) rfl) rfl)) two_le
theorem range_getD {n i:Nat} (h:i<n):(dRange 0 n).getD i .non=nD i:=by
 rw [dRange0]
 simp [List.getD,h]
theorem qturned_eq (n:Nat) (ties:List (Nat×Nat)) (s:Pn) (hn:n≤1000) (hl:ties.length≤100000):F_turned [webD n ties] s=some (webD n ((allP n).filter fun p=>!decide (p∈ties)),s):=by
 refine runB_eq rfl (sSeq_nx (sSet_eq (fn_eq (cons_eq rfl rfl) (marked_eq n ties s hl))) (sSeq_rt (sRet_eq ?_)))
 refine fnC_eq (d:=.lst (dRange 0 n)) (cds:=[.dt (kvT [] ties)]) (listRange_eq (op_eq' (d:=webD n ties) (e:=.int 0) rfl rfl web0) hn) rfl (by simp only [noClo];exact noClos_range _ _) rfl ?_ (noClo_web _ _)
 have:=web_where_eq (row:=.lst (dRange 0 n)) (ds:=dRange 0 n) (cds:=[.dt (kvT [] ties)]) (t:=0) (.inl rfl) (by rw [dRange_len];exact hn) (fun p=>!decide (p∈ties)) s (fun p hp=>by
  rw [dRange_len] at hp
  have hpp:=mem_allP.mp hp
  rw [range_getD (by omega),range_getD (by omega)]
  show L_lam_turned [nD p.1,nD p.2,.dt (kvT [] ties)] s=_
  refine runE_eq rfl ?_
  refine vNot_eq (a:=decide (p∈ties)) (fn_eq (cons_eq rfl (cons_eq rfl (cons_eq rfl rfl))) ?_)
  rw [are_tiedD_eq,tied_lt hpp.1])
 rw [dRange_len] at this
 exact this
noncomputable def spo (lens:List Nat):List (Nat×Nat):=(List.range lens.length).flatMap fun i=>(List.range (lens.getD i 0)).map fun j=>(i,j)
noncomputable def preS (lens:List Nat) (k:Nat):List (Nat×Nat):=(List.range k).flatMap fun i=>(List.range (lens.getD i 0)).map fun j=>(i,j)
theorem preS_succ (lens:List Nat) (k:Nat):preS lens (k+1)=preS lens k++(List.range (lens.getD k 0)).map fun j=>(k,j):=by
 unfold preS
 rw [List.range_succ,List.flatMap_append]
 simp
theorem getD_le {lens:List Nat} {B:Nat} (h:∀x∈lens,x≤B) (i:Nat):lens.getD i 0≤B:=by
 rw [List.getD_eq_getElem?_getD]
 cases e:lens[i]? with
 | none=>exact Nat.zero_le _
 | some x=>exact h x (List.mem_of_getElem? e)
theorem preS_len {lens:List Nat} {B:Nat} (h:∀x∈lens,x≤B):∀k,(preS lens k).length≤k*B
 | 0=>by simp [preS]
 | k+1=>by
  rw [preS_succ,List.length_append,List.length_map,List.length_range]
  have:=preS_len h k
  have:=getD_le h k
  rw [Nat.succ_mul];omega
theorem spots_eq (lens:List Nat) (hl:lens.length≤1000) (hb:∀x∈lens,x≤1000) (s:Pn):F_spots [.lst (lens.map nD)] s=some (.lst ((spo lens).map pairD),s):=by
 refine runB_eq rfl (Ok.toEq ?_)
 refine Ok.seq (.sown (.eq (a:=.lst []) rfl ⟨rfl,?_⟩))
 show Ok _ s _
 refine Ok.seq (.sfor (fun i ρ s'=>s=s'∧∃o2,ρ=[some (.lst (lens.map nD)),some (.lst ((preS lens i).map pairD)),o2]) (.eq (ev_range1 (n:=lens.length) (call_eq (cons_eq rfl rfl) (lenL_nats lens)) (by omega)) ⟨⟨rfl,none,rfl⟩,fun i d ρ s' hd hI=>?_,fun ρ' s' hI=>?_⟩))
 ·obtain ⟨rfl,o2,rfl⟩:=hI
  obtain ⟨hi,rfl⟩:=dRange_get0 hd
  refine ⟨_,rfl,?_⟩
  have hx:=getD_le hb i
  have hp:=preS_len hb i
  have hp2:i*1000≤1000*1000:=Nat.mul_le_mul (by omega) (Nat.le_refl _)
  refine Ok.seq (.sext (ds:=(preS lens i).map pairD) rfl (.eq (s':=s) (a:=.lst ((List.range (lens.getD i 0)).map fun j=>pairD (i,j))) ?_ ⟨_,rfl,?_,?_⟩))
  ·have hc:=ev_comp (src:=[none,some 2]) (fi:=iRange1 (dOp dIx (dVar 0) (dVar 2))) (τ:=gOne 0) (ft:=bTrue) (fe:=dTup (dCons (dVar 1) (dCons (dVar 0) dNil))) (ρ:=[some (.lst (lens.map nD)),none,some (nD i)]) (s:=s) (ds:=dRange 0 (lens.getD i 0)) (fun d=>[some d,some (nD i)]) (fun _=>true) (fun d=>pairD (i,nat0 d)) (ev_range1 (op_eq' (d:=.lst (lens.map nD)) (e:=nD i) rfl rfl (getD_nD hi)) (by omega)) (by rw [dRange_len,sizeLine_v];omega) fun d hd=>by
    obtain ⟨j,hj,rfl⟩:=dRange_mem hd
    exact ⟨rfl,rfl,fun _=>tup_eq (cons_eq rfl (cons_eq rfl rfl)) two_le⟩
   rw [filter_tt,dRange0,List.map_map] at hc
   exact hc
  ·rw [List.length_map,List.length_map,List.length_range,sizeLine_v];omega
  ·refine Ok.next ⟨_,rfl,rfl,some (nD i),?_⟩
   rw [preS_succ,List.map_append,List.map_map]
   rfl
 ·obtain ⟨rfl,o2,rfl⟩:=hI
  refine Ok.seq (.sret (.eq rfl ⟨?_,rfl⟩))
  rw [dRange_len];rfl
theorem pairs_getD {l:List (Nat×Nat)} {i:Nat} (h:i<l.length):(l.map pairD).getD i .non=pairD (l.getD i (0,0)):=by
 rw [List.getD_eq_getElem?_getD,List.getElem?_map,List.getD_eq_getElem?_getD,List.getElem?_eq_getElem h]
 rfl
noncomputable def putB (ties:List (Nat×Nat)) (inner:List (List (Nat×Nat))) (a b:Nat×Nat):Bool:=if a.1=b.1 then tied (inner.getD a.1 []) a.2 b.2 else tied ties a.1 b.1
noncomputable def putT (ties:List (Nat×Nat)) (ws:List (Nat×List (Nat×Nat))):List (Nat×Nat):=(allP (spo (ws.map (·.1))).length).filter fun p=>putB ties (ws.map (·.2)) ((spo (ws.map (·.1))).getD p.1 (0,0)) ((spo (ws.map (·.1))).getD p.2 (0,0))
noncomputable def websD (ws:List (Nat×List (Nat×Nat))):List D:=ws.map fun w=>webD w.1 w.2
theorem mem_spo {lens:List Nat} {p:Nat×Nat}:p∈spo lens↔p.1<lens.length∧p.2<lens.getD p.1 0:=by
 unfold spo
 rw [List.mem_flatMap]
 constructor
 ·rintro ⟨i,hi,h⟩
  obtain ⟨j,hj,rfl⟩:=List.mem_map.mp h
  exact ⟨List.mem_range.mp hi,List.mem_range.mp hj⟩
 ·rintro ⟨h1,h2⟩
  exact ⟨p.1,List.mem_range.mpr h1,List.mem_map.mpr ⟨p.2,List.mem_range.mpr h2,rfl⟩⟩
theorem put_in_eq (n:Nat) (ties:List (Nat×Nat)) (ws:List (Nat×List (Nat×Nat))) (hl:ties.length≤100000) (hw:∀w∈ws,w.2.length≤100000∧w.1≤1000) (hwl:ws.length≤1000) (hN:(spo (ws.map (·.1))).length≤1000) (s:Pn) :
  F_put_in [webD n ties,.lst (websD ws)] s=some (webD (spo (ws.map (·.1))).length (putT ties ws),s):=by
 have hws:(websD ws).length≤sizeLine:=by unfold websD;rw [List.length_map,sizeLine_v];omega
 have hcm:=ev_comp (src:=[none]) (fi:=iSeqL (dVar 1)) (τ:=gOne 0) (ft:=bTrue) (fe:=dFn F_marked_ties (dCons (dVar 0) dNil)) (ρ:=[some (webD n ties),some (.lst (websD ws)),some (.dt (kvT [] ties)),none,none]) (s:=s) (ds:=websD ws) (fun d=>[some d]) (fun _=>true) (fun d=>match d with | .tup [_,.tup ts]=>.dt (kvT [] (ts.map nat2)) | _=>.non) (seqL_eq rfl) hws fun d hd=>by
  obtain ⟨w,hm,rfl⟩:=List.mem_map.mp hd
  refine ⟨rfl,rfl,fun _=>fn_eq (cons_eq rfl rfl) ?_⟩
  rw [marked_eq w.1 w.2 s (hw w hm).1]
  show _=some (D.dt (kvT [] ((w.2.map pairD).map nat2)),s)
  rw [List.map_map,show (nat2∘pairD)=id from rfl,List.map_id]
 have em:((websD ws).filter fun _=>true).map (fun d=>match d with | D.tup [_,.tup ts]=>D.dt (kvT [] (ts.map nat2)) | _=>.non)=(ws.map (·.2)).map fun ts=>D.dt (kvT [] ts):=by
  rw [filter_tt]
  unfold websD
  rw [List.map_map,List.map_map]
  refine List.map_congr_left fun w _=>?_
  show D.dt (kvT [] ((w.2.map pairD).map nat2))=_
  rw [List.map_map,show (nat2∘pairD)=id from rfl,List.map_id]
  rfl
 rw [em] at hcm
 have hcl:=ev_comp (src:=[none]) (fi:=iSeqL (dVar 1)) (τ:=gOne 0) (ft:=bTrue) (fe:=dOp dIx (dVar 0) (dC (.int 0))) (ρ:=[some (webD n ties),some (.lst (websD ws)),some (.dt (kvT [] ties)),some (.lst ((ws.map (·.2)).map fun ts=>D.dt (kvT [] ts))),none]) (s:=s) (ds:=websD ws) (fun d=>[some d]) (fun _=>true) (fun d=>match d with | .tup [a,_]=>a | _=>.non) (seqL_eq rfl) hws fun d hd=>by
  obtain ⟨w,hm,rfl⟩:=List.mem_map.mp hd
  exact ⟨rfl,rfl,fun _=>op_eq' (d:=webD w.1 w.2) (e:=.int 0) rfl rfl web0⟩
 have el:((websD ws).filter fun _=>true).map (fun d=>match d with | D.tup [a,_]=>a | _=>.non)=(ws.map (·.1)).map nD:=by
  rw [filter_tt]
  unfold websD
  rw [List.map_map,List.map_map]
  rfl
 rw [el] at hcl
 refine runB_eq rfl (sSeq_nx (sSet_eq (fn_eq (cons_eq rfl rfl) (marked_eq n ties s hl))) (sSeq_nx (sSet_eq hcm) ?_))
 unfold sDefRet
 rw [if_pos (by simp)]
 have hs0:=spots_eq (ws.map (·.1)) (by rw [List.length_map];exact hwl) (fun x hx=>by obtain ⟨w,hm,rfl⟩:=List.mem_map.mp hx;exact (hw w hm).2) s
 have c1:=cons_eq hcl (nil_eq (ρ:=[some (webD n ties),some (.lst (websD ws)),some (.dt (kvT [] ties)),some (.lst ((ws.map (·.2)).map fun ts=>D.dt (kvT [] ts))),none]) (s:=s))
 have hsp:=fn_eq (F:=F_spots) c1 hs0
 show sRet _ [some (webD n ties),some (.lst (websD ws)),some (.dt (kvT [] ties)),some (.lst ((ws.map (·.2)).map fun ts=>D.dt (kvT [] ts))),none] s=_
 refine sRet_eq (fnC_eq (cds:=[.lst ((ws.map (·.2)).map fun ts=>D.dt (kvT [] ts)),.dt (kvT [] ties)]) hsp rfl (by simp only [noClo];exact noClos_pairs _) ?_ ?_ (noClo_web _ _))
 ·have:noClos ((ws.map (·.2)).map fun ts=>D.dt (kvT [] ts))=true:=noClos_of fun d hd=>by obtain ⟨w,_,rfl⟩:=List.mem_map.mp hd;rfl
  simp only [noClos,noClo,this];rfl
 have:=web_where_eq (row:=.lst ((spo (ws.map (·.1))).map pairD)) (ds:=(spo (ws.map (·.1))).map pairD) (cds:=[.lst ((ws.map (·.2)).map fun ts=>D.dt (kvT [] ts)),.dt (kvT [] ties)]) (t:=3) (.inl rfl) (by rw [List.length_map];exact hN) (fun p=>putB ties (ws.map (·.2)) ((spo (ws.map (·.1))).getD p.1 (0,0)) ((spo (ws.map (·.1))).getD p.2 (0,0))) s (fun p hpm=>by
  rw [List.length_map] at hpm
  have hpp:=mem_allP.mp hpm
  rw [pairs_getD (by omega),pairs_getD (by omega)]
  generalize ha:(spo (ws.map (·.1))).getD p.1 (0,0)=a
  generalize hb:(spo (ws.map (·.1))).getD p.2 (0,0)=b
  have ham:a∈spo (ws.map (·.1)):=by
   rw [←ha,List.getD_eq_getElem?_getD,List.getElem?_eq_getElem (show p.1<(spo (ws.map (·.1))).length by omega)]
   exact List.getElem_mem _
  have hal:a.1<ws.length:=by have:=(mem_spo.mp ham).1;rw [List.length_map] at this;exact this
  show L_lam_put_in [pairD a,pairD b,.lst ((ws.map (·.2)).map fun ts=>D.dt (kvT [] ts)),.dt (kvT [] ties)] s=_
  refine runB_eq rfl ?_
  have c0:asB (dOp dEqO (dOp dIx (dVar 0) (dC (.int 0))) (dOp dIx (dVar 1) (dC (.int 0)))) [some (pairD a),some (pairD b),some (.lst ((ws.map (·.2)).map fun ts=>D.dt (kvT [] ts))),some (.dt (kvT [] ties))] s=some (((a.1:Nat):Int)==((b.1:Nat):Int),s):=asB_eq (op_eq' (d:=nD a.1) (e:=nD b.1) (op_eq' (d:=pairD a) (e:=.int 0) rfl rfl (atI_0 _ _)) (op_eq' (d:=pairD b) (e:=.int 0) rfl rfl (atI_0 _ _)) (eqi _ _))
  unfold putB
  by_cases hab:a.1=b.1
  ·rw [if_pos hab]
   have e1:(((a.1:Nat):Int)==((b.1:Nat):Int))=true:=by rw [hab];simp
   rw [e1] at c0
   refine sSeq_rt (sIf_t c0 (sSeq_rt (sRet_eq (fn_eq (cons_eq (op_eq' (d:=.lst ((ws.map (·.2)).map fun ts=>D.dt (kvT [] ts))) (e:=nD a.1) (c:=.dt (kvT [] ((ws.map (·.2)).getD a.1 []))) rfl (op_eq' (d:=pairD a) (e:=.int 0) rfl rfl (atI_0 _ _)) ?_) (cons_eq (op_eq' (d:=pairD a) (e:=.int 1) rfl rfl (atI_1 _ _ _)) (cons_eq (op_eq' (d:=pairD b) (e:=.int 1) rfl rfl (atI_1 _ _ _)) rfl))) (are_tiedD_eq _ _ _ s)))))
   refine atI_nat ?_
   rw [List.getElem?_map,List.getElem?_map,List.getD_eq_getElem?_getD,List.getElem?_map,List.getElem?_eq_getElem hal]
   rfl
  ·rw [if_neg hab]
   have e1:(((a.1:Nat):Int)==((b.1:Nat):Int))=false:=by simp;omega
   rw [e1] at c0
   exact sSeq_nx (sIf_f c0 rfl) (sSeq_rt (sRet_eq (fn_eq (cons_eq rfl (cons_eq (op_eq' (d:=pairD a) (e:=.int 0) rfl rfl (atI_0 _ _)) (cons_eq (op_eq' (d:=pairD b) (e:=.int 0) rfl rfl (atI_0 _ _)) rfl))) (are_tiedD_eq _ _ _ s)))))
 rw [List.length_map] at this
 exact this
end TQ
namespace TQ
open PySem L2 TF TS
open TP
open TP2
open TP3
noncomputable def nearB (ties:List (Nat×Nat)) (a b:Nat):Bool:=decide (a=b)||tied ties a b
theorem vor_eq {f g:Rho→M D} {ρ:Rho} {s:Pn} {a b:Bool} (h:f ρ s=some (.bl a,s)) (h2:a=false→g ρ s=some (.bl b,s)):vOr f g ρ s=some (.bl (a||b),s):=by
 unfold vOr mbind
 rw [h]
 cases a with
 | true=>rfl
 | false=>exact h2 rfl
theorem eqn (a b:Nat):dEqO (nD a) (nD b)=some (.bl (decide (a=b))):=by
 rw [eqi]
 congr 2
 rw [Bool.eq_iff_iff,beq_iff_eq,decide_eq_true_eq]
 omega
theorem same_or_tied_eq (ties:List (Nat×Nat)) (a b:Nat) (s:Pn):F_is_same_or_tied [.dt (kvT [] ties),nD a,nD b] s=some (.bl (nearB ties a b),s):=
 runB_eq rfl (sSeq_rt (sRet_eq (vor_eq (op_eq' rfl rfl (eqn a b)) fun _=>fn_eq (cons_eq rfl (cons_eq rfl (cons_eq rfl rfl))) (are_tiedD_eq ties a b s))))
theorem spo_pre (lens:List Nat):spo lens=preS lens lens.length:=rfl
theorem preS_len' (lens:List Nat):∀k,(preS lens k).length=((List.range k).map fun i=>lens.getD i 0).sum
 | 0=>rfl
 | k+1=>by
  rw [preS_succ,List.length_append,preS_len' lens k,List.range_succ,List.map_append,List.sum_append]
  simp
theorem preS_same (m:Nat) {lens:List Nat}:∀{k:Nat},(∀i<k,lens.getD i 0=m)→preS lens k=(List.range (k*m)).map fun x=>(x / m,x % m)
 | 0,_=>by simp [preS]
 | k+1,h=>by
  rw [preS_succ,preS_same m fun i hi=>h i (by omega),h k (by omega),Nat.succ_mul,List.range_add,List.map_append,List.map_map]
  congr 1
  refine List.map_congr_left fun j hj=>?_
  have hj:=List.mem_range.mp hj
  show (k,j)=((k*m+j) / m,(k*m+j) % m)
  rw [Nat.mul_comm k m,Nat.mul_add_div (by omega),Nat.div_eq_of_lt hj,Nat.mul_add_mod,Nat.mod_eq_of_lt hj]
  rfl
theorem spo_same (n m:Nat):spo (List.replicate n m)=(List.range (n*m)).map fun x=>(x / m,x % m):=by
 rw [spo_pre,List.length_replicate]
 exact preS_same m fun i hi=>by rw [List.getD_eq_getElem?_getD,List.getElem?_replicate,if_pos hi];rfl
noncomputable def pairT (n m:Nat) (t1 t2:List (Nat×Nat)):List (Nat×Nat):=(allP (n*m)).filter fun p=>nearB t1 (p.1 / m) (p.2 / m)&&nearB t2 (p.1 % m) (p.2 % m)
theorem vand_eq {f g:Rho→M D} {ρ:Rho} {s:Pn} {a b:Bool} (h:f ρ s=some (.bl a,s)) (h2:g ρ s=some (.bl b,s)):vAnd f g ρ s=some (.bl (a&&b),s):=vAnd_eq h fun _=>h2
theorem rep_flat (m:Nat):∀k:Nat,(List.replicate k [nD m]).flatten=(List.replicate k m).map nD
 | 0=>rfl
 | k+1=>by rw [List.replicate_succ,List.replicate_succ,List.flatten_cons,rep_flat m k];rfl
theorem by_pairs_eq (n m:Nat) (t1 t2:List (Nat×Nat)) (h1:t1.length≤100000) (h2:t2.length≤100000) (hn:n≤1000) (hm:m≤1000) (hN:n*m≤1000) (s:Pn):F_by_pairs [webD n t1,webD m t2] s=some (webD (n*m) (pairT n m t1 t2),s):=by
 have hs0:=spots_eq (List.replicate n m) (by simp;omega) (fun x hx=>by rw [(List.mem_replicate.mp hx).2];exact hm) s
 rw [spo_same] at hs0
 have hml:dMulA (.lst [nD m]) (nD n)=some (.lst ((List.replicate n m).map nD)):=by
  rw [mulL_eq _ _ ⟨by omega,by omega,by simp only [List.length_singleton,Int.toNat_natCast,sizeLine_v];omega⟩]
  rw [Int.toNat_natCast,rep_flat]
 have c1:=cons_eq (f:=dOp dMulA (dLst (dCons (dOp dIx (dVar 1) (dC (.int 0))) dNil)) (dOp dIx (dVar 0) (dC (.int 0)))) (ρ:=[some (webD n t1),some (webD m t2),some (.dt (kvT [] t1)),some (.dt (kvT [] t2)),none]) (s:=s) (op_eq' (d:=.lst [nD m]) (e:=nD n) (lst_eq (cons_eq (op_eq' (d:=webD m t2) (e:=.int 0) rfl rfl web0) nil_eq) (by show 1≤sizeLine;decide)) (op_eq' (d:=webD n t1) (e:=.int 0) rfl rfl web0) hml) nil_eq
 have hsp:=fn_eq (F:=F_spots) c1 hs0
 refine runB_eq rfl (sSeq_nx (sSet_eq (fn_eq (cons_eq rfl rfl) (marked_eq n t1 s h1))) (sSeq_nx (sSet_eq (fn_eq (cons_eq rfl rfl) (marked_eq m t2 s h2))) ?_))
 unfold sDefRet
 rw [if_pos (by simp)]
 show sRet _ [some (webD n t1),some (webD m t2),some (.dt (kvT [] t1)),some (.dt (kvT [] t2)),none] s=_
 refine sRet_eq (fnC_eq (cds:=[.dt (kvT [] t1),.dt (kvT [] t2)]) hsp rfl (by simp only [noClo];exact noClos_pairs _) rfl ?_ (noClo_web _ _))
 have:=web_where_eq (row:=.lst (((List.range (n*m)).map fun x=>(x / m,x % m)).map pairD)) (ds:=((List.range (n*m)).map fun x=>(x / m,x % m)).map pairD) (cds:=[.dt (kvT [] t1),.dt (kvT [] t2)]) (t:=4) (.inl rfl) (by simp;exact hN) (fun p=>nearB t1 (p.1 / m) (p.2 / m)&&nearB t2 (p.1 % m) (p.2 % m)) s (fun p hpm=>by
  simp only [List.length_map,List.length_range] at hpm
  have hpp:=mem_allP.mp hpm
  rw [pairs_getD (by simp;omega),pairs_getD (by simp;omega)]
  have g:∀i,i<n*m→((List.range (n*m)).map fun x=>(x / m,x % m)).getD i (0,0)=(i / m,i % m):=fun i hi=>by
   rw [List.getD_eq_getElem?_getD,List.getElem?_map,List.getElem?_range hi];rfl
  rw [g _ (by omega),g _ (by omega)]
  show L_lam_by_pairs [pairD (p.1 / m,p.1 % m),pairD (p.2 / m,p.2 % m),.dt (kvT [] t1),.dt (kvT [] t2)] s=_
  exact runB_eq rfl (sSeq_rt (sRet_eq (vand_eq (fn_eq (cons_eq rfl (cons_eq (op_eq' (d:=pairD (p.1 / m,p.1 % m)) (e:=.int 0) rfl rfl (atI_0 _ _)) (cons_eq (op_eq' (d:=pairD (p.2 / m,p.2 % m)) (e:=.int 0) rfl rfl (atI_0 _ _)) rfl))) (same_or_tied_eq t1 _ _ s)) (fn_eq (cons_eq rfl (cons_eq (op_eq' (d:=pairD (p.1 / m,p.1 % m)) (e:=.int 1) rfl rfl (atI_1 _ _ _)) (cons_eq (op_eq' (d:=pairD (p.2 / m,p.2 % m)) (e:=.int 1) rfl rfl (atI_1 _ _ _)) rfl))) (same_or_tied_eq t2 _ _ s))))))
 simp only [List.length_map,List.length_range] at this
 exact this
end TQ
namespace TQ
open PySem L2 TF TS
open TP
open TP2
open TP3
theorem fdivN (a b:Nat) (h:0<b) (h2:b<1073741824):dFdiv (nD a) (nD b)=some (nD (a / b)):=by
 show (if (decide ((0:Int)<(b:Int))&&decide ((b:Int)<1073741824))=true then some (D.int ((a:Int) / (b:Int))) else none)=_
 rw [if_pos (by simp;omega)]
 rfl
theorem mulN (a b:Nat) (h:a<1000000):dMul (nD a) (nD b)=some (nD (a*b)):=by
 show (if cMulB (a:Int) (b:Int)=true then some (D.int ((a:Int)*(b:Int))) else none)=_
 rw [if_pos (by unfold cMulB;simp;left;omega)]
 simp [nD]
theorem maxN (a b:Nat):dMax2 [nD a,nD b]=some (nD (max a b)):=by
 show some (D.int (if (b:Int) > (a:Int) then (b:Int) else (a:Int)))=_
 rw [max_eq]
theorem minN (a b:Nat):dMin2 [nD a,nD b]=some (nD (min a b)):=by
 show some (D.int (if (b:Int)<(a:Int) then (b:Int) else (a:Int)))=_
 rw [min_eq]
theorem Ok.pick {fs:Rho→M (List D)} {gs:Rho→M (List D)} {ρ:Rho} {s:Pn} {m T:Nat} {ds:List D} {Q:D→Pn→Prop} (hl:gs ρ s=some (ds,s)) (hm1:ds.length=m) (ok:okD T s) (hT:T<1000000000) (h1:fs ρ s=some ([.pen,.int (m:Int)],s)) (hm:0<m) (hm2:m<1000) (h:∀d s',d∈ds→okD (T+1) s'→Q d s'):Ok (dOp dIx (dLst gs) (dFn drawF fs) ρ) s Q:=by
 refine .op (.eq (lst_eq hl (by rw [sizeLine_v];omega)) (.drawD ok hT h1 hm (by omega) fun r s' hr ok'=>?_))
 obtain ⟨d,hd,e⟩:=pick_ix (ds:=ds) (r:=r) (by omega)
 exact ⟨d,e,h d s' hd ok'⟩
end TQ
namespace TQ
open PySem L2 TF TS
open TP
open TP2
open TP3
theorem ix_last (ds:List D) (d:D):dIx (.lst (ds ++ [d])) (.int (-1))=some d:=by
 show atI (ds ++ [d]) (-1)=_
 unfold atI ixN
 rw [if_neg (by decide),if_pos (by simp;omega)]
 rw [List.length_append,List.length_singleton]
 show (ds ++ [d])[(-1+((ds.length+1:Nat):Int)).toNat]?=_
 rw [show (-1+((ds.length+1:Nat):Int)).toNat=ds.length by omega]
 simp
noncomputable def Webs (lim:Nat) (ws:List (Nat×List (Nat×Nat))):Prop:=(∀w∈ws,IsWeb w.1 w.2)∧(ws.map (·.1)).sum≤lim
theorem Webs.le {lim:Nat} {ws:List (Nat×List (Nat×Nat))} (h:Webs lim ws):∀w∈ws,w.1≤lim:=fun w hw=>by
 have:=h.2
 have h2:∀{l:List Nat} {x:Nat},x∈l→x≤l.sum:=fun {l x} hx=>by
  induction l with
  | nil=>cases hx
  | cons a l ih=>
   rw [List.sum_cons]
   rcases List.mem_cons.mp hx with e | e
   ·omega
   ·have:=ih e;omega
 have:=h2 (List.mem_map_of_mem (f:=(·.1)) hw)
 omega
theorem twebs_ok {T:Nat} {s:Pn} (ok:okD T s) (hT:T<800000000) (many lim:Nat) (hl:lim≤24) (hm:many≤1000):Ok (F__law_twebs [.pen,nD many,nD lim]) s fun d s'=>okD (T+1+many*1000) s'∧∃ws,d=.lst (websD ws)∧ws.length=many∧Webs lim ws:=by
 refine Ok.runB rfl ?_
 refine Ok.seq (.sset (Ok.pick (m:=5) (ds:=[nD 1,nD 2,nD 5,nD 12,nD 24]) rfl rfl ok (by omega) rfl (by omega) (by omega) fun sz s1 hsz ok1=>?_))
 obtain ⟨z,rfl,hz⟩:∃z:Nat,sz=nD z∧z≤24:=by
  simp only [List.mem_cons,List.not_mem_nil,or_false] at hsz
  rcases hsz with rfl | rfl | rfl | rfl | rfl
  ·exact ⟨1,rfl,by omega⟩
  ·exact ⟨2,rfl,by omega⟩
  ·exact ⟨5,rfl,by omega⟩
  ·exact ⟨12,rfl,by omega⟩
  ·exact ⟨24,rfl,by omega⟩
 refine Ok.seq (.sown (.eq (a:=.lst []) rfl ⟨rfl,?_⟩))
 refine Ok.seq (.sset (.eq rfl ?_))
 refine Ok.seq (.sfor (fun i ρ s'=>okD (T+1+i*1000) s'∧∃(ws:List (Nat×List (Nat×Nat))) (o6:Option D),ws.length=i∧Webs lim ws∧ρ=[some .pen,some (nD many),some (nD lim),some (nD z),some (.lst (websD ws)),some (nD (lim-(ws.map (·.1)).sum)),o6]) (.eq (ev_range1 (n:=many) rfl (by omega)) ⟨⟨ok1.mono (by omega),[],none,rfl,⟨fun w hw=>(by cases hw),Nat.zero_le _⟩,rfl⟩,fun i d ρ s' hd hI=>?_,fun ρ' s' hI=>?_⟩))
 ·obtain ⟨ok2,ws,o6,hwl,hws,rfl⟩:=hI
  obtain ⟨hi,rfl⟩:=dRange_get0 hd
  refine ⟨_,rfl,?_⟩
  have hi2:i*1000≤1000*1000:=Nat.mul_le_mul_right _ (by omega)
  obtain ⟨w,s3,ew,ok3,n,ties,rfl,hn,hw⟩:=tweb_ok ok2 (by omega) (min (lim-(ws.map (·.1)).sum) z) (by omega)
  refine Ok.seq (.sapp (ds:=websD ws) rfl (by unfold websD;rw [List.length_map,sizeLine_v];omega) (.eq (fn_eq (cons_eq rfl (cons_eq (call_eq (cons_eq rfl (cons_eq rfl rfl)) (minN _ _)) rfl)) ew) ?_))
  have hsum:=hws.2
  refine Ok.seq (.sset (.eq (s':=s3) (a:=nD (lim-(ws.map (·.1)).sum-n)) (chk_of (op_eq' (d:=nD (lim-(ws.map (·.1)).sum)) (e:=nD n) rfl (op_eq' (d:=webD n ties) (e:=.int 0) (op_eq' (d:=.lst (websD ws ++ [webD n ties])) (e:=.int (-1)) rfl rfl (ix_last _ _)) rfl web0) ?_) rfl) ?_))
  ·show some (D.int (((lim-(ws.map (·.1)).sum:Nat):Int)-(n:Int)))=_
   congr 2
   omega
  ·refine .next ⟨_,rfl,ok3.mono (by omega),ws ++ [(n,ties)],some (nD i),by simp [hwl],⟨fun w hw'=>?_,?_⟩,?_⟩
   ·rcases List.mem_append.mp hw' with h | h
    ·exact hws.1 w h
    ·rw [List.mem_singleton.mp h];exact hw
   ·rw [List.map_append,List.sum_append]
    show _+(n+0)≤_
    omega
   ·unfold websD
    rw [List.map_append,List.map_append,List.sum_append]
    show _=[some D.pen,some (nD many),some (nD lim),some (nD z),some (.lst _),some (nD (lim-(_+(n+0)))),some (nD i)]
    rw [show lim-((ws.map (·.1)).sum+(n+0))=lim-(ws.map (·.1)).sum-n by omega]
    rfl
 ·obtain ⟨ok2,ws,o6,hwl,hws,rfl⟩:=hI
  rw [dRange_len] at ok2 hwl
  exact Ok.seq (.sret (.eq rfl ⟨ok2,ws,rfl,hwl,hws⟩))
theorem spo_len (ws:List (Nat×List (Nat×Nat))):(spo (ws.map (·.1))).length=(ws.map (·.1)).sum:=by
 rw [spo_pre,preS_len']
 congr 1
 apply List.ext_getElem?
 intro i
 rw [List.getElem?_map]
 by_cases h:i<(ws.map (·.1)).length
 ·rw [List.getElem?_range h,List.getElem?_eq_getElem h,Option.map_some,List.getD_eq_getElem?_getD,List.getElem?_eq_getElem h];rfl
 ·rw [List.getElem?_eq_none (by simp at h ⊢;omega),List.getElem?_eq_none (by omega)];rfl
end TQ
namespace TQ
open PySem L2 TF TS
open TP
open TP2
open TP3
theorem websD_len (ws:List (Nat×List (Nat×Nat))):dLen [.lst (websD ws)]=some (nD ws.length):=by
 show some (D.int ((websD ws).length:Nat))=_
 unfold websD
 rw [List.length_map]
structure WsOk (ws:List (Nat×List (Nat×Nat))):Prop where
 len:ws.length≤100
 sum:(ws.map (·.1)).sum≤24
 web:∀w∈ws,IsWeb w.1 w.2
theorem WsOk.of {ws:List (Nat×List (Nat×Nat))} (h:Webs 24 ws) (hl:ws.length≤100):WsOk ws:=⟨hl,h.2,h.1⟩
theorem WsOk.le {ws:List (Nat×List (Nat×Nat))} (h:WsOk ws):∀w∈ws,w.1≤24:=Webs.le ⟨h.web,h.sum⟩
theorem WsOk.big {ws:List (Nat×List (Nat×Nat))} (h:WsOk ws):∀w∈ws,w.2.length≤100000∧w.1≤1000:=fun w hm=>by
 have h1:=h.le w hm
 have h2:=(h.web w hm).len h1
 exact ⟨by omega,by omega⟩
noncomputable abbrev tot (ws:List (Nat×List (Nat×Nat))):Nat:=(ws.map (·.1)).sum
theorem putT_web (ties:List (Nat×Nat)) (ws:List (Nat×List (Nat×Nat))):IsWeb (tot ws) (putT ties ws):=by
 show IsWeb (ws.map (·.1)).sum _
 rw [←spo_len];exact IsWeb.filter _
theorem put_in_ok (n:Nat) (ties:List (Nat×Nat)) {ws:List (Nat×List (Nat×Nat))} (hl:ties.length≤100000) (h:WsOk ws) (s:Pn):F_put_in [webD n ties,.lst (websD ws)] s=some (webD (tot ws) (putT ties ws),s):=by
 have:=put_in_eq n ties ws hl h.big (by have:=h.len;omega) (by rw [spo_len];have:=h.sum;omega) s
 rw [spo_len] at this
 exact this
theorem beside_eq {ws:List (Nat×List (Nat×Nat))} (h:WsOk ws) (s:Pn):F_beside [.lst (websD ws)] s=some (webD (tot ws) (putT [] ws),s):=
 runB_eq rfl (sSeq_rt (sRet_eq (fn_eq (ds:=[webD ws.length [],.lst (websD ws)]) (cons_eq (tup_eq (cons_eq (call_eq (cons_eq rfl rfl) (websD_len ws)) (cons_eq rfl rfl)) two_le) (cons_eq rfl rfl)) (put_in_ok _ [] (Nat.zero_le _) h s))))
theorem all_turned (n:Nat):((allP n).filter fun p=>!decide (p∈([]:List (Nat×Nat))))=allP n:=List.filter_eq_self.mpr fun p _=>by simp
theorem wholly_eq {ws:List (Nat×List (Nat×Nat))} (h:WsOk ws) (s:Pn):F_wholly_tied [.lst (websD ws)] s=some (webD (tot ws) (putT (allP ws.length) ws),s):=by
 have hln:=h.len
 have ht:=qturned_eq ws.length [] s (by omega) (Nat.zero_le _)
 rw [all_turned] at ht
 have hal:(allP ws.length).length≤100000:=by
  have h1:=preP_len ws.length ws.length
  have h2:ws.length*ws.length≤100*100:=Nat.mul_le_mul hln hln
  unfold allP
  omega
 exact runB_eq rfl (sSeq_rt (sRet_eq (fn_eq (ds:=[webD ws.length (allP ws.length),.lst (websD ws)]) (cons_eq (fn_eq (ds:=[webD ws.length []]) (cons_eq (tup_eq (cons_eq (call_eq (cons_eq rfl rfl) (websD_len ws)) (cons_eq rfl rfl)) two_le) rfl) ht) (cons_eq rfl rfl)) (put_in_ok _ _ hal h s))))
end TQ
namespace TQ
open PySem L2 TF TS
open TP
open TP2
open TP3
noncomputable def beg (ws:List (Nat×List (Nat×Nat))) (k:Nat):Nat:=(preS (ws.map (·.1)) k).length
theorem beg_succ (ws:List (Nat×List (Nat×Nat))) (k:Nat):beg ws (k+1)=beg ws k+(ws.map (·.1)).getD k 0:=by
 unfold beg
 rw [preS_succ,List.length_append,List.length_map,List.length_range]
theorem beg_mono (ws:List (Nat×List (Nat×Nat))) {k l:Nat} (h:k≤l):beg ws k≤beg ws l:=by
 induction l with
 | zero=>rw [Nat.le_zero.mp h];exact Nat.le_refl _
 | succ l ih=>
  rcases Nat.lt_or_eq_of_le h with h | h
  ·rw [beg_succ];have:=ih (by omega);omega
  ·rw [h];exact Nat.le_refl _
theorem beg_tot (ws:List (Nat×List (Nat×Nat))):beg ws ws.length=tot ws:=by
 unfold beg
 rw [show tot ws=(ws.map (·.1)).sum from rfl,←spo_len,spo_pre,List.length_map]
theorem preS_pre (lens:List Nat) {k l:Nat} (h:k≤l):∃r,preS lens l=preS lens k++r:=by
 induction l with
 | zero=>rw [Nat.le_zero.mp h];exact ⟨[],by simp⟩
 | succ l ih=>
  rcases Nat.lt_or_eq_of_le h with h | h
  ·obtain ⟨r,e⟩:=ih (by omega)
   exact ⟨r++(List.range (lens.getD l 0)).map fun j=>(l,j),by rw [preS_succ,e,List.append_assoc]⟩
  ·rw [h];exact ⟨[],by simp⟩
theorem spo_at {ws:List (Nat×List (Nat×Nat))} {k j:Nat} (hk:k<ws.length) (hj:j<(ws.map (·.1)).getD k 0):(spo (ws.map (·.1))).getD (beg ws k+j) (0,0)=(k,j):=by
 obtain ⟨r,e⟩:=preS_pre (ws.map (·.1)) (k:=k+1) (l:=(ws.map (·.1)).length) (by rw [List.length_map];omega)
 rw [spo_pre,e,preS_succ,List.append_assoc]
 unfold beg
 rw [List.getD_eq_getElem?_getD,List.getElem?_append_right (by omega),Nat.add_sub_cancel_left,List.getElem?_append_left (by rw [List.length_map,List.length_range];exact hj),List.getElem?_map,List.getElem?_range hj]
 rfl
theorem beg_lt {ws:List (Nat×List (Nat×Nat))} {k j:Nat} (hk:k<ws.length) (hj:j<(ws.map (·.1)).getD k 0):beg ws k+j<tot ws:=by
 have h1:=beg_mono ws (show k+1≤ws.length by omega)
 rw [beg_succ,beg_tot] at h1
 omega
theorem tied_filter {N:Nat} {B:Nat×Nat→Bool} {a b:Nat} (h:a<b) (hb:b<N):tied ((allP N).filter B) a b=B (a,b):=by
 rw [tied_lt h,Bool.eq_iff_iff,decide_eq_true_eq,List.mem_filter]
 exact ⟨fun z=>z.2,fun z=>⟨mem_allP.mpr ⟨h,hb⟩,z⟩⟩
theorem tied_put {ties:List (Nat×Nat)} {ws:List (Nat×List (Nat×Nat))} {k l i j:Nat} (hk:k<ws.length) (hl:l<ws.length) (hi:i<(ws.map (·.1)).getD k 0) (hj:j<(ws.map (·.1)).getD l 0) (h:beg ws k+i<beg ws l+j) :
  tied (putT ties ws) (beg ws k+i) (beg ws l+j)=putB ties (ws.map (·.2)) (k,i) (l,j):=by
 have hb:=beg_lt hl hj
 unfold putT
 rw [tied_filter h (by rw [spo_len];exact hb)]
 simp only [spo_at hk hi,spo_at hl hj]
theorem idx_lt {n m i a:Nat} (hi:i<n) (ha:a<m):i*m+a<n*m:=by
 have h1:(i+1)*m≤n*m:=Nat.mul_le_mul_right m (by omega)
 rw [Nat.succ_mul] at h1
 omega
theorem div_at {m i a:Nat} (ha:a<m):(i*m+a) / m=i∧(i*m+a) % m=a:=by
 rw [Nat.mul_comm i m,Nat.mul_add_div (by omega),Nat.div_eq_of_lt ha,Nat.mul_add_mod,Nat.mod_eq_of_lt ha]
 exact ⟨rfl,rfl⟩
end TQ
namespace TQ
open PySem L2 TF TS
open TP
open TP2
open TP3
noncomputable abbrev Wb:=Nat×List (Nat×Nat)
noncomputable abbrev lns (ws:List Wb):List Nat:=ws.map (·.1)
theorem spo_inv {ws:List Wb}:∀{m x:Nat},m≤ws.length→x<beg ws m→∃k i,k<m∧i<(lns ws).getD k 0∧x=beg ws k+i
 | 0,x,_,h=>by simp [beg,preS] at h
 | m+1,x,hm,h=>by
  rw [show beg ws (m+1)=beg ws m+(lns ws).getD m 0 from beg_succ ws m] at h
  rcases Nat.lt_or_ge x (beg ws m) with h1 | h1
  ·obtain ⟨k,i,a,b,c⟩:=spo_inv (show m≤ws.length by omega) h1
   exact ⟨k,i,by omega,b,c⟩
  ·exact ⟨m,x-beg ws m,by omega,by omega,by omega⟩
theorem getD_at {ws:List Wb} {k:Nat} (hk:k<ws.length):(lns ws).getD k 0=(ws[k]).1∧(ws.map (·.2)).getD k []=(ws[k]).2:=by
 constructor
 ·rw [List.getD_eq_getElem?_getD,List.getElem?_map,List.getElem?_eq_getElem hk];rfl
 ·rw [List.getD_eq_getElem?_getD,List.getElem?_map,List.getElem?_eq_getElem hk];rfl
theorem nearB_comm (t:List (Nat×Nat)) (a b:Nat):nearB t a b=nearB t b a:=by
 unfold nearB
 rw [tied_comm,show decide (a=b)=decide (b=a) from decide_eq_decide.mpr eq_comm]
theorem tied_pairT {n m x y:Nat} {t1 t2:List (Nat×Nat)} (h:x≠y) (hx:x<n*m) (hy:y<n*m):tied (pairT n m t1 t2) x y=(nearB t1 (x / m) (y / m)&&nearB t2 (x % m) (y % m)):=by
 unfold pairT
 rcases Nat.lt_or_ge x y with h1 | h1
 ·rw [tied_filter h1 hy]
 ·rw [tied_comm,tied_filter (by omega) hx]
  show (nearB t1 (y / m) (x / m)&&nearB t2 (y % m) (x % m))=_
  rw [nearB_comm t1,nearB_comm t2]
end TQ
namespace TQ
open PySem L2 TF TS
open TP
open TP2
open TP3
noncomputable def tf (b:Bool) (m:Nat):List (Nat×Nat):=if b=true then allP m else []
theorem tied_tf {b:Bool} {m x y:Nat} (h:x≠y) (hx:x<m) (hy:y<m):tied (tf b m) x y=b:=by
 cases b
 ·unfold tf tied;simp
 ·unfold tf tied
  rw [if_pos rfl,decide_eq_true_eq,mem_allP]
  constructor
  ·show min x y<max x y;omega
  ·show max x y<m;omega
end TQ
namespace TQ
open PySem L2 TF TS
open TP
open TP2 hiding g_all_near F_all_near
open TP3 hiding g_full_knots F_full_knots
noncomputable abbrev mkW (n:Nat) (ties:List (Nat×Nat)):D:=.tup [nD n,.dt (kvT [] ties)]
theorem mk0 {n:Nat} {ties:List (Nat×Nat)}:dIx (mkW n ties) (.int 0)=some (nD n):=atI_0 _ _
theorem mk1 {n:Nat} {ties:List (Nat×Nat)}:dIx (mkW n ties) (.int 1)=some (.dt (kvT [] ties)):=atI_1 _ _ _
theorem nearM_eq (n:Nat) (ties:List (Nat×Nat)) (p:Nat) (s:Pn) (hn:n≤100000):F_near [mkW n ties,.int p] s=some (.lst ((nearL n ties p).map nD),s):=by
 refine runB_eq rfl (sSeq_rt (sRet_eq ?_))
 unfold nearL
 show _=some (D.lst (((List.range n).filter fun o=>tied ties p o).map fun (i:Nat)=>D.int (i:Int)),s)
 rw [←filter_ints]
 refine ev_comp (ds:=dRange 0 n) (fun d=>[some d,some (mkW n ties),some (.int p)]) (fun d=>tied ties p (nat0 d)) (fun d=>d) (ev_range1 (op_eq' (d:=mkW n ties) (e:=.int 0) rfl rfl mk0) hn) (rng_len hn) ?_
 intro d hd
 obtain ⟨i,hi,rfl⟩:=dRange_mem hd
 exact ⟨rfl,asB_eq (fn_eq (cons_eq (op_eq' (d:=mkW n ties) (e:=.int 1) rfl rfl mk1) (cons_eq rfl (cons_eq rfl rfl))) (are_tiedD_eq ties p i s)),fun _=>rfl⟩
noncomputable def gN:Rho→M Out:=(sSeq (sSet 1 (dTup (dCons (dOp dIx (dVar 0) (dC (.int 0))) (dCons (dFn F_marked_ties (dCons (dVar 0) dNil)) dNil))))
 (sSeq (sRet (dComp [none,some 1] (iRange1 (dOp dIx (dVar 0) (dC (.int 0)))) (gOne 0) bTrue (dFn F_near (dCons (dVar 1) (dCons (dVar 0) dNil)))))
 sNext))
theorem all_nearM_eq (n:Nat) (ties:List (Nat×Nat)) (hn:n≤1000) (hl:ties.length≤100000) (s:Pn):runB 2 1 gN [webD n ties] s=some (nearsD n ties,s):=by
 refine runB_eq rfl (sSeq_nx (sSet_eq (tup_eq (cons_eq (op_eq' (d:=webD n ties) (e:=.int 0) rfl rfl web0) (cons_eq (fn_eq (cons_eq rfl rfl) (marked_eq n ties s hl)) rfl)) two_le)) (sSeq_rt (sRet_eq ?_)))
 have hc:=ev_comp (src:=[none,some 1]) (fi:=iRange1 (dOp dIx (dVar 0) (dC (.int 0)))) (τ:=gOne 0) (ft:=bTrue) (fe:=dFn F_near (dCons (dVar 1) (dCons (dVar 0) dNil))) (ρ:=[some (webD n ties),some (mkW n ties)]) (s:=s) (ds:=dRange 0 n) (fun d=>[some d,some (mkW n ties)]) (fun _=>true) (fun d=>.lst ((nearL n ties (nat0 d)).map nD)) (ev_range1 (op_eq' (d:=webD n ties) (e:=.int 0) rfl rfl web0) (by omega)) (rng_len (by omega)) fun d hd=>by
  obtain ⟨i,hi,rfl⟩:=dRange_mem hd
  exact ⟨rfl,rfl,fun _=>fn_eq (cons_eq rfl (cons_eq rfl rfl)) (nearM_eq n ties i s (by omega))⟩
 rw [filter_tt,dRange0,List.map_map] at hc
 exact hc
theorem runB_congr {n k:Nat} {g g':Rho→M Out} {ds:List D} {s:Pn} (h:g (ds.map some++List.replicate (n-k) none) s=g' (ds.map some++List.replicate (n-k) none) s):runB n k g ds s=runB n k g' ds s:=by
 unfold runB
 split
 ·unfold mbind;rw [h]
 ·rfl
end TQ
namespace TQ
open PySem L2 TF TS
open TP
open TP2
open TP3
section
variable (ap:Nat→Nat→Bool)
noncomputable def one? (ps:List Nat):Option Nat:=ps.find? fun p=>decide (cntA ap ps p≤1)
noncomputable def bk2:Nat→List Nat→List Nat
 | 0,_=>[]
 | m+1,ps=>if ps=[] then [] else match one? ap ps with
  | some p=>p::bk2 m (restA ap ps p)
  | none=>if (bk2 m (ps.filter fun o=>!decide (o=pickMax ap ps))).length≤(pickMax ap ps::bk2 m (restA ap ps (pickMax ap ps))).length then pickMax ap ps::bk2 m (restA ap ps (pickMax ap ps))
   else bk2 m (ps.filter fun o=>!decide (o=pickMax ap ps))
end
section
variable {ap:Nat→Nat→Bool}
theorem one_spec {ps:List Nat} {p:Nat} (h:one? ap ps=some p):p∈ps∧cntA ap ps p≤1:=⟨List.mem_of_find?_eq_some h,by have:=List.find?_some h;simpa using this⟩
theorem bk2_knot (sy:∀a b,ap a b=ap b a):∀(m:Nat) (ps:List Nat),KnA ap ps (bk2 ap m ps)
 | 0,ps=>⟨List.nodup_nil,fun x hx=>by simp [bk2] at hx,fun x hx=>by simp [bk2] at hx⟩
 | m+1,ps=>by
  unfold bk2
  by_cases h0:ps=[]
  ·rw [if_pos h0];exact ⟨List.nodup_nil,fun x hx=>by simp at hx,fun x hx=>by simp at hx⟩
  ·rw [if_neg h0]
   have w:=fun p (hp:p∈ps)=>KnA.with sy hp (bk2_knot sy m (restA ap ps p))
   split
   ·rename_i p hp
    exact w _ (one_spec hp).1
   ·split
    ·exact w _ (pickMax_spec h0)
    ·exact (bk2_knot sy m _).mono fun x hx=>(List.mem_filter.mp hx).1
theorem bk2_most (sy:∀a b,ap a b=ap b a) (ir:∀a,ap a a=false):∀(m:Nat) (ps K:List Nat),ps.length<m→KnA ap ps K→K.length≤(bk2 ap m ps).length
 | 0,ps,K,h,_=>by omega
 | m+1,ps,K,hl,h=>by
  unfold bk2
  by_cases h0:ps=[]
  ·rw [if_pos h0]
   cases K with
   | nil=>simp
   | cons a r=>have:=h.sub a (by simp);rw [h0] at this;simp at this
  ·rw [if_neg h0]
   have w:∀p,p∈ps→(p∈K∨cntA ap ps p≤1)→K.length≤(p::bk2 ap m (restA ap ps p)).length:=fun p hp hm=>by
    have h1:=rest_drop ir h hm
    have h2:=bk2_most sy ir m (restA ap ps p) _ (by have:=restA_lt (ap:=ap) hp;omega) (h.rest (p:=p))
    simp only [List.length_cons];omega
   split
   ·rename_i p hp
    exact w _ (one_spec hp).1 (.inr (one_spec hp).2)
   ·have hb:=pickMax_spec (ap:=ap) h0
    by_cases hk:pickMax ap ps∈K
    ·have:=w _ hb (.inl hk)
     split
     ·exact this
     ·omega
    ·have h3:=bk2_most sy ir m (ps.filter fun o=>!decide (o=pickMax ap ps)) K (by have:=without_lt hb;omega) ⟨h.nd,fun x hx=>List.mem_filter.mpr ⟨h.sub x hx,by
      have:x≠pickMax ap ps:=fun z=>hk (z▸hx)
      simpa using this⟩,h.two⟩
     split
     ·omega
     ·exact h3
theorem bk2_len (m:Nat):∀(ps:List Nat),(bk2 ap m ps).length≤m:=by
 induction m with
 | zero=>intro ps;simp [bk2]
 | succ m ih=>
  intro ps
  unfold bk2
  split
  ·simp
  ·split
   ·rename_i p hp
    have:=ih (restA ap ps p);simp only [List.length_cons];omega
   ·split
    ·have:=ih (restA ap ps (pickMax ap ps));simp only [List.length_cons];omega
    ·have:=ih (ps.filter fun o=>!decide (o=pickMax ap ps));omega
end
noncomputable abbrev onesD (n:Nat):D:=.tup (List.replicate n (nD 1))
theorem ones_ix {n p:Nat} (h:p<n):dIx (onesD n) (nD p)=some (nD 1):=by
 show atI _ (p:Int)=_
 refine atI_nat ?_
 rw [List.getElem?_replicate,if_pos h]
theorem sum_rep:∀k:Nat,(List.replicate k (1:Int)).sum=(k:Int)
 | 0=>rfl
 | k+1=>by rw [List.replicate_succ,List.sum_cons,sum_rep k];omega
theorem sum_ones (k:Nat):dSum [.lst (List.replicate k (nD 1))]=some (nD k):=by
 have h1:intsOf (List.replicate k (nD 1))=some (List.replicate k 1):=by
  rw [show List.replicate k (nD 1)=(List.replicate k (1:Int)).map D.int by rw [List.map_replicate];rfl]
  exact intsOf_map _
 show (match intsOf (List.replicate k (nD 1)) with | some ns=>if okSum ns=true then some (D.int ns.sum) else none | none=>none)=_
 rw [h1]
 have h2:okSum (List.replicate k 1)=true:=List.all_eq_true.mpr fun x hx=>by rw [(List.mem_replicate.mp hx).2];rfl
 show (if okSum (List.replicate k 1)=true then some (D.int (List.replicate k (1:Int)).sum) else none)=_
 rw [if_pos h2,sum_rep]
noncomputable def gWeighed:Rho→M Out:=(sSeq (sRet (dCall dSum (dCons (dComp [none,some 0] (iSeqL (dVar 1)) (gOne 0) bTrue (dOp dIx (dVar 1) (dVar 0))) dNil)))
 sNext)
theorem weighed_ones {n:Nat} {ps:List Nat} (hp:∀p∈ps,p<n) (hl:ps.length≤1000) (s:Pn):runB 2 2 gWeighed [onesD n,.lst (ps.map nD)] s=some (nD ps.length,s):=by
 have hc:=ev_comp (src:=[none,some 0]) (fi:=iSeqL (dVar 1)) (τ:=gOne 0) (ft:=bTrue) (fe:=dOp dIx (dVar 1) (dVar 0)) (ρ:=[some (onesD n),some (.lst (ps.map nD))]) (s:=s) (ds:=ps.map nD) (fun d=>[some d,some (onesD n)]) (fun _=>true) (fun _=>nD 1) (seqL_eq rfl) (by rw [List.length_map,sizeLine_v];omega) (fun d hd=>by
  obtain ⟨x,hx,rfl⟩:=List.mem_map.mp hd
  exact ⟨rfl,rfl,fun _=>op_eq' (d:=onesD n) (e:=nD x) rfl rfl (ones_ix (hp x hx))⟩)
 rw [filter_tt,List.map_const',List.length_map] at hc
 exact runB_eq rfl (sSeq_rt (sRet_eq (call_eq (cons_eq hc rfl) (sum_ones _))))
end TQ
namespace TQ
open PySem L2 TF TS
open TP
open TP2
open TP3
noncomputable def gApart:Rho→M Out:=(sSeq (sRet (dComp [none,some 0,some 1] (iSeqL (dVar 2)) (gOne 0) (asB (dOp dIn (dVar 0) (dOp dIx (dVar 1) (dVar 2)))) (dVar 0)))
 sNext)
noncomputable def FApart:List D→M D:=runB 3 3 gApart
noncomputable def FWeighed:List D→M D:=runB 2 2 gWeighed
noncomputable def gHW (Fs:List D→M D):Rho→M Out:=(sSeq (sSet 4 (dComp [none,some 2,some 0] (iSeqL (dVar 3)) (gOne 0) (bAnd (asB (dOp dNeO (dVar 0) (dVar 1))) (asB (dOp dNotIn (dVar 0) (dOp dIx (dVar 2) (dVar 1))))) (dVar 0)))
 (sSeq (sRet (dOp dAdd (dLst (dCons (dVar 2) dNil)) (dFn Fs (dCons (dVar 0) (dCons (dVar 1) (dCons (dVar 4) dNil))))))
 sNext))
noncomputable def FHW (Fs:List D→M D):List D→M D:=runB 5 4 (gHW Fs)
noncomputable def hBody (Fs:List D→M D):Rho→M Out:=(sSeq (sIf (asB (dOp dLe (dFn FWeighed (dCons (dVar 1) (dCons (dOp dIx (dVar 3) (dVar 4)) dNil))) (dOp dIx (dVar 1) (dOp dIx (dVar 2) (dVar 4)))))
 (sSeq (sRet (dFn (FHW Fs) (dCons (dVar 0) (dCons (dVar 1) (dCons (dOp dIx (dVar 2) (dVar 4)) (dCons (dVar 2) dNil))))))
 sNext)
 sNext)
 sNext)
noncomputable def gHA (Fs:List D→M D):Rho→M Out:=(sSeq (sIf (asB (dOp dEqO (dVar 2) (dLst dNil)))
 (sSeq (sRet (dLst dNil))
 sNext)
 sNext)
 (sSeq (sSet 3 (dComp [none,some 0,some 2] (iSeqL (dVar 2)) (gOne 0) bTrue (dFn FApart (dCons (dVar 1) (dCons (dVar 0) (dCons (dVar 2) dNil))))))
 (sSeq (sFor (iRange1 (dCall dLen (dCons (dVar 2) dNil))) (gOne 4) (hBody Fs))
 (sSeq (sSet 5 (dComp [none] (iSeqL (dVar 3)) (gOne 0) bTrue (dCall dLen (dCons (dVar 0) dNil))))
 (sSeq (sSet 6 (dOp dIx (dVar 2) (dOp dIndex (dVar 5) (dCall dMaxL (dCons (dVar 5) dNil)))))
 (sSeq (sSet 7 (dFn (FHW Fs) (dCons (dVar 0) (dCons (dVar 1) (dCons (dVar 6) (dCons (dVar 2) dNil))))))
 (sSeq (sSet 8 (dFn Fs (dCons (dVar 0) (dCons (dVar 1) (dCons (dComp [none,some 6] (iSeqL (dVar 2)) (gOne 0) (asB (dOp dNeO (dVar 0) (dVar 1))) (dVar 0)) dNil)))))
 (sSeq (sRet (dIf (asB (dOp dGe (dFn FWeighed (dCons (dVar 1) (dCons (dVar 7) dNil))) (dFn FWeighed (dCons (dVar 1) (dCons (dVar 8) dNil))))) (dVar 7) (dVar 8)))
 sNext))))))))
noncomputable def FHA:Nat→List D→M D
 | 0=>fun _=>mfail
 | n+1=>runB 9 3 (gHA (FHA n))
theorem geN (a b:Nat):dGe (nD a) (nD b)=some (.bl (decide (b≤a))):=by
 show some (D.bl (decide ((b:Int)≤(a:Int))))=_
 rw [show decide ((b:Int)≤(a:Int))=decide (b≤a) from decide_eq_decide.mpr (by omega)]
theorem find_range (P:Nat→Bool) (h:Nat→D) (ps:List Nat):(List.range ps.length).findSome? (fun i=>if P (ps.getD i 0)=true then some (h (ps.getD i 0)) else none)=(ps.find? P).map h:=by
 have e:(List.range ps.length).map (fun i=>ps.getD i 0)=ps:=by
  apply List.ext_getElem?
  intro i
  rw [List.getElem?_map]
  by_cases hi:i<ps.length
  ·rw [List.getElem?_range hi]
   show some (ps.getD i 0)=_
   rw [List.getD_eq_getElem?_getD,List.getElem?_eq_getElem hi];rfl
  ·rw [List.getElem?_eq_none (by simp;omega),List.getElem?_eq_none (by omega)];rfl
 have k:∀l:List Nat,l.findSome? (fun x=>if P x=true then some (h x) else none)=(l.find? P).map h:=fun l=>by
  induction l with
  | nil=>rfl
  | cons x l ih=>
   rw [List.findSome?_cons,List.find?_cons]
   cases hx:P x with
   | true=>rfl
   | false=>exact ih
 rw [←k ps]
 conv=>rhs;rw [←e]
 rw [List.findSome?_map];rfl
section
variable {n:Nat} {A:Nat→List Nat} {ap:Nat→Nat→Bool}
theorem apart_eq (hA:∀p o,ap p o=decide (o∈A p)) {p:Nat} (hp:p<n) (ps:List Nat) (hl:ps.length≤1000) (s:Pn):FApart [apsD n A,nD p,.lst (ps.map nD)] s=some (.lst ((ps.filter fun o=>ap p o).map nD),s):=by
 have hc:=ev_comp (src:=[none,some 0,some 1]) (fi:=iSeqL (dVar 2)) (τ:=gOne 0) (ft:=asB (dOp dIn (dVar 0) (dOp dIx (dVar 1) (dVar 2)))) (fe:=dVar 0) (ρ:=[some (apsD n A),some (nD p),some (.lst (ps.map nD))]) (s:=s) (ds:=ps.map nD) (fun d=>[some d,some (apsD n A),some (nD p)]) (fun d=>ap p (nat0 d)) (fun d=>d) (seqL_eq rfl) (by rw [List.length_map,sizeLine_v];omega) (fun d hd=>by
  obtain ⟨x,hx,rfl⟩:=List.mem_map.mp hd
  exact ⟨rfl,asB_eq (op_eq' (d:=nD x) (e:=.dk (kvA (A p))) rfl (op_eq' (d:=apsD n A) (e:=nD p) rfl rfl (aps_ix hp)) (by rw [kvA_in,←hA];rfl)),fun _=>rfl⟩)
 rw [List.filter_map,List.map_map] at hc
 exact runB_eq rfl (sSeq_rt (sRet_eq hc))
theorem hw_eq (hA:∀p o,ap p o=decide (o∈A p)) {Fs:List D→M D} {p:Nat} (hp:p<n) {ps r:List Nat} (hl:ps.length≤1000) (hr:r.length≤1000) {s:Pn} (hF:Fs [apsD n A,onesD n,.lst ((restA ap ps p).map nD)] s=some (.lst (r.map nD),s)):FHW Fs [apsD n A,onesD n,nD p,.lst (ps.map nD)] s=some (.lst ((p::r).map nD),s):=by
 have hc:=ev_comp (src:=[none,some 2,some 0]) (fi:=iSeqL (dVar 3)) (τ:=gOne 0) (ft:=bAnd (asB (dOp dNeO (dVar 0) (dVar 1))) (asB (dOp dNotIn (dVar 0) (dOp dIx (dVar 2) (dVar 1))))) (fe:=dVar 0) (ρ:=[some (apsD n A),some (onesD n),some (nD p),some (.lst (ps.map nD)),none]) (s:=s) (ds:=ps.map nD) (fun d=>[some d,some (nD p),some (apsD n A)]) (fun d=>!decide (nat0 d=p) && !ap p (nat0 d)) (fun d=>d) (seqL_eq rfl) (by rw [List.length_map,sizeLine_v];omega) (fun d hd=>by
  obtain ⟨x,hx,rfl⟩:=List.mem_map.mp hd
  refine ⟨rfl,band_eq (asB_eq (op_eq' (d:=nD x) (e:=nD p) rfl rfl (dNe_nD x p))) fun _=>asB_eq (op_eq' (d:=nD x) (e:=.dk (kvA (A p))) rfl (op_eq' (d:=apsD n A) (e:=nD p) rfl rfl (aps_ix hp)) (by rw [kvA_notIn,←hA];rfl)),fun _=>rfl⟩)
 rw [List.filter_map,List.map_map] at hc
 have e:(ps.filter ((fun d=>!decide (nat0 d=p) && !ap p (nat0 d))∘nD)).map ((fun d=>d)∘nD)=(restA ap ps p).map nD:=rfl
 rw [e] at hc
 refine runB_eq rfl (sSeq_nx (sSet_eq hc) (sSeq_rt (sRet_eq (op_eq' (d:=.lst [nD p]) (e:=.lst (r.map nD)) (lst_eq (cons_eq rfl rfl) (by show 1≤sizeLine;decide)) (fn_eq (cons_eq rfl (cons_eq rfl (cons_eq rfl rfl))) hF) ?_))))
 rw [lst_cat (by rw [List.length_map];simp;omega)]
 rfl
theorem bk2_sub:∀(m:Nat) (ps:List Nat),∀x∈bk2 ap m ps,x∈ps
 | 0,ps,x,hx=>by simp [bk2] at hx
 | m+1,ps,x,hx=>by
  unfold bk2 at hx
  by_cases h0:ps=[]
  ·rw [if_pos h0] at hx;cases hx
  ·rw [if_neg h0] at hx
   have w:=fun p (hp:p∈ps) (h:x∈p::bk2 ap m (restA ap ps p))=>show x∈ps from by
    rcases List.mem_cons.mp h with e | h
    ·rw [e];exact hp
    ·exact (restA_sub x (bk2_sub m _ x h)).1
   split at hx
   ·rename_i p hp
    exact w _ (one_spec hp).1 hx
   ·split at hx
    ·exact w _ (pickMax_spec h0) hx
    ·exact (List.mem_filter.mp (bk2_sub m _ x hx)).1
set_option maxHeartbeats 1000000 in
theorem heaviest_eq (hA:∀p o,ap p o=decide (o∈A p)) (s:Pn):∀(m:Nat) (ps:List Nat),ps.length<m→m≤100→(∀p∈ps,p<n)→FHA m [apsD n A,onesD n,.lst (ps.map nD)] s=some (.lst ((bk2 ap m ps).map nD),s)
 | 0,_,h,_,_=>by omega
 | m+1,ps,hl,hm,hn=>by
  have hpl:plainDs (ps.map nD)=true:=plain_nats ps
  have hdp:deps (ps.map nD)≤10:=by rw [deps_nD];omega
  have heq:=eq_nil (ps.map nD) hpl hdp
  by_cases h0:ps=[]
  ·subst h0
   refine runB_eq rfl (sSeq_rt (sIf_t (asB_eq (op_eq' (d:=.lst []) (e:=.lst []) rfl (lst_eq rfl (Nat.zero_le _)) heq)) (sSeq_rt (sRet_eq (d:=.lst []) (lst_eq rfl (Nat.zero_le _))))))
  ·have hf:decide (ps.map nD=[])=false:=by simpa using h0
   rw [hf] at heq
   have hcs:ps.map (cntA ap ps)≠[]:=by simpa using h0
   have hc:=ev_comp (src:=[none,some 0,some 2]) (fi:=iSeqL (dVar 2)) (τ:=gOne 0) (ft:=bTrue) (fe:=dFn FApart (dCons (dVar 1) (dCons (dVar 0) (dCons (dVar 2) dNil)))) (ρ:=[some (apsD n A),some (onesD n),some (.lst (ps.map nD)),none,none,none,none,none,none]) (s:=s) (ds:=ps.map nD) (fun d=>[some d,some (apsD n A),some (.lst (ps.map nD))]) (fun _=>true) (fun d=>.lst ((ps.filter fun o=>ap (nat0 d) o).map nD)) (seqL_eq rfl) (by rw [List.length_map,sizeLine_v];omega) (fun d hd=>by
    obtain ⟨x,hx,rfl⟩:=List.mem_map.mp hd
    exact ⟨rfl,rfl,fun _=>fn_eq (cons_eq rfl (cons_eq rfl (cons_eq rfl rfl))) (apart_eq hA (hn x hx) ps (by omega) s)⟩)
   rw [filter_tt,List.map_map] at hc
   generalize hR:ps.map ((fun d=>D.lst ((ps.filter fun o=>ap (nat0 d) o).map nD))∘nD)=R at hc
   have kw:∀p,p∈ps→FHW (FHA m) [apsD n A,onesD n,nD p,.lst (ps.map nD)] s=some (.lst ((p::bk2 ap m (restA ap ps p)).map nD),s):=fun p hp=>by
    have hlt:=restA_lt (ap:=ap) hp
    have hb:=bk2_len (ap:=ap) m (restA ap ps p)
    exact hw_eq hA (hn p hp) (by omega) (by omega) (heaviest_eq hA s m (restA ap ps p) (by omega) (by omega) fun x hx=>hn x (restA_sub x hx).1)
   have hrow:∀i,i<ps.length→dIx (.lst R) (nD i)=some (.lst ((ps.filter fun o=>ap (ps.getD i 0) o).map nD)):=fun i hi=>by
    refine atI_nat ?_
    rw [←hR,List.getElem?_map,List.getD_eq_getElem?_getD,List.getElem?_eq_getElem hi];rfl
   have hpl2:∀i,i<ps.length→dIx (.lst (ps.map nD)) (nD i)=some (nD (ps.getD i 0)):=fun i hi=>getD_nD hi
   have hgm:∀i,i<ps.length→ps.getD i 0∈ps:=fun i hi=>by
    rw [List.getD_eq_getElem?_getD,List.getElem?_eq_getElem hi];exact List.getElem_mem hi
   have hfind:=mFor_find (τ:=gOne 4) (body:=hBody (FHA m)) (s:=s) (fun ρ=>∃o4,ρ=[some (apsD n A),some (onesD n),some (.lst (ps.map nD)),some (.lst R),o4,none,none,none,none]) (fun i=>if decide (cntA ap ps (ps.getD i 0)≤1)=true then some (.lst ((ps.getD i 0::bk2 ap m (restA ap ps (ps.getD i 0))).map nD)) else none) (List.range ps.length) [some (apsD n A),some (onesD n),some (.lst (ps.map nD)),some (.lst R),none,none,none,none,none] ⟨none,rfl⟩ (fun i hi ρ hρ=>by
    obtain ⟨o4,rfl⟩:=hρ
    have hi:=List.mem_range.mp hi
    refine ⟨_,rfl,?_⟩
    have hcond:asB (dOp dLe (dFn FWeighed (dCons (dVar 1) (dCons (dOp dIx (dVar 3) (dVar 4)) dNil))) (dOp dIx (dVar 1) (dOp dIx (dVar 2) (dVar 4)))) [some (apsD n A),some (onesD n),some (.lst (ps.map nD)),some (.lst R),some (nD i),none,none,none,none] s=some (decide (cntA ap ps (ps.getD i 0)≤1),s):=by
     refine asB_eq (op_eq' (fn_eq (cons_eq rfl (cons_eq (op_eq' (d:=.lst R) (e:=nD i) rfl rfl (hrow i hi)) rfl)) (weighed_ones (fun p hp=>hn p (List.mem_filter.mp hp).1) (by have:=List.length_filter_le (fun o=>ap (ps.getD i 0) o) ps;omega) s)) (op_eq' (d:=onesD n) rfl (op_eq' (d:=.lst (ps.map nD)) (e:=nD i) rfl rfl (hpl2 i hi)) (ones_ix (hn _ (hgm i hi)))) ?_)
     show some (D.bl (decide (((ps.filter fun o=>ap (ps.getD i 0) o).length:Int)≤(1:Int))))=_
     congr 2
     exact decide_eq_decide.mpr (by unfold cntA;omega)
    by_cases hq:cntA ap ps (ps.getD i 0)≤1
    ·rw [decide_eq_true hq] at hcond ⊢
     rw [if_pos rfl]
     exact sSeq_rt (sIf_t hcond (sSeq_rt (sRet_eq (fn_eq (cons_eq rfl (cons_eq rfl (cons_eq (op_eq' (d:=.lst (ps.map nD)) (e:=nD i) rfl rfl (hpl2 i hi)) (cons_eq rfl rfl)))) (kw _ (hgm i hi))))))
    ·rw [decide_eq_false hq] at hcond ⊢
     rw [if_neg Bool.false_ne_true]
     exact ⟨_,sSeq_nx (sIf_f hcond rfl) rfl,some (nD i),rfl⟩)
   rw [find_range (fun p=>decide (cntA ap ps p≤1)) (fun p=>.lst ((p::bk2 ap m (restA ap ps p)).map nD)) ps] at hfind
   have hit:iRange1 (dCall dLen (dCons (dVar 2) dNil)) [some (apsD n A),some (onesD n),some (.lst (ps.map nD)),some (.lst R),none,none,none,none,none] s=some ((List.range ps.length).map nD,s):=by
    have:=ev_range1 (f:=dCall dLen (dCons (dVar 2) dNil)) (ρ:=[some (apsD n A),some (onesD n),some (.lst (ps.map nD)),some (.lst R),none,none,none,none,none]) (s:=s) (n:=ps.length) (call_eq (cons_eq rfl rfl) (lenL_nats ps)) (by omega)
    rw [dRange0] at this
    exact this
   unfold bk2
   rw [if_neg h0]
   refine runB_eq rfl (sSeq_nx (sIf_f (asB_eq (op_eq' (d:=.lst (ps.map nD)) (e:=.lst []) rfl (lst_eq rfl (Nat.zero_le _)) heq)) rfl) (sSeq_nx (sSet_eq hc) ?_))
   show sSeq _ _ [some (apsD n A),some (onesD n),some (.lst (ps.map nD)),some (.lst R),none,none,none,none,none] s=_
   cases ho:one? ap ps with
   | some p=>
    have ho':ps.find? (fun p=>decide (cntA ap ps p≤1))=some p:=ho
    rw [ho'] at hfind
    exact sSeq_rt (sFor_eq hit hfind)
   | none=>
    have ho':ps.find? (fun p=>decide (cntA ap ps p≤1))=none:=ho
    rw [ho'] at hfind
    obtain ⟨ρ2,hf2,o4,rfl⟩:=hfind
    refine sSeq_nx (sFor_eq hit hf2) ?_
    have hmax:=maxL_any hcs
    have hp1:=pickMax_spec (ap:=ap) h0
    have hix:dIx (.lst (ps.map nD)) (nD ((ps.map (cntA ap ps)).idxOf (mxN (ps.map (cntA ap ps)))))=some (nD (pickMax ap ps)):=getD_nD (by
     have:=List.idxOf_lt_length_iff.mpr (mx_mem hcs)
     simpa using this)
    have hcc:=ev_comp (src:=[none]) (fi:=iSeqL (dVar 3)) (τ:=gOne 0) (ft:=bTrue) (fe:=dCall dLen (dCons (dVar 0) dNil)) (ρ:=[some (apsD n A),some (onesD n),some (.lst (ps.map nD)),some (.lst R),o4,none,none,none,none]) (s:=s) (ds:=R) (fun d=>[some d]) (fun _=>true) (fun d=>match d with | .lst l=>nD l.length | _=>.non) (seqL_eq rfl) (by rw [←hR,List.length_map,sizeLine_v];omega) (fun d hd=>by
     rw [←hR] at hd
     obtain ⟨x,hx,rfl⟩:=List.mem_map.mp hd
     exact ⟨rfl,rfl,fun _=>call_eq (cons_eq rfl rfl) rfl⟩)
    rw [filter_tt,←hR,List.map_map] at hcc
    have e5:ps.map ((fun d=>match d with | .lst l=>nD l.length | _=>D.non)∘((fun d=>D.lst ((ps.filter fun o=>ap (nat0 d) o).map nD))∘nD))=(ps.map (cntA ap ps)).map nD:=by
     rw [List.map_map]
     refine List.map_congr_left fun x _=>?_
     show nD ((ps.filter fun o=>ap x o).map nD).length=nD (cntA ap ps x)
     rw [List.length_map];rfl
    rw [e5,hR] at hcc
    have hwo:=without_lt hp1
    have ih2:=heaviest_eq hA s m (ps.filter fun o=>!decide (o=pickMax ap ps)) (by omega) (by omega) fun x hx=>hn x (List.mem_filter.mp hx).1
    have hc2:=ev_comp (src:=[none,some 6]) (fi:=iSeqL (dVar 2)) (τ:=gOne 0) (ft:=asB (dOp dNeO (dVar 0) (dVar 1))) (fe:=dVar 0) (ρ:=[some (apsD n A),some (onesD n),some (.lst (ps.map nD)),some (.lst R),o4,some (.lst ((ps.map (cntA ap ps)).map nD)),some (nD (pickMax ap ps)),some (.lst ((pickMax ap ps::bk2 ap m (restA ap ps (pickMax ap ps))).map nD)),none]) (s:=s) (ds:=ps.map nD) (fun d=>[some d,some (nD (pickMax ap ps))]) (fun d=>!decide (nat0 d=pickMax ap ps)) (fun d=>d) (seqL_eq rfl) (by rw [List.length_map,sizeLine_v];omega) (fun d hd=>by
     obtain ⟨x,hx,rfl⟩:=List.mem_map.mp hd
     exact ⟨rfl,asB_eq (op_eq' (d:=nD x) (e:=nD (pickMax ap ps)) rfl rfl (dNe_nD _ _)),fun _=>rfl⟩)
    have e2:((ps.map nD).filter fun d=>!decide (nat0 d=pickMax ap ps)).map (fun d=>d)=(ps.filter fun o=>!decide (o=pickMax ap ps)).map nD:=by rw [List.filter_map,List.map_map];rfl
    rw [e2] at hc2
    have bl1:=bk2_len (ap:=ap) m (restA ap ps (pickMax ap ps))
    have bl2:=bk2_len (ap:=ap) m (ps.filter fun o=>!decide (o=pickMax ap ps))
    have w1:=weighed_ones (n:=n) (ps:=pickMax ap ps::bk2 ap m (restA ap ps (pickMax ap ps))) (fun p hp=>by
     rcases List.mem_cons.mp hp with e | hp
     ·rw [e];exact hn _ hp1
     ·exact hn p (restA_sub p (bk2_sub m _ p hp)).1) (by simp only [List.length_cons];omega) s
    have w2:=weighed_ones (n:=n) (ps:=bk2 ap m (ps.filter fun o=>!decide (o=pickMax ap ps))) (fun p hp=>hn p (List.mem_filter.mp (bk2_sub m _ p hp)).1) (by omega) s
    refine sSeq_nx (sSet_eq hcc) (sSeq_nx (sSet_eq (op_eq' (d:=.lst (ps.map nD)) rfl (op_eq' (d:=.lst ((ps.map (cntA ap ps)).map nD)) rfl (call_eq (cons_eq rfl rfl) hmax) (index_nats (mx_mem hcs))) hix)) (sSeq_nx (sSet_eq (fn_eq (cons_eq rfl (cons_eq rfl (cons_eq rfl (cons_eq rfl rfl)))) (kw _ hp1))) (sSeq_nx (sSet_eq (fn_eq (cons_eq rfl (cons_eq rfl (cons_eq hc2 rfl))) ih2)) (sSeq_rt (sRet_eq ?_)))))
    have hge:=geN (pickMax ap ps::bk2 ap m (restA ap ps (pickMax ap ps))).length (bk2 ap m (ps.filter fun o=>!decide (o=pickMax ap ps))).length
    have ht:=asB_eq (op_eq' (g:=dGe) (ρ:=[some (apsD n A),some (onesD n),some (.lst (ps.map nD)),some (.lst R),o4,some (.lst ((ps.map (cntA ap ps)).map nD)),some (nD (pickMax ap ps)),some (.lst ((pickMax ap ps::bk2 ap m (restA ap ps (pickMax ap ps))).map nD)),some (.lst ((bk2 ap m (ps.filter fun o=>!decide (o=pickMax ap ps))).map nD))]) (s:=s) (fn_eq (F:=FWeighed) (fs:=dCons (dVar 1) (dCons (dVar 7) dNil)) (cons_eq rfl (cons_eq rfl rfl)) w1) (fn_eq (F:=FWeighed) (fs:=dCons (dVar 1) (dCons (dVar 8) dNil)) (cons_eq rfl (cons_eq rfl rfl)) w2) hge)
    generalize hX:pickMax ap ps::bk2 ap m (restA ap ps (pickMax ap ps))=X at ht ⊢
    generalize hY:bk2 ap m (ps.filter fun o=>!decide (o=pickMax ap ps))=Y at ht ⊢
    have hfin:∀ρ:Rho,(ρ[7]?).bind id=some (.lst (X.map nD))→(ρ[8]?).bind id=some (.lst (Y.map nD))→asB (dOp dGe (dFn FWeighed (dCons (dVar 1) (dCons (dVar 7) dNil))) (dFn FWeighed (dCons (dVar 1) (dCons (dVar 8) dNil)))) ρ s=some (decide (Y.length≤X.length),s)→dIf (asB (dOp dGe (dFn FWeighed (dCons (dVar 1) (dCons (dVar 7) dNil))) (dFn FWeighed (dCons (dVar 1) (dCons (dVar 8) dNil))))) (dVar 7) (dVar 8) ρ s=some (.lst ((if Y.length≤X.length then X else Y).map nD),s):=fun ρ h7 h8 ht=>by
     unfold dIf mbind
     rw [ht]
     by_cases hq:Y.length≤X.length
     ·simp only [hq,decide_true,if_true]
      unfold dVar mOf;rw [h7]
     ·simp only [hq,decide_false,if_false,Bool.false_eq_true]
      unfold dVar mOf;rw [h8]
    exact hfin _ rfl rfl ht
end
end TQ
namespace TQ
open PySem L2 TF TS
open TP
open TP2
open TP3
noncomputable def mostK2 (n:Nat) (ties:List (Nat×Nat)):List Nat:=riseOf n (bk2 (tied (turnT n ties)) 26 (List.range n))
noncomputable def gHK:Rho→M Out:=(sSeq (sSet 2 (dComp [none] (iSeqL (dFn (runB 2 1 gN) (dCons (dFn F_turned (dCons (dVar 0) dNil)) dNil))) (gOne 0) bTrue (dCall dDictK (dCons (dComp [none] (iSeqL (dVar 0)) (gOne 0) bTrue (dTup (dCons (dVar 0) (dCons (dC (.bl true)) dNil)))) dNil))))
 (sSeq (sRet (dCall dTuple (dCons (dCall dSorted (dCons (dFn (FHA 26) (dCons (dVar 2) (dCons (dVar 1) (dCons (dListRange (dOp dIx (dVar 0) (dC (.int 0)))) dNil)))) dNil)) dNil)))
 sNext))
theorem mostK2_spec {n:Nat} {ties:List (Nat×Nat)} (hw:IsWeb n ties) (hn:n≤24):mostK2 n ties∈kn ties n∧∀K∈kn ties n,K.length≤(mostK2 n ties).length:=by
 have sy:∀a b,tied (turnT n ties) a b=tied (turnT n ties) b a:=tied_comm _
 have hk:=bk2_knot sy 26 (List.range n)
 have hlt:∀x∈bk2 (tied (turnT n ties)) 26 (List.range n),x<n:=fun x hx=>List.mem_range.mp (hk.sub x hx)
 have hp:=riseOf_perm hk.nd hlt
 constructor
 ·refine mem_knS.mpr ⟨riseOf_rise _ _,fun o ho=>hlt o (hp.mem_iff.mp ho),fun a ha b hb ne=>?_⟩
  have ha':=hp.mem_iff.mp ha
  have hb':=hp.mem_iff.mp hb
  have:=hk.two a ha' b hb' ne
  cases h:tied ties a b with
  | true=>rfl
  | false=>
   have:=tied_turn.mpr ⟨hlt a ha',hlt b hb',ne,h⟩
   simp_all
 ·intro K hK
  obtain ⟨h1,h2,h3⟩:=mem_knS.mp hK
  have:=bk2_most sy turn_irr 26 (List.range n) K (by rw [List.length_range];omega) ⟨rise_nodup h1,fun x hx=>List.mem_range.mpr (h2 x hx),fun x hx y hy ne=>by
   cases h:tied (turnT n ties) x y with
   | false=>rfl
   | true=>
    have h4:=(tied_turn.mp h).2.2.2
    rw [h3 x hx y hy ne] at h4;cases h4⟩
  have e:=hp.length_eq
  show K.length≤(riseOf n _).length
  omega
theorem mostK2_len {n:Nat} {ties:List (Nat×Nat)}:(mostK2 n ties).length≤n:=by
 have:=List.length_filter_le (fun x=>decide (x∈bk2 (tied (turnT n ties)) 26 (List.range n))) (List.range n)
 rw [List.length_range] at this
 exact this
theorem hknot_eq (n:Nat) (ties:List (Nat×Nat)) (hn:n≤24) (hl:ties.length≤100000) (s:Pn):runB 3 2 gHK [webD n ties,onesD n] s=some (tupN (mostK2 n ties),s):=by
 have sy:∀a b,tied (turnT n ties) a b=tied (turnT n ties) b a:=tied_comm _
 have hk:=bk2_knot sy 26 (List.range n)
 have hlt:∀x∈bk2 (tied (turnT n ties)) 26 (List.range n),x<n:=fun x hx=>List.mem_range.mp (hk.sub x hx)
 have hp:=riseOf_perm hk.nd hlt
 have htl:=(turnT_web n ties).len hn
 have hc:=ev_comp (src:=[none]) (fi:=iSeqL (dFn (runB 2 1 gN) (dCons (dFn F_turned (dCons (dVar 0) dNil)) dNil))) (τ:=gOne 0) (ft:=bTrue) (fe:=dCall dDictK (dCons (dComp [none] (iSeqL (dVar 0)) (gOne 0) bTrue (dTup (dCons (dVar 0) (dCons (dC (.bl true)) dNil)))) dNil)) (ρ:=[some (webD n ties),some (onesD n),none]) (s:=s) (ds:=(List.range n).map fun p=>D.lst ((nearL n (turnT n ties) p).map nD)) (fun d=>[some d]) (fun _=>true) (fun d=>match d with | .lst ds=>.dk (kvA (ds.map nat0)) | _=>.non)
  (seqL_eq (fn_eq (cons_eq (fn_eq (cons_eq rfl rfl) (qturned_eq n ties s (by omega) hl)) rfl) (all_nearM_eq n (turnT n ties) (by omega) (by omega) s))) (by rw [List.length_map,List.length_range,sizeLine_v];omega) (fun d hd=>by
  obtain ⟨p,hp,rfl⟩:=List.mem_map.mp hd
  refine ⟨rfl,rfl,fun _=>?_⟩
  have hnl:(nearL n (turnT n ties) p).length≤n:=by
   have:=List.length_filter_le (fun o=>tied (turnT n ties) p o) (List.range n)
   rw [List.length_range] at this;exact this
  have hc2:=ev_comp (src:=[none]) (fi:=iSeqL (dVar 0)) (τ:=gOne 0) (ft:=bTrue) (fe:=dTup (dCons (dVar 0) (dCons (dC (.bl true)) dNil))) (ρ:=[some (D.lst ((nearL n (turnT n ties) p).map nD))]) (s:=s) (ds:=(nearL n (turnT n ties) p).map nD) (fun d=>[some d]) (fun _=>true) (fun d=>D.tup [d,.bl true]) (seqL_eq rfl) (by rw [List.length_map,sizeLine_v];omega) (fun d hd=>⟨rfl,rfl,fun _=>tup_eq (cons_eq rfl (cons_eq rfl rfl)) two_le⟩)
  rw [filter_tt,List.map_map] at hc2
  refine call_eq (cons_eq hc2 rfl) ?_
  show (if ((nearL n (turnT n ties) p).map ((fun d=>D.tup [d,.bl true])∘nD)).length≤sizeLine then (putsK [] _).map D.dk else none)=_
  rw [if_pos (by rw [List.length_map,sizeLine_v];omega)]
  have e:=puts_A (nearL n (turnT n ties) p) [] (List.nodup_range.sublist List.filter_sublist) fun _ _=>rfl
  show (putsK [] ((nearL n (turnT n ties) p).map fun o=>D.tup [nD o,.bl true])).map D.dk=_
  rw [e]
  show some (D.dk (kvA (nearL n (turnT n ties) p)))=some (D.dk (kvA (((nearL n (turnT n ties) p).map nD).map nat0)))
  rw [List.map_map]
  have:(nearL n (turnT n ties) p).map (nat0∘nD)=nearL n (turnT n ties) p:=List.map_id _
  rw [this])
 rw [filter_tt,List.map_map] at hc
 have e1:(List.range n).map ((fun d=>match d with | .lst ds=>D.dk (kvA (ds.map nat0)) | _=>.non)∘fun p=>D.lst ((nearL n (turnT n ties) p).map nD))=(List.range n).map fun p=>.dk (kvA (nearL n (turnT n ties) p)):=by
  refine List.map_congr_left fun p _=>?_
  show D.dk (kvA (((nearL n (turnT n ties) p).map nD).map nat0))=_
  rw [List.map_map]
  have:(nearL n (turnT n ties) p).map (nat0∘nD)=nearL n (turnT n ties) p:=List.map_id _
  rw [this]
 rw [e1] at hc
 have hb:=heaviest_eq (n:=n) (A:=nearL n (turnT n ties)) (ap:=tied (turnT n ties)) mem_near_turn s 26 (List.range n) (by rw [List.length_range];omega) (by omega) fun p hp=>List.mem_range.mp hp
 have hlr:dListRange (dOp dIx (dVar 0) (dC (.int 0))) [some (webD n ties),some (onesD n),some (apsD n (nearL n (turnT n ties)))] s=some (.lst ((List.range n).map nD),s):=by
  unfold dListRange mbind
  rw [op_eq' (d:=webD n ties) (e:=.int 0) rfl rfl web0]
  show (if -(2 ^ 62)≤(n:Int)∧(n:Int)≤2 ^ 24 then mret (D.lst (dRange 0 (n:Int).toNat)) else mfail) s=_
  rw [if_pos ⟨by omega,by omega⟩,Int.toNat_natCast,dRange0]
  rfl
 have hbl:=bk2_len (ap:=tied (turnT n ties)) 26 (List.range n)
 have hs:=sort_rise hk.nd hlt (by omega)
 exact runB_eq rfl (sSeq_nx (sSet_eq hc) (sSeq_rt (sRet_eq (call_eq (c:=tupN (mostK2 n ties)) (cons_eq (call_eq (cons_eq (fn_eq (cons_eq rfl (cons_eq rfl (cons_eq hlr rfl))) hb) rfl) hs) rfl) rfl))))
end TQ
namespace TQ
open PySem L2 TF TS
open TP
open TP2
open TP3
theorem mulT_ones (n:Nat) (hn:n≤1000):dMulT (.tup [nD 1]) (nD n)=some (onesD n):=by
 show (if (n:Int)=1 then some (D.tup [nD 1]) else if (n:Int)=0∧[nD 1]≠[] then some (.tup []) else dMulA (.tup [nD 1]) (.int (n:Int)))=_
 by_cases h1:n=1
 ·subst h1;rw [if_pos (by omega)];rfl
 ·rw [if_neg (by omega)]
  by_cases h0:n=0
  ·subst h0;rw [if_pos ⟨by omega,by simp⟩];rfl
  ·rw [if_neg (by omega)]
   show (if [nD 1]≠[]∧2≤(n:Int)∧(n:Int)<2 ^ 62∧[nD 1].length*(n:Int).toNat≤sizeLine then some (D.tup (List.replicate (n:Int).toNat [nD 1]).flatten) else none)=_
   rw [if_pos ⟨by simp,by omega,by omega,by simp only [List.length_singleton,Int.toNat_natCast,sizeLine_v];omega⟩,Int.toNat_natCast,List.flatten_replicate_singleton]
theorem most2_len {n:Nat} {ties:List (Nat×Nat)} (hw:IsWeb n ties) (hn:n≤24):(mostK n ties).length=(mostK2 n ties).length:=by
 obtain ⟨a1,a2⟩:=mostK_spec hw hn
 obtain ⟨b1,b2⟩:=mostK2_spec hw hn
 have:=a2 _ b1
 have:=b2 _ a1
 omega
end TQ
namespace TP3
open PySem L2 TF TP TS
open TP2
noncomputable abbrev om (n:Nat) (ties:List (Nat×Nat)):Nat:=(mostK n ties).length
section
variable {n:Nat} {ties:List (Nat×Nat)}
theorem om_ge (hw:IsWeb n ties) (hn:n≤24) {K:List Nat} (h:K∈kn ties n):K.length≤om n ties:=(mostK_spec hw hn).2 K h
end
end TP3
namespace TQ
open PySem L2 TF TS
open TP
open TP2 hiding g_all_near F_all_near
open TP3 hiding g_full_knots F_full_knots
theorem anear (n:Nat) (ties:List (Nat×Nat)) (hn:n≤1000) (hl:ties.length≤100000) (s:Pn):F_all_near [webD n ties] s=some (nearsD n ties,s):=all_nearM_eq n ties hn hl s
theorem fullM_eq (n:Nat) (ties:List (Nat×Nat)) (hw:IsWeb n ties) (hn:n≤10) (s:Pn):F_full_knots [webD n ties] s=some (.lst (fullD n ties),s):=by
 have hl:=hw.len (show n≤24 by omega)
 rw [←full_knots_eq n ties hw hn s]
 refine runB_congr ?_
 exact (sSeq_nx (sSet_eq (fn_eq (cons_eq rfl rfl) (anear n ties (by omega) (by omega) s))) rfl).trans (sSeq_nx (sSet_eq (fn_eq (cons_eq rfl rfl) (all_near_eq n ties (by omega) s))) rfl).symm
theorem ha_eq:∀m,F_heaviest_among m=FHA m
 | 0=>rfl
 | m+1=>by
  show runB 9 3 (g_heaviest_among (F_heaviest_among m))=runB 9 3 (gHA (FHA m))
  rw [ha_eq m]
  rfl
theorem hk_eq:F_heaviest_knot=runB 3 2 gHK:=by
 unfold F_heaviest_knot g_heaviest_knot
 rw [ha_eq]
 rfl
theorem mostM_eq (n:Nat) (ties:List (Nat×Nat)) (hn:n≤24) (hl:ties.length≤100000) (s:Pn):F_most [webD n ties] s=some (.tup [nD (mostK2 n ties).length,tupN (mostK2 n ties)],s):=by
 have h:=hknot_eq n ties hn hl s
 rw [←hk_eq] at h
 exact runB_eq rfl (sSeq_nx (sSet_eq (fn_eq (cons_eq rfl (cons_eq (op_eq' (tup_eq (ds:=[nD 1]) (cons_eq rfl rfl) (by show 1≤sizeLine;decide)) (op_eq' (d:=webD n ties) (e:=.int 0) rfl rfl web0) (mulT_ones n (by omega))) rfl)) h)) (sSeq_rt (sRet_eq (tup_eq (ds:=[nD (mostK2 n ties).length,tupN (mostK2 n ties)]) (cons_eq (call_eq (cons_eq rfl rfl) (by show some (D.int _)=_;rw [List.length_map])) (cons_eq rfl rfl)) two_le))))
theorem mostO_eq {n:Nat} {ties:List (Nat×Nat)} (hw:IsWeb n ties) (hn:n≤24) (s:Pn):F_most [webD n ties] s=some (.tup [nD (om n ties),tupN (mostK2 n ties)],s):=by
 have hl:=hw.len hn
 have h:=mostM_eq n ties hn (by omega) s
 rw [←most2_len hw hn] at h
 exact h
end TQ
namespace TQ
open PySem L2 TF TS
open TP
open TP2 hiding g_all_near F_all_near
open TP3 hiding g_full_knots F_full_knots
theorem sum_erase {w:Nat→Nat} {x:Nat}:∀{b:List Nat},x∈b→(b.map w).sum=w x+((b.erase x).map w).sum
 | y::r,h=>by
  by_cases e:y=x
  ·subst e;rw [List.erase_cons_head];simp
  ·rw [List.erase_cons_tail (by simpa using e)]
   have hx:x∈r:=by
    rcases List.mem_cons.mp h with z | z
    ·exact absurd z.symm e
    ·exact z
   have:=sum_erase (w:=w) hx
   simp only [List.map_cons,List.sum_cons];omega
theorem sum_sub {w:Nat→Nat}:∀{a b:List Nat},a.Nodup→(∀x∈a,x∈b)→(a.map w).sum≤(b.map w).sum
 | [],b,_,_=>by simp
 | x::r,b,nd,h=>by
  have nd':=List.nodup_cons.mp nd
  have:=sum_sub (w:=w) (b:=b.erase x) nd'.2 fun y hy=>(List.mem_erase_of_ne (by rintro rfl;exact nd'.1 hy)).mpr (h y (by simp [hy]))
  rw [sum_erase (w:=w) (h x (by simp))]
  simp only [List.map_cons,List.sum_cons];omega
theorem sum_le {α:Type} {f g:α→Nat}:∀{l:List α},(∀x∈l,f x≤g x)→(l.map f).sum≤(l.map g).sum
 | [],_=>by simp
 | x::r,h=>by
  have:=sum_le (f:=f) (g:=g) (l:=r) fun y hy=>h y (by simp [hy])
  have:=h x (by simp)
  simp only [List.map_cons,List.sum_cons];omega
theorem sum_filter {g:Nat→Nat} {P:Nat→Bool}:∀l:List Nat,((l.filter P).map g).sum=(l.map fun p=>if P p=true then g p else 0).sum
 | []=>by simp
 | x::r=>by
  have:=sum_filter (g:=g) (P:=P) r
  by_cases h:P x=true
  ·rw [List.filter_cons_of_pos h];simp only [List.map_cons,List.sum_cons,if_pos h];omega
  ·rw [List.filter_cons_of_neg h];simp only [List.map_cons,List.sum_cons,if_neg h];omega
theorem len_parts {f:Nat→Nat}:∀(m:Nat) (J:List Nat),(∀x∈J,f x<m)→J.length=((List.range m).map fun p=>(J.filter fun x=>decide (f x=p)).length).sum:=by
 intro m
 induction m with
 | zero=>
  intro J h
  cases J with
  | nil=>rfl
  | cons x r=>exact absurd (h x (by simp)) (by omega)
 | succ m ih=>
  intro J h
  have h1:=ih (J.filter fun x=>!decide (f x=m)) fun x hx=>by
   have:=List.mem_filter.mp hx
   have h2:=h x this.1
   have h3:f x≠m:=by simpa using this.2
   omega
  rw [List.range_succ,List.map_append,List.sum_append]
  have h2:J.length=(J.filter fun x=>decide (f x=m)).length+(J.filter fun x=>!decide (f x=m)).length:=by
   clear h h1 ih
   induction J with
   | nil=>rfl
   | cons x r ih=>
    by_cases e:f x=m
    ·rw [List.filter_cons_of_pos (by simp [e]),List.filter_cons_of_neg (by simp [e])];simp only [List.length_cons];omega
    ·rw [List.filter_cons_of_neg (by simp [e]),List.filter_cons_of_pos (by simp [e])];simp only [List.length_cons];omega
  have h3:((List.range m).map fun p=>((J.filter fun x=>!decide (f x=m)).filter fun x=>decide (f x=p)).length)=(List.range m).map fun p=>(J.filter fun x=>decide (f x=p)).length:=by
   refine List.map_congr_left fun p hp=>?_
   have hp:=List.mem_range.mp hp
   rw [List.filter_filter]
   congr 1
   refine List.filter_congr fun x _=>?_
   by_cases e:f x=p
   ·have:f x≠m:=by omega
    simp [e];omega
   ·simp [e]
  rw [h3] at h1
  simp only [List.map_cons,List.map_nil,List.sum_cons,List.sum_nil]
  omega
section
variable {ties:List (Nat×Nat)} {ws:List Wb}
noncomputable abbrev nuOf (ws:List Wb) (p:Nat):Nat:=(lns ws).getD p 0
noncomputable abbrev tiOf (ws:List Wb) (p:Nat):List (Nat×Nat):=(ws.map (·.2)).getD p []
noncomputable def oOf (ws:List Wb) (p:Nat):Nat:=om (nuOf ws p) (tiOf ws p)
theorem tied_put2 {k l i j:Nat} (hk:k<ws.length) (hl:l<ws.length) (hi:i<nuOf ws k) (hj:j<nuOf ws l) (h:beg ws k+i≠beg ws l+j) :
  tied (putT ties ws) (beg ws k+i) (beg ws l+j)=if k=l then tied (tiOf ws k) i j else tied ties k l:=by
 rcases Nat.lt_or_gt_of_ne h with h | h
 ·rw [tied_put hk hl hi hj h];rfl
 ·rw [tied_comm,tied_put hl hk hj hi h]
  show (if l=k then tied (tiOf ws l) j i else tied ties l k)=_
  by_cases e:k=l
  ·subst e;rw [if_pos rfl,if_pos rfl,tied_comm]
  ·rw [if_neg (fun z=>e z.symm),if_neg e,tied_comm]
theorem wOf (hws:WsOk ws) {p:Nat} (hp:p<ws.length):IsWeb (nuOf ws p) (tiOf ws p)∧nuOf ws p≤24:=by
 obtain ⟨h1,h2⟩:=getD_at hp
 unfold nuOf tiOf
 rw [h1,h2]
 exact ⟨hws.web _ (List.getElem_mem _),hws.le _ (List.getElem_mem _)⟩
theorem beg_step {k l i:Nat} (h:k<l) (hi:i<nuOf ws k):beg ws k+i<beg ws l:=by
 have h1:=beg_mono ws (show k+1≤l by omega)
 rw [beg_succ] at h1
 exact Nat.lt_of_lt_of_le (Nat.add_lt_add_left hi _) h1
theorem put_ge (hws:WsOk ws) {K:List Nat} (hK:K∈kn ties ws.length):(K.map (oOf ws)).sum≤om (tot ws) (putT ties ws):=by
 obtain ⟨k1,k2,k3⟩:=mem_knS.mp hK
 have hbest:∀p∈K,mostK (nuOf ws p) (tiOf ws p)∈kn (tiOf ws p) (nuOf ws p):=fun p hp=>(mostK_spec (wOf hws (k2 p hp)).1 (wOf hws (k2 p hp)).2).1
 have hJ:(K.flatMap fun p=>(mostK (nuOf ws p) (tiOf ws p)).map fun x=>beg ws p+x)∈kn (putT ties ws) (tot ws):=by
  refine mem_knS.mpr ⟨?_,?_,?_⟩
  ·rw [List.pairwise_flatMap]
   refine ⟨fun p hp=>?_,?_⟩
   ·rw [List.pairwise_map]
    exact (mem_knS.mp (hbest p hp)).1.imp fun h=>by omega
   ·refine (List.Pairwise.and_mem.mp k1).imp fun {p q} h=>?_
    intro x hx y hy
    obtain ⟨i,hi,rfl⟩:=List.mem_map.mp hx
    obtain ⟨j,hj,rfl⟩:=List.mem_map.mp hy
    have:=beg_step h.2.2 ((mem_knS.mp (hbest p h.1)).2.1 i hi)
    omega
  ·intro o ho
   obtain ⟨p,hp,ho⟩:=List.mem_flatMap.mp ho
   obtain ⟨i,hi,rfl⟩:=List.mem_map.mp ho
   exact beg_lt (k2 p hp) ((mem_knS.mp (hbest p hp)).2.1 i hi)
  ·intro a ha b hb ne
   obtain ⟨p,hp,ha⟩:=List.mem_flatMap.mp ha
   obtain ⟨i,hi,rfl⟩:=List.mem_map.mp ha
   obtain ⟨q,hq,hb⟩:=List.mem_flatMap.mp hb
   obtain ⟨j,hj,rfl⟩:=List.mem_map.mp hb
   have b1:=(mem_knS.mp (hbest p hp))
   have b2:=(mem_knS.mp (hbest q hq))
   rw [tied_put2 (k2 p hp) (k2 q hq) (b1.2.1 i hi) (b2.2.1 j hj) ne]
   by_cases e:p=q
   ·subst e
    rw [if_pos rfl]
    exact b1.2.2 i hi j hj fun z=>ne (by rw [z])
   ·rw [if_neg e]
    exact k3 p hp q hq e
 have:=om_ge (putT_web ties ws) hws.sum hJ
 rw [List.length_flatMap] at this
 refine Nat.le_trans (Nat.le_of_eq ?_) this
 congr 1
 refine List.map_congr_left fun p _=>?_
 rw [List.length_map];rfl
theorem put_le (hws:WsOk ws):∃K∈kn ties ws.length,om (tot ws) (putT ties ws)≤(K.map (oOf ws)).sum:=by
 obtain ⟨j1,j2,j3⟩:=mem_knS.mp (mostK_spec (putT_web ties ws) hws.sum).1
 generalize hJ:mostK (tot ws) (putT ties ws)=J at j1 j2 j3
 have inv:∀x∈J,∃k i,k<ws.length∧i<nuOf ws k∧x=beg ws k+i:=fun x hx=>spo_inv (ws:=ws) (m:=ws.length) (Nat.le_refl _) (by rw [beg_tot];exact j2 x hx)
 have hblk:∀k i,k<ws.length→i<nuOf ws k→((spo (lns ws)).getD (beg ws k+i) (0,0)).1=k:=fun k i hk hi=>by rw [spo_at hk hi]
 generalize hf:(fun x=>((spo (lns ws)).getD x (0,0)).1)=f
 have hblk:∀k i,k<ws.length→i<nuOf ws k→f (beg ws k+i)=k:=fun k i hk hi=>by rw [←hf];exact hblk k i hk hi
 have hlt:∀x∈J,f x<ws.length:=fun x hx=>by
  obtain ⟨k,i,hk,hi,rfl⟩:=inv x hx
  rw [hblk k i hk hi];exact hk
 refine ⟨(List.range ws.length).filter fun p=>J.any fun x=>decide (f x=p),?_,?_⟩
 ·refine mem_knS.mpr ⟨(range_rise _).sublist List.filter_sublist,fun o ho=>List.mem_range.mp (List.mem_filter.mp ho).1,fun a ha b hb ne=>?_⟩
  have ha:=(List.mem_filter.mp ha).2
  have hb:=(List.mem_filter.mp hb).2
  rw [List.any_eq_true] at ha hb
  obtain ⟨x,hx,ex⟩:=ha
  obtain ⟨y,hy,ey⟩:=hb
  have ex:=of_decide_eq_true ex
  have ey:=of_decide_eq_true ey
  obtain ⟨k,i,hk,hi,rfl⟩:=inv x hx
  obtain ⟨l,j,hl,hj,rfl⟩:=inv y hy
  rw [hblk k i hk hi] at ex
  rw [hblk l j hl hj] at ey
  subst ex;subst ey
  have hne:beg ws k+i≠beg ws l+j:=fun z=>ne (by rw [←hblk k i hk hi,z,hblk l j hl hj])
  have:=j3 _ hx _ hy hne
  rw [tied_put2 hk hl hi hj hne,if_neg ne] at this
  exact this
 ·have hsum:=len_parts (f:=f) ws.length J hlt
  rw [sum_filter]
  show (mostK (tot ws) (putT ties ws)).length≤_
  rw [hJ,hsum]
  refine sum_le fun p hp=>?_
  have hp:=List.mem_range.mp hp
  by_cases h:(J.any fun x=>decide (f x=p))=true
  ·rw [if_pos h]
   have hk:((J.filter fun x=>decide (f x=p)).map fun x=>x-beg ws p)∈kn (tiOf ws p) (nuOf ws p):=by
    have mm:∀x∈J.filter (fun x=>decide (f x=p)),x∈J∧∃i,i<nuOf ws p∧x=beg ws p+i:=fun x hx=>by
     obtain ⟨h1,h2⟩:=List.mem_filter.mp hx
     obtain ⟨k,i,hk,hi,rfl⟩:=inv x h1
     have h2:=of_decide_eq_true h2
     rw [hblk k i hk hi] at h2
     subst h2
     exact ⟨h1,i,hi,rfl⟩
    refine mem_knS.mpr ⟨?_,?_,?_⟩
    ·rw [List.pairwise_map]
     refine (List.Pairwise.and_mem.mp (j1.sublist List.filter_sublist)).imp fun {a b} h=>?_
     obtain ⟨_,i,_,e1⟩:=mm a h.1
     obtain ⟨_,j,_,e2⟩:=mm b h.2.1
     have:=h.2.2
     omega
    ·intro o ho
     obtain ⟨x,hx,rfl⟩:=List.mem_map.mp ho
     obtain ⟨_,i,hi,rfl⟩:=mm x hx
     omega
    ·intro a ha b hb ne
     obtain ⟨x,hx,rfl⟩:=List.mem_map.mp ha
     obtain ⟨y,hy,rfl⟩:=List.mem_map.mp hb
     obtain ⟨hxJ,i,hi,rfl⟩:=mm x hx
     obtain ⟨hyJ,j,hj,rfl⟩:=mm y hy
     have e1:beg ws p+i-beg ws p=i:=by omega
     have e2:beg ws p+j-beg ws p=j:=by omega
     rw [e1,e2] at ne ⊢
     have hne:beg ws p+i≠beg ws p+j:=by omega
     have:=j3 _ hxJ _ hyJ hne
     rw [tied_put2 hp hp hi hj hne,if_pos rfl] at this
     exact this
   have:=om_ge (wOf hws hp).1 (wOf hws hp).2 hk
   rw [List.length_map] at this
   exact this
  ·rw [if_neg h]
   have:(J.filter fun x=>decide (f x=p))=[]:=List.filter_eq_nil_iff.mpr fun x hx z=>h (List.any_eq_true.mpr ⟨x,hx,z⟩)
   rw [this];exact Nat.le_refl _
end
theorem om_put {n:Nat} {ties:List (Nat×Nat)} {ws:List Wb} (hw:IsWeb n ties) (hl:ws.length=n) (hws:WsOk ws):om (tot ws) (putT ties ws)=mxN ((fullL n ties).map fun K=>(K.map (oOf ws)).sum):=by
 subst hl
 refine Nat.le_antisymm ?_ (mxN_le fun x hx=>?_)
 ·obtain ⟨K,hK,h⟩:=put_le (ties:=ties) hws
  obtain ⟨F,hF,hs⟩:=knot_in_full hw _ _ rfl hK
  refine Nat.le_trans h (Nat.le_trans (sum_sub (rise_nodup (mem_knS.mp hK).1) hs) (mxN_ge (List.mem_map.mpr ⟨F,mem_fullL.mpr hF,rfl⟩)))
 ·obtain ⟨F,hF,rfl⟩:=List.mem_map.mp hx
  exact put_ge hws (full_kn (mem_fullL.mp hF))
theorem oOf_list (ws:List Wb):(List.range ws.length).map (oOf ws)=ws.map fun w=>om w.1 w.2:=by
 refine List.ext_getElem (by simp) fun i h1 h2=>?_
 have hi:i<ws.length:=by simpa using h1
 rw [List.getElem_map,List.getElem_map,List.getElem_range]
 obtain ⟨e1,e2⟩:=getD_at hi
 unfold oOf nuOf tiOf
 rw [e1,e2]
theorem om_wholly {ws:List Wb} (hws:WsOk ws):om (tot ws) (putT (allP ws.length) ws)=(ws.map fun w=>om w.1 w.2).sum:=by
 rw [←oOf_list]
 refine Nat.le_antisymm ?_ (put_ge hws (mem_knS.mpr ⟨range_rise _,fun o ho=>List.mem_range.mp ho,fun a ha b hb ne=>?_⟩))
 ·obtain ⟨K,hK,h⟩:=put_le (ties:=allP ws.length) hws
  obtain ⟨k1,k2,k3⟩:=mem_knS.mp hK
  exact Nat.le_trans h (sum_sub (rise_nodup k1) fun x hx=>List.mem_range.mpr (k2 x hx))
 ·have ha:=List.mem_range.mp ha
  have hb:=List.mem_range.mp hb
  have:=tied_tf (b:=true) ne ha hb
  exact this
theorem om_beside {ws:List Wb} (hws:WsOk ws):om (tot ws) (putT [] ws)=mxN ((ws.map fun w=>om w.1 w.2) ++ [0]):=by
 rw [←oOf_list]
 refine Nat.le_antisymm ?_ (mxN_le fun x hx=>?_)
 ·obtain ⟨K,hK,h⟩:=put_le (ties:=[]) hws
  obtain ⟨k1,k2,k3⟩:=mem_knS.mp hK
  match K,k1,k2,k3,h with
  | [],_,_,_,h=>exact Nat.le_trans h (Nat.zero_le _)
  | [p],_,k2,_,h=>
   refine Nat.le_trans h (mxN_ge ?_)
   rw [List.map_singleton,List.sum_singleton]
   exact List.mem_append_left _ (List.mem_map.mpr ⟨p,List.mem_range.mpr (k2 p (by simp)),rfl⟩)
  | a::b::r,k1,_,k3,_=>
   have hab:a<b:=List.rel_of_pairwise_cons k1 (by simp)
   have:=k3 a (by simp) b (by simp) (by omega)
   simp [tied] at this
 ·rcases List.mem_append.mp hx with h | h
  ·obtain ⟨p,hp,rfl⟩:=List.mem_map.mp h
   have:=put_ge (ties:=[]) hws (K:=[p]) (mem_knS.mpr ⟨List.pairwise_singleton _ _,fun o ho=>by rw [List.mem_singleton.mp ho];exact List.mem_range.mp hp,fun a ha b hb ne=>absurd ((List.mem_singleton.mp ha).trans (List.mem_singleton.mp hb).symm) ne⟩)
   simpa using this
  ·rw [List.mem_singleton.mp h];exact Nat.zero_le _
theorem om_pairs {n m:Nat} {t1 t2:List (Nat×Nat)} (h1:IsWeb n t1) (h2:IsWeb m t2) (hn:n≤24) (hm:m≤24) (hN:n*m≤24):om (n*m) (pairT n m t1 t2)=om n t1*om m t2:=by
 have hw:IsWeb (n*m) (pairT n m t1 t2):=IsWeb.filter _
 refine Nat.le_antisymm ?_ ?_
 ·obtain ⟨j1,j2,j3⟩:=mem_knS.mp (mostK_spec hw hN).1
  generalize hJ:mostK (n*m) (pairT n m t1 t2)=J at j1 j2 j3
  have hm0:∀x∈J,0<m:=fun x hx=>by
   have:=j2 x hx
   rcases Nat.eq_zero_or_pos m with z | z
   ·rw [z] at this;omega
   ·exact z
  have hd:∀x∈J,x / m<n:=fun x hx=>Nat.div_lt_of_lt_mul (by have:=j2 x hx;rw [Nat.mul_comm] at this;exact this)
  have hr:∀x∈J,x % m<m:=fun x hx=>Nat.mod_lt _ (hm0 x hx)
  have tj:∀x∈J,∀y∈J,x≠y→nearB t1 (x / m) (y / m)=true∧nearB t2 (x % m) (y % m)=true:=fun x hx y hy ne=>by
   have:=j3 x hx y hy ne
   rw [tied_pairT ne (j2 x hx) (j2 y hy),Bool.and_eq_true] at this
   exact this
  have hA:((List.range n).filter fun p=>J.any fun x=>decide (x / m=p))∈kn t1 n:=by
   refine mem_knS.mpr ⟨(range_rise _).sublist List.filter_sublist,fun o ho=>List.mem_range.mp (List.mem_filter.mp ho).1,fun a ha b hb ne=>?_⟩
   have ha:=(List.mem_filter.mp ha).2
   have hb:=(List.mem_filter.mp hb).2
   rw [List.any_eq_true] at ha hb
   obtain ⟨x,hx,ex⟩:=ha
   obtain ⟨y,hy,ey⟩:=hb
   have ex:=of_decide_eq_true ex
   have ey:=of_decide_eq_true ey
   subst ex;subst ey
   have:=(tj x hx y hy fun z=>ne (by rw [z])).1
   unfold nearB at this
   simpa [ne] using this
  have hB:((List.range m).filter fun p=>J.any fun x=>decide (x % m=p))∈kn t2 m:=by
   refine mem_knS.mpr ⟨(range_rise _).sublist List.filter_sublist,fun o ho=>List.mem_range.mp (List.mem_filter.mp ho).1,fun a ha b hb ne=>?_⟩
   have ha:=(List.mem_filter.mp ha).2
   have hb:=(List.mem_filter.mp hb).2
   rw [List.any_eq_true] at ha hb
   obtain ⟨x,hx,ex⟩:=ha
   obtain ⟨y,hy,ey⟩:=hb
   have ex:=of_decide_eq_true ex
   have ey:=of_decide_eq_true ey
   subst ex;subst ey
   have:=(tj x hx y hy fun z=>ne (by rw [z])).2
   unfold nearB at this
   simpa [ne] using this
  have a1:=om_ge h1 hn hA
  have b1:=om_ge h2 hm hB
  generalize hAA:((List.range n).filter fun p=>J.any fun x=>decide (x / m=p))=A at a1 hA
  generalize hBB:((List.range m).filter fun p=>J.any fun x=>decide (x % m=p))=B at b1 hB
  show (mostK (n*m) (pairT n m t1 t2)).length≤_
  rw [hJ]
  have hsub:J.length≤(A.flatMap fun a=>B.map fun b=>a*m+b).length:=nodup_len (rise_nodup j1) fun x hx=>by
   refine List.mem_flatMap.mpr ⟨x / m,?_,List.mem_map.mpr ⟨x % m,?_,?_⟩⟩
   ·rw [←hAA]
    exact List.mem_filter.mpr ⟨List.mem_range.mpr (hd x hx),List.any_eq_true.mpr ⟨x,hx,by simp⟩⟩
   ·rw [←hBB]
    exact List.mem_filter.mpr ⟨List.mem_range.mpr (hr x hx),List.any_eq_true.mpr ⟨x,hx,by simp⟩⟩
   ·rw [Nat.mul_comm];exact Nat.div_add_mod x m
  have hlen:(A.flatMap fun a=>B.map fun b=>a*m+b).length=A.length*B.length:=by
   rw [List.length_flatMap]
   have:(A.map fun a=>(B.map fun b=>a*m+b).length)=A.map fun _=>B.length:=List.map_congr_left fun a _=>List.length_map _
   rw [this,List.map_const',List.sum_replicate_nat]
  rw [hlen] at hsub
  exact Nat.le_trans hsub (Nat.mul_le_mul a1 b1)
 ·obtain ⟨p1,p2,p3⟩:=mem_knS.mp (mostK_spec h1 hn).1
  obtain ⟨q1,q2,q3⟩:=mem_knS.mp (mostK_spec h2 hm).1
  have hJ:((mostK n t1).flatMap fun a=>(mostK m t2).map fun b=>a*m+b)∈kn (pairT n m t1 t2) (n*m):=by
   refine mem_knS.mpr ⟨?_,?_,?_⟩
   ·rw [List.pairwise_flatMap]
    refine ⟨fun p hp=>?_,?_⟩
    ·rw [List.pairwise_map]
     exact q1.imp fun h=>by omega
    ·refine p1.imp fun {p q} h=>?_
     intro x hx y hy
     obtain ⟨i,hi,rfl⟩:=List.mem_map.mp hx
     obtain ⟨j,hj,rfl⟩:=List.mem_map.mp hy
     have:=q2 i hi
     have:(p+1)*m≤q*m:=Nat.mul_le_mul_right _ h
     rw [Nat.add_mul,Nat.one_mul] at this
     omega
   ·intro o ho
    obtain ⟨p,hp,ho⟩:=List.mem_flatMap.mp ho
    obtain ⟨i,hi,rfl⟩:=List.mem_map.mp ho
    exact idx_lt (p2 p hp) (q2 i hi)
   ·intro a ha b hb ne
    obtain ⟨p,hp,ha⟩:=List.mem_flatMap.mp ha
    obtain ⟨i,hi,rfl⟩:=List.mem_map.mp ha
    obtain ⟨q,hq,hb⟩:=List.mem_flatMap.mp hb
    obtain ⟨j,hj,rfl⟩:=List.mem_map.mp hb
    rw [tied_pairT ne (idx_lt (p2 p hp) (q2 i hi)) (idx_lt (p2 q hq) (q2 j hj)),(div_at (q2 i hi)).1,(div_at (q2 i hi)).2,(div_at (q2 j hj)).1,(div_at (q2 j hj)).2,Bool.and_eq_true]
    unfold nearB
    constructor
    ·by_cases e:p=q
     ·simp [e]
     ·simp [p3 p hp q hq e]
    ·by_cases e:i=j
     ·simp [e]
     ·simp [q3 i hi j hj e]
  have:=om_ge hw hN hJ
  rw [List.length_flatMap] at this
  have e:((mostK n t1).map fun a=>((mostK m t2).map fun b=>a*m+b).length)=(mostK n t1).map fun _=>(mostK m t2).length:=List.map_congr_left fun a _=>List.length_map _
  rw [e,List.map_const',List.sum_replicate_nat] at this
  exact this
end TQ
namespace K63
open PySem L2 TF TQ TS
open TP
open TP2 hiding g_all_near F_all_near
open TP3 hiding g_full_knots F_full_knots
theorem sum_ints:∀l:List Nat,(l.map fun x:Nat=>(x:Int)).sum=((l.sum:Nat):Int)
 | []=>rfl
 | x::r=>by rw [List.map_cons,List.sum_cons,List.sum_cons,sum_ints r];omega
theorem sumN (l:List Nat) (h:∀x∈l,x≤1000000):dSum [.lst (l.map nD)]=some (nD l.sum):=by
 have h1:intsOf (l.map nD)=some (l.map fun x:Nat=>(x:Int)):=intsOf_nD l
 show (match intsOf (l.map nD) with | some ns=>if okSum ns=true then some (D.int ns.sum) else none | none=>none)=_
 rw [h1]
 have h2:okSum (l.map fun x:Nat=>(x:Int))=true:=List.all_eq_true.mpr fun x hx=>by
  obtain ⟨y,hy,rfl⟩:=List.mem_map.mp hx
  have:=h y hy
  simp;omega
 show (if okSum (l.map fun x:Nat=>(x:Int))=true then some (D.int (l.map fun x:Nat=>(x:Int)).sum) else none)=_
 rw [if_pos h2,sum_ints]
theorem tright_eq {n:Nat} {ties:List (Nat×Nat)} (hw:IsWeb n ties) (hn:n≤24) {due:Nat} (h:due=om n ties) (s:Pn):F__law_tright [webD n ties,nD due] s=some (.bl true,s):=by
 subst h
 have hl:(mostK2 n ties).length≤24:=Nat.le_trans mostK2_len hn
 have htl:=hw.len hn
 have q:=is_knotN_eq n ties (by omega) (mostK2 n ties) (by omega) s
 rw [decide_eq_true (mostK2_spec hw hn).1] at q
 have e:∀a:Nat,dEqO (nD a) (nD a)=some (.bl true):=fun a=>by rw [eqn];simp
 have hlen:dLen [tupN (mostK2 n ties)]=some (nD (om n ties)):=by show some (D.int _)=_;rw [List.length_map,←most2_len hw hn]
 refine Ok.toEq (Ok.runB rfl ?_)
 refine Ok.seq (.sunp (.eq (fn_eq (cons_eq rfl rfl) (mostO_eq hw hn s)) ⟨_,rfl,?_⟩))
 refine Ok.seq (.sret (.eq (vand_eq (a:=true) (b:=true) (op_eq' (d:=nD (om n ties)) (e:=nD (om n ties)) rfl rfl (e _)) (vand_eq (a:=true) (b:=true) (op_eq' (d:=nD (om n ties)) (e:=nD (om n ties)) (call_eq (cons_eq rfl rfl) hlen) rfl (e _)) (op_eq' (d:=.bl true) (e:=.bl true) (fn_eq (cons_eq rfl (cons_eq rfl rfl)) q) rfl rfl))) ⟨rfl,rfl⟩))
theorem most_ix {n:Nat} {ties:List (Nat×Nat)} {g:Rho→M D} {ρ:Rho} {s s1:Pn} (h:g ρ s=some (webD n ties,s1)) (hw:IsWeb n ties) (hn:n≤24):dOp dIx (dFn F_most (dCons g dNil)) (dC (.int 0)) ρ s=some (nD (om n ties),s1):=
 op_eq' (d:=.tup [nD (om n ties),tupN (mostK2 n ties)]) (e:=.int 0) (fn_eq (cons_eq h rfl) (mostO_eq hw hn s1)) rfl (atI_0 _ _)
noncomputable def natO (d:D):Nat:=match d with | .tup [.int n,.tup ps]=>om n.toNat (ps.map fun q=>match q with | .tup [.int a,.int b]=>(a.toNat,b.toNat) | _=>(0,0)) | _=>0
theorem natO_web (n:Nat) (ties:List (Nat×Nat)):natO (webD n ties)=om n ties:=by
 show om (n:Int).toNat ((ties.map pairD).map _)=_
 rw [List.map_map,Int.toNat_natCast]
 congr 1
 conv=>rhs;rw [←List.map_id ties]
 refine List.map_congr_left fun p _=>?_
 rfl
theorem om_small {n:Nat} {ties:List (Nat×Nat)} (hn:n≤24):om n ties≤24:=Nat.le_trans mostK_len hn
theorem webs_ix {ws:List Wb} {p:Nat} (h:p<ws.length):dIx (.lst (websD ws)) (nD p)=some (webD (nuOf ws p) (tiOf ws p)):=by
 refine atI_nat ?_
 unfold websD
 rw [List.getElem?_map,List.getElem?_eq_getElem h]
 obtain ⟨e1,e2⟩:=getD_at h
 unfold nuOf tiOf
 rw [e1,e2]
 rfl
set_option maxHeartbeats 1000000 in
theorem law_true (m:Int) (w:List Int):∃s',g_law (none::some .pen::List.replicate 7 none) ([m,0],w)=some (.rt (.bl true),s'):=by
 have ok0:okD 0 ([m,0],w):=⟨m,0,rfl,by omega,by omega⟩
 suffices hh:Ok (g_law (none::some .pen::List.replicate 7 none)) ([m,0],w) fun o s'=>o=.rt (.bl true) by
  obtain ⟨o,s',e,rfl⟩:=hh
  exact ⟨s',e⟩
 refine Ok.seq (.sfor (fun i ρ s'=>okD (i*30000) s'∧∃o2 o3 o4 o5 o6 o7 o8,ρ=[none,some .pen,o2,o3,o4,o5,o6,o7,o8]) (.eq (ev_range1 (n:=2) rfl (by omega)) ⟨⟨ok0.mono (by omega),none,none,none,none,none,none,none,rfl⟩,fun i d ρ s' hd hI=>?_,fun ρ' s' hI=>?_⟩))
 ·obtain ⟨ok1,o2,o3,o4,o5,o6,o7,o8,rfl⟩:=hI
  obtain ⟨hi,rfl⟩:=dRange_get0 hd
  refine ⟨_,rfl,?_⟩
  refine Ok.seq (.sset (.fn' (.cons (.eq rfl (.cons (.drawD (m:=6) ok1 (by omega) (cons_eq rfl (cons_eq rfl rfl)) (by omega) (by omega) fun r s1 hr ok1=>.cons (.eq rfl (.nil ?_))))))))
  obtain ⟨wd,s2,ew,ok2,ws,rfl,hwl,hws0⟩:=twebs_ok ok1 (by omega) r 24 (by omega) (by omega)
  have hws:=WsOk.of hws0 (by omega)
  refine .eq ew ?_
  have hc:=ev_comp (src:=[none]) (fi:=iSeqL (dVar 3)) (τ:=gOne 0) (ft:=bTrue) (fe:=dOp dIx (dFn F_most (dCons (dVar 0) dNil)) (dC (.int 0))) (ρ:=[none,some .pen,some (nD i),some (.lst (websD ws)),o4,o5,o6,o7,o8]) (s:=s2) (ds:=websD ws) (fun d=>[some d]) (fun _=>true) (fun d=>nD (natO d)) (seqL_eq rfl) (by unfold websD;rw [List.length_map,sizeLine_v];omega) (fun d hd=>by
   obtain ⟨v,hv,rfl⟩:=List.mem_map.mp hd
   refine ⟨rfl,rfl,fun _=>?_⟩
   rw [natO_web]
   exact most_ix rfl (hws.web v hv) (hws.le v hv))
  have he:(websD ws).map (fun d=>nD (natO d))=(ws.map fun v=>om v.1 v.2).map nD:=by
   unfold websD
   rw [List.map_map,List.map_map]
   refine List.map_congr_left fun v _=>?_
   show nD (natO (webD v.1 v.2))=_
   rw [natO_web];rfl
  rw [filter_tt,he] at hc
  refine Ok.seq (.sset (.eq hc ?_))
  generalize hS:(ws.map fun v=>om v.1 v.2)=S
  have hSl:S.length≤6:=by rw [←hS,List.length_map];omega
  have hSs:∀x∈S,x≤1000000:=fun x hx=>by
   rw [←hS] at hx
   obtain ⟨v,hv,rfl⟩:=List.mem_map.mp hx
   have:=om_small (ties:=v.2) (hws.le v hv)
   omega
  have hb:om (tot ws) (putT [] ws)=mxN (S ++ [0]):=by rw [←hS];exact om_beside hws
  have ha:om (tot ws) (putT (allP ws.length) ws)=S.sum:=by rw [←hS];exact om_wholly hws
  have hmax:dMaxL [.lst ((S ++ [0]).map nD)]=some (nD (mxN (S ++ [0]))):=maxL_any (by simp)
  have hadd:dOp dAdd (dVar 4) (dLst (dCons (dC (.int 0)) dNil)) [none,some .pen,some (nD i),some (.lst (websD ws)),some (.lst (S.map nD)),o5,o6,o7,o8] s2=some (.lst ((S ++ [0]).map nD),s2):=
   op_eq' (d:=.lst (S.map nD)) (e:=.lst [nD 0]) rfl (lst_eq (cons_eq rfl rfl) (by show 1≤sizeLine;decide)) (by rw [lst_cat (by rw [List.length_map];simp;omega),List.map_append];rfl)
  refine Ok.seq (.sif (.eq (a:=false) (bor_f (not_eq' (b:=true) (asB_eq (fn_eq (cons_eq (fn_eq (cons_eq rfl rfl) (beside_eq hws s2)) (cons_eq (call_eq (cons_eq hadd rfl) hmax) rfl)) (tright_eq (putT_web _ _) hws.sum hb.symm s2)))) (not_eq' (b:=true) (asB_eq (fn_eq (cons_eq (fn_eq (cons_eq rfl rfl) (wholly_eq hws s2)) (cons_eq (call_eq (cons_eq rfl rfl) (sumN S hSs)) rfl)) (tright_eq (putT_web _ _) hws.sum ha.symm s2))))) (.next ?_)))
  obtain ⟨w1,s3,ew1,ok3,n,ties,rfl,hn,hw1⟩:=tweb_ok ok2 (by omega) 6 (by omega)
  refine Ok.seq (.sset (.eq (fn_eq (cons_eq rfl (cons_eq rfl rfl)) ew1) ?_))
  obtain ⟨wd,s4,ew2,ok4,vs,rfl,hvl,hvs0⟩:=twebs_ok ok3 (by omega) n 24 (by omega) (by omega)
  refine Ok.seq (.sset (.eq (fn_eq (cons_eq rfl (cons_eq (op_eq' (d:=webD n ties) (e:=.int 0) rfl rfl web0) (cons_eq rfl rfl))) ew2) ?_))
  have hvs:=WsOk.of hvs0 (by omega)
  have hT1:=hw1.len (show n≤24 by omega)
  have hf:=fullM_eq n ties hw1 (by omega) s4
  rw [fullD_L] at hf
  have hfl:=fullL_len hw1 (show n≤10 by omega)
  have hkl:∀k∈fullL n ties,∀x∈k,x<n:=fun k hk=>(mem_knS.mp (full_kn (mem_fullL.mp hk))).2.1
  have hkn:∀k∈fullL n ties,k.length≤n:=fun k hk=>(kn_mem (full_kn (mem_fullL.mp hk))).2
  have hin:∀k∈fullL n ties,dCall dSum (dCons (dComp [none,some 1] (iSeqT (dVar 0)) (gOne 0) bTrue (dOp dIx (dFn F_most (dCons (dOp dIx (dVar 1) (dVar 0)) dNil)) (dC (.int 0)))) dNil) [some (tupN k),some (.lst (websD vs))] s4=some (nD (k.map (oOf vs)).sum,s4):=fun k hk=>by
   have hc2:=ev_comp (src:=[none,some 1]) (fi:=iSeqT (dVar 0)) (τ:=gOne 0) (ft:=bTrue) (fe:=dOp dIx (dFn F_most (dCons (dOp dIx (dVar 1) (dVar 0)) dNil)) (dC (.int 0))) (ρ:=[some (tupN k),some (.lst (websD vs))]) (s:=s4) (ds:=k.map nD) (fun d=>[some d,some (.lst (websD vs))]) (fun _=>true) (fun d=>nD (oOf vs (nat0 d))) (seqT_eq rfl) (by rw [List.length_map,sizeLine_v];have:=hkn k hk;omega) (fun d hd=>by
    obtain ⟨x,hx,rfl⟩:=List.mem_map.mp hd
    have hxn:=hkl k hk x hx
    refine ⟨rfl,rfl,fun _=>?_⟩
    obtain ⟨v1,v2⟩:=wOf hvs (show x<vs.length by omega)
    exact most_ix (op_eq' (d:=.lst (websD vs)) (e:=nD x) rfl rfl (webs_ix (by omega))) v1 v2)
   rw [filter_tt,List.map_map] at hc2
   refine call_eq (cons_eq hc2 rfl) ?_
   have:=sumN (k.map (oOf vs)) fun x hx=>by
    obtain ⟨y,hy,rfl⟩:=List.mem_map.mp hx
    have:=om_small (ties:=tiOf vs y) (wOf hvs (show y<vs.length by have:=hkl k hk y hy;omega)).2
    unfold oOf;omega
   rw [List.map_map] at this
   exact this
  have hs:=ev_comp (src:=[none,some 3]) (fi:=iSeqL (dFn F_full_knots (dCons (dVar 5) dNil))) (τ:=gOne 0) (ft:=bTrue) (fe:=dCall dSum (dCons (dComp [none,some 1] (iSeqT (dVar 0)) (gOne 0) bTrue (dOp dIx (dFn F_most (dCons (dOp dIx (dVar 1) (dVar 0)) dNil)) (dC (.int 0)))) dNil)) (ρ:=[none,some .pen,some (nD i),some (.lst (websD vs)),some (.lst (S.map nD)),some (webD n ties),o6,o7,o8]) (s:=s4) (ds:=(fullL n ties).map tupN) (fun d=>[some d,some (.lst (websD vs))]) (fun _=>true) (fun d=>nD ((unD d).map (oOf vs)).sum) (seqL_eq (fn_eq (cons_eq rfl rfl) hf)) (by rw [List.length_map,sizeLine_v];omega) (fun d hd=>by
   obtain ⟨x,hx,rfl⟩:=List.mem_map.mp hd
   refine ⟨rfl,rfl,fun _=>?_⟩
   rw [unD_tupN]
   exact hin x hx)
  have hse:((fullL n ties).map tupN).map (fun d=>nD ((unD d).map (oOf vs)).sum)=((fullL n ties).map fun K=>(K.map (oOf vs)).sum).map nD:=by
   rw [List.map_map,List.map_map]
   refine List.map_congr_left fun k _=>?_
   show nD ((unD (tupN k)).map (oOf vs)).sum=_
   rw [unD_tupN];rfl
  rw [filter_tt,hse] at hs
  refine Ok.seq (.sset (.eq hs ?_))
  have hmx:=maxL_any (l:=(fullL n ties).map fun K=>(K.map (oOf vs)).sum) (by simpa using fullL_ne hw1)
  refine Ok.seq (.sif (.eq (a:=false) (not_eq' (b:=true) (asB_eq (fn_eq (cons_eq (fn_eq (cons_eq rfl (cons_eq rfl rfl)) (put_in_ok n ties (by omega) hvs s4)) (cons_eq (call_eq (cons_eq rfl rfl) hmx) rfl)) (tright_eq (putT_web _ _) hvs.sum (om_put hw1 hvl hvs).symm s4)))) (.next ?_)))
  refine Ok.seq (.sset (.fn' (.cons (.eq rfl (.cons (Ok.pick (m:=3) (ds:=[nD 1,nD 4,nD 8]) rfl rfl ok4 (by omega) rfl (by omega) (by omega) fun lim s6 hlim ok6=>.nil ?_))))))
  obtain ⟨lm,rfl,hlm⟩:∃lm:Nat,lim=nD lm∧lm≤8:=by
   simp only [List.mem_cons,List.not_mem_nil,or_false] at hlim
   rcases hlim with rfl | rfl | rfl
   ·exact ⟨1,rfl,by omega⟩
   ·exact ⟨4,rfl,by omega⟩
   ·exact ⟨8,rfl,by omega⟩
  obtain ⟨x1,s7,e7,ok7,a,t1,rfl,ha1,hx1⟩:=tweb_ok ok6 (by omega) lm (by omega)
  refine .eq e7 ?_
  have hmx2:24 / max 1 a≤24:=Nat.div_le_self _ _
  obtain ⟨x2,s8,e8,ok8,b,t2,rfl,hb1,hx2⟩:=tweb_ok ok7 (by omega) (24 / max 1 a) hmx2
  have hab:a*b≤24:=by
   rcases Nat.eq_zero_or_pos a with h0 | h0
   ·subst h0;omega
   ·have e:max 1 a=a:=by omega
    rw [e] at hb1
    calc a*b≤a*(24 / a):=Nat.mul_le_mul_left _ hb1
     _≤24:=Nat.mul_div_le 24 a
  have hl1:=hx1.len (show a≤24 by omega)
  have hl2:=hx2.len (show b≤24 by omega)
  refine Ok.seq (.sset (.eq (fn_eq (cons_eq rfl (cons_eq (op_eq' (d:=nD 24) (e:=nD (max 1 a)) rfl (call_eq (cons_eq rfl (cons_eq (op_eq' (d:=webD a t1) (e:=.int 0) rfl rfl web0) rfl)) (maxN 1 a)) (fdivN 24 (max 1 a) (by omega) (by omega))) rfl)) e8) ?_))
  have ho1:=om_small (ties:=t1) (show a≤24 by omega)
  refine Ok.seq (.sif (.eq (a:=false) (not_eq' (b:=true) (asB_eq (fn_eq (cons_eq (fn_eq (cons_eq rfl (cons_eq rfl rfl)) (by_pairs_eq a b t1 t2 (by omega) (by omega) (by omega) (by omega) (by omega) s8)) (cons_eq (op_eq' (d:=nD (om a t1)) (e:=nD (om b t2)) (most_ix rfl hx1 (by omega)) (most_ix rfl hx2 (by omega)) (mulN _ _ (by omega))) rfl)) (tright_eq (IsWeb.filter _) hab (om_pairs hx1 hx2 (by omega) (by omega) hab).symm s8)))) (.next ?_)))
  exact .next ⟨_,rfl,ok8.mono (by omega),_,_,_,_,_,_,_,rfl⟩
 ·obtain ⟨ok1,o2,o3,o4,o5,o6,o7,o8,rfl⟩:=hI
  exact Ok.seq (.sret (.eq (a:=.bl true) rfl rfl))
end K63
namespace K63
open PySem.Spec PyProof.Rows
open PySem L2 TF TQ
open TP
open TP2 hiding g_all_near F_all_near
open TP3 hiding g_full_knots F_full_knots
set_option maxHeartbeats 4000000 in
theorem ok_law {P:Program} {w:World} {K:PySem.W.Frag} {mg:Str→Option Value} {base:Heap} {a_f a_p:Addr} {fd_f fd_p:FuncData} {L:List (Addr×Str)} (lo:LOk L) (F:Fun K "law" "law" s_law a_f fd_f) (T:Txt mg) (FP:FnOk P w K mg base CX0 1 a_p fd_p ["script"] (spPen K)) (hmp:mg "_law_tpen" = some (.ref a_p)) (hkp:PySem.W.keepIn K (.ref a_p)=true) (hbp:Binds K fd_p ["script"] []) (c__law_tdraw:Cal P w K mg base 1 "_law_tdraw" 2 true (PenT PenD L) drawF) (c__law_tright:Cal P w K mg base 56 "_law_tright" 2 false (TabsG L) F__law_tright) (c__law_tweb:Cal P w K mg base 2 "_law_tweb" 2 true (PenT PenD L) F__law_tweb) (c__law_twebs:Cal P w K mg base 3 "_law_twebs" 3 true (PenT PenD L) F__law_twebs) (c_beside:Cal P w K mg base 7 "beside" 1 false (TabsG L) F_beside) (c_by_pairs:Cal P w K mg base 6 "by_pairs" 2 false (TabsG L) F_by_pairs) (c_full_knots:Cal P w K mg base 4 "full_knots" 1 true AnyG F_full_knots) (c_most:Cal P w K mg base 55 "most" 1 true (TabsG L) F_most) (c_put_in:Cal P w K mg base 6 "put_in" 2 false (TabsG L) F_put_in) (c_wholly_tied:Cal P w K mg base 7 "wholly_tied" 1 false (TabsG L) F_wholly_tied) :
  FnOk P w K mg base CX0 57 a_f fd_f ["script"] (spLawT K L):=by
 have nd:=sc_law.nd
 refine F.ok sc_law (fun vs H Q E h=>?_) fun cdv A outer s0 H vs Q E hr h=>?_
 ·obtain ⟨a,ns,rfl,_⟩:=h
  rfl
 ·obtain ⟨a,ns,rfl,sq,hl,hTb,hQ⟩:=h
  refine ⟨_,pss_cons (ps_set (i:=1) nd rfl (Or.inl rfl) (pe_call (FP.mono (by decide)) hr rfl hmp hkp hbp .nil pass0 (pa_cons (pv 0) pa_nil))) (pss_anyG (GG:=(PenT PenD L)) fun G hG=>der_law lo T hr c__law_tdraw c__law_tright c__law_tweb c__law_twebs c_beside c_by_pairs c_full_knots c_most c_put_in c_wholly_tied G hG),?_⟩
  refine ⟨.ref a,rfl,a,ns,rfl,sq,hl,fun p wa m H' st kp hp hw=>?_⟩
  obtain ⟨s',hs'⟩:=law_true m (wideOf ns)
  exact lawD_runT (n:=7) st hTb kp hp hw hQ hs'
set_option maxHeartbeats 4000000 in
theorem all_mk {l:PySem.W.OpenLaw} {w:World} {K:PySem.W.Frag} {h:Heap} {mg:Str→Option Value} {fa f1 f2 f3 f4 f5 f6 f7 f8 f9 f10 f11 f12 f13 f14 f15 f16 f17 f18 f19 f20 f21 f22 f23 f24 f25 f26 f27 f28 f29 f30 f31 f32 f33:Addr} {tc16 tc23 tc26:Addr} (tP16 tP23 tP26:Addr) (lo:LOk [(tP16,(Str.ofString "turned.<locals>.<lambda>")),(tP23,(Str.ofString "put_in.<locals>.are_tied_there")),(tP26,(Str.ofString "by_pairs.<locals>.are_tied_there"))]) (X:K.In h) (G:h.Ns mainGlobals mg) (hfa:mg "law" = some (.ref fa))
  {od1 an1 od2 an2 od3 an3 od4 an4 od5 an5 od6 an6 od7 an7 od8 an8 od9 an9 od10 an10 od11 an11 od12 an12 od13 an13 od14 an14 od15 an15 od16 an16 od17 an17 od18 an18 od19 an19 od20 an20 od21 an21 od22 an22 od23 an23 od24 an24 od25 an25 od26 an26 od27 an27 od28 an28 od29 an29 od30 an30 od31 an31 od32 an32 od33 an33:Option Addr} {sl1 sl2 sl3 sl4 sl5 sl6 sl7 sl8 sl9 sl10 sl11 sl12 sl13 sl14 sl15 sl16 sl17 sl18 sl19 sl20 sl21 sl22 sl23 sl24 sl25 sl26 sl27 sl28 sl29 sl30 sl31 sl32 sl33:Array (Option Value)} {oc1 kV1 dc1 pm1 cd1 ct1 oc2 kV2 dc2 pm2 cd2 ct2 oc3 kV3 dc3 pm3 cd3 ct3 oc4 kV4 dc4 pm4 cd4 ct4 oc5 kV5 dc5 pm5 cd5 ct5 oc6 kV6 dc6 pm6 cd6 ct6 oc7 kV7 dc7 pm7 cd7 ct7 oc8 kV8 dc8 pm8 cd8 ct8 oc9 kV9 dc9 pm9 cd9 ct9 oc10 kV10 dc10 pm10 cd10 ct10 oc11 kV11 dc11 pm11 cd11 ct11 oc12 kV12 dc12 pm12 cd12 ct12 oc13 kV13 dc13 pm13 cd13 ct13 oc14 kV14 dc14 pm14 cd14 ct14 oc15 kV15 dc15 pm15 cd15 ct15 oc16 kV16 dc16 pm16 ct16 oc17 kV17 dc17 pm17 cd17 ct17 oc18 kV18 dc18 pm18 cd18 ct18 oc19 kV19 dc19 pm19 cd19 ct19 oc20 kV20 dc20 pm20 cd20 ct20 oc21 kV21 dc21 pm21 cd21 ct21 oc22 kV22 dc22 pm22 cd22 ct22 oc23 kV23 dc23 pm23 ct23 oc24 kV24 dc24 pm24 cd24 ct24 oc25 kV25 dc25 pm25 cd25 ct25 oc26 kV26 dc26 pm26 ct26 oc27 kV27 dc27 pm27 cd27 ct27 oc28 kV28 dc28 pm28 cd28 ct28 oc29 kV29 dc29 pm29 cd29 ct29 oc30 kV30 dc30 pm30 cd30 ct30 oc31 kV31 dc31 pm31 cd31 ct31 oc32 kV32 dc32 pm32 cd32 ct32 oc33 kV33 dc33 pm33 cd33 ct33:Value}
  (a1:PySem.W.nsIn K mainGlobals "_law_tdraw" = some (some (.ref f1))) (l1:K.lookup f1=some ⟨oc1,od1,.func (PySem.W.fnOf "_law_tdraw" "_law_tdraw" (defArgs s__law_tdraw) (defBody s__law_tdraw) (defScope s__law_tdraw) .none kV1 dc1 pm1 an1 cd1 ct1),sl1⟩) (c1:PySem.W.codeIn K cd1 "_law_tdraw" = true) (k1:PySem.W.keepIn K (.ref f1)=true)
  (a2:PySem.W.nsIn K mainGlobals "is_whole" = some (some (.ref f2))) (l2:K.lookup f2=some ⟨oc2,od2,.func (PySem.W.fnOf "is_whole" "is_whole" (defArgs s_is_whole) (defBody s_is_whole) (defScope s_is_whole) .none kV2 dc2 pm2 an2 cd2 ct2),sl2⟩) (c2:PySem.W.codeIn K cd2 "is_whole" = true) (k2:PySem.W.keepIn K (.ref f2)=true)
  (a3:PySem.W.nsIn K mainGlobals "is_place" = some (some (.ref f3))) (l3:K.lookup f3=some ⟨oc3,od3,.func (PySem.W.fnOf "is_place" "is_place" (defArgs s_is_place) (defBody s_is_place) (defScope s_is_place) .none kV3 dc3 pm3 an3 cd3 ct3),sl3⟩) (c3:PySem.W.codeIn K cd3 "is_place" = true) (k3:PySem.W.keepIn K (.ref f3)=true)
  (a4:PySem.W.nsIn K mainGlobals "marked_ties" = some (some (.ref f4))) (l4:K.lookup f4=some ⟨oc4,od4,.func (PySem.W.fnOf "marked_ties" "marked_ties" (defArgs s_marked_ties) (defBody s_marked_ties) (defScope s_marked_ties) .none kV4 dc4 pm4 an4 cd4 ct4),sl4⟩) (c4:PySem.W.codeIn K cd4 "marked_ties" = true) (k4:PySem.W.keepIn K (.ref f4)=true)
  (a5:PySem.W.nsIn K mainGlobals "pairs_of" = some (some (.ref f5))) (l5:K.lookup f5=some ⟨oc5,od5,.func (PySem.W.fnOf "pairs_of" "pairs_of" (defArgs s_pairs_of) (defBody s_pairs_of) (defScope s_pairs_of) .none kV5 dc5 pm5 an5 cd5 ct5),sl5⟩) (c5:PySem.W.codeIn K cd5 "pairs_of" = true) (k5:PySem.W.keepIn K (.ref f5)=true)
  (a6:PySem.W.nsIn K mainGlobals "rises" = some (some (.ref f6))) (l6:K.lookup f6=some ⟨oc6,od6,.func (PySem.W.fnOf "rises" "rises" (defArgs s_rises) (defBody s_rises) (defScope s_rises) .none kV6 dc6 pm6 an6 cd6 ct6),sl6⟩) (c6:PySem.W.codeIn K cd6 "rises" = true) (k6:PySem.W.keepIn K (.ref f6)=true)
  (a7:PySem.W.nsIn K mainGlobals "is_knot" = some (some (.ref f7))) (l7:K.lookup f7=some ⟨oc7,od7,.func (PySem.W.fnOf "is_knot" "is_knot" (defArgs s_is_knot) (defBody s_is_knot) (defScope s_is_knot) .none kV7 dc7 pm7 an7 cd7 ct7),sl7⟩) (c7:PySem.W.codeIn K cd7 "is_knot" = true) (k7:PySem.W.keepIn K (.ref f7)=true)
  (a8:PySem.W.nsIn K mainGlobals "are_tied" = some (some (.ref f8))) (l8:K.lookup f8=some ⟨oc8,od8,.func (PySem.W.fnOf "are_tied" "are_tied" (defArgs s_are_tied) (defBody s_are_tied) (defScope s_are_tied) .none kV8 dc8 pm8 an8 cd8 ct8),sl8⟩) (c8:PySem.W.codeIn K cd8 "are_tied" = true) (k8:PySem.W.keepIn K (.ref f8)=true)
  (a9:PySem.W.nsIn K mainGlobals "near" = some (some (.ref f9))) (l9:K.lookup f9=some ⟨oc9,od9,.func (PySem.W.fnOf "near" "near" (defArgs s_near) (defBody s_near) (defScope s_near) .none kV9 dc9 pm9 an9 cd9 ct9),sl9⟩) (c9:PySem.W.codeIn K cd9 "near" = true) (k9:PySem.W.keepIn K (.ref f9)=true)
  (a10:PySem.W.nsIn K mainGlobals "all_near" = some (some (.ref f10))) (l10:K.lookup f10=some ⟨oc10,od10,.func (PySem.W.fnOf "all_near" "all_near" (defArgs s_all_near) (defBody s_all_near) (defScope s_all_near) .none kV10 dc10 pm10 an10 cd10 ct10),sl10⟩) (c10:PySem.W.codeIn K cd10 "all_near" = true) (k10:PySem.W.keepIn K (.ref f10)=true)
  (a11:PySem.W.nsIn K mainGlobals "apart_among" = some (some (.ref f11))) (l11:K.lookup f11=some ⟨oc11,od11,.func (PySem.W.fnOf "apart_among" "apart_among" (defArgs s_apart_among) (defBody s_apart_among) (defScope s_apart_among) .none kV11 dc11 pm11 an11 cd11 ct11),sl11⟩) (c11:PySem.W.codeIn K cd11 "apart_among" = true) (k11:PySem.W.keepIn K (.ref f11)=true)
  (a12:PySem.W.nsIn K mainGlobals "weighed" = some (some (.ref f12))) (l12:K.lookup f12=some ⟨oc12,od12,.func (PySem.W.fnOf "weighed" "weighed" (defArgs s_weighed) (defBody s_weighed) (defScope s_weighed) .none kV12 dc12 pm12 an12 cd12 ct12),sl12⟩) (c12:PySem.W.codeIn K cd12 "weighed" = true) (k12:PySem.W.keepIn K (.ref f12)=true)
  (a13:PySem.W.nsIn K mainGlobals "heaviest_with" = some (some (.ref f13))) (l13:K.lookup f13=some ⟨oc13,od13,.func (PySem.W.fnOf "heaviest_with" "heaviest_with" (defArgs s_heaviest_with) (defBody s_heaviest_with) (defScope s_heaviest_with) .none kV13 dc13 pm13 an13 cd13 ct13),sl13⟩) (c13:PySem.W.codeIn K cd13 "heaviest_with" = true) (k13:PySem.W.keepIn K (.ref f13)=true)
  (a14:PySem.W.nsIn K mainGlobals "heaviest_among" = some (some (.ref f14))) (l14:K.lookup f14=some ⟨oc14,od14,.func (PySem.W.fnOf "heaviest_among" "heaviest_among" (defArgs s_heaviest_among) (defBody s_heaviest_among) (defScope s_heaviest_among) .none kV14 dc14 pm14 an14 cd14 ct14),sl14⟩) (c14:PySem.W.codeIn K cd14 "heaviest_among" = true) (k14:PySem.W.keepIn K (.ref f14)=true)
  (a15:PySem.W.nsIn K mainGlobals "web_where" = some (some (.ref f15))) (l15:K.lookup f15=some ⟨oc15,od15,.func (PySem.W.fnOf "web_where" "web_where" (defArgs s_web_where) (defBody s_web_where) (defScope s_web_where) .none kV15 dc15 pm15 an15 cd15 ct15),sl15⟩) (c15:PySem.W.codeIn K cd15 "web_where" = true) (k15:PySem.W.keepIn K (.ref f15)=true)
  (a16:PySem.W.nsIn K mainGlobals "turned" = some (some (.ref f16))) (l16:K.lookup f16=some ⟨oc16,od16,.func (PySem.W.fnOf "turned" "turned" (defArgs s_turned) (defBody s_turned) (defScope s_turned) .none kV16 dc16 pm16 an16 (.ref tc16) ct16),sl16⟩) (c16:PySem.W.codeIn K (.ref tc16) "turned" = true) (k16:PySem.W.keepIn K (.ref f16)=true)
  (a17:PySem.W.nsIn K mainGlobals "heaviest_knot" = some (some (.ref f17))) (l17:K.lookup f17=some ⟨oc17,od17,.func (PySem.W.fnOf "heaviest_knot" "heaviest_knot" (defArgs s_heaviest_knot) (defBody s_heaviest_knot) (defScope s_heaviest_knot) .none kV17 dc17 pm17 an17 cd17 ct17),sl17⟩) (c17:PySem.W.codeIn K cd17 "heaviest_knot" = true) (k17:PySem.W.keepIn K (.ref f17)=true)
  (a18:PySem.W.nsIn K mainGlobals "most" = some (some (.ref f18))) (l18:K.lookup f18=some ⟨oc18,od18,.func (PySem.W.fnOf "most" "most" (defArgs s_most) (defBody s_most) (defScope s_most) .none kV18 dc18 pm18 an18 cd18 ct18),sl18⟩) (c18:PySem.W.codeIn K cd18 "most" = true) (k18:PySem.W.keepIn K (.ref f18)=true)
  (a19:PySem.W.nsIn K mainGlobals "_law_tright" = some (some (.ref f19))) (l19:K.lookup f19=some ⟨oc19,od19,.func (PySem.W.fnOf "_law_tright" "_law_tright" (defArgs s__law_tright) (defBody s__law_tright) (defScope s__law_tright) .none kV19 dc19 pm19 an19 cd19 ct19),sl19⟩) (c19:PySem.W.codeIn K cd19 "_law_tright" = true) (k19:PySem.W.keepIn K (.ref f19)=true)
  (a20:PySem.W.nsIn K mainGlobals "_law_tweb" = some (some (.ref f20))) (l20:K.lookup f20=some ⟨oc20,od20,.func (PySem.W.fnOf "_law_tweb" "_law_tweb" (defArgs s__law_tweb) (defBody s__law_tweb) (defScope s__law_tweb) .none kV20 dc20 pm20 an20 cd20 ct20),sl20⟩) (c20:PySem.W.codeIn K cd20 "_law_tweb" = true) (k20:PySem.W.keepIn K (.ref f20)=true)
  (a21:PySem.W.nsIn K mainGlobals "_law_twebs" = some (some (.ref f21))) (l21:K.lookup f21=some ⟨oc21,od21,.func (PySem.W.fnOf "_law_twebs" "_law_twebs" (defArgs s__law_twebs) (defBody s__law_twebs) (defScope s__law_twebs) .none kV21 dc21 pm21 an21 cd21 ct21),sl21⟩) (c21:PySem.W.codeIn K cd21 "_law_twebs" = true) (k21:PySem.W.keepIn K (.ref f21)=true)
  (a22:PySem.W.nsIn K mainGlobals "spots" = some (some (.ref f22))) (l22:K.lookup f22=some ⟨oc22,od22,.func (PySem.W.fnOf "spots" "spots" (defArgs s_spots) (defBody s_spots) (defScope s_spots) .none kV22 dc22 pm22 an22 cd22 ct22),sl22⟩) (c22:PySem.W.codeIn K cd22 "spots" = true) (k22:PySem.W.keepIn K (.ref f22)=true)
  (a23:PySem.W.nsIn K mainGlobals "put_in" = some (some (.ref f23))) (l23:K.lookup f23=some ⟨oc23,od23,.func (PySem.W.fnOf "put_in" "put_in" (defArgs s_put_in) (defBody s_put_in) (defScope s_put_in) .none kV23 dc23 pm23 an23 (.ref tc23) ct23),sl23⟩) (c23:PySem.W.codeIn K (.ref tc23) "put_in" = true) (k23:PySem.W.keepIn K (.ref f23)=true)
  (a24:PySem.W.nsIn K mainGlobals "beside" = some (some (.ref f24))) (l24:K.lookup f24=some ⟨oc24,od24,.func (PySem.W.fnOf "beside" "beside" (defArgs s_beside) (defBody s_beside) (defScope s_beside) .none kV24 dc24 pm24 an24 cd24 ct24),sl24⟩) (c24:PySem.W.codeIn K cd24 "beside" = true) (k24:PySem.W.keepIn K (.ref f24)=true)
  (a25:PySem.W.nsIn K mainGlobals "is_same_or_tied" = some (some (.ref f25))) (l25:K.lookup f25=some ⟨oc25,od25,.func (PySem.W.fnOf "is_same_or_tied" "is_same_or_tied" (defArgs s_is_same_or_tied) (defBody s_is_same_or_tied) (defScope s_is_same_or_tied) .none kV25 dc25 pm25 an25 cd25 ct25),sl25⟩) (c25:PySem.W.codeIn K cd25 "is_same_or_tied" = true) (k25:PySem.W.keepIn K (.ref f25)=true)
  (a26:PySem.W.nsIn K mainGlobals "by_pairs" = some (some (.ref f26))) (l26:K.lookup f26=some ⟨oc26,od26,.func (PySem.W.fnOf "by_pairs" "by_pairs" (defArgs s_by_pairs) (defBody s_by_pairs) (defScope s_by_pairs) .none kV26 dc26 pm26 an26 (.ref tc26) ct26),sl26⟩) (c26:PySem.W.codeIn K (.ref tc26) "by_pairs" = true) (k26:PySem.W.keepIn K (.ref f26)=true)
  (a27:PySem.W.nsIn K mainGlobals "is_near_all" = some (some (.ref f27))) (l27:K.lookup f27=some ⟨oc27,od27,.func (PySem.W.fnOf "is_near_all" "is_near_all" (defArgs s_is_near_all) (defBody s_is_near_all) (defScope s_is_near_all) .none kV27 dc27 pm27 an27 cd27 ct27),sl27⟩) (c27:PySem.W.codeIn K cd27 "is_near_all" = true) (k27:PySem.W.keepIn K (.ref f27)=true)
  (a28:PySem.W.nsIn K mainGlobals "all_knots" = some (some (.ref f28))) (l28:K.lookup f28=some ⟨oc28,od28,.func (PySem.W.fnOf "all_knots" "all_knots" (defArgs s_all_knots) (defBody s_all_knots) (defScope s_all_knots) .none kV28 dc28 pm28 an28 cd28 ct28),sl28⟩) (c28:PySem.W.codeIn K cd28 "all_knots" = true) (k28:PySem.W.keepIn K (.ref f28)=true)
  (a29:PySem.W.nsIn K mainGlobals "is_full" = some (some (.ref f29))) (l29:K.lookup f29=some ⟨oc29,od29,.func (PySem.W.fnOf "is_full" "is_full" (defArgs s_is_full) (defBody s_is_full) (defScope s_is_full) .none kV29 dc29 pm29 an29 cd29 ct29),sl29⟩) (c29:PySem.W.codeIn K cd29 "is_full" = true) (k29:PySem.W.keepIn K (.ref f29)=true)
  (a30:PySem.W.nsIn K mainGlobals "full_knots" = some (some (.ref f30))) (l30:K.lookup f30=some ⟨oc30,od30,.func (PySem.W.fnOf "full_knots" "full_knots" (defArgs s_full_knots) (defBody s_full_knots) (defScope s_full_knots) .none kV30 dc30 pm30 an30 cd30 ct30),sl30⟩) (c30:PySem.W.codeIn K cd30 "full_knots" = true) (k30:PySem.W.keepIn K (.ref f30)=true)
  (a31:PySem.W.nsIn K mainGlobals "wholly_tied" = some (some (.ref f31))) (l31:K.lookup f31=some ⟨oc31,od31,.func (PySem.W.fnOf "wholly_tied" "wholly_tied" (defArgs s_wholly_tied) (defBody s_wholly_tied) (defScope s_wholly_tied) .none kV31 dc31 pm31 an31 cd31 ct31),sl31⟩) (c31:PySem.W.codeIn K cd31 "wholly_tied" = true) (k31:PySem.W.keepIn K (.ref f31)=true)
  (a32:PySem.W.nsIn K mainGlobals "_law_tpen" = some (some (.ref f32))) (l32:K.lookup f32=some ⟨oc32,od32,.func (PySem.W.fnOf "_law_tpen" "_law_tpen" (defArgs s__law_tpen) (defBody s__law_tpen) (defScope s__law_tpen) .none kV32 dc32 pm32 an32 cd32 ct32),sl32⟩) (c32:PySem.W.codeIn K cd32 "_law_tpen" = true) (k32:PySem.W.keepIn K (.ref f32)=true)
  (a33:PySem.W.nsIn K mainGlobals "law" = some (some (.ref f33))) (l33:K.lookup f33=some ⟨oc33,od33,.func (PySem.W.fnOf "law" "law" (defArgs s_law) (defBody s_law) (defScope s_law) .none kV33 dc33 pm33 an33 cd33 ct33),sl33⟩) (c33:PySem.W.codeIn K cd33 "law" = true) (k33:PySem.W.keepIn K (.ref f33)=true)
  (z1:PySem.W.nsIn K mainGlobals "all" = some none)
  (z2:PySem.W.nsIn K mainGlobals "any" = some none)
  (z3:PySem.W.nsIn K mainGlobals "bool" = some none)
  (z4:PySem.W.nsIn K mainGlobals "dict" = some none)
  (z5:PySem.W.nsIn K mainGlobals "int" = some none)
  (z6:PySem.W.nsIn K mainGlobals "isinstance" = some none)
  (z7:PySem.W.nsIn K mainGlobals "len" = some none)
  (z8:PySem.W.nsIn K mainGlobals "list" = some none)
  (z9:PySem.W.nsIn K mainGlobals "max" = some none)
  (z10:PySem.W.nsIn K mainGlobals "min" = some none)
  (z11:PySem.W.nsIn K mainGlobals "range" = some none)
  (z12:PySem.W.nsIn K mainGlobals "sorted" = some none)
  (z13:PySem.W.nsIn K mainGlobals "sum" = some none)
  (z14:PySem.W.nsIn K mainGlobals "tuple" = some none) :
  ∃fd:FuncData,(∀(s:Shared) (v:Value),BindsTo s fd ⟨[v],[]⟩ [("script",v)])∧∀base:Heap,K.In base→base.Ns mainGlobals mg→PySem.W.CodeHd base tc16 tP16→PySem.W.CodeHd base tc23 tP23→PySem.W.CodeHd base tc26 tP26→BMn mg base→FnOk l.prog w K mg base CX0 57 fa fd ["script"] (spLawT K ([(tP16,(Str.ofString "turned.<locals>.<lambda>")),(tP23,(Str.ofString "put_in.<locals>.are_tied_there")),(tP26,(Str.ofString "by_pairs.<locals>.are_tied_there"))]:List (Addr×Str))):=by
 have e:=hfa.symm.trans (PySem.W.mg_of X G a33)
 cases e
 have T:Txt mg:=⟨PySem.W.mg_none_of X G z1,PySem.W.mg_none_of X G z2,PySem.W.mg_none_of X G z3,PySem.W.mg_none_of X G z4,PySem.W.mg_none_of X G z5,PySem.W.mg_none_of X G z6,PySem.W.mg_none_of X G z7,PySem.W.mg_none_of X G z8,PySem.W.mg_none_of X G z9,PySem.W.mg_none_of X G z10,PySem.W.mg_none_of X G z11,PySem.W.mg_none_of X G z12,PySem.W.mg_none_of X G z13,PySem.W.mg_none_of X G z14⟩
 have F1:=fun_mk (st:=s__law_tdraw) l1 c1 k1
 have b1:=F1.binds (ps:=["pen","many"]) fun _ _ _ _ _ _ us hl=>match us,hl with | [_,_],_=>rfl
 have F2:=fun_mk (st:=s_is_whole) l2 c2 k2
 have b2:=F2.binds (ps:=["thing"]) fun _ _ _ _ _ _ us hl=>match us,hl with | [_],_=>rfl
 have F3:=fun_mk (st:=s_is_place) l3 c3 k3
 have b3:=F3.binds (ps:=["n","thing"]) fun _ _ _ _ _ _ us hl=>match us,hl with | [_,_],_=>rfl
 have F4:=fun_mk (st:=s_marked_ties) l4 c4 k4
 have b4:=F4.binds (ps:=["web"]) fun _ _ _ _ _ _ us hl=>match us,hl with | [_],_=>rfl
 have F5:=fun_mk (st:=s_pairs_of) l5 c5 k5
 have b5:=F5.binds (ps:=["row"]) fun _ _ _ _ _ _ us hl=>match us,hl with | [_],_=>rfl
 have F6:=fun_mk (st:=s_rises) l6 c6 k6
 have b6:=F6.binds (ps:=["row"]) fun _ _ _ _ _ _ us hl=>match us,hl with | [_],_=>rfl
 have F7:=fun_mk (st:=s_is_knot) l7 c7 k7
 have b7:=F7.binds (ps:=["web","thing"]) fun _ _ _ _ _ _ us hl=>match us,hl with | [_,_],_=>rfl
 have F8:=fun_mk (st:=s_are_tied) l8 c8 k8
 have b8:=F8.binds (ps:=["ties","a","b"]) fun _ _ _ _ _ _ us hl=>match us,hl with | [_,_,_],_=>rfl
 have F9:=fun_mk (st:=s_near) l9 c9 k9
 have b9:=F9.binds (ps:=["web","place"]) fun _ _ _ _ _ _ us hl=>match us,hl with | [_,_],_=>rfl
 have F10:=fun_mk (st:=s_all_near) l10 c10 k10
 have b10:=F10.binds (ps:=["web"]) fun _ _ _ _ _ _ us hl=>match us,hl with | [_],_=>rfl
 have F11:=fun_mk (st:=s_apart_among) l11 c11 k11
 have b11:=F11.binds (ps:=["aparts","place","places"]) fun _ _ _ _ _ _ us hl=>match us,hl with | [_,_,_],_=>rfl
 have F12:=fun_mk (st:=s_weighed) l12 c12 k12
 have b12:=F12.binds (ps:=["weights","places"]) fun _ _ _ _ _ _ us hl=>match us,hl with | [_,_],_=>rfl
 have F13:=fun_mk (st:=s_heaviest_with) l13 c13 k13
 have b13:=F13.binds (ps:=["aparts","weights","place","places"]) fun _ _ _ _ _ _ us hl=>match us,hl with | [_,_,_,_],_=>rfl
 have F14:=fun_mk (st:=s_heaviest_among) l14 c14 k14
 have b14:=F14.binds (ps:=["aparts","weights","places"]) fun _ _ _ _ _ _ us hl=>match us,hl with | [_,_,_],_=>rfl
 have F15:=fun_mk (st:=s_web_where) l15 c15 k15
 have b15:=F15.binds (ps:=["row","tied"]) fun _ _ _ _ _ _ us hl=>match us,hl with | [_,_],_=>rfl
 have F16:=fun_mk (st:=s_turned) l16 c16 k16
 have b16:=F16.binds (ps:=["web"]) fun _ _ _ _ _ _ us hl=>match us,hl with | [_],_=>rfl
 have F17:=fun_mk (st:=s_heaviest_knot) l17 c17 k17
 have b17:=F17.binds (ps:=["web","weights"]) fun _ _ _ _ _ _ us hl=>match us,hl with | [_,_],_=>rfl
 have F18:=fun_mk (st:=s_most) l18 c18 k18
 have b18:=F18.binds (ps:=["web"]) fun _ _ _ _ _ _ us hl=>match us,hl with | [_],_=>rfl
 have F19:=fun_mk (st:=s__law_tright) l19 c19 k19
 have b19:=F19.binds (ps:=["web","due"]) fun _ _ _ _ _ _ us hl=>match us,hl with | [_,_],_=>rfl
 have F20:=fun_mk (st:=s__law_tweb) l20 c20 k20
 have b20:=F20.binds (ps:=["pen","limit"]) fun _ _ _ _ _ _ us hl=>match us,hl with | [_,_],_=>rfl
 have F21:=fun_mk (st:=s__law_twebs) l21 c21 k21
 have b21:=F21.binds (ps:=["pen","many","limit"]) fun _ _ _ _ _ _ us hl=>match us,hl with | [_,_,_],_=>rfl
 have F22:=fun_mk (st:=s_spots) l22 c22 k22
 have b22:=F22.binds (ps:=["lengths"]) fun _ _ _ _ _ _ us hl=>match us,hl with | [_],_=>rfl
 have F23:=fun_mk (st:=s_put_in) l23 c23 k23
 have b23:=F23.binds (ps:=["web","webs"]) fun _ _ _ _ _ _ us hl=>match us,hl with | [_,_],_=>rfl
 have F24:=fun_mk (st:=s_beside) l24 c24 k24
 have b24:=F24.binds (ps:=["webs"]) fun _ _ _ _ _ _ us hl=>match us,hl with | [_],_=>rfl
 have F25:=fun_mk (st:=s_is_same_or_tied) l25 c25 k25
 have b25:=F25.binds (ps:=["ties","a","b"]) fun _ _ _ _ _ _ us hl=>match us,hl with | [_,_,_],_=>rfl
 have F26:=fun_mk (st:=s_by_pairs) l26 c26 k26
 have b26:=F26.binds (ps:=["web","other"]) fun _ _ _ _ _ _ us hl=>match us,hl with | [_,_],_=>rfl
 have F27:=fun_mk (st:=s_is_near_all) l27 c27 k27
 have b27:=F27.binds (ps:=["nears","place","knot"]) fun _ _ _ _ _ _ us hl=>match us,hl with | [_,_,_],_=>rfl
 have F28:=fun_mk (st:=s_all_knots) l28 c28 k28
 have b28:=F28.binds (ps:=["nears"]) fun _ _ _ _ _ _ us hl=>match us,hl with | [_],_=>rfl
 have F29:=fun_mk (st:=s_is_full) l29 c29 k29
 have b29:=F29.binds (ps:=["nears","knot"]) fun _ _ _ _ _ _ us hl=>match us,hl with | [_,_],_=>rfl
 have F30:=fun_mk (st:=s_full_knots) l30 c30 k30
 have b30:=F30.binds (ps:=["web"]) fun _ _ _ _ _ _ us hl=>match us,hl with | [_],_=>rfl
 have F31:=fun_mk (st:=s_wholly_tied) l31 c31 k31
 have b31:=F31.binds (ps:=["webs"]) fun _ _ _ _ _ _ us hl=>match us,hl with | [_],_=>rfl
 have F32:=fun_mk (st:=s__law_tpen) l32 c32 k32
 have b32:=F32.binds (ps:=["script"]) fun _ _ _ _ _ _ us hl=>match us,hl with | [_],_=>rfl
 have F33:=fun_mk (st:=s_law) l33 c33 k33
 have ca_pairs_of:∀base,Cal l.prog w K mg base 1 "pairs_of" 1 true AnyG F_pairs_of:=fun base=>⟨f5,_,_,ok_pairs_of F5 T,PySem.W.mg_of X G a5,k5,b5⟩
 have ca_are_tied:∀base,Cal l.prog w K mg base 1 "are_tied" 3 false AnyG F_are_tied:=fun base=>⟨f8,_,_,ok_are_tied F8 T,PySem.W.mg_of X G a8,k8,b8⟩
 have ca_web_where:∀base,Cal l.prog w K mg base 5 "web_where" 2 false (CloG l.prog w K mg 4 2 Tl base) F_web_where:=fun base=>⟨f15,_,_,ok_web_where F15 T (ca_pairs_of base),PySem.W.mg_of X G a15,k15,b15⟩
 have cA_web_where:CalA l.prog w K mg 5 "web_where" 2 false (CloG l.prog w K mg 4 2 Tl) F_web_where:=⟨f15,_,_,fun base=>ok_web_where F15 T (ca_pairs_of base),PySem.W.mg_of X G a15,k15,b15⟩
 have ca_is_same_or_tied:∀base,Cal l.prog w K mg base 2 "is_same_or_tied" 3 false AnyG F_is_same_or_tied:=fun base=>⟨f25,_,_,ok_is_same_or_tied F25 T (ca_are_tied base),PySem.W.mg_of X G a25,k25,b25⟩
 refine ⟨PySem.W.fnOf "law" "law" (defArgs s_law) (defBody s_law) (defScope s_law) .none kV33 dc33 pm33 an33 cd33 ct33,fun s v=>.of_eq rfl,fun base _ _ hC16 hC23 hC26 hBm=>?_⟩
 have cp__law_tdraw:Cal l.prog w K mg base 1 "_law_tdraw" 2 true PenD drawF:=⟨f1,_,_,ok__law_tdraw F1 T,PySem.W.mg_of X G a1,k1,b1⟩
 have c__law_tdraw:Cal l.prog w K mg base 1 "_law_tdraw" 2 true (PenT PenD ([(tP16,(Str.ofString "turned.<locals>.<lambda>")),(tP23,(Str.ofString "put_in.<locals>.are_tied_there")),(tP26,(Str.ofString "by_pairs.<locals>.are_tied_there"))]:List (Addr×Str))) drawF:=cal_tabs cp__law_tdraw drawF_no
 have c_is_whole:Cal l.prog w K mg base 1 "is_whole" 1 false AnyG F_is_whole:=⟨f2,_,_,ok_is_whole F2 T,PySem.W.mg_of X G a2,k2,b2⟩
 have c_is_place:Cal l.prog w K mg base 2 "is_place" 2 false AnyG F_is_place:=⟨f3,_,_,ok_is_place F3 T c_is_whole,PySem.W.mg_of X G a3,k3,b3⟩
 have c_marked_ties:Cal l.prog w K mg base 1 "marked_ties" 1 true AnyG F_marked_ties:=⟨f4,_,_,ok_marked_ties F4 T,PySem.W.mg_of X G a4,k4,b4⟩
 have c_pairs_of:=ca_pairs_of base
 have c_rises:Cal l.prog w K mg base 1 "rises" 1 false AnyG F_rises:=⟨f6,_,_,ok_rises F6 T,PySem.W.mg_of X G a6,k6,b6⟩
 have c_is_knot:Cal l.prog w K mg base 3 "is_knot" 2 false AnyG F_is_knot:=⟨f7,_,_,ok_is_knot F7 T c_is_place c_marked_ties c_pairs_of c_rises,PySem.W.mg_of X G a7,k7,b7⟩
 have c_are_tied:=ca_are_tied base
 have c_near:Cal l.prog w K mg base 2 "near" 2 true AnyG F_near:=⟨f9,_,_,ok_near F9 T c_are_tied,PySem.W.mg_of X G a9,k9,b9⟩
 have c_all_near:Cal l.prog w K mg base 3 "all_near" 1 true AnyG F_all_near:=⟨f10,_,_,ok_all_near F10 T c_marked_ties c_near,PySem.W.mg_of X G a10,k10,b10⟩
 have c_apart_among:Cal l.prog w K mg base 1 "apart_among" 3 true AnyG F_apart_among:=⟨f11,_,_,ok_apart_among F11 T,PySem.W.mg_of X G a11,k11,b11⟩
 have c_weighed:Cal l.prog w K mg base 1 "weighed" 2 false AnyG F_weighed:=⟨f12,_,_,ok_weighed F12 T,PySem.W.mg_of X G a12,k12,b12⟩
 have rr:∀j:Nat,Cal l.prog w K mg base (1+2*j) "heaviest_among" 3 false AnyG (F_heaviest_among j):=by
  intro j
  induction j with
  | zero=>exact Cal.none (PySem.W.mg_of X G a14) k14 b14
  | succ j ih=>
   have c_heaviest_with:Cal l.prog w K mg base (1+2*j+1) "heaviest_with" 4 false AnyG (F_heaviest_with (F_heaviest_among j)):=⟨f13,_,_,ok_heaviest_with F13 T (by omega) ih,PySem.W.mg_of X G a13,k13,b13⟩
   have z:Cal l.prog w K mg base (1+2*j+2) "heaviest_among" 3 false AnyG (F_heaviest_among (j+1)):=⟨f14,_,_,ok_heaviest_among F14 T (by omega) c_apart_among ih c_heaviest_with c_weighed,PySem.W.mg_of X G a14,k14,b14⟩
   exact z.mono (h:=by omega)
 have c_heaviest_among:Cal l.prog w K mg base 53 "heaviest_among" 3 false AnyG (F_heaviest_among 26):=(rr 26).mono
 have c_web_where:=cA_web_where
 have c_turned:Cal l.prog w K mg base 6 "turned" 1 false (TabsG ([(tP16,(Str.ofString "turned.<locals>.<lambda>")),(tP23,(Str.ofString "put_in.<locals>.are_tied_there")),(tP26,(Str.ofString "by_pairs.<locals>.are_tied_there"))]:List (Addr×Str))) F_turned:=⟨f16,_,_,ok_turned F16 T lo c_marked_ties c_web_where ca_are_tied (tc:=tc16) (tP:=tP16) rfl hC16 hBm (by simp),PySem.W.mg_of X G a16,k16,b16⟩
 have c_heaviest_knot:Cal l.prog w K mg base 54 "heaviest_knot" 2 true (TabsG ([(tP16,(Str.ofString "turned.<locals>.<lambda>")),(tP23,(Str.ofString "put_in.<locals>.are_tied_there")),(tP26,(Str.ofString "by_pairs.<locals>.are_tied_there"))]:List (Addr×Str))) F_heaviest_knot:=⟨f17,_,_,ok_heaviest_knot F17 T lo c_all_near c_heaviest_among c_turned,PySem.W.mg_of X G a17,k17,b17⟩
 have c_most:Cal l.prog w K mg base 55 "most" 1 true (TabsG ([(tP16,(Str.ofString "turned.<locals>.<lambda>")),(tP23,(Str.ofString "put_in.<locals>.are_tied_there")),(tP26,(Str.ofString "by_pairs.<locals>.are_tied_there"))]:List (Addr×Str))) F_most:=⟨f18,_,_,ok_most F18 T lo c_heaviest_knot,PySem.W.mg_of X G a18,k18,b18⟩
 have c__law_tright:Cal l.prog w K mg base 56 "_law_tright" 2 false (TabsG ([(tP16,(Str.ofString "turned.<locals>.<lambda>")),(tP23,(Str.ofString "put_in.<locals>.are_tied_there")),(tP26,(Str.ofString "by_pairs.<locals>.are_tied_there"))]:List (Addr×Str))) F__law_tright:=⟨f19,_,_,ok__law_tright F19 T lo c_is_knot c_most,PySem.W.mg_of X G a19,k19,b19⟩
 have c__law_tweb:Cal l.prog w K mg base 2 "_law_tweb" 2 true (PenT PenD ([(tP16,(Str.ofString "turned.<locals>.<lambda>")),(tP23,(Str.ofString "put_in.<locals>.are_tied_there")),(tP26,(Str.ofString "by_pairs.<locals>.are_tied_there"))]:List (Addr×Str))) F__law_tweb:=⟨f20,_,_,ok__law_tweb F20 T lo c__law_tdraw,PySem.W.mg_of X G a20,k20,b20⟩
 have c__law_twebs:Cal l.prog w K mg base 3 "_law_twebs" 3 true (PenT PenD ([(tP16,(Str.ofString "turned.<locals>.<lambda>")),(tP23,(Str.ofString "put_in.<locals>.are_tied_there")),(tP26,(Str.ofString "by_pairs.<locals>.are_tied_there"))]:List (Addr×Str))) F__law_twebs:=⟨f21,_,_,ok__law_twebs F21 T lo c__law_tdraw c__law_tweb,PySem.W.mg_of X G a21,k21,b21⟩
 have c_spots:Cal l.prog w K mg base 1 "spots" 1 true AnyG F_spots:=⟨f22,_,_,ok_spots F22 T,PySem.W.mg_of X G a22,k22,b22⟩
 have c_put_in:Cal l.prog w K mg base 6 "put_in" 2 false (TabsG ([(tP16,(Str.ofString "turned.<locals>.<lambda>")),(tP23,(Str.ofString "put_in.<locals>.are_tied_there")),(tP26,(Str.ofString "by_pairs.<locals>.are_tied_there"))]:List (Addr×Str))) F_put_in:=⟨f23,_,_,ok_put_in F23 T lo c_marked_ties c_spots c_web_where ca_are_tied (tc:=tc23) (tP:=tP23) rfl hC23 hBm (by simp),PySem.W.mg_of X G a23,k23,b23⟩
 have c_beside:Cal l.prog w K mg base 7 "beside" 1 false (TabsG ([(tP16,(Str.ofString "turned.<locals>.<lambda>")),(tP23,(Str.ofString "put_in.<locals>.are_tied_there")),(tP26,(Str.ofString "by_pairs.<locals>.are_tied_there"))]:List (Addr×Str))) F_beside:=⟨f24,_,_,ok_beside F24 T lo c_put_in,PySem.W.mg_of X G a24,k24,b24⟩
 have c_is_same_or_tied:=ca_is_same_or_tied base
 have c_by_pairs:Cal l.prog w K mg base 6 "by_pairs" 2 false (TabsG ([(tP16,(Str.ofString "turned.<locals>.<lambda>")),(tP23,(Str.ofString "put_in.<locals>.are_tied_there")),(tP26,(Str.ofString "by_pairs.<locals>.are_tied_there"))]:List (Addr×Str))) F_by_pairs:=⟨f26,_,_,ok_by_pairs F26 T lo c_marked_ties c_spots c_web_where ca_is_same_or_tied (tc:=tc26) (tP:=tP26) rfl hC26 hBm (by simp),PySem.W.mg_of X G a26,k26,b26⟩
 have c_is_near_all:Cal l.prog w K mg base 1 "is_near_all" 3 false AnyG F_is_near_all:=⟨f27,_,_,ok_is_near_all F27 T,PySem.W.mg_of X G a27,k27,b27⟩
 have c_all_knots:Cal l.prog w K mg base 2 "all_knots" 1 false AnyG F_all_knots:=⟨f28,_,_,ok_all_knots F28 T c_is_near_all,PySem.W.mg_of X G a28,k28,b28⟩
 have c_is_full:Cal l.prog w K mg base 2 "is_full" 2 false AnyG F_is_full:=⟨f29,_,_,ok_is_full F29 T c_is_near_all,PySem.W.mg_of X G a29,k29,b29⟩
 have c_full_knots:Cal l.prog w K mg base 4 "full_knots" 1 true AnyG F_full_knots:=⟨f30,_,_,ok_full_knots F30 T c_all_knots c_all_near c_is_full,PySem.W.mg_of X G a30,k30,b30⟩
 have c_wholly_tied:Cal l.prog w K mg base 7 "wholly_tied" 1 false (TabsG ([(tP16,(Str.ofString "turned.<locals>.<lambda>")),(tP23,(Str.ofString "put_in.<locals>.are_tied_there")),(tP26,(Str.ofString "by_pairs.<locals>.are_tied_there"))]:List (Addr×Str))) F_wholly_tied:=⟨f31,_,_,ok_wholly_tied F31 T lo c_put_in c_turned,PySem.W.mg_of X G a31,k31,b31⟩
 exact ok_law lo F33 T (ok__law_tpen F32 T) (PySem.W.mg_of X G a32) k32 b32 c__law_tdraw c__law_tright c__law_tweb c__law_twebs c_beside c_by_pairs c_full_knots c_most c_put_in c_wholly_tied
noncomputable def tb:List (Str×Addr×Addr):=[("turned",68,64),("put_in",92,90),("by_pairs",99,95)]
theorem tb_all:∀P q,(P,q)∈([(64,(Str.ofString "turned.<locals>.<lambda>")),(90,(Str.ofString "put_in.<locals>.are_tied_there")),(95,(Str.ofString "by_pairs.<locals>.are_tied_there"))]:List (Addr×Str))→∃x c,(x,c,P)∈tb:=by
 intro P q h
 simp only [List.mem_cons,Prod.mk.injEq,List.not_mem_nil,or_false] at h
 rcases h with ⟨rfl,_⟩ | ⟨rfl,_⟩ | ⟨rfl,_⟩
 ·exact ⟨"turned",68,by simp [tb]⟩
 ·exact ⟨"put_in",92,by simp [tb]⟩
 ·exact ⟨"by_pairs",99,by simp [tb]⟩
theorem walk {l:PySem.W.OpenLaw} {q:Program} {loose:List Str} {XP:(Str→Option Value)→Heap→Prop} {YP:World→Heap→Prop} {d:DefRec} {K:Params→PySem.W.Frag} (hn:l.most=some 63) (hdf:d.params.defaults=[])
  (hY:∀(w:World) (h:Heap),YP w h→(K w.params).In h)
  (hrec:∀e∈tb,∃d,(recsOf q).find? (fun r=>r.name==e.1)=some d) (htab:∀w:World,∀e∈tb,PySem.W.tabIn (K w.params) e.1=some e.2) (hno:∀w:World,PySem.W.noTabs (K w.params)=true)
  (F:∀(w:World) (mg:Str→Option Value) (fa:Addr) (h:Heap),(K w.params).In h→h.Ns mainGlobals mg→mg d.name=some (.ref fa)→
   ∃fd:FuncData,(∀(s:Shared) (u:Value),BindsTo s fd ⟨[u],[]⟩ [("script",u)])∧∀base:Heap,(K w.params).In base→base.Ns mainGlobals mg→PySem.W.CodeHd base 68 64→PySem.W.CodeHd base 92 90→PySem.W.CodeHd base 99 95→BMn mg base→FnOk l.prog w (K w.params) mg base CX0 57 fa fd ["script"] (spLawT (K w.params) ([(64,(Str.ofString "turned.<locals>.<lambda>")),(90,(Str.ofString "put_in.<locals>.are_tied_there")),(95,(Str.ofString "by_pairs.<locals>.are_tied_there"))]:List (Addr×Str)))) :
  PySem.W.WalkO q loose XP YP l.row.toRowW d [] (fun f vs=>PySem.call f vs):=
 walk_ofT (tb:=tb) (n:=63) (k:=57) (x:="script") (CX:=fun _=>CX0) (sp:=fun w=>spLawT (K w.params) ([(64,(Str.ofString "turned.<locals>.<lambda>")),(90,(Str.ofString "put_in.<locals>.are_tied_there")),(95,(Str.ofString "by_pairs.<locals>.are_tied_there"))]:List (Addr×Str))) hn (by decide) hdf ⟨rfl,by decide,by decide,rfl⟩ hY hrec htab hno
  (fun w mg fa h h1 h2 h3=>let ⟨fd,hb,hF⟩:=F w mg fa h h1 h2 h3;⟨fd,hb,fun base g1 g2 g3 g4=>hF base g1 g2 (g3 ("turned",68,64) (by simp [tb])) (g3 ("put_in",92,90) (by simp [tb])) (g3 ("by_pairs",99,95) (by simp [tb])) g4⟩)
  (fun _ _ a ns hl hS hTb=>⟨a,ns,rfl,hS,hl,spLaw_tabs (tb:=tb) tb_all hTb,fun _=>rfl⟩) fun _ _ _ _ _ z=>z
end K63
open PySem PySem.W PyProof.Rows
set_option maxRecDepth 100000 in
set_option maxHeartbeats 0 in
theorem PySem.Challenge.cw_tiefold_k63_whole_the_most_of_joined_web_holds : PySem.Challenge.rw_tiefold_k63_whole_the_most_of_joined_web.Holds := by
 w_on;o_law;k_head;(case hw=>w_witness2)
 k_fill
 refine K63.walk (l:=PySem.Challenge.rw_tiefold_k63_whole_the_most_of_joined_web) rfl rfl (fun w h Y=>PySem.W.km_in_of Y) ?R ?B ?O ?F
 case R=>exact List.forall_mem_cons.mpr ⟨⟨_,rfl⟩,List.forall_mem_cons.mpr ⟨⟨_,rfl⟩,List.forall_mem_cons.mpr ⟨⟨_,rfl⟩,(fun _ h=>nomatch h)⟩⟩⟩
 case B=>intro w;exact List.forall_mem_cons.mpr ⟨by kernel_rfl,List.forall_mem_cons.mpr ⟨by kernel_rfl,List.forall_mem_cons.mpr ⟨by kernel_rfl,(fun _ h=>nomatch h)⟩⟩⟩
 case O=>intro w;kernel_rfl
 case F=>
  intro w mg fa h KX G hmg
  refine' K63.all_mk 64 90 95 (TF.lok_nd (by decide)) KX G hmg ?a1 ?l1 ?c1 ?k1 ?a2 ?l2 ?c2 ?k2 ?a3 ?l3 ?c3 ?k3 ?a4 ?l4 ?c4 ?k4 ?a5 ?l5 ?c5 ?k5 ?a6 ?l6 ?c6 ?k6 ?a7 ?l7 ?c7 ?k7 ?a8 ?l8 ?c8 ?k8 ?a9 ?l9 ?c9 ?k9 ?a10 ?l10 ?c10 ?k10 ?a11 ?l11 ?c11 ?k11 ?a12 ?l12 ?c12 ?k12 ?a13 ?l13 ?c13 ?k13 ?a14 ?l14 ?c14 ?k14 ?a15 ?l15 ?c15 ?k15 ?a16 ?l16 ?c16 ?k16 ?a17 ?l17 ?c17 ?k17 ?a18 ?l18 ?c18 ?k18 ?a19 ?l19 ?c19 ?k19 ?a20 ?l20 ?c20 ?k20 ?a21 ?l21 ?c21 ?k21 ?a22 ?l22 ?c22 ?k22 ?a23 ?l23 ?c23 ?k23 ?a24 ?l24 ?c24 ?k24 ?a25 ?l25 ?c25 ?k25 ?a26 ?l26 ?c26 ?k26 ?a27 ?l27 ?c27 ?k27 ?a28 ?l28 ?c28 ?k28 ?a29 ?l29 ?c29 ?k29 ?a30 ?l30 ?c30 ?k30 ?a31 ?l31 ?c31 ?k31 ?a32 ?l32 ?c32 ?k32 ?a33 ?l33 ?c33 ?k33 ?z1 ?z2 ?z3 ?z4 ?z5 ?z6 ?z7 ?z8 ?z9 ?z10 ?z11 ?z12 ?z13 ?z14
  (case a1=>k_is)
  (case l1=>k_is)
  (case c1=>k_is)
  (case k1=>k_is)
  (case a2=>k_is)
  (case l2=>k_is)
  (case c2=>k_is)
  (case k2=>k_is)
  (case a3=>k_is)
  (case l3=>k_is)
  (case c3=>k_is)
  (case k3=>k_is)
  (case a4=>k_is)
  (case l4=>k_is)
  (case c4=>k_is)
  (case k4=>k_is)
  (case a5=>k_is)
  (case l5=>k_is)
  (case c5=>k_is)
  (case k5=>k_is)
  (case a6=>k_is)
  (case l6=>k_is)
  (case c6=>k_is)
  (case k6=>k_is)
  (case a7=>k_is)
  (case l7=>k_is)
  (case c7=>k_is)
  (case k7=>k_is)
  (case a8=>k_is)
  (case l8=>k_is)
  (case c8=>k_is)
  (case k8=>k_is)
  (case a9=>k_is)
  (case l9=>k_is)
  (case c9=>k_is)
  (case k9=>k_is)
  (case a10=>k_is)
  (case l10=>k_is)
  (case c10=>k_is)
  (case k10=>k_is)
  (case a11=>k_is)
  (case l11=>k_is)
  (case c11=>k_is)
  (case k11=>k_is)
  (case a12=>k_is)
  (case l12=>k_is)
  (case c12=>k_is)
  (case k12=>k_is)
  (case a13=>k_is)
  (case l13=>k_is)
  (case c13=>k_is)
  (case k13=>k_is)
  (case a14=>k_is)
  (case l14=>k_is)
  (case c14=>k_is)
  (case k14=>k_is)
  (case a15=>k_is)
  (case l15=>k_is)
  (case c15=>k_is)
  (case k15=>k_is)
  (case a16=>k_is)
  (case l16=>k_is)
  (case c16=>k_is)
  (case k16=>k_is)
  (case a17=>k_is)
  (case l17=>k_is)
  (case c17=>k_is)
  (case k17=>k_is)
  (case a18=>k_is)
  (case l18=>k_is)
  (case c18=>k_is)
  (case k18=>k_is)
  (case a19=>k_is)
  (case l19=>k_is)
  (case c19=>k_is)
  (case k19=>k_is)
  (case a20=>k_is)
  (case l20=>k_is)
  (case c20=>k_is)
  (case k20=>k_is)
  (case a21=>k_is)
  (case l21=>k_is)
  (case c21=>k_is)
  (case k21=>k_is)
  (case a22=>k_is)
  (case l22=>k_is)
  (case c22=>k_is)
  (case k22=>k_is)
  (case a23=>k_is)
  (case l23=>k_is)
  (case c23=>k_is)
  (case k23=>k_is)
  (case a24=>k_is)
  (case l24=>k_is)
  (case c24=>k_is)
  (case k24=>k_is)
  (case a25=>k_is)
  (case l25=>k_is)
  (case c25=>k_is)
  (case k25=>k_is)
  (case a26=>k_is)
  (case l26=>k_is)
  (case c26=>k_is)
  (case k26=>k_is)
  (case a27=>k_is)
  (case l27=>k_is)
  (case c27=>k_is)
  (case k27=>k_is)
  (case a28=>k_is)
  (case l28=>k_is)
  (case c28=>k_is)
  (case k28=>k_is)
  (case a29=>k_is)
  (case l29=>k_is)
  (case c29=>k_is)
  (case k29=>k_is)
  (case a30=>k_is)
  (case l30=>k_is)
  (case c30=>k_is)
  (case k30=>k_is)
  (case a31=>k_is)
  (case l31=>k_is)
  (case c31=>k_is)
  (case k31=>k_is)
  (case a32=>k_is)
  (case l32=>k_is)
  (case c32=>k_is)
  (case k32=>k_is)
  (case a33=>k_is)
  (case l33=>k_is)
  (case c33=>k_is)
  (case k33=>k_is)
  (case z1=>k_is)
  (case z2=>k_is)
  (case z3=>k_is)
  (case z4=>k_is)
  (case z5=>k_is)
  (case z6=>k_is)
  (case z7=>k_is)
  (case z8=>k_is)
  (case z9=>k_is)
  (case z10=>k_is)
  (case z11=>k_is)
  (case z12=>k_is)
  (case z13=>k_is)
  (case z14=>k_is)
