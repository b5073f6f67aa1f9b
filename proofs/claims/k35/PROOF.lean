import PyProof.Rows.All
import Wide.All
import OpenK.AllK
import Wide.FinOn
import Lean
import PyProof.EqAt
import PyProof.EqKinds
import PyProof.TupleCall
import KE.KLam
import PyProof.ZipIter
import PyProof.WalksEnum
import PyProof.WalkInts
import PyProof.SeqI3
import PyProof.Rows.SeqMore
import PyProof.Rows.SortWalk
import PyProof.Draws
import PyProof.EnumMake
import PyProof.DictIter
import KE.KSortTup
import PyProof.Rows.SeqMore2
import PyProof.Rows.RuleIs
import PyProof.Rows.SetFrom
import PyProof.WalksMore
import PyProof.MinMaxWalk
import OpenK.KMore
import PyProof.Rows.SortRuns
import PyProof.Rows.SortRunsK
import KE.KDictSum
import PySem.Challenge.RW_tiefold_k35_whole_either_a_knot_or_a_pap
-- CHANGE: your row's module here,as the last of these rows
set_option genSizeOfSpec false
set_option bootstrap.genMatcherCode false
set_option Elab.async false
set_option linter.all false
set_option maxRecDepth 100000
namespace L2
open PySem PySem.Spec PyProof.Rows
abbrev Key:=Sum Int Str
def Zgv:Key->Value->Bool
 | .inl k,v=>Value.isInt k v
 | .inr x,v=>Value.isStrOf x v
def keyH (w:World):Key->Int
 | .inl k=>hashInt k
 | .inr x=>hashStr w x
theorem ZbM:∀{k:Key} {v:Value},Zgv k v=true->(∃i t,k=Sum.inl i/\v=Value.int i t)∨(∃x t,k=Sum.inr x/\v=Value.str x t)
 | .inl i,v,h=>by
  obtain ⟨t,e⟩:=Value.isInt_shape (k:=i) (v:=v) h
  exact .inl ⟨i,t,rfl,e⟩
 | .inr x,v,h=>by
  obtain ⟨t,e⟩:=Value.isStrOf_shape (x:=x) (v:=v) h
  exact .inr ⟨x,t,rfl,e⟩
theorem Zoe (i:Int) (t:Tok):Zgv (.inl i) (.int i t)=true:=by simp [Zgv,Value.isInt]
theorem Zod (x:Str) (t:Tok):Zgv (.inr x) (.str x t)=true:=by simp [Zgv,Value.isStrOf]
theorem Zsl (a b:Int):decide ((Sum.inl a:Key)=Sum.inl b)=(a==b):=by
 by_cases e:a=b
 ·subst e;simp
 ·have h:¬(Sum.inl a:Key)=Sum.inl b:=fun q=>e (Sum.inl.inj q)
  rw [decide_eq_false h]
  exact (beq_eq_false_iff_ne.mpr e).symm
theorem Zsi (a b:Str):decide ((Sum.inr a:Key)=Sum.inr b)=decide (a=b):=by
 by_cases e:a=b
 ·subst e;simp
 ·have h:¬(Sum.inr a:Key)=Sum.inr b:=fun q=>e (Sum.inr.inj q)
  rw [decide_eq_false h,decide_eq_false e]
theorem Zsk (a:Int) (b:Str):decide ((Sum.inl a:Key)=Sum.inr b)=false:=decide_eq_false (fun q=>nomatch q)
theorem Zsj (a:Str) (b:Int):decide ((Sum.inr a:Key)=Sum.inl b)=false:=decide_eq_false (fun q=>nomatch q)
def Zbm (prog:Program) (w:World):PySem.KeyKind prog w Key where
 is:=Zgv
 hash:=keyH w
 inj:=fun v a b ha hb=>by
  rcases ZbM ha with ⟨i,t,rfl,rfl⟩ | ⟨x,t,rfl,rfl⟩
  ·rcases ZbM hb with ⟨j,u,rfl,e⟩ | ⟨y,u,rfl,e⟩
   ·injection e with e1 _;rw [e1]
   ·exact nomatch e
  ·rcases ZbM hb with ⟨j,u,rfl,e⟩ | ⟨y,u,rfl,e⟩
   ·exact nomatch e
   ·injection e with e1 _;rw [e1]
 byValue:=fun k v h=>by
  rcases ZbM h with ⟨i,t,rfl,rfl⟩ | ⟨x,t,rfl,rfl⟩ <;> rfl
 pyHash:=fun hv h=>by
  rcases ZbM hv with ⟨i,t,rfl,rfl⟩ | ⟨x,t,rfl,rfl⟩
  ·exact wpAny_pyHash_int h
  ·exact wpAny_pyHash_str h
 eqBool:=fun hu hv h=>by
  rcases ZbM hu with ⟨i,t,rfl,rfl⟩ | ⟨x,t,rfl,rfl⟩
  ·rcases ZbM hv with ⟨j,u,rfl,rfl⟩ | ⟨y,u,rfl,rfl⟩
   ·rw [Zsl] at h;exact wpAny_eqBool_int h
   ·rw [Zsk] at h;exact SeqAt.EqAt.int_str i t y u _ _ _ _ h
  ·rcases ZbM hv with ⟨j,u,rfl,rfl⟩ | ⟨y,u,rfl,rfl⟩
   ·rw [Zsj] at h;exact SeqAt.EqAt.str_int x t j u _ _ _ _ h
   ·rw [Zsi] at h;exact wpAny_eqBool_str h
 «strs»:=fun k x t v h=>by
  rcases ZbM h with ⟨i,u,rfl,e⟩ | ⟨y,u,rfl,e⟩
  ·exact nomatch e
  ·injection e with e1 _
   subst e1
   cases v <;> rfl
theorem Zlr (prog:Program) (w:World) (i:Int) (t:Tok):(Zbm prog w).is (.inl i) (.int i t)=true:=Zoe i t
theorem Zlq (prog:Program) (w:World) (x:Str) (t:Tok):(Zbm prog w).is (.inr x) (.str x t)=true:=Zod x t
end L2
namespace L2
open PySem PySem.Spec PyProof.Rows
inductive V where
 | non | bl (b:Bool) | int (i:Int) | str (x:Str) | byt (b:Array UInt8) | flt (b:UInt64) | ref (a:Addr) | ty (n:String)
 deriving DecidableEq
def RelV:V->Value->Prop
 | .non,u=>u=Value.none
 | .bl b,u=>u=Value.bool b
 | .int i,u=>∃t,u=Value.int i t
 | .str x,u=>∃t,u=Value.str x t
 | .byt b,u=>∃t,u=Value.bytes b t
 | .flt b,u=>∃t,u=Value.float b t
 | .ref a,u=>u=Value.ref a
 | .ty n,u=>u=Value.type n
abbrev Vals:List V->List Value->Prop:=Paired RelV
theorem Vals.length {xs:List V} {us:List Value} (r:Vals xs us):xs.length=us.length:=Paired.length r
theorem Vals.get:∀{xs:List V} {us:List Value} {i:Nat} {x:V},Vals xs us->xs[i]?=some x->∃u,us[i]?=some u/\RelV x u
 | _,_,_,_,.nil,e=>by simp at e
 | _,_,0,_,.cons r _,e=>by simp at e;subst e;exact ⟨_,rfl,r⟩
 | _,_,i+1,x,.cons _ t,e=>by
  obtain ⟨u,h1,h2⟩:=Vals.get (i:=i) (x:=x) t (by simpa using e)
  exact ⟨u,by simpa using h1,h2⟩
theorem Vals.set {x:V} {u:Value} (r:RelV x u):∀{xs:List V} {us:List Value} (i:Nat),Vals xs us->Vals (xs.set i x) (us.set i u)
 | _,_,_,.nil=>.nil
 | _,_,0,.cons _ t=>.cons r t
 | _,_,i+1,.cons q t=>.cons q (Vals.set r i t)
theorem Vals.append:∀{xs ys:List V} {us ws:List Value},Vals xs us->Vals ys ws->Vals (xs++ys) (us++ws)
 | _,_,_,_,.nil,s=>s
 | _,_,_,_,.cons r t,s=>.cons r (Vals.append t s)
theorem Vals.take:∀{xs:List V} {us:List Value} (n:Nat),Vals xs us->Vals (xs.take n) (us.take n)
 | _,_,0,_=>.nil
 | _,_,_+1,.nil=>.nil
 | _,_,n+1,.cons r t=>.cons r (Vals.take n t)
theorem Vals.drop:∀{xs:List V} {us:List Value} (n:Nat),Vals xs us->Vals (xs.drop n) (us.drop n)
 | _,_,0,r=>r
 | _,_,_+1,.nil=>.nil
 | _,_,n+1,.cons _ t=>Vals.drop n t
def RelO:Option V->Option Value->Prop
 | some v,some u=>RelV v u
 | none,none=>True
 | _,_=>False
def KV {κ:Type}:List (κ×V)->List (κ×Value)->Prop:=Paired fun (p:κ×V) (q:κ×Value)=>p.1=q.1/\RelV p.2 q.2
def kV:Key->V
 | .inl i=>.int i
 | .inr x=>.str x
inductive HO where
 | lst (xs:List V)
 | tup (xs:List V)
 | dK (kvs:List (Key×V)) | dT (kvs:List (List Key×V))
 | set (S:Int->Bool) (n:Nat)
 | ins (C dx:Addr) (fs:List (Str×V))
 | own (x:Addr)
 | xd (fs:List (Str×V))
 | met (f x:Addr)
 | rng (lo hi:Int)
 | frz (o:Obj) (u:HO)
 | tbl (ps:Array Value)
 | ext (φ:Heap->Prop)
abbrev Hp:=Addr->Option HO
def upd (H:Hp) (a:Addr) (o:HO):Hp:=fun b=>if b=a then some o else H b
theorem Zav {H:Hp} {a:Addr} {o:HO}:upd H a o a=some o:=by unfold upd;rw [if_pos rfl]
theorem Zap {H:Hp} {a b:Addr} {o:HO} (h:b≠a):upd H a o b=H b:=by unfold upd;rw [if_neg h]
theorem Zil {H:Hp} {a:Addr} {o u:HO}:upd (upd H a o) a u=upd H a u:=by
 funext b;unfold upd;split <;> rfl
theorem Zp4 {H:Hp} {a b:Addr} {o u:HO} (h:H a=some o) (h':H b=some u) (d:o≠u):a≠b:=by
 intro e;subst e;rw [h] at h';exact d (Option.some.inj h')
theorem Zat {H:Hp} {a b:Addr} {o:HO} (h:H a=some o) (h':H b=none):a≠b:=by
 intro e;subst e;rw [h] at h';cases h'
def TupN (h:Heap) (a:Addr) (items:Array Value):Prop:=∃o,h.get? a=some o/\(o.cls=.type "tuple"/\∃n,o.data=.seq items n)/\o.dict=none
theorem TupN.tup {h:Heap} {a:Addr} {items:Array Value} (x:TupN h a items):IsTup h a items:=let ⟨o,e,c,_⟩:=x;⟨o,e,c⟩
theorem TupN.new (h:Heap) (items:Array Value):TupN (h.push { cls:=.type "tuple",data:=.seq items 0 }) h.objs.size items:=⟨_,Heap.get?_push_size _ rfl,⟨rfl,_,rfl⟩,rfl⟩
section
variable (P:Program) (w:World)
def Za4 (H:Hp) (h:Heap) (a:Addr):HO->Prop
 | .lst xs=>xs.length<=sizeLine/\∃(its:List Value) (n:Nat),Vals xs its/\h.get? a=some { cls:=.type "list",data:=.seq its.toArray n }
 | .tup xs=>xs.length<=sizeLine/\∃its:List Value,Vals xs its/\TupN h a its.toArray
 | .dK kvs=>kvs.length<=sizeLine/\(a==sysModules)=false/\∃vs,KV kvs vs/\h.DictOf (Zbm P w) a vs
 | .dT kvs=>kvs.length<=sizeLine/\(a==sysModules)=false/\∃xs:List (List Key×Addr×Value),
   Paired (fun (p:List Key×V) (q:List Key×Addr×Value)=>p.1=q.1/\H q.2.1=some (.tup (p.1.map kV))/\RelV p.2 q.2.2) kvs xs/\
   ∃o es ep,h.get? a=some o/\o.ExactDict/\o.data=.dict es ep/\es.toList=xs.map (entryOfKey (tupleKind (Zbm P w)))/\(xs.map (·.1)).Nodup
 | .set S n=>h.SetOf (intKind P w) a S n
 | .ins C dx fs=>H dx=some (.own a)/\fs.length<=1000/\dx≠a/\h.get? a=some (PySem.W.instObj C dx)/\
   ∃mA,h.Ns1 dx mA/\(∀f,RelO (fs.lookup f) (mA f))/\PySem.Within mA (fs.map (·.1))
 | .own _=>∃o,h.get? a=some o
 | .xd fs=>∃mA,h.Ns1 a mA/\∀f,RelO (fs.lookup f) (mA f)
 | .rng lo hi=>∃t u v,h.get? a=some { cls:=.type "range",data:=.fields #[.int lo t,.int hi u,.int 1 v] }
 | .frz o u=>h.get? a=some o/\Za4 H h a u
 | .tbl ps=>h.get? a=some { cls:=.none,data:=.fields ps }
 | .met f x=>h.get? a=some (PySem.W.methodObj (.ref f) (.ref x))
 | .ext φ=>φ h/\(∃o,h.get? a=some o)/\∀h1 h2:Heap,φ h1->(∀o,h1.get? a=some o->h2.get? a=some o)->φ h2
def HOk (H:Hp) (h:Heap):Prop:=∀a o,H a=some o->Za4 P w H h a o
end
section
variable {P:Program} {w:World} {H H':Hp} {h h':Heap} {a:Addr} {o:HO}
theorem Za4.lt (x:Za4 P w H h a o):a<h.objs.size:=by
 cases o with
 | lst xs=>obtain ⟨_,_,_,_,e⟩:=x;exact Heap.lt_size e
 | tup xs=>obtain ⟨_,_,_,p⟩:=x;exact p.tup.lt
 | dK kvs=>obtain ⟨_,_,_,_,o,_,_,e,_⟩:=x;exact Heap.lt_size e
 | dT kvs=>obtain ⟨_,_,_,_,o,_,_,e,_⟩:=x;exact Heap.lt_size e
 | set S n=>obtain ⟨o,_,_,_,e,_⟩:=x;exact Heap.lt_size e
 | ins C dx fs=>obtain ⟨_,_,_,e,_⟩:=x;exact Heap.lt_size e
 | own y=>obtain ⟨_,e⟩:=x;exact Heap.lt_size e
 | xd fs=>obtain ⟨_,⟨_,_,_,e,_⟩,_⟩:=x;exact Heap.lt_size e
 | rng lo hi=>obtain ⟨_,_,_,e⟩:=x;exact Heap.lt_size e
 | frz ob u=>obtain ⟨e,_⟩:=x;exact Heap.lt_size e
 | tbl ps=>exact Heap.lt_size (show h.get? a=some _ from x)
 | met f y=>exact Heap.lt_size (show h.get? a=some _ from x)
 | ext φ=>obtain ⟨_,⟨_,e⟩,_⟩:=x;exact Heap.lt_size e
theorem Paired.mapP {α β:Type} {F G:α->β->Prop}:∀{l₁:List α} {l₂:List β},Paired F l₁ l₂->(∀a b,F a b->G a b)->Paired G l₁ l₂
 | _,_,.nil,_=>.nil
 | _,_,.cons r t,f=>.cons (f _ _ r) (Paired.mapP t f)
theorem Za4.stay (x:Za4 P w H h a o) (k:∀b u,(b=a∨H b=some (.own a))->h.get? b=some u->h'.get? b=some u)
  (ho:∀b,H b=some (.own a)->H' b=some (.own a)) (ht:∀b xs,H b=some (.tup xs)->H' b=some (.tup xs)):Za4 P w H' h' a o:=by
 induction o with
 | lst xs=>obtain ⟨z,its,n,r,e⟩:=x;exact ⟨z,its,n,r,k _ _ (.inl rfl) e⟩
 | tup xs=>obtain ⟨z,its,r,ob,e,c⟩:=x;exact ⟨z,its,r,ob,k _ _ (.inl rfl) e,c⟩
 | dK kvs=>obtain ⟨z,y,vs,r,ob,es,ep,e,c⟩:=x;exact ⟨z,y,vs,r,ob,es,ep,k _ _ (.inl rfl) e,c⟩
 | dT kvs=>
  obtain ⟨z,y,xs,r,ob,es,ep,e,c⟩:=x
  exact ⟨z,y,xs,Paired.mapP r fun p q z=>⟨z.1,ht _ _ z.2.1,z.2.2⟩,ob,es,ep,k _ _ (.inl rfl) e,c⟩
 | set S n=>obtain ⟨ob,es,ep,t,e,c⟩:=x;exact ⟨ob,es,ep,t,k _ _ (.inl rfl) e,c⟩
 | ins C dx fs=>
  obtain ⟨d,z,ne,e,mA,⟨od,es,ep,e2,c⟩,r⟩:=x
  exact ⟨ho _ d,z,ne,k _ _ (.inl rfl) e,mA,⟨od,es,ep,k _ _ (.inr d) e2,c⟩,r⟩
 | own y=>obtain ⟨ob,e⟩:=x;exact ⟨ob,k _ _ (.inl rfl) e⟩
 | xd fs=>obtain ⟨mA,⟨od,es,ep,e,c⟩,r⟩:=x;exact ⟨mA,⟨od,es,ep,k _ _ (.inl rfl) e,c⟩,r⟩
 | rng lo hi=>obtain ⟨t,u,v,e⟩:=x;exact ⟨t,u,v,k _ _ (.inl rfl) e⟩
 | frz ob u ih=>obtain ⟨e,q⟩:=x;exact ⟨k _ _ (.inl rfl) e,ih q⟩
 | tbl ps=>
  have e:h.get? a=some { cls:=.none,data:=.fields ps }:=x
  show h'.get? a=some { cls:=.none,data:=.fields ps }
  exact k a _ (.inl rfl) e
 | met f y=>
  have e:h.get? a=some (PySem.W.methodObj (.ref f) (.ref y)):=x
  show h'.get? a=some (PySem.W.methodObj (.ref f) (.ref y))
  exact k a _ (.inl rfl) e
 | ext φ=>obtain ⟨p,⟨o,e⟩,st⟩:=x;exact ⟨st _ _ p fun o q=>k _ _ (.inl rfl) q,⟨o,k _ _ (.inl rfl) e⟩,st⟩
theorem HOk.lt (x:HOk P w H h) (e:H a=some o):a<h.objs.size:=(x a o e).lt
theorem HOk.fresh (x:HOk P w H h) (e:h.objs.size<=a):H a=none:=by
 cases q:H a with
 | none=>rfl
 | some u=>exact absurd (Nat.lt_of_lt_of_le (x.lt q) e) (Nat.lt_irrefl _)
theorem HOk.kept (x:HOk P w H h) (k:∀b u,h.get? b=some u->h'.get? b=some u):HOk P w H h':=fun a o e=>
 (x a o e).stay (fun b u _ q=>k b u q) (fun _ q=>q) fun _ _ q=>q
theorem HOk.laid (x:HOk P w H h) (k:∀b u,h.get? b=some u->h'.get? b=some u) (hp:h.objs.size<=a) (new:Za4 P w (upd H a o) h' a o):HOk P w (upd H a o) h':=fun b u e=>by
 have hn:=x.fresh hp
 by_cases hb:b=a
 ·subst hb;rw [Zav] at e;cases e;exact new
 ·rw [Zap hb] at e
  exact (x b u e).stay (fun c v _ q=>k c v q) (fun c q=>by rw [Zap (Zat q hn)];exact q) fun c xs q=>by rw [Zap (Zat q hn)];exact q
end
def Rd (H:Hp) (a:Addr) (u:HO):Prop:=H a=some u∨∃o,H a=some (.frz o u)
theorem Rd.of {H:Hp} {a:Addr} {u:HO} (h:H a=some u):Rd H a u:=.inl h
theorem Rd.ok {P:Program} {w:World} {H:Hp} {h:Heap} {a:Addr} {u:HO} (r:Rd H a u) (x:HOk P w H h):Za4 P w H h a u:=by
 rcases r with r | ⟨o,r⟩
 ·exact x a u r
 ·obtain ⟨_,q⟩:=x a _ r
  exact q
def Mut:Option HO->Prop
 | some (.lst _)=>True
 | some (.dK _)=>True
 | some (.dT _)=>True
 | some (.set _ _)=>True
 | some (.ins _ _ _)=>True
 | some (.ext _)=>True
 | _=>False
section
variable {P:Program} {w:World} {H:Hp} {h h':Heap} {x e:Addr} {o':HO}
theorem HOk.write (ok:HOk P w H h) (mu:Mut (H x)) (he:e=x∨H e=some (.own x)) (k:∀b u,b≠e->h.get? b=some u->h'.get? b=some u) (heo:∃u,h'.get? e=some u)
  (new:Za4 P w (upd H x o') h' x o'):HOk P w (upd H x o') h':=fun b u q=>by
 have nown:∀c y,H c=some (.own y)->c≠x:=fun c y r z=>by subst z;rw [r] at mu;exact mu
 have ntup:∀c xs,H c=some (.tup xs)->c≠x:=fun c xs r z=>by subst z;rw [r] at mu;exact mu
 by_cases hb:b=x
 ·subst hb;rw [Zav] at q;cases q;exact new
 ·rw [Zap hb] at q
  by_cases hbe:b=e
  ·have q':H b=some (.own x):=by
    rcases he with z | z
    ·exact absurd (hbe.trans z) hb
    ·rw [hbe];exact z
   rw [q] at q';cases q'
   obtain ⟨v,hv⟩:=heo
   exact ⟨v,by rw [hbe];exact hv⟩
  ·refine (ok b u q).stay (fun c v hc r=>k c v ?_ r) (fun c r=>by rw [Zap (nown c b r)];exact r) fun c xs r=>by rw [Zap (ntup c xs r)];exact r
   rcases hc with rfl | hc
   ·exact hbe
   ·rintro rfl
    rcases he with z | z
    ·exact nown c b hc z
    ·rw [hc] at z;cases z;exact hb rfl
end
structure Un (fs ex:List Addr) (H H':Hp) (h h':Heap):Prop where
 keep:∀b o,h.get? b=some o->H b=none->b∉fs->b∉ex->h'.get? b=some o
 slot:∀b o,h.get? b=some o->H b=none->b∈fs->b∉ex->∃sl,h'.get? b=some { o with slots:=sl }
 free:∀b o,h.get? b=some o->H b=none->b∉ex->H' b=none
 there:∀b o,h.get? b=some o->b∉ex->∃o',h'.get? b=some o'
 tups:∀b xs,H b=some (.tup xs)->H' b=some (.tup xs)
 frzs:∀b o u,H b=some (.frz o u)->H' b=some (.frz o u)
 tbls:∀b ps,H b=some (.tbl ps)->∃more,H' b=some (.tbl (ps++more))
section
variable {fs fs' ex ex':List Addr} {H H1 H2:Hp} {h h1 h2 h':Heap} {a x e:Addr} {o:HO}
theorem Un.any (u:Un fs ex H H1 h h1) {b:Addr} {ob:Obj} (q:h.get? b=some ob) (n:H b=none) (hx:b∉ex):∃sl,h1.get? b=some { ob with slots:=sl }:=by
 by_cases hb:b∈fs
 ·exact u.slot b ob q n hb hx
 ·exact ⟨ob.slots,u.keep b ob q n hb hx⟩
theorem Un.kept (k:∀b u,h.get? b=some u->h'.get? b=some u):Un fs ex H H h h':=
 ⟨fun b ob q _ _ _=>k b ob q,fun b ob q _ _ _=>⟨ob.slots,k b ob q⟩,fun _ _ _ n _=>n,fun b ob q _=>⟨ob,k b ob q⟩,fun _ _ q=>q,fun _ _ _ q=>q,fun _ ps q=>⟨#[],by rw [q];simp⟩⟩
theorem Un.refl:Un fs ex H H h h:=Un.kept fun _ _ q=>q
theorem Un.laid (k:∀b u,h.get? b=some u->h'.get? b=some u) (hp:h.objs.size<=a) (hn:H a=none):Un fs ex H (upd H a o) h h' where
 keep:=fun b u q _ _ _=>k b u q
 slot:=fun b u q _ _ _=>⟨u.slots,k b u q⟩
 free:=fun b u q n _=>by rw [Zap (Nat.ne_of_lt (Nat.lt_of_lt_of_le (Heap.lt_size q) hp))];exact n
 there:=fun b u q _=>⟨u,k b u q⟩
 tups:=fun b xs q=>by rw [Zap (Zat q hn)];exact q
 frzs:=fun b u xs q=>by rw [Zap (Zat q hn)];exact q
 tbls:=fun b ps q=>⟨#[],by rw [Zap (Zat q hn),q];simp⟩
theorem Un.write (mu:Mut (H x)) (he:e=x∨H e=some (.own x)) (k:∀b u,b≠e->h.get? b=some u->h'.get? b=some u) (heo:∃u,h'.get? e=some u):Un fs ex H (upd H x o) h h':=by
 have hx:∀b,H b=none->b≠x:=fun b n z=>by subst z;rw [n] at mu;exact mu
 have hb:∀b,H b=none->b≠e:=fun b n z=>by
  subst z
  rcases he with r | r
  ·exact hx b n r
  ·rw [n] at r;cases r
 have hm:∀b u,H b=some u->¬Mut (some u)->b≠x:=fun b u q nm z=>by subst z;rw [q] at mu;exact nm mu
 refine ⟨fun b u q n _ _=>k b u (hb b n) q,fun b u q n _ _=>⟨u.slots,k b u (hb b n) q⟩,fun b u q n _=>by rw [Zap (hx b n)];exact n,fun b u q _=>?_,
  fun b xs q=>by rw [Zap (hm b _ q fun z=>z)];exact q,fun b u xs q=>by rw [Zap (hm b _ q fun z=>z)];exact q,fun b ps q=>⟨#[],by rw [Zap (hm b _ q fun z=>z),q];simp⟩⟩
 by_cases hbe:b=e
 ·subst hbe;exact heo
 ·exact ⟨u,k b u hbe q⟩
end
def trk (h:Heap) (H:Hp):List Addr:=(List.range h.objs.size).filter fun a=>(H a).isSome
def hidT (h:Heap) (H:Hp):Heap:=PySem.W.hideAll h (trk h H)
theorem Zon (h:Heap) (H:Hp):(hidT h H).objs.size=h.objs.size:=PySem.W.hideAll_size _ _
theorem ZpG {h:Heap} {H:Hp} {b:Addr} {o:Obj} (e:h.get? b=some o) (n:H b=none):(hidT h H).get? b=some o:=
 PySem.W.hideAll_get _ e fun hm=>by
  have q:(H b).isSome=true:=(List.mem_filter.mp hm).2
  rw [n] at q;simp at q
theorem ZqY {h:Heap} {H:Hp} {b:Addr} {o:Obj} (e:(hidT h H).get? b=some o):h.get? b=some o/\H b=none:=by
 have e':h.get? b=some o:=PySem.W.of_hideAll (trk h H) e
 refine ⟨e',?_⟩
 cases q:H b with
 | none=>rfl
 | some x=>
  have hm:b∈trk h H:=List.mem_filter.mpr ⟨List.mem_range.mpr (Heap.lt_size e'),by simp [q]⟩
  have z:(hidT h H).get? b=none:=PySem.W.hideAll_none (trk h H) hm
  rw [z] at e;cases e
end L2
namespace L2
open PySem PySem.Spec PyProof.Rows
structure Mod (K:PySem.W.Frag) (mg:Str->Option Value) (base:Heap):Prop where
 kin:K.In base
 glob:base.Ns mainGlobals mg
 blt:∃mb,base.Ns builtinsNs mb/\∀x:Str,x≠"__name__"->mb x=bootBuiltins x
 nolimit:base.NoLimit
structure Cx where
 prog:Program
 w:World
 K:PySem.W.Frag
 mg:Str->Option Value
 base:Heap
 A:Around
 N:List Str
 s₀:Shared
 H₀:Hp
 env:Env
 outer:List Env
 stack:List Env
 ex:List Addr
 fn:Str->Bool
 calm:Bool
 pn:List (Addr×Obj)
 xe:Value->Shared->Prop
def frs (l:List Env):List Addr:=l.filterMap (·.frame)
abbrev Cx.fs (X:Cx):List Addr:=frs X.outer
def Vis (sc:Scope) (x:Str):Prop:=sc.names.lookup x=some .local∨sc.names.lookup x=some .cell∨sc.names.lookup x=some .free
def Loc (sc:Scope) (x:Str):Prop:=sc.names.lookup x=some .local∨sc.names.lookup x=some .cell
def Look (env:Env) (h:Heap) (m:Str->Option Value) (x:Str) (u:Value):Prop:=
 (env.kindOf x=some .local/\m x=some u)∨((env.kindOf x=some .cell∨env.kindOf x=some .free)/\∃c,env.cells.lookup x=some c/\h.IsCell c (some u))
structure Cx.Ok (X:Cx):Prop where
 mod:Mod X.K X.mg X.base
 kind:X.env.scope.kind=.function
 glob:X.env.globals=mainGlobals
 blt:X.env.builtins=builtinsNs
 above:X.s₀.heap.objs.size<=X.env.locals
 inj:∀x y c,X.env.cells.lookup x=some c->X.env.cells.lookup y=some c->x=y
 has:∀x,(X.env.kindOf x=some .cell∨X.env.kindOf x=some .free)->∃c,X.env.cells.lookup x=some c
 cab:∀x c,X.fn x=true->X.env.cells.lookup x=some c->X.s₀.heap.objs.size<=c
 hd:X.calm=true->X.A.handled=none
 frames:X.A.frames=some X.stack
 stk:X.stack=X.outer∨(X.stack=X.env::X.outer/\X.env.frame=some X.env.locals)
 exf:∀b∈X.ex,b≠X.env.locals/\∀x c,X.env.cells.lookup x=some c->c≠b
 bs:∀b o,X.base.get? b=some o->X.s₀.heap.get? b=some o/\X.H₀ b=none
 bsz:X.base.objs.size<=X.s₀.heap.objs.size
 noex:∀b o,X.base.get? b=some o->b∉X.ex
 exfs:∀b∈X.ex,b∉X.fs
 funs:X.s₀.heap.FunFrames X.base X.outer
 frf:∀b∈X.fs,X.H₀ b=none
structure Inv (X:Cx) (pins:List (Addr×Obj)) (σ:List (Option V)) (H:Hp) (s:Shared):Prop where
 ok:X.Ok
 os:s.os=X.s₀.os
 bare:AllBare s.gens
 base:Un X.fs X.ex X.H₀ H X.s₀.heap s.heap
 loc:∃m,s.heap.Ns X.env.locals m/\∀(i:Nat) (x:Str) (v:V),X.N[i]?=some x->σ[i]?=some (some v)->Vis X.env.scope x->∃u,RelV v u/\Look X.env s.heap m x u
 cell:∀x c,X.env.cells.lookup x=some c->∃v,s.heap.IsCell c v
 free:H X.env.locals=none
 freeC:∀x c,X.env.cells.lookup x=some c->H c=none
 pin:∀p∈X.pn++pins,s.heap.get? p.1=some p.2/\H p.1=none/\p.1≠X.env.locals/\p.1∉X.fs/\∀v,p.2.data≠.cell v
 hok:HOk X.prog X.w H s.heap
 len:σ.length=X.N.length
section
variable {X:Cx} {pins:List (Addr×Obj)} {σ:List (Option V)} {H H':Hp} {s:Shared} {h':Heap}
theorem Cx.Ok.nofr (ok:X.Ok) {b:Addr} {o:Obj} (e:X.base.get? b=some o):b∉X.fs:=fun hb=>by
 have:=(ok.funs.mem hb).1
 rw [e] at this;cases this
theorem Inv.bs (I:Inv X pins σ H s):∀b o,X.base.get? b=some o->s.heap.get? b=some o/\H b=none:=fun b o e=>
 ⟨I.base.keep b o (I.ok.bs b o e).1 (I.ok.bs b o e).2 (I.ok.nofr e) (I.ok.noex b o e),I.base.free b o (I.ok.bs b o e).1 (I.ok.bs b o e).2 (I.ok.noex b o e)⟩
theorem Inv.bk (I:Inv X pins σ H s):∀b o,X.base.get? b=some o->s.heap.get? b=some o:=fun b o e=>(I.bs b o e).1
theorem Inv.mod (I:Inv X pins σ H s):Mod X.K X.mg X.base:=I.ok.mod
theorem Inv.kIn (I:Inv X pins σ H s):X.K.In s.heap:=I.ok.mod.kin.keeps I.bk
theorem Inv.lt (I:Inv X pins σ H s):X.env.locals<s.heap.objs.size:=let ⟨_,hn,_⟩:=I.loc;hn.lt
theorem Inv.sz (I:Inv X pins σ H s):X.s₀.heap.objs.size<=s.heap.objs.size:=Nat.le_trans I.ok.above (Nat.le_of_lt I.lt)
theorem Inv.nofs (I:Inv X pins σ H s) {a:Addr} (h:s.heap.objs.size<=a):a∉X.fs:=fun hb=>by
 obtain ⟨_,o,ho,_⟩:=I.ok.funs.mem hb
 exact absurd (Nat.lt_of_lt_of_le (Heap.lt_size ho) (Nat.le_trans I.sz h)) (Nat.lt_irrefl _)
theorem Inv.cne (I:Inv X pins σ H s):∀x c,X.env.cells.lookup x=some c->c≠X.env.locals:=fun x c e z=>by
 obtain ⟨v,o,ho,hd⟩:=I.cell x c e
 obtain ⟨m,⟨o',es,ep,ho',hd',_⟩,_⟩:=I.loc
 rw [z,ho'] at ho;cases ho;rw [hd'] at hd;cases hd
theorem Inv.funs (I:Inv X pins σ H s):s.heap.FunFrames X.base X.outer:=by
 have all:∀(l:List Env),(∀b∈frs l,b∈X.fs)->X.s₀.heap.FunFrames X.base l->s.heap.FunFrames X.base l:=by
  intro l
  induction l with
  | nil=>intro _ _;trivial
  | cons env r ih=>
   intro hs hl
   obtain ⟨hk,⟨L,o,hf,hn,ho,hd⟩,hr⟩:=hl
   have hL:L∈X.fs:=hs L (by unfold frs;rw [List.filterMap_cons,hf];exact List.mem_cons_self)
   obtain ⟨sl,e⟩:=I.base.slot L o ho (I.ok.frf L hL) hL fun z=>I.ok.exfs L z hL
   exact ⟨hk,⟨L,_,hf,hn,e,hd⟩,ih (fun b hb=>hs b (by unfold frs;rw [List.filterMap_cons,hf];exact List.mem_cons_of_mem _ hb)) hr⟩
 exact all X.outer (fun _ hb=>hb) I.ok.funs
theorem Inv.stack (I:Inv X pins σ H s):s.heap.FunFrames X.base X.stack:=by
 rcases I.ok.stk with e | ⟨e,hf⟩
 ·rw [e];exact I.funs
 ·rw [e]
  obtain ⟨m,hn,_⟩:=I.loc
  refine .cons (by rw [I.ok.kind];decide) hf hn ?_ I.funs
  exact Heap.get?_none_of_le (Nat.le_trans I.ok.bsz I.ok.above)
theorem Inv.stkSub (I:Inv X pins σ H s):∀b∈frs X.stack,b∈X.env.locals::X.fs:=fun b hb=>by
 rcases I.ok.stk with e | ⟨e,hf⟩
 ·rw [e] at hb;exact List.mem_cons_of_mem _ hb
 ·rw [e] at hb
  unfold frs at hb
  rw [List.filterMap_cons,hf] at hb
  exact hb
theorem Inv.stkFree (I:Inv X pins σ H s):∀b∈frs X.stack,H b=none:=fun b hb=>by
 rcases List.mem_cons.mp (I.stkSub b hb) with e | hb
 ·rw [e];exact I.free
 ·obtain ⟨_,o,ho,_⟩:=I.ok.funs.mem hb
  exact I.base.free b o ho (I.ok.frf b hb) fun z=>I.ok.exfs b z hb
theorem Inv.step {g':Array GenState} {t':Nat} {d':Drawn} {ch:List Addr} (I:Inv X pins σ H s)
  (hch:∀b∈ch,(b∈X.ex∨X.s₀.heap.objs.size<=b)/\b≠X.env.locals/\(∀x c,X.env.cells.lookup x=some c->c≠b)/\∀p∈X.pn++pins,p.1≠b)
  (keep:∀b o,b≠X.env.locals->b∉X.fs->b∉ch->s.heap.get? b=some o->H b=none->h'.get? b=some o)
  (slot:∀b o,b≠X.env.locals->b∈X.fs->b∉ch->s.heap.get? b=some o->H b=none->∃sl,h'.get? b=some { o with slots:=sl }) (free:∀b o,b∉ch->s.heap.get? b=some o->H b=none->H' b=none)
  (there:∀b o,b∉ch->s.heap.get? b=some o->∃o',h'.get? b=some o')
  (tups:∀b xs,H b=some (.tup xs)->H' b=some (.tup xs)) (frzs:∀b o u,H b=some (.frz o u)->H' b=some (.frz o u)) (tbls:∀b ps,H b=some (.tbl ps)->∃more,H' b=some (.tbl (ps++more)))
  (ns:∀m,s.heap.Ns X.env.locals m->h'.Ns X.env.locals m) (hok:HOk X.prog X.w H' h') (hg:AllBare g') :
  Inv X pins σ H' { s with heap:=h',gens:=g',drawn:=d',toks:=t' }:=by
 have neL:∀b o,X.s₀.heap.get? b=some o->b≠X.env.locals:=fun b o e=>Nat.ne_of_lt (Nat.lt_of_lt_of_le (Heap.lt_size e) I.ok.above)
 have neC:∀b o,X.s₀.heap.get? b=some o->b∉X.ex->b∉ch:=fun b o e hx hb=>by
  rcases (hch b hb).1 with z | z
  ·exact hx z
  ·exact absurd (Nat.lt_of_lt_of_le (Heap.lt_size e) z) (Nat.lt_irrefl _)
 have cellK:∀x c,X.env.cells.lookup x=some c->∀v,s.heap.IsCell c v->h'.IsCell c v:=fun x c e v ⟨o,ho,hd⟩=>by
  have nch:c∉ch:=fun z=>(hch c z).2.2.1 x c e rfl
  by_cases hc:c∈X.fs
  ·obtain ⟨sl,q⟩:=slot c o (I.cne x c e) hc nch ho (I.freeC x c e)
   exact ⟨_,q,hd⟩
  ·exact ⟨o,keep c o (I.cne x c e) hc nch ho (I.freeC x c e),hd⟩
 refine ⟨I.ok,I.os,hg,⟨fun b o e n hb hx=>?_,fun b o e n hb hx=>?_,fun b o e n hx=>?_,fun b o e hx=>?_,fun b xs e=>tups b xs (I.base.tups b xs e),fun b o xs e=>frzs b o xs (I.base.frzs b o xs e),fun b ps e=>?_⟩,?_,fun x c e=>?_,?_,fun x c e=>?_,fun p hp=>?_,hok,I.len⟩
 ·exact keep b o (neL b o e) hb (neC b o e hx) (I.base.keep b o e n hb hx) (I.base.free b o e n hx)
 ·obtain ⟨sl,e1⟩:=I.base.slot b o e n hb hx
  obtain ⟨sl',e2⟩:=slot b _ (neL b o e) hb (neC b o e hx) e1 (I.base.free b o e n hx)
  exact ⟨sl',e2⟩
 ·obtain ⟨o',e1⟩:=I.base.there b o e hx
  exact free b o' (neC b o e hx) e1 (I.base.free b o e n hx)
 ·obtain ⟨o',e1⟩:=I.base.there b o e hx
  exact there b o' (neC b o e hx) e1
 ·obtain ⟨m1,e1⟩:=I.base.tbls b ps e
  obtain ⟨m2,e2⟩:=tbls b _ e1
  exact ⟨m1++m2,by rw [e2,Array.append_assoc]⟩
 ·obtain ⟨m,hn,hl⟩:=I.loc
  refine ⟨m,ns m hn,fun i x v e1 e2 e3=>?_⟩
  obtain ⟨u,r,l⟩:=hl i x v e1 e2 e3
  refine ⟨u,r,?_⟩
  rcases l with l | ⟨k,c,e,z⟩
  ·exact .inl l
  ·exact .inr ⟨k,c,e,cellK x c e _ z⟩
 ·obtain ⟨v,z⟩:=I.cell x c e
  exact ⟨v,cellK x c e v z⟩
 ·obtain ⟨m,⟨o,_,_,ho,_⟩,_⟩:=I.loc
  exact free _ o (fun z=>(hch _ z).2.1 rfl) ho I.free
 ·obtain ⟨v,o,ho,hd⟩:=I.cell x c e
  exact free c o (fun z=>(hch c z).2.2.1 x c e rfl) ho (I.freeC x c e)
 ·obtain ⟨e,n,ne,nf,d⟩:=I.pin p hp
  have nch:p.1∉ch:=fun z=>(hch p.1 z).2.2.2 p hp rfl
  exact ⟨keep p.1 p.2 ne nf nch e n,free p.1 p.2 nch e n,ne,nf,d⟩
theorem Inv.un {t':Nat} (I:Inv X pins σ H s) (u:Un X.fs [] H H' s.heap h') (hok:HOk X.prog X.w H' h'):Inv X pins σ H' { s with heap:=h',toks:=t' }:=by
 obtain ⟨m,⟨o,es,ep,ho,r⟩,_⟩:=id I.loc
 obtain ⟨sl,hL⟩:=u.any ho I.free (by simp)
 exact I.step (g':=s.gens) (d':=s.drawn) (ch:=[]) (fun _ z=>nomatch z) (fun b o _ hb _ e n=>u.keep b o e n hb (by simp)) (fun b o _ hb _ e n=>u.slot b o e n hb (by simp)) (fun b o _ e n=>u.free b o e n (by simp)) (fun b o _ e=>u.there b o e (by simp)) u.tups u.frzs u.tbls (fun m' hm=>by
  obtain ⟨o',es',ep',ho',r'⟩:=hm
  rw [ho] at ho';cases ho'
  exact ⟨_,es',ep',hL,r'⟩) hok I.bare
theorem Inv.call {g':Array GenState} {t':Nat} {d':Drawn} {ch:List Addr} (I:Inv X pins σ H s) (u:Un (frs X.stack) ch H H' s.heap h') (hok:HOk X.prog X.w H' h') (hg:AllBare g')
  (hch:∀b∈ch,(b∈X.ex∨X.s₀.heap.objs.size<=b)/\b≠X.env.locals/\(∀x c,X.env.cells.lookup x=some c->c≠b)/\∀p∈X.pn++pins,p.1≠b) :
  Inv X pins σ H' { s with heap:=h',gens:=g',drawn:=d',toks:=t' }:=by
 obtain ⟨m,⟨o,es,ep,ho,r⟩,_⟩:=id I.loc
 obtain ⟨sl,hL⟩:=u.any ho I.free fun z=>(hch _ z).2.1 rfl
 exact I.step (ch:=ch) hch (fun b o hL hb hc e n=>u.keep b o e n (fun z=>(List.mem_cons.mp (I.stkSub b z)).elim hL hb) hc) (fun b o _ _ hc e n=>u.any e n hc) (fun b o hc e n=>u.free b o e n hc) (fun b o hc e=>u.there b o e hc) u.tups u.frzs u.tbls (fun m' hm=>by
  obtain ⟨o',es',ep',ho',r'⟩:=hm
  rw [ho] at ho';cases ho'
  exact ⟨_,es',ep',hL,r'⟩) hok hg
theorem Inv.turned {t':Nat} {it:Addr} (I:Inv X pins σ H s) (k:∀b o,b≠it->s.heap.get? b=some o->h'.get? b=some o) (hn:H it=none) (hL:it≠X.env.locals)
  (h1:it∈X.ex∨X.s₀.heap.objs.size<=it) (h2:∀x c,X.env.cells.lookup x=some c->c≠it) (h3:∀p∈X.pn++pins,p.1≠it):Inv X pins σ H { s with heap:=h',toks:=t' }:=by
 have nit:∀b u,H b=some u->b≠it:=fun b u e z=>by rw [z,hn] at e;cases e
 refine I.step (g':=s.gens) (d':=s.drawn) (ch:=[it]) (fun b hb=>?_) (fun b o _ _ hc e _=>k b o (fun z=>hc (by simp [z])) e) (fun b o _ _ hc e _=>⟨o.slots,k b o (fun z=>hc (by simp [z])) e⟩) (fun _ _ _ _ n=>n)
  (fun b o hc e=>⟨o,k b o (fun z=>hc (by simp [z])) e⟩) (fun _ _ e=>e) (fun _ _ _ e=>e) (fun b ps e=>⟨#[],by rw [e];simp⟩) (fun m hm=>?_) (fun b u e=>?_) I.bare
 ·have e:b=it:=by simpa using hb
  subst e
  exact ⟨h1,hL,h2,h3⟩
 ·obtain ⟨o,es,ep,ho,r⟩:=hm
  exact ⟨o,es,ep,k _ o (Ne.symm hL) ho,r⟩
 ·refine (I.hok b u e).stay (fun c v hc q=>k c v ?_ q) (fun _ q=>q) fun _ _ q=>q
  rcases hc with z | z
  ·rw [z];exact nit b u e
  ·exact nit c _ z
theorem Inv.tok (I:Inv X pins σ H s) (t:Nat):Inv X pins σ H { s with toks:=t }:=I.un (h':=s.heap) (t':=t) Un.refl I.hok
theorem Inv.kept {t':Nat} (I:Inv X pins σ H s) (k:∀b u,s.heap.get? b=some u->h'.get? b=some u):Inv X pins σ H { s with heap:=h',toks:=t' }:=I.un (Un.kept k) (I.hok.kept k)
theorem Inv.laid {a:Addr} {o:HO} {t':Nat} (I:Inv X pins σ H s) (k:∀b u,s.heap.get? b=some u->h'.get? b=some u) (hp:s.heap.objs.size<=a) (new:Za4 X.prog X.w (upd H a o) h' a o) :
  Inv X pins σ (upd H a o) { s with heap:=h',toks:=t' }:=I.un (Un.laid k hp (I.hok.fresh hp)) (I.hok.laid k hp new)
theorem Inv.write {x e:Addr} {o:HO} {t':Nat} (I:Inv X pins σ H s) (mu:Mut (H x)) (he:e=x∨H e=some (.own x)) (k:∀b u,b≠e->s.heap.get? b=some u->h'.get? b=some u) (heo:∃u,h'.get? e=some u)
  (new:Za4 X.prog X.w (upd H x o) h' x o):Inv X pins σ (upd H x o) { s with heap:=h',toks:=t' }:=I.un (Un.write mu he k heo) (I.hok.write mu he k heo new)
theorem Inv.pins_of {pins':List (Addr×Obj)} (I:Inv X pins σ H s) (h:∀p∈pins',s.heap.get? p.1=some p.2/\H p.1=none/\p.1≠X.env.locals/\p.1∉X.fs/\∀v,p.2.data≠.cell v):Inv X pins' σ H s:=
 ⟨I.ok,I.os,I.bare,I.base,I.loc,I.cell,I.free,I.freeC,fun p hp=>(List.mem_append.mp hp).elim (fun z=>I.pin p (List.mem_append_left _ z)) (h p),I.hok,I.len⟩
theorem Zkq {N:List Str} (hN:N.Nodup) {i j:Nat} {x:Str} (a:N[i]?=some x) (b:N[j]?=some x):i=j:=by
 obtain ⟨h1,e1⟩:=List.getElem?_eq_some_iff.mp a
 obtain ⟨h2,e2⟩:=List.getElem?_eq_some_iff.mp b
 exact (List.getElem_inj hN).mp (e1.trans e2.symm)
theorem Znt {M:Model} {A:Around} {E:Value->Shared->Prop} {i:Nat} {x:Str} {v:V} {u:Value} {Q:Unit->Shared->Prop} (I:Inv X pins σ H s) (hN:X.N.Nodup) (hi:X.N[i]?=some x) (hx:Loc X.env.scope x) (r:RelV v u)
  (h:∀s',Inv X pins (σ.set i (some v)) H s'->(∃a,Heap.SameBut a s.heap s'.heap/\(a=X.env.locals∨X.env.cells.lookup x=some a))->Q () s') (hf:X.fn x=true∨X.env.scope.names.lookup x=some .local:=by first | exact .inl rfl | exact .inr rfl | assumption):wpAny M A (storeName X.env x u) Q E s:=by
 obtain ⟨m,hn,hl⟩:=id I.loc
 have hcls:(X.env.scope.kind == .class||(X.env.scope.kind == .module&&X.env.locals != X.env.globals))=false:=by rw [I.ok.kind];rfl
 have hiσ:i < σ.length:=by rw [I.len];exact (List.getElem?_eq_some_iff.mp hi).1
 have cne:=I.cne
 have tracked:∀{a:Addr} {h':Heap},(∃o,s.heap.get? a=some o/\H a=none)->Heap.SameBut a s.heap h'->HOk X.prog X.w H h':=fun {a h'} ha hs b ob e=>by
  obtain ⟨_,_,hfree⟩:=ha
  refine (I.hok b ob e).stay (fun c w' hc q=>(hs.2 c ?_).trans q) (fun _ q=>q) fun _ _ q=>q
  rintro rfl
  rcases hc with rfl | hc
  ·rw [hfree] at e;cases e
  ·rw [hfree] at hc;cases hc
 rcases hx with hk | hk
 ·refine wpAny_storeName_local hk hn (fun h' hn' hs=>?_) hcls
  obtain ⟨oL,_,_,hoL,_⟩:=id hn
  refine h _ ⟨I.ok,I.os,I.bare,⟨fun b o e n hb hx=>?_,fun b o e n hb hx=>?_,I.base.free,fun b o e hx=>?_,I.base.tups,I.base.frzs,I.base.tbls⟩,⟨_,hn',fun j y v' e1 e2 e3=>?_⟩,fun y c e=>?_,I.free,I.freeC,fun p hp=>?_,tracked ⟨oL,hoL,I.free⟩ hs,by simpa using I.len⟩ ⟨_,hs,.inl rfl⟩
  ·exact (hs.2 b (Nat.ne_of_lt (Nat.lt_of_lt_of_le (Heap.lt_size e) I.ok.above))).trans (I.base.keep b o e n hb hx)
  ·obtain ⟨sl,e1⟩:=I.base.slot b o e n hb hx
   exact ⟨sl,(hs.2 b (Nat.ne_of_lt (Nat.lt_of_lt_of_le (Heap.lt_size e) I.ok.above))).trans e1⟩
  ·obtain ⟨o',e1⟩:=I.base.there b o e hx
   exact ⟨o',(hs.2 b (Nat.ne_of_lt (Nat.lt_of_lt_of_le (Heap.lt_size e) I.ok.above))).trans e1⟩
  ·by_cases hj:j=i
   ·subst hj
    rw [hi] at e1;cases e1
    rw [List.getElem?_set_self hiσ] at e2
    cases e2
    exact ⟨u,r,.inl ⟨hk,by simp⟩⟩
   ·rw [List.getElem?_set_ne (Ne.symm hj)] at e2
    obtain ⟨u',r',q⟩:=hl j y v' e1 e2 e3
    refine ⟨u',r',?_⟩
    rcases q with ⟨k,e⟩ | ⟨k,c,e,z⟩
    ·refine .inl ⟨k,?_⟩
     have:y≠x:=fun e=>hj (Zkq hN e1 (e▸hi))
     simp [this,e]
    ·exact .inr ⟨k,c,e,z.sameBut hs (cne y c e)⟩
  ·obtain ⟨w',z⟩:=I.cell y c e
   exact ⟨w',z.sameBut hs (cne y c e)⟩
  ·obtain ⟨e,n,ne,nf,d⟩:=I.pin p hp
   exact ⟨(hs.2 p.1 ne).trans e,n,ne,nf,d⟩
 ·have hfn:X.fn x=true:=by
   rcases hf with z | z
   ·exact z
   ·rw [z] at hk;cases hk
  obtain ⟨c,hc⟩:=I.ok.has x (.inl hk)
  obtain ⟨w',z⟩:=I.cell x c hc
  refine wpAny_storeName_cell I.ok.kind hk hc z (fun h' hc' hs=>?_)
  obtain ⟨oc,hoc,hocd⟩:=id z
  refine h { s with heap:=h' } ⟨I.ok,I.os,I.bare,⟨fun b o e n hb hx=>?_,fun b o e n hb hx=>?_,I.base.free,fun b o e hx=>?_,I.base.tups,I.base.frzs,I.base.tbls⟩,⟨m,hn.sameBut hs (Ne.symm (cne x c hc)),fun j y v' e1 e2 e3=>?_⟩,fun y c' e=>?_,I.free,I.freeC,fun p hp=>?_,tracked ⟨oc,hoc,I.freeC x c hc⟩ hs,by simpa using I.len⟩ ⟨c,hs,.inr hc⟩
  ·exact (hs.2 b (Nat.ne_of_lt (Nat.lt_of_lt_of_le (Heap.lt_size e) (I.ok.cab x c hfn hc)))).trans (I.base.keep b o e n hb hx)
  ·obtain ⟨sl,e1⟩:=I.base.slot b o e n hb hx
   exact ⟨sl,(hs.2 b (Nat.ne_of_lt (Nat.lt_of_lt_of_le (Heap.lt_size e) (I.ok.cab x c hfn hc)))).trans e1⟩
  ·obtain ⟨o',e1⟩:=I.base.there b o e hx
   exact ⟨o',(hs.2 b (Nat.ne_of_lt (Nat.lt_of_lt_of_le (Heap.lt_size e) (I.ok.cab x c hfn hc)))).trans e1⟩
  ·by_cases hj:j=i
   ·subst hj
    rw [hi] at e1;cases e1
    rw [List.getElem?_set_self hiσ] at e2
    cases e2
    exact ⟨u,r,.inr ⟨.inl hk,c,hc,hc'⟩⟩
   ·rw [List.getElem?_set_ne (Ne.symm hj)] at e2
    obtain ⟨u',r',q⟩:=hl j y v' e1 e2 e3
    refine ⟨u',r',?_⟩
    rcases q with q | ⟨k,c',e,z'⟩
    ·exact .inl q
    ·refine .inr ⟨k,c',e,z'.sameBut hs ?_⟩
     rintro rfl
     exact hj (Zkq hN e1 (I.ok.inj _ _ _ e hc▸hi))
  ·by_cases hcc:c'=c
   ·subst hcc;exact ⟨_,hc'⟩
   ·obtain ⟨w2,z2⟩:=I.cell y c' e
    exact ⟨w2,z2.sameBut hs hcc⟩
  ·obtain ⟨e,n,ne,nf,d⟩:=I.pin p hp
   refine ⟨(hs.2 p.1 ?_).trans e,n,ne,nf,d⟩
   intro q
   rw [q,hoc] at e
   have q':oc=p.2:=Option.some.inj e
   exact d w' (by rw [<-q'];exact hocd)
theorem Zfm {M:Model} {A:Around} {E:Value->Shared->Prop} {i:Nat} {x:Str} {v:V} {u:Value} {Q:Unit->Shared->Prop} (I:Inv X pins σ H s) (hN:X.N.Nodup) (hi:X.N[i]?=some x) (hx:Loc X.env.scope x) (r:RelV v u)
  (h:∀s',Inv X pins (σ.set i (some v)) H s'->Q () s') (hf:X.fn x=true∨X.env.scope.names.lookup x=some .local:=by first | exact .inl rfl | exact .inr rfl | assumption):wpAny M A (storeName X.env x u) Q E s:=
 Znt I hN hi hx r (fun s' I' _=>h s' I') hf
theorem Inv.call' {s':Shared} {ch:List Addr} (I:Inv X pins σ H s) (ho:s'.os=s.os) (u:Un (frs X.stack) ch H H' s.heap s'.heap) (hok:HOk X.prog X.w H' s'.heap) (hg:AllBare s'.gens)
  (hch:∀b∈ch,(b∈X.ex∨X.s₀.heap.objs.size<=b)/\b≠X.env.locals/\(∀x c,X.env.cells.lookup x=some c->c≠b)/\∀p∈X.pn++pins,p.1≠b):Inv X pins σ H' s':=by
 obtain ⟨h',g',d',t',o'⟩:=s'
 have e:o'=s.os:=ho
 subst e
 exact I.call (g':=g') (t':=t') (d':=d') u hok hg hch
end
abbrev XK:=Value->Option Addr->Hp->Prop
abbrev St:=List (Option V)
abbrev VK:=V->Hp->Prop
abbrev TE:=St->Hp->VK->Prop
abbrev TT:=St->Hp->(Bool->Hp->Prop)->Prop
abbrev TA:=St->Hp->(List V->Hp->Prop)->Prop
structure Ends where
 nx:St->Hp->Prop
 rt:VK
 bk:St->Hp->Prop:=fun _ _=>False
 ct:St->Hp->Prop:=fun _ _=>False
abbrev TS:=Ends->St->Hp->Prop
def EP (X:Cx) (pins:List (Addr×Obj)) (σ:St) (Q:VK) (u:Value) (s':Shared):Prop:=∃v H',Inv X pins σ H' s'/\RelV v u/\Q v H'
def TP (X:Cx) (pins:List (Addr×Obj)) (σ:St) (Q:Bool->Hp->Prop) (b:Bool) (s':Shared):Prop:=∃H',Inv X pins σ H' s'/\Q b H'
def AP (X:Cx) (pins:List (Addr×Obj)) (σ:St) (Q:List V->Hp->Prop) (us:List Value) (s':Shared):Prop:=∃vs H',Inv X pins σ H' s'/\Vals vs us/\Q vs H'
def SP (X:Cx) (pins:List (Addr×Obj)) (D:Ends) (f:Flow) (s':Shared):Prop:=
 match f with
 | .next=>∃σ' H',Inv X pins σ' H' s'/\D.nx σ' H'
 | .brk=>∃σ' H',Inv X pins σ' H' s'/\D.bk σ' H'
 | .cont=>∃σ' H',Inv X pins σ' H' s'/\D.ct σ' H'
 | .ret u=>∃v σ' H',Inv X pins σ' H' s'/\RelV v u/\D.rt v H'
def PE (X:Cx) (e:Expr) (t:TE):Prop:=
 ∀(pins:List (Addr×Obj)) (s:Shared) (σ:St) (H:Hp) (Q:VK),Inv X pins σ H s->t σ H Q->wpAny (model X.prog X.w) X.A (eval e X.env) (EP X pins σ Q) X.xe s
def PT (X:Cx) (e:Expr) (t:TT):Prop:=
 ∀(pins:List (Addr×Obj)) (s:Shared) (σ:St) (H:Hp) (Q:Bool->Hp->Prop),Inv X pins σ H s->t σ H Q->wpAny (model X.prog X.w) X.A (isTrue e X.env (eval e X.env)) (TP X pins σ Q) X.xe s
def PW (X:Cx) (e:Expr) (t:TT):Prop:=
 ∀(whole:Sem Value) (pins:List (Addr×Obj)) (s:Shared) (σ:St) (H:Hp) (Q:Bool->Hp->Prop),Inv X pins σ H s->t σ H Q->wpAny (model X.prog X.w) X.A (isTrue e X.env whole) (TP X pins σ Q) X.xe s
theorem PW.pt {X:Cx} {e:Expr} {t:TT} (h:PW X e t):PT X e t:=h _
def PA (X:Cx) (es:List Expr) (t:TA):Prop:=
 ∀(pos:Pos) (pins:List (Addr×Obj)) (s:Shared) (σ:St) (H:Hp) (Q:List V->Hp->Prop),Inv X pins σ H s->t σ H Q->wpAny (model X.prog X.w) X.A (spliced (backTo pos (starEach es X.env))) (AP X pins σ Q) X.xe s
def PS (X:Cx) (st:Stmt) (t:TS):Prop:=
 ∀(pins:List (Addr×Obj)) (s:Shared) (σ:St) (H:Hp) (D:Ends),Inv X pins σ H s->t D σ H->wpAny (model X.prog X.w) X.A (exec st X.env) (SP X pins D) X.xe s
def PSs (X:Cx) (st:List Stmt) (t:TS):Prop:=
 ∀(pins:List (Addr×Obj)) (s:Shared) (σ:St) (H:Hp) (D:Ends),Inv X pins σ H s->t D σ H->wpAny (model X.prog X.w) X.A (execs st X.env) (SP X pins D) X.xe s
theorem thn {α:Type} {t:Sem α} {Q Q':α->Shared->Prop} {M:Model} {A:Around} {E:Value->Shared->Prop} {s:Shared} (h:wpAny M A t Q E s) (hQ:∀a s,Q a s->Q' a s):wpAny M A t Q' E s:=wpAny_mono h hQ fun _ _ x=>x
end L2
namespace L2
open PySem PySem.Spec PyProof.Rows
section
variable {X:Cx}
def tVar (i:Nat):TE:=fun σ H Q=>∃v,σ[i]?=some (some v)/\Q v H
def tC (v:V):TE:=fun _ H Q=>Q v H
theorem ZrP {i:Nat} {x:Str} {pos:Pos} (hN:X.N[i]?=some x) (hv:Vis X.env.scope x) (hd:(x==("__debug__" : Str))=false:=by decide) (hcd:(x==("__classdict__" : Str))=false:=by decide):PE X (.Name x pos) (tVar i):=by
 intro pins s σ H Q I h
 obtain ⟨v,e,h⟩:=h
 obtain ⟨m,hn,hl⟩:=I.loc
 obtain ⟨u,r,l⟩:=hl i x v hN e hv
 have fin:EP X pins σ Q u s:=⟨v,H,I,r,h⟩
 rcases l with ⟨hk,hm⟩ | ⟨hk,c,hc,hcell⟩
 ·exact wpAny_Name (wpAny_loadName_local I.ok.kind hk hn hm fin) hd
 ·rcases hk with hk | hk
  ·exact wpAny_Name (wpAny_loadName_cell I.ok.kind hk hc hcell fin) hd
  ·exact wpAny_Name (wpAny_loadName_free I.ok.kind hk hc hcell fin hcd) hd
theorem Zbn {i j pos}:PE X (.Constant (.int i) j pos) (tC (.int i)):=fun _ _ _ H _ I h=>wpAny_Constant_int ⟨.int i,H,I.tok _,⟨_,rfl⟩,h⟩
theorem Zs0 {b j pos}:PE X (.Constant (.bool b) j pos) (tC (.bl b)):=fun _ _ _ H _ I h=>Constant_bool ⟨.bl b,H,I,rfl,h⟩
theorem ZrR {x j pos}:PE X (.Constant (.str x) j pos) (tC (.str x)):=fun _ _ _ H _ I h=>Calls.Constant_str ⟨.str x,H,I.tok _,⟨_,rfl⟩,h⟩
def Gl (X:Cx) (x:Str):Prop:=X.env.kindOf x=some .globalImplicit
theorem Zl5 {E:Value->Shared->Prop} {pins:List (Addr×Obj)} {s:Shared} {σ:St} {H:Hp} {x:Str} {u:Value} {pos:Pos} {Q:Value->Shared->Prop} (I:Inv X pins σ H s) (hg:Gl X x) (hm:X.mg x=some u) (h:Q u s)
  (hd:(x==("__debug__" : Str))=false:=by decide):wpAny (model X.prog X.w) X.A (eval (.Name x pos) X.env) Q E s:=
 Calls.Name_function_global I.ok.kind hg (Calls.loadGlobal_global (by rw [I.ok.glob];exact I.mod.glob.keeps I.bk) hm h) hd
theorem ZeA {E:Value->Shared->Prop} {pins:List (Addr×Obj)} {s:Shared} {σ:St} {H:Hp} {x:Str} {u:Value} {pos:Pos} {Q:Value->Shared->Prop} (I:Inv X pins σ H s) (hg:Gl X x) (hm:X.mg x=none) (hv:bootBuiltins x=some u) (h:Q u s)
  (hn:x≠"__name__":=by decide) (hd:(x==("__debug__" : Str))=false:=by decide):wpAny (model X.prog X.w) X.A (eval (.Name x pos) X.env) Q E s:=by
 obtain ⟨mb,h1,h2⟩:=I.mod.blt
 exact Calls.Name_function_global I.ok.kind hg (Calls.loadGlobal_builtin (by rw [I.ok.glob];exact I.mod.glob.keeps I.bk) hm (by rw [I.ok.blt];exact h1.keeps I.bk) ((h2 x hn).trans hv) h) hd
theorem ZqH {x:Str} {v:V} {u:Value} {pos:Pos} (hg:Gl X x) (hm:X.mg x=none) (hv:bootBuiltins x=some u) (r:RelV v u) (hn:x≠"__name__":=by decide) (hd:(x==("__debug__" : Str))=false:=by decide):PE X (.Name x pos) (tC v):=
 fun _ _ _ H _ I h=>ZeA I hg hm hv ⟨v,H,I,r,h⟩ hn hd
variable {a b:Expr} {ta tb:TE} {pos:Pos}
def tB (t:TE):TT:=fun σ H Q=>t σ H fun x H1=>∃c,x=.bl c/\Q c H1
theorem ZrI {e:Expr} {t:TE} (h:PE X e t) (he:∀whole,isTrue e X.env whole=(do let v<-whole;standAt e.pos;holding [v] (truthy v)):=by intro _;rfl):PT X e (tB t):=by
 intro pins s σ H Q I hw
 refine isTrue_plain (thn (h pins s σ H _ I hw) fun v s1 ⟨x,H1,I1,r1,q1⟩=>?_) (he _)
 obtain ⟨d,rfl,q⟩:=q1
 cases r1
 exact wpAny_truthy_bool ⟨H1,I1,q⟩
variable {tA tB':TT} {rest:List Expr}
def tAnd (t u:TT):TT:=fun σ H Q=>t σ H fun c H1=>if c=true then u σ H1 Q else Q false H1
def tOr (t u:TT):TT:=fun σ H Q=>t σ H fun c H1=>if c=true then Q true H1 else u σ H1 Q
def tNot (t:TT):TT:=fun σ H Q=>t σ H fun c H1=>Q (!c) H1
theorem Zqr (ha:PT X a tA):PW X (.BoolOp .And [a] pos) tA:=by
 intro wh pins s σ H Q I h
 refine isTrue_and (thn (ha pins s σ H Q I h) fun c s1 e=>?_)
 cases c with
 | true=>exact isTrue_and_nil e
 | false=>exact e
theorem ZrG (ha:PT X a tA):PW X (.BoolOp .Or [a] pos) tA:=by
 intro wh pins s σ H Q I h
 refine isTrue_or (thn (ha pins s σ H Q I h) fun c s1 e=>?_)
 cases c with
 | false=>exact isTrue_or_nil e
 | true=>exact e
theorem ZrH (ha:PT X a tA) (hb:PW X (.BoolOp .And (b::rest) pos) tB'):PW X (.BoolOp .And (a::b::rest) pos) (tAnd tA tB'):=by
 intro wh pins s σ H Q I h
 refine isTrue_and (thn (ha pins s σ H _ I h) fun c s1 ⟨H1,I1,q1⟩=>?_)
 cases c with
 | true=>exact hb wh pins s1 σ H1 Q I1 q1
 | false=>exact ⟨H1,I1,q1⟩
theorem ZsX (ha:PT X a tA) (hb:PW X (.BoolOp .Or (b::rest) pos) tB'):PW X (.BoolOp .Or (a::b::rest) pos) (tOr tA tB'):=by
 intro wh pins s σ H Q I h
 refine isTrue_or (thn (ha pins s σ H _ I h) fun c s1 ⟨H1,I1,q1⟩=>?_)
 cases c with
 | true=>exact ⟨H1,I1,q1⟩
 | false=>exact hb wh pins s1 σ H1 Q I1 q1
theorem ZrJ (ha:PT X a tA):PT X (.UnaryOp .Not a pos) (tNot tA):=by
 intro pins s σ H Q I h
 exact isTrue_not (ha pins s σ H (fun c H1=>Q (!c) H1) I h)
def ZsR (ta tb:TE):TE:=fun σ H Q=>ta σ H fun x H1=>∃c,x=.bl c/\if c=true then tb σ H1 Q else Q (.bl false) H1
def tOrV (ta tb:TE):TE:=fun σ H Q=>ta σ H fun x H1=>∃c,x=.bl c/\if c=true then Q (.bl true) H1 else tb σ H1 Q
def ZsM (ta:TE):TE:=fun σ H Q=>ta σ H fun x H1=>∃c,x=.bl c/\Q (.bl (!c)) H1
theorem ZrS {op} {t:TE} (h:PE X a t):PE X (.BoolOp op [a] pos) t:=fun pins s σ H Q I hw=>BoolOp_one (h pins s σ H Q I hw)
theorem ZrW (ha:PE X a ta) (hb:PE X (.BoolOp .And (b::rest) pos) tb):PE X (.BoolOp .And (a::b::rest) pos) (ZsR ta tb):=by
 intro pins s σ H Q I h
 refine BoolOp_and (thn (ha pins s σ H _ I h) fun v s1 ⟨x,H1,I1,r1,q1⟩=>?_)
 obtain ⟨c,rfl,q1⟩:=q1
 cases r1
 refine wpAny_truthy_bool ?_
 cases c with
 | true=>exact hb pins s1 σ H1 Q I1 q1
 | false=>exact ⟨.bl false,H1,I1,rfl,q1⟩
theorem ZsZ (ha:PE X a ta) (hb:PE X (.BoolOp .Or (b::rest) pos) tb):PE X (.BoolOp .Or (a::b::rest) pos) (tOrV ta tb):=by
 intro pins s σ H Q I h
 refine BoolOp_or (thn (ha pins s σ H _ I h) fun v s1 ⟨x,H1,I1,r1,q1⟩=>?_)
 obtain ⟨c,rfl,q1⟩:=q1
 cases r1
 refine wpAny_truthy_bool ?_
 cases c with
 | false=>exact hb pins s1 σ H1 Q I1 q1
 | true=>exact ⟨.bl true,H1,I1,rfl,q1⟩
theorem ZrT (ha:PE X a ta):PE X (.UnaryOp .Not a pos) (ZsM ta):=by
 intro pins s σ H Q I h
 refine UnaryOp_ (thn (ha pins s σ H _ I h) fun v s1 ⟨x,H1,I1,r1,q1⟩=>?_)
 obtain ⟨c,rfl,q1⟩:=q1
 cases r1
 exact not_of (wpAny_truthy_bool ⟨.bl (!c),H1,I1,rfl,q1⟩)
def tIf (t:TT) (ta tb:TE):TE:=fun σ H Q=>t σ H fun c H1=>if c=true then ta σ H1 Q else tb σ H1 Q
theorem Zo4 {c:Expr} (hc:PT X c tA) (ha:PE X a ta) (hb:PE X b tb):PE X (.IfExp c a b pos) (tIf tA ta tb):=by
 intro pins s σ H Q I h
 refine wpAny_IfExp (thn (hc pins s σ H _ I h) fun d s1 ⟨H1,I1,q1⟩=>?_)
 cases d with
 | true=>exact ha pins s1 σ H1 Q I1 q1
 | false=>exact hb pins s1 σ H1 Q I1 q1
end
end L2
namespace L2
open PySem PySem.Spec PyProof.Rows
def SqL (K:PySem.W.Frag) (H:Hp) (a:Addr) (xs:List V):Prop:=
 Rd H a (.lst xs)∨
  ∃(o:Obj) (its:Array Value) (n:Nat),K.lookup a=some o/\o.cls=.type "list"/\o.dict=none/\o.data=.seq its n/\its.size<=sizeLine/\Vals xs its.toList
def SqT (K:PySem.W.Frag) (H:Hp) (a:Addr) (xs:List V):Prop:=
 Rd H a (.tup xs)∨
  ∃(o:Obj) (its:Array Value) (n:Nat),K.lookup a=some o/\o.cls=.type "tuple"/\o.data=.seq its n/\its.size<=sizeLine/\Vals xs its.toList
def absV:Value->Option V
 | .none=>some .non
 | .bool b=>some (.bl b)
 | .int i _=>some (.int i)
 | .str x _=>some (.str x)
 | .bytes b _=>some (.byt b)
 | .float b _=>some (.flt b)
 | .ref a=>some (.ref a)
 | .type n=>some (.ty n)
 | _=>none
theorem RelV.abs {x:V} {u:Value} (r:RelV x u):absV u=some x:=by
 cases x with
 | non=>cases r;rfl
 | bl _=>cases r;rfl
 | int _=>obtain ⟨t,rfl⟩:=r;rfl
 | str _=>obtain ⟨t,rfl⟩:=r;rfl
 | byt _=>obtain ⟨t,rfl⟩:=r;rfl
 | flt _=>obtain ⟨t,rfl⟩:=r;rfl
 | ref _=>cases r;rfl
 | ty _=>cases r;rfl
theorem RelV.inj {x y:V} {u:Value} (r:RelV x u) (q:RelV y u):x=y:=Option.some.inj (r.abs.symm.trans q.abs)
theorem Vals.inj:∀{xs ys:List V} {us:List Value},Vals xs us->Vals ys us->xs=ys
 | _,_,_,.nil,.nil=>rfl
 | _,_,_,.cons r t,.cons r' t'=>by rw [r.inj r',Vals.inj t t']
section
variable {X:Cx} {pins:List (Addr×Obj)} {σ:St} {H:Hp} {s:Shared} {a:Addr} {xs ys:List V}
theorem SqL.of {K:PySem.W.Frag} (h:H a=some (.lst xs)):SqL K H a xs:=.inl (.inl h)
theorem SqT.of {K:PySem.W.Frag} (h:H a=some (.tup xs)):SqT K H a xs:=.inl (.inl h)
theorem Inv.list (I:Inv X pins σ H s) (h:SqL X.K H a xs):∃its:List Value,Vals xs its/\PlainL s.heap a its.toArray/\xs.length<=sizeLine:=by
 rcases h with h | ⟨o,its,n,hk,hc,hd,hs,hz,r⟩
 ·obtain ⟨z,its,n,r,e⟩:=h.ok I.hok
  exact ⟨its,r,⟨_,n,e,rfl,rfl,rfl⟩,z⟩
 ·refine ⟨its.toList,r,⟨o,n,I.kIn a o hk,hc,hd,by simpa using hs⟩,?_⟩
  have e:=r.length
  simp only [Array.length_toList] at e
  omega
theorem Inv.tuple (I:Inv X pins σ H s) (h:SqT X.K H a xs):∃its:List Value,Vals xs its/\IsTup s.heap a its.toArray/\xs.length<=sizeLine:=by
 rcases h with h | ⟨o,its,n,hk,hc,hs,hz,r⟩
 ·obtain ⟨z,its,r,p⟩:=h.ok I.hok
  exact ⟨its,r,p.tup,z⟩
 ·refine ⟨its.toList,r,⟨o,I.kIn a o hk,hc,n,by simpa using hs⟩,?_⟩
  have e:=r.length
  simp only [Array.length_toList] at e
  omega
theorem Inv.list_inj (I:Inv X pins σ H s) (h:SqL X.K H a xs) (h':SqL X.K H a ys):xs=ys:=by
 obtain ⟨its,r,⟨o,n,e,_,_,d⟩,_⟩:=I.list h
 obtain ⟨its',r',⟨o',n',e',_,_,d'⟩,_⟩:=I.list h'
 rw [e] at e';cases e'
 rw [d] at d'
 injection d' with d1 _
 have:its=its':=by simpa using congrArg Array.toList d1
 subst this
 exact r.inj r'
theorem Inv.tuple_inj (I:Inv X pins σ H s) (h:SqT X.K H a xs) (h':SqT X.K H a ys):xs=ys:=by
 obtain ⟨its,r,⟨o,e,_,n,d⟩,_⟩:=I.tuple h
 obtain ⟨its',r',⟨o',e',_,n',d'⟩,_⟩:=I.tuple h'
 rw [e] at e';cases e'
 rw [d] at d'
 injection d' with d1 _
 have:its=its':=by simpa using congrArg Array.toList d1
 subst this
 exact r.inj r'
end
abbrev Cx.wish (X:Cx) (E:Value->Shared->Prop):Cx:={ X with xe:=E }
abbrev Cx.nox (X:Cx):Cx:=X.wish fun _ _=>False
theorem Cx.Ok.wish {X:Cx} (ok:X.Ok) (E:Value->Shared->Prop):(X.wish E).Ok:=
 ⟨ok.mod,ok.kind,ok.glob,ok.blt,ok.above,ok.inj,ok.has,ok.cab,ok.hd,ok.frames,ok.stk,ok.exf,ok.bs,ok.bsz,ok.noex,ok.exfs,ok.funs,ok.frf⟩
theorem Cx.Ok.unwish {X:Cx} {E:Value->Shared->Prop} (ok:(X.wish E).Ok):X.Ok:=
 ⟨ok.mod,ok.kind,ok.glob,ok.blt,ok.above,ok.inj,ok.has,ok.cab,ok.hd,ok.frames,ok.stk,ok.exf,ok.bs,ok.bsz,ok.noex,ok.exfs,ok.funs,ok.frf⟩
section
variable {X:Cx} {pins:List (Addr×Obj)} {σ:St} {H:Hp} {s:Shared} {E:Value->Shared->Prop}
theorem Inv.wish (I:Inv X pins σ H s) (E:Value->Shared->Prop):Inv (X.wish E) pins σ H s:=⟨I.ok.wish E,I.os,I.bare,I.base,I.loc,I.cell,I.free,I.freeC,I.pin,I.hok,I.len⟩
theorem Inv.unwish (I:Inv (X.wish E) pins σ H s):Inv X pins σ H s:=⟨I.ok.unwish,I.os,I.bare,I.base,I.loc,I.cell,I.free,I.freeC,I.pin,I.hok,I.len⟩
theorem SP.unwish {D:Ends} {f:Flow} {s':Shared} (h:SP (X.wish E) pins D f s'):SP X pins D f s':=by
 cases f with
 | next=>obtain ⟨σ',H',I,q⟩:=h;exact ⟨σ',H',I.unwish,q⟩
 | brk=>obtain ⟨σ',H',I,q⟩:=h;exact ⟨σ',H',I.unwish,q⟩
 | cont=>obtain ⟨σ',H',I,q⟩:=h;exact ⟨σ',H',I.unwish,q⟩
 | ret u=>obtain ⟨v,σ',H',I,r,q⟩:=h;exact ⟨v,σ',H',I.unwish,r,q⟩
theorem PE.nox {e:Expr} {t:TE} (h:PE X.nox e t):PE X e t:=fun pins s σ H Q I hw=>
 wpAny_mono (h pins s σ H Q (I.wish _) hw) (fun _ _ ⟨v,H',I',r,q⟩=>⟨v,H',I'.unwish,r,q⟩) fun _ _ z=>False.elim z
theorem PSs.nox {st:List Stmt} {t:TS} (h:PSs X.nox st t):PSs X st t:=fun pins s σ H D I hw=>
 wpAny_mono (h pins s σ H D (I.wish _) hw) (fun _ _ q=>q.unwish) fun _ _ z=>False.elim z
end
section
variable {X:Cx} {st:Stmt} {rest:List Stmt} {t u:TS} {e:Expr} {te:TE} {pos:Pos}
def ZsN:TS:=fun D σ H=>D.nx σ H
def tSeq (t u:TS):TS:=fun D σ H=>t { D with nx:=u D } σ H
theorem Zip:PSs X [] ZsN:=fun _ _ σ H _ I h=>wpAny_execs_nil ⟨σ,H,I,h⟩
theorem Zcr (h1:PS X st t) (h2:PSs X rest u):PSs X (st::rest) (tSeq t u):=by
 intro pins s σ H D I h
 refine wpAny_execs_cons (thn (h1 pins s σ H { D with nx:=u D } I h) fun f s1 q=>?_)
 cases f with
 | next=>
  obtain ⟨σ',H',I',q⟩:=q
  exact h2 pins s1 σ' H' D I' q
 | ret v=>exact q
 | brk=>exact q
 | cont=>exact q
theorem Ze8 (h1:PS X st t):PSs X [st] t:=by
 intro pins s σ H D I h
 refine wpAny_execs_cons (thn (h1 pins s σ H D I h) fun f s1 q=>?_)
 cases f with
 | next=>exact wpAny_execs_nil q
 | ret v=>exact q
 | brk=>exact q
 | cont=>exact q
theorem Inv.quiet {pins:List (Addr×Obj)} {σ:St} {H:Hp} {s:Shared} (I:Inv X pins σ H s):interactive X.env=false:=by simp [interactive,I.ok.kind]
def ZjH (te:TE):TS:=fun D σ H=>te σ H fun _ H1=>D.nx σ H1
theorem Zqu (he:PE X e te) (hs:swapsWith e none pos.line X.env=pure false:=by rfl):PS X (.Expr e pos) (ZjH te):=by
 intro pins s σ H D I h
 exact wpAny_Expr_any (thn (he pins s σ H _ I h) fun v s1 ⟨x,H1,I1,r1,q1⟩=>⟨σ,H1,I1,q1⟩) I.quiet hs
def tRet (te:TE):TS:=fun D σ H=>te σ H D.rt
theorem Zj9 (he:PE X e te):PS X (.Return (some e) pos) (tRet te):=by
 intro pins s σ H D I h
 exact wpAny_Return_some (thn (he pins s σ H _ I h) fun v s1 ⟨x,H1,I1,r1,q1⟩=>⟨x,σ,H1,I1,r1,q1⟩)
def tIfS (c:TT) (t u:TS):TS:=fun D σ H=>c σ H fun b H1=>if b=true then t D σ H1 else u D σ H1
theorem ZjJ {c:Expr} {a b:List Stmt} {tc:TT} (hc:PT X c tc) (ha:PSs X a t) (hb:PSs X b u):PS X (.If c a b pos) (tIfS tc t u):=by
 intro pins s σ H D I h
 refine wpAny_If (thn (hc pins s σ H _ I h) fun d s1 ⟨H1,I1,q1⟩=>?_)
 cases d with
 | true=>exact ha pins s1 σ H1 D I1 q1
 | false=>exact hb pins s1 σ H1 D I1 q1
end
abbrev TG:=V->St->Hp->(St->Hp->Prop)->Prop
abbrev TGs:=List V->St->Hp->(St->Hp->Prop)->Prop
def PG (X:Cx) (target:Expr) (t:TG):Prop:=
 ∀(pins:List (Addr×Obj)) (s:Shared) (σ:St) (H:Hp) (v:V) (u:Value) (Q:St->Hp->Prop),Inv X pins σ H s->RelV v u->t v σ H Q->
  wpAny (model X.prog X.w) X.A (assign target X.env u) (fun _ s'=>∃σ' H',Inv X pins σ' H' s'/\Q σ' H') X.xe s
def PGs (X:Cx) (ts:List Expr) (t:TGs):Prop:=
 ∀(pins:List (Addr×Obj)) (s:Shared) (σ:St) (H:Hp) (vs:List V) (us:List Value) (Q:St->Hp->Prop),Inv X pins σ H s->Vals vs us->t vs σ H Q->
  wpAny (model X.prog X.w) X.A (assignInOrder ((assignEach ts X.env).map (·.2)) us) (fun _ s'=>∃σ' H',Inv X pins σ' H' s'/\Q σ' H') X.xe s
abbrev TSet:=V->V->V->Hp->(Hp->Prop)->Prop
def PSet (X:Cx) (t:TSet):Prop:=
 ∀(pins:List (Addr×Obj)) (s:Shared) (σ:St) (H:Hp) (o i v:V) (ov iv u:Value) (Q:Hp->Prop),Inv X pins σ H s->RelV o ov->RelV i iv->RelV v u->t o i v H Q->
  wpAny (model X.prog X.w) X.A (setItem ov iv u) (fun _ s'=>∃H',Inv X pins σ H' s'/\Q H') X.xe s
section
variable {X:Cx} {pos:Pos}
def ZgA (i:Nat):TG:=fun v σ H Q=>Q (σ.set i (some v)) H
theorem Zgq {i:Nat} {x:Str} (hN:X.N.Nodup) (hi:X.N[i]?=some x) (hx:Loc X.env.scope x) (hf:X.fn x=true∨X.env.scope.names.lookup x=some .local:=by first | exact .inl rfl | exact .inr rfl | assumption):PG X (.Name x pos) (ZgA i):=by
 intro pins s σ H v u Q I r h
 exact wpAny_assign_Name (Zfm I hN hi hx r (fun s' I'=>⟨_,H,I',h⟩) hf)
def gNil:TGs:=fun vs σ H Q=>vs=[]/\Q σ H
def ZmZ (t:TG) (u:TGs):TGs:=fun vs σ H Q=>∃v r,vs=v::r/\t v σ H fun σ' H'=>u r σ' H' Q
theorem ZqB:PGs X [] gNil:=by
 intro pins s σ H vs us Q I r h
 obtain ⟨e,h⟩:=h
 subst e
 cases r
 exact assignInOrder_nil ⟨σ,H,I,h⟩
theorem Zkb {e:Expr} {es:List Expr} {t:TG} {u:TGs} (h1:PG X e t) (h2:PGs X es u)
  (hs:(assignEach (e::es) X.env).map (·.2)=assign e X.env::(assignEach es X.env).map (·.2):=by rfl):PGs X (e::es) (ZmZ t u):=by
 intro pins s σ H vs us Q I r h
 obtain ⟨v,vr,e1,h⟩:=h
 subst e1
 cases r with
 | cons r rr=>
  rw [hs]
  refine assignInOrder_cons (thn (h1 pins s σ H _ _ _ I r h) fun _ s1 ⟨σ1,H1,I1,q1⟩=>?_)
  exact h2 pins s1 σ1 H1 _ _ Q I1 rr q1
def gTup (K:PySem.W.Frag) (n:Nat) (t:TGs):TG:=fun v σ H Q=>∃a xs,v=.ref a/\SqT K H a xs/\xs.length=n/\t xs σ H Q
theorem ZrO {es:List Expr} {k:Nat} {t:TGs} {n:Nat} (hc:X.calm=true) (h:PGs X es t)
  (hn:(assignEach es X.env).length=n:=by rfl) (hst:(assignEach es X.env).findIdx? (·.1)=none:=by rfl):PG X (.Tuple es k pos) (gTup X.K n t):=by
 intro pins s σ H v u Q I r hw
 obtain ⟨a,xs,e1,hq,hl,hw⟩:=hw
 subst e1
 cases r
 obtain ⟨its,rv,ht,hz⟩:=I.tuple hq
 refine assign_Tuple_tuple (I.ok.hd hc) ht (by simp [hn,<-hl,rv.length]) hst fun h' hx=>?_
 have I1:Inv X pins σ H { s with heap:=h' }:=I.kept (t':=s.toks) fun b o e=>hx b o (Nat.ne_of_lt (Heap.lt_size e)) e
 exact h pins _ σ H xs _ Q I1 (by simpa using rv) hw
def gSub (to ti:TE) (t:TSet):TG:=fun v σ H Q=>to σ H fun o H1=>ti σ H1 fun i H2=>t o i v H2 fun H3=>Q σ H3
theorem Zkc {o i:Expr} {to ti:TE} {t:TSet} (ho:PE X o to) (hi:PE X i ti) (hs:PSet X t)
  (ha:∀v,assign (.Subscript o i pos) X.env v=(do
   let ov<-holding [v] (eval o X.env)
   let iv<-holding [v,ov] (eval i X.env)
   standAt pos
   holding [v,ov,iv] (setItem ov iv v)
   release [v,ov,iv] []):=by intro _;rfl):PG X (.Subscript o i pos) (gSub to ti t):=by
 intro pins s σ H v u Q I r h
 rw [ha]
 refine wpAny_bind (wpAny_holding (thn (ho pins s σ H _ I h) fun ov s1 ⟨x,H1,I1,r1,q1⟩=>?_))
 refine wpAny_bind (wpAny_holding (thn (hi pins s1 σ H1 _ I1 q1) fun iv s2 ⟨y,H2,I2,r2,q2⟩=>?_))
 refine wpAny_bind (wpAny_standAt (wpAny_bind (wpAny_holding (thn (hs pins s2 σ H2 x y v ov iv u _ I2 r1 r2 r q2) fun _ s3 ⟨H3,I3,q3⟩=>?_))))
 exact wpAny_release ⟨σ,H3,I3,q3⟩
def tAsg (te:TE) (g:TG):TS:=fun D σ H=>te σ H fun x H1=>g x σ H1 D.nx
theorem ZhH {tg e:Expr} {te:TE} {g:TG} (he:PE X e te) (hg:PG X tg g) (hs:swapsWithSole [tg] e pos.line X.env=pure false:=by rfl) (hw:swappedStores [tg] e X.env=pure none:=by rfl)
  (h1:(assignEach [tg] X.env).map (·.2)=[assign tg X.env]:=by rfl):PS X (.Assign [tg] e pos) (tAsg te g):=by
 intro pins s σ H D I h
 refine wpAny_Assign_stores (thn (he pins s σ H _ I h) fun v s1 ⟨x,H1,I1,r1,q1⟩=>?_) hs hw
 rw [h1]
 exact thn (hg pins s1 σ H1 x v _ I1 r1 q1) fun _ s2 q=>q
theorem Zev {i:Nat} {x:Str} {e:Expr} {te:TE} {pos':Pos} (hN:X.N.Nodup) (hi:X.N[i]?=some x) (hx:Loc X.env.scope x) (he:PE X e te) (hs:swapsWith e (some (.Name x pos')) pos.line X.env=pure false:=by rfl) (hf:X.fn x=true∨X.env.scope.names.lookup x=some .local:=by first | exact .inl rfl | exact .inr rfl | assumption) :
  PS X (.Assign [.Name x pos'] e pos) (tAsg te (ZgA i)):=by
 intro pins s σ H D I h
 refine wpAny_Assign_Name (thn (he pins s σ H _ I h) fun v s1 ⟨y,H1,I1,r1,q1⟩=>?_) hs
 exact Zfm I1 hN hi hx r1 (fun s2 I2=>⟨_,H1,I2,q1⟩) hf
def tPar (i j:Nat) (ta:TA):TS:=fun D σ H=>ta σ H fun vs H1=>∃v w,vs=[v,w]/\D.nx ((σ.set i (some v)).set j (some w)) H1
theorem ZrK {i j:Nat} {x y:Str} {a b:Expr} {ta:TA} {px py pt:Pos} {kt k2 pt2} (hc:X.calm=true) (hN:X.N.Nodup) (hi:X.N[i]?=some x) (hj:X.N[j]?=some y) (hij:i≠j)
  (hx:X.env.scope.names.lookup x=some .local) (hy:X.env.scope.names.lookup y=some .local) (ha:PA X [a,b] ta)
  (hw:swappedStores [.Tuple [.Name x px,.Name y py] kt pt] (.Tuple [a,b] k2 pt2) X.env=pure (some [x,y]))
  (hs:swapsWithSole [.Tuple [.Name x px,.Name y py] kt pt] (.Tuple [a,b] k2 pt2) pos.line X.env=pure false:=by rfl) :
  PS X (.Assign [.Tuple [.Name x px,.Name y py] kt pt] (.Tuple [a,b] k2 pt2) pos) (tPar i j ta):=by
 intro pins s σ H D I h
 rw [exec_Assign_arm]
 refine wpAny_bind (wpAny_standAt ?_)
 rw [hs]
 refine wpAny_bind (wpAny_pure ?_)
 rw [if_neg (by decide)]
 refine wpAny_bind (Tuple_ (thn (ha _ pins s σ H _ I h) fun us s1 ⟨vs,H1,I1,r1,q1⟩=>?_))
 obtain ⟨v,w,e1,q1⟩:=q1
 subst e1
 obtain ⟨u1,u2,rfl,rv,rw'⟩:∃u1 u2,us=[u1,u2]/\RelV v u1/\RelV w u2:=by
  cases r1 with
  | cons p q=>
   cases q with
   | cons p' q'=>
    cases q'
    exact ⟨_,_,rfl,p,p'⟩
 refine wpAny_newObj_type ?_ (by show 2<=sizeLine;decide)
 have I2:Inv X pins σ H1 { s1 with heap:=s1.heap.push { cls:=.type "tuple",data:=.seq [u1,u2].toArray } }:=I1.kept (t':=s1.toks) fun b o e=>Heap.get?_push_of_some _ e
 rw [hw]
 refine wpAny_bind (wpAny_pure ?_)
 show wpAny (model X.prog X.w) X.A (do rule "assign.swapped-stores";let items<-unpackItems (.ref s1.heap.objs.size) 2 none;assignInOrder [fun v=>bindName X.env y v,fun v=>bindName X.env x v] items.reverse;pure Flow.next) _ _ _
 refine wpAny_bind (wpAny_rule (wpAny_bind (unpackItems_tuple (items:=#[u1,u2]) (I.ok.hd hc) (IsTup.new s1.heap _) fun h' hx'=>?_)))
 have I3:=I2.kept (h':=h') (t':=s1.toks) fun b o e=>hx' b o (Nat.ne_of_lt (Heap.lt_size e)) e
 show wpAny _ _ (assignInOrder [fun v=>bindName X.env y v,fun v=>bindName X.env x v] [u2,u1] >>= fun _=>pure Flow.next) _ _ _
 refine wpAny_bind (assignInOrder_cons (wpAny_bindName (Zfm I3 hN hj (.inl hy) rw' (fun s2 I4=>?_) (.inr hy))))
 refine assignInOrder_cons (wpAny_bindName (Zfm I4 hN hi (.inl hx) rv (fun s3 I5=>assignInOrder_nil (wpAny_pure ?_)) (.inr hx)))
 rw [List.set_comm _ _ (Ne.symm hij)] at I5
 exact ⟨_,H1,I5,q1⟩
end
section
variable {X:Cx} {pos:Pos}
end
structure It where
 go:Nat->Hp->Prop
 yld:Nat->Hp->V->Hp->Prop
 stop:Nat->Hp->Prop
def FpOk (X:Cx) (pins:List (Addr×Obj)) (H:Hp) (b:Addr):Prop:=
 H b=none/\b≠X.env.locals/\b∉X.fs/\(b∈X.ex∨X.s₀.heap.objs.size<=b)/\(∀x c,X.env.cells.lookup x=some c->c≠b)/\∀p∈X.pn++pins,p.1≠b
theorem Inv.fpOk {X:Cx} {pins:List (Addr×Obj)} {σ:St} {H H':Hp} {s:Shared} {b:Addr} (I:Inv X pins σ H s) (hb:s.heap.objs.size<=b) (hn:H' b=none):FpOk X pins H' b:=by
 refine ⟨hn,Nat.ne_of_gt (Nat.lt_of_lt_of_le I.lt hb),I.nofs hb,.inr (Nat.le_trans I.sz hb),fun x c e z=>?_,fun p hp z=>?_⟩
 ·obtain ⟨v,q⟩:=I.cell x c e
  exact absurd (Nat.lt_of_lt_of_le q.lt (by rw [z];exact hb)) (Nat.lt_irrefl _)
 ·exact absurd (Nat.lt_of_lt_of_le (Heap.lt_size (I.pin p hp).1) (by rw [z];exact hb)) (Nat.lt_irrefl _)
structure Turn (P:Program) (w:World) (K:PySem.W.Frag) (tg:Expr) (J:It) (fp:List Addr) (it:Addr) (tn:Nat->Heap->Prop):Prop where
 mem:it∈fp
 obj:∀i h,tn i h->∀b∈fp,∃o,h.get? b=some o/\∀v,o.data≠.cell v
 keep:∀i h h',tn i h->(∀b∈fp,∀o,h.get? b=some o->h'.get? b=some o)->tn i h'
 item:∀(X:Cx),X.prog=P->X.w=w->X.K=K->X.calm=true->∀(i:Nat) (pins:List (Addr×Obj)) (s:Shared) (σ:St) (H:Hp) (E:Value->Shared->Prop),Inv X pins σ H s->(∀b∈fp,FpOk X pins H b)->tn i s.heap->J.go i H->
  wpAny (model P w) X.A (pyNext (.ref it)) (fun r s1=>∃u,r=some u/\
   wpAny (model P w) X.A (letOwnedTupleGo tg (.ref it) u) (fun _ s2=>∃x H',Inv X pins σ H' s2/\RelV x u/\J.yld i H x H'/\tn (i+1) s2.heap/\∀b∈fp,H' b=none) E s1) E s
 done:∀(X:Cx),X.prog=P->X.w=w->X.K=K->X.calm=true->∀(i:Nat) (pins:List (Addr×Obj)) (s:Shared) (σ:St) (H:Hp) (E:Value->Shared->Prop),Inv X pins σ H s->(∀b∈fp,FpOk X pins H b)->tn i s.heap->J.stop i H->
  wpAny (model P w) X.A (pyNext (.ref it)) (fun r s1=>r=none/\Inv X pins σ H s1) E s
 self:∀(A:Around) (i:Nat) (s:Shared) (Q:Value->Shared->Prop) (E:Value->Shared->Prop),tn i s.heap->Q (.ref it) s->wpAny (model P w) A (pyIter (.ref it)) Q E s
abbrev TI:=St->Hp->(It->Hp->Prop)->Prop
def PIE (X:Cx) (pins:List (Addr×Obj)) (σ:St) (tg:Expr) (R:It->Hp->Prop) (itv:Value) (s2:Shared):Prop:=
 ∃(it:Addr) (fp:List Addr) (tn:Nat->Heap->Prop) (J:It) (H':Hp),itv=.ref it/\Inv X pins σ H' s2/\Turn X.prog X.w X.K tg J fp it tn/\tn 0 s2.heap/\(∀b∈fp,FpOk X pins H' b)/\R J H'
def PI (X:Cx) (tg iter:Expr) (wi:TI):Prop:=
 ∀(pins:List (Addr×Obj)) (s:Shared) (σ:St) (H:Hp) (R:It->Hp->Prop),Inv X pins σ H s->wi σ H R->
  wpAny (model X.prog X.w) X.A (eval iter X.env) (fun v s1=>wpAny (model X.prog X.w) X.A (pyIter v) (PIE X pins σ tg R) X.xe s1) X.xe s
theorem ZmR {M : Model} {A : Around} {E : Value -> Shared -> Prop} {s : Shared} {tg : Expr} {it : Addr} {u : Value} {o : Obj} {n : String} {vs : Array Value} {Q : Unit -> Shared -> Prop} (ho : s.heap.get? it = some o) (hc : o.cls = .type n) (hd : o.data = .fields vs)
    (hn : ["enumerate", "zip", "dict_itemiterator", "dict_reverseitemiterator", "odict_iterator", "itertools.zip_longest", "itertools.pairwise"].contains n = false) (hQ : Q () s) : wpAny M A (letOwnedTupleGo tg (.ref it) u) Q E s := by
  unfold letOwnedTupleGo
  cases tg <;> first
    | exact wpAny_pure hQ
    | (cases u <;> first
        | exact wpAny_pure hQ
        | (refine wpAny_bind (wpAny_load ho ?_)
           rw [hc, hd]
           show wpAny M A (if (["enumerate", "zip", "dict_itemiterator", "dict_reverseitemiterator", "odict_iterator", "itertools.zip_longest", "itertools.pairwise"].contains n && vs[0]? == some (rawInt _)) = true then _ else _) Q E s
           rw [if_neg (by intro h; rw [hn, Bool.false_and] at h; cases h)]
           exact wpAny_pure hQ))
def Itl (K:PySem.W.Frag) (a:Addr):It:=
 ⟨fun i H=>∃xs x,SqL K H a xs/\xs[i]?=some x,fun i H x H'=>H'=H/\∀xs,SqL K H a xs->xs[i]?=some x,fun i H=>∃xs,SqL K H a xs/\xs.length<=i⟩
def Itt (K:PySem.W.Frag) (a:Addr):It:=
 ⟨fun i H=>∃xs x,SqT K H a xs/\xs[i]?=some x,fun i H x H'=>H'=H/\∀xs,SqT K H a xs->xs[i]?=some x,fun i H=>∃xs,SqT K H a xs/\xs.length<=i⟩
def Itr (lo:Int) (n:Nat):It:=⟨fun i _=>i<n,fun i H x H'=>H'=H/\x=.int (lo+i),fun i _=>n<=i⟩
theorem Znn {P:Program} {w:World} {K:PySem.W.Frag} {tg:Expr} (a it:Addr):Turn P w K tg (Itl K a) [it] it (fun i h=>h.IsListIter it a i) where
 mem:=by simp
 obj:=fun i h st b hb=>by
  have e:b=it:=by simpa using hb
  subst e
  obtain ⟨o,e,c,d⟩:=st
  exact ⟨o,e,fun v z=>by rw [d] at z;cases z⟩
 keep:=fun i h h' st k=>st.at fun o e=>k it (by simp) o e
 item:=by
  intro X hP hw hK hc i pins s σ H E I hf st hg
  subst hP hw hK
  obtain ⟨xs,x,hq,hx⟩:=hg
  obtain ⟨its,rv,p,hz⟩:=I.list hq
  obtain ⟨u,hu,ru⟩:=rv.get hx
  obtain ⟨f0,f1,f2,f3,f4,f5⟩:=hf it (by simp)
  refine wpAny_pyNext_list_item st p.isList (x:=u) (by simpa using hu) fun h' st' sb=>?_
  have I1:Inv X pins σ H { s with heap:=h' }:=I.turned (t':=s.toks) (fun b o hb e=>(sb.2 b hb).trans e) f0 f1 f3 f4 f5
  obtain ⟨o,e,c,d⟩:=id st'
  exact ⟨u,rfl,ZmR (s:={ s with heap:=h' }) e c d (by decide) ⟨x,H,I1,ru,⟨rfl,fun ys hy=>by rw [I.list_inj hy hq];exact hx⟩,st',fun b hb=>(hf b hb).1⟩⟩
 done:=by
  intro X hP hw hK hc i pins s σ H E I hf st hg
  subst hP hw hK
  obtain ⟨xs,hq,hx⟩:=hg
  obtain ⟨its,rv,p,hz⟩:=I.list hq
  obtain ⟨f0,f1,f2,f3,f4,f5⟩:=hf it (by simp)
  have hl:=rv.length
  exact wpAny_pyNext_list_end (I.ok.hd hc) st p.isList (by simp;omega) fun h' eb=>⟨rfl,I.turned (t':=s.toks) (fun b o hb e=>eb b o hb e) f0 f1 f3 f4 f5⟩
 self:=fun _ _ _ _ _ st h=>wpAny_pyIter_listiter st h
theorem Zmo {P:Program} {w:World} {K:PySem.W.Frag} {tg:Expr} (a it:Addr):Turn P w K tg (Itt K a) [it] it (fun i h=>h.IsTupleIter it a i) where
 mem:=by simp
 obj:=fun i h st b hb=>by
  have e:b=it:=by simpa using hb
  subst e
  obtain ⟨o,e,c,d⟩:=st
  exact ⟨o,e,fun v z=>by rw [d] at z;cases z⟩
 keep:=fun i h h' st k=>st.at fun o e=>k it (by simp) o e
 item:=by
  intro X hP hw hK hc i pins s σ H E I hf st hg
  subst hP hw hK
  obtain ⟨xs,x,hq,hx⟩:=hg
  obtain ⟨its,rv,p,hz⟩:=I.tuple hq
  obtain ⟨u,hu,ru⟩:=rv.get hx
  obtain ⟨f0,f1,f2,f3,f4,f5⟩:=hf it (by simp)
  refine wpAny_pyNext_tuple_item st (show s.heap.IsTuple a its.toArray from p) (x:=u) (by simpa using hu) fun h' st' sb=>?_
  have I1:Inv X pins σ H { s with heap:=h' }:=I.turned (t':=s.toks) (fun b o hb e=>(sb.2 b hb).trans e) f0 f1 f3 f4 f5
  obtain ⟨o,e,c,d⟩:=id st'
  exact ⟨u,rfl,ZmR (s:={ s with heap:=h' }) e c d (by decide) ⟨x,H,I1,ru,⟨rfl,fun ys hy=>by rw [I.tuple_inj hy hq];exact hx⟩,st',fun b hb=>(hf b hb).1⟩⟩
 done:=by
  intro X hP hw hK hc i pins s σ H E I hf st hg
  subst hP hw hK
  obtain ⟨xs,hq,hx⟩:=hg
  obtain ⟨its,rv,p,hz⟩:=I.tuple hq
  obtain ⟨f0,f1,f2,f3,f4,f5⟩:=hf it (by simp)
  have hl:=rv.length
  exact wpAny_pyNext_tuple_end (I.ok.hd hc) st (show s.heap.IsTuple a its.toArray from p) (by simp;omega) fun h' eb=>⟨rfl,I.turned (t':=s.toks) (fun b o hb e=>eb b o hb e) f0 f1 f3 f4 f5⟩
 self:=fun _ _ _ _ _ st h=>wpAny_pyIter_tupleiter st h
theorem Zmp {P:Program} {w:World} {K:PySem.W.Frag} {tg:Expr} (it:Addr) (lo:Int) (n:Nat):Turn P w K tg (Itr lo n) [it] it (fun i h=>IsRangeIter h it (lo+(i:Nat)*1) ((n:Int)-(i:Nat)) 1) where
 mem:=by simp
 obj:=fun i h st b hb=>by
  have e:b=it:=by simpa using hb
  subst e
  exact ⟨_,st,fun v z=>by
   have z':Data.fields _=Data.cell v:=z
   cases z'⟩
 keep:=fun i h h' st k=>k it (by simp) _ st
 item:=by
  intro X hP hw hK hc i pins s σ H E I hf st hg
  subst hP hw hK
  obtain ⟨f0,f1,f2,f3,f4,f5⟩:=hf it (by simp)
  have W:=Walks.range (prog:=X.prog) (w:=X.w) (I.ok.hd hc) it lo 1 n
  refine W.item i s _ _ hg st fun v h' tk hv st' kk=>?_
  obtain ⟨t,rfl⟩:=hv
  have I1:Inv X pins σ H { s with heap:=h',toks:=tk }:=I.turned (fun b o hb e=>kk b o (by simpa using hb) e) f0 f1 f3 f4 f5
  refine ⟨_,rfl,ZmR (s:={ s with heap:=h',toks:=tk }) (n:="range_iterator") st' rfl rfl (by decide) ⟨.int (lo+i),H,I1,⟨t,?_⟩,⟨rfl,rfl⟩,st',fun b hb=>(hf b hb).1⟩⟩
  rw [Int.mul_one]
 done:=by
  intro X hP hw hK hc i pins s σ H E I hf st hg
  subst hP hw hK
  obtain ⟨f0,f1,f2,f3,f4,f5⟩:=hf it (by simp)
  exact wpAny_pyNext_range_end (I.ok.hd hc) st (by have:n<=i:=hg;omega) fun h' eb=>⟨rfl,I.turned (t':=s.toks) (fun b o hb e=>eb b o hb e) f0 f1 f3 f4 f5⟩
 self:=fun _ _ _ _ _ st h=>wpAny_pyIter_rangeiter st h
end L2
namespace L2
open PySem PySem.Spec PyProof.Rows
section
variable {X:Cx} {tg:Expr}
def Zs7 (K:PySem.W.Frag) (tl:TE):TI:=fun σ H R=>tl σ H fun x H1=>∃a,x=.ref a/\(∃xs,SqL K H1 a xs)/\R (Itl K a) H1
def iTup (K:PySem.W.Frag) (tl:TE):TI:=fun σ H R=>tl σ H fun x H1=>∃a,x=.ref a/\(∃xs,SqT K H1 a xs)/\R (Itt K a) H1
theorem ZqA {l:Expr} {tl:TE} (hl:PE X l tl):PI X tg l (Zs7 X.K tl):=by
 intro pins s σ H R I h
 refine thn (hl pins s σ H _ I h) fun v s1 ⟨x,H1,I1,r1,q1⟩=>?_
 obtain ⟨a,e,⟨xs,hq⟩,q⟩:=q1
 subst e
 cases r1
 obtain ⟨its,rv,p,hz⟩:=I1.list hq
 refine wpAny_pyIter_list p.isList ?_
 refine ⟨s1.heap.objs.size,[s1.heap.objs.size],_,_,H1,rfl,I1.kept (t':=s1.toks) fun b o e=>Heap.get?_push_of_some _ e,Znn a _,⟨_,Heap.get?_push_size _ rfl,rfl,rfl⟩,fun b hb=>?_,q⟩
 have e:b=s1.heap.objs.size:=by simpa using hb
 subst e
 exact I1.fpOk (Nat.le_refl _) (I1.hok.fresh (Nat.le_refl _))
theorem ZrN {l:Expr} {tl:TE} (hl:PE X l tl):PI X tg l (iTup X.K tl):=by
 intro pins s σ H R I h
 refine thn (hl pins s σ H _ I h) fun v s1 ⟨x,H1,I1,r1,q1⟩=>?_
 obtain ⟨a,e,⟨xs,hq⟩,q⟩:=q1
 subst e
 cases r1
 obtain ⟨its,rv,p,hz⟩:=I1.tuple hq
 refine wpAny_pyIter_tuple (show s1.heap.IsTuple a its.toArray from p) ?_
 refine ⟨s1.heap.objs.size,[s1.heap.objs.size],_,_,H1,rfl,I1.kept (t':=s1.toks) fun b o e=>Heap.get?_push_of_some _ e,Zmo a _,⟨_,Heap.get?_push_size _ rfl,rfl,rfl⟩,fun b hb=>?_,q⟩
 have e:b=s1.heap.objs.size:=by simpa using hb
 subst e
 exact I1.fpOk (Nat.le_refl _) (I1.hok.fresh (Nat.le_refl _))
theorem Zj7 {pins:List (Addr×Obj)} {σ:St} {H:Hp} {s:Shared} {R:It->Hp->Prop} {E:Value->Shared->Prop} {lo hi:Int} {t u v:Tok} {tk:Nat} (I:Inv X pins σ H s) (h1:-(2 ^ 62)<=lo) (h2:lo<2 ^ 62) (h3:-(2 ^ 62)<=hi) (h4:hi<2 ^ 62)
  (q:R (Itr lo (hi-lo).toNat) H):wpAny (model X.prog X.w) X.A (pyIter (.ref s.heap.objs.size)) (PIE X pins σ tg R) E { s with heap:=s.heap.push { cls:=.type "range",data:=.fields #[.int lo t,.int hi u,.int 1 v] },toks:=tk }:=by
 refine wpAny_pyIter_range (IsRange.new ..) (small_one h1 h2 h3 h4) ?_
 have I1:Inv X pins σ H { s with heap:=s.heap.push { cls:=.type "range",data:=.fields #[.int lo t,.int hi u,.int 1 v] },toks:=tk }:=I.kept fun b o e=>Heap.get?_push_of_some _ e
 refine ⟨(s.heap.push { cls:=.type "range",data:=.fields #[.int lo t,.int hi u,.int 1 v] }).objs.size,[(s.heap.push { cls:=.type "range",data:=.fields #[.int lo t,.int hi u,.int 1 v] }).objs.size],_,_,H,rfl,
  I1.kept (t':=tk) fun b o e=>Heap.get?_push_of_some _ e,Zmp _ lo (hi-lo).toNat,?_,fun b hb=>?_,q⟩
 ·have e1:lo+((0:Nat):Int)*1=lo:=by simp
  have e2:(((hi-lo).toNat:Nat):Int)-((0:Nat):Int)=Builtin.Range.rangeSize lo hi 1:=by rw [rangeSize_one];split <;> omega
  show IsRangeIter _ _ (lo+((0:Nat):Int)*1) ((((hi-lo).toNat:Nat):Int)-((0:Nat):Int)) 1
  rw [e1,e2]
  exact Heap.get?_push_size _ rfl
 ·have e:b=(s.heap.push { cls:=.type "range",data:=.fields #[.int lo t,.int hi u,.int 1 v] }).objs.size:=by simpa using hb
  subst e
  exact I1.fpOk (Nat.le_refl _) (I1.hok.fresh (Nat.le_refl _))
def Zs6 (ta:TA):TI:=fun σ H R=>ta σ H fun vs H1=>∃j:Int,vs=[.int j]/\-(2 ^ 62)<=j/\j<2 ^ 62/\R (Itr 0 j.toNat) H1
def Zs5 (ta:TA):TI:=fun σ H R=>ta σ H fun vs H1=>∃i j:Int,vs=[.int i,.int j]/\(-(2 ^ 62)<=i/\i<2 ^ 62/\-(2 ^ 62)<=j/\j<2 ^ 62)/\R (Itr i (j-i).toNat) H1
theorem ZiX {a:Expr} {ta:TA} {p pos:Pos} (hg:Gl X "range") (hm:X.mg "range" = none) (ha:PA X [a] ta) (hs:starEach [a] X.env=[(false,eval a X.env)]:=by rfl):PI X tg (.Call (.Name "range" p) [a] [] pos) (Zs6 ta):=by
 intro pins s σ H R I h
 refine Call_ (ZeA I hg hm boot_range (PyProof.Rows.callWith_type1 (thn (ha pos pins s σ H _ I h) fun us s1 ⟨vs,H1,I1,r1,q1⟩=>?_) hs rfl))
 obtain ⟨j,e,q1,q2,q⟩:=q1
 subst e
 cases r1 with
 | cons r rr=>
  cases rr
  obtain ⟨t,rfl⟩:=r
  exact call_range_1 (Zj7 I1 (by omega) (by omega) q1 q2 (by simpa using q))
theorem ZnG {a b:Expr} {ta:TA} {p pos:Pos} (hg:Gl X "range") (hm:X.mg "range" = none) (ha:PA X [a,b] ta) (hs:starEach [a,b] X.env=[(false,eval a X.env),(false,eval b X.env)]:=by rfl) (hs2:starEach [b] X.env=[(false,eval b X.env)]:=by rfl) :
  PI X tg (.Call (.Name "range" p) [a,b] [] pos) (Zs5 ta):=by
 intro pins s σ H R I h
 refine Call_ (ZeA I hg hm boot_range (PyProof.Rows.callWith_type1 (thn (ha pos pins s σ H _ I h) fun us s1 ⟨vs,H1,I1,r1,q1⟩=>?_) (by rw [hs,hs2]) (by rw [hs2];rfl)))
 obtain ⟨i,j,e,⟨q1,q2,q3,q4⟩,q⟩:=q1
 subst e
 cases r1 with
 | cons r rr=>
  cases rr with
  | cons r' rr=>
   cases rr
   obtain ⟨t,rfl⟩:=r
   obtain ⟨t',rfl⟩:=r'
   exact call_range_2 (Zj7 I1 q1 q2 q3 q4 q)
def tFor (wi:TI) (g:TG) (tb:TS):TS:=fun D σ H=>wi σ H fun J H1=>∃W:Nat->Nat->St->Hp->Prop,(∃m,W 0 m σ H1)/\∀i m σ H,W i m σ H->
 (J.stop i H/\D.nx σ H)∨(J.go i H/\∃N:St->Hp->Prop,(∀σ' H',N σ' H'->∃m',m'<m/\W (i+1) m' σ' H')/\∀x H',J.yld i H x H'->g x σ H' fun σ2 H2=>tb { D with nx:=N,ct:=N,bk:=D.nx } σ2 H2)
def ZfY (fp:List Addr) (h:Heap):List (Addr×Obj):=fp.filterMap fun b=>(h.get? b).map fun o=>(b,o)
theorem ZcX {fp:List Addr} {h:Heap} {b:Addr} {o:Obj} (hb:b∈fp) (e:h.get? b=some o):(b,o)∈ZfY fp h:=List.mem_filterMap.mpr ⟨b,hb,by rw [e];rfl⟩
theorem ZnR {fp:List Addr} {h:Heap} {p:Addr×Obj} (hp:p∈ZfY fp h):p.1∈fp/\h.get? p.1=some p.2:=by
 obtain ⟨b,hb,e⟩:=List.mem_filterMap.mp hp
 cases q:h.get? b with
 | none=>rw [q] at e;cases e
 | some o=>
  rw [q] at e
  have e':(b,o)=p:=Option.some.inj e
  subst e'
  exact ⟨hb,q⟩
theorem Inv.pinned {pins:List (Addr×Obj)} {σ:St} {H:Hp} {s:Shared} {fp:List Addr} (I:Inv X pins σ H s) (hf:∀b∈fp,FpOk X pins H b) (ho:∀b∈fp,∃o,s.heap.get? b=some o/\∀v,o.data≠.cell v):Inv X (pins++ZfY fp s.heap) σ H s:=
 I.pins_of fun p hp=>(List.mem_append.mp hp).elim (fun z=>I.pin p (List.mem_append_right _ z)) fun z=>by
  obtain ⟨hb,e⟩:=ZnR z
  obtain ⟨f0,f1,f2,_⟩:=hf p.1 hb
  obtain ⟨o,e',d⟩:=ho p.1 hb
  rw [e] at e';cases e'
  exact ⟨e,f0,f1,f2,d⟩
theorem Inv.unpinned {pins pl:List (Addr×Obj)} {σ:St} {H:Hp} {s:Shared} (I:Inv X (pins++pl) σ H s):Inv X pins σ H s:=I.pins_of fun p hp=>I.pin p (List.mem_append_right _ (List.mem_append_left _ hp))
theorem ZrL {iter:Expr} {body:List Stmt} {wi:TI} {g:TG} {tb:TS} {pos:Pos} (hp:PassesOwn (model X.prog X.w) X.A X.env X.xe) (hc:X.calm=true) (hi:PI X tg iter wi) (hg:PG X tg g) (hb:PSs X body tb)
  (hs:∀x,foldedSetIterable iter X.env x=pure x:=by intro _;rfl):PS X (.For tg iter body [] pos) (tFor wi g tb):=by
 intro pins s σ H D I h
 refine wpAny_For (thn (hi pins s σ H _ I h) fun v s1 h1=>thn h1 fun itv s2 h2=>?_) hs
 obtain ⟨it,fp,tn,J,H2,e,I2,T,st2,f2,W,⟨m0,w0⟩,turn⟩:=h2
 subst e
 -- what stays true of the iterator's objects through the loop
 have stat:∀{H':Hp},(∀b∈fp,H' b=none)->∀b∈fp,FpOk X pins H' b:=fun hn b hb=>⟨hn b hb,(f2 b hb).2⟩
 refine codeAny_forLoop_any (fun n s'=>∃i σ' H',Inv X pins σ' H' s'/\tn i s'.heap/\(∀b∈fp,H' b=none)/\W i n σ' H') ?_ m0 ⟨0,σ,H2,I2,st2,fun b hb=>(f2 b hb).1,w0⟩
 rintro n s3 ⟨i,σ3,H3,I3,st3,fr3,w3⟩
 rcases turn i n σ3 H3 w3 with ⟨stop,qn⟩ | ⟨go,N,hN,step⟩
 ·refine wpAny_passesOwn hp (thn (T.done X rfl rfl rfl hc i pins s3 σ3 H3 X.xe I3 (stat fr3) st3 stop) fun r s4 ⟨hr,I4⟩=>?_)
  subst hr
  exact wpAny_execs_nil ⟨σ3,H3,I4,qn⟩
 ·refine wpAny_passesOwn hp (thn (T.item X rfl rfl rfl hc i pins s3 σ3 H3 X.xe I3 (stat fr3) st3 go) fun r s4 ⟨u,hr,h4⟩=>?_)
  subst hr
  refine wpAny_passesOwn hp (thn h4 fun _ s5 ⟨x,H5,I5,r5,y5,st5,fr5⟩=>?_)
  have I5':=I5.pinned (stat fr5) (T.obj _ _ st5)
  refine wpAny_passesOwn hp (thn (hg _ s5 σ3 H5 x u _ I5' r5 (step x H5 y5)) fun _ s6 ⟨σ6,H6,I6,q6⟩=>?_)
  refine wpAny_passesOwn hp (thn (hb _ s6 σ6 H6 _ I6 q6) fun f s7 q7=>?_)
  have again:∀{σ7:St} {H7:Hp},Inv X (pins++ZfY fp s5.heap) σ7 H7 s7->N σ7 H7->∃m,m<n/\∃i σ' H',Inv X pins σ' H' s7/\tn i s7.heap/\(∀b∈fp,H' b=none)/\W i m σ' H':=fun {σ7 H7} I7 n7=>by
   obtain ⟨m',hm,w7⟩:=hN σ7 H7 n7
   refine ⟨m',hm,i+1,σ7,H7,I7.unpinned,T.keep _ _ _ st5 fun b hb o e=>(I7.pin (b,o) (List.mem_append_right _ (List.mem_append_right _ (ZcX hb e)))).1,fun b hb=>?_,w7⟩
   obtain ⟨o,e,d⟩:=T.obj _ _ st5 b hb
   exact (I7.pin (b,o) (List.mem_append_right _ (List.mem_append_right _ (ZcX hb e)))).2.1
  cases f with
  | next=>obtain ⟨σ7,H7,I7,n7⟩:=q7;exact again I7 n7
  | cont=>obtain ⟨σ7,H7,I7,n7⟩:=q7;exact again I7 n7
  | brk=>obtain ⟨σ7,H7,I7,q7⟩:=q7;exact ⟨σ7,H7,I7.unpinned,q7⟩
  | ret v=>obtain ⟨x7,σ7,H7,I7,r7,q7⟩:=q7;exact ⟨x7,σ7,H7,I7.unpinned,r7,q7⟩
end
end L2
namespace L2
open PySem PySem.Spec PyProof.Rows
abbrev R2:=V->V->Hp->VK->Prop
def OpR (X:Cx) (f:Value->Value->Sem Value) (r:R2):Prop:=
 ∀(pins:List (Addr×Obj)) (s:Shared) (σ:St) (H:Hp) (x y:V) (v u:Value) (Q:VK),Inv X pins σ H s->RelV x v->RelV y u->r x y H Q->
  wpAny (model X.prog X.w) X.A (f v u) (EP X pins σ Q) X.xe s
def UnR (X:Cx) (f:Value->Sem Value) (r:V->Hp->VK->Prop):Prop:=
 ∀(pins:List (Addr×Obj)) (s:Shared) (σ:St) (H:Hp) (x:V) (v:Value) (Q:VK),Inv X pins σ H s->RelV x v->r x H Q->
  wpAny (model X.prog X.w) X.A (f v) (EP X pins σ Q) X.xe s
def ZbY (X:Cx) (f:Value) (r:List V->Hp->VK->Prop):Prop:=
 ∀(pins:List (Addr×Obj)) (s:Shared) (σ:St) (H:Hp) (xs:List V) (us:List Value) (Q:VK),Inv X pins σ H s->Vals xs us->r xs H Q->
  wpAny (model X.prog X.w) X.A (call f us) (EP X pins σ Q) X.xe s
def tOp (r:R2) (ta tb:TE):TE:=fun σ H Q=>ta σ H fun x H1=>tb σ H1 fun y H2=>r x y H2 Q
def tUn (r:V->Hp->VK->Prop) (ta:TE):TE:=fun σ H Q=>ta σ H fun x H1=>r x H1 Q
def rI (C:Int->Int->Prop) (g:Int->Int->V):R2:=fun x y H Q=>∃i j,x=.int i/\y=.int j/\C i j/\Q (g i j) H
def rI0 (g:Int->Int->V):R2:=fun x y H Q=>∃i j,x=.int i/\y=.int j/\Q (g i j) H
def rU (g:Int->V):V->Hp->VK->Prop:=fun x H Q=>∃i,x=.int i/\Q (g i) H
section
variable {X:Cx} {a b c:Expr} {ta tb tc:TE} {pos:Pos}
theorem binT (ha:PE X a ta) (hb:PE X b tb) {pins:List (Addr×Obj)} {s:Shared} {σ:St} {H:Hp} {R:V->V->Hp->Prop} (I:Inv X pins σ H s)
  (h:ta σ H fun x H1=>tb σ H1 fun y H2=>R x y H2) {Q:Value->Shared->Prop} {f:Value->Value->Sem Value}
  (hf:∀v u s2 x y H2,Inv X pins σ H2 s2->RelV x v->RelV y u->R x y H2->wpAny (model X.prog X.w) X.A (f v u) Q X.xe s2) :
  wpAny (model X.prog X.w) X.A (eval a X.env) (fun v s₁=>wpAny (model X.prog X.w) X.A (eval b X.env) (fun u s₂=>wpAny (model X.prog X.w) X.A (f v u) Q X.xe s₂) X.xe s₁) X.xe s:=by
 refine thn (ha pins s σ H _ I h) fun v s1 ⟨x,H1,I1,r1,q1⟩=>?_
 refine thn (hb pins s1 σ H1 _ I1 q1) fun u s2 ⟨y,H2,I2,r2,q2⟩=>?_
 exact hf v u s2 x y H2 I2 r1 r2 q2
theorem Zed {op:Operator} {r:R2} (ho:OpR X (binaryOp op) r) (ha:PE X a ta) (hb:PE X b tb):PE X (.BinOp a op b pos) (tOp r ta tb):=by
 intro pins s σ H Q I h
 exact wpAny_BinOp (binT ha hb I h fun v u s2 x y H2 I2 rx ry q=>ho pins s2 σ H2 x y v u Q I2 rx ry q)
theorem ZsY {op:UnaryOp} {r:V->Hp->VK->Prop} (ho:UnR X (unaryOp op) r) (ha:PE X a ta):PE X (.UnaryOp op a pos) (tUn r ta):=by
 intro pins s σ H Q I h
 exact UnaryOp_ (thn (ha pins s σ H _ I h) fun v s1 ⟨x,H1,I1,r1,q1⟩=>ho pins s1 σ H1 x v Q I1 r1 q1)
theorem opI {f:Value->Value->Sem Value} {C:Int->Int->Prop} {g:Int->Int->Int}
  (rule:∀(i j:Int) (t u:Tok) (s:Shared) (Q:Value->Shared->Prop) (E:Value->Shared->Prop),C i j->Q (.int (g i j) s.toks) { s with toks:=s.toks+1 }->wpAny (model X.prog X.w) X.A (f (.int i t) (.int j u)) Q E s) :
  OpR X f (rI C fun i j=>.int (g i j)):=by
 intro pins s σ H x y v u Q I rx ry h
 obtain ⟨i,j,rfl,rfl,hc,q⟩:=h
 obtain ⟨t,rfl⟩:=rx
 obtain ⟨t',rfl⟩:=ry
 exact rule i j t t' s _ _ hc ⟨.int (g i j),H,I.tok _,⟨_,rfl⟩,q⟩
theorem opI0 {f:Value->Value->Sem Value} {g:Int->Int->Int}
  (rule:∀(i j:Int) (t u:Tok) (s:Shared) (Q:Value->Shared->Prop) (E:Value->Shared->Prop),Q (.int (g i j) s.toks) { s with toks:=s.toks+1 }->wpAny (model X.prog X.w) X.A (f (.int i t) (.int j u)) Q E s) :
  OpR X f (rI0 fun i j=>.int (g i j)):=by
 intro pins s σ H x y v u Q I rx ry h
 obtain ⟨i,j,rfl,rfl,q⟩:=h
 obtain ⟨t,rfl⟩:=rx
 obtain ⟨t',rfl⟩:=ry
 exact rule i j t t' s _ _ ⟨.int (g i j),H,I.tok _,⟨_,rfl⟩,q⟩
theorem opB0 {f:Value->Value->Sem Value} {g:Int->Int->Bool}
  (rule:∀(i j:Int) (t u:Tok) (s:Shared) (Q:Value->Shared->Prop) (E:Value->Shared->Prop),Q (.bool (g i j)) s->wpAny (model X.prog X.w) X.A (f (.int i t) (.int j u)) Q E s) :
  OpR X f (rI0 fun i j=>.bl (g i j)):=by
 intro pins s σ H x y v u Q I rx ry h
 obtain ⟨i,j,rfl,rfl,q⟩:=h
 obtain ⟨t,rfl⟩:=rx
 obtain ⟨t',rfl⟩:=ry
 exact rule i j t t' s _ _ ⟨.bl (g i j),H,I,rfl,q⟩
def CDiv (i j:Int):Prop:=0<j/\j<1073741824
def CPow (i j:Int):Prop:=0<=j/\j<=1000000/\i.natAbs<2 ^ 64
def CMul (i j:Int):Prop:=(-(2 ^ 64)<i/\i<2 ^ 64)∨(-(2 ^ 64)<j/\j<2 ^ 64)
theorem CMul.ok {i j:Int} (h:CMul i j):IntMulOk i j:=by
 rcases h with ⟨h1,h2⟩ | ⟨h1,h2⟩
 ·exact .of_left (intBits_le_64 h1 h2)
 ·exact .of_right (intBits_le_64 h1 h2)
theorem Zkl:OpR X (binaryOp .Add) (rI0 fun i j=>.int (i+j)):=opI0 fun _ _ _ _ _ _ _ q=>add_int q
theorem ZrZ:OpR X (binaryOp .Sub) (rI0 fun i j=>.int (i-j)):=opI0 fun _ _ _ _ _ _ _ q=>sub_int q
theorem Zkk:OpR X (binaryOp .Mult) (rI CMul fun i j=>.int (i*j)):=opI fun _ _ _ _ _ _ _ hc q=>mul_int q hc.ok
theorem ZqQ:OpR X (binaryOp .FloorDiv) (rI CDiv fun i j=>.int (i / j)):=opI fun i j _ _ _ _ _ hc q=>by
 have h1:(0:Int)<j:=hc.1
 have h2:j<1073741824:=hc.2
 exact floordiv_int (by omega) (by rw [Int.fdiv_eq_ediv_of_nonneg i (by omega)];exact q) (.inl (PyProof.noPylong_small (by omega)))
theorem ZhP:OpR X (binaryOp .Mod) (rI (fun _ j=>0<j) fun i j=>.int (i % j)):=opI fun i j _ _ _ _ _ hc q=>by
 have h1:(0:Int)<j:=hc
 exact mod_int' (by omega) (by rw [Int.fmod_eq_emod_of_nonneg i (by omega)];exact q)
theorem Zr1:OpR X (binaryOp .Pow) (rI CPow fun i j=>.int (i ^ j.toNat)):=opI fun _ _ _ _ _ _ _ hc q=>pow_int_small hc.1 hc.2.1 hc.2.2 q
theorem unI {f:Value->Sem Value} {g:Int->Int}
  (rule:∀(i:Int) (t:Tok) (s:Shared) (Q:Value->Shared->Prop) (E:Value->Shared->Prop),Q (.int (g i) s.toks) { s with toks:=s.toks+1 }->wpAny (model X.prog X.w) X.A (f (.int i t)) Q E s) :
  UnR X f (rU fun i=>.int (g i)):=by
 intro pins s σ H x v Q I rx h
 obtain ⟨i,rfl,q⟩:=h
 obtain ⟨t,rfl⟩:=rx
 exact rule i t s _ _ ⟨.int (g i),H,I.tok _,⟨_,rfl⟩,q⟩
theorem Zrv:UnR X (unaryOp .USub) (rU fun i=>.int (-i)):=unI fun _ _ _ _ _ q=>neg_int q
end
section
variable {X:Cx} {a b c:Expr} {ta tb tc:TE} {pos:Pos}
theorem ZmG:OpR X (compareOp .Lt) (rI0 fun i j=>.bl (decide (i<j))):=opB0 fun _ _ _ _ _ _ _ q=>lt_int q
theorem Zs3:OpR X (compareOp .LtE) (rI0 fun i j=>.bl (decide (i<=j))):=opB0 fun _ _ _ _ _ _ _ q=>le_int q
theorem Zp2:OpR X (compareOp .Gt) (rI0 fun i j=>.bl (decide (j<i))):=opB0 fun _ _ _ _ _ _ _ q=>gt_int q
theorem Zs4:OpR X (compareOp .GtE) (rI0 fun i j=>.bl (decide (j<=i))):=opB0 fun _ _ _ _ _ _ _ q=>ge_int q
theorem OpR.or {f:Value->Value->Sem Value} {r r':R2} (h:OpR X f r) (h':OpR X f r'):OpR X f (fun x y H Q=>r x y H Q∨r' x y H Q):=by
 intro pins s σ H x y v u Q I rx ry q
 rcases q with q | q
 ·exact h pins s σ H x y v u Q I rx ry q
 ·exact h' pins s σ H x y v u Q I rx ry q
theorem Zf3 (b:Expr) {op:CmpOp} (h:op≠.In:=by decide) (h2:op≠.NotIn:=by decide):behindInMarks op b=false:=by
 have e1:(op==CmpOp.In)=false:=by cases op <;> first | rfl | exact absurd rfl h
 have e2:(op==CmpOp.NotIn)=false:=by cases op <;> first | rfl | exact absurd rfl h2
 cases b <;> simp [behindInMarks,e1,e2]
theorem ZqF {op:CmpOp} {r:R2} (ho:OpR X (compareOp op) r) (ha:PE X a ta) (hb:PE X b tb) (hm:behindInMarks op b=false):PE X (.Compare a [op] [b] pos) (tOp r ta tb):=by
 intro pins s σ H Q I h
 exact wpAny_Compare1 (binT ha hb I h fun v u s2 x y H2 I2 rx ry q=>ho pins s2 σ H2 x y v u Q I2 rx ry q) hm
def ZsK (t:TE):TT:=fun σ H Q=>t σ H fun x H'=>∃k,x=.bl k/\Q k H'
theorem Zgp {op:CmpOp} {r:R2} (ho:OpR X (compareOp op) r) (ha:PE X a ta) (hb:PE X b tb) (hm:behindInMarks op b=false):PT X (.Compare a [op] [b] pos) (ZsK (tOp r ta tb)):=by
 intro pins s σ H Q I h
 refine wpAny_isTrue_Compare1 (thn (ha pins s σ H _ I h) fun v s1 ⟨x,H1,I1,r1,q1⟩=>thn (hb pins s1 σ H1 _ I1 q1) fun u s2 ⟨y,H2,I2,r2,q2⟩=>
  thn (ho pins s2 σ H2 x y v u _ I2 r1 r2 q2) fun c s3 ⟨z,H3,I3,r3,k,e,q3⟩=>?_) hm
 subst e
 cases r3
 exact wpAny_truthy_bool ⟨H3,I3,q3⟩
theorem Zgb:(sizeLine:Nat)<2 ^ 63:=by rw [sizeLine_eq];decide
theorem Zcj {x:V} {us:List Value} (r:Vals [x] us):∃u,us=[u]/\RelV x u:=by
 cases r with
 | cons r1 r2=>cases r2;exact ⟨_,rfl,r1⟩
theorem Zmn {x y:V} {us:List Value} (r:Vals [x,y] us):∃u w',us=[u,w']/\RelV x u/\RelV y w':=by
 cases r with
 | cons r1 r2=>
  cases r2 with
  | cons r3 r4=>cases r4;exact ⟨_,_,rfl,r1,r3⟩
theorem ZoJ (hc:X.calm=true):ZbY X (.builtin "max") (fun xs H Q=>∃i j,xs=[.int i,.int j]/\Q (.int (if j > i then j else i)) H):=by
 intro pins s σ H xs us Q I r h
 obtain ⟨i,j,rfl,q⟩:=h
 obtain ⟨u,w',rfl,⟨t,rfl⟩,⟨t',rfl⟩⟩:=Zmn r
 refine max_two_ints (I.ok.hd hc) fun h' tk k=>⟨_,H,I.kept k,?_,q⟩
 by_cases hj:j > i
 ·rw [if_pos hj,if_pos hj];exact ⟨_,rfl⟩
 ·rw [if_neg hj,if_neg hj];exact ⟨_,rfl⟩
theorem ZoH (hc:X.calm=true):ZbY X (.builtin "min") (fun xs H Q=>∃i j,xs=[.int i,.int j]/\Q (.int (if j<i then j else i)) H):=by
 intro pins s σ H xs us Q I r h
 obtain ⟨i,j,rfl,q⟩:=h
 obtain ⟨u,w',rfl,⟨t,rfl⟩,⟨t',rfl⟩⟩:=Zmn r
 refine min_two_ints (I.ok.hd hc) fun h' tk k=>⟨_,H,I.kept k,?_,q⟩
 by_cases hj:j<i
 ·rw [if_pos hj,if_pos hj];exact ⟨_,rfl⟩
 ·rw [if_neg hj,if_neg hj];exact ⟨_,rfl⟩
end
end L2
namespace L2
open PySem PySem.Spec PyProof.Rows
structure ObjM (h:Heap) (x dx C:Addr) (mA:Str->Option Value):Prop where
 obj:h.get? x=some (PySem.W.instObj C dx)
 ns:h.Ns1 dx mA
 ne:dx≠x
theorem ZnZ {h:Heap} {dx:Addr} {mA:Str->Option Value} (n:h.Ns1 dx mA):∃od,h.get? dx=some od/\∀name,PySem.W.lookIn name od=some (mA name):=by
 obtain ⟨o,es,ep,ho,hd,hk,_,hm⟩:=n
 refine ⟨o,ho,fun name=>?_⟩
 have e:=hm name
 unfold nsFind findBy at e
 rw [<-Array.find?_toList] at e
 unfold PySem.W.lookIn
 rw [hd]
 dsimp only
 split
 ·rename_i y q
  rw [q] at e
  exact congrArg some e
 ·rename_i q
  rw [q] at e
  have a:es.toList.any (·.refKey)=false:=by
   rw [List.any_eq_false]
   intro y hy
   obtain ⟨z,t,hkey⟩:=hk y (Array.mem_toList_iff.mp hy)
   simp [DictEntry.refKey,hkey]
  have a':¬es.toList.any (·.refKey)=true:=by rw [a];exact Bool.false_ne_true
  rw [if_neg a']
  exact congrArg some e
theorem ObjM.look {h:Heap} {x dx C:Addr} {mA:Str->Option Value} (I:ObjM h x dx C mA):∃od,PySem.W.InstAt h x (PySem.W.instObj C dx) C (some od)/\∀name,PySem.W.lookIn name od=some (mA name):=
 let ⟨od,ho,hl⟩:=ZnZ I.ns
 ⟨od,⟨I.obj,rfl,rfl,ho⟩,hl⟩
section
variable {prog:Program} {w:World} {A:Around} {E:Value->Shared->Prop} {s:Shared} {K:PySem.W.Frag} {x dx C f:Addr} {mA:Str->Option Value} {name:Str} {v:Value}
end
theorem RelO.some_of {v:V} {o:Option Value} (r:RelO (some v) o):∃u,o=some u/\RelV v u:=by
 cases o with
 | none=>exact (show False from r).elim
 | some u=>exact ⟨u,rfl,r⟩
section
variable {P:Program} {w:World} {H H':Hp} {h h':Heap} {a C dx:Addr} {fs fs':List (Str×V)}
theorem Zrd (hok:HOk P w H h) (e:H a=some (.ins C dx fs)):∃mA,ObjM h a dx C mA/\(∀f,RelO (fs.lookup f) (mA f))/\PySem.Within mA (fs.map (·.1))/\fs.length<=1000/\H dx=some (.own a):=by
 obtain ⟨d,z,ne,ob,mA,n,r,q⟩:=(show Za4 P w H h a (.ins C dx fs) from hok a _ e)
 exact ⟨mA,⟨ob,n,ne⟩,r,q,z,d⟩
end
structure Cls (K:PySem.W.Frag) (C:Addr):Prop where
 pg:PySem.W.plainGet K C Str.empty=true
 hd:PySem.W.hasDictIn K C=true
 po:PySem.W.plainOver K C=true
 sa:PySem.W.findIn K (.ref C) "__setattr__" = some (some (.builtin "object.__setattr__"))
theorem Cls.get {K:PySem.W.Frag} {C:Addr} (c:Cls K C) (f:Str):PySem.W.plainGet K C f=true:=c.pg
section
variable {X:Cx} {pins:List (Addr×Obj)} {σ:St} {H:Hp} {s:Shared} {a C dx:Addr} {fs:List (Str×V)} {f:Str} {v:V} {A:Around} {E:Value->Shared->Prop}
end
section
variable {X:Cx} {o e value:Expr} {f:Str} {pos pos' tpos:Pos} {ta tv:TE}
end
section
variable {X:Cx} {pins:List (Addr×Obj)} {σ:St} {H:Hp} {s:Shared} {A:Around} {E:Value->Shared->Prop} {Q:Value->Shared->Prop} {c:Value} {b:Bool}
inductive TyOf (K:PySem.W.Frag) (H:Hp):V->Value->Prop where
 | non:TyOf K H .non (.type "NoneType")
 | bl (x:Bool):TyOf K H (.bl x) (.type "bool")
 | int (i:Int):TyOf K H (.int i) (.type "int")
 | str (x:Str):TyOf K H (.str x) (.type "str")
 | flt (x:UInt64):TyOf K H (.flt x) (.type "float")
 | lst {a:Addr} {xs:List V} (e:H a=some (.lst xs)):TyOf K H (.ref a) (.type "list")
 | frz {a:Addr} {o:Obj} {xs:List V} (e:H a=some (.frz o (.lst xs))):TyOf K H (.ref a) (.type "list")
 | tup {a:Addr} {xs:List V} (e:H a=some (.tup xs)):TyOf K H (.ref a) (.type "tuple")
 | dK {a:Addr} {kvs:List (Key×V)} (e:H a=some (.dK kvs)):TyOf K H (.ref a) (.type "dict")
 | dT {a:Addr} {kvs:List (List Key×V)} (e:H a=some (.dT kvs)):TyOf K H (.ref a) (.type "dict")
 | ins {a C dx:Addr} {fs:List (Str×V)} (e:H a=some (.ins C dx fs)) (cl:Cls K C) (ha:PySem.W.findIn K (.ref C) "__class__" = some (some (.builtin "object.__class__")))
   (hn:PySem.W.specialIn K (.builtin "object.__class__") "__get__" = some (some (.builtin "getset_descriptor.__get__"))) (htk:PySem.W.takesIn K (.builtin "object.__class__")=some true)
   (hm:PySem.W.mroIn K C (.type "object")=some true):TyOf K H (.ref a) (.ref C)
theorem Zof {x:V} {u t:Value} (I:Inv X pins σ H s) (rx:RelV x u) (ty:TyOf X.K H x t) (e:PySem.W.kitOne X.K t c=some b) (h:∀tk,Q (.bool b) { s with toks:=tk }) :
  wpAny (model X.prog X.w) A (call (.builtin "isinstance") [u,c]) Q E s:=by
 cases ty with
 | non=>cases (show u=Value.none from rx);exact PySem.W.kia_one PySem.W.kitx_none I.kIn True.intro e (fun z=>nomatch z) h
 | bl y=>cases (show u=Value.bool y from rx);exact PySem.W.kia_one PySem.W.kitx_bool I.kIn True.intro e (fun z=>nomatch z) h
 | int i=>obtain ⟨t,q⟩:=(show ∃t,u=Value.int i t from rx);cases q;exact PySem.W.kia_one PySem.W.kitx_int I.kIn True.intro e (fun z=>nomatch z) h
 | str y=>obtain ⟨t,q⟩:=(show ∃t,u=Value.str y t from rx);cases q;exact PySem.W.kia_one PySem.W.kitx_str I.kIn True.intro e (fun z=>nomatch z) h
 | flt y=>obtain ⟨t,q⟩:=(show ∃t,u=Value.float y t from rx);cases q;exact PySem.W.kia_one PySem.W.kitx_float I.kIn True.intro e (fun z=>nomatch z) h
 | @lst a xs ea=>
  cases (show u=Value.ref a from rx)
  obtain ⟨_,_,n,_,h1⟩:=(show Za4 X.prog X.w H s.heap a (.lst xs) from I.hok a _ ea)
  exact PySem.W.kia_one PySem.W.kitx_list I.kIn ⟨_,h1,rfl⟩ e (fun z=>nomatch z) h
 | @frz a ob xs ea=>
  cases (show u=Value.ref a from rx)
  obtain ⟨_,_,_,n,_,h1⟩:=(show Za4 X.prog X.w H s.heap a (.frz ob (.lst xs)) from I.hok a _ ea)
  exact PySem.W.kia_one PySem.W.kitx_list I.kIn ⟨_,h1,rfl⟩ e (fun z=>nomatch z) h
 | @tup a xs ea=>
  cases (show u=Value.ref a from rx)
  obtain ⟨_,_,_,p⟩:=(show Za4 X.prog X.w H s.heap a (.tup xs) from I.hok a _ ea)
  obtain ⟨o,h1,h2,_⟩:=p
  exact PySem.W.kia_one PySem.W.kitx_tuple I.kIn ⟨o,h1,h2.1⟩ e (fun z=>nomatch z) h
 | @dK a kvs ea=>
  cases (show u=Value.ref a from rx)
  obtain ⟨_,_,vs,_,p⟩:=(show Za4 X.prog X.w H s.heap a (.dK kvs) from I.hok a _ ea)
  obtain ⟨o,es,ep,h1,h2,_⟩:=p
  exact PySem.W.kia_one PySem.W.kitx_dict I.kIn ⟨o,h1,h2.1⟩ e (fun z=>nomatch z) h
 | @dT a kvs ea=>
  cases (show u=Value.ref a from rx)
  obtain ⟨_,_,xs,_,o,es,ep,h1,h2,_⟩:=(show Za4 X.prog X.w H s.heap a (.dT kvs) from I.hok a _ ea)
  exact PySem.W.kia_one PySem.W.kitx_dict I.kIn ⟨o,h1,h2.1⟩ e (fun z=>nomatch z) h
 | @ins a C dx fs ea cl ha hn htk hm=>
  cases (show u=Value.ref a from rx)
  obtain ⟨mA,O,_⟩:=Zrd I.hok ea
  obtain ⟨od,J,_⟩:=O.look
  exact PySem.W.kia_one (PySem.W.kitx_own (cl.get _) cl.hd ha hn htk hm) I.kIn J e (fun z=>nomatch z) h
end
end L2
namespace L2
open PySem PySem.Spec PyProof.Rows
structure Room (k:Nat) (A:Around):Prop where
 hd:A.handled=none
 dp:A.depth+3*k+5<recursionLimit
 un:A.units+16*k+200<cLine
 gd:A.guards=some []
theorem Room.mono {j k:Nat} {A:Around} (r:Room k A) (h:j<=k):Room j A:=⟨r.hd,by have:=r.dp;omega,by have:=r.un;omega,r.gd⟩
theorem Room.deeper {k:Nat} {A:Around} (r:Room (k+1) A) (env:Env):Room k (A.deeper env):=
 ⟨r.hd,by have:=r.dp;show A.depth+1+3*k+5<_;omega,by have:=r.un;show A.units+3+16*k+200<_;omega,r.gd⟩
theorem Room.in1 {k:Nat} {A:Around} (r:Room (k+1) A):Room k A.in1:=
 ⟨r.hd,by have:=r.dp;show A.depth+3*k+5<_;omega,by have:=r.un;show A.units+1+16*k+200<_;omega,r.gd⟩
theorem Room.depth {k:Nat} {A:Around} (r:Room k A):A.depth<recursionLimit:=by have:=r.dp;omega
theorem Room.units {k:Nat} {A:Around} (r:Room k A):A.units+64<cLine:=by have:=r.un;omega
theorem Room.units0 {k:Nat} {A:Around} (r:Room k A):A.units<cLine:=by have:=r.un;omega
def tNil:TA:=fun _ H Q=>Q [] H
def ZeI (ta:TE) (tr:TA):TA:=fun σ H Q=>ta σ H fun x H1=>tr σ H1 fun xs H2=>Q (x::xs) H2
section
variable {X:Cx} {e:Expr} {es:List Expr} {te:TE} {t:TA} {pos:Pos}
theorem ZbO:PA X [] tNil:=fun _ _ _ _ H Q I h=>Calls.spliced_nil ⟨[],H,I,.nil,h⟩
theorem Zbb (ha:PE X e te) (hr:PA X es t) (hs:starEach (e::es) X.env=(false,eval e X.env)::starEach es X.env:=by rfl):PA X (e::es) (ZeI te t):=by
 intro pos pins s σ H Q I h
 rw [hs]
 show wpAny _ _ (spliced ((false,eval e X.env)::backTo pos (starEach es X.env))) _ _ s
 refine Calls.spliced_cons (thn (ha pins s σ H _ I h) fun u s1 ⟨x,H1,I1,r1,q1⟩=>?_)
 exact thn (hr pos pins s1 σ H1 _ I1 q1) fun us s2 ⟨xs,H2,I2,r2,q2⟩=>⟨x::xs,H2,I2,.cons r1 r2,q2⟩
def tTup (t:TA):TE:=fun σ H Q=>t σ H fun xs H1=>xs.length<=sizeLine/\∀p,H1 p=none->Q (.ref p) (upd H1 p (.tup xs))
def tLst (t:TA):TE:=fun σ H Q=>t σ H fun xs H1=>xs.length<=sizeLine/\∀p,H1 p=none->Q (.ref p) (upd H1 p (.lst xs))
theorem ZrQ {x1} (h:PA X es t):PE X (.Tuple es x1 pos) (tTup t):=by
 intro pins s σ H Q I hq
 refine wpAny_Tuple_spliced (thn (h pos pins s σ H _ I hq) fun us s1 ⟨xs,H1,I1,r,z,q⟩=>⟨by rw [<-r.length];exact z,?_⟩)
 have hf:H1 s1.heap.objs.size=none:=I1.hok.fresh (Nat.le_refl _)
 refine ⟨.ref s1.heap.objs.size,upd H1 s1.heap.objs.size (.tup xs),I1.laid (t':=s1.toks) (fun b u e=>Heap.get?_push_of_some _ e) (Nat.le_refl _) ?_,rfl,q _ hf⟩
 exact ⟨z,us,r,⟨_,Heap.get?_push_size _ rfl,⟨rfl,_,rfl⟩,rfl⟩⟩
theorem ZrU (h:PA X es t):PE X (.List es pos) (tLst t):=by
 intro pins s σ H Q I hq
 refine wpAny_List_spliced (thn (h pos pins s σ H _ I hq) fun us s1 ⟨xs,H1,I1,r,z,q⟩=>⟨by rw [<-r.length];exact z,?_⟩)
 have hf:H1 s1.heap.objs.size=none:=I1.hok.fresh (Nat.le_refl _)
 refine ⟨.ref s1.heap.objs.size,upd H1 s1.heap.objs.size (.lst xs),I1.laid (t':=s1.toks) (fun b u e=>Heap.get?_push_of_some _ e) (Nat.le_refl _) ?_,rfl,q _ hf⟩
 exact ⟨z,us,0,r,Heap.get?_push_size _ rfl⟩
end
abbrev Sp:=List V->Hp->VK->XK->Prop
abbrev CXT:=List Env->Hp->Shared->XK->Value->Shared->Prop
structure Env0 (P:Program) (w:World) (K:PySem.W.Frag) (mg:Str->Option Value) (base:Heap) (A:Around) (outer:List Env) (s:Shared) (H:Hp):Prop where
 frames:A.frames=some outer
 mod:Mod K mg base
 bs:∀b o,base.get? b=some o->s.heap.get? b=some o/\H b=none
 bsz:base.objs.size<=s.heap.objs.size
 funs:s.heap.FunFrames base outer
 frf:∀b∈frs outer,H b=none
 hok:HOk P w H s.heap
 bare:AllBare s.gens
def CE (outer:List Env) (P:Program) (w:World) (H:Hp) (s:Shared) (Q:VK) (u:Value) (s':Shared):Prop:=
 ∃v H',s'.os=s.os/\AllBare s'.gens/\Un (frs outer) [] H H' s.heap s'.heap/\HOk P w H' s'.heap/\RelV v u/\Q v H'
def CR (CX:CXT) (outer:List Env) (P:Program) (w:World) (H:Hp) (s:Shared) (Q:VK) (E:XK) (r:Result) (s':Shared):Prop:=
 match r with
 | .ok (.ret u)=>CE outer P w H s Q u s'
 | .ok _=>False
 | .error e=>CX outer H s E e s'
structure FnOk (P:Program) (w:World) (K:PySem.W.Frag) (mg:Str->Option Value) (base:Heap) (CX:CXT) (k:Nat) (f:Addr) (fd:FuncData) (ps:List Str) (sp:Sp):Prop where
 len:∀vs H Q E,sp vs H Q E->vs.length=ps.length
 run:∀(A:Around) (outer:List Env) (s:Shared) (H:Hp) (args:Args) (us:List Value) (vs:List V) (Q:VK) (E:XK),Room k A->Env0 P w K mg base A outer s H->BindsTo s fd args (ps.zip us)->Vals vs us->sp vs H Q E->
  codeAny (model P w) A (.call (.ref f) args) (CR CX outer P w H s Q E) s
theorem FnOk.mono {P:Program} {w:World} {K:PySem.W.Frag} {mg:Str->Option Value} {base:Heap} {CX:CXT} {j k:Nat} {f:Addr} {fd:FuncData} {ps:List Str} {sp:Sp} (F:FnOk P w K mg base CX j f fd ps sp) (h:j<=k) :
  FnOk P w K mg base CX k f fd ps sp:=⟨F.len,fun A outer s H args us vs Q E hr=>F.run A outer s H args us vs Q E (hr.mono h)⟩
theorem FnOk.imp {P:Program} {w:World} {K:PySem.W.Frag} {mg:Str->Option Value} {base:Heap} {CX:CXT} {k:Nat} {f:Addr} {fd:FuncData} {ps:List Str} {sp sp':Sp} (F:FnOk P w K mg base CX k f fd ps sp)
  (h:∀vs H Q E,sp' vs H Q E->sp vs H Q E):FnOk P w K mg base CX k f fd ps sp':=
 ⟨fun vs H Q E q=>F.len vs H Q E (h _ _ _ _ q),fun A outer s H args us vs Q E hr he hb hv hs=>F.run A outer s H args us vs Q E hr he hb hv (h _ _ _ _ hs)⟩
theorem Env0.in1 {P:Program} {w:World} {K:PySem.W.Frag} {mg:Str->Option Value} {base:Heap} {A:Around} {outer:List Env} {s:Shared} {H:Hp} (e:Env0 P w K mg base A outer s H) :
  Env0 P w K mg base A.in1 outer s H:=⟨e.frames,e.mod,e.bs,e.bsz,e.funs,e.frf,e.hok,e.bare⟩
section
variable {X:Cx} {pins:List (Addr×Obj)} {σ:St} {H:Hp} {s s':Shared}
theorem Inv.env0 (I:Inv X pins σ H s):Env0 X.prog X.w X.K X.mg X.base X.A X.stack s H:=
 ⟨I.ok.frames,I.ok.mod,I.bs,Nat.le_trans I.ok.bsz I.sz,I.stack,I.stkFree,I.hok,I.bare⟩
theorem Inv.after {Q:VK} {u:Value} (I:Inv X pins σ H s) (h:CE X.stack X.prog X.w H s Q u s'):EP X pins σ Q u s':=by
 obtain ⟨v,H',os,bare,un,hok,r,q⟩:=h
 obtain ⟨hh,g,d,t,os'⟩:=s'
 obtain rfl:os'=s.os:=os
 exact ⟨v,H',I.call (h':=hh) (g':=g) (d':=d) (t':=t) (ch:=[]) un hok bare (fun b z=>absurd z (by simp)),r,q⟩
end
def ZsQ (sp:Sp) (dvs:List V) (E:XK) (t:TA):TE:=fun σ H Q=>t σ H fun vs H1=>sp (vs++dvs) H1 Q E
def ZcG (K:PySem.W.Frag) (fd:FuncData) (ps:List Str) (ds:List Value):Prop:=
 ∀(s:Shared) (us:List Value),K.In s.heap->(us++ds).length=ps.length->BindsTo s fd ⟨us,[]⟩ (ps.zip (us++ds))
theorem ZcG.all {K:PySem.W.Frag} {fd:FuncData} {ps:List Str} (h:∀us:List Value,us.length=ps.length->bindArgs fd ⟨us,[]⟩=pure (ps.zip us)):ZcG K fd ps []:=fun s us _ hl=>by
 rw [List.append_nil] at hl ⊢
 exact .of_eq (h us hl)
def Zih (CX:CXT) (X:Cx) (E:XK):Prop:=∀(pins:List (Addr×Obj)) (σ:St) (H:Hp) (s:Shared) (e:Value) (s':Shared),Inv X pins σ H s->CX X.stack H s E e s'->X.xe e s'
section
variable {X:Cx} {CX:CXT} {k:Nat} {f C:Addr} {fd:FuncData} {ps:List Str} {sp:Sp} {dvs:List V} {ds:List Value} {E:XK} {x m:Str} {p pos apos:Pos} {e o:Expr} {es:List Expr} {ta:TE} {t:TA}
theorem Znx {pins:List (Addr×Obj)} {σ:St} {H:Hp} {s:Shared} {Q:VK} {us:List Value} {vs:List V} (F:FnOk X.prog X.w X.K X.mg X.base CX k f fd ps sp) (hr:Room k X.A) (hb:ZcG X.K fd ps ds) (hd:Vals dvs ds) (hx:Zih CX X E)
  (I:Inv X pins σ H s) (r:Vals vs us) (h:sp (vs++dvs) H Q E):wpAny (model X.prog X.w) X.A (call (.ref f) us) (EP X pins σ Q) X.xe s:=by
 have r2:Vals (vs++dvs) (us++ds):=r.append hd
 have hl:(us++ds).length=ps.length:=by rw [<-r2.length];exact F.len _ _ _ _ h
 refine wpAny_call (codeAny_mono (F.run X.A X.stack s H ⟨us,[]⟩ (us++ds) (vs++dvs) Q E hr I.env0 (hb s us I.kIn hl) r2 h) fun r s' hq=>?_)
 cases r with
 | error e=>exact hx pins σ H s e s' I hq
 | ok fl=>
  cases fl with
  | ret u=>exact I.after hq
  | next=>exact False.elim hq
  | brk=>exact False.elim hq
  | cont=>exact False.elim hq
theorem ZqG (F:FnOk X.prog X.w X.K X.mg X.base CX k f fd ps sp) (hr:Room k X.A) (hg:Gl X x) (hm:X.mg x=some (.ref f)) (hk:PySem.W.keepIn X.K (.ref f)=true) (hb:ZcG X.K fd ps ds) (hd:Vals dvs ds) (hx:Zih CX X E)
  (ha:PA X (e::es) t) (hdb:(x==("__debug__" : Str))=false:=by decide) (he:starEach (e::es) X.env=(false,eval e X.env)::starEach es X.env:=by rfl) (hpl:(backTo pos (starEach es X.env)).any (·.1)=false:=by rfl) :
  PE X (.Call (.Name x p) (e::es) [] pos) (ZsQ sp dvs E t):=by
 intro pins s σ H Q I h
 refine wpAny_Call_Name_kw (Zl5 I hg hm ?_ hdb)
 refine PySem.W.callWith_K (h₀:=X.base) I.ok.mod.kin hk (thn (ha pos pins s σ H _ I h) fun us s1 ⟨vs,H1,I1,r,q⟩=>⟨I1.kIn,?_⟩) he hpl
 exact Znx F hr hb hd hx I1 r q
end
def PK (X:Cx) (kws:List Keyword) (t:TA):Prop:=
 ∀(pos:Pos) (pins:List (Addr×Obj)) (s:Shared) (σ:St) (H:Hp) (Q:List V->Hp->Prop),Inv X pins σ H s->t σ H Q->wpAny (model X.prog X.w) X.A (evalAll ((backToKw pos (keywordEach kws X.env)).map (·.2))) (AP X pins σ Q) X.xe s
section
variable {X:Cx} {CX:CXT} {k:Nat} {f C:Addr} {fd:FuncData} {ps ks:List Str} {sp:Sp} {E:XK} {x m:Str} {p pos apos kpos:Pos} {e o:Expr} {es:List Expr} {kws:List Keyword} {te ta:TE} {t tk:TA} {nm:Option Str}
theorem ZrM:PK X [] tNil:=fun _ _ _ _ H Q I h=>wpAny_evalAll_nil ⟨[],H,I,.nil,h⟩
theorem Zqy (ha:PE X e te) (hr:PK X kws t):PK X (⟨nm,e,kpos⟩::kws) (ZeI te t):=by
 intro pos pins s σ H Q I h
 show wpAny _ _ (evalAll ((do let v<-eval e X.env;standAt pos;pure v)::(backToKw pos (keywordEach kws X.env)).map (·.2))) _ _ s
 refine wpAny_evalAll_cons (wpAny_bind (thn (ha pins s σ H _ I h) fun u s1 ⟨x,H1,I1,r1,q1⟩=>wpAny_bind (wpAny_standAt (wpAny_pure ?_))))
 exact thn (hr pos pins s1 σ H1 _ I1 q1) fun us s2 ⟨xs,H2,I2,r2,q2⟩=>⟨x::xs,H2,I2,.cons r1 r2,q2⟩
variable {g:List Value->List Value->List Value} {gV:List V->List V->List V}
end
structure FnScope (N P:List Str) (sc:Scope):Prop where
 kind:sc.kind=.function
 co:sc.isCoroutine=false
 gen:sc.isGenerator=false
 nd:N.Nodup
 pre:N.take P.length=P
 par:∀x∈P,sc.names.lookup x=some .local∨sc.names.lookup x=some .cell
 nofree:∀y∈sc.names,y.2≠.free
theorem Zjl {kindOf:Str->Option NameKind} {x:Str}:∀{binds:List (Str×Value)} {m:Str->Option Value},(∀v,(x,v)∉binds)->bindL kindOf binds m x=m x
 | [],_,_=>rfl
 | (n,v)::r,m,h=>by
  unfold bindL
  rw [Zjl fun w hw=>h w (List.mem_cons_of_mem _ hw)]
  split
  ·have:x≠n:=by rintro rfl;exact h v List.mem_cons_self
   simp [this]
  ·rfl
theorem Zjn {kindOf:Str->Option NameKind} {x:Str}:∀{binds:List (Str×Value)} {m:Str->Option Value},(∀v,(x,v)∉binds)->bindC kindOf binds m x=m x
 | [],_,_=>rfl
 | (n,v)::r,m,h=>by
  unfold bindC
  rw [Zjn fun w hw=>h w (List.mem_cons_of_mem _ hw)]
  split
  ·rfl
  ·have:x≠n:=by rintro rfl;exact h v List.mem_cons_self
   simp [this]
theorem Zjm {kindOf:Str->Option NameKind} {x:Str} {v:Value}:∀{P:List Str} {vs:List Value} {i:Nat} {m:Str->Option Value},P.Nodup->P[i]?=some x->vs[i]?=some v->kindOf x=some .local->
  bindL kindOf (P.zip vs) m x=some v
 | [],_,_,_,_,h,_,_=>by simp at h
 | _::_,[],_,_,_,_,h,_=>by simp at h
 | p::P,w::vs,0,m,nd,h1,h2,hk=>by
  simp at h1 h2;subst h1;subst h2
  show bindL kindOf ((p,w)::P.zip vs) m p=_
  unfold bindL
  rw [Zjl fun v hv=>(List.nodup_cons.mp nd).1 (List.of_mem_zip hv).1,if_pos hk]
  simp
 | p::P,w::vs,i+1,m,nd,h1,h2,hk=>by
  show bindL kindOf ((p,w)::P.zip vs) m x=_
  unfold bindL
  exact Zjm (i:=i) (List.nodup_cons.mp nd).2 (by simpa using h1) (by simpa using h2) hk
theorem Zjo {kindOf:Str->Option NameKind} {x:Str} {v:Value}:∀{P:List Str} {vs:List Value} {i:Nat} {m:Str->Option Value},P.Nodup->P[i]?=some x->vs[i]?=some v->kindOf x≠some .local->
  bindC kindOf (P.zip vs) m x=some v
 | [],_,_,_,_,h,_,_=>by simp at h
 | _::_,[],_,_,_,_,h,_=>by simp at h
 | p::P,w::vs,0,m,nd,h1,h2,hk=>by
  simp at h1 h2;subst h1;subst h2
  show bindC kindOf ((p,w)::P.zip vs) m p=_
  unfold bindC
  rw [Zjn fun v hv=>(List.nodup_cons.mp nd).1 (List.of_mem_zip hv).1,if_neg hk]
  simp
 | p::P,w::vs,i+1,m,nd,h1,h2,hk=>by
  show bindC kindOf ((p,w)::P.zip vs) m x=_
  unfold bindC
  exact Zjo (i:=i) (List.nodup_cons.mp nd).2 (by simpa using h1) (by simpa using h2) hk
def start (N:List Str) (vs:List V):St:=vs.map some++List.replicate (N.length-vs.length) none
def cxOf (CX:CXT) (P:Program) (w:World) (K:PySem.W.Frag) (mg:Str->Option Value) (base:Heap) (N:List Str) (qual:Str) (scope:Scope) (f:Addr) (cd:Value) (A:Around) (outer:List Env) (s:Shared) (H:Hp) (E:XK):Cx where
 prog:=P
 w:=w
 K:=K
 mg:=mg
 base:=base
 A:=A.deeper (envOfC qual scope s.heap.objs.size f cd)
 N:=N
 s₀:=s
 H₀:=H
 env:=envOfC qual scope s.heap.objs.size f cd
 outer:=outer
 stack:=envOfC qual scope s.heap.objs.size f cd::outer
 ex:=[]
 calm:=true
 fn:=fun _=>true
 pn:=[]
 xe:=fun e s'=>wpAny (model P w) (A.deeper (envOfC qual scope s.heap.objs.size f cd)) (leaving (envOfC qual scope s.heap.objs.size f cd) e) (fun _ s''=>CX outer H s E e s'') (fun e' s''=>CX outer H s E e' s'') s'
theorem ZkW {sc:Scope} {n:Nat} {x:Str} (h:sc.names.lookup x=some .cell):∃c,(cellsFrom n sc.names []).lookup x=some c:=by
 have q:=PySem.W.cellsFrom_some sc.names n [] (.inl h)
 exact Option.isSome_iff_exists.mp q
theorem Zoi {CX:CXT} {P:Program} {w:World} {K:PySem.W.Frag} {mg:Str->Option Value} {base:Heap} {N ps:List Str} {qual:Str} {scope:Scope} {f:Addr} {cd:Value} {A:Around} {outer:List Env} {s s1:Shared} {H:Hp} {E:XK} {us:List Value} {vs:List V}
  (S:FnScope N ps scope) (hd:A.handled=none) (e0:Env0 P w K mg base A outer s H) (hl:vs.length=ps.length) (r:Vals vs us)
  (x:InCallC s s.heap.objs.size (bindL (envOfC qual scope s.heap.objs.size f cd).kindOf (ps.zip us) fun _=>none) (cellsFrom (s.heap.objs.size+1) scope.names []) (bindC (envOfC qual scope s.heap.objs.size f cd).kindOf (ps.zip us) fun _=>none) s1) :
  Inv (cxOf CX P w K mg base N qual scope f cd A outer s H E) [] (start N vs) H s1:=by
 have hpl:ps.length<=N.length:=by have:=congrArg List.length S.pre;rw [List.length_take] at this;omega
 obtain ⟨h1,tk,rfl,hk⟩:=x.done
 have noA:∀b:Addr,b∉(cxOf CX P w K mg base N qual scope f cd A outer s H E).ex:=fun b z=>absurd (show b∈([]:List Addr) from z) (by simp)
 refine ⟨⟨e0.mod,S.kind,rfl,rfl,Nat.le_refl _,fun y z c h1 h2=>?_,fun y hy=>?_,fun y c _ h=>?_,fun _=>hd,Around.frames_deeper e0.frames,.inr ⟨rfl,rfl⟩,fun b z=>absurd z (noA b),e0.bs,e0.bsz,fun b _ _=>noA b,fun b z=>absurd z (noA b),e0.funs,e0.frf⟩,
  rfl,e0.bare,Un.kept hk,⟨_,x.toInCall.ns,fun i y v h1 h2 h3=>?_⟩,fun y c h=>⟨_,x.cell y c h⟩,e0.hok.fresh (Nat.le_refl _),fun y c h=>?_,fun p hp=>absurd (show p∈([]:List (Addr×Obj)) from hp) (by simp),e0.hok.kept hk,?_⟩
 ·exact name_of_addr x.apart (PySem.mem_of_lookup h1) (PySem.mem_of_lookup h2)
 ·have hy:scope.names.lookup y=some .cell∨scope.names.lookup y=some .free:=hy
  rcases hy with hy | hy
  ·exact ZkW hy
  ·exact absurd rfl (S.nofree _ (PySem.mem_of_lookup hy))
 ·exact Nat.le_of_lt (x.above y c (PySem.mem_of_lookup h))
 ·have hi:i<vs.length:=by
   unfold start at h2
   by_cases hi:i<vs.length
   ·exact hi
   ·rw [List.getElem?_append_right (by simpa using hi)] at h2
    rw [List.getElem?_replicate] at h2
    split at h2 <;> cases h2
  have ha:vs[i]?=some v:=by
   unfold start at h2
   rw [List.getElem?_append_left (by simpa using hi),List.getElem?_map] at h2
   cases e:vs[i]? with
   | none=>rw [e] at h2;cases h2
   | some a=>rw [e] at h2;cases h2;rfl
  obtain ⟨u,hu,rv⟩:=r.get ha
  have hp:ps[i]?=some y:=by
   rw [<-S.pre,List.getElem?_take_of_lt (by omega)];exact h1
  have ndP:ps.Nodup:=by rw [<-S.pre];exact S.nd.sublist (List.take_sublist _ _)
  refine ⟨u,rv,?_⟩
  rcases S.par y (List.mem_of_getElem? hp) with k | k
  ·exact .inl ⟨k,Zjm ndP hp hu k⟩
  ·obtain ⟨c,e⟩:=ZkW (n:=s.heap.objs.size+1) k
   refine .inr ⟨.inl k,c,e,?_⟩
   have q:=x.cell y c e
   rw [Zjo ndP hp hu (by show scope.names.lookup y≠_;rw [k];decide)] at q
   exact q
 ·exact e0.hok.fresh (Nat.le_of_lt (x.above y c (PySem.mem_of_lookup h)))
 ·unfold start
  show _=N.length
  rw [List.length_append,List.length_map,List.length_replicate]
  omega
theorem Zqb {CX:CXT} {P:Program} {w:World} {K:PySem.W.Frag} {mg:Str->Option Value} {base:Heap} {k:Nat} {f:Addr} {name qual:Str} {params:Arguments} {body:List Stmt} {scope:Scope} {dV kV doc pm cdv ct oc:Value} {an od:Option Addr}
  {osl:Array (Option Value)} {N ps:List Str} {sp:Sp} (lk:K.lookup f=some ⟨oc,od,.func (PySem.W.fnOf name qual params body scope dV kV doc pm an cdv ct),osl⟩) (hcd:PySem.W.codeIn K cdv qual=true) (S:FnScope N ps scope)
  (len:∀vs H Q E,sp vs H Q E->vs.length=ps.length)
  (hbody:∀(A:Around) (outer:List Env) (s:Shared) (H:Hp) (vs:List V) (Q:VK) (E:XK),Room k (A.deeper (envOfC qual scope s.heap.objs.size f cdv))->sp vs H Q E->
   ∃t,PSs (cxOf CX P w K mg base N qual scope f cdv A outer s H E) body t/\t { nx:=fun _ H'=>Q .non H',rt:=Q } (start N vs) H) :
  FnOk P w K mg base CX (k+1) f (PySem.W.fnOf name qual params body scope dV kV doc pm an cdv ct) ps sp:=by
 refine ⟨len,fun A outer s H args us vs Q E hr e0 hb r hsp=>?_⟩
 have hl:=len _ _ _ _ hsp
 have KX:K.In s.heap:=e0.mod.kin.keeps fun b o e=>(e0.bs b o e).1
 have lim:s.heap.NoLimit:=e0.mod.nolimit.keeps fun b o e=>(e0.bs b o e).1
 have hkind:∀y∈ps.zip us,scope.names.lookup y.1=some .local∨(scope.names.lookup y.1=some .cell/\((cellsFrom (s.heap.objs.size+1) scope.names []).lookup y.1).isSome=true):=fun ⟨n,v⟩ hy=>by
  rcases S.par n (List.of_mem_zip hy).1 with q | q
  ·exact .inl q
  ·exact .inr ⟨q,PySem.W.cellsFrom_some _ _ _ (.inl q)⟩
 refine codeAny_call_function hr.depth (KX _ _ lk) rfl S.co S.gen rfl (PySem.W.codeRec_of KX hcd) (hb _ _ _ _ ?_)
 refine wpAny_newFunctionEnv_cells S.kind hkind fun env he s1 x=>?_
 subst he
 refine ⟨lim.keeps x.toInCall.keep,codeAny_func ?_⟩
 obtain ⟨t,ht,hq⟩:=hbody A outer s H vs Q E (hr.deeper _) hsp
 have I:Inv (cxOf CX P w K mg base N qual scope f cdv A outer s H E) [] (start N vs) H s1:=Zoi S hr.hd e0 hl r x
 refine wpAny_mono (ht [] s1 (start N vs) H _ I hq) (fun fl s' hs=>?_) fun e s' hs=>hs
 have fin:∀{σ':St} {H':Hp} {v:V} {u:Value},Inv (cxOf CX P w K mg base N qual scope f cdv A outer s H E) [] σ' H' s'->RelV v u->Q v H'->CE outer P w H s Q u s':=
  fun {σ' H' v u} J rv q=>⟨v,H',J.os,J.bare,J.base,J.hok,rv,q⟩
 cases fl with
 | ret u=>
  obtain ⟨v,σ',H',J,rv,q⟩:=hs
  exact fin J rv q
 | next=>
  obtain ⟨σ',H',J,q⟩:=hs
  exact fin (v:=V.non) (u:=Value.none) J rfl q
 | brk=>
  obtain ⟨_,_,_,q⟩:=hs
  exact False.elim q
 | cont=>
  obtain ⟨_,_,_,q⟩:=hs
  exact False.elim q
end L2
namespace L2
open PySem PySem.Spec PyProof.Rows
section
variable {X:Cx} {x:Str} {p pos:Pos} {e:Expr} {es:List Expr} {t:TA} {id T:String} {r:List V->Hp->VK->Prop}
def tCB (r:List V->Hp->VK->Prop) (t:TA):TE:=fun σ H Q=>t σ H fun vs H1=>r vs H1 Q
theorem Zew (hc:ZbY X (.builtin id) r) (hg:Gl X x) (hm:X.mg x=none) (hv:bootBuiltins x=some (.builtin id)) (ha:PA X (e::es) t) (hn:x≠"__name__":=by decide) (hdb:(x==("__debug__" : Str))=false:=by decide)
  (he:starEach (e::es) X.env=(false,eval e X.env)::starEach es X.env:=by rfl) (hpl:(backTo pos (starEach es X.env)).any (·.1)=false:=by rfl):PE X (.Call (.Name x p) (e::es) [] pos) (tCB r t):=by
 intro pins s σ H Q I h
 refine wpAny_Call_Name_kw (ZeA I hg hm hv ?_ hn hdb)
 exact PyProof.Rows.callWith_builtin1 (thn (ha pos pins s σ H _ I h) fun us s1 ⟨vs,H1,I1,r1,q1⟩=>hc pins s1 σ H1 vs us Q I1 r1 q1) he hpl
theorem ZiZ (hc:ZbY X (.type T) r) (hg:Gl X x) (hm:X.mg x=none) (hv:bootBuiltins x=some (.type T)) (ha:PA X (e::es) t) (hn:x≠"__name__":=by decide) (hdb:(x==("__debug__" : Str))=false:=by decide)
  (he:starEach (e::es) X.env=(false,eval e X.env)::starEach es X.env:=by rfl) (hpl:(backTo pos (starEach es X.env)).any (·.1)=false:=by rfl):PE X (.Call (.Name x p) (e::es) [] pos) (tCB r t):=by
 intro pins s σ H Q I h
 refine wpAny_Call_Name_kw (ZeA I hg hm hv ?_ hn hdb)
 exact PyProof.Rows.callWith_type1 (thn (ha pos pins s σ H _ I h) fun us s1 ⟨vs,H1,I1,r1,q1⟩=>hc pins s1 σ H1 vs us Q I1 r1 q1) he hpl
end
end L2
namespace HT
open PySem PyProof.Rows
def lexLt:List Int->List Int->Bool
 | [],[]=>false
 | [],_::_=>true
 | _::_,[]=>false
 | x::xs,y::ys=>if x=y then lexLt xs ys else decide (x<y)
theorem ZmN (x y:Int) (xs ys:List Int):lexLt (x::xs) (y::ys)=if x=y then lexLt xs ys else decide (x<y):=rfl
theorem Zjz:lexLt [] []=false:=rfl
theorem Ziw (y:Int) (ys:List Int):lexLt [] (y::ys)=true:=rfl
theorem Zix (x:Int) (xs:List Int):lexLt (x::xs) []=false:=rfl
theorem ZpL (A:Around) (s:Shared) (a:Int) (t:Tok) (c:Int) (u:Tok):∃e,SeqAt.EqAt A s (.int a t) (.int c u) e/\(e=true↔a=c):=
 ⟨(a==c),SeqAt.EqAt.int_int a t c u,by simp⟩
theorem ZoX (A:Around) (s:Shared) (a:Int) (t:Tok) (c:Int) (u:Tok) (prog:Program) (w:World) (E:Value->Shared->Prop) (Q:Value->Shared->Prop) (h:Q (.bool (decide (a<c))) s) :
  wpAny (model prog w) A (richCompare .Lt (.int a t) (.int c u)) Q E s:=
 (PyProof.Rows.lt_int h:wpAny (model prog w) A (compareOp .Lt (.int a t) (.int c u)) Q E s)
section
open PySem.SeqAt
open PySem.AutoSeq1 (wpAny_loadPart')
open PySem.MeetsSeq PySem.MeetsSeq2 PySem.MeetsSeq3
theorem Zjr (l b:Addr) (items items2:Array Value) (n n2:Nat) (dd dd2:Option Addr) (sl sl2:Array (Option Value)) (ns ms:List Int) (hi:IntsAre items.toList ns) (hj:IntsAre items2.toList ms) :
  Meets (Builtin.«tuple.__lt__» ⟨[.ref l,.ref b],[]⟩)
   (fun _ R s=>s.heap.get? l=some { cls:=.type "tuple",dict:=dd,data:=.seq items n,slots:=sl }/\s.heap.get? b=some { cls:=.type "tuple",dict:=dd2,data:=.seq items2 n2,slots:=sl2 }/\
    R (.ok (.ret (.bool (lexLt ns ms)))) s):=
 .of_wp fun prog w A R s h=>by
  obtain ⟨hp,g,d,tk,os⟩:=s;obtain ⟨hl,hb,h⟩:=h
  have f2:=AutoSeq1.sub_tuple_tuple
  have z1:items.size=ns.length:=by rw [<-hi.length];simp
  have z2:items2.size=ms.length:=by rw [<-hj.length];simp
  wp_walk using wpAny_loadPart' hl,wpAny_loadPart' hb,wpAny_forIn_list _ (fun rest b s'=>b.1=none/\s'=⟨hp,g,d,tk,os⟩/\∃(vs ws:List Value) (ns' ms':List Int),rest=vs.zip ws/\
   IntsAre vs ns'/\IntsAre ws ms'/\ns'.length+items2.size=ms'.length+items.size/\R (.ok (.ret (.bool (lexLt ns' ms')))) ⟨hp,g,d,tk,os⟩) _
  case turn=>
   rintro ⟨y,x⟩ rest b s' ⟨hb',rfl,vs,ws,ns',ms',hz,hvi,hwi,hlen,hR⟩
   cases hvi with
   | nil=>rw [List.zip_nil_left] at hz;cases hz
   | cons a t hvi'=>
    cases hwi with
    | nil=>rw [List.zip_nil_right] at hz;cases hz
    | cons c u hwi'=>
     rw [List.zip_cons_cons] at hz
     injection hz with hyx hrest
     injection hyx with hy hx
     subst hy hx
     rw [ZmN] at hR
     simp only [List.length_cons] at hlen
     obtain ⟨e,he,hiff⟩:=ZpL A.in1 ⟨hp,g,d,tk,os⟩ a t c u
     refine wpAny_bind (he prog w _ _ ?_)
     cases e with
     | true=>
      rw [if_pos (hiff.mp rfl)] at hR
      wp_walk
      exact ⟨rfl,rfl,_,_,_,_,hrest,hvi',hwi',by omega,hR⟩
     | false=>
      rw [if_neg (fun q=>absurd (hiff.mpr q) Bool.false_ne_true)] at hR
      have hri:=ZoX A.in1 ⟨hp,g,d,tk,os⟩ a t c u prog w
      wp_walk using hri
      exact ⟨_,rfl,by simpa using hR⟩
  case fin=>
   rintro ⟨b1,b2⟩ s' ⟨hb',rfl,vs,ws,ns',ms',hz,hvi,hwi,hlen,hR⟩
   simp only at hb'
   subst hb'
   have hv:lexLt ns' ms'=decide (items.size<items2.size):=by
    cases hvi with
    | nil=>
     cases hwi with
     | nil=>
      simp only [List.length_nil] at hlen
      rw [Zjz]
      exact (decide_eq_false (by omega)).symm
     | cons c u hw=>
      simp only [List.length_nil,List.length_cons] at hlen
      rw [Ziw]
      exact (decide_eq_true (by omega)).symm
    | cons a t hv=>
     cases hwi with
     | nil=>
      simp only [List.length_nil,List.length_cons] at hlen
      rw [Zix]
      exact (decide_eq_false (by omega)).symm
     | cons c u hw=>
      rw [List.zip_cons_cons] at hz
      cases hz
   rw [hv] at hR
   wp_walk
   exact ⟨_,rfl,by simpa [Builtin.Tuple.tupleCompareSizes] using hR⟩
  case h=>
   exact ⟨rfl,rfl,items.toList,items2.toList,ns,ms,rfl,hi,hj,by omega,h⟩
end
section
variable {prog:Program} {w:World} {A:Around} {E:Value->Shared->Prop} {s:Shared}
theorem lt_tupInts {l b:Addr} {items items2:Array Value} {ns ms:List Int} {Q:Value->Shared->Prop} (hl:IsTup s.heap l items) (hb:IsTup s.heap b items2) (hi:IntsAre items.toList ns) (hj:IntsAre items2.toList ms)
  (hu:A.units<cLine) (h:Q (.bool (lexLt ns ms)) s):wpAny (model prog w) A (compareOp .Lt (.ref l) (.ref b)) Q E s:=by
 obtain ⟨⟨cls,dd,data,sl⟩,ho,hc,n,hd⟩:=id hl
 obtain ⟨⟨cls2,dd2,data2,sl2⟩,ho2,hc2,n2,hd2⟩:=id hb
 simp only at hc hd hc2 hd2
 subst hc hd hc2 hd2
 exact richCompare_meets_room (op:=.Lt) ⟨_,ho,rfl⟩ ⟨_,ho2,rfl⟩ PySem.F.slot_tuple_lt PySem.F.entry_tuple_lt (PySem.F.args_tuple_lt_2 _ _) (Zjr l b items items2 n n2 dd dd2 sl sl2 ns ms hi hj)
  ⟨ho,ho2,show Value.bool (lexLt ns ms)≠Value.notImplemented/\Q (.bool (lexLt ns ms)) s from ⟨(fun x=>nomatch x),h⟩⟩ hu
theorem cat_tup {t b:Addr} {vs ws:List Value} {Q:Value->Shared->Prop} (ht:IsTup s.heap t vs.toArray) (hb:IsTup s.heap b ws.toArray) (hv:vs≠[])
  (h1:ws=[]->Q (.ref t) s) (h2:ws≠[]->Q (.ref s.heap.objs.size) { s with heap:=s.heap.push { cls:=.type "tuple",data:=.seq (vs++ws).toArray } })
  (hsz:vs.length+ws.length<=sizeLine):wpAny (model prog w) A (binaryOp .Add (.ref t) (.ref b)) Q E s:=by
 obtain ⟨⟨cls,dd,data,sl⟩,ho,hc,n,hd⟩:=id ht
 obtain ⟨⟨cls2,dd2,data2,sl2⟩,ho2,hc2,n2,hd2⟩:=id hb
 simp only at hc hd hc2 hd2
 subst hc hd hc2 hd2
 have e:vs.toArray++ws.toArray=(vs++ws).toArray:=by simp
 by_cases hw:ws=[]
 ·exact concat_meets ⟨_,ho,rfl⟩ ⟨_,ho2,rfl⟩ noFill_tuple_add seq_tuple_add PySem.F.slot_tuple_add PySem.F.entry_tuple_add (PySem.F.args_tuple_add_2 _ _)
   (tuple_addW1 t b vs.toArray ws.toArray n n2 dd dd2 sl sl2 (by simpa using hv) (by simp [hw])) ⟨ho,ho2,h1 hw⟩
 ·refine concat_meets ⟨_,ho,rfl⟩ ⟨_,ho2,rfl⟩ noFill_tuple_add seq_tuple_add PySem.F.slot_tuple_add PySem.F.entry_tuple_add (PySem.F.args_tuple_add_2 _ _)
   (tuple_addW2 t b vs.toArray ws.toArray n n2 dd dd2 sl sl2 (by simpa using hv) (by simpa using hw) (by rw [List.size_toArray,List.size_toArray];exact hsz)) ⟨ho,ho2,?_⟩
  rw [e]
  exact h2 hw
def sIx (n d:Nat):Option Int->Nat
 | none=>d
 | some v=>if v<0 then (v+(n:Int)).toNat else min v.toNat n
theorem sIx_none (n d:Nat):sIx n d none=d:=rfl
theorem sIx_nat (n d k:Nat):sIx n d (some (k:Int))=min k n:=by
 show (if (k:Int)<0 then ((k:Int)+(n:Int)).toNat else min (k:Int).toNat n)=min k n
 rw [if_neg (by omega),Int.toNat_natCast]
theorem ZrC (n d:Nat) (hd:d<=n) (o:Option Int):sIx n d o<=n:=by
 cases o with
 | none=>exact hd
 | some v=>
  show (if v<0 then (v+(n:Int)).toNat else min v.toNat n)<=n
  by_cases hv:v<0
  ·rw [if_pos hv];omega
  ·rw [if_neg hv];exact Nat.min_le_right _ _
theorem Zmd (v:Int) (n d:Nat):(if v<0 then max (v+(n:Int)) 0 else min v (n:Int))=((sIx n d (some v):Nat):Int):=by
 show (if v<0 then max (v+(n:Int)) 0 else min v (n:Int))=(((if v<0 then (v+(n:Int)).toNat else min v.toNat n):Nat):Int)
 by_cases hv:v<0
 ·simp only [if_pos hv];omega
 ·simp only [if_neg hv];omega
theorem Znj (lo hi:Option Int) (n:Nat):Builtin.Slice.sliceAdjust lo hi 1 (n:Int)=(((sIx n 0 lo:Nat):Int),((sIx n n hi:Nat):Int)):=by
 have h1:¬((1:Int)<0):=by omega
 unfold Builtin.Slice.sliceAdjust
 simp only [h1,if_false]
 refine Prod.ext ?_ ?_
 ·cases lo with
  | none=>rfl
  | some v=>exact Zmd v n 0
 ·cases hi with
  | none=>rfl
  | some v=>exact Zmd v n n
theorem Zmy (i j:Nat):Builtin.Slice.slicePlaces (i:Int) (j:Int) 1=j-i:=by
 unfold Builtin.Slice.slicePlaces
 have h1:(1:Int) > 0:=by omega
 simp only [h1,if_true,Int.ediv_one]
 split <;> omega
theorem Zhz {v:Value} {o:Option Int} {Q:Option Int->Shared->Prop} (p:IsPart v o) (h:Q o s):wpAny (model prog w) A (Builtin.Slice.slicePartIndex v) Q E s:=by
 cases p with
 | none=>exact slicePart_none h
 | int i t=>exact slicePart_int h
theorem Zel {sl:Addr} {vl vu:Value} {lo hi:Option Int} {n:Nat} {Q:Int×Int×Nat->Shared->Prop} (hs:s.heap.IsSliceOf sl vl vu .none) (pl:IsPart vl lo) (pu:IsPart vu hi)
  (h:Q (((sIx n 0 lo:Nat):Int),1,sIx n n hi-sIx n 0 lo) s):wpAny (model prog w) A (Builtin.Slice.sliceApplied (.ref sl) (pure (n:Int))) Q E s:=by
 obtain ⟨os,hos,hcs,hds⟩:=id hs
 unfold Builtin.Slice.sliceApplied Builtin.Slice.sliceFields
 refine wpAny_bind (wpAny_bind (wpAny_field hos hds (x:=vl) rfl (wpAny_bind (wpAny_field hos hds (x:=vu) rfl (wpAny_bind (wpAny_field hos hds (x:=.none) rfl (wpAny_pure ?_)))))))
 refine wpAny_bind (slicePart_none ?_)
 show wpAny _ _ (if ((1:Int)==0)=true then _ else _) _ _ s
 rw [if_neg (by decide)]
 refine wpAny_bind (Zhz pl (wpAny_bind (Zhz pu (wpAny_bind (wpAny_pure ?_)))))
 show wpAny _ _ (match Builtin.Slice.sliceAdjust lo hi 1 (n:Int) with | (lo,hi)=>pure (lo,(1:Int),Builtin.Slice.slicePlaces lo hi 1)) _ _ s
 rw [Znj lo hi n]
 show wpAny _ _ (pure (((sIx n 0 lo:Nat):Int),(1:Int),Builtin.Slice.slicePlaces ((sIx n 0 lo:Nat):Int) ((sIx n n hi:Nat):Int) 1)) _ _ s
 rw [Zmy]
 exact wpAny_pure h
theorem Zo2 (xs:Array Value) (i k:Nat):((List.range k).filterMap fun (m:Nat)=>xs[((i:Int)+(m:Int)*1).toNat]?).toArray=((xs.toList.drop i).take k).toArray:=by
 have e:(fun (m:Nat)=>xs[((i:Int)+(m:Int)*1).toNat]?)=fun m=>xs[i+m]?:=by
  funext m
  have:((i:Int)+(m:Int)*1).toNat=i+m:=by omega
  rw [this]
 rw [e]
 have:=pick_run xs i k
 rw [List.filterMap_map] at this
 have e2:((fun x=>xs[x]?)∘fun x=>i+x)=fun m=>xs[i+m]?:=rfl
 rw [e2] at this
 rw [this]
theorem getItem_tuple_cut {t sl:Addr} {items:Array Value} {vl vu:Value} {lo hi:Option Int} {Q:Value->Shared->Prop} (ht:IsTup s.heap t items) (hs:s.heap.IsSliceOf sl vl vu .none) (pl:IsPart vl lo) (pu:IsPart vu hi)
  (hw:¬(sIx items.size 0 lo=0/\sIx items.size items.size hi=items.size))
  (h:Q (.ref s.heap.objs.size) { s with heap:=s.heap.push { cls:=.type "tuple",data:=.seq ((items.toList.drop (sIx items.size 0 lo)).take (sIx items.size items.size hi-sIx items.size 0 lo)).toArray } })
  (hsz:items.size<=sizeLine):wpAny (model prog w) A (getItem (.ref t) (.ref sl)) Q E s:=by
 have htake:sizeOk (.seq ((items.toList.drop (sIx items.size 0 lo)).take (sIx items.size items.size hi-sIx items.size 0 lo)).toArray):=by
  show ((items.toList.drop (sIx items.size 0 lo)).take (sIx items.size items.size hi-sIx items.size 0 lo)).toArray.size<=sizeLine
  rw [List.size_toArray,List.length_take,List.length_drop,Array.length_toList]
  omega
 have hj:sIx items.size items.size hi<=items.size:=ZrC _ _ (Nat.le_refl _) hi
 obtain ⟨os,hos,hcs,hds⟩:=id hs
 have hTs:s.TypeIs (.ref sl) "slice":=⟨os,hos,hcs⟩
 unfold getItem
 try with_reducible refine wpAny_holding ?_
 first | refine wpAny_bind (wpAny_pure ?_) | skip
 refine wpAny_bind (wpAny_sequenceKey ht.typeIs (by decide) ?_)
 refine wpAny_bind (wpAny_callSpecial?_slot (name:=Str.ofString "__getitem__") ht.typeIs PyProof.Rows.slot_tuple_getitem
  (wpAny_call_entry PyProof.Rows.slot_tuple_getitem ht.typeIs entry_tuple_getitem ?_ (args_tuple_getitem _ _)))
 show wpAny _ _ (Builtin.Tuple.tupleItemsOf (.ref t) >>= _) _ _ s
 refine wpAny_bind (tupleItemsOf_ ht ?_)
 refine wpAny_bind (wpAny_typeOf hTs ?_)
 rw [if_pos (by decide)]
 refine wpAny_bind (Zel hs pl pu ?_)
 have hno:¬((((sIx items.size 0 lo:Nat):Int)==0&&(1:Int)==1&&(sIx items.size items.size hi-sIx items.size 0 lo)==items.size)=true):=by
  intro q
  rw [Bool.and_eq_true,Bool.and_eq_true] at q
  have q1:((sIx items.size 0 lo:Nat):Int)=0:=eq_of_beq q.1.1
  have q2:sIx items.size items.size hi-sIx items.size 0 lo=items.size:=eq_of_beq q.2
  exact hw ⟨by omega,by omega⟩
 show wpAny _ _ (if (((sIx items.size 0 lo:Nat):Int)==0&&(1:Int)==1&&(sIx items.size items.size hi-sIx items.size 0 lo)==items.size)=true then _ else _) _ _ s
 rw [if_neg hno,Zo2]
 first
  | exact wpAny_bind (m:=Builtin.Tuple.tupleExact _) (wpAny_newObj_type (wpAny_pure ⟨_,rfl,wpAny_pure h⟩) htake)
  | exact wpAny_bind (m:=Builtin.Tuple.tupleExact _) (wpAny_newObj_type (wpAny_bind (wpAny_pure (wpAny_pure ⟨_,rfl,wpAny_pure h⟩))) htake)
  | exact wpAny_bind (wpAny_bind (m:=Builtin.Tuple.tupleExact _) (wpAny_newObj_type (wpAny_pure (wpAny_pure ⟨_,rfl,wpAny_pure h⟩)) htake))
  | exact wpAny_bind (wpAny_bind (m:=Builtin.Tuple.tupleExact _) (wpAny_newObj_type (wpAny_pure ⟨_,rfl,wpAny_pure h⟩) htake))
end
end HT
namespace L2
open PySem PySem.Spec PyProof.Rows
abbrev TO:=St->Hp->(Option Int->Hp->Prop)->Prop
def PO (X:Cx) (e:Option Expr) (t:TO):Prop:=
 ∀(pins:List (Addr×Obj)) (s:Shared) (σ:St) (H:Hp) (Q:Option Int->Hp->Prop),Inv X pins σ H s->t σ H Q->
  wpAny (model X.prog X.w) X.A (evalPart e X.env) (fun u s'=>∃o H',Inv X pins σ H' s'/\IsPart u o/\Q o H') X.xe s
def Zqk:TO:=fun _ H Q=>Q none H
def ZsL (t:TE):TO:=fun σ H Q=>t σ H fun x H1=>∃i,x=.int i/\Q (some i) H1
theorem Zbq {ns:List Int}:∀{us:List Value},Vals (ns.map V.int) us->IntsAre us ns:=by
 induction ns with
 | nil=>intro us r;rw [List.map_nil] at r;cases r;exact .nil
 | cons n ns ih=>
  intro us r
  rw [List.map_cons] at r
  cases r with
  | cons r1 r2=>
   obtain ⟨t,e⟩:=r1
   subst e
   exact .cons n t (ih r2)
section
variable {X:Cx} {e:Expr} {te:TE} {lo hi:Option Expr} {tl th:TO} {pos p2:Pos}
theorem Zqx:PO X none Zqk:=by
 intro pins s σ H Q I h
 rw [evalPart_none]
 exact wpAny_pure ⟨none,H,I,.none,h⟩
theorem Zqw (h:PE X e te):PO X (some e) (ZsL te):=by
 intro pins s σ H Q I hw
 rw [evalPart_some]
 refine thn (h pins s σ H _ I hw) fun u s1 ⟨x,H1,I1,r1,q1⟩=>?_
 obtain ⟨i,rfl,q⟩:=q1
 obtain ⟨t,rfl⟩:=r1
 exact ⟨some i,H1,I1,.int i t,q⟩
def SlR (X:Cx) (r:V->Option Int->Option Int->Hp->VK->Prop):Prop:=
 ∀(pins:List (Addr×Obj)) (s:Shared) (σ:St) (H:Hp) (x:V) (v vl vu:Value) (lo hi:Option Int) (sl:Addr) (Q:VK),Inv X pins σ H s->RelV x v->s.heap.IsSliceOf sl vl vu .none->IsPart vl lo->IsPart vu hi->r x lo hi H Q->
  ∃T id,typeLookup (.type T) "__getitem__" = pure (some (.builtin id))/\s.TypeIs v T/\wpAny (model X.prog X.w) X.A (getItem v (.ref sl)) (EP X pins σ Q) X.xe s
theorem SlR.or {r r':V->Option Int->Option Int->Hp->VK->Prop} (h:SlR X r) (h':SlR X r'):SlR X (fun x lo hi H Q=>r x lo hi H Q∨r' x lo hi H Q):=by
 intro pins s σ H x v vl vu lo hi sl Q I rx hs pl pu q
 rcases q with q | q
 ·exact h pins s σ H x v vl vu lo hi sl Q I rx hs pl pu q
 ·exact h' pins s σ H x v vl vu lo hi sl Q I rx hs pl pu q
def tSl (r:V->Option Int->Option Int->Hp->VK->Prop) (te:TE) (tl th:TO):TE:=fun σ H Q=>te σ H fun x H1=>tl σ H1 fun l H2=>th σ H2 fun u H3=>r x l u H3 Q
theorem Zo3 {r:V->Option Int->Option Int->Hp->VK->Prop} (hr:SlR X r) (he:PE X e te) (hl:PO X lo tl) (hu:PO X hi th):PE X (.Subscript e (.Slice lo hi none p2) pos) (tSl r te tl th):=by
 intro pins s σ H Q I h
 refine Subscript_ (thn (he pins s σ H _ I h) fun v s1 ⟨x,H1,I1,r1,q1⟩=>?_)
 refine wpAny_Slice (thn (hl pins s1 σ H1 _ I1 q1) fun vl s2 ⟨l,H2,I2,pl,q2⟩=>thn (hu pins s2 σ H2 _ I2 q2) fun vu s3 ⟨u,H3,I3,pu,q3⟩=>?_)
 rw [evalPart_none]
 refine wpAny_pure ?_
 have I4:Inv X pins σ H3 { s3 with heap:=s3.heap.push { cls:=.type "slice",data:=.fields #[vl,vu,.none] } }:=I3.kept (t':=s3.toks) fun b ob q=>Heap.get?_push_of_some _ q
 obtain ⟨T,id,hT,ht,hg⟩:=hr pins { s3 with heap:=s3.heap.push { cls:=.type "slice",data:=.fields #[vl,vu,.none] } } σ H3 x v vl vu l u s3.heap.objs.size Q I4 r1 (Heap.IsSliceOf.new ..) pl pu q3
 show wpAny (model X.prog X.w) X.A (subscriptTail e (.Slice lo hi none p2) v (.ref s3.heap.objs.size)) (EP X pins σ Q) X.xe { s3 with heap:=s3.heap.push { cls:=.type "slice",data:=.fields #[vl,vu,.none] } }
 exact tail_any (ops:=[.ref s3.heap.objs.size,v]) ht hT hg (by with_unfolding_all rfl)
def cutV (xs:List V) (lo hi:Option Int):List V:=(xs.drop (HT.sIx xs.length 0 lo)).take (HT.sIx xs.length xs.length hi-HT.sIx xs.length 0 lo)
theorem Zg2 (xs:List V) (lo hi:Option Int):(cutV xs lo hi).length<=xs.length:=by
 unfold cutV
 rw [List.length_take,List.length_drop]
 omega
def rSlT (K:PySem.W.Frag):V->Option Int->Option Int->Hp->VK->Prop:=fun x lo hi H Q=>∃a xs,x=.ref a/\SqT K H a xs/\
 ¬(HT.sIx xs.length 0 lo=0/\HT.sIx xs.length xs.length hi=xs.length)/\∀p,H p=none->Q (.ref p) (upd H p (.tup (cutV xs lo hi)))
theorem ZrB:SlR X (rSlT X.K):=by
 intro pins s σ H x v vl vu lo hi sl Q I rx hs pl pu h
 obtain ⟨a,xs,rfl,hx,hw,q⟩:=h
 cases rx
 obtain ⟨its,r,ht,hz⟩:=I.tuple hx
 have hlen:its.toArray.size=xs.length:=by rw [List.size_toArray];exact r.length.symm
 refine ⟨"tuple",_,PyProof.Rows.slot_tuple_getitem.lookup,ht.typeIs,?_⟩
 refine HT.getItem_tuple_cut ht hs pl pu (by rw [hlen];exact hw) ?_ (by rw [hlen];exact hz)
 rw [hlen]
 refine ⟨.ref s.heap.objs.size,_,I.laid (t':=s.toks) (o:=.tup (cutV xs lo hi)) (fun b ob q=>Heap.get?_push_of_some _ q) (Nat.le_refl _) ?_,rfl,q _ (I.hok.fresh (Nat.le_refl _))⟩
 exact ⟨Nat.le_trans (Zg2 xs lo hi) hz,_,(r.drop (HT.sIx xs.length 0 lo)).take (HT.sIx xs.length xs.length hi-HT.sIx xs.length 0 lo),TupN.new _ _⟩
def rLtT (K:PySem.W.Frag):R2:=fun x y H Q=>∃a b ns ms,x=.ref a/\y=.ref b/\SqT K H a (ns.map V.int)/\SqT K H b (ms.map V.int)/\Q (.bl (HT.lexLt ns ms)) H
theorem Zr3 (hu:X.A.units<cLine):OpR X (compareOp .Lt) (rLtT X.K):=by
 intro pins s σ H x y v u Q I rx ry h
 obtain ⟨a,b,ns,ms,rfl,rfl,ha,hb,q⟩:=h
 cases rx
 cases ry
 obtain ⟨its,r1,p1,_⟩:=I.tuple ha
 obtain ⟨its2,r2,p2,_⟩:=I.tuple hb
 have i1:IntsAre its.toArray.toList ns:=Zbq r1
 have i2:IntsAre its2.toArray.toList ms:=Zbq r2
 exact HT.lt_tupInts p1 p2 i1 i2 hu ⟨.bl (HT.lexLt ns ms),H,I,rfl,q⟩
def ZsW (K:PySem.W.Frag):R2:=fun x y H Q=>∃a b xs ys,x=.ref a/\y=.ref b/\SqT K H a xs/\SqT K H b ys/\xs≠[]/\xs.length+ys.length<=sizeLine/\
 (ys=[]->Q (.ref a) H)/\(ys≠[]->∀p,H p=none->Q (.ref p) (upd H p (.tup (xs++ys))))
theorem Vals.nil_iff {xs:List V} {us:List Value} (r:Vals xs us):us=[]↔xs=[]:=by
 cases r with
 | nil=>simp
 | cons _ _=>simp
theorem ZqR:OpR X (binaryOp .Add) (ZsW X.K):=by
 intro pins s σ H x y v u Q I rx ry h
 obtain ⟨a,b,xs,ys,rfl,rfl,ha,hb,hx,hz,q1,q2⟩:=h
 cases rx
 cases ry
 obtain ⟨its,r1,p1,_⟩:=I.tuple ha
 obtain ⟨its2,r2,p2,_⟩:=I.tuple hb
 refine HT.cat_tup p1 p2 (fun z=>hx (r1.nil_iff.mp z)) (fun z=>⟨.ref a,H,I,rfl,q1 (r2.nil_iff.mp z)⟩) (fun z=>?_) (by rw [<-r1.length,<-r2.length];exact hz)
 refine ⟨.ref s.heap.objs.size,_,I.laid (t':=s.toks) (o:=.tup (xs++ys)) (fun b ob q=>Heap.get?_push_of_some _ q) (Nat.le_refl _) ?_,rfl,q2 (fun w=>z (r2.nil_iff.mpr w)) _ (I.hok.fresh (Nat.le_refl _))⟩
 exact ⟨by rw [List.length_append];exact hz,_,r1.append r2,TupN.new _ _⟩
end
end L2
namespace L2
open PySem PySem.Spec PyProof.Rows
def ixN (n:Nat) (i:Int):Option Nat:=if 0<=i then (if i<n then some i.toNat else none) else if -(n:Int)<=i then some (i+n).toNat else none
def atI {α:Type} (xs:List α) (i:Int):Option α:=(ixN xs.length i).bind fun j=>xs[j]?
theorem Zl8 {n:Nat} {i:Int} {j:Nat} (h:ixN n i=some j):seqIndex? i n=some j/\j<n/\-(n:Int)<=i/\i<n:=by
 unfold ixN at h
 by_cases h0:0<=i
 ·rw [if_pos h0] at h
  by_cases h1:i<n
  ·rw [if_pos h1] at h
   have e:i.toNat=j:=Option.some.inj h
   exact ⟨by rw [seqIndex_of h0 h1,e],by omega,by omega,h1⟩
  ·rw [if_neg h1] at h;cases h
 ·rw [if_neg h0] at h
  by_cases h1:-(n:Int)<=i
  ·rw [if_pos h1] at h
   have e:(i+n).toNat=j:=Option.some.inj h
   exact ⟨by rw [seqIndex_neg (by omega) h1,e],by omega,h1,by omega⟩
  ·rw [if_neg h1] at h;cases h
theorem Zmi {α:Type} {xs:List α} {i:Int} {v:α} (h:atI xs i=some v):∃j,seqIndex? i xs.length=some j/\xs[j]?=some v/\j<xs.length/\-(xs.length:Int)<=i/\i<xs.length:=by
 unfold atI at h
 cases e:ixN xs.length i with
 | none=>rw [e] at h;cases h
 | some j=>
  rw [e] at h
  obtain ⟨h1,h2,h3,h4⟩:=Zl8 e
  exact ⟨j,h1,h,h2,h3,h4⟩
theorem ZbJ {α:Type} {xs:List α} {j:Nat} {v:α} (h:xs[j]?=some v):atI xs (j:Int)=some v:=by
 have hj:j<xs.length:=(List.getElem?_eq_some_iff.mp h).1
 have e:ixN xs.length (j:Int)=some j:=by
  unfold ixN
  rw [if_pos (by omega),if_pos (by omega)];simp
 unfold atI;rw [e];exact h
def Zml (b:Expr):Prop:=∀o i,subscripted b false o i=operate [o,i] (getItem o i)
def IxR (X:Cx) (r:R2):Prop:=
 ∀(value slice:Expr) (pins:List (Addr×Obj)) (s:Shared) (σ:St) (H:Hp) (x y:V) (v u:Value) (Q:VK),Inv X pins σ H s->RelV x v->RelV y u->r x y H Q->
  subscripted slice false v u=operate [v,u] (getItem v u)->wpAny (model X.prog X.w) X.A (subscriptTail value slice v u) (EP X pins σ Q) X.xe s
def MtR (X:Cx) (id:String) (r:V->List V->Hp->VK->Prop):Prop:=
 ∀(pins:List (Addr×Obj)) (s:Shared) (σ:St) (H:Hp) (x:V) (xs:List V) (v:Value) (us:List Value) (Q:VK),Inv X pins σ H s->RelV x v->Vals xs us->r x xs H Q->
  wpAny (model X.prog X.w) X.A (call (.builtin id) (v::us)) (EP X pins σ Q) X.xe s
section
variable {X:Cx} {a b:Expr} {ta tb:TE} {pos:Pos}
theorem IxR.or {r r':R2} (h:IxR X r) (h':IxR X r'):IxR X (fun x y H Q=>r x y H Q∨r' x y H Q):=by
 intro value slice pins s σ H x y v u Q I rx ry q hs
 rcases q with q | q
 ·exact h value slice pins s σ H x y v u Q I rx ry q hs
 ·exact h' value slice pins s σ H x y v u Q I rx ry q hs
theorem Zdi {r:R2} (hr:IxR X r) (ha:PE X a ta) (hb:PE X b tb) (hs:Zml b):PE X (.Subscript a b pos) (tOp r ta tb):=by
 intro pins s σ H Q I h
 exact Subscript_ (binT ha hb I h fun v u s2 x y H2 I2 rx ry q=>hr a b pins s2 σ H2 x y v u Q I2 rx ry q (hs _ _))
def rIxL (K:PySem.W.Frag):R2:=fun x y H Q=>∃p xs i v,x=.ref p/\y=.int i/\SqL K H p xs/\atI xs i=some v/\Q v H
def rIxT (K:PySem.W.Frag):R2:=fun x y H Q=>∃p xs i v,x=.ref p/\y=.int i/\SqT K H p xs/\atI xs i=some v/\Q v H
theorem Zb8:IxR X (rIxL X.K):=by
 intro value slice pins s σ H x y v u Q I rx ry h hs
 obtain ⟨p,xs,i,z,rfl,rfl,hq,he,q⟩:=h
 cases rx
 obtain ⟨t,rfl⟩:=ry
 obtain ⟨its,r,pl,hz⟩:=I.list hq
 obtain ⟨j,h1,h2,h3,h4,h5⟩:=Zmi he
 obtain ⟨w,ew,rw'⟩:=r.get h2
 have hl:=r.length
 have hn:=Zgb
 have fin:EP X pins σ Q w s:=⟨z,H,I,rw',q⟩
 by_cases h0:0<=i
 ·have hj:i.toNat=j:=by
   rw [seqIndex_of h0 h5] at h1
   exact Option.some.inj h1
  exact item_listR pl.isList h0 (by omega) (by rw [hj];simpa using ew) fin hs
 ·have hj:(i+(its.toArray.size:Int)).toNat=j:=by
   rw [seqIndex_neg (by omega) h4] at h1
   rw [List.size_toArray,<-hl]
   exact Option.some.inj h1
  exact subscriptTail_builtinR (x:=w) pl.isList.typeIs slot_list_getitem.lookup
   (wpAny_getItem_list_neg (Q:=fun r s'=>r=w/\EP X pins σ Q r s') pl.isList (by omega) (by rw [List.size_toArray] <;> omega) (by omega) (by rw [hj];simpa using ew) ⟨rfl,fin⟩) hs
theorem Zsm:IxR X (rIxT X.K):=by
 intro value slice pins s σ H x y v u Q I rx ry h hs
 obtain ⟨p,xs,i,z,rfl,rfl,hq,he,q⟩:=h
 cases rx
 obtain ⟨t,rfl⟩:=ry
 obtain ⟨its,r,pl,hz⟩:=I.tuple hq
 obtain ⟨j,h1,h2,h3,h4,h5⟩:=Zmi he
 obtain ⟨w,ew,rw'⟩:=r.get h2
 have hl:=r.length
 have hn:=Zgb
 have fin:EP X pins σ Q w s:=⟨z,H,I,rw',q⟩
 exact subscriptTail_builtinR (x:=w) pl.typeIs slot_tuple_getitem.lookup
  (getItem_tuple (j:=j) (Q:=fun r s'=>r=w/\EP X pins σ Q r s') pl (by omega) (by omega) (by rw [List.size_toArray,<-hl];exact h1) (by simpa using ew) ⟨rfl,fin⟩) hs
theorem ZmM (its:List Value) (n j:Nat) (u:Value):Obj.mapSeq (·.setIfInBounds j u) { cls:=.type "list",data:=.seq its.toArray n } = { cls:=.type "list",data:=.seq (its.set j u).toArray n }:=by
 simp [Obj.mapSeq]
theorem Inv.lst {pins:List (Addr×Obj)} {σ:St} {H:Hp} {s:Shared} {p:Addr} {xs:List V} (I:Inv X pins σ H s) (h:H p=some (.lst xs)) :
  ∃(its:List Value) (n:Nat),Vals xs its/\s.heap.get? p=some { cls:=.type "list",data:=.seq its.toArray n }/\xs.length<=sizeLine:=by
 obtain ⟨z,its,n,r,e⟩:=I.hok p _ h
 exact ⟨its,n,r,e,z⟩
theorem Inv.lstUpd {pins:List (Addr×Obj)} {σ:St} {H:Hp} {s:Shared} {p:Addr} {xs ys:List V} {its its':List Value} {n n':Nat} {f:Obj->Obj} (I:Inv X pins σ H s) (h:H p=some (.lst xs))
  (ho:s.heap.get? p=some { cls:=.type "list",data:=.seq its.toArray n }) (hf:f { cls:=.type "list",data:=.seq its.toArray n } = { cls:=.type "list",data:=.seq its'.toArray n' }) (r:Vals ys its') (hz:ys.length<=sizeLine) (t:Nat) :
  Inv X pins σ (upd H p (.lst ys)) { s with heap:=s.heap.update p f,toks:=t }:=by
 have e:(s.heap.update p f).get? p=some { cls:=.type "list",data:=.seq its'.toArray n' }:=by
  rw [Heap.get?_update_self f ho (by rw [hf] <;> rfl),hf]
 refine I.write (x:=p) (e:=p) (by rw [h];trivial) (.inl rfl) (fun b u hb q=>(Heap.get?_update_other _ _ (Ne.symm hb)).trans q) ⟨_,e⟩ ?_
 exact ⟨hz,its',n',r,e⟩
def ZhG:V->V->V->Hp->(Hp->Prop)->Prop:=fun o i v H Q=>∃p xs k j,o=.ref p/\i=.int k/\H p=some (.lst xs)/\ixN xs.length k=some j/\Q (upd H p (.lst (xs.set j v)))
theorem Zg5:PSet X ZhG:=by
 intro pins s σ H o i v ov iv u Q I ro ri rv h
 obtain ⟨p,xs,k,j,rfl,rfl,hp,hj,q⟩:=h
 cases ro
 obtain ⟨t,rfl⟩:=ri
 obtain ⟨its,n,r,ho,hz⟩:=I.lst hp
 obtain ⟨h1,h2,h3,h4⟩:=Zl8 hj
 have hl:=r.length
 have hn:=Zgb
 have I':Inv X pins σ (upd H p (.lst (xs.set j v))) { s with heap:=s.heap.update p (Obj.mapSeq (·.setIfInBounds j u)) }:=
  I.lstUpd hp ho (ZmM its n j u) (r.set rv j) (by rw [List.length_set];exact hz) s.toks
 by_cases h0:0<=k
 ·have hk:k.toNat=j:=by
   rw [seqIndex_of h0 h4] at h1
   exact Option.some.inj h1
  exact PySem.W.ki_setAt ho h0 (by omega) (by rw [List.size_toArray,<-hl];exact h4) (by rw [hk];exact ⟨_,I',q⟩)
 ·have hk:(k+(its.toArray.size:Int)).toNat=j:=by
   rw [seqIndex_neg (by omega) h3] at h1
   rw [List.size_toArray,<-hl]
   exact Option.some.inj h1
  exact PySem.W.ki_setBack ho (by omega) (by rw [List.size_toArray,<-hl];exact h3) (by omega) (by rw [hk];exact ⟨_,I',q⟩)
theorem ZjX (lo hi:Option Int) (n:Nat):(sliceBounds lo hi none n).1=((HT.sIx n 0 lo:Nat):Int)/\(sliceBounds lo hi none n).2.1=((HT.sIx n n hi:Nat):Int)/\(sliceBounds lo hi none n).2.2=1:=by
 refine ⟨?_,?_,rfl⟩
 ·cases lo with
  | none=>simp [sliceBounds,HT.sIx]
  | some i=>
   simp only [sliceBounds,HT.sIx,Option.getD_none,show (1:Int) > 0 by decide,if_true]
   by_cases h:i<0
   ·simp only [h,if_true] <;> omega
   ·simp only [h,if_false] <;> omega
 ·cases hi with
  | none=>simp [sliceBounds,HT.sIx]
  | some i=>
   simp only [sliceBounds,HT.sIx,Option.getD_none,show (1:Int) > 0 by decide,if_true]
   by_cases h:i<0
   ·simp only [h,if_true] <;> omega
   ·simp only [h,if_false] <;> omega
theorem Zju (its:List Value) (lo hi:Option Int):slicePick its.toArray lo hi none=((its.drop (HT.sIx its.length 0 lo)).take (HT.sIx its.length its.length hi-HT.sIx its.length 0 lo)).toArray:=by
 obtain ⟨h1,h2,h3⟩:=ZjX lo hi its.toArray.size
 unfold slicePick
 rw [h1,h2,h3]
 simp only [sliceRange_one,pick_run,List.size_toArray] <;> rfl
def rSlL (K:PySem.W.Frag):V->Option Int->Option Int->Hp->VK->Prop:=fun x lo hi H Q=>∃a xs,x=.ref a/\SqL K H a xs/\∀p,H p=none->Q (.ref p) (upd H p (.lst (cutV xs lo hi)))
theorem Zqp:SlR X (rSlL X.K):=by
 intro pins s σ H x v vl vu lo hi sl Q I rx hs pl pu h
 obtain ⟨a,xs,rfl,hx,q⟩:=h
 cases rx
 obtain ⟨its,r,ht,hz⟩:=I.list hx
 have hlen:=r.length
 refine ⟨"list",_,slot_list_getitem.lookup,ht.isList.typeIs,?_⟩
 refine wpAny_getItem_list_slice ht.isList hs pl pu .none (by simp) ?_ (by rw [List.size_toArray] <;> omega)
 rw [Zju,<-hlen]
 refine ⟨.ref s.heap.objs.size,_,I.laid (t':=s.toks) (o:=.lst (cutV xs lo hi)) (fun b ob q=>Heap.get?_push_of_some _ q) (Nat.le_refl _) ?_,rfl,q _ (I.hok.fresh (Nat.le_refl _))⟩
 exact ⟨Nat.le_trans (Zg2 xs lo hi) hz,_,0,(r.drop (HT.sIx xs.length 0 lo)).take (HT.sIx xs.length xs.length hi-HT.sIx xs.length 0 lo),Heap.get?_push_size _ rfl⟩
theorem ZdI:ZbY X (.builtin "len") (fun xs H Q=>∃p ys,xs=[.ref p]/\(SqL X.K H p ys∨SqT X.K H p ys)/\Q (.int ys.length) H):=by
 intro pins s σ H xs us Q I r h
 obtain ⟨p,ys,rfl,hq,q⟩:=h
 obtain ⟨u,rfl,rx⟩:=Zcj r
 cases rx
 have hn:=Zgb
 rcases hq with hq | hq
 ·obtain ⟨its,r',pl,hz⟩:=I.list hq
  have hlen:=r'.length
  exact Calls.call_len_list pl.isList (by simp only [List.size_toArray] <;> omega) ⟨.int ys.length,H,I.tok _,⟨s.toks+1,by rw [List.size_toArray,hlen]⟩,q⟩
 ·obtain ⟨its,r',pl,hz⟩:=I.tuple hq
  have hlen:=r'.length
  exact len_tuple pl (by simp only [List.size_toArray] <;> omega) ⟨.int ys.length,H,I.tok _,⟨s.toks+1,by rw [List.size_toArray,hlen]⟩,q⟩
theorem ZjG:ZbY X (.type "tuple") (fun xs H Q=>∃p ys,xs=[.ref p]/\((SqL X.K H p ys/\∀l,H l=none->Q (.ref l) (upd H l (.tup ys)))∨(SqT X.K H p ys/\Q (.ref p) H))):=by
 intro pins s σ H xs us Q I r h
 obtain ⟨p,ys,rfl,h⟩:=h
 obtain ⟨u,rfl,rx⟩:=Zcj r
 cases rx
 rcases h with ⟨hq,q⟩ | ⟨hq,q⟩
 ·obtain ⟨its,r',pl,hz⟩:=I.list hq
  have hlen:=r'.length
  refine call_tuple_list pl.isList (fun h' kp=>?_) (by simp only [List.size_toArray] <;> omega)
  have I1:Inv X pins σ H { s with heap:=h' }:=I.kept (t':=s.toks) kp
  have I2:Inv X pins σ (upd H h'.objs.size (.tup ys)) { s with heap:=h'.push { cls:=.type "tuple",data:=.seq its.toArray } }:=
   I1.laid (t':=s.toks) (fun b o e=>Heap.get?_push_of_some _ e) (Nat.le_refl _) (show Za4 X.prog X.w _ _ _ (.tup ys) from ⟨hz,its,r',TupN.new _ _⟩)
  exact ⟨.ref h'.objs.size,_,I2,rfl,q _ (I1.hok.fresh (Nat.le_refl _))⟩
 ·obtain ⟨its,r',pl,hz⟩:=I.tuple hq
  exact call_tuple_same pl ⟨.ref p,H,I,rfl,q⟩
def tyV (K:PySem.W.Frag) (T:String) (x:V) (H:Hp):Prop:=match x with
 | .str _=>T = "str"
 | .int _=>T = "int"
 | .ref p=>(T = "list"/\∃xs,SqL K H p xs)∨(T = "tuple"/\∃o,K.lookup p=some o/\o.cls=.type "tuple"/\o.dict=none)∨
   (T = "dict"/\((∃kvs,H p=some (.dK kvs))∨∃kvs,H p=some (.dT kvs)))∨(T = "set"/\∃S n,H p=some (.set S n))
 | _=>False
theorem Zrw {pins:List (Addr×Obj)} {σ:St} {H:Hp} {s:Shared} {T:String} {x:V} {v:Value} (I:Inv X pins σ H s) (r:RelV x v) (ty:tyV X.K T x H) :
  s.TypeIs v T/\∀a,v=.ref a->∃ob,s.heap.get? a=some ob/\ob.dict=none:=by
 cases x with
 | str z=>
  obtain ⟨t,rfl⟩:=r
  cases (show T = "str" from ty)
  exact ⟨typeIs_str s z t,fun _ e=>nomatch e⟩
 | int i=>
  obtain ⟨t,rfl⟩:=r
  cases (show T = "int" from ty)
  exact ⟨typeIs_int s i t,fun _ e=>nomatch e⟩
 | ref p=>
  cases r
  rcases ty with ⟨rfl,xs,hq⟩ | ⟨rfl,o,hk,hc,hd⟩ | ⟨rfl,hk⟩ | ⟨rfl,S,n,hk⟩
  ·obtain ⟨its,_,pl,_⟩:=I.list hq
   refine ⟨pl.isList.typeIs,fun a e=>?_⟩
   cases e
   obtain ⟨o,n,e,c,hd,_⟩:=pl
   exact ⟨o,e,hd⟩
  ·refine ⟨⟨o,I.kIn p o hk,hc⟩,fun a e=>?_⟩
   cases e
   exact ⟨o,I.kIn _ o hk,hd⟩
  ·have z:∃o,s.heap.get? p=some o/\o.ExactDict:=by
    rcases hk with ⟨kvs,hk⟩ | ⟨kvs,hk⟩
    ·obtain ⟨_,_,_,_,o,_,_,e,ex,_⟩:=I.hok p _ hk
     exact ⟨o,e,ex⟩
    ·obtain ⟨_,_,_,_,o,_,_,e,ex,_⟩:=I.hok p _ hk
     exact ⟨o,e,ex⟩
   obtain ⟨o,e,ex⟩:=z
   refine ⟨⟨o,e,ex.1⟩,fun a e2=>?_⟩
   cases e2
   exact ⟨o,e,ex.2.1⟩
  ·obtain ⟨o,_,_,_,e,ex,_⟩:=I.hok p _ hk
   refine ⟨⟨o,e,ex.1⟩,fun a e2=>?_⟩
   cases e2
   exact ⟨o,e,ex.2.1⟩
 | _=>exact False.elim ty
def tBM (K:PySem.W.Frag) (T:String) (r:V->List V->Hp->VK->Prop) (to:TE) (t:TA):TE:=fun σ H Q=>to σ H fun x H1=>tyV K T x H1/\t σ H1 fun xs H2=>r x xs H2 Q
variable {o e:Expr} {es:List Expr} {to:TE} {t:TA} {name:Str} {apos cpos:Pos} {T id:String} {r:V->List V->Hp->VK->Prop}
theorem ZpZ (pa:PlainAttrs T) (slot:Slot T name id) (hty:typeOf (.builtin id)=pure (.type "method_descriptor")) (hm:MtR X id r) (ho:PE X o to) (ha:PA X (e::es) t)
  (hbase:attributeBase o name X.env (eval o X.env)=eval o X.env:=by rfl)
  (hfew:((backTo cpos (starEach (e::es) X.env)).all (fun x=>!x.1)&&(backToKw cpos (keywordEach [] X.env)).all (fun x=>x.1.isSome)
   && decide ((e::es).length+([]:List Keyword).length+(if ([]:List Keyword).isEmpty then 0 else 1)<30))=true:=by rfl)
  (hline:(apos.endLine==cpos.line)=true:=by rfl) (hs:starEach (e::es) X.env=(false,eval e X.env)::starEach es X.env:=by rfl) (hplain:(backTo cpos (starEach es X.env)).any (·.1)=false:=by rfl) :
  PE X (.Call (.Attribute o name apos) (e::es) [] cpos) (tBM X.K T r to t):=by
 intro pins s σ H Q I h
 refine wpAny_Call_method_late hbase hfew hline rfl (thn (ho pins s σ H _ I h) fun v s1 ⟨x,H1,I1,r1,ty,q1⟩=>?_)
 obtain ⟨h1,h2⟩:=Zrw I1 r1 ty
 refine ⟨T,id,pa,slot,hty,h1,h2,?_⟩
 have hA:=ha cpos pins s1 σ H1 _ I1 q1
 rw [hs] at hA ⊢
 refine Calls.callWith_builtin (by show (false||(backTo cpos (starEach es X.env)).any (·.1))=false;rw [hplain] <;> rfl) (Calls.evalArgs_plain ?_)
 exact thn hA fun us s2 ⟨vs,H2,I2,r2,q2⟩=>hm pins s2 σ H2 x vs v us Q I2 r1 r2 q2
end
end L2
namespace L2
open PySem PySem.Spec PyProof.Rows
def MtM (X:Cx) (id:String) (r:V->List V->Hp->VK->Prop):Prop:=
 ∀(pins:List (Addr×Obj)) (s:Shared) (σ:St) (H:Hp) (x:V) (xs:List V) (v:Value) (us:List Value) (Q:VK),Inv X pins σ H s->RelV x v->Vals xs us->r x xs H Q->
  wpAny (model X.prog X.w) X.A (call (.builtin id) (v::us)) (EP X pins σ Q) X.xe s
theorem Vals.one:∀{x:V} {us:List Value},Vals [x] us->∃u,us=[u]/\RelV x u
 | _,_,.cons r .nil=>⟨_,rfl,r⟩
theorem Vals.two:∀{x y:V} {us:List Value},Vals [x,y] us->∃u v,us=[u,v]/\RelV x u/\RelV y v
 | _,_,_,.cons r (.cons q .nil)=>⟨_,_,rfl,r,q⟩
theorem Vals.rep {xs:List V} {us:List Value} (h:Vals xs us):∀k:Nat,Vals (List.replicate k xs).flatten (List.replicate k us).flatten
 | 0=>.nil
 | k+1=>by
  rw [List.replicate_succ,List.replicate_succ,List.flatten_cons,List.flatten_cons]
  exact Vals.append h (Vals.rep h k)
theorem Zgi (its:List Value):∀(k:Nat) (acc:List Value),
  List.foldl (fun x1 x2=>x1++x2) acc.toArray (List.replicate k its.toArray)=(acc++(List.replicate k its).flatten).toArray
 | 0,acc=>by simp
 | k+1,acc=>by
  have e:acc.toArray++its.toArray=(acc++its).toArray:=by simp
  have e2:(acc++its)++(List.replicate k its).flatten=acc++(List.replicate (k+1) its).flatten:=by
   rw [List.replicate_succ,List.flatten_cons,List.append_assoc]
  rw [<-e2,<-Zgi its k (acc++its),<-e,List.replicate_succ,List.foldl_cons]
section
variable {X:Cx} {pins:List (Addr×Obj)} {σ:St} {H:Hp} {s:Shared} {l b:Addr} {xs ys zs:List V}
theorem Inv.lset {its its':List Value} {n:Nat} {f:Array Value->Array Value} {t':Nat} (I:Inv X pins σ H s) (hH:H l=some (.lst xs))
  (e:s.heap.get? l=some { cls:=.type "list",data:=.seq its.toArray n }) (hf:f its.toArray=its'.toArray) (hv:Vals ys its') (hz:ys.length<=sizeLine) :
  Inv X pins σ (upd H l (.lst ys)) { s with heap:=s.heap.update l (Obj.mapSeq f),toks:=t' }:=by
 have q:=PySem.IsL.update e f
 rw [hf] at q
 refine I.write (x:=l) (e:=l) (by rw [hH];exact trivial) (.inl rfl) (fun b' u hb hu=>(Heap.get?_update_other s.heap (Obj.mapSeq f) (Ne.symm hb)).trans hu) ⟨_,q⟩ ?_
 exact ⟨hz,its',_,hv,q⟩
theorem Inv.lnew {its:List Value} {t':Nat} (I:Inv X pins σ H s) (hv:Vals ys its) (hz:ys.length<=sizeLine) :
  Inv X pins σ (upd H s.heap.objs.size (.lst ys)) { s with heap:=s.heap.push { cls:=.type "list",data:=.seq its.toArray },toks:=t' }:=
 I.laid (fun _ _ q=>Heap.get?_push_of_some _ q) (Nat.le_refl _) ⟨hz,its,0,hv,Heap.get?_push_size _ rfl⟩
theorem Inv.fresh (I:Inv X pins σ H s):H s.heap.objs.size=none:=I.hok.fresh (Nat.le_refl _)
theorem Inv.lstM (I:Inv X pins σ H s) (hH:H l=some (.lst xs)):xs.length<=sizeLine/\∃(its:List Value) (n:Nat),Vals xs its/\xs.length=its.length/\s.heap.get? l=some { cls:=.type "list",data:=.seq its.toArray n }:=by
 obtain ⟨z,its,n,r,e⟩:=I.hok l _ hH
 exact ⟨z,its,n,r,r.length,e⟩
theorem Zpm {n:Nat} (h:n<=sizeLine):Builtin.List.listTooLong n=false:=by
 unfold Builtin.List.listTooLong
 exact decide_eq_false (by omega)
end
section
variable {X:Cx}
def Zgo:V->List V->Hp->VK->Prop:=fun x vs H Q=>∃l xs y,x=.ref l/\vs=[y]/\H l=some (.lst xs)/\xs.length<sizeLine/\Q .non (upd H l (.lst (xs ++ [y])))
theorem Zi7:MtM X "list.append" Zgo:=by
 intro pins s σ H x vs v us Q I rx rv h
 obtain ⟨l,xs,y,rfl,rfl,hH,hz,q⟩:=h
 cases rx
 obtain ⟨u,rfl,ru⟩:=rv.one
 obtain ⟨z,its,n,r,hl,e⟩:=I.lstM hH
 refine call_meets F.slot_list_append ⟨_,e,rfl⟩ F.entry_list_append (F.args_list_append_2 _ _) (PySem.list_append l its.toArray n u (by rw [List.size_toArray];omega)) ⟨e,?_⟩
 refine ⟨.non,_,I.lset (its':=its ++ [u]) hH e (by simp) (r.append (.cons ru .nil)) ?_,rfl,q⟩
 rw [List.length_append,List.length_singleton]
 omega
def rCat:R2:=fun x y H Q=>∃l b xs zs,x=.ref l/\y=.ref b/\H l=some (.lst xs)/\H b=some (.lst zs)/\xs.length+zs.length<=sizeLine/\∀p,H p=none->Q (.ref p) (upd H p (.lst (xs++zs)))
theorem Zr7:OpR X (binaryOp .Add) rCat:=by
 intro pins s σ H x y v u Q I rx ry h
 obtain ⟨l,b,xs,zs,rfl,rfl,hH,hB,hz,q⟩:=h
 cases rx
 cases ry
 obtain ⟨z,its,n,r,hl,e⟩:=I.lstM hH
 obtain ⟨z2,its2,n2,r2,hl2,e2⟩:=I.lstM hB
 refine PySem.P.add_list e e2 ?_ (by rw [List.size_toArray,List.size_toArray];omega)
 have ea:its.toArray++its2.toArray=(its++its2).toArray:=by simp
 rw [ea]
 exact ⟨.ref _,_,I.lnew (t':=s.toks) (r.append r2) (by rw [List.length_append];omega),rfl,q _ I.fresh⟩
def rRep:R2:=fun x y H Q=>∃l k xs,x=.ref l/\y=.int k/\H l=some (.lst xs)/\-(2 ^ 63)<=k/\k<2 ^ 63/\xs.length*k.toNat<=sizeLine/\
 ∀p,H p=none->Q (.ref p) (upd H p (.lst (List.replicate k.toNat xs).flatten))
theorem ZiA {α:Type} (xs:List α) (k:Nat):(List.replicate k xs).flatten.length=k*xs.length:=by
 induction k with
 | zero=>simp
 | succ k ih=>rw [List.replicate_succ,List.flatten_cons,List.length_append,ih,Nat.succ_mul,Nat.add_comm]
theorem Zr0:OpR X (binaryOp .Mult) rRep:=by
 intro pins s σ H x y v u Q I rx ry h
 obtain ⟨l,k,xs,rfl,rfl,hH,h1,h2,hz,q⟩:=h
 cases rx
 obtain ⟨t,rfl⟩:=ry
 obtain ⟨z,its,n,r,hl,e⟩:=I.lstM hH
 have hlen:its.toArray.size*k.toNat<=sizeLine:=by rw [List.size_toArray,<-hl];exact hz
 have hcap:¬its.toArray.size*k.toNat > (2 ^ 63-1) / 8:=by
  have:(sizeLine:Nat)<=(2 ^ 63-1) / 8:=by decide
  omega
 have hfit:¬(!Builtin.List.listFitsIndex k)=true:=by
  rw [fitsIndex_both h1 h2]
  exact Bool.false_ne_true
 have hlong:¬Builtin.List.listTooLong (its.toArray.size*k.toNat)=true:=by
  rw [Zpm hlen]
  exact Bool.false_ne_true
 have hnew:List.foldl (fun x1 x2=>x1++x2) #[] (List.replicate (if its.toArray.isEmpty=true then 0 else k.toNat) its.toArray)=(List.replicate k.toNat its).flatten.toArray:=by
  have f0:∀m:Nat,List.foldl (fun x1 x2=>x1++x2) #[] (List.replicate m its.toArray)=(List.replicate m its).flatten.toArray:=fun m=>by
   have:=Zgi its m []
   rw [List.nil_append] at this
   exact this
  rw [f0]
  cases its with
  | nil=>simp
  | cons a r'=>rw [if_neg (by simp)]
 refine wpAny_binaryOp_repeat_ref (T:="list") (U:="int") (by decide) ⟨_,e,rfl⟩ (fun s'=>typeIs_int s' k t) noFill_list_mul F.fills_int_mul F.slot_int_rmul repeat_list F.slot_int_index.lookup
  (call_meets F.slot_int_rmul (typeIs_int s k t) F.entry_int_rmul (F.args_int_rmul_2 _ _) (int___rmul___int_list k t l its.toArray n)
   ⟨e,rfl,⟨_,e,rfl⟩,call_meets F.slot_list_mul ⟨_,e,rfl⟩ F.entry_list_mul (F.args_list_mul_2 _ _) (AutoListH.list___mul___list_int_3 l its.toArray n k t hfit hcap hlong) ⟨e,?_⟩⟩)
 rw [hnew]
 exact ⟨.ref _,_,I.lnew (t':=s.toks) (r.rep k.toNat) (by rw [ZiA,Nat.mul_comm];exact hz),rfl,q _ I.fresh⟩
end
section
variable {prog:Program} {w:World} {A:Around} {E:Value->Shared->Prop} {s:Shared}
end
section
variable {X:Cx}
end
end L2
namespace L2
open PySem PySem.Spec PyProof.Rows
section
variable {κ:Type} [DecidableEq κ]
def valV (kvs:List (κ×V)) (k:κ):Option V:=(kvs.find? fun kv=>decide (kv.1=k)).map (·.2)
def putK (kvs:List (κ×V)) (k:κ) (v:V):List (κ×V):=
 if (kvs.any fun kv=>decide (kv.1=k))=true then kvs.map (fun kv=>if kv.1=k then (kv.1,v) else kv) else kvs ++ [(k,v)]
theorem ZbE {p:κ×V} {r:List (κ×V)} {k:κ} (e:p.1=k):valV (p::r) k=some p.2:=by simp [valV,List.find?_cons,e]
theorem ZbF {p:κ×V} {r:List (κ×V)} {k:κ} (e:¬p.1=k):valV (p::r) k=valV r k:=by simp [valV,List.find?_cons,e]
theorem Zek (k:κ):∀kvs:List (κ×V),(kvs.any fun kv=>decide (kv.1=k))=(valV kvs k).isSome
 | []=>rfl
 | p::r=>by
  rw [List.any_cons]
  by_cases e:p.1=k
  ·simp only [ZbE e,decide_eq_true e,Bool.true_or,Option.isSome_some]
  ·rw [ZbF e,decide_eq_false e,Bool.false_or];exact Zek k r
theorem ZjS (k j:κ) (y:V):∀kvs:List (κ×V),valV (kvs.map fun kv=>if kv.1=k then (kv.1,y) else kv) j=(valV kvs j).map fun x=>if j=k then y else x
 | []=>rfl
 | p::r=>by
  have ih:=ZjS k j y r
  rw [List.map_cons]
  by_cases h:p.1=k
  ·rw [if_pos h]
   by_cases e:p.1=j
   ·rw [ZbE (p:=(p.1,y)) e,ZbE e,Option.map_some,if_pos (e.symm.trans h)]
   ·rw [ZbF (p:=(p.1,y)) e,ZbF e,ih]
  ·rw [if_neg h]
   by_cases e:p.1=j
   ·rw [ZbE (p:=p) e,ZbE e,Option.map_some,if_neg (fun z=>h (e.trans z))]
   ·rw [ZbF (p:=p) e,ZbF e,ih]
theorem ZiN (k j:κ) (y:V):∀kvs:List (κ×V),valV kvs k=none->valV (kvs ++ [(k,y)]) j=if j=k then some y else valV kvs j
 | [],_=>by
  by_cases e:k=j
  ·rw [if_pos e.symm];exact ZbE (p:=(k,y)) e
  ·rw [if_neg (fun z=>e z.symm)];exact ZbF (p:=(k,y)) e
 | p::r,hn=>by
  rw [List.cons_append]
  have hk:¬p.1=k:=fun z=>by rw [ZbE z] at hn;cases hn
  rw [ZbF hk] at hn
  have ih:=ZiN k j y r hn
  by_cases e:p.1=j
  ·rw [ZbE e,ZbE e,if_neg (fun z=>hk (e.trans z))]
  ·rw [ZbF e,ZbF e,ih]
theorem ZjR (kvs:List (κ×V)) (k j:κ) (y:V):valV (putK kvs k y) j=if j=k then some y else valV kvs j:=by
 unfold putK
 by_cases a:(kvs.any fun kv=>decide (kv.1=k))=true
 ·rw [if_pos a,ZjS]
  rw [Zek] at a
  by_cases e:j=k
  ·obtain ⟨x,hx⟩:=Option.isSome_iff_exists.mp a
   rw [if_pos e,e,hx,Option.map_some,if_pos rfl]
  ·rw [if_neg e]
   cases valV kvs j with
   | none=>rfl
   | some x=>rw [Option.map_some,if_neg e]
 ·rw [if_neg a]
  refine ZiN k j y kvs ?_
  rw [Zek] at a
  cases q:valV kvs k with
  | none=>rfl
  | some x=>rw [q] at a;exact (a rfl).elim
theorem Zcz (kvs:List (κ×V)) (k:κ) (v:V):(putK kvs k v).length<=kvs.length+1:=by
 unfold putK
 split
 ·rw [List.length_map];omega
 ·rw [List.length_append,List.length_cons,List.length_nil];omega
theorem Zj8 {kvs:List (κ×V)} {k:κ} (v:V) (h:valV kvs k=none):putK kvs k v=kvs ++ [(k,v)]:=by
 unfold putK
 rw [Zek,h]
 exact if_neg (by decide)
theorem RelO.isSome_eq {o:Option V} {u:Option Value} (r:RelO o u):o.isSome=u.isSome:=by
 cases o with
 | none=>cases u with
  | none=>rfl
  | some _=>exact (show False from r).elim
 | some _=>cases u with
  | none=>exact (show False from r).elim
  | some _=>rfl
theorem RelO.getD {o:Option V} {u:Option Value} {d:V} {d':Value} (r:RelO o u) (rd:RelV d d'):RelV (o.getD d) (u.getD d'):=by
 cases o with
 | none=>cases u with
  | none=>exact rd
  | some _=>exact (show False from r).elim
 | some _=>cases u with
  | none=>exact (show False from r).elim
  | some _=>exact r
theorem KV.val {kvs:List (κ×V)} {vs:List (κ×Value)} (r:KV kvs vs) (k:κ):RelO (valV kvs k) (valueAt vs k):=by
 unfold KV at r
 induction r with
 | nil=>exact True.intro
 | @cons p q ps qs h t ih=>
  obtain ⟨h1,h2⟩:=h
  by_cases e:p.1=k
  ·have e':q.1=k:=h1.symm.trans e
   have b:valueAt (q::qs) k=some q.2:=by simp [valueAt,List.find?_cons,e']
   rw [ZbE e,b];exact h2
  ·have e':¬q.1=k:=fun z=>e (h1.trans z)
   have b:valueAt (q::qs) k=valueAt qs k:=by simp [valueAt,List.find?_cons,e']
   rw [ZbF e,b];exact ih
theorem KV.any {kvs:List (κ×V)} {vs:List (κ×Value)} (r:KV kvs vs) (k:κ):(kvs.any fun kv=>decide (kv.1=k))=vs.any fun kv=>decide (kv.1=k):=by
 unfold KV at r
 induction r with
 | nil=>rfl
 | cons h t ih=>rw [List.any_cons,List.any_cons,ih,h.1]
theorem KV.repl {kvs:List (κ×V)} {vs:List (κ×Value)} (r:KV kvs vs) (k:κ) {y:V} {u:Value} (ry:RelV y u) :
  KV (kvs.map fun kv=>if kv.1=k then (kv.1,y) else kv) (vs.map fun kv=>if kv.1=k then (kv.1,u) else kv):=by
 unfold KV at r ⊢
 induction r with
 | nil=>exact .nil
 | @cons p q ps qs h t ih=>
  rw [List.map_cons,List.map_cons]
  refine .cons ?_ ih
  obtain ⟨h1,h2⟩:=h
  by_cases e:p.1=k
  ·rw [if_pos e,if_pos (h1.symm.trans e)];exact ⟨h1,ry⟩
  ·rw [if_neg e,if_neg (fun z=>e (h1.trans z))];exact ⟨h1,h2⟩
theorem KV.put {kvs:List (κ×V)} {vs:List (κ×Value)} (r:KV kvs vs) (k:κ) {y:V} {u:Value} (ry:RelV y u):KV (putK kvs k y) (stored vs k u):=by
 unfold putK stored
 rw [r.any k]
 by_cases e:(vs.any fun kv=>decide (kv.1=k))=true
 ·rw [if_pos e,if_pos e];exact r.repl k ry
 ·rw [if_neg e,if_neg e];exact Paired.snoc r ⟨rfl,ry⟩
theorem KV.length {kvs:List (κ×V)} {vs:List (κ×Value)} (r:KV kvs vs):kvs.length=vs.length:=Paired.length r
end
theorem ZfA {P:Program} {w:World} {k:Key} {u:Value} (r:RelV (kV k) u):(Zbm P w).is k u=true:=by
 cases k with
 | inl i=>obtain ⟨t,e⟩:=(show ∃t,u=Value.int i t from r);subst e;exact Zlr P w i t
 | inr x=>obtain ⟨t,e⟩:=(show ∃t,u=Value.str x t from r);subst e;exact Zlq P w x t
theorem Zjc {P:Program} {w:World}:∀{ks:List Key} {us:List Value},Vals (ks.map kV) us->ItemsAre (Zbm P w) ks us
 | [],_,r=>by rw [List.map_nil] at r;cases r;exact .nil
 | k::ks,_,r=>by
  rw [List.map_cons] at r
  cases r with
  | cons h t=>exact .cons (ZfA h) (Zjc t)
abbrev KT (H:Hp):List (List Key×V)->List (List Key×Addr×Value)->Prop:=Paired fun p q=>p.1=q.1/\H q.2.1=some (.tup (p.1.map kV))/\RelV p.2 q.2.2
theorem KT.val {H:Hp} {kvs:List (List Key×V)} {xs:List (List Key×Addr×Value)} (r:KT H kvs xs) (k:List Key):RelO (valV kvs k) ((atKey xs k).map (·.2)):=by
 induction r with
 | nil=>exact True.intro
 | @cons p q ps qs h t ih=>
  obtain ⟨h1,_,h2⟩:=h
  by_cases e:p.1=k
  ·have e':q.1=k:=h1.symm.trans e
   have b:atKey (q::qs) k=some q.2:=by simp [atKey,List.find?_cons,e']
   rw [ZbE e,b];exact h2
  ·have e':¬q.1=k:=fun z=>e (h1.trans z)
   have b:atKey (q::qs) k=atKey qs k:=by simp [atKey,List.find?_cons,e']
   rw [ZbF e,b];exact ih
theorem KT.repl {H:Hp} {kvs:List (List Key×V)} {xs:List (List Key×Addr×Value)} (r:KT H kvs xs) (k:List Key) {y:V} {u:Value} (ry:RelV y u) :
  KT H (kvs.map fun kv=>if kv.1=k then (kv.1,y) else kv) (xs.map (putAt k u)):=by
 induction r with
 | nil=>exact .nil
 | @cons p q ps qs h t ih=>
  rw [List.map_cons,List.map_cons]
  refine .cons ?_ ih
  obtain ⟨h1,h2,h3⟩:=h
  unfold putAt
  by_cases e:p.1=k
  ·rw [if_pos e,if_pos (h1.symm.trans e)];exact ⟨h1,h2,ry⟩
  ·rw [if_neg e,if_neg (fun z=>e (h1.trans z))];exact ⟨h1,h2,h3⟩
theorem KT.put {H:Hp} {kvs:List (List Key×V)} {xs:List (List Key×Addr×Value)} (r:KT H kvs xs) (k:List Key) {b:Addr} {y:V} {u:Value} (hb:H b=some (.tup (k.map kV))) (ry:RelV y u) :
  KT H (putK kvs k y) (storedH xs k b u):=by
 have e:(kvs.any fun kv=>decide (kv.1=k))=(atKey xs k).isSome:=by
  rw [Zek,(r.val k).isSome_eq,Option.isSome_map]
 unfold putK storedH
 rw [e]
 by_cases q:(atKey xs k).isSome=true
 ·rw [if_pos q,if_pos q];exact r.repl k ry
 ·rw [if_neg q,if_neg q];exact Paired.snoc r ⟨rfl,hb,ry⟩
theorem KT.keeps {H H':Hp} {kvs:List (List Key×V)} {xs:List (List Key×Addr×Value)} (r:KT H kvs xs) (ht:∀b ys,H b=some (.tup ys)->H' b=some (.tup ys)):KT H' kvs xs:=
 Paired.mapP r fun _ _ z=>⟨z.1,ht _ _ z.2.1,z.2.2⟩
section
variable {P:Program} {w:World} {H:Hp} {h:Heap} {a:Addr}
theorem ZpY {u:HO} (ok:HOk P w H h) (e:Rd H a u):Za4 P w H h a u:=e.ok ok
theorem Zee {kvs:List (Key×V)} (ok:HOk P w H h) (e:Rd H a (.dK kvs)):kvs.length<=sizeLine/\(a==sysModules)=false/\∃vs,KV kvs vs/\h.DictOf (Zbm P w) a vs:=
 show Za4 P w H h a (.dK kvs) from ZpY ok e
theorem Zqd {kvs:List (Key×V)} (ok:HOk P w H h) (e:H a=some (.dK kvs)):kvs.length<=sizeLine/\(a==sysModules)=false/\∃vs,KV kvs vs/\h.DictOf (Zbm P w) a vs:=Zee ok (.inl e)
theorem ZeB {ks:List Key} (ok:HOk P w H h) (e:H a=some (.tup (ks.map kV))):(tupleKind (Zbm P w)).is h ks a:=by
 obtain ⟨_,its,r,o,h1,⟨h2,n,h3⟩,_⟩:=(show Za4 P w H h a (.tup (ks.map kV)) from ok a _ e)
 exact ⟨o,its.toArray,n,h1,h2,h3,by simpa using Zjc r⟩
theorem ZfD {kvs:List (List Key×V)} (ok:HOk P w H h) (e:Rd H a (.dT kvs)):kvs.length<=sizeLine/\(a==sysModules)=false/\
  ∃xs,KT H kvs xs/\h.DictOfH (tupleKind (Zbm P w)) a xs:=by
 obtain ⟨z,y,xs,r,o,es,ep,h1,h2,h3,h4,h5⟩:=(show Za4 P w H h a (.dT kvs) from ZpY ok e)
 refine ⟨z,y,xs,r,o,es,ep,h1,h2,h3,h4,fun x hx=>?_,h5⟩
 have all:∀{l:List (List Key×V)} {m:List (List Key×Addr×Value)},KT H l m->∀x∈m,(tupleKind (Zbm P w)).is h x.1 x.2.1:=by
  intro l m q
  induction q with
  | nil=>intro x hx;exact nomatch hx
  | @cons p q ps qs hq t ih=>
   intro x hx
   rcases List.mem_cons.mp hx with e | hx
   ·subst e
    exact ZeB ok (by rw [<-hq.1];exact hq.2.1)
   ·exact ih x hx
 exact all r x hx
theorem Zqc {kvs:List (List Key×V)} (ok:HOk P w H h) (e:H a=some (.dT kvs)):kvs.length<=sizeLine/\(a==sysModules)=false/\
  ∃xs,KT H kvs xs/\h.DictOfH (tupleKind (Zbm P w)) a xs:=ZfD ok (.inl e)
end
def DGet (H:Hp) (a:Addr) (y:V) (r:Option V):Prop:=
 (∃kvs k,Rd H a (.dK kvs)/\y=kV k/\r=valV kvs k)∨∃kvs k b,Rd H a (.dT kvs)/\y=.ref b/\H b=some (.tup (k.map kV))/\r=valV kvs k
def DPut (H:Hp) (a:Addr) (y v:V) (H':Hp):Prop:=
 (∃kvs k,H a=some (.dK kvs)/\y=kV k/\kvs.length<sizeLine/\H'=upd H a (.dK (putK kvs k v)))∨
 ∃kvs k b,H a=some (.dT kvs)/\y=.ref b/\H b=some (.tup (k.map kV))/\kvs.length<sizeLine/\H'=upd H a (.dT (putK kvs k v))
theorem DGet.k {H:Hp} {a:Addr} {kvs:List (Key×V)} {k:Key} (e:H a=some (.dK kvs)):DGet H a (kV k) (valV kvs k):=.inl ⟨kvs,k,.inl e,rfl,rfl⟩
theorem DGet.t {H:Hp} {a b:Addr} {kvs:List (List Key×V)} {k:List Key} (e:H a=some (.dT kvs)) (eb:H b=some (.tup (k.map kV))):DGet H a (.ref b) (valV kvs k):=.inr ⟨kvs,k,b,.inl e,rfl,eb,rfl⟩
theorem DPut.k {H:Hp} {a:Addr} {kvs:List (Key×V)} {k:Key} {v:V} (e:H a=some (.dK kvs)) (hl:kvs.length<sizeLine):DPut H a (kV k) v (upd H a (.dK (putK kvs k v))):=.inl ⟨kvs,k,e,rfl,hl,rfl⟩
theorem DPut.t {H:Hp} {a b:Addr} {kvs:List (List Key×V)} {k:List Key} {v:V} (e:H a=some (.dT kvs)) (eb:H b=some (.tup (k.map kV))) (hl:kvs.length<sizeLine) :
  DPut H a (.ref b) v (upd H a (.dT (putK kvs k v))):=.inr ⟨kvs,k,b,e,rfl,eb,hl,rfl⟩
section
variable {X:Cx} {pins:List (Addr×Obj)} {σ:St} {H:Hp} {s:Shared} {a:Addr} {y v:V} {u r:Value} {o:Option V} {A:Around} {E:Value->Shared->Prop}
theorem Inv.big (I:Inv X pins σ H s):sysModules<s.heap.objs.size:=by
 have h:mainGlobals<s.heap.objs.size:=(I.mod.glob.keeps I.bk).lt
 exact Nat.lt_trans (by decide) h
theorem Zox {Q:Value->Shared->Prop} (hu:A.units+1<cLine) (I:Inv X pins σ H s) (g:DGet H a y (some v)) (ry:RelV y u) (h:∀w' s',Inv X pins σ H s'->RelV v w'->Q w' s') :
  wpAny (model X.prog X.w) A (getItem (.ref a) u) Q E s:=by
 rcases g with ⟨kvs,k,e,ey,l⟩ | ⟨kvs,k,b,e,ey,eb,l⟩
 ·subst ey
  obtain ⟨z,hd,vs,rel,dd⟩:=Zee I.hok e
  obtain ⟨w',hw,rw'⟩:=RelO.some_of (v:=v) (o:=valueAt vs k) (by rw [l];exact rel.val k)
  exact wpAny_getItem_of (ZfA ry) dd.mapOf hw (h w' _ (I.tok _) rw')
 ·subst ey
  cases (show u=Value.ref b from ry)
  obtain ⟨z,hd,xs,rel,dd⟩:=ZfD I.hok e
  obtain ⟨w',hw,rw'⟩:=RelO.some_of (v:=v) (o:=(atKey xs k).map (·.2)) (by rw [l];exact rel.val k)
  obtain ⟨p,hp,hp2⟩:=Option.map_eq_some_iff.mp hw
  refine wpAny_getItem_heap (tupleKind_room_in1 hu) (ZeB I.hok eb) dd hp ?_
  rw [hp2]
  exact h w' _ (I.tok _) rw'
theorem d_in {Q:Value->Shared->Prop} (hu:A.units+1<cLine) (I:Inv X pins σ H s) (g:DGet H a y o) (ry:RelV y u) (h:∀s',Inv X pins σ H s'->Q (.bool o.isSome) s') :
  wpAny (model X.prog X.w) A (compareOp .In u (.ref a)) Q E s:=by
 rcases g with ⟨kvs,k,e,ey,l⟩ | ⟨kvs,k,b,e,ey,eb,l⟩
 ·subst ey
  obtain ⟨z,hd,vs,rel,dd⟩:=Zee I.hok e
  refine wpAny_in_of (ZfA ry) hd dd.mapOf ?_
  rw [<-(rel.val k).isSome_eq,<-l]
  exact h _ (I.tok _)
 ·subst ey
  cases (show u=Value.ref b from ry)
  obtain ⟨z,hd,xs,rel,dd⟩:=ZfD I.hok e
  refine wpAny_in_heap (tupleKind_room_in1 hu) (ZeB I.hok eb) hd dd ?_
  have q:=(rel.val k).isSome_eq
  rw [Option.isSome_map] at q
  rw [<-q,<-l]
  exact h _ (I.tok _)
theorem Zro {Q:Value->Shared->Prop} (hu:A.units+1<cLine) (I:Inv X pins σ H s) (g:DGet H a y o) (ry:RelV y u) (h:∀s',Inv X pins σ H s'->Q (.bool (!o.isSome)) s') :
  wpAny (model X.prog X.w) A (compareOp .NotIn u (.ref a)) Q E s:=by
 rcases g with ⟨kvs,k,e,ey,l⟩ | ⟨kvs,k,b,e,ey,eb,l⟩
 ·subst ey
  obtain ⟨z,hd,vs,rel,dd⟩:=Zee I.hok e
  refine wpAny_notIn_of (ZfA ry) hd dd.mapOf ?_
  rw [<-(rel.val k).isSome_eq,<-l]
  exact h _ (I.tok _)
 ·subst ey
  cases (show u=Value.ref b from ry)
  obtain ⟨z,hd,xs,rel,dd⟩:=ZfD I.hok e
  refine wpAny_notIn_heap (tupleKind_room_in1 hu) (ZeB I.hok eb) hd dd ?_
  have q:=(rel.val k).isSome_eq
  rw [Option.isSome_map] at q
  rw [<-q,<-l]
  exact h _ (I.tok _)
theorem ZgB {h':Heap} {t':Nat} {ob:HO} (I:Inv X pins σ H s) (mu:Mut (H a)) (hs:Heap.SameBut a s.heap h') (he:∃q,h'.get? a=some q) (new:Za4 X.prog X.w (upd H a ob) h' a ob) :
  Inv X pins σ (upd H a ob) { s with heap:=h',toks:=t' }:=
 I.write (x:=a) (e:=a) mu (.inl rfl) (fun b q hb z=>(hs.2 b hb).trans z) he new
theorem Zov {P:Program} {w:World} {H':Hp} {h':Heap} {kvs:List (Key×V)} {vs:List (Key×Value)} (z:kvs.length<=sizeLine) (hd:(a==sysModules)=false) (rel:KV kvs vs) (dd:h'.DictOf (Zbm P w) a vs) :
  Za4 P w H' h' a (.dK kvs):=⟨z,hd,vs,rel,dd⟩
theorem Zow {H':Hp} {Q:Unit->Shared->Prop} (hu:A.units+1<cLine) (I:Inv X pins σ H s) (g:DPut H a y v H') (ry:RelV y u) (rv:RelV v r) (h:∀s',Inv X pins σ H' s'->Q () s') :
  wpAny (model X.prog X.w) A (setItem (.ref a) u r) Q E s:=by
 rcases g with ⟨kvs,k,e,ey,l,eH⟩ | ⟨kvs,k,b,e,ey,eb,l,eH⟩
 ·subst ey eH
  obtain ⟨z,hd,vs,rel,dd⟩:=Zqd I.hok e
  have hz:vs.length<=sizeLine:=by rw [<-rel.length];exact z
  have hl:(putK kvs k v).length<=sizeLine:=by have:=Zcz kvs k v;omega
  refine wpAny_setItem_pairs (hsz:=hz) (ZfA ry) dd fun h' dd' hs=>h _ ?_
  have he:∃q,h'.get? a=some q:=let ⟨q,_,_,hq,_⟩:=dd';⟨q,hq⟩
  exact ZgB I (by rw [e];exact True.intro) hs he (Zov hl hd (rel.put k rv) dd')
 ·subst ey eH
  cases (show u=Value.ref b from ry)
  obtain ⟨z,hd,xs,rel,dd⟩:=Zqc I.hok e
  have hz:xs.length<=sizeLine:=by rw [<-Paired.length rel];exact z
  have hl:(putK kvs k v).length<=sizeLine:=by have:=Zcz kvs k v;omega
  refine wpAny_setItem_heap (hsz:=hz) (tupleKind_room_in1 hu) (ZeB I.hok eb) dd fun h' dd' hs=>h _ ?_
  obtain ⟨q,es,ep,hq,h2,h3,h4,_,h5⟩:=dd'
  refine ZgB I (by rw [e];exact True.intro) hs ⟨q,hq⟩ ⟨hl,hd,_,(rel.put k eb rv).keeps fun c ys ec=>?_,q,es,ep,hq,h2,h3,h4,h5⟩
  rw [Zap (Zp4 ec e (fun z=>nomatch z))]
  exact ec
end
section
variable {X:Cx} {pins:List (Addr×Obj)} {σ:St} {H:Hp} {s:Shared} {a:Addr} {kvs:List (Key×V)} {k:Key} {u:Value} {A:Around} {E:Value->Shared->Prop}
end
def NoSl (i:Expr):Prop:=∀ov iv,subscripted i false ov iv=operate [ov,iv] (getItem ov iv)
theorem Zqm {prog:Program} {w:World} {A:Around} {E:Value->Shared->Prop} {s:Shared} {env:Env} {value slice:Expr} {pos:Pos} {T id:String} {Q:Value->Shared->Prop}
  (hl:typeLookup (.type T) "__getitem__" = pure (some (.builtin id))) (hs:NoSl slice)
  (h:wpAny (model prog w) A (eval value env) (fun o s₁=>wpAny (model prog w) A (eval slice env) (fun i s₂=>s₂.TypeIs o T/\wpAny (model prog w) A (getItem o i) Q E s₂) E s₁) E s) :
  wpAny (model prog w) A (eval (.Subscript value slice pos) env) Q E s:=by
 refine Subscript_ (wpAny_mono h (fun o s₁ h₁=>wpAny_mono h₁ (fun i s₂ h₂=>?_) fun _ _ x=>x) fun _ _ x=>x)
 obtain ⟨hT,h₂⟩:=h₂
 unfold subscriptTail
 refine wpAny_bind ?_
 rw [getitemInPython_of_ne hT.not_modules]
 refine wpAny_bind (wpAny_specialOf hT hl ?_)
 have fin:wpAny (model prog w) A (subscripted slice false o i) (fun r s₃=>wpAny (model prog w) A (letTemporaryGo value o r >>= fun _=>pure r) Q E s₃) E s₂:=by
  rw [hs o i]
  exact wpAny_operating (wpAny_mono h₂ (fun r s₃ h₃=>wpAny_bind (wpAny_letTemporaryGo (wpAny_pure h₃))) fun _ _ x=>x)
 first
  | exact wpAny_pure (wpAny_bind fin)
  | exact wpAny_bind (wpAny_pure (wpAny_bind fin))
  | exact wpAny_bind fin
theorem Zly {X:Cx} {pins:List (Addr×Obj)} {σ:St} {H:Hp} {s:Shared} {a:Addr} {y:V} {o:Option V} (I:Inv X pins σ H s) (g:DGet H a y o):s.TypeIs (.ref a) "dict":=by
 rcases g with ⟨kvs,k,e,_,_⟩ | ⟨kvs,k,b,e,_,_,_⟩
 ·obtain ⟨_,_,vs,_,dd⟩:=Zee I.hok e
  exact dd.typeIs
 ·obtain ⟨_,_,xs,_,dd⟩:=ZfD I.hok e
  exact dd.typeIs
def ZsP (td ty:TE):TE:=fun σ H Q=>td σ H fun x H1=>ty σ H1 fun y H2=>∃a v,x=.ref a/\DGet H2 a y (some v)/\Q v H2
def ZsS (td ty tv:TE):TS:=fun D σ H=>tv σ H fun v H1=>td σ H1 fun x H2=>ty σ H2 fun y H3=>∃a H4,x=.ref a/\DPut H3 a y v H4/\D.nx σ H4
section
variable {X:Cx} {o i e value:Expr} {pos pos' tpos:Pos} {td ty tv:TE}
theorem ZqD (hu:X.A.units+1<cLine) (ho:PE X o td) (hi:PE X i ty) (hs:NoSl i):PE X (.Subscript o i pos) (ZsP td ty):=by
 intro pins s σ H Q I h
 refine Zqm PySem.F.slot_dict_getitem.lookup hs (thn (ho pins s σ H _ I h) fun u s1 ⟨x,H1,I1,rx,q1⟩=>thn (hi pins s1 σ H1 _ I1 q1) fun iv s2 ⟨y,H2,I2,ry,a,v,ex,g,q2⟩=>?_)
 subst ex
 obtain rfl:u=Value.ref a:=rx
 exact ⟨Zly I2 g,Zox hu I2 g ry fun w' s3 I3 rw'=>⟨v,H2,I3,rw',q2⟩⟩
theorem Zqv (hu:X.A.units+1<cLine) (ho:PE X o td) (hi:PE X i ty) (hv:PE X value tv) (hs:swapsWith value (some (.Subscript o i pos')) pos.line X.env=pure false) :
  PS X (.Assign [.Subscript o i pos'] value pos) (ZsS td ty tv):=by
 intro pins s σ H D I h
 refine wpAny_Assign_Subscript (thn (hv pins s σ H _ I h) fun r s1 ⟨v,H1,I1,rv,q1⟩=>thn (ho pins s1 σ H1 _ I1 q1) fun u s2 ⟨x,H2,I2,rx,q2⟩=>thn (hi pins s2 σ H2 _ I2 q2) fun iv s3 ⟨y,H3,I3,ry,a,H4,ex,g,q3⟩=>?_) hs
 subst ex
 obtain rfl:u=Value.ref a:=rx
 exact Zow hu I3 g ry rv fun s4 I4=>⟨σ,H4,I4,q3⟩
end
theorem ZkU {P:Program} {w:World} {H:Hp} (h:Heap) (hb:sysModules<h.objs.size):Za4 P w H (h.push { cls:=.type "dict",data:=.dict #[] }) h.objs.size (.dK []):=
 ⟨Nat.zero_le _,beq_eq_false_iff_ne.mpr (Ne.symm (Nat.ne_of_lt hb)),[],.nil,Heap.DictOf.new h⟩
theorem ZpM {P:Program} {w:World} {H:Hp} (h:Heap) (hb:sysModules<h.objs.size):Za4 P w H (h.push { cls:=.type "dict",data:=.dict #[] }) h.objs.size (.dT []):=
 ⟨Nat.zero_le _,beq_eq_false_iff_ne.mpr (Ne.symm (Nat.ne_of_lt hb)),[],.nil,_,#[],0,Heap.get?_push_size _ rfl,⟨rfl,rfl,rfl⟩,rfl,rfl,List.nodup_nil⟩
def Zry:TE:=fun _ H Q=>∀p,H p=none->Q (.ref p) (upd H p (.dK []))
section
variable {X:Cx} {pos:Pos}
theorem Zo5:PE X (.Dict [] [] pos) Zry:=fun pins s σ H Q I h=>
 wpAny_Dict_empty ⟨.ref s.heap.objs.size,_,I.laid (a:=s.heap.objs.size) (o:=.dK []) (t':=s.toks) (fun _ _ q=>Heap.get?_push_of_some _ q) (Nat.le_refl _) (ZkU s.heap I.big),rfl,h _ (I.hok.fresh (Nat.le_refl _))⟩
end
structure M2 (X:Cx) (o:Expr) (m:Str) (apos:Pos) (e f:Expr) (cpos:Pos):Prop where
 base:attributeBase o m X.env (eval o X.env)=eval o X.env
 few:((backTo cpos (starEach [e,f] X.env)).all (fun x=>!x.1)&&(backToKw cpos (keywordEach [] X.env)).all (fun x=>x.1.isSome)
  && decide (([e,f]:List Expr).length+([]:List Keyword).length+(if ([]:List Keyword).isEmpty then 0 else 1)<30))=true
 line:(apos.endLine==cpos.line)=true
 trees:backTo cpos (starEach [e,f] X.env)=[(false,eval e X.env),(false,eval f X.env)]
def IsD (H:Hp) (a:Addr):Prop:=(∃kvs,Rd H a (.dK kvs))∨∃kvs,Rd H a (.dT kvs)
theorem Zoh {X:Cx} {pins:List (Addr×Obj)} {σ:St} {H:Hp} {s:Shared} {a:Addr} (I:Inv X pins σ H s) (d:IsD H a) :
  s.TypeIs (.ref a) "dict"/\(∀b,Value.ref a=.ref b->∃ob,s.heap.get? b=some ob/\ob.dict=none)/\(a==sysModules)=false:=by
 rcases d with ⟨kvs,e⟩ | ⟨kvs,e⟩
 ·obtain ⟨_,hd,vs,_,dd⟩:=Zee I.hok e
  refine ⟨dd.typeIs,fun b q=>?_,hd⟩
  cases q
  obtain ⟨ob,_,_,h1,h2,_⟩:=dd
  exact ⟨ob,h1,h2.2.1⟩
 ·obtain ⟨_,hd,xs,_,dd⟩:=ZfD I.hok e
  refine ⟨dd.typeIs,fun b q=>?_,hd⟩
  cases q
  obtain ⟨ob,_,_,h1,h2,_⟩:=dd
  exact ⟨ob,h1,h2.2.1⟩
section
variable {X:Cx} {pins:List (Addr×Obj)} {σ:St} {H:Hp} {s:Shared} {a:Addr} {y d:V} {u r:Value} {o:Option V} {A:Around} {E:Value->Shared->Prop}
theorem Zsy {Q:Value->Shared->Prop} (hu:A.units+1<cLine) (I:Inv X pins σ H s) (g:DGet H a y o) (ry:RelV y u) (rd:RelV d r) (h:∀w' s',Inv X pins σ H s'->RelV (o.getD d) w'->Q w' s') :
  wpAny (model X.prog X.w) A (call (.builtin "dict.get") [.ref a,u,r]) Q E s:=by
 rcases g with ⟨kvs,k,e,ey,l⟩ | ⟨kvs,k,b,e,ey,eb,l⟩
 ·subst ey
  obtain ⟨z,hd,vs,rel,dd⟩:=Zee I.hok e
  refine call_meetsIn PySem.F.slot_dict_get dd.typeIs PySem.F.entry_dict_get (PySem.F.args_dict_get_3 _ _ _) (meets_dict_get_default (Zbm X.prog X.w) a (ZfA ry) hd r) ⟨_,dd.mapOf,h _ _ (I.tok _) ?_⟩
  rw [l]
  exact (rel.val k).getD rd
 ·subst ey
  cases (show u=Value.ref b from ry)
  obtain ⟨z,hd,xs,rel,dd⟩:=ZfD I.hok e
  refine call_meetsIn PySem.F.slot_dict_get dd.typeIs PySem.F.entry_dict_get (PySem.F.args_dict_get_3 _ _ _) (meetsH_dict_get_default (tupleKind (Zbm X.prog X.w)) a b hd r) ⟨tupleKind_room_in1 hu,k,xs,ZeB I.hok eb,dd,h _ _ (I.tok _) ?_⟩
  rw [l]
  exact (rel.val k).getD rd
end
def Zrz (td ty tx:TE):TE:=fun σ H Q=>td σ H fun x H1=>∃a,x=.ref a/\IsD H1 a/\ty σ H1 fun y H2=>tx σ H2 fun z H3=>∃o,DGet H3 a y o/\Q (o.getD z) H3
section
variable {X:Cx} {o e f:Expr} {apos cpos:Pos} {td ty tx:TE}
theorem Zo6 (hu:X.A.units+1<cLine) (ho:PE X o td) (he:PE X e ty) (hf:PE X f tx) (m:M2 X o "get" apos e f cpos):PE X (.Call (.Attribute o "get" apos) [e,f] [] cpos) (Zrz td ty tx):=by
 intro pins s σ H Q I h
 refine wpAny_Call_method m.base m.few m.line PySem.F.plainAttrs_dict PySem.F.slot_dict_get PySem.F.type_dict_get (thn (ho pins s σ H _ I h) fun u s1 ⟨x,H1,I1,rx,a,ex,d,q1⟩=>?_)
 subst ex
 obtain rfl:u=Value.ref a:=rx
 obtain ⟨t1,t2,_⟩:=Zoh I1 d
 refine ⟨t1,t2,?_⟩
 rw [m.trees]
 refine Calls.callWith_builtin rfl (Calls.evalArgs_plain (Calls.spliced_cons (thn (he pins s1 σ H1 _ I1 q1) fun iv s2 ⟨y,H2,I2,ry,q2⟩=>
  Calls.spliced_cons (thn (hf pins s2 σ H2 _ I2 q2) fun fv s3 ⟨z,H3,I3,rz,ov,g,q3⟩=>Calls.spliced_nil ?_))))
 exact Zsy hu I3 g ry rz fun w' s4 I4 rw'=>⟨_,H3,I4,rw',q3⟩
end
section
variable {X:Cx} {pins:List (Addr×Obj)} {σ:St} {H:Hp} {s:Shared} {a:Addr} {kvs:List (Key×V)} {A:Around} {E:Value->Shared->Prop}
end
section
variable {X:Cx} {pins:List (Addr×Obj)} {σ:St} {H:Hp} {s:Shared} {a:Addr} {y:V} {u:Value} {A:Around} {E:Value->Shared->Prop}
end
end L2
namespace Att
open PySem PySem.W PySem.Calls PyProof.Rows
theorem ZhU {P:Params} {h:Heap}:∀(ns:List Int) (vs:List Value),WellAll P h vs (ns.map WData.int)->IntsAre vs ns:=by
 intro ns
 induction ns with
 | nil=>
  intro vs w
  rw [List.map_nil] at w
  cases w
  exact .nil
 | cons n ns ih=>
  intro vs w
  rw [List.map_cons] at w
  cases w with
  | cons a b=>
   cases a
   exact .cons _ _ (ih _ b)
theorem Znw {l:OpenLaw} {n:Nat} (hn:l.most=some n) {P:Params} {h:Heap} {args:List WData} {vals:List Value}
  (hpre:l.row.toRowW.claim.pre args=true) (hwl:WellAll P h vals args) :
  ∃a vs ns,vals=[Value.ref a]/\args=[WData.list (ns.map WData.int)]/\h.get? a=some { cls:=.type "list",data:=.seq vs.toArray }/\IntsAre vs ns/\ns.length<=n:=by
 have hsh:WShape.hasAll [] args [.list .int]=true:=(pre_splitW hpre).1
 have hc:l.pre.holds [] { args:=args }=true:=(pre_splitW hpre).2
 obtain ⟨d,r,rfl,h1,h2⟩:=hasAllW_cons hsh
 obtain rfl:=hasAllW_nil h2
 obtain ⟨xs,rfl,h3⟩:=hasW_list h1
 obtain ⟨ns,rfl⟩:=items_int h3
 have hlen:ns.length<=n:=by
  unfold OpenLaw.pre at hc
  have h4:(WTm.not (.lt (.lit (.int (n:Int))) (.len (.arg 0)))).holds [] { args:=[.list (ns.map .int)] }=true:=by
   have h4:=(holds_andW hc).1
   rw [hn] at h4
   exact h4
  have h5:=condW_of h4 (w_not (w_lt w_lit (w_len_list (w_arg rfl))))
  rw [List.length_map] at h5
  refine Nat.le_of_not_lt fun q=>?_
  have q':(n:Int)<((ns.length:Nat):Int):=by omega
  first
   | (rw [decide_eq_true q'] at h5;exact absurd h5 (by decide))
   | (simp at h5;omega)
 cases hwl with
 | cons w1 w2=>
  cases w2
  cases w1 with
  | list ho hall=>exact ⟨_,_,ns,rfl,rfl,ho,ZhU ns _ hall,hlen⟩
theorem ZnE (l:OpenLaw) (args:List WData):l.row.toRowW.claim.post args (.bool true) args=true:=
 postW_of (r:=l.row.toRowW) (X:=(true==true))
  (show WShape.has [] (.bool true) .bool=true by first | rfl | decide | simp [WShape.has,WShape.arms,WShape.armsAll])
  (show (WTm.eq .res (.lit (.bool true))).value [] { args:=args,res:=some (.bool true),after:=args }=some (.bool (true==true)) from w_eq_bool (w_res rfl) w_lit) rfl
theorem attach_call {l:OpenLaw} {n:Nat} {q:Program} {loose:List Str} {XP:(Str->Option Value)->Heap->Prop} {YP:World->Heap->Prop} {d:DefRec}
  (hn:l.most=some n) (hdf:d.params.defaults=[])
  (call:∀(w:World) (s₀ s₁:Shared) (mg mb:Str->Option Value) (fa:Addr) (o:Obj) (pm cd doc:Value) (a:Addr) (vs:List Value) (ns:List Int),
   Ground q loose [] XP w s₀ mg mb s₁.heap->YP w s₁.heap->
   s₁.heap.get? fa=some o->o.data=.func (docDef d.name d.params d.body d.scope pm cd doc)->s₁.heap.CodeRec cd d.name->mg d.name=some (.ref fa)->
   s₁.heap.get? a=some { cls:=.type "list",data:=.seq vs.toArray }->IntsAre vs ns->ns.length<=n->s₁.gens = #[]->
   codeAny (model l.prog w) callerA (.call (.ref fa) ⟨[.ref a],[]⟩) (fun r s'=>r=.ok (.ret (.bool true))/\OldK s₁.heap s'.heap/\s'.os=s₁.os/\AllBare s'.gens) s₁) :
  WalkO q loose XP YP l.row.toRowW d [] (fun f vs=>PySem.call f vs):=by
 intro w s₀ s₁ mg mb G Y fa o pm cd doc dV kV ho hd hcd hD hmg hg args vals as hpre hlay hrd hwl hlo
 obtain rfl:dV=.none:=Dflts.none hD hdf
 obtain rfl:kV=.none:=Dflts.noKw hD
 obtain ⟨a,vs,ns,rfl,rfl,hobj,hints,hlen⟩:=Znw hn hpre hwl
 refine enter_call (codeAny_mono (call w s₀ s₁ mg mb fa o pm cd doc a vs ns G Y ho (fd_plain hd) hcd hmg hobj hints hlen hg) fun r s' hq=>?_)
 obtain ⟨rfl,h2,h3,h4⟩:=hq
 exact ⟨.inl ⟨.bool true,.bool true,[],rfl,fun _=>rfl,.bool true,ZnE l _,fun _=>⟨List.Pairwise.nil,fun _ hm=>(nomatch hm)⟩⟩,h2,h3,h4⟩
section
variable {prog:Program} {w:World} {A:Around} {E:Value->Shared->Prop} {s:Shared} {K:Frag}
end
end Att
namespace L2
open PySem PySem.Spec PyProof.Rows
theorem ZiM:∀{vs:List Value} {ns:List Int},IntsAre vs ns->Vals (ns.map V.int) vs
 | _,_,.nil=>.nil
 | _,_,.cons n t h=>.cons ⟨t,rfl⟩ (ZiM h)
end L2
namespace L2
open PySem PySem.Spec PyProof.Rows
end L2
namespace L2
open PySem PySem.Spec PyProof.Rows
def ZcA (s:Stmt):Arguments:=match s with
 | .FunctionDef _ a _ _ _ _ _ _ _ _=>a
 | _=>{ posonlyargs:=[],args:=[],vararg:=none,kwonlyargs:=[],kw_defaults:=[],kwarg:=none,defaults:=[] }
def Zb9 (s:Stmt):List Stmt:=match s with
 | .FunctionDef _ _ b _ _ _ _ _ _ _=>b
 | _=>[]
def Zal (s:Stmt):Scope:=match s with
 | .FunctionDef _ _ _ _ _ _ sc _ _ _=>sc
 | _=>{ kind:=.function,names:=[],isGenerator:=false,isCoroutine:=false }
abbrev CX0:CXT:=fun _ _ _ _ _ _=>False
abbrev E0:XK:=fun _ _ _=>False
theorem Zp0 {X:Cx}:Zih CX0 X E0:=fun _ _ _ _ _ _ _ h=>h.elim
structure Fun (K:PySem.W.Frag) (x qual:Str) (st:Stmt) (f:Addr) (fd:FuncData):Prop where
 ex:∃(oc:Value) (od:Option Addr) (kV doc pm:Value) (an:Option Addr) (cdv ct:Value) (osl:Array (Option Value)),
  fd=PySem.W.fnOf x qual (ZcA st) (Zb9 st) (Zal st) .none kV doc pm an cdv ct/\K.lookup f=some ⟨oc,od,.func fd,osl⟩/\PySem.W.codeIn K cdv qual=true
 kp:PySem.W.keepIn K (.ref f)=true
section
variable {P:Program} {w:World} {K:PySem.W.Frag} {mg:Str->Option Value} {base:Heap}
theorem Fun.ok {x qual:Str} {st:Stmt} {f:Addr} {fd:FuncData} {N ps:List Str} {k:Nat} {sp:Sp} (F:Fun K x qual st f fd) (S:FnScope N ps (Zal st)) (len:∀vs H Q E,sp vs H Q E->vs.length=ps.length)
  (hbody:∀(cdv:Value) (A:Around) (outer:List Env) (s:Shared) (H:Hp) (vs:List V) (Q:VK) (E:XK),Room k (A.deeper (envOfC qual (Zal st) s.heap.objs.size f cdv))->sp vs H Q E->
   ∃t,PSs (cxOf CX0 P w K mg base N qual (Zal st) f cdv A outer s H E).nox (Zb9 st) t/\t { nx:=fun _ H'=>Q .non H',rt:=Q } (start N vs) H):FnOk P w K mg base CX0 (k+1) f fd ps sp:=by
 obtain ⟨oc,od,kV,doc,pm,an,cdv,ct,osl,rfl,lk,hcd⟩:=F.ex
 refine Zqb lk hcd S len fun A outer s H vs Q E hr hsp=>?_
 obtain ⟨t,h,q⟩:=hbody cdv A outer s H vs Q E hr hsp
 exact ⟨t,h.nox,q⟩
theorem Fun.binds {x qual:Str} {st:Stmt} {f:Addr} {fd:FuncData} {ps:List Str} (F:Fun K x qual st f fd)
  (h:∀(kV doc pm:Value) (an:Option Addr) (cdv ct:Value) (us:List Value),us.length=ps.length->bindArgs (PySem.W.fnOf x qual (ZcA st) (Zb9 st) (Zal st) .none kV doc pm an cdv ct) ⟨us,[]⟩=pure (ps.zip us)):ZcG K fd ps []:=by
 obtain ⟨oc,od,kV,doc,pm,an,cdv,ct,osl,rfl,lk,hcd⟩:=F.ex
 exact .all (h kV doc pm an cdv ct)
theorem Zss {x qual:Str} {st:Stmt} {f:Addr} {oc:Value} {od an:Option Addr} {osl:Array (Option Value)} {kV doc pm cdv ct:Value} (l:K.lookup f=some ⟨oc,od,.func (PySem.W.fnOf x qual (ZcA st) (Zb9 st) (Zal st) .none kV doc pm an cdv ct),osl⟩)
  (c:PySem.W.codeIn K cdv qual=true) (k:PySem.W.keepIn K (.ref f)=true):Fun K x qual st f (PySem.W.fnOf x qual (ZcA st) (Zb9 st) (Zal st) .none kV doc pm an cdv ct):=⟨⟨oc,od,kV,doc,pm,an,cdv,ct,osl,rfl,l,c⟩,k⟩
end
theorem hu_of {A:Around} {k:Nat} (hr:Room k A):A.units+1<cLine:=Nat.lt_of_le_of_lt (Nat.add_le_add_left (by decide:1<=64) _) hr.units
section
variable {X:Cx}
theorem pv (i:Nat) {x:Str} {pos:Pos} (hN:X.N[i]?=some x:=by rfl) (hv:Vis X.env.scope x:=by first | exact Or.inl rfl | exact Or.inr (Or.inl rfl) | exact Or.inr (Or.inr rfl)) (hd:(x==("__debug__" : Str))=false:=by decide)
  (hcd:(x==("__classdict__" : Str))=false:=by decide):PE X (.Name x pos) (tVar i):=ZrP hN hv hd hcd
end
theorem iteF {A B:Prop} (h:B):if false=true then A else B:=by
 rw [if_neg Bool.false_ne_true]
 exact h
theorem iteT {A B:Prop} (h:A):if true=true then A else B:=by
 rw [if_pos rfl]
 exact h
section
variable {X:Cx}
end
section
variable {κ:Type} [DecidableEq κ]
end
end L2
namespace L2
open PySem PySem.Spec PyProof.Rows
theorem ZlB {prog:Program} {w:World} {A:Around} {R:Result->Shared->Prop} {s:Shared} {elt target iter:Expr} {ifs:List Expr} {scope:Scope} {pos:Pos} {it acc:Value} {env:Env} (I:Nat->Shared->Prop)
  (turn:∀n s,I n s->wpAny (model prog w) A (pyNext it) (fun r s₁=>match r with
   | none=>R (.ok .next) s₁
   | some v=>wpAny (model prog w) A (letOwnedTupleGo target it v) (fun _ s₁'=>wpAny (model prog w) A (assign target env v) (fun _ s₂=>
     wpAny (model prog w) A (forIn ifs true fun c r=>if r=true then do let ok<-isTrue c env (eval c env);pure (ForInStep.yield ok) else pure (ForInStep.yield r)) (fun ok s₃=>
      if ok=true then wpAny (model prog w) A (eval elt env) (fun x s₄=>
       wpAny (model prog w) A (call (.builtin "list.append") [acc,x]) (fun _ s₅=>∃m,m<n/\I m s₅) (notedBy (model prog w) A env fun e s'=>R (.error e) s') s₄) (notedBy (model prog w) A env fun e s'=>R (.error e) s') s₃
      else ∃m,m<n/\I m s₃) (notedBy (model prog w) A env fun e s'=>R (.error e) s') s₂) (notedBy (model prog w) A env fun e s'=>R (.error e) s') s₁') (notedBy (model prog w) A env fun e s'=>R (.error e) s') s₁) (notedBy (model prog w) A env fun e s'=>R (.error e) s') s)
  (n:Nat) (h:I n s) :
  codeAny (model prog w) A (.compLoop (.ListComp elt [⟨target,iter,ifs,0⟩] scope pos) 0 it acc env) R s:=by
 refine codeAny_loop rfl I (fun n s hI=>?_) n h
 show wpAny _ A ((compTurn (.ListComp elt [⟨target,iter,ifs,0⟩] scope pos) 0 it acc env).onRaise (fun x=>do noteFrame x env;theTreesLotGoes x)) _ _ s
 refine wpAny_noted ?_
 rw [compTurn_list]
 refine wpAny_bind (wpAny_standAt (wpAny_bind (wpAny_mono (turn n s hI) (fun r s₁ h₁=>?_) fun _ _ h'=>h')))
 cases r with
 | none=>exact wpAny_pure h₁
 | some v=>
  refine wpAny_bind (wpAny_mono h₁ (fun _ s₁' h₁'=>?_) fun _ _ h'=>h')
  refine wpAny_bind (wpAny_mono h₁' (fun _ s₂ h₂=>wpAny_bind (wpAny_mono h₂ (fun ok s₃ h₃=>?_) fun _ _ h'=>h')) fun _ _ h'=>h')
  cases ok with
  | false=>exact wpAny_pure ⟨rfl,h₃⟩
  | true=>
   exact wpAny_bind (wpAny_bind (wpAny_mono h₃ (fun x s₄ h₄=>wpAny_bind (wpAny_mono h₄ (fun _ s₅ h₅=>wpAny_pure (wpAny_pure ⟨rfl,h₅⟩)) fun _ _ h'=>h')) fun _ _ h'=>h'))
def blk (X:Cx) (pins:List (Addr×Obj)) (N':List Str) (scope:Scope) (cl:List (Str×Addr)) (C:Addr) (s:Shared) (H:Hp) (fp:List Addr):Cx where
 prog:=X.prog
 w:=X.w
 K:=X.K
 mg:=X.mg
 base:=X.base
 A:=X.A
 N:=N'
 s₀:=s
 H₀:=H
 env:=compEnvC scope cl C X.env
 outer:=X.stack
 stack:=X.stack
 ex:=fp
 fn:=fun _=>false
 calm:=X.calm
 pn:=X.pn++pins
 xe:=fun _ _=>False
def PIfs (X:Cx) (ifs:List Expr) (t:TT):Prop:=
 ∀(pins:List (Addr×Obj)) (s:Shared) (σ:St) (H:Hp) (Q:Bool->Hp->Prop),Inv X pins σ H s->t σ H Q->
  wpAny (model X.prog X.w) X.A (forIn ifs true fun c r=>if r=true then do let ok<-isTrue c X.env (eval c X.env);pure (ForInStep.yield ok) else pure (ForInStep.yield r)) (TP X pins σ Q) X.xe s
def ZsJ:TT:=fun _ H Q=>Q true H
theorem Zo1 {X:Cx}:PIfs X [] ZsJ:=fun _ _ _ H _ I h=>wpAny_pure ⟨H,I,h⟩
theorem Zo0 {X:Cx} {c:Expr} {t:TT} (h:PT X c t):PIfs X [c] t:=fun pins s σ H Q I hq=>wpAny_tests_one (h pins s σ H Q I hq)
structure BlkOk (X:Cx) (N':List Str) (src:List (Option Nat)) (scope:Scope) (cl:List (Str×Addr)):Prop where
 clos:closureFor scope X.env=pure cl
 nocell:∀y∈scope.names,y.2≠.cell
 kind:scope.kind=.function
 names:∀y∈scope.names,y.2=.local->scope.names.lookup y.1=some .local
 len:src.length=N'.length
 cells:∀x c,cl.lookup x=some c->X.env.cells.lookup x=some c
 has:∀x,((relabel scope X.env).names.lookup x=some .cell∨(relabel scope X.env).names.lookup x=some .free)->∃c,cl.lookup x=some c
 from_:∀(i j:Nat) x,src[i]?=some (some j)->N'[i]?=some x->X.N[j]?=some x/\(X.env.kindOf x=some .cell∨X.env.kindOf x=some .free)/\((relabel scope X.env).names.lookup x=some .cell∨(relabel scope X.env).names.lookup x=some .free)
def ZdX (src:List (Option Nat)) (σ:St):St:=src.map fun o=>o.bind fun j=>(σ[j]?).bind id
theorem Zrq {X:Cx} {pins:List (Addr×Obj)} {σ:St} {H:Hp} {s s1:Shared} {N':List Str} {src:List (Option Nat)} {scope:Scope} {cl:List (Str×Addr)} {C:Addr} {fp:List Addr} {m:Str->Option Value}
  (B:BlkOk X N' src scope cl) (I:Inv X pins σ H s) (hf:∀b∈fp,FpOk X pins H b) (hC:s.heap.objs.size<=C) (hCf:∀b∈fp,b≠C)
  (hs:s1.os=s.os) (hg:s1.gens=s.gens) (hk:∀b o,s.heap.get? b=some o->s1.heap.get? b=some o) (hn:s1.heap.Ns C m):Inv (blk X pins N' scope cl C s H fp) [] (ZdX src σ) H s1:=by
 have noC:∀b o,s.heap.get? b=some o->b≠C:=fun b o e=>Nat.ne_of_lt (Nat.lt_of_lt_of_le (Heap.lt_size e) hC)
 refine ⟨⟨I.ok.mod,B.kind,I.ok.glob,I.ok.blt,hC,fun x y c h1 h2=>I.ok.inj x y c (B.cells _ _ h1) (B.cells _ _ h2),fun x hx=>B.has x hx,fun x c hf _=>(by cases hf),I.ok.hd,I.ok.frames,.inl rfl,fun b hb=>?_,I.bs,Nat.le_trans I.ok.bsz I.sz,fun b o e hb=>?_,fun b hb z=>?_,I.stack,I.stkFree⟩,
  hs,by rw [hg];exact I.bare,Un.kept hk,⟨m,hn,fun i x v h1 h2 h3=>?_⟩,fun x c e=>?_,I.hok.fresh hC,fun x c e=>I.freeC x c (B.cells _ _ e),fun p hp=>?_,I.hok.kept hk,?_⟩
 ·obtain ⟨f0,f1,f2,f3,f4,f5⟩:=hf b hb
  exact ⟨hCf b hb,fun x c e=>f4 x c (B.cells _ _ e)⟩
 ·obtain ⟨f0,f1,f2,f3,f4,f5⟩:=hf b hb
  rcases f3 with z | z
  ·exact I.ok.noex b o e z
  ·exact absurd (Nat.lt_of_lt_of_le (Heap.lt_size (I.ok.bs b o e).1) z) (Nat.lt_irrefl _)
 ·obtain ⟨f0,f1,f2,f3,f4,f5⟩:=hf b hb
  rcases List.mem_cons.mp (I.stkSub b z) with e | e
  ·exact f1 e
  ·exact f2 e
 ·have h2':(ZdX src σ)[i]?=some (some v):=h2
  unfold ZdX at h2'
  rw [List.getElem?_map] at h2'
  cases e:src[i]? with
  | none=>rw [e] at h2';cases h2'
  | some o=>
   rw [e] at h2'
   cases o with
   | none=>simp at h2'
   | some j=>
    obtain ⟨q1,q2,q3⟩:=B.from_ i j x e h1
    have hj:σ[j]?=some (some v):=by
     simp only [Option.map_some,Option.bind_some,Option.some.injEq] at h2'
     cases e2:σ[j]? with
     | none=>rw [e2] at h2';cases h2'
     | some o2=>rw [e2] at h2';simp at h2';rw [h2']
    obtain ⟨mm,hnn,hl⟩:=I.loc
    have vis:Vis X.env.scope x:=by
     rcases q2 with z | z
     ·exact .inr (.inl z)
     ·exact .inr (.inr z)
    obtain ⟨u,r,l⟩:=hl j x v q1 hj vis
    refine ⟨u,r,?_⟩
    rcases l with ⟨k,_⟩ | ⟨_,c,ec,z⟩
    ·rcases q2 with z | z <;> rw [z] at k <;> cases k
    ·obtain ⟨c',ec'⟩:=B.has x q3
     have ee:c'=c:=by
      have:=B.cells _ _ ec'
      rw [ec] at this
      exact (Option.some.inj this).symm
     subst ee
     obtain ⟨o,ho,hd⟩:=z
     exact .inr ⟨q3,c',ec',o,hk _ _ ho,hd⟩
 ·obtain ⟨v,o,ho,hd⟩:=I.cell x c (B.cells _ _ e)
  exact ⟨v,o,hk _ _ ho,hd⟩
 ·have hp':p∈X.pn++pins:=by simpa [blk] using hp
  obtain ⟨e,n,ne,nf,d⟩:=I.pin p hp'
  refine ⟨hk _ _ e,n,noC _ _ e,fun z=>?_,d⟩
  rcases List.mem_cons.mp (I.stkSub p.1 z) with q | q
  ·exact ne q
  ·exact nf q
 ·show (ZdX src σ).length=N'.length
  unfold ZdX
  rw [List.length_map,B.len]
def Zms (src:List (Option Nat)) (wi:TI) (g:TG) (tt:TT) (te:TE):TE:=fun σ H Q=>wi σ H fun J H1=>∀p,H1 p=none->
 ∃W:Nat->Nat->St->Hp->Prop,(∃m,W 0 m (ZdX src σ) (upd H1 p (.lst [])))/\∀i m σ2 H2,W i m σ2 H2->
  (J.stop i H2/\Q (.ref p) H2)∨(J.go i H2/\∀x H3,J.yld i H2 x H3->g x σ2 H3 fun σ4 H4=>tt σ4 H4 fun ok H5=>
   if ok=true then te σ4 H5 fun y H6=>∃xs,H6 p=some (.lst xs)/\xs.length<sizeLine/\∃m',m'<m/\W (i+1) m' σ4 (upd H6 p (.lst (xs ++ [y])))
   else ∃m',m'<m/\W (i+1) m' σ4 H5)
theorem Zji {X:Cx} {elt tg iter:Expr} {ifs:List Expr} {scope:Scope} {pos:Pos} {N':List Str} {src:List (Option Nat)} {cl:List (Str×Addr)} {g:TG} {tt:TT} {te:TE}
  {pins:List (Addr×Obj)} {σ:St} {H2:Hp} {s₂:Shared} {it:Addr} {fp:List Addr} {tn:Nat->Heap->Prop} {J:It} {Qp:Addr->Hp->Prop} {RR:Value->Addr->Result->Shared->Prop} {E:Value->Shared->Prop}
  (hc:X.calm=true) (B:BlkOk X N' src scope cl)
  (hg:∀pins C s H fp,PG (blk X pins N' scope cl C s H fp) tg g) (ht:∀pins C s H fp,PIfs (blk X pins N' scope cl C s H fp) ifs tt) (he:∀pins C s H fp,PE (blk X pins N' scope cl C s H fp) elt te)
  (I2:Inv X pins σ H2 s₂) (T:Turn X.prog X.w X.K tg J fp it tn) (st2:tn 0 s₂.heap) (f2:∀b∈fp,FpOk X pins H2 b)
  (q2:∀p,H2 p=none->∃W:Nat->Nat->St->Hp->Prop,(∃m,W 0 m (ZdX src σ) (upd H2 p (.lst [])))/\∀i m σ2 H2,W i m σ2 H2->
   (J.stop i H2/\Qp p H2)∨(J.go i H2/\∀x H3,J.yld i H2 x H3->g x σ2 H3 fun σ4 H4=>tt σ4 H4 fun ok H5=>
    if ok=true then te σ4 H5 fun y H6=>∃xs,H6 p=some (.lst xs)/\xs.length<sizeLine/\∃m',m'<m/\W (i+1) m' σ4 (upd H6 p (.lst (xs ++ [y])))
    else ∃m',m'<m/\W (i+1) m' σ4 H5))
  (hfin:∀p C s6 H5 mm,Inv X pins σ H5 s6->s6.heap.Ns C mm->FpOk X pins H5 C->Qp p H5->RR (.ref p) C (.ok .next) s6) :
  wpAny (model X.prog X.w) X.A (newList []) (fun acc s₃=>wpAny (model X.prog X.w) X.A (newFunctionEnv scope X.env.globals cl [] X.env.qual none .none (some X.env)) (fun cenv s₄=>
   codeAny (model X.prog X.w) X.A (.compStart (.ListComp elt [⟨tg,iter,ifs,0⟩] scope pos) 0 (.ref it) acc { cenv with scope:=relabel scope X.env }) (RR acc cenv.locals) s₄) E s₃) E s₂:=by
 have fpold:∀b∈fp,b<s₂.heap.objs.size:=fun b hb=>by
  obtain ⟨o,e,_⟩:=T.obj _ _ st2 b hb
  exact Heap.lt_size e
 have q2:=q2 s₂.heap.objs.size (I2.hok.fresh (Nat.le_refl _))
 obtain ⟨W,⟨m0,w0⟩,turn⟩:=q2
 -- the new list
 refine wpAny_newObj_type ?_
 have I3:Inv X pins σ (upd H2 s₂.heap.objs.size (.lst [])) { s₂ with heap:=s₂.heap.push { cls:=.type "list",dict:=none,data:=.seq ([]:List Value).toArray } }:=
  I2.lnew (t':=s₂.toks) (ys:=[]) .nil (Nat.zero_le _)
 have st3:tn 0 (s₂.heap.push { cls:=.type "list",dict:=none,data:=.seq ([]:List Value).toArray }):=T.keep _ _ _ st2 fun b _ o e=>Heap.get?_push_of_some _ e
 have f3:∀b∈fp,FpOk X pins (upd H2 s₂.heap.objs.size (.lst [])) b:=fun b hb=>by
  obtain ⟨f0,f1⟩:=f2 b hb
  exact ⟨by rw [Zap (Nat.ne_of_lt (fpold b hb))];exact f0,f1⟩
 generalize hs3:({ s₂ with heap:=s₂.heap.push { cls:=.type "list",dict:=none,data:=.seq ([]:List Value).toArray } }:Shared)=s₃ at I3
 have st3':tn 0 s₃.heap:=by rw [<-hs3];exact st3
 have lt3:s₂.heap.objs.size<s₃.heap.objs.size:=by rw [<-hs3];show _<(Heap.push _ _).objs.size;rw [Heap.size_push];exact Nat.lt_succ_self _
 refine wpAny_newFunctionEnv B.nocell (by intro y hy;simp at hy) (fun h₁ hns₁ hsb₁=>?_) B.kind
 have kp1:∀b o,s₃.heap.get? b=some o->h₁.get? b=some o:=fun b o e=>hsb₁.extBut b o (Nat.ne_of_lt (Heap.lt_size e)) (Heap.get?_push_of_some _ e)
 have I4:=Zrq (s1:={ s₃ with heap:=h₁,toks:=s₃.toks+([]:List (Str×Value)).length }) (C:=s₃.heap.objs.size) B I3 f3 (Nat.le_refl _) (fun b hb=>Nat.ne_of_lt (Nat.lt_trans (fpold b hb) lt3)) rfl rfl kp1 hns₁
 have st4:tn 0 h₁:=T.keep _ _ _ st3' fun b _ o e=>kp1 b o e
 show codeAny (model X.prog X.w) X.A (.compStart (.ListComp elt [⟨tg,iter,ifs,0⟩] scope pos) 0 (.ref it) (.ref s₂.heap.objs.size) (compEnvC scope cl s₃.heap.objs.size X.env)) (RR (.ref s₂.heap.objs.size) s₃.heap.objs.size) _
 generalize hs4:({ s₃ with heap:=h₁,toks:=s₃.toks+([]:List (Str×Value)).length }:Shared)=s₄ at I4
 have st4':tn 0 s₄.heap:=by rw [<-hs4];exact st4
 have blkX:∀{b:Addr} {H':Hp},b∈fp->H' b=none->FpOk (blk X pins N' scope cl s₃.heap.objs.size s₃ (upd H2 s₂.heap.objs.size (.lst [])) fp) [] H' b:=fun {b H'} hb hn=>by
  obtain ⟨f0,f1,f2',f3',f4',f5'⟩:=f3 b hb
  refine ⟨hn,Nat.ne_of_lt (Nat.lt_trans (fpold b hb) lt3),fun z=>?_,.inl hb,fun x c e=>f4' x c (B.cells _ _ e),fun p hp=>?_⟩
  ·rcases List.mem_cons.mp (I3.stkSub b z) with e | e
   ·exact f1 e
   ·exact f2' e
  ·exact f5' p (by simpa [blk] using hp)
 have loop:codeAny (model X.prog X.w) X.A (.compLoop (.ListComp elt [⟨tg,iter,ifs,0⟩] scope pos) 0 (.ref it) (.ref s₂.heap.objs.size) (compEnvC scope cl s₃.heap.objs.size X.env)) (RR (.ref s₂.heap.objs.size) s₃.heap.objs.size) s₄:=by
  refine ZlB (fun n s'=>∃i σ' H',Inv (blk X pins N' scope cl s₃.heap.objs.size s₃ (upd H2 s₂.heap.objs.size (.lst [])) fp) [] σ' H' s'/\tn i s'.heap/\(∀b∈fp,H' b=none)/\W i n σ' H') ?_ m0 ⟨0,_,_,I4,st4',fun b hb=>(f3 b hb).1,w0⟩
  rintro n s5 ⟨i,σ5,H5,I5,st5,fr5,w5⟩
  rcases turn i n σ5 H5 w5 with ⟨stop,qn⟩ | ⟨go,step⟩
  ·refine wpAny_mono (T.done (blk X pins N' scope cl s₃.heap.objs.size s₃ (upd H2 s₂.heap.objs.size (.lst [])) fp) rfl rfl rfl hc i [] s5 σ5 H5 (fun _ _=>False) I5 (fun b hb=>blkX hb (fr5 b hb)) st5 stop) (fun r s6 ⟨hr,I6⟩=>?_) fun _ _ f=>f.elim
   subst hr
   obtain ⟨mm,hnn,_⟩:=id I6.loc
   have nC:H5 s₃.heap.objs.size=none:=I6.free
   have J1:Inv X pins σ H5 s6:=by
    refine I3.call' (ch:=fp) I6.os I6.base I6.hok I6.bare fun b hb=>?_
    obtain ⟨f0,f1,f2',f3',f4',f5'⟩:=f3 b hb
    exact ⟨f3',f1,f4',f5'⟩
   exact hfin _ _ s6 H5 mm J1 hnn (I3.fpOk (Nat.le_refl _) nC) qn
  ·refine wpAny_mono (T.item (blk X pins N' scope cl s₃.heap.objs.size s₃ (upd H2 s₂.heap.objs.size (.lst [])) fp) rfl rfl rfl hc i [] s5 σ5 H5 (fun _ _=>False) I5 (fun b hb=>blkX hb (fr5 b hb)) st5 go) (fun r s6 ⟨u,hr,h6⟩=>?_) fun _ _ f=>f.elim
   subst hr
   refine wpAny_mono h6 (fun _ s7 ⟨x,H7,I7,r7,y7,st7,fr7⟩=>?_) fun _ _ f=>f.elim
   have I7':=I7.pinned (fun b hb=>blkX hb (fr7 b hb)) (T.obj _ _ st7)
   refine wpAny_mono (hg _ _ _ _ _ _ s7 σ5 H7 x u _ I7' r7 (step x H7 y7)) (fun _ s8 ⟨σ8,H8,I8,q8⟩=>?_) fun _ _ f=>f.elim
   refine wpAny_mono (ht _ _ _ _ _ _ s8 σ8 H8 _ I8 q8) (fun ok s9 ⟨H9,I9,q9⟩=>?_) fun _ _ f=>f.elim
   have again:∀{σ7:St} {H7:Hp} {sz:Shared},Inv (blk X pins N' scope cl s₃.heap.objs.size s₃ (upd H2 s₂.heap.objs.size (.lst [])) fp) ([]++ZfY fp s7.heap) σ7 H7 sz->(∃m',m'<n/\W (i+1) m' σ7 H7)->
     ∃m,m<n/\∃i σ' H',Inv (blk X pins N' scope cl s₃.heap.objs.size s₃ (upd H2 s₂.heap.objs.size (.lst [])) fp) [] σ' H' sz/\tn i sz.heap/\(∀b∈fp,H' b=none)/\W i m σ' H':=fun {σ7 H7 sz} Iz ⟨m',hm,wz⟩=>by
    refine ⟨m',hm,i+1,σ7,H7,Iz.unpinned,T.keep _ _ _ st7 fun b hb o e=>(Iz.pin (b,o) (List.mem_append_right _ (List.mem_append_right _ (ZcX hb e)))).1,fun b hb=>?_,wz⟩
    obtain ⟨o,e,d⟩:=T.obj _ _ st7 b hb
    exact (Iz.pin (b,o) (List.mem_append_right _ (List.mem_append_right _ (ZcX hb e)))).2.1
   cases ok with
   | false=>
    show ∃m,m<n/\_
    exact again I9 (by simpa using q9)
   | true=>
    have q9':te σ8 H9 fun y H6=>∃xs,H6 s₂.heap.objs.size=some (.lst xs)/\xs.length<sizeLine/\∃m',m'<n/\W (i+1) m' σ8 (upd H6 s₂.heap.objs.size (.lst (xs ++ [y]))):=by simpa using q9
    show wpAny _ _ _ _ _ _
    refine wpAny_mono (he _ _ _ _ _ _ s9 σ8 H9 _ I9 q9') (fun y sA ⟨yv,HA,IA,rA,xs,eA,zA,mA⟩=>?_) fun _ _ f=>f.elim
    refine wpAny_mono (Zi7 (X:=blk X pins N' scope cl s₃.heap.objs.size s₃ (upd H2 s₂.heap.objs.size (.lst [])) fp) _ sA σ8 HA (.ref s₂.heap.objs.size) [yv] (.ref s₂.heap.objs.size) [y] (fun _ HB=>HB=upd HA s₂.heap.objs.size (.lst (xs ++ [yv]))) IA rfl (.cons rA .nil) ⟨_,xs,yv,rfl,rfl,eA,zA,rfl⟩) (fun _ sB ⟨_,HB,IB,_,eB⟩=>?_) fun _ _ f=>f.elim
    subst eB
    exact again IB mA
 exact codeAny_compStart_list loop (T.self _ 0 _ _ _ st4' loop)
theorem ZqE {X:Cx} {elt tg iter:Expr} {ifs:List Expr} {scope:Scope} {pos:Pos} {N':List Str} {src:List (Option Nat)} {cl:List (Str×Addr)} {wi:TI} {g:TG} {tt:TT} {te:TE}
  (hc:X.calm=true) (B:BlkOk X N' src scope cl) (hi:PI X tg iter wi)
  (hg:∀pins C s H fp,PG (blk X pins N' scope cl C s H fp) tg g) (ht:∀pins C s H fp,PIfs (blk X pins N' scope cl C s H fp) ifs tt) (he:∀pins C s H fp,PE (blk X pins N' scope cl C s H fp) elt te)
  (hs:∀x,foldedSetIterable iter X.env x=pure x:=by intro _;rfl):PE X (.ListComp elt [⟨tg,iter,ifs,0⟩] scope pos) (Zms src wi g tt te):=by
 intro pins s σ H Q I h
 rw [eval_ListComp]
 refine wpAny_comprehension_free (use:=none) rfl hs B.clos B.kind B.names (wpAny_mono (hi pins s σ H _ I h) (fun xv s₁ h₁=>wpAny_mono h₁ (fun it s₂ h₂=>?_) fun _ _ e=>e) fun _ _ e=>e)
 obtain ⟨it,fp,tn,J,H2,e,I2,T,st2,f2,q2⟩:=h₂
 subst e
 refine Zji (RR:=fun acc C=>compPost (model X.prog X.w) X.A X.xe none (EP X pins σ Q) acc C) (Qp:=fun p H=>Q (.ref p) H) hc B hg ht he I2 T st2 f2 q2 ?_
 intro p C s6 H5 mm J1 hnn fC qn
 refine ⟨mm,hnn,fun h' sb=>?_⟩
 obtain ⟨c0,c1,c2,c3,c4,c5⟩:=fC
 exact ⟨.ref p,H5,J1.turned (t':=s6.toks) (it:=C) (fun b o hb e=>(sb.2 b hb).trans e) c0 c1 c3 c4 c5,rfl,qn⟩
theorem Zqt {X:Cx} {elt tg iter:Expr} {ifs:List Expr} {scope:Scope} {pos pos' spos:Pos} {N':List Str} {src:List (Option Nat)} {cl:List (Str×Addr)} {wi:TI} {g:TG} {tt:TT} {te:TE} {i:Nat} {x:Str}
  (hN:X.N.Nodup) (hi':X.N[i]?=some x) (hx:Loc X.env.scope x)
  (hc:X.calm=true) (B:BlkOk X N' src scope cl) (hi:PI X tg iter wi)
  (hg:∀pins C s H fp,PG (blk X pins N' scope cl C s H fp) tg g) (ht:∀pins C s H fp,PIfs (blk X pins N' scope cl C s H fp) ifs tt) (he:∀pins C s H fp,PE (blk X pins N' scope cl C s H fp) elt te)
  (hsw:swapsWith (.ListComp elt [⟨tg,iter,ifs,0⟩] scope pos) (some (.Name x pos')) spos.line X.env=pure true:=by rfl)
  (hs:∀x,foldedSetIterable iter X.env x=pure x:=by intro _;rfl)
  (hf:X.fn x=true∨X.env.scope.names.lookup x=some .local:=by first | exact .inl rfl | exact .inr rfl | assumption) :
  PS X (.Assign [.Name x pos'] (.ListComp elt [⟨tg,iter,ifs,0⟩] scope pos) spos) (fun D σ H=>Zms src wi g tt te σ H fun y H1=>D.nx (σ.set i (some y)) H1):=by
 intro pins s σ H D I h
 rw [exec_Assign_Name_used _ _ _ _ hsw]
 refine wpAny_bind (wpAny_standAt (wpAny_bind ?_))
 show wpAny _ _ (do let _<-comprehension (.ListComp elt [⟨tg,iter,ifs,0⟩] scope pos) scope X.env _ (newList []) false (eval iter X.env) (some (assign (.Name x pos') X.env))) _ _ s
 refine wpAny_bind (wpAny_mono (wpAny_comprehension_free (use:=some (assign (.Name x pos') X.env)) (Q:=fun _ s'=>SP X pins D .next s') rfl hs B.clos B.kind B.names
  (wpAny_mono (hi pins s σ H _ I h) (fun xv s₁ h₁=>wpAny_mono h₁ (fun it s₂ h₂=>?_) fun _ _ e=>e) fun _ _ e=>e)) (fun _ s' hq=>wpAny_pure (wpAny_pure hq)) fun _ _ e=>e)
 obtain ⟨it,fp,tn,J,H2,e,I2,T,st2,f2,q2⟩:=h₂
 subst e
 refine Zji (RR:=fun acc C=>compPost (model X.prog X.w) X.A X.xe (some (assign (.Name x pos') X.env)) (fun _ s'=>SP X pins D .next s') acc C) (Qp:=fun p H=>D.nx (σ.set i (some (.ref p))) H) hc B hg ht he I2 T st2 f2 q2 ?_
 intro p C s6 H5 mm J1 hnn fC qn
 obtain ⟨oC,es,ep,hoC,hdC,hrC⟩:=id hnn
 have fC':∀b∈[C],FpOk X pins H5 b:=by
  intro b hb
  have e:b=C:=by simpa using hb
  rw [e]
  exact fC
 have oC':∀b∈[C],∃o,s6.heap.get? b=some o/\∀v,o.data≠.cell v:=by
  intro b hb
  have e:b=C:=by simpa using hb
  rw [e]
  exact ⟨oC,hoC,fun v z=>by rw [hdC] at z;cases z⟩
 have J2:=J1.pinned (fp:=[C]) fC' oC'
 show wpAny _ _ (assign (.Name x pos') X.env (.ref p)) _ _ _
 refine wpAny_mono (Zgq (X:=X) (pos:=pos') hN hi' hx hf _ s6 σ H5 (.ref p) (.ref p) (fun σ' H'=>σ'=σ.set i (some (.ref p))/\H'=H5) J2 rfl ⟨rfl,rfl⟩) (fun _ s7 ⟨σ7,H7,I7,e7,e7'⟩=>?_) fun _ _ e=>e
 subst e7 e7'
 have pC:=I7.pin (C,oC) (List.mem_append_right _ (List.mem_append_right _ (ZcX (by simp) hoC)))
 refine ⟨mm,⟨oC,es,ep,pC.1,hdC,hrC⟩,fun h' sb=>?_⟩
 obtain ⟨c0,c1,c2,c3,c4,c5⟩:=fC
 exact ⟨_,_,(I7.unpinned).turned (t':=s7.toks) (it:=C) (fun b o hb e=>(sb.2 b hb).trans e) c0 c1 c3 c4 c5,qn⟩
end L2
namespace TF
open PySem PySem.Spec PyProof.Rows L2
inductive D where
 | non | bl (b:Bool) | int (i:Int) | str (x:Str) | tup (xs:List D) | lst (xs:List D)
 | dk (kvs:List (Key×V)) | dt (kvs:List (List Key×V)) | du (kvs:List (List Key×V)) | df (kvs:List (Key×V)) | pen | ty (n:String) | clo (t:Nat) (caps:List D)
abbrev St:=L2.St
abbrev Pn:=List Int×List Int
abbrev M (α:Type):=Pn->Option (α×Pn)
abbrev Rho:=List (Option D)
def mret {α:Type} (a:α):M α:=fun s=>some (a,s)
def Zan {α β:Type} (m:M α) (k:α->M β):M β:=fun s=>match m s with | none=>none | some p=>k p.1 p.2
def ZaB {α:Type}:M α:=fun _=>none
def mOf {α:Type} (o:Option α):M α:=fun s=>match o with | none=>none | some a=>some (a,s)
theorem Zai {α β:Type} {m:M α} {k:α->M β} {s s':Pn} {b:β} (h:Zan m k s=some (b,s')):∃a s1,m s=some (a,s1)/\k a s1=some (b,s'):=by
 unfold Zan at h
 cases e:m s with
 | none=>rw [e] at h;cases h
 | some p=>rw [e] at h;exact ⟨p.1,p.2,rfl,h⟩
theorem Zaq {α:Type} {a b:α} {s s':Pn} (h:mret a s=some (b,s')):b=a/\s'=s:=by
 unfold mret at h
 cases h
 exact ⟨rfl,rfl⟩
theorem Zbt {α:Type} {o:Option α} {b:α} {s s':Pn} (h:mOf o s=some (b,s')):o=some b/\s'=s:=by
 unfold mOf at h
 cases e:o with
 | none=>rw [e] at h;cases h
 | some a=>rw [e] at h;cases h;exact ⟨rfl,rfl⟩
structure Gh where
 fp:Addr->Prop
 rd:Addr->Prop
 pen:V
 st:Pn->Hp->Prop
 mono:∀s H H',st s H->(∀b o,rd b->H b=some o->H' b=some o)->(∀b φ,H b=some (.ext φ)->H' b=some (.ext φ))->st s H'
 sub:∀b,fp b->rd b
 dom:∀s H b,st s H->rd b->∃o,H b=some o
 ntp:∀s H b vs,st s H->fp b->H b≠some (.tup vs)
 clo:Nat->V->List V->Prop:=fun _ _ _=>False
mutual
def Rep (G:Gh) (H:Hp):D->V->Prop
 | .non,v=>v=.non
 | .bl b,v=>v=.bl b
 | .int i,v=>v=.int i
 | .str x,v=>v=.str x
 | .tup ds,v=>∃a vs,v=.ref a/\¬G.fp a/\H a=some (.tup vs)/\RepL G H ds vs
 | .lst ds,v=>∃a vs,v=.ref a/\¬G.fp a/\H a=some (.lst vs)/\RepL G H ds vs
 | .dk kvs,v=>∃a,v=.ref a/\¬G.fp a/\H a=some (.dK kvs)
 | .dt kvs,v=>∃a o,v=.ref a/\¬G.fp a/\H a=some (.frz o (.dT kvs))
 | .du kvs,v=>∃a,v=.ref a/\¬G.fp a/\H a=some (.dT kvs)
 | .df kvs,v=>∃a o,v=.ref a/\¬G.fp a/\H a=some (.frz o (.dK kvs))
 | .pen,v=>v=G.pen
 | .ty n,v=>v=.ty n
 | .clo t ds,v=>∃vs,G.clo t v vs/\RepL G H ds vs
def RepL (G:Gh) (H:Hp):List D->List V->Prop
 | [],vs=>vs=[]
 | d::ds,vs=>∃v r,vs=v::r/\Rep G H d v/\RepL G H ds r
end
def Ext (G:Gh) (H H':Hp):Prop:=∀b o,¬G.fp b->H b=some o->H' b=some o
theorem Ext.refl (G:Gh) (H:Hp):Ext G H H:=fun _ _ _ e=>e
theorem Ext.trans {G:Gh} {H H1 H2:Hp} (a:Ext G H H1) (b:Ext G H1 H2):Ext G H H2:=fun c o n e=>b c o n (a c o n e)
mutual
theorem Rep.ext {G:Gh} {H H':Hp} (e:Ext G H H'):∀{d:D} {v:V},Rep G H d v->Rep G H' d v
 | .non,_,h=>h
 | .bl _,_,h=>h
 | .int _,_,h=>h
 | .str _,_,h=>h
 | .tup ds,v,h=>by
  unfold Rep at h ⊢
  obtain ⟨a,vs,e1,n,e2,r⟩:=h
  exact ⟨a,vs,e1,n,e _ _ n e2,RepL.ext e r⟩
 | .lst ds,v,h=>by
  unfold Rep at h ⊢
  obtain ⟨a,vs,e1,n,e2,r⟩:=h
  exact ⟨a,vs,e1,n,e _ _ n e2,RepL.ext e r⟩
 | .dk kvs,v,h=>by
  unfold Rep at h ⊢
  obtain ⟨a,e1,n,e2⟩:=h
  exact ⟨a,e1,n,e _ _ n e2⟩
 | .dt kvs,v,h=>by
  unfold Rep at h ⊢
  obtain ⟨a,o,e1,n,e2⟩:=h
  exact ⟨a,o,e1,n,e _ _ n e2⟩
 | .df kvs,v,h=>by
  unfold Rep at h ⊢
  obtain ⟨a,o,e1,n,e2⟩:=h
  exact ⟨a,o,e1,n,e _ _ n e2⟩
 | .du kvs,v,h=>by
  unfold Rep at h ⊢
  obtain ⟨a,e1,n,e2⟩:=h
  exact ⟨a,e1,n,e _ _ n e2⟩
 | .pen,_,h=>h
 | .ty _,_,h=>h
 | .clo t ds,v,h=>by
  unfold Rep at h ⊢
  obtain ⟨vs,c,r⟩:=h
  exact ⟨vs,c,RepL.ext e r⟩
theorem RepL.ext {G:Gh} {H H':Hp} (e:Ext G H H'):∀{ds:List D} {vs:List V},RepL G H ds vs->RepL G H' ds vs
 | [],_,h=>h
 | d::ds,vs,h=>by
  unfold RepL at h ⊢
  obtain ⟨v,r,e1,r1,r2⟩:=h
  exact ⟨v,r,e1,Rep.ext e r1,RepL.ext e r2⟩
end
section
variable {G:Gh} {H:Hp}
theorem Rep.tup_iff {ds:List D} {v:V}:Rep G H (.tup ds) v↔∃a vs,v=.ref a/\¬G.fp a/\H a=some (.tup vs)/\RepL G H ds vs:=by unfold Rep;exact Iff.rfl
theorem Rep.lst_iff {ds:List D} {v:V}:Rep G H (.lst ds) v↔∃a vs,v=.ref a/\¬G.fp a/\H a=some (.lst vs)/\RepL G H ds vs:=by unfold Rep;exact Iff.rfl
theorem Rep.dk_iff {kvs:List (Key×V)} {v:V}:Rep G H (.dk kvs) v↔∃a,v=.ref a/\¬G.fp a/\H a=some (.dK kvs):=by unfold Rep;exact Iff.rfl
theorem Rep.dt_iff {kvs:List (List Key×V)} {v:V}:Rep G H (.dt kvs) v↔∃a o,v=.ref a/\¬G.fp a/\H a=some (.frz o (.dT kvs)):=by unfold Rep;exact Iff.rfl
theorem Rep.du_iff {kvs:List (List Key×V)} {v:V}:Rep G H (.du kvs) v↔∃a,v=.ref a/\¬G.fp a/\H a=some (.dT kvs):=by unfold Rep;exact Iff.rfl
theorem Rep.df_iff {kvs:List (Key×V)} {v:V}:Rep G H (.df kvs) v↔∃a o,v=.ref a/\¬G.fp a/\H a=some (.frz o (.dK kvs)):=by unfold Rep;exact Iff.rfl
theorem Rep.int_iff {i:Int} {v:V}:Rep G H (.int i) v↔v=.int i:=by unfold Rep;exact Iff.rfl
theorem Rep.bl_iff {b:Bool} {v:V}:Rep G H (.bl b) v↔v=.bl b:=by unfold Rep;exact Iff.rfl
theorem Rep.str_iff {b:Str} {v:V}:Rep G H (.str b) v↔v=.str b:=by unfold Rep;exact Iff.rfl
theorem Rep.non_iff {v:V}:Rep G H .non v↔v=.non:=by unfold Rep;exact Iff.rfl
theorem Rep.pen_iff {v:V}:Rep G H .pen v↔v=G.pen:=by unfold Rep;exact Iff.rfl
theorem Rep.ty_iff {n:String} {v:V}:Rep G H (.ty n) v↔v=.ty n:=by unfold Rep;exact Iff.rfl
theorem Rep.clo_iff {t:Nat} {ds:List D} {v:V}:Rep G H (.clo t ds) v↔∃vs,G.clo t v vs/\RepL G H ds vs:=by unfold Rep;exact Iff.rfl
theorem RepL.nil_iff {vs:List V}:RepL G H [] vs↔vs=[]:=by unfold RepL;exact Iff.rfl
theorem RepL.cons_iff {d:D} {ds:List D} {vs:List V}:RepL G H (d::ds) vs↔∃v r,vs=v::r/\Rep G H d v/\RepL G H ds r:=by
 constructor
 ·intro h;unfold RepL at h;exact h
 ·intro h;unfold RepL;exact h
theorem RepL.length:∀{ds:List D} {vs:List V},RepL G H ds vs->ds.length=vs.length
 | [],vs,h=>by rw [RepL.nil_iff.mp h];rfl
 | d::ds,vs,h=>by
  obtain ⟨v,r,rfl,_,h2⟩:=RepL.cons_iff.mp h
  simp [RepL.length h2]
theorem RepL.get:∀{ds:List D} {vs:List V} {i:Nat} {d:D},RepL G H ds vs->ds[i]?=some d->∃v,vs[i]?=some v/\Rep G H d v
 | [],_,_,_,_,e=>by simp at e
 | d::ds,vs,0,d',h,e=>by
  obtain ⟨v,r,rfl,h1,_⟩:=RepL.cons_iff.mp h
  simp at e;subst e
  exact ⟨v,rfl,h1⟩
 | d::ds,vs,i+1,d',h,e=>by
  obtain ⟨v,r,rfl,_,h2⟩:=RepL.cons_iff.mp h
  obtain ⟨u,e1,e2⟩:=RepL.get h2 (i:=i) (d:=d') (by simpa using e)
  exact ⟨u,by simpa using e1,e2⟩
theorem RepL.append:∀{ds es:List D} {vs us:List V},RepL G H ds vs->RepL G H es us->RepL G H (ds++es) (vs++us)
 | [],es,vs,us,h,h'=>by rw [RepL.nil_iff.mp h];exact h'
 | d::ds,es,vs,us,h,h'=>by
  obtain ⟨v,r,rfl,h1,h2⟩:=RepL.cons_iff.mp h
  exact RepL.cons_iff.mpr ⟨v,r++us,rfl,h1,RepL.append h2 h'⟩
theorem RepL.one {d:D} {v:V} (h:Rep G H d v):RepL G H [d] [v]:=RepL.cons_iff.mpr ⟨v,[],rfl,h,RepL.nil_iff.mpr rfl⟩
theorem RepL.cons {d:D} {v:V} {ds:List D} {vs:List V} (h:Rep G H d v) (h2:RepL G H ds vs):RepL G H (d::ds) (v::vs):=RepL.cons_iff.mpr ⟨v,vs,rfl,h,h2⟩
theorem RepL.take:∀{ds:List D} {vs:List V} (n:Nat),RepL G H ds vs->RepL G H (ds.take n) (vs.take n)
 | _,_,0,_=>RepL.nil_iff.mpr (by simp)
 | [],vs,n+1,h=>by rw [RepL.nil_iff.mp h];exact RepL.nil_iff.mpr (by simp)
 | d::ds,vs,n+1,h=>by
  obtain ⟨u,r,rfl,h1,h2⟩:=RepL.cons_iff.mp h
  exact RepL.cons h1 (RepL.take n h2)
theorem RepL.drop:∀{ds:List D} {vs:List V} (n:Nat),RepL G H ds vs->RepL G H (ds.drop n) (vs.drop n)
 | _,_,0,h=>h
 | [],vs,n+1,h=>by rw [RepL.nil_iff.mp h];exact RepL.nil_iff.mpr (by simp)
 | d::ds,vs,n+1,h=>by
  obtain ⟨u,r,rfl,h1,h2⟩:=RepL.cons_iff.mp h
  exact RepL.drop n h2
end
def Nt (o:Option HO):Prop:=∃u,o=some u/\∀vs,u≠.tup vs
theorem Nt.no {o:Option HO} (h:Nt o) (e:o=none):False:=by
 obtain ⟨u,q,_⟩:=h
 rw [e] at q;cases q
structure Gr (G:Gh) (Hf H Hf' H':Hp):Prop where
 hh:Ext G H H'
 ff:Ext G Hf Hf'
 fh:Ext G Hf' H'
 nw:∀b,¬G.fp b->Hf b=none->Nt (H b)->Hf' b=none
theorem Gr.refl {G:Gh} {Hf H:Hp} (e:Ext G Hf H):Gr G Hf H Hf H:=⟨.refl _ _,.refl _ _,e,fun _ _ h _=>h⟩
theorem Gr.trans {G:Gh} {Hf H Hf1 H1 Hf2 H2:Hp} (a:Gr G Hf H Hf1 H1) (b:Gr G Hf1 H1 Hf2 H2):Gr G Hf H Hf2 H2:=
 ⟨a.hh.trans b.hh,a.ff.trans b.ff,b.fh,fun c n h1 h2=>b.nw c n (a.nw c n h1 h2) (let ⟨u,e,nt⟩:=h2;⟨u,a.hh c u n e,nt⟩)⟩
theorem Gr.new {G:Gh} {Hf H:Hp} {p:Addr} {o:HO} (e:Ext G Hf H) (hp:H p=none) (nf:¬G.fp p):Gr G Hf H (upd Hf p o) (upd H p o) where
 hh:=fun b u n q=>by rw [Zap (Zat q hp)];exact q
 ff:=fun b u n q=>by rw [Zap (Zat (e b u n q) hp)];exact q
 fh:=fun b u n q=>by
  by_cases hb:b=p
  ·subst hb;rw [Zav] at q ⊢;exact q
  ·rw [Zap hb] at q ⊢;exact e b u n q
 nw:=fun b n h1 h2=>by
  by_cases hb:b=p
  ·subst hb;exact (h2.no hp).elim
  ·rw [Zap hb];exact h1
theorem Gh.nofp {G:Gh} {s:Pn} {H:Hp} {p:Addr} (h:G.st s H) (hp:H p=none):¬G.fp p:=fun f=>by
 obtain ⟨o,e⟩:=G.dom s H p h (G.sub p f)
 rw [hp] at e;cases e
theorem Gh.nord {G:Gh} {s:Pn} {H:Hp} {p:Addr} (h:G.st s H) (hp:H p=none):¬G.rd p:=fun f=>by
 obtain ⟨o,e⟩:=G.dom s H p h f
 rw [hp] at e;cases e
theorem Gh.grow {G:Gh} {s:Pn} {H:Hp} {p:Addr} {o:HO} (h:G.st s H) (hp:H p=none):G.st s (upd H p o):=G.mono s H _ h (fun b u _ q=>by
 rw [Zap (Zat q hp)];exact q) fun b φ q=>by
 rw [Zap (Zat q hp)];exact q
def ZfB:D->Prop
 | .lst _=>True
 | .dk _=>True
 | .dt _=>True
 | .du _=>True
 | _=>False
def ZaJ (G:Gh) (H Hf':Hp) (d:D) (v:V):Prop:=∀a,v=.ref a->ZfB d->H a=none/\∀ds,d=.lst ds->∃vs Hm,Hf' a=some (.lst vs)/\Hm a=none/\Ext G Hm Hf'/\RepL G Hm ds vs
theorem ZaJ.old {G:Gh} {H H' Hf':Hp} {d:D} {v:V} (e:Ext G H H') (r:∀a,v=.ref a->ZfB d->¬G.fp a) (h:ZaJ G H' Hf' d v):ZaJ G H Hf' d v:=fun a ea m=>by
 refine ⟨?_,(h a ea m).2⟩
 cases q:H a with
 | none=>rfl
 | some o=>
  have:=e a o (r a ea m) q
  rw [(h a ea m).1] at this;cases this
theorem Rep.nofp {G:Gh} {H:Hp} {d:D} {v:V} (r:Rep G H d v):∀a,v=.ref a->ZfB d->¬G.fp a:=fun a e m=>by
 cases d with
 | lst ds=>obtain ⟨b,vs,e1,n,_⟩:=Rep.lst_iff.mp r;rw [e] at e1;cases e1;exact n
 | dk ds=>obtain ⟨b,e1,n,_⟩:=Rep.dk_iff.mp r;rw [e] at e1;cases e1;exact n
 | dt ds=>obtain ⟨b,_,e1,n,_⟩:=Rep.dt_iff.mp r;rw [e] at e1;cases e1;exact n
 | du ds=>obtain ⟨b,e1,n,_⟩:=Rep.du_iff.mp r;rw [e] at e1;cases e1;exact n
 | _=>exact m.elim
def EnvR (G:Gh) (H:Hp) (σ:St) (ρ:Rho):Prop:=∀(i:Nat) (d:D),ρ[i]?=some (some d)->∃v,σ[i]?=some (some v)/\Rep G H d v
theorem EnvR.ext {G:Gh} {H H':Hp} {σ:St} {ρ:Rho} (h:EnvR G H σ ρ) (e:Ext G H H'):EnvR G H' σ ρ:=fun i d q=>let ⟨v,a,b⟩:=h i d q;⟨v,a,b.ext e⟩
def PD (X:Cx) (G:Gh) (fr:Bool) (e:Expr) (f:Rho->M D):Prop:=
 ∃t,PE X e t/\∀(σ:St) (Hf H:Hp) (ρ:Rho) (s:Pn) (d:D) (s':Pn) (Q:VK),Ext G Hf H->EnvR G Hf σ ρ->G.st s H->f ρ s=some (d,s')->
  (∀v Hf' H',Gr G Hf H Hf' H'->G.st s' H'->Rep G Hf' d v->(fr=true->ZaJ G H Hf' d v)->Q v H')->t σ H Q
def PDT (X:Cx) (G:Gh) (e:Expr) (f:Rho->M Bool):Prop:=
 ∃t,PT X e t/\∀(σ:St) (Hf H:Hp) (ρ:Rho) (s:Pn) (b:Bool) (s':Pn) (Q:Bool->Hp->Prop),Ext G Hf H->EnvR G Hf σ ρ->G.st s H->f ρ s=some (b,s')->
  (∀Hf' H',Gr G Hf H Hf' H'->G.st s' H'->Q b H')->t σ H Q
def PDA (X:Cx) (G:Gh) (es:List Expr) (f:Rho->M (List D)):Prop:=
 ∃t,PA X es t/\∀(σ:St) (Hf H:Hp) (ρ:Rho) (s:Pn) (ds:List D) (s':Pn) (Q:List V->Hp->Prop),Ext G Hf H->EnvR G Hf σ ρ->G.st s H->f ρ s=some (ds,s')->
  (∀vs Hf' H',Gr G Hf H Hf' H'->G.st s' H'->RepL G Hf' ds vs->Q vs H')->t σ H Q
section
variable {X:Cx} {G:Gh}
theorem PD.weak {e:Expr} {f:Rho->M D} {fr:Bool} (h:PD X G fr e f):PD X G false e f:=by
 obtain ⟨t,p,q⟩:=h
 exact ⟨t,p,fun σ Hf H ρ s d s' Q e1 e2 e3 e4 k=>q σ Hf H ρ s d s' Q e1 e2 e3 e4 fun v Hf' H' g1 g2 g3 _=>k v Hf' H' g1 g2 g3 (fun z=>by cases z)⟩
def dVar (i:Nat):Rho->M D:=fun ρ=>mOf ((ρ[i]?).bind id)
def dC (d:D):Rho->M D:=fun _=>mret d
theorem Zaa (i:Nat) {x:Str} {pos:Pos} (h:PE X (.Name x pos) (tVar i)):PD X G false (.Name x pos) (dVar i):=by
 refine ⟨_,h,fun σ Hf H ρ s d s' Q e1 e2 e3 e4 k=>?_⟩
 obtain ⟨e,rfl⟩:=Zbt e4
 have e':ρ[i]?=some (some d):=by
  cases q:ρ[i]? with
  | none=>rw [q] at e;cases e
  | some o=>rw [q] at e;simp at e;rw [e]
 obtain ⟨v,h1,h2⟩:=e2 i d e'
 exact ⟨v,h1,k v Hf H (.refl e1) e3 h2 (fun z=>by cases z)⟩
theorem ZaJ.scal {H Hf':Hp} {d:D} {v:V} (h:ZfB d->False):ZaJ G H Hf' d v:=fun _ _ m=>(h m).elim
theorem Zar {i:Int} {j pos}:PD X G true (.Constant (.int i) j pos) (dC (.int i)):=by
 refine ⟨_,Zbn,fun σ Hf H ρ s d s' Q e1 e2 e3 e4 k=>?_⟩
 obtain ⟨rfl,rfl⟩:=Zaq e4
 exact k _ Hf H (.refl e1) e3 (Rep.int_iff.mpr rfl) fun _=>.scal fun z=>z
theorem Zdj {b:Bool} {j pos}:PD X G true (.Constant (.bool b) j pos) (dC (.bl b)):=by
 refine ⟨_,Zs0,fun σ Hf H ρ s d s' Q e1 e2 e3 e4 k=>?_⟩
 obtain ⟨rfl,rfl⟩:=Zaq e4
 exact k _ Hf H (.refl e1) e3 (Rep.bl_iff.mpr rfl) fun _=>.scal fun z=>z
theorem ZcO {x:Str} {j pos}:PD X G true (.Constant (.str x) j pos) (dC (.str x)):=by
 refine ⟨_,ZrR,fun σ Hf H ρ s d s' Q e1 e2 e3 e4 k=>?_⟩
 obtain ⟨rfl,rfl⟩:=Zaq e4
 exact k _ Hf H (.refl e1) e3 (Rep.str_iff.mpr rfl) fun _=>.scal fun z=>z
def dNil:Rho->M (List D):=fun _=>mret []
def Zac (f:Rho->M D) (g:Rho->M (List D)):Rho->M (List D):=fun ρ=>Zan (f ρ) fun d=>Zan (g ρ) fun ds=>mret (d::ds)
theorem Zag:PDA X G [] dNil:=by
 refine ⟨_,ZbO,fun σ Hf H ρ s d s' Q e1 e2 e3 e4 k=>?_⟩
 obtain ⟨rfl,rfl⟩:=Zaq e4
 exact k _ Hf H (.refl e1) e3 (RepL.nil_iff.mpr rfl)
theorem Zab {e:Expr} {es:List Expr} {f:Rho->M D} {g:Rho->M (List D)} {fr:Bool} (h:PD X G fr e f) (hr:PDA X G es g) (hs:starEach (e::es) X.env=(false,eval e X.env)::starEach es X.env:=by rfl):PDA X G (e::es) (Zac f g):=by
 obtain ⟨t,p,q⟩:=h
 obtain ⟨u,p2,q2⟩:=hr
 refine ⟨_,Zbb p p2 hs,fun σ Hf H ρ s ds s' Q e1 e2 e3 e4 k=>?_⟩
 obtain ⟨d,s1,a1,a2⟩:=Zai e4
 obtain ⟨r,s2,a3,a4⟩:=Zai a2
 obtain ⟨rfl,rfl⟩:=Zaq a4
 refine q σ Hf H ρ s d s1 _ e1 e2 e3 a1 fun v Hf1 H1 g1 st1 r1 _=>?_
 refine q2 σ Hf1 H1 ρ s1 r _ _ g1.fh (e2.ext g1.ff) st1 a3 fun vs Hf2 H2 g2 st2 r2=>?_
 exact k _ Hf2 H2 (g1.trans g2) st2 (RepL.cons (r1.ext g2.ff) r2)
def dTup (f:Rho->M (List D)):Rho->M D:=fun ρ=>Zan (f ρ) fun ds=>if ds.length<=sizeLine then mret (.tup ds) else ZaB
def dLst (f:Rho->M (List D)):Rho->M D:=fun ρ=>Zan (f ρ) fun ds=>if ds.length<=sizeLine then mret (.lst ds) else ZaB
theorem Za7 {α:Type} {c:Prop} [Decidable c] {a:M α} {s s':Pn} {b:α} (h:(if c then a else ZaB) s=some (b,s')):c/\a s=some (b,s'):=by
 split at h
 ·rename_i hc;exact ⟨hc,h⟩
 ·cases h
theorem ZaJ.mk {Hf H:Hp} {p:Addr} {vs:List V} {ds:List D} (e:Ext G Hf H) (hp:H p=none) (nf:¬G.fp p) (r:RepL G Hf ds vs):ZaJ G H (upd Hf p (.lst vs)) (.lst ds) (.ref p):=fun a ea _=>by
 cases ea
 refine ⟨hp,fun ds' ed=>?_⟩
 cases ed
 have hf:Hf p=none:=by
  cases q:Hf p with
  | none=>rfl
  | some o=>rw [e p o nf q] at hp;cases hp
 exact ⟨vs,Hf,Zav,hf,fun b o n q=>by rw [Zap (Zat q hf)];exact q,r⟩
theorem Zbw {es:List Expr} {f:Rho->M (List D)} {x1:Nat} {pos:Pos} (h:PDA X G es f):PD X G true (.Tuple es x1 pos) (dTup f):=by
 obtain ⟨t,p,q⟩:=h
 refine ⟨_,ZrQ p,fun σ Hf H ρ s d s' Q e1 e2 e3 e4 k=>?_⟩
 obtain ⟨ds,s1,a1,a2⟩:=Zai e4
 obtain ⟨hl,a3⟩:=Za7 a2
 obtain ⟨rfl,rfl⟩:=Zaq a3
 refine q σ Hf H ρ s ds s' _ e1 e2 e3 a1 fun vs Hf1 H1 g1 st1 r1=>⟨by rw [<-r1.length];exact hl,fun p hp=>?_⟩
 have nf:=Gh.nofp st1 hp
 have g2:=Gr.new (o:=.tup vs) g1.fh hp nf
 exact k (.ref p) _ _ (g1.trans g2) (Gh.grow st1 hp) (Rep.tup_iff.mpr ⟨p,vs,rfl,nf,Zav,r1.ext g2.ff⟩) fun _=>.scal fun z=>z
theorem Zfc {es:List Expr} {f:Rho->M (List D)} {pos:Pos} (h:PDA X G es f):PD X G true (.List es pos) (dLst f):=by
 obtain ⟨t,p,q⟩:=h
 refine ⟨_,ZrU p,fun σ Hf H ρ s d s' Q e1 e2 e3 e4 k=>?_⟩
 obtain ⟨ds,s1,a1,a2⟩:=Zai e4
 obtain ⟨hl,a3⟩:=Za7 a2
 obtain ⟨rfl,rfl⟩:=Zaq a3
 refine q σ Hf H ρ s ds s' _ e1 e2 e3 a1 fun vs Hf1 H1 g1 st1 r1=>⟨by rw [<-r1.length];exact hl,fun p hp=>?_⟩
 have nf:=Gh.nofp st1 hp
 have g2:=Gr.new (o:=.lst vs) g1.fh hp nf
 refine k (.ref p) _ _ (g1.trans g2) (Gh.grow st1 hp) (Rep.lst_iff.mpr ⟨p,vs,rfl,nf,Zav,r1.ext g2.ff⟩) fun _=>ZaJ.old g1.hh (fun a ea _=>by cases ea;exact nf) (ZaJ.mk g1.fh hp nf r1)
def OpD (X:Cx) (G:Gh) (f:Value->Value->Sem Value) (g:D->D->Option D):Prop:=
 ∃r,OpR X f r/\∀(Hf H:Hp) (s:Pn) (x y:V) (d e c:D) (Q:VK),Ext G Hf H->G.st s H->Rep G Hf d x->Rep G Hf e y->g d e=some c->
  (∀v Hf' H',Gr G Hf H Hf' H'->G.st s H'->Rep G Hf' c v->ZaJ G H Hf' c v->Q v H')->r x y H Q
def dOp (g:D->D->Option D) (a b:Rho->M D):Rho->M D:=fun ρ=>Zan (a ρ) fun d=>Zan (b ρ) fun e=>mOf (g d e)
theorem op2D {fa fb:Rho->M D} {g:D->D->Option D} {ta tb:TE} {r:R2}
  (qa:∀(σ:St) (Hf H:Hp) (ρ:Rho) (s:Pn) (d:D) (s':Pn) (Q:VK),Ext G Hf H->EnvR G Hf σ ρ->G.st s H->fa ρ s=some (d,s')->(∀v Hf' H',Gr G Hf H Hf' H'->G.st s' H'->Rep G Hf' d v->Q v H')->ta σ H Q)
  (qb:∀(σ:St) (Hf H:Hp) (ρ:Rho) (s:Pn) (d:D) (s':Pn) (Q:VK),Ext G Hf H->EnvR G Hf σ ρ->G.st s H->fb ρ s=some (d,s')->(∀v Hf' H',Gr G Hf H Hf' H'->G.st s' H'->Rep G Hf' d v->Q v H')->tb σ H Q)
  (qo:∀(Hf H:Hp) (s:Pn) (x y:V) (d e c:D) (Q:VK),Ext G Hf H->G.st s H->Rep G Hf d x->Rep G Hf e y->g d e=some c->(∀v Hf' H',Gr G Hf H Hf' H'->G.st s H'->Rep G Hf' c v->ZaJ G H Hf' c v->Q v H')->r x y H Q)
  (σ:St) (Hf H:Hp) (ρ:Rho) (s:Pn) (d:D) (s':Pn) (Q:VK) (e1:Ext G Hf H) (e2:EnvR G Hf σ ρ) (e3:G.st s H) (e4:dOp g fa fb ρ s=some (d,s'))
  (k:∀v Hf' H',Gr G Hf H Hf' H'->G.st s' H'->Rep G Hf' d v->ZaJ G H Hf' d v->Q v H'):tOp r ta tb σ H Q:=by
 obtain ⟨da,s1,a1,a2⟩:=Zai e4
 obtain ⟨db,s2,a3,a4⟩:=Zai a2
 obtain ⟨a5,rfl⟩:=Zbt a4
 refine qa σ Hf H ρ s da s1 _ e1 e2 e3 a1 fun x Hf1 H1 g1 st1 r1=>?_
 refine qb σ Hf1 H1 ρ s1 db _ _ g1.fh (e2.ext g1.ff) st1 a3 fun y Hf2 H2 g2 st2 r2=>?_
 refine qo Hf2 H2 _ x y da db d Q g2.fh st2 (r1.ext g2.ff) r2 a5 fun v Hf3 H3 g3 st3 r3 fz=>?_
 exact k v Hf3 H3 ((g1.trans g2).trans g3) st3 r3 (ZaJ.old (g1.hh.trans g2.hh) r3.nofp fz)
theorem PD.drop {e:Expr} {f:Rho->M D} {fr:Bool} (h:PD X G fr e f):∃t,PE X e t/\∀(σ:St) (Hf H:Hp) (ρ:Rho) (s:Pn) (d:D) (s':Pn) (Q:VK),Ext G Hf H->EnvR G Hf σ ρ->G.st s H->f ρ s=some (d,s')->
  (∀v Hf' H',Gr G Hf H Hf' H'->G.st s' H'->Rep G Hf' d v->Q v H')->t σ H Q:=by
 obtain ⟨t,p,q⟩:=h
 exact ⟨t,p,fun σ Hf H ρ s d s' Q a b c d' k=>q σ Hf H ρ s d s' Q a b c d' fun v Hf' H' g1 g2 g3 _=>k v Hf' H' g1 g2 g3⟩
theorem Za2 {a b:Expr} {op:Operator} {pos:Pos} {fa fb:Rho->M D} {g:D->D->Option D} {r1 r2:Bool} (ho:OpD X G (binaryOp op) g) (ha:PD X G r1 a fa) (hb:PD X G r2 b fb):PD X G true (.BinOp a op b pos) (dOp g fa fb):=by
 obtain ⟨r,po,qo⟩:=ho
 obtain ⟨ta,pa,qa⟩:=ha.drop
 obtain ⟨tb,pb,qb⟩:=hb.drop
 exact ⟨_,Zed po pa pb,fun σ Hf H ρ s d s' Q e1 e2 e3 e4 k=>op2D qa qb qo σ Hf H ρ s d s' Q e1 e2 e3 e4 fun v Hf' H' g1 g2 g3 fz=>k v Hf' H' g1 g2 g3 fun _=>fz⟩
theorem Zcc {a b:Expr} {op:CmpOp} {pos:Pos} {fa fb:Rho->M D} {g:D->D->Option D} {r1 r2:Bool} (ho:OpD X G (compareOp op) g) (ha:PD X G r1 a fa) (hb:PD X G r2 b fb)
  (hm:behindInMarks op b=false:=by first | exact Zf3 _ | with_unfolding_all rfl):PD X G true (.Compare a [op] [b] pos) (dOp g fa fb):=by
 obtain ⟨r,po,qo⟩:=ho
 obtain ⟨ta,pa,qa⟩:=ha.drop
 obtain ⟨tb,pb,qb⟩:=hb.drop
 exact ⟨_,ZqF po pa pb hm,fun σ Hf H ρ s d s' Q e1 e2 e3 e4 k=>op2D qa qb qo σ Hf H ρ s d s' Q e1 e2 e3 e4 fun v Hf' H' g1 g2 g3 fz=>k v Hf' H' g1 g2 g3 fun _=>fz⟩
def asB (f:Rho->M D):Rho->M Bool:=fun ρ=>Zan (f ρ) fun d=>match d with | .bl b=>mret b | _=>ZaB
theorem Zk4 {f:Rho->M D} {ρ:Rho} {s s':Pn} {b:Bool} (h:asB f ρ s=some (b,s')):f ρ s=some (.bl b,s'):=by
 obtain ⟨d,s1,a1,a2⟩:=Zai h
 cases d with
 | bl c=>obtain ⟨rfl,rfl⟩:=Zaq a2;exact a1
 | _=>cases a2
theorem ZaX {a b:Expr} {op:CmpOp} {pos:Pos} {fa fb:Rho->M D} {g:D->D->Option D} {r1 r2:Bool} (ho:OpD X G (compareOp op) g) (ha:PD X G r1 a fa) (hb:PD X G r2 b fb)
  (hm:behindInMarks op b=false:=by first | exact Zf3 _ | with_unfolding_all rfl):PDT X G (.Compare a [op] [b] pos) (asB (dOp g fa fb)):=by
 obtain ⟨r,po,qo⟩:=ho
 obtain ⟨ta,pa,qa⟩:=ha.drop
 obtain ⟨tb,pb,qb⟩:=hb.drop
 refine ⟨_,Zgp po pa pb hm,fun σ Hf H ρ s c s' Q e1 e2 e3 e4 k=>?_⟩
 exact op2D qa qb qo σ Hf H ρ s (.bl c) s' _ e1 e2 e3 (Zk4 e4) fun v Hf' H' g1 g2 g3 fz=>⟨c,Rep.bl_iff.mp g3,k Hf' H' g1 g2⟩
theorem Zb3 {e:Expr} {f:Rho->M D} {fr:Bool} (h:PD X G fr e f) (he:∀whole,isTrue e X.env whole=(do let v<-whole;standAt e.pos;holding [v] (truthy v)):=by intro _;rfl):PDT X G e (asB f):=by
 obtain ⟨t,p,q⟩:=h
 refine ⟨_,ZrI p he,fun σ Hf H ρ s c s' Q e1 e2 e3 e4 k=>?_⟩
 exact q σ Hf H ρ s (.bl c) s' _ e1 e2 e3 (Zk4 e4) fun v Hf' H' g1 g2 g3 fz=>⟨c,Rep.bl_iff.mp g3,k Hf' H' g1 g2⟩
def bNot (f:Rho->M Bool):Rho->M Bool:=fun ρ=>Zan (f ρ) fun b=>mret (!b)
theorem ZdO {a:Expr} {pos:Pos} {f:Rho->M Bool} (h:PDT X G a f):PDT X G (.UnaryOp .Not a pos) (bNot f):=by
 obtain ⟨t,p,q⟩:=h
 refine ⟨_,ZrJ p,fun σ Hf H ρ s c s' Q e1 e2 e3 e4 k=>?_⟩
 obtain ⟨b,s1,a1,a2⟩:=Zai e4
 obtain ⟨rfl,rfl⟩:=Zaq a2
 exact q σ Hf H ρ s b s' _ e1 e2 e3 a1 fun Hf' H' g1 g2=>k Hf' H' g1 g2
def bAnd (f g:Rho->M Bool):Rho->M Bool:=fun ρ=>Zan (f ρ) fun b=>if b=true then g ρ else mret false
def bOr (f g:Rho->M Bool):Rho->M Bool:=fun ρ=>Zan (f ρ) fun b=>if b=true then mret true else g ρ
def PDW (X:Cx) (G:Gh) (e:Expr) (f:Rho->M Bool):Prop:=
 ∃t,PW X e t/\∀(σ:St) (Hf H:Hp) (ρ:Rho) (s:Pn) (b:Bool) (s':Pn) (Q:Bool->Hp->Prop),Ext G Hf H->EnvR G Hf σ ρ->G.st s H->f ρ s=some (b,s')->
  (∀Hf' H',Gr G Hf H Hf' H'->G.st s' H'->Q b H')->t σ H Q
theorem PDW.pt {e:Expr} {f:Rho->M Bool} (h:PDW X G e f):PDT X G e f:=by
 obtain ⟨t,p,q⟩:=h
 exact ⟨t,p.pt,q⟩
theorem Zfv {a:Expr} {pos:Pos} {f:Rho->M Bool} (h:PDT X G a f):PDW X G (.BoolOp .And [a] pos) f:=by
 obtain ⟨t,p,q⟩:=h
 exact ⟨t,Zqr p,q⟩
theorem Zgr {a:Expr} {pos:Pos} {f:Rho->M Bool} (h:PDT X G a f):PDW X G (.BoolOp .Or [a] pos) f:=by
 obtain ⟨t,p,q⟩:=h
 exact ⟨t,ZrG p,q⟩
theorem Zfa {a b:Expr} {rest:List Expr} {pos:Pos} {f g:Rho->M Bool} (h:PDT X G a f) (h2:PDW X G (.BoolOp .And (b::rest) pos) g):PDW X G (.BoolOp .And (a::b::rest) pos) (bAnd f g):=by
 obtain ⟨t,p,q⟩:=h
 obtain ⟨u,p2,q2⟩:=h2
 refine ⟨_,ZrH p p2,fun σ Hf H ρ s c s' Q e1 e2 e3 e4 k=>?_⟩
 obtain ⟨b,s1,a1,a2⟩:=Zai e4
 refine q σ Hf H ρ s b s1 _ e1 e2 e3 a1 fun Hf1 H1 g1 st1=>?_
 cases b with
 | true=>exact q2 σ Hf1 H1 ρ s1 c s' _ g1.fh (e2.ext g1.ff) st1 a2 fun Hf2 H2 g2 st2=>k Hf2 H2 (g1.trans g2) st2
 | false=>obtain ⟨rfl,rfl⟩:=Zaq a2;exact k Hf1 H1 g1 st1
theorem ZhK {a b:Expr} {rest:List Expr} {pos:Pos} {f g:Rho->M Bool} (h:PDT X G a f) (h2:PDW X G (.BoolOp .Or (b::rest) pos) g):PDW X G (.BoolOp .Or (a::b::rest) pos) (bOr f g):=by
 obtain ⟨t,p,q⟩:=h
 obtain ⟨u,p2,q2⟩:=h2
 refine ⟨_,ZsX p p2,fun σ Hf H ρ s c s' Q e1 e2 e3 e4 k=>?_⟩
 obtain ⟨b,s1,a1,a2⟩:=Zai e4
 refine q σ Hf H ρ s b s1 _ e1 e2 e3 a1 fun Hf1 H1 g1 st1=>?_
 cases b with
 | true=>obtain ⟨rfl,rfl⟩:=Zaq a2;exact k Hf1 H1 g1 st1
 | false=>exact q2 σ Hf1 H1 ρ s1 c s' _ g1.fh (e2.ext g1.ff) st1 a2 fun Hf2 H2 g2 st2=>k Hf2 H2 (g1.trans g2) st2
def vAnd (f g:Rho->M D):Rho->M D:=fun ρ=>Zan (f ρ) fun d=>match d with | .bl true=>g ρ | .bl false=>mret (.bl false) | _=>ZaB
def vOr (f g:Rho->M D):Rho->M D:=fun ρ=>Zan (f ρ) fun d=>match d with | .bl true=>mret (.bl true) | .bl false=>g ρ | _=>ZaB
def vNot (f:Rho->M D):Rho->M D:=fun ρ=>Zan (f ρ) fun d=>match d with | .bl b=>mret (.bl (!b)) | _=>ZaB
theorem Zfb {op} {a:Expr} {pos:Pos} {fr:Bool} {f:Rho->M D} (h:PD X G fr a f):PD X G false (.BoolOp op [a] pos) f:=by
 obtain ⟨t,p,q⟩:=h.weak
 exact ⟨t,ZrS p,q⟩
theorem Zey {a b:Expr} {rest:List Expr} {pos:Pos} {r1 r2:Bool} {f g:Rho->M D} (h:PD X G r1 a f) (h2:PD X G r2 (.BoolOp .And (b::rest) pos) g):PD X G false (.BoolOp .And (a::b::rest) pos) (vAnd f g):=by
 obtain ⟨t,p,q⟩:=h.drop
 obtain ⟨u,p2,q2⟩:=h2.drop
 refine ⟨_,ZrW p p2,fun σ Hf H ρ s c s' Q e1 e2 e3 e4 k=>?_⟩
 obtain ⟨d,s1,a1,a2⟩:=Zai e4
 refine q σ Hf H ρ s d s1 _ e1 e2 e3 a1 fun v Hf1 H1 g1 st1 r1=>?_
 cases d with
 | bl b=>
  cases b with
  | true=>exact ⟨true,Rep.bl_iff.mp r1,iteT (q2 σ Hf1 H1 ρ s1 c s' _ g1.fh (e2.ext g1.ff) st1 a2 fun v Hf2 H2 g2 st2 r2=>k v Hf2 H2 (g1.trans g2) st2 r2 (fun z=>by cases z))⟩
  | false=>obtain ⟨rfl,rfl⟩:=Zaq a2;exact ⟨false,Rep.bl_iff.mp r1,iteF (k _ Hf1 H1 g1 st1 (Rep.bl_iff.mpr rfl) (fun z=>by cases z))⟩
 | _=>cases a2
theorem Zs1 {a b:Expr} {rest:List Expr} {pos:Pos} {r1 r2:Bool} {f g:Rho->M D} (h:PD X G r1 a f) (h2:PD X G r2 (.BoolOp .Or (b::rest) pos) g):PD X G false (.BoolOp .Or (a::b::rest) pos) (vOr f g):=by
 obtain ⟨t,p,q⟩:=h.drop
 obtain ⟨u,p2,q2⟩:=h2.drop
 refine ⟨_,ZsZ p p2,fun σ Hf H ρ s c s' Q e1 e2 e3 e4 k=>?_⟩
 obtain ⟨d,s1,a1,a2⟩:=Zai e4
 refine q σ Hf H ρ s d s1 _ e1 e2 e3 a1 fun v Hf1 H1 g1 st1 r1=>?_
 cases d with
 | bl b=>
  cases b with
  | false=>exact ⟨false,Rep.bl_iff.mp r1,iteF (q2 σ Hf1 H1 ρ s1 c s' _ g1.fh (e2.ext g1.ff) st1 a2 fun v Hf2 H2 g2 st2 r2=>k v Hf2 H2 (g1.trans g2) st2 r2 (fun z=>by cases z))⟩
  | true=>obtain ⟨rfl,rfl⟩:=Zaq a2;exact ⟨true,Rep.bl_iff.mp r1,iteT (k _ Hf1 H1 g1 st1 (Rep.bl_iff.mpr rfl) (fun z=>by cases z))⟩
 | _=>cases a2
theorem ZnK {a:Expr} {pos:Pos} {r1:Bool} {f:Rho->M D} (h:PD X G r1 a f):PD X G true (.UnaryOp .Not a pos) (vNot f):=by
 obtain ⟨t,p,q⟩:=h.drop
 refine ⟨_,ZrT p,fun σ Hf H ρ s c s' Q e1 e2 e3 e4 k=>?_⟩
 obtain ⟨d,s1,a1,a2⟩:=Zai e4
 refine q σ Hf H ρ s d s1 _ e1 e2 e3 a1 fun v Hf1 H1 g1 st1 r1=>?_
 cases d with
 | bl b=>obtain ⟨rfl,rfl⟩:=Zaq a2;exact ⟨b,Rep.bl_iff.mp r1,k _ Hf1 H1 g1 st1 (Rep.bl_iff.mpr rfl) fun _=>.scal fun z=>z⟩
 | _=>cases a2
def dIf (c:Rho->M Bool) (f g:Rho->M D):Rho->M D:=fun ρ=>Zan (c ρ) fun b=>if b=true then f ρ else g ρ
theorem Zs2 {c a b:Expr} {pos:Pos} {r1 r2:Bool} {fc:Rho->M Bool} {f g:Rho->M D} (hc:PDT X G c fc) (ha:PD X G r1 a f) (hb:PD X G r2 b g):PD X G false (.IfExp c a b pos) (dIf fc f g):=by
 obtain ⟨tc,pc,qc⟩:=hc
 obtain ⟨ta,pa,qa⟩:=ha.drop
 obtain ⟨tb,pb,qb⟩:=hb.drop
 refine ⟨_,Zo4 pc pa pb,fun σ Hf H ρ s d s' Q e1 e2 e3 e4 k=>?_⟩
 obtain ⟨b,s1,a1,a2⟩:=Zai e4
 refine qc σ Hf H ρ s b s1 _ e1 e2 e3 a1 fun Hf1 H1 g1 st1=>?_
 cases b with
 | true=>exact iteT (qa σ Hf1 H1 ρ s1 d s' _ g1.fh (e2.ext g1.ff) st1 a2 fun v Hf2 H2 g2 st2 r2=>k v Hf2 H2 (g1.trans g2) st2 r2 (fun z=>by cases z))
 | false=>exact iteF (qb σ Hf1 H1 ρ s1 d s' _ g1.fh (e2.ext g1.ff) st1 a2 fun v Hf2 H2 g2 st2 r2=>k v Hf2 H2 (g1.trans g2) st2 r2 (fun z=>by cases z))
def Zcl (X:Cx) (G:Gh) (f:Value) (g:List D->Option D):Prop:=
 ∃r,ZbY X f r/\∀(Hf H:Hp) (s:Pn) (xs:List V) (ds:List D) (c:D) (Q:VK),Ext G Hf H->G.st s H->RepL G Hf ds xs->g ds=some c->
  (∀v Hf' H',Gr G Hf H Hf' H'->G.st s H'->Rep G Hf' c v->ZaJ G H Hf' c v->Q v H')->r xs H Q
def ZaD (g:List D->Option D) (fs:Rho->M (List D)):Rho->M D:=fun ρ=>Zan (fs ρ) fun ds=>mOf (g ds)
theorem ZaQ {id:String} {x:Str} {p pos:Pos} {e:Expr} {es:List Expr} {g:List D->Option D} {fs:Rho->M (List D)} (hc:Zcl X G (.builtin id) g) (hg:Gl X x) (hm:X.mg x=none) (hv:bootBuiltins x=some (.builtin id)) (ha:PDA X G (e::es) fs)
  (hn:x≠"__name__":=by decide) (hdb:(x==("__debug__" : Str))=false:=by decide)
  (he:starEach (e::es) X.env=(false,eval e X.env)::starEach es X.env:=by rfl) (hpl:(backTo pos (starEach es X.env)).any (·.1)=false:=by rfl):PD X G true (.Call (.Name x p) (e::es) [] pos) (ZaD g fs):=by
 obtain ⟨r,pr,qr⟩:=hc
 obtain ⟨t,pa,qa⟩:=ha
 refine ⟨_,Zew pr hg hm hv pa hn hdb he hpl,fun σ Hf H ρ s d s' Q e1 e2 e3 e4 k=>?_⟩
 obtain ⟨ds,s1,a1,a2⟩:=Zai e4
 obtain ⟨a3,rfl⟩:=Zbt a2
 refine qa σ Hf H ρ s ds _ _ e1 e2 e3 a1 fun vs Hf1 H1 g1 st1 r1=>?_
 exact qr Hf1 H1 _ vs ds d Q g1.fh st1 r1 a3 fun v Hf2 H2 g2 st2 r2 fz=>k v Hf2 H2 (g1.trans g2) st2 r2 fun _=>ZaJ.old g1.hh r2.nofp fz
theorem ZcP {T:String} {x:Str} {p pos:Pos} {e:Expr} {es:List Expr} {g:List D->Option D} {fs:Rho->M (List D)} (hc:Zcl X G (.type T) g) (hg:Gl X x) (hm:X.mg x=none) (hv:bootBuiltins x=some (.type T)) (ha:PDA X G (e::es) fs)
  (hn:x≠"__name__":=by decide) (hdb:(x==("__debug__" : Str))=false:=by decide)
  (he:starEach (e::es) X.env=(false,eval e X.env)::starEach es X.env:=by rfl) (hpl:(backTo pos (starEach es X.env)).any (·.1)=false:=by rfl):PD X G true (.Call (.Name x p) (e::es) [] pos) (ZaD g fs):=by
 obtain ⟨r,pr,qr⟩:=hc
 obtain ⟨t,pa,qa⟩:=ha
 refine ⟨_,ZiZ pr hg hm hv pa hn hdb he hpl,fun σ Hf H ρ s d s' Q e1 e2 e3 e4 k=>?_⟩
 obtain ⟨ds,s1,a1,a2⟩:=Zai e4
 obtain ⟨a3,rfl⟩:=Zbt a2
 refine qa σ Hf H ρ s ds _ _ e1 e2 e3 a1 fun vs Hf1 H1 g1 st1 r1=>?_
 exact qr Hf1 H1 _ vs ds d Q g1.fh st1 r1 a3 fun v Hf2 H2 g2 st2 r2 fz=>k v Hf2 H2 (g1.trans g2) st2 r2 fun _=>ZaJ.old g1.hh r2.nofp fz
def IxD (X:Cx) (G:Gh) (g:D->D->Option D):Prop:=
 ∃r,IxR X r/\∀(Hf H:Hp) (s:Pn) (x y:V) (d e c:D) (Q:VK),Ext G Hf H->G.st s H->Rep G Hf d x->Rep G Hf e y->g d e=some c->
  (∀v,Rep G Hf c v->Q v H)->r x y H Q
theorem ZaA {a b:Expr} {pos:Pos} {fa fb:Rho->M D} {g:D->D->Option D} {r1 r2:Bool} (ho:IxD X G g) (ha:PD X G r1 a fa) (hb:PD X G r2 b fb) (hs:Zml b:=by intro _ _;rfl):PD X G false (.Subscript a b pos) (dOp g fa fb):=by
 obtain ⟨r,po,qo⟩:=ho
 obtain ⟨ta,pa,qa⟩:=ha.drop
 obtain ⟨tb,pb,qb⟩:=hb.drop
 refine ⟨_,Zdi po pa pb hs,fun σ Hf H ρ s d s' Q e1 e2 e3 e4 k=>?_⟩
 obtain ⟨da,s1,a1,a2⟩:=Zai e4
 obtain ⟨db,s2,a3,a4⟩:=Zai a2
 obtain ⟨a5,rfl⟩:=Zbt a4
 refine qa σ Hf H ρ s da s1 _ e1 e2 e3 a1 fun x Hf1 H1 g1 st1 r1=>?_
 refine qb σ Hf1 H1 ρ s1 db _ _ g1.fh (e2.ext g1.ff) st1 a3 fun y Hf2 H2 g2 st2 r2=>?_
 exact qo Hf2 H2 _ x y da db d Q g2.fh st2 (r1.ext g2.ff) r2 a5 fun v r3=>k v Hf2 H2 (g1.trans g2) st2 r3 (fun z=>by cases z)
def spD (n:Nat) (fr:Bool) (GG:Gh->Prop) (F:List D->M D):Sp:=fun vs H Q _=>∃(G:Gh) (Hf:Hp) (ds:List D) (s:Pn) (d:D) (s':Pn),GG G/\vs.length=n/\Ext G Hf H/\RepL G Hf ds vs/\G.st s H/\F ds s=some (d,s')/\
 ∀v Hf' H',Gr G Hf H Hf' H'->G.st s' H'->Rep G Hf' d v->(fr=true->ZaJ G H Hf' d v)->Q v H'
def dFn (F:List D->M D) (fs:Rho->M (List D)):Rho->M D:=fun ρ=>Zan (fs ρ) F
theorem ZqL {CX:CXT} {k:Nat} {f:Addr} {fd:FuncData} {ps:List Str} {n:Nat} {fr:Bool} {GG:Gh->Prop} {F:List D->M D} {E:XK} {x:Str} {p pos:Pos} {e:Expr} {es:List Expr} {fs:Rho->M (List D)}
  (FN:FnOk X.prog X.w X.K X.mg X.base CX k f fd ps (spD n fr GG F)) (hG:GG G) (hr:Room k X.A) (hg:Gl X x) (hm:X.mg x=some (.ref f)) (hk:PySem.W.keepIn X.K (.ref f)=true) (hb:ZcG X.K fd ps []) (hx:Zih CX X E)
  (ha:PDA X G (e::es) fs) (hlen:(e::es).length=n:=by rfl) (hal:∀ρ s ds s',fs ρ s=some (ds,s')->ds.length=(e::es).length)
  (hdb:(x==("__debug__" : Str))=false:=by decide) (he:starEach (e::es) X.env=(false,eval e X.env)::starEach es X.env:=by rfl) (hpl:(backTo pos (starEach es X.env)).any (·.1)=false:=by rfl) :
  PD X G fr (.Call (.Name x p) (e::es) [] pos) (dFn F fs):=by
 obtain ⟨t,pa,qa⟩:=ha
 refine ⟨_,ZqG FN hr hg hm hk hb .nil hx pa hdb he hpl,fun σ Hf H ρ s d s' Q e1 e2 e3 e4 k=>?_⟩
 obtain ⟨ds,s1,a1,a2⟩:=Zai e4
 refine qa σ Hf H ρ s ds _ _ e1 e2 e3 a1 fun vs Hf1 H1 g1 st1 r1=>?_
 refine ⟨G,Hf1,ds,s1,d,s',hG,by rw [List.append_nil,<-r1.length,hal _ _ _ _ a1];exact hlen,g1.fh,by rw [List.append_nil];exact r1,st1,a2,fun v Hf2 H2 g2 st2 r2 fz=>?_⟩
 exact k v Hf2 H2 (g1.trans g2) st2 r2 fun z=>ZaJ.old g1.hh r2.nofp (fz z)
theorem Zae {f:Rho->M D} {g:Rho->M (List D)} {n:Nat} (h:∀ρ s ds s',g ρ s=some (ds,s')->ds.length=n):∀ρ s ds s',Zac f g ρ s=some (ds,s')->ds.length=n+1:=fun ρ s ds s' q=>by
 obtain ⟨d,s1,a1,a2⟩:=Zai q
 obtain ⟨r,s2,a3,a4⟩:=Zai a2
 obtain ⟨rfl,rfl⟩:=Zaq a4
 simp [h _ _ _ _ a3]
theorem Zao:∀ρ s ds s',dNil ρ s=some (ds,s')->ds.length=0:=fun ρ s ds s' q=>by
 obtain ⟨rfl,rfl⟩:=Zaq q
 rfl
end
mutual
def ZbS:D->Bool
 | .tup ds=>Zfd ds
 | .lst _=>false
 | .dk _=>false
 | .dt _=>false
 | .du _=>false
 | .df _=>false
 | .clo _ _=>false
 | _=>true
def Zfd:List D->Bool
 | []=>true
 | d::ds=>ZbS d&&Zfd ds
end
mutual
theorem Rep.only {G:Gh} {H H':Hp} (e:∀b vs,¬G.fp b->H b=some (.tup vs)->H' b=some (.tup vs)):∀{d:D} {v:V},ZbS d=true->Rep G H d v->Rep G H' d v
 | .non,_,_,h=>h
 | .bl _,_,_,h=>h
 | .int _,_,_,h=>h
 | .str _,_,_,h=>h
 | .tup ds,v,n,h=>by
  obtain ⟨a,vs,e1,nf,e2,r⟩:=Rep.tup_iff.mp h
  exact Rep.tup_iff.mpr ⟨a,vs,e1,nf,e _ _ nf e2,RepL.only e (by simpa [ZbS] using n) r⟩
 | .lst ds,v,n,h=>by simp [ZbS] at n
 | .dk kvs,v,n,h=>by simp [ZbS] at n
 | .dt kvs,v,n,h=>by simp [ZbS] at n
 | .du kvs,v,n,h=>by simp [ZbS] at n
 | .df kvs,v,n,h=>by simp [ZbS] at n
 | .pen,_,_,h=>h
 | .ty _,_,_,h=>h
 | .clo _ _,v,n,h=>by simp [ZbS] at n
theorem RepL.only {G:Gh} {H H':Hp} (e:∀b vs,¬G.fp b->H b=some (.tup vs)->H' b=some (.tup vs)):∀{ds:List D} {vs:List V},Zfd ds=true->RepL G H ds vs->RepL G H' ds vs
 | [],_,_,h=>h
 | d::ds,vs,n,h=>by
  obtain ⟨v,r,e1,r1,r2⟩:=RepL.cons_iff.mp h
  have n':ZbS d=true/\Zfd ds=true:=by simpa [Zfd] using n
  exact RepL.cons_iff.mpr ⟨v,r,e1,Rep.only e n'.1 r1,RepL.only e n'.2 r2⟩
end
def ZdJ (G:Gh) (Hf H:Hp) (a:Addr):D->Prop
 | .lst ds=>∃vs,H a=some (.lst vs)/\RepL G Hf ds vs
 | .dk kvs=>H a=some (.dK kvs)
 | .dt kvs=>∃o,H a=some (.frz o (.dT kvs))
 | .du kvs=>H a=some (.dT kvs)
 | _=>False
theorem ZdJ.there {G:Gh} {Hf H:Hp} {a:Addr} {d:D} (h:ZdJ G Hf H a d):∃o,H a=some o/\∀vs,o≠.tup vs:=by
 cases d with
 | lst ds=>obtain ⟨vs,e,_⟩:=h;exact ⟨_,e,fun _ z=>by cases z⟩
 | dk kvs=>exact ⟨_,h,fun _ z=>by cases z⟩
 | dt kvs=>obtain ⟨o,h⟩:=h;exact ⟨_,h,fun _ z=>by cases z⟩
 | du kvs=>exact ⟨_,h,fun _ z=>by cases z⟩
 | _=>exact h.elim
theorem ZdJ.keep {G:Gh} {Hf H Hf' H':Hp} {a:Addr} {d:D} (h:ZdJ G Hf H a d) (e:Ext G Hf Hf') (ha:∀o,H a=some o->H' a=some o):ZdJ G Hf' H' a d:=by
 cases d with
 | lst ds=>obtain ⟨vs,q,r⟩:=h;exact ⟨vs,ha _ q,r.ext e⟩
 | dk kvs=>exact ha _ h
 | dt kvs=>obtain ⟨o,h⟩:=h;exact ⟨o,ha _ h⟩
 | du kvs=>exact ha _ h
 | _=>exact h.elim
theorem ZdJ.rep {G:Gh} {Hf H Hf':Hp} {a:Addr} {d:D} (h:ZdJ G Hf H a d) (nf:¬G.fp a) (e:Ext G Hf Hf') (ha:∀o,H a=some o->Hf' a=some o):Rep G Hf' d (.ref a):=by
 cases d with
 | lst ds=>obtain ⟨vs,q,r⟩:=h;exact Rep.lst_iff.mpr ⟨a,vs,rfl,nf,ha _ q,r.ext e⟩
 | dk kvs=>exact Rep.dk_iff.mpr ⟨a,rfl,nf,ha _ h⟩
 | dt kvs=>obtain ⟨o,h⟩:=h;exact Rep.dt_iff.mpr ⟨a,o,rfl,nf,ha _ h⟩
 | du kvs=>exact Rep.du_iff.mpr ⟨a,rfl,nf,ha _ h⟩
 | _=>exact h.elim
structure Jf (G:Gh) (own:List Nat) (kn Hf0 H0:Hp) (σ:St) (Hf H:Hp) (ρ:Rho):Prop where
 len:σ.length=ρ.length
 kn:Ext G kn Hf
 gr:Gr G Hf0 H0 Hf H
 fz:∀(i:Nat) (d:D),i∉own->ρ[i]?=some (some d)->∃v,σ[i]?=some (some v)/\Rep G Hf d v
 ow:∀(i:Nat) (d:D),i∈own->ρ[i]?=some (some d)->∃a,σ[i]?=some (some (.ref a))/\¬G.rd a/\Hf a=none/\H0 a=none/\ZdJ G Hf H a d
 ne:∀(i j:Nat) (a:Addr) (di dj:D),i∈own->j∈own->i≠j->ρ[i]?=some (some di)->ρ[j]?=some (some dj)->σ[i]?=some (some (.ref a))->σ[j]?=some (some (.ref a))->False
def J (G:Gh) (own:List Nat) (kn Hf0 H0:Hp) (σ:St) (H:Hp) (ρ:Rho):Prop:=∃Hf,Jf G own kn Hf0 H0 σ Hf H ρ
def hide (own:List Nat) (ρ:Rho):Rho:=ρ.mapIdx fun i o=>if i∈own then none else o
theorem Zhj (ρ:Rho):hide [] ρ=ρ:=by
 unfold hide
 apply List.ext_getElem?
 intro i
 simp
theorem ZpF {own:List Nat} {ρ:Rho} {i:Nat} {d:D} (h:(hide own ρ)[i]?=some (some d)):i∉own/\ρ[i]?=some (some d):=by
 unfold hide at h
 rw [List.getElem?_mapIdx] at h
 cases e:ρ[i]? with
 | none=>rw [e] at h;cases h
 | some o=>
  rw [e] at h
  simp only [Option.map_some,Option.some.injEq] at h
  split at h
  ·cases h
  ·rename_i hn;exact ⟨hn,by rw [h]⟩
section
variable {X:Cx} {G:Gh} {own:List Nat} {kn Hf0 H0 Hf H:Hp} {σ:St} {ρ:Rho}
theorem Jf.envA (j:Jf G own kn Hf0 H0 σ Hf H ρ):EnvR G Hf σ (hide own ρ):=fun i d e=>by
 obtain ⟨n,q⟩:=ZpF e
 exact j.fz i d n q
theorem Gh.sub' {G:Gh} {a:Addr} (h:¬G.rd a):¬G.fp a:=fun z=>h (G.sub a z)
theorem Jf.grow {Hf' H':Hp} (j:Jf G own kn Hf0 H0 σ Hf H ρ) (g:Gr G Hf H Hf' H'):Jf G own kn Hf0 H0 σ Hf' H' ρ where
 len:=j.len
 kn:=j.kn.trans g.ff
 gr:=j.gr.trans g
 fz:=fun i d n e=>let ⟨v,a,b⟩:=j.fz i d n e;⟨v,a,b.ext g.ff⟩
 ow:=fun i d m e=>by
  obtain ⟨a,h1,h2,h3,h4,h5⟩:=j.ow i d m e
  have nf:=Gh.sub' h2
  refine ⟨a,h1,h2,?_,h4,h5.keep g.ff fun o q=>g.hh a o nf q⟩
  exact g.nw a nf h3 h5.there
 ne:=j.ne
noncomputable def wide (Hf0 H0 H:Hp):Hp:=fun b=>open Classical in if Hf0 b=none/\Nt (H0 b) then none else H b
theorem Zdo {Hf0 H0 H:Hp}:Ext G (wide Hf0 H0 H) H:=fun b o _ e=>by
 unfold wide at e
 split at e
 ·cases e
 ·exact e
theorem Jf.wideF (j:Jf G own kn Hf0 H0 σ Hf H ρ):Ext G Hf (wide Hf0 H0 H):=fun b o n e=>by
 unfold wide
 split
 ·rename_i h
  rw [j.gr.nw b n h.1 h.2] at e;cases e
 ·exact j.gr.fh b o n e
theorem Jf.envB (j:Jf G own kn Hf0 H0 σ Hf H ρ):EnvR G (wide Hf0 H0 H) σ ρ:=fun i d e=>by
 by_cases m:i∈own
 ·obtain ⟨a,h1,h2,h3,h4,h5⟩:=j.ow i d m e
  refine ⟨_,h1,h5.rep (Gh.sub' h2) j.wideF fun o q=>?_⟩
  unfold wide
  rw [if_neg (fun z=>z.2.no h4)]
  exact q
 ·obtain ⟨v,h1,h2⟩:=j.fz i d m e
  exact ⟨v,h1,h2.ext j.wideF⟩
theorem Jf.grW {Hf' H':Hp} (j:Jf G own kn Hf0 H0 σ Hf H ρ) (g:Gr G (wide Hf0 H0 H) H Hf' H'):Gr G Hf0 H0 Hf' H' where
 hh:=j.gr.hh.trans g.hh
 ff:=fun b o n e=>g.ff b o n (j.wideF b o n (j.gr.ff b o n e))
 fh:=g.fh
 nw:=fun b n h1 h2=>g.nw b n (by unfold wide;rw [if_pos ⟨h1,h2⟩]) (let ⟨u,e,nt⟩:=h2;⟨u,j.gr.hh b u n e,nt⟩)
def okB:D->Bool
 | .lst ds=>Zfd ds
 | .dk _=>true
 | .dt _=>true
 | .du _=>true
 | _=>false
theorem ZqX {d:D} (h:okB d=true):ZfB d:=by
 cases d <;> first | trivial | (simp [okB] at h)
theorem Jf.growB {Hf' H':Hp} (j:Jf G own kn Hf0 H0 σ Hf H ρ) (g:Gr G (wide Hf0 H0 H) H Hf' H') :
  ∃Hf'',Jf G own kn Hf0 H0 σ Hf'' H' ρ/\Ext G Hf Hf''/\(∀d v,ZbS d=true->Rep G Hf' d v->Rep G Hf'' d v)/\∀d v,okB d=true->ZaJ G H Hf' d v->Rep G Hf' d v->Rep G Hf'' d v/\ZaJ G H Hf'' d v:=by
 classical
 -- the owned addresses are left out again
 let OA:Addr->Prop:=fun b=>∃i d,i∈own/\ρ[i]?=some (some d)/\σ[i]?=some (some (.ref b))
 have oaH:∀b,OA b->Hf b=none/\¬G.rd b/\∃o,H b=some o/\∀vs,o≠.tup vs:=fun b ⟨i,d,m,e,q⟩=>by
  obtain ⟨a,h1,h2,h3,h4,h5⟩:=j.ow i d m e
  rw [q] at h1;cases h1
  exact ⟨h3,h2,h5.there⟩
 have W:=j.grW g
 refine ⟨fun b=>if OA b then none else Hf' b,?_⟩
 have fF:Ext G Hf (fun b=>if OA b then none else Hf' b):=fun b o n e=>by
  have:¬OA b:=fun z=>by rw [(oaH b z).1] at e;cases e
  show (if OA b then none else Hf' b)=_
  rw [if_neg this]
  exact g.ff b o n (j.wideF b o n e)
 have Fh:Ext G (fun b=>if OA b then none else Hf' b) H':=fun b o n e=>by
  have e':(if OA b then none else Hf' b)=some o:=e
  split at e'
  ·cases e'
  ·exact g.fh b o n e'
 have tupK:∀b vs,¬G.fp b->Hf' b=some (.tup vs)->(if OA b then none else Hf' b)=some (.tup vs):=fun b vs nf e=>by
  have:¬OA b:=fun z=>by
   obtain ⟨_,_,o,q,nt⟩:=oaH b z
   have q1:=g.hh b o nf q
   have q2:=g.fh b _ nf e
   rw [q1] at q2
   exact nt vs (Option.some.inj q2)
  rw [if_neg this]
  exact e
 have frK:∀a,H a=none->¬OA a:=fun a e z=>by
  obtain ⟨_,_,o,q,nt⟩:=oaH a z
  rw [e] at q;cases q
 refine ⟨⟨j.len,j.kn.trans fF,⟨W.hh,j.gr.ff.trans fF,Fh,fun b n h1 h2=>?_⟩,fun i d n e=>?_,fun i d m e=>?_,j.ne⟩,fF,fun d v n r=>Rep.only tupK n r,fun d v ok fr r=>?_⟩
 ·show (if OA b then none else Hf' b)=none
  split
  ·rfl
  ·exact W.nw b n h1 h2
 ·obtain ⟨v,a,b⟩:=j.fz i d n e
  exact ⟨v,a,b.ext fF⟩
 ·obtain ⟨a,h1,h2,h3,h4,h5⟩:=j.ow i d m e
  refine ⟨a,h1,h2,?_,h4,h5.keep fF fun o q=>g.hh a o (Gh.sub' h2) q⟩
  show (if OA a then none else Hf' a)=none
  rw [if_pos ⟨i,d,m,e,h1⟩]
 ·cases d with
  | lst ds=>
   obtain ⟨a,vs,e,n,q,r'⟩:=Rep.lst_iff.mp r
   have na:=frK a (fr a e trivial).1
   have ea:(if OA a then none else Hf' a)=some (.lst vs):=by rw [if_neg na];exact q
   refine ⟨Rep.lst_iff.mpr ⟨a,vs,e,n,ea,RepL.only tupK ok r'⟩,fun b eb m=>?_⟩
   rw [e] at eb;cases eb
   refine ⟨(fr a e trivial).1,fun ds' ed=>?_⟩
   cases ed
   refine ⟨vs,fun b=>if b=a then none else if OA b then none else Hf' b,ea,if_pos rfl,fun b o nb eb=>?_,?_⟩
   ·have eb':(if b=a then none else if OA b then none else Hf' b)=some o:=eb
    split at eb'
    ·cases eb'
    ·exact eb'
   ·refine RepL.only (fun b ws nb eb=>?_) ok r'
    have hba:b≠a:=fun z=>by rw [z,q] at eb;cases eb
    show (if b=a then none else if OA b then none else Hf' b)=_
    rw [if_neg hba]
    exact tupK b ws nb eb
  | dk ds=>
   obtain ⟨a,e,n,q⟩:=Rep.dk_iff.mp r
   have na:=frK a (fr a e trivial).1
   refine ⟨Rep.dk_iff.mpr ⟨a,e,n,?_⟩,fun b eb m=>⟨(fr b eb m).1,fun ds' ed=>by cases ed⟩⟩
   show (if OA a then none else Hf' a)=_
   rw [if_neg na];exact q
  | dt ds=>
   obtain ⟨a,o,e,n,q⟩:=Rep.dt_iff.mp r
   have na:=frK a (fr a e trivial).1
   refine ⟨Rep.dt_iff.mpr ⟨a,o,e,n,?_⟩,fun b eb m=>⟨(fr b eb m).1,fun ds' ed=>by cases ed⟩⟩
   show (if OA a then none else Hf' a)=_
   rw [if_neg na];exact q
  | du ds=>
   obtain ⟨a,e,n,q⟩:=Rep.du_iff.mp r
   have na:=frK a (fr a e trivial).1
   refine ⟨Rep.du_iff.mpr ⟨a,e,n,?_⟩,fun b eb m=>⟨(fr b eb m).1,fun ds' ed=>by cases ed⟩⟩
   show (if OA a then none else Hf' a)=_
   rw [if_neg na];exact q
  | _=>exact absurd (ZqX ok) (fun z=>z)
theorem Jf.set {i:Nat} {d:D} {v:V} {own':List Nat} (j:Jf G own kn Hf0 H0 σ Hf H ρ) (ho:∀k,k∈own'->k≠i/\k∈own) (hk:∀k,k∈own->k≠i->k∈own') (r:Rep G Hf d v):Jf G own' kn Hf0 H0 (σ.set i (some v)) Hf H (ρ.set i (some d)) where
 len:=by simp [j.len]
 kn:=j.kn
 gr:=j.gr
 fz:=fun k c n e=>by
  by_cases h:i=k
  ·subst h
   have hl:i < ρ.length:=by
    have:=(List.getElem?_eq_some_iff.mp e).1
    simpa using this
   rw [List.getElem?_set_self hl] at e
   cases e
   exact ⟨v,List.getElem?_set_self (by rw [j.len];exact hl),r⟩
  ·rw [List.getElem?_set_ne h] at e ⊢
   exact j.fz k c (fun z=>n (hk k z (Ne.symm h))) e
 ow:=fun k c m e=>by
  have h:i≠k:=Ne.symm (ho k m).1
  rw [List.getElem?_set_ne h] at e ⊢
  exact j.ow k c (ho k m).2 e
 ne:=fun k l a dk dl mk ml n ek el sk sl=>by
  have h:i≠k:=Ne.symm (ho k mk).1
  have h':i≠l:=Ne.symm (ho l ml).1
  rw [List.getElem?_set_ne h] at ek sk
  rw [List.getElem?_set_ne h'] at el sl
  exact j.ne k l a dk dl (ho k mk).2 (ho l ml).2 n ek el sk sl
def Zgc:D->Bool
 | .lst _=>true
 | .dk _=>true
 | .dt _=>true
 | .du _=>true
 | _=>false
theorem ZmO {d:D} (h:Zgc d=true):ZfB d:=by
 cases d <;> first | trivial | (simp [Zgc] at h)
theorem Jf.setOwn {i:Nat} {d:D} {v:V} {Hb Hq:Hp} {s:Pn} {own':List Nat} (j0:Jf G own kn Hf0 H0 σ Hq Hb ρ) (j:Jf G own kn Hf0 H0 σ Hf H ρ) (ho:∀k,k∈own'↔k=i∨k∈own) (st:G.st s Hb) (hb:Ext G Hb H) (hq:Ext G Hq Hf)
  (r:Rep G Hf d v) (fr:ZaJ G Hb Hf d v) (ok:Zgc d=true):∃Hf',Jf G own' kn Hf0 H0 (σ.set i (some v)) Hf' H (ρ.set i (some d)):=by
 classical
 have mu:=ZmO ok
 obtain ⟨a,ea,nfa⟩:∃a,v=.ref a/\¬G.fp a:=by
  cases d with
  | lst ds=>obtain ⟨a,vs,e,n,_⟩:=Rep.lst_iff.mp r;exact ⟨a,e,n⟩
  | dk ds=>obtain ⟨a,e,n,_⟩:=Rep.dk_iff.mp r;exact ⟨a,e,n⟩
  | dt ds=>obtain ⟨a,_,e,n,_⟩:=Rep.dt_iff.mp r;exact ⟨a,e,n⟩
  | du ds=>obtain ⟨a,e,n,_⟩:=Rep.du_iff.mp r;exact ⟨a,e,n⟩
  | _=>exact mu.elim
 subst ea
 have fra:Hb a=none:=(fr a rfl mu).1
 have hqa:Hq a=none:=by
  cases e:Hq a with
  | none=>rfl
  | some o=>rw [j0.gr.fh a o nfa e] at fra;cases fra
 have h0a:H0 a=none:=by
  cases e:H0 a with
  | none=>rfl
  | some o=>rw [j0.gr.hh a o nfa e] at fra;cases fra
 have qF:Ext G Hq (fun b=>if b=a then none else Hf b):=fun b o n e=>by
  have:b≠a:=fun z=>by rw [z,hqa] at e;cases e
  show (if b=a then none else Hf b)=_
  rw [if_neg this];exact hq b o n e
 have oldA:∀k c,k∈own->ρ[k]?=some (some c)->σ[k]?≠some (some (.ref a)):=fun k c m e z=>by
  obtain ⟨b,h1,_,_,_,h5⟩:=j0.ow k c m e
  rw [z] at h1;cases h1
  obtain ⟨o,q,_⟩:=h5.there
  rw [fra] at q;cases q
 refine ⟨fun b=>if b=a then none else Hf b,by simp [j.len],j0.kn.trans qF,⟨j.gr.hh,j0.gr.ff.trans qF,fun b o n e=>?_,fun b n h1 h2=>?_⟩,fun k c n e=>?_,fun k c m e=>?_,fun k l b dk dl mk ml n ek el sk sl=>?_⟩
 ·have e':(if b=a then none else Hf b)=some o:=e
  split at e'
  ·cases e'
  ·exact j.gr.fh b o n e'
 ·show (if b=a then none else Hf b)=none
  split
  ·rfl
  ·exact j.gr.nw b n h1 h2
 ·have h:i≠k:=fun z=>n ((ho k).mpr (.inl z.symm))
  rw [List.getElem?_set_ne h] at e ⊢
  obtain ⟨v,q1,q2⟩:=j0.fz k c (fun z=>n ((ho k).mpr (.inr z))) e
  exact ⟨v,q1,q2.ext qF⟩
 ·by_cases h:i=k
  ·subst h
   have hl:i < ρ.length:=by
    have:=(List.getElem?_eq_some_iff.mp e).1
    simpa using this
   rw [List.getElem?_set_self hl] at e
   cases e
   refine ⟨a,List.getElem?_set_self (by rw [j.len];exact hl),Gh.nord st fra,by show (if a=a then none else Hf a)=none;rw [if_pos rfl],h0a,?_⟩
   cases d with
   | lst ds=>
    obtain ⟨a',vs,e',n',q',r'⟩:=Rep.lst_iff.mp r
    cases e'
    obtain ⟨ws,Hm,f1,f2,f3,f4⟩:=(fr a rfl mu).2 ds rfl
    rw [q'] at f1;cases f1
    refine ⟨vs,j.gr.fh a _ n' q',f4.ext fun b o nb eb=>?_⟩
    have:b≠a:=fun z=>by rw [z,f2] at eb;cases eb
    show (if b=a then none else Hf b)=_
    rw [if_neg this];exact f3 b o nb eb
   | dk ds=>obtain ⟨a',e',n',q'⟩:=Rep.dk_iff.mp r;cases e';exact j.gr.fh a _ n' q'
   | dt ds=>obtain ⟨a',o',e',n',q'⟩:=Rep.dt_iff.mp r;cases e';exact ⟨o',j.gr.fh a _ n' q'⟩
   | du ds=>obtain ⟨a',e',n',q'⟩:=Rep.du_iff.mp r;cases e';exact j.gr.fh a _ n' q'
   | _=>exact mu.elim
  ·have m':k∈own:=((ho k).mp m).resolve_left (Ne.symm h)
   rw [List.getElem?_set_ne h] at e ⊢
   obtain ⟨b,h1,h2,h3,h4,h5⟩:=j0.ow k c m' e
   obtain ⟨b',g1,g2,g3,g4,g5⟩:=j.ow k c m' e
   rw [h1] at g1;cases g1
   refine ⟨b,h1,h2,?_,h4,h5.keep qF fun o q=>hb b o (Gh.sub' h2) q⟩
   show (if b=a then none else Hf b)=none
   split
   ·rfl
   ·exact g3
 ·by_cases hk:i=k
  ·subst hk
   have h':i≠l:=n
   have hl:i < σ.length:=by
    have:=(List.getElem?_eq_some_iff.mp sk).1
    simpa using this
   rw [List.getElem?_set_self hl] at sk
   cases sk
   rw [List.getElem?_set_ne h'] at el sl
   exact oldA l dl (((ho l).mp ml).resolve_left (Ne.symm h')) el sl
  ·by_cases hl':i=l
   ·subst hl'
    have hl:i < σ.length:=by
     have:=(List.getElem?_eq_some_iff.mp sl).1
     simpa using this
    rw [List.getElem?_set_self hl] at sl
    cases sl
    rw [List.getElem?_set_ne hk] at ek sk
    exact oldA k dk (((ho k).mp mk).resolve_left (Ne.symm hk)) ek sk
   ·rw [List.getElem?_set_ne hk] at ek sk
    rw [List.getElem?_set_ne hl'] at el sl
    exact j.ne k l b dk dl (((ho k).mp mk).resolve_left (Ne.symm hk)) (((ho l).mp ml).resolve_left (Ne.symm hl')) n ek el sk sl
theorem Jf.freeze {own':List Nat} (j:Jf G own kn Hf0 H0 σ Hf H ρ) (ho:∀k,k∈own'->k∈own):∃Hf',Jf G own' kn Hf0 H0 σ Hf' H ρ:=by
 classical
 let OA:Addr->Prop:=fun b=>∃i d,i∈own/\i∉own'/\ρ[i]?=some (some d)/\σ[i]?=some (some (.ref b))
 have oaH:∀b,OA b->Hf b=none/\H0 b=none:=fun b ⟨i,d,m,_,e,q⟩=>by
  obtain ⟨a,h1,h2,h3,h4,h5⟩:=j.ow i d m e
  rw [q] at h1;cases h1
  exact ⟨h3,h4⟩
 have fF:Ext G Hf (fun b=>if OA b then H b else Hf b):=fun b o n e=>by
  have:¬OA b:=fun z=>by rw [(oaH b z).1] at e;cases e
  show (if OA b then H b else Hf b)=_
  rw [if_neg this];exact e
 refine ⟨fun b=>if OA b then H b else Hf b,j.len,j.kn.trans fF,⟨j.gr.hh,j.gr.ff.trans fF,fun b o n e=>?_,fun b n h1 h2=>?_⟩,fun k c n e=>?_,fun k c m e=>?_,fun k l b dk dl mk ml=>j.ne k l b dk dl (ho k mk) (ho l ml)⟩
 ·have e':(if OA b then H b else Hf b)=some o:=e
  split at e'
  ·exact e'
  ·exact j.gr.fh b o n e'
 ·have:¬OA b:=fun z=>h2.no (oaH b z).2
  show (if OA b then H b else Hf b)=none
  rw [if_neg this];exact j.gr.nw b n h1 h2
 ·by_cases m:k∈own
  ·obtain ⟨a,h1,h2,h3,h4,h5⟩:=j.ow k c m e
   refine ⟨_,h1,h5.rep (Gh.sub' h2) fF fun o q=>?_⟩
   show (if OA a then H a else Hf a)=_
   rw [if_pos ⟨k,c,m,n,e,h1⟩];exact q
  ·obtain ⟨v,h1,h2⟩:=j.fz k c m e
   exact ⟨v,h1,h2.ext fF⟩
 ·obtain ⟨a,h1,h2,h3,h4,h5⟩:=j.ow k c (ho k m) e
  refine ⟨a,h1,h2,?_,h4,h5.keep fF fun o q=>q⟩
  have:¬OA a:=fun ⟨i,d,mi,ni,ei,qi⟩=>j.ne i k a d c mi (ho k m) (fun z=>ni (z▸m)) ei e qi h1
  show (if OA a then H a else Hf a)=none
  rw [if_neg this];exact h3
end
theorem Jf.setF {G:Gh} {own:List Nat} {kn Hf0 H0 Hf H:Hp} {σ:St} {ρ:Rho} {i:Nat} {d:D} {v:V} (j:Jf G own kn Hf0 H0 σ Hf H ρ) (hi:i∉own) (r:Rep G Hf d v):Jf G own kn Hf0 H0 (σ.set i (some v)) Hf H (ρ.set i (some d)):=
 j.set (own':=own) (fun k m=>⟨fun z=>hi (by rw [<-z];exact m),m⟩) (fun k m _=>m) r
def Yld (G:Gh) (fr:Bool) (t:TE) (f:Rho->M D):Prop:=
 ∀(σ:St) (Hf H:Hp) (ρ:Rho) (s:Pn) (d:D) (s':Pn) (Q:VK),Ext G Hf H->EnvR G Hf σ ρ->G.st s H->f ρ s=some (d,s')->
  (∀v Hf' H',Gr G Hf H Hf' H'->G.st s' H'->Rep G Hf' d v->(fr=true->ZaJ G H Hf' d v)->Q v H')->t σ H Q
def YldJ (G:Gh) (own:List Nat) (fr:Bool) (t:TE) (f:Rho->M D):Prop:=
 ∀(kn Hf0 H0:Hp) (σ:St) (Hf H:Hp) (ρ:Rho) (s:Pn) (d:D) (s':Pn) (Q:VK),Jf G own kn Hf0 H0 σ Hf H ρ->G.st s H->f ρ s=some (d,s')->
  (∀v Hf' H',Jf G own kn Hf0 H0 σ Hf' H' ρ->Ext G Hf Hf'->Ext G H H'->G.st s' H'->Rep G Hf' d v->(fr=true->ZaJ G H Hf' d v)->Q v H')->t σ H Q
section
variable {X:Cx} {G:Gh} {own:List Nat} {fr:Bool} {t:TE} {f:Rho->M D}
theorem Yld.a (h:Yld G fr t f):YldJ G own fr t (fun ρ=>f (hide own ρ)):=fun kn Hf0 H0 σ Hf H ρ s d s' Q j st e k=>
 h σ Hf H (hide own ρ) s d s' Q j.gr.fh j.envA st e fun v Hf' H' g st' r fz=>k v Hf' H' (j.grow g) g.ff g.hh st' r fz
theorem Yld.n (h:Yld G fr t f):YldJ G [] fr t f:=fun kn Hf0 H0 σ Hf H ρ s d s' Q j st e k=>
 h.a kn Hf0 H0 σ Hf H ρ s d s' Q j st (by show f (hide [] ρ) s=_;rw [Zhj];exact e) k
theorem ZnU {d:D} (h:ZbS d=true):¬ZfB d:=by
 cases d <;> first | exact (fun z=>z) | (simp [ZbS] at h)
def chk (fr:Bool) (f:Rho->M D):Rho->M D:=fun ρ=>Zan (f ρ) fun d=>if (ZbS d||(fr&&okB d))=true then mret d else ZaB
theorem ZoC {fr:Bool} {f:Rho->M D} {ρ:Rho} {s s':Pn} {d:D} (h:f ρ s=some (d,s')) (c:(ZbS d||(fr&&okB d))=true):chk fr f ρ s=some (d,s'):=by
 unfold chk Zan
 rw [h]
 show (if (ZbS d||(fr&&okB d))=true then mret d else ZaB) s'=_
 rw [if_pos c]
 rfl
theorem Yld.b (h:Yld G fr t f):YldJ G own fr t (chk fr f):=fun kn Hf0 H0 σ Hf H ρ s d s' Q j st e k=>by
 obtain ⟨d1,s1,a1,a2⟩:=Zai e
 obtain ⟨c,a3⟩:=Za7 a2
 obtain ⟨rfl,rfl⟩:=Zaq a3
 refine h σ _ H ρ s d s' Q Zdo j.envB st a1 fun v Hf' H' g st' r fz=>?_
 obtain ⟨F,j',fF,q1,q2⟩:=j.growB g
 rcases Bool.or_eq_true_iff.mp c with c | c
 ·exact k v F H' j' fF g.hh st' (q1 d v c r) fun z a ea m=>absurd m (ZnU c)
 ·obtain ⟨c1,c2⟩:=Bool.and_eq_true_iff.mp c
  obtain ⟨x1,x2⟩:=q2 d v c2 (fz c1) r
  exact k v F H' j' fF g.hh st' x1 fun _=>x2
inductive Out where
 | nx (ρ:Rho) | rt (d:D) | bk (ρ:Rho) | ct (ρ:Rho)
def Post (G:Gh) (ob own':List Nat) (kn Hf0 H0:Hp) (fr:Bool) (out:Out) (s':Pn) (E:Ends):Prop:=match out with
 | .nx ρ=>∀σ H,J G own' kn Hf0 H0 σ H ρ->G.st s' H->E.nx σ H
 | .bk ρ=>∀σ H,J G ob kn Hf0 H0 σ H ρ->G.st s' H->E.bk σ H
 | .ct ρ=>∀σ H,J G ob kn Hf0 H0 σ H ρ->G.st s' H->E.ct σ H
 | .rt d=>∀v Hf' H',Gr G Hf0 H0 Hf' H'->G.st s' H'->Rep G Hf' d v->(fr=true->ZaJ G H0 Hf' d v)->E.rt v H'
def Dos (G:Gh) (ob own own':List Nat) (fr:Bool) (t:TS) (g:Rho->M Out):Prop:=
 ∀(kn Hf0 H0:Hp) (σ:St) (H:Hp) (ρ:Rho) (s:Pn) (out:Out) (s':Pn) (E:Ends),J G own kn Hf0 H0 σ H ρ->G.st s H->g ρ s=some (out,s')->Post G ob own' kn Hf0 H0 fr out s' E->t E σ H
def PDS (X:Cx) (G:Gh) (ob own own':List Nat) (fr:Bool) (st:Stmt) (g:Rho->M Out):Prop:=∃t,PS X st t/\Dos G ob own own' fr t g
def PDSs (X:Cx) (G:Gh) (ob own own':List Nat) (fr:Bool) (sts:List Stmt) (g:Rho->M Out):Prop:=∃t,PSs X sts t/\Dos G ob own own' fr t g
variable {ob own' own2:List Nat}
def Zam:Rho->M Out:=fun ρ=>mret (.nx ρ)
def sSeq (g1 g2:Rho->M Out):Rho->M Out:=fun ρ=>Zan (g1 ρ) fun o=>match o with | .nx ρ'=>g2 ρ' | .rt d=>mret (.rt d) | .bk ρ'=>mret (.bk ρ') | .ct ρ'=>mret (.ct ρ')
theorem Zaj (hs:∀k,k∈own'->k∈own:=by decide):PDSs X G ob own own' fr [] Zam:=⟨_,Zip,fun kn Hf0 H0 σ H ρ s out s' E ⟨Hf,j⟩ st e p=>by
 obtain ⟨rfl,rfl⟩:=Zaq e
 exact p σ H (j.freeze hs) st⟩
theorem Zaf {st:Stmt} {sts:List Stmt} {g1 g2:Rho->M Out} (h:PDS X G ob own own2 fr st g1) (h2:PDSs X G ob own2 own' fr sts g2):PDSs X G ob own own' fr (st::sts) (sSeq g1 g2):=by
 obtain ⟨t,p,q⟩:=h
 obtain ⟨u,p2,q2⟩:=h2
 refine ⟨_,Zcr p p2,fun kn Hf0 H0 σ H ρ s out s' E j st e po=>?_⟩
 obtain ⟨o,s1,a1,a2⟩:=Zai e
 refine q kn Hf0 H0 σ H ρ s o s1 _ j st a1 ?_
 cases o with
 | nx ρ1=>exact fun σ1 H1 j1 st1=>q2 kn Hf0 H0 σ1 H1 ρ1 s1 out s' E j1 st1 a2 po
 | rt d=>obtain ⟨rfl,rfl⟩:=Zaq a2;exact po
 | bk ρ1=>obtain ⟨rfl,rfl⟩:=Zaq a2;exact po
 | ct ρ1=>obtain ⟨rfl,rfl⟩:=Zaq a2;exact po
def sRet (f:Rho->M D):Rho->M Out:=fun ρ=>Zan (f ρ) fun d=>mret (.rt d)
theorem Zay {e:Expr} {pos:Pos} (h:PD X G fr e f):PDS X G ob own own' fr (.Return (some e) pos) (sRet f):=by
 obtain ⟨t,p,q⟩:=h
 refine ⟨_,Zj9 p,fun kn Hf0 H0 σ H ρ s out s' E ⟨Hf,j⟩ st e po=>?_⟩
 obtain ⟨d,s1,a1,a2⟩:=Zai e
 obtain ⟨rfl,rfl⟩:=Zaq a2
 exact q σ _ H ρ s d s' _ Zdo j.envB st a1 fun v Hf' H' g st' r fz=>po v Hf' H' (j.grW g) st' r fun z=>ZaJ.old j.gr.hh r.nofp (fz z)
theorem Zmz {i:Nat} {x:Str} {pos pos':Pos} (hi:i∈own) (h:PE X (.Name x pos') (tVar i)):PDS X G ob own own' true (.Return (some (.Name x pos')) pos) (sRet (dVar i)):=by
 refine ⟨_,Zj9 h,fun kn Hf0 H0 σ H ρ s out s' E ⟨Hf,j⟩ st e po=>?_⟩
 obtain ⟨d,s1,a1,a2⟩:=Zai e
 obtain ⟨rfl,rfl⟩:=Zaq a2
 obtain ⟨e1,rfl⟩:=Zbt a1
 have e':ρ[i]?=some (some d):=by
  cases q:ρ[i]? with
  | none=>rw [q] at e1;cases e1
  | some o=>rw [q] at e1;simp at e1;rw [e1]
 obtain ⟨v,h1,h2⟩:=j.envB i d e'
 obtain ⟨a,g1,g2,g3,g4,g5⟩:=j.ow i d hi e'
 rw [g1] at h1;cases h1
 refine ⟨_,g1,po (.ref a) _ H (j.grW (.refl Zdo)) st h2 fun _ b eb _=>?_⟩
 cases eb
 refine ⟨g4,fun ds ed=>?_⟩
 subst ed
 obtain ⟨vs,q1,q2⟩:=g5
 refine ⟨vs,Hf,?_,g3,j.wideF,q2⟩
 unfold wide
 rw [if_neg (fun z=>z.2.no g4)]
 exact q1
def sIf (c:Rho->M Bool) (g1 g2:Rho->M Out):Rho->M Out:=fun ρ=>Zan (c ρ) fun b=>if b=true then g1 ρ else g2 ρ
theorem Zbo {c:Expr} {a b:List Stmt} {pos:Pos} {fc:Rho->M Bool} {g1 g2:Rho->M Out} (hc:PDT X G c fc) (ha:PDSs X G ob own own' fr a g1) (hb:PDSs X G ob own own' fr b g2):PDS X G ob own own' fr (.If c a b pos) (sIf fc g1 g2):=by
 obtain ⟨tc,pc,qc⟩:=hc
 obtain ⟨ta,pa,qa⟩:=ha
 obtain ⟨tb,pb,qb⟩:=hb
 refine ⟨_,ZjJ pc pa pb,fun kn Hf0 H0 σ H ρ s out s' E ⟨Hf,j⟩ st e po=>?_⟩
 obtain ⟨b,s1,a1,a2⟩:=Zai e
 refine qc σ _ H ρ s b s1 _ Zdo j.envB st a1 fun Hf' H' g st'=>?_
 obtain ⟨F,j',fF,q1,q2⟩:=j.growB g
 cases b with
 | true=>exact iteT (qa kn Hf0 H0 σ H' ρ s1 out s' E ⟨F,j'⟩ st' a2 po)
 | false=>exact iteF (qb kn Hf0 H0 σ H' ρ s1 out s' E ⟨F,j'⟩ st' a2 po)
def PAsg (X:Cx) (G:Gh) (fr:Bool) (i:Nat) (st:Stmt) (f:Rho->M D):Prop:=∃te,PS X st (fun E σ H=>te σ H fun y H1=>E.nx (σ.set i (some y)) H1)/\Yld G fr te f
theorem ZaL {i:Nat} {x:Str} {e:Expr} {pos pos':Pos} (hN:X.N.Nodup) (hi:X.N[i]?=some x) (hx:Loc X.env.scope x) (he:PD X G fr e f) (hs:swapsWith e (some (.Name x pos')) pos.line X.env=pure false:=by rfl)
  (hf:X.fn x=true∨X.env.scope.names.lookup x=some .local:=by first | exact .inl rfl | exact .inr rfl | assumption):PAsg X G fr i (.Assign [.Name x pos'] e pos) f:=by
 obtain ⟨t,p,q⟩:=he
 exact ⟨t,Zev hN hi hx p hs hf,q⟩
def sSet (i:Nat) (f:Rho->M D):Rho->M Out:=fun ρ=>Zan (f ρ) fun d=>mret (.nx (ρ.set i (some d)))
theorem Zkd {i:Nat} {st:Stmt} {te:TE} (hp:PS X st (fun E σ H=>te σ H fun y H1=>E.nx (σ.set i (some y)) H1)) (hy:YldJ G own fr te f) (hi:i∉own) {fr':Bool}:PDS X G ob own own fr' st (sSet i f):=
 ⟨_,hp,fun kn Hf0 H0 σ H ρ s out s' E ⟨Hf,j⟩ st e po=>by
  obtain ⟨d,s1,a1,a2⟩:=Zai e
  obtain ⟨rfl,rfl⟩:=Zaq a2
  exact hy kn Hf0 H0 σ Hf H ρ s d s' _ j st a1 fun v Hf' H' j' e1 e2 st' r fz=>po _ H' ⟨Hf',j'.setF hi r⟩ st'⟩
theorem ZaK {i:Nat} {st:Stmt} {fr':Bool} (h:PAsg X G fr i st f):PDS X G ob [] [] fr' st (sSet i f):=let ⟨_,p,q⟩:=h;Zkd p q.n (by simp)
theorem Zg8 {i:Nat} {st:Stmt} {fr':Bool} (h:PAsg X G fr i st f) (hi:i∉own:=by decide):PDS X G ob own own fr' st (sSet i (fun ρ=>f (hide own ρ))):=let ⟨_,p,q⟩:=h;Zkd p q.a hi
def sOwn (i:Nat) (f:Rho->M D):Rho->M Out:=fun ρ=>Zan (f ρ) fun d=>if Zgc d=true then mret (.nx (ρ.set i (some d))) else ZaB
theorem Zpb {i:Nat} {st:Stmt} {te:TE} (hp:PS X st (fun E σ H=>te σ H fun y H1=>E.nx (σ.set i (some y)) H1)) (hy:YldJ G own true te f) (ho:∀k,k∈own'↔k=i∨k∈own) {fr':Bool}:PDS X G ob own own' fr' st (sOwn i f):=
 ⟨_,hp,fun kn Hf0 H0 σ H ρ s out s' E ⟨Hf,j⟩ st e po=>by
  obtain ⟨d,s1,a1,a2⟩:=Zai e
  obtain ⟨ok,a3⟩:=Za7 a2
  obtain ⟨rfl,rfl⟩:=Zaq a3
  exact hy kn Hf0 H0 σ Hf H ρ s d s' _ j st a1 fun v Hf' H' j' e1 e2 st' r fz=>po _ H' (j.setOwn j' ho st e2 e1 r (fz rfl) ok) st'⟩
theorem Zfw {i:Nat} {st:Stmt} {fr':Bool} (h:PAsg X G true i st f):PDS X G ob [] [i] fr' st (sOwn i f):=let ⟨_,p,q⟩:=h;Zpb p q.n (by intro k;simp)
def sPar (i j:Nat) (fs:Rho->M (List D)):Rho->M Out:=fun ρ=>Zan (fs ρ) fun ds=>match ds with | [a,b]=>if (ZbS a&&ZbS b)=true then mret (.nx ((ρ.set i (some a)).set j (some b))) else ZaB | _=>ZaB
theorem ZqJ {i j:Nat} {x y:Str} {a b:Expr} {fs:Rho->M (List D)} {px py pt pos:Pos} {kt k2 pt2} (hc:X.calm=true) (hN:X.N.Nodup) (hi:X.N[i]?=some x) (hj:X.N[j]?=some y) (hij:i≠j) (oi:i∉own) (oj:j∉own)
  (hx:X.env.scope.names.lookup x=some .local) (hy:X.env.scope.names.lookup y=some .local) (ha:PDA X G [a,b] fs)
  (hw:swappedStores [.Tuple [.Name x px,.Name y py] kt pt] (.Tuple [a,b] k2 pt2) X.env=pure (some [x,y]))
  (hs:swapsWithSole [.Tuple [.Name x px,.Name y py] kt pt] (.Tuple [a,b] k2 pt2) pos.line X.env=pure false:=by rfl) :
  PDS X G ob own own fr (.Assign [.Tuple [.Name x px,.Name y py] kt pt] (.Tuple [a,b] k2 pt2) pos) (sPar i j fs):=by
 obtain ⟨t,p,q⟩:=ha
 refine ⟨_,ZrK hc hN hi hj hij hx hy p hw hs,fun kn Hf0 H0 σ H ρ s out s' E ⟨Hf,j'⟩ st e po=>?_⟩
 obtain ⟨ds,s1,a1,a2⟩:=Zai e
 refine q σ _ H ρ s ds s1 _ Zdo j'.envB st a1 fun vs Hf' H' g st' r=>?_
 match ds,a2,r with
 | [d1,d2],a2,r=>
  obtain ⟨c,a3⟩:=Za7 a2
  obtain ⟨rfl,rfl⟩:=Zaq a3
  obtain ⟨c1,c2⟩:=Bool.and_eq_true_iff.mp c
  obtain ⟨v1,r1,rfl,q1,q2⟩:=RepL.cons_iff.mp r
  obtain ⟨v2,r2,rfl,q3,q4⟩:=RepL.cons_iff.mp q2
  rw [RepL.nil_iff.mp q4]
  obtain ⟨F,jF,fF,f1,f2⟩:=j'.growB g
  exact ⟨v1,v2,rfl,po _ H' ⟨F,(jF.setF oi (f1 _ _ c1 q1)).setF oj (f1 _ _ c2 q3)⟩ st'⟩
 | [],a2,_=>cases a2
 | [_],a2,_=>cases a2
 | _::_::_::_,a2,_=>cases a2
inductive Sets (G:Gh) (Hf:Hp) (ok:Nat->Prop):St->Rho->St->Rho->Prop
 | nil {σ ρ}:Sets G Hf ok σ ρ σ ρ
 | cons {σ ρ σ' ρ'} {i:Nat} {d:D} {v:V}:ok i->Rep G Hf d v->Sets G Hf ok (σ.set i (some v)) (ρ.set i (some d)) σ' ρ'->Sets G Hf ok σ ρ σ' ρ'
def PDG (X:Cx) (G:Gh) (tg:Expr) (ok:Nat->Prop) (τ:D->Rho->Option Rho):Prop:=
 ∃g,PG X tg g/\∀(x:V) (σ:St) (Hf H:Hp) (d:D) (ρ ρ':Rho) (Q:St->Hp->Prop),Ext G Hf H->Rep G Hf d x->τ d ρ=some ρ'->(∀σ',Sets G Hf ok σ ρ σ' ρ'->Q σ' H)->g x σ H Q
def gOne (i:Nat):D->Rho->Option Rho:=fun d ρ=>some (ρ.set i (some d))
theorem ZaF {i:Nat} {x:Str} {pos:Pos} {ok:Nat->Prop} (hN:X.N.Nodup) (hi:X.N[i]?=some x) (hx:Loc X.env.scope x) (oi:ok i) (hf:X.fn x=true∨X.env.scope.names.lookup x=some .local:=by first | exact .inl rfl | exact .inr rfl | assumption):PDG X G (.Name x pos) ok (gOne i):=
 ⟨_,Zgq hN hi hx hf,fun x σ Hf H d ρ ρ' Q e r q k=>by
  cases q
  exact k _ (.cons oi r .nil)⟩
def Zqa (i j:Nat):D->Rho->Option Rho:=fun d ρ=>match d with | .tup [a,b]=>some ((ρ.set i (some a)).set j (some b)) | _=>none
theorem Zpc {i j:Nat} {x y:Str} {pos px py:Pos} {k:Nat} {ok:Nat->Prop} (hc:X.calm=true) (hN:X.N.Nodup) (hi:X.N[i]?=some x) (hj:X.N[j]?=some y) (hx:Loc X.env.scope x) (hy:Loc X.env.scope y) (oi:ok i) (oj:ok j)
  (hfx:X.fn x=true∨X.env.scope.names.lookup x=some .local:=by first | exact .inl rfl | exact .inr rfl | assumption) (hfy:X.fn y=true∨X.env.scope.names.lookup y=some .local:=by first | exact .inl rfl | exact .inr rfl | assumption)
  (hn:(assignEach [.Name x px,.Name y py] X.env).length=2:=by rfl) (hst:(assignEach [.Name x px,.Name y py] X.env).findIdx? (·.1)=none:=by rfl)
  (hp:PGs X [.Name x px,.Name y py] (ZmZ (ZgA i) (ZmZ (ZgA j) gNil))):PDG X G (.Tuple [.Name x px,.Name y py] k pos) ok (Zqa i j):=
 ⟨_,ZrO hc hp hn hst,fun x σ Hf H d ρ ρ' Q e r q k=>by
  match d,q,r with
  | .tup [a,b],q,r=>
   cases q
   obtain ⟨ad,vs,rfl,n,h,rl⟩:=Rep.tup_iff.mp r
   obtain ⟨v1,r1,rfl,q1,q2⟩:=RepL.cons_iff.mp rl
   obtain ⟨v2,r2,rfl,q3,q4⟩:=RepL.cons_iff.mp q2
   have:=RepL.nil_iff.mp q4
   subst this
   exact ⟨ad,_,rfl,SqT.of (e _ _ n h),rfl,v1,_,rfl,v2,_,rfl,rfl,k _ (.cons oi q1 (.cons oj q3 .nil))⟩⟩
theorem Sets.jf {kn Hf0 H0 Hf H:Hp} {σ σ':St} {ρ ρ':Rho} (h:Sets G Hf (fun i=>i∉own) σ ρ σ' ρ'):Jf G own kn Hf0 H0 σ Hf H ρ->Jf G own kn Hf0 H0 σ' Hf H ρ':=by
 induction h with
 | nil=>exact fun j=>j
 | cons o r _ ih=>exact fun j=>ih (j.setF o r)
def ItOk (G:Gh) (J:It) (Hf':Hp) (ds:List D):Prop:=
 ∀(i:Nat) (Hf2 H2:Hp) (s:Pn),Ext G Hf' Hf2->Ext G Hf2 H2->G.st s H2->
  (∀d,ds[i]?=some d->J.go i H2/\∀x H3,J.yld i H2 x H3->∃Hf3,Gr G Hf2 H2 Hf3 H3/\G.st s H3/\Rep G Hf3 d x)/\(i=ds.length->J.stop i H2)
def PDI (X:Cx) (G:Gh) (tg iter:Expr) (f:Rho->M (List D)):Prop:=
 ∃wi,PI X tg iter wi/\∀(σ:St) (Hf H:Hp) (ρ:Rho) (s:Pn) (ds:List D) (s':Pn) (R:It->Hp->Prop),Ext G Hf H->EnvR G Hf σ ρ->G.st s H->f ρ s=some (ds,s')->
  (∀J Hf' H',Gr G Hf H Hf' H'->G.st s' H'->ItOk G J Hf' ds->R J H')->wi σ H R
theorem ItOk.range {lo:Int} {n:Nat} {Hf:Hp} {ds:List D} (e:ds=(List.range n).map fun (i:Nat)=>D.int (lo+i)):ItOk G (Itr lo n) Hf ds:=fun i Hf2 H2 s e1 e2 st=>by
 subst e
 refine ⟨fun d q=>?_,fun q=>by show n<=i;rw [q];simp⟩
 have hi:i<n:=by
  have:=(List.getElem?_eq_some_iff.mp q).1
  simpa using this
 have hd:d=.int (lo+i):=by
  rw [List.getElem?_map,List.getElem?_range hi] at q
  simp at q;exact q.symm
 subst hd
 refine ⟨hi,fun x H3 y=>?_⟩
 obtain ⟨y1,y2⟩:=y
 subst y1 y2
 exact ⟨Hf2,.refl e2,st,Rep.int_iff.mpr rfl⟩
theorem ItOk.list {K:PySem.W.Frag} {a:Addr} {vs:List V} {Hf:Hp} {ds:List D} (nf:¬G.fp a) (h:Hf a=some (.lst vs)) (r:RepL G Hf ds vs):ItOk G (Itl K a) Hf ds:=fun i Hf2 H2 s e1 e2 st=>by
 have h2:SqL K H2 a vs:=SqL.of (e2 _ _ nf (e1 _ _ nf h))
 refine ⟨fun d q=>?_,fun q=>⟨vs,h2,by rw [q,r.length];exact Nat.le_refl _⟩⟩
 obtain ⟨v,q1,q2⟩:=r.get q
 refine ⟨⟨vs,v,h2,q1⟩,fun x H3 ⟨y1,y2⟩=>?_⟩
 subst y1
 have e:=y2 vs h2
 rw [q1] at e;cases e
 exact ⟨Hf2,.refl e2,st,q2.ext e1⟩
theorem ItOk.tup {K:PySem.W.Frag} {a:Addr} {vs:List V} {Hf:Hp} {ds:List D} (nf:¬G.fp a) (h:Hf a=some (.tup vs)) (r:RepL G Hf ds vs):ItOk G (Itt K a) Hf ds:=fun i Hf2 H2 s e1 e2 st=>by
 have h2:SqT K H2 a vs:=SqT.of (e2 _ _ nf (e1 _ _ nf h))
 refine ⟨fun d q=>?_,fun q=>⟨vs,h2,by rw [q,r.length];exact Nat.le_refl _⟩⟩
 obtain ⟨v,q1,q2⟩:=r.get q
 refine ⟨⟨vs,v,h2,q1⟩,fun x H3 ⟨y1,y2⟩=>?_⟩
 subst y1
 have e:=y2 vs h2
 rw [q1] at e;cases e
 exact ⟨Hf2,.refl e2,st,q2.ext e1⟩
def ZaH (lo:Int) (n:Nat):List D:=(List.range n).map fun (i:Nat)=>D.int (lo+i)
def ZaU (f:Rho->M D):Rho->M (List D):=fun ρ=>Zan (f ρ) fun d=>match d with | .int j=>if -(2 ^ 62)<=j/\j<2 ^ 62 then mret (ZaH 0 j.toNat) else ZaB | _=>ZaB
theorem Zcb {tg a:Expr} {p pos:Pos} {r1:Bool} (hg:Gl X "range") (hm:X.mg "range" = none) (ha:PD X G r1 a f) (hs:starEach [a] X.env=[(false,eval a X.env)]:=by rfl):PDI X G tg (.Call (.Name "range" p) [a] [] pos) (ZaU f):=by
 obtain ⟨t,pa,qa⟩:=ha.drop
 refine ⟨_,ZiX hg hm (Zbb pa ZbO (by rw [hs];rfl)) hs,fun σ Hf H ρ s ds s' R e1 e2 e3 e4 k=>?_⟩
 obtain ⟨d,s1,a1,a2⟩:=Zai e4
 cases d with
 | int j=>
  obtain ⟨c,a3⟩:=Za7 a2
  obtain ⟨rfl,rfl⟩:=Zaq a3
  refine qa σ Hf H ρ s _ _ _ e1 e2 e3 a1 fun v Hf1 H1 g st r=>?_
  rw [Rep.int_iff.mp r]
  exact ⟨j,rfl,c.1,c.2,k _ Hf1 H1 g st (.range rfl)⟩
 | _=>cases a2
def Zfg (f g:Rho->M D):Rho->M (List D):=fun ρ=>Zan (f ρ) fun d=>Zan (g ρ) fun e=>match d,e with | .int i,.int j=>if -(2 ^ 62)<=i/\i<2 ^ 62/\-(2 ^ 62)<=j/\j<2 ^ 62 then mret (ZaH i (j-i).toNat) else ZaB | _,_=>ZaB
def ZaY (f:Rho->M D):Rho->M (List D):=fun ρ=>Zan (f ρ) fun d=>match d with | .lst ds=>mret ds | _=>ZaB
def Zdk (f:Rho->M D):Rho->M (List D):=fun ρ=>Zan (f ρ) fun d=>match d with | .tup ds=>mret ds | _=>ZaB
theorem ZbH {tg l:Expr} {r1:Bool} (hl:PD X G r1 l f):PDI X G tg l (ZaY f):=by
 obtain ⟨t,pa,qa⟩:=hl.drop
 refine ⟨_,ZqA pa,fun σ Hf H ρ s ds s' R e1 e2 e3 e4 k=>?_⟩
 obtain ⟨d,s1,a1,a2⟩:=Zai e4
 cases d with
 | lst es=>
  obtain ⟨rfl,rfl⟩:=Zaq a2
  refine qa σ Hf H ρ s _ _ _ e1 e2 e3 a1 fun v Hf1 H1 g st r=>?_
  obtain ⟨a,vs,rfl,nf,h,rl⟩:=Rep.lst_iff.mp r
  exact ⟨a,rfl,⟨vs,SqL.of (g.fh _ _ nf h)⟩,k _ Hf1 H1 g st (.list nf h rl)⟩
 | _=>cases a2
theorem Ziq {tg l:Expr} {r1:Bool} (hl:PD X G r1 l f):PDI X G tg l (Zdk f):=by
 obtain ⟨t,pa,qa⟩:=hl.drop
 refine ⟨_,ZrN pa,fun σ Hf H ρ s ds s' R e1 e2 e3 e4 k=>?_⟩
 obtain ⟨d,s1,a1,a2⟩:=Zai e4
 cases d with
 | tup es=>
  obtain ⟨rfl,rfl⟩:=Zaq a2
  refine qa σ Hf H ρ s _ _ _ e1 e2 e3 a1 fun v Hf1 H1 g st r=>?_
  obtain ⟨a,vs,rfl,nf,h,rl⟩:=Rep.tup_iff.mp r
  exact ⟨a,rfl,⟨vs,SqT.of (g.fh _ _ nf h)⟩,k _ Hf1 H1 g st (.tup nf h rl)⟩
 | _=>cases a2
def mFor (τ:D->Rho->Option Rho) (body:Rho->M Out):List D->Rho->M Out
 | [],ρ=>mret (.nx ρ)
 | d::ds,ρ=>Zan (mOf (τ d ρ)) fun ρ1=>Zan (body ρ1) fun o=>match o with | .nx ρ2=>mFor τ body ds ρ2 | .ct ρ2=>mFor τ body ds ρ2 | .bk ρ2=>mret (.nx ρ2) | .rt d=>mret (.rt d)
def sFor (fi:Rho->M (List D)) (τ:D->Rho->Option Rho) (body:Rho->M Out):Rho->M Out:=fun ρ=>Zan (fi ρ) fun ds=>mFor τ body ds ρ
def PDIJ (X:Cx) (G:Gh) (own:List Nat) (tg iter:Expr) (f:Rho->M (List D)):Prop:=
 ∃wi,PI X tg iter wi/\∀(kn Hf0 H0:Hp) (σ:St) (Hf H:Hp) (ρ:Rho) (s:Pn) (ds:List D) (s':Pn) (R:It->Hp->Prop),Jf G own kn Hf0 H0 σ Hf H ρ->G.st s H->f ρ s=some (ds,s')->
  (∀J Hf' H',Jf G own kn Hf0 H0 σ Hf' H' ρ->Ext G Hf Hf'->G.st s' H'->ItOk G J Hf' ds->R J H')->wi σ H R
theorem PDI.a {tg iter:Expr} {fi:Rho->M (List D)} (h:PDI X G tg iter fi):PDIJ X G own tg iter (fun ρ=>fi (hide own ρ)):=by
 obtain ⟨wi,p,q⟩:=h
 exact ⟨wi,p,fun kn Hf0 H0 σ Hf H ρ s ds s' R j st e k=>q σ Hf H _ s ds s' R j.gr.fh j.envA st e fun J Hf' H' g st' it=>k J Hf' H' (j.grow g) g.ff st' it⟩
theorem PDI.n {tg iter:Expr} {fi:Rho->M (List D)} (h:PDI X G tg iter fi):PDIJ X G [] tg iter fi:=by
 obtain ⟨wi,p,q⟩:=h.a (own:=[])
 exact ⟨wi,p,fun kn Hf0 H0 σ Hf H ρ s ds s' R j st e k=>q kn Hf0 H0 σ Hf H ρ s ds s' R j st (by show fi (hide [] ρ) s=_;rw [Zhj];exact e) k⟩
theorem Zch {tg a:Expr} {p pos:Pos} {r1:Bool} (hg:Gl X "range") (hm:X.mg "range" = none) (ha:PD X G r1 a f) (hs:starEach [a] X.env=[(false,eval a X.env)]:=by rfl):PDIJ X G own tg (.Call (.Name "range" p) [a] [] pos) (ZaU f):=by
 obtain ⟨t,pa,qa⟩:=ha.drop
 refine ⟨_,ZiX hg hm (Zbb pa ZbO (by rw [hs];rfl)) hs,fun kn Hf0 H0 σ Hf H ρ s ds s' R j st e4 k=>?_⟩
 obtain ⟨d,s1,a1,a2⟩:=Zai e4
 cases d with
 | int i=>
  obtain ⟨c,a3⟩:=Za7 a2
  obtain ⟨rfl,rfl⟩:=Zaq a3
  refine qa σ _ H ρ s _ _ _ Zdo j.envB st a1 fun v Hf1 H1 g st r=>?_
  obtain ⟨F,j',fF,q1,q2⟩:=j.growB g
  rw [Rep.int_iff.mp r]
  exact ⟨i,rfl,c.1,c.2,k _ F H1 j' fF st (.range rfl)⟩
 | _=>cases a2
theorem ZgY {tg a b:Expr} {p pos:Pos} {r1 r2:Bool} {f2:Rho->M D} (hg:Gl X "range") (hm:X.mg "range" = none) (ha:PD X G r1 a f) (hb:PD X G r2 b f2)
  (hs:starEach [a,b] X.env=[(false,eval a X.env),(false,eval b X.env)]:=by rfl) (hs2:starEach [b] X.env=[(false,eval b X.env)]:=by rfl):PDIJ X G own tg (.Call (.Name "range" p) [a,b] [] pos) (Zfg f f2):=by
 obtain ⟨t,pa,qa⟩:=ha.drop
 obtain ⟨u,pb,qb⟩:=hb.drop
 refine ⟨_,ZnG hg hm (Zbb pa (Zbb pb ZbO (by rw [hs2];rfl)) (by rw [hs,hs2])) hs hs2,fun kn Hf0 H0 σ Hf H ρ s ds s' R j st e4 k=>?_⟩
 obtain ⟨d,s1,a1,a2⟩:=Zai e4
 obtain ⟨d2,s2,a3,a4⟩:=Zai a2
 match d,d2,a4,a1,a3 with
 | .int i,.int l,a4,a1,a3=>
  obtain ⟨c,a5⟩:=Za7 a4
  obtain ⟨rfl,rfl⟩:=Zaq a5
  refine qa σ _ H ρ s _ _ _ Zdo j.envB st a1 fun v Hf1 H1 g st r=>?_
  refine qb σ Hf1 H1 ρ s1 _ _ _ g.fh (j.envB.ext g.ff) st a3 fun v2 Hf2 H2 g2 st2 r2=>?_
  obtain ⟨F,j',fF,q1,q2⟩:=j.growB (g.trans g2)
  rw [Rep.int_iff.mp r,Rep.int_iff.mp r2]
  exact ⟨i,l,rfl,c,k _ F H2 j' fF st2 (.range rfl)⟩
theorem Jf.weak {kn kn' Hf0 H0 Hf H:Hp} {σ:St} {ρ:Rho} (j:Jf G own kn' Hf0 H0 σ Hf H ρ) (e:Ext G kn kn'):Jf G own kn Hf0 H0 σ Hf H ρ:=⟨j.len,e.trans j.kn,j.gr,j.fz,j.ow,j.ne⟩
theorem Zcm {tg iter:Expr} {body:List Stmt} {pos:Pos} {fi:Rho->M (List D)} {τ:D->Rho->Option Rho} {g:Rho->M Out} (hp:PassesOwn (model X.prog X.w) X.A X.env X.xe) (hc:X.calm=true) (hi:PDIJ X G own tg iter fi) (hg:PDG X G tg (fun i=>i∉own) τ) (hb:PDSs X G own own own fr body g)
  (hs:∀x,foldedSetIterable iter X.env x=pure x:=by intro _;rfl):PDS X G ob own own fr (.For tg iter body [] pos) (sFor fi τ g):=by
 obtain ⟨wi,pi,qi⟩:=hi
 obtain ⟨gt,pg,qg⟩:=hg
 obtain ⟨tb,pb,qb⟩:=hb
 refine ⟨_,ZrL hp hc pi pg pb hs,fun kn Hf0 H0 σ H ρ s out s' E ⟨Hf,j⟩ st e po=>?_⟩
 obtain ⟨ds,s1,a1,a2⟩:=Zai e
 refine qi kn Hf0 H0 σ Hf H ρ s ds s1 _ j st a1 fun Jt Hf1 H1 j1 e1 st1 it=>?_
 refine ⟨fun i m σ2 H2=>∃ρ2 s2,J G own Hf1 Hf0 H0 σ2 H2 ρ2/\G.st s2 H2/\mFor τ g (ds.drop i) ρ2 s2=some (out,s')/\i<=ds.length/\m=ds.length-i,⟨_,ρ,s1,⟨Hf1,⟨j1.len,.refl _ _,j1.gr,j1.fz,j1.ow,j1.ne⟩⟩,st1,a2,Nat.zero_le _,rfl⟩,?_⟩
 rintro i m σ2 H2 ⟨ρ2,s2,⟨Hf2,j2⟩,st2,eq2,hle,rfl⟩
 obtain ⟨i1,i2⟩:=it i Hf2 H2 s2 j2.kn j2.gr.fh st2
 by_cases hlt:i<ds.length
 ·have hd:ds.drop i=ds[i]::ds.drop (i+1):=List.drop_eq_getElem_cons hlt
  rw [hd] at eq2
  obtain ⟨ρ3,s3,b1,b2⟩:=Zai eq2
  obtain ⟨b1',e3⟩:=Zbt b1
  subst e3
  obtain ⟨o,s4,b3,b4⟩:=Zai b2
  obtain ⟨go,yl⟩:=i1 ds[i] (by simp [hlt])
  refine .inr ⟨go,fun σ' H'=>∃ρ5 s5,J G own Hf1 Hf0 H0 σ' H' ρ5/\G.st s5 H'/\mFor τ g (ds.drop (i+1)) ρ5 s5=some (out,s'),fun σ' H' ⟨ρ5,s5,j5,st5,q5⟩=>⟨_,by omega,ρ5,s5,j5,st5,q5,hlt,rfl⟩,fun x H3 y3=>?_⟩
  obtain ⟨Hf3,g3,st3,r3⟩:=yl x H3 y3
  have j3:=j2.grow g3
  refine qg x σ2 Hf3 H3 ds[i] ρ2 ρ3 _ g3.fh r3 b1' fun σ3 sets=>?_
  have j4:=sets.jf j3
  refine qb Hf1 Hf0 H0 σ3 H3 ρ3 s3 o s4 _ ⟨Hf3,j4⟩ st3 b3 ?_
  cases o with
  | nx ρ5=>exact fun σ5 H5 j5 st5=>⟨ρ5,s4,j5,st5,b4⟩
  | ct ρ5=>exact fun σ5 H5 j5 st5=>⟨ρ5,s4,j5,st5,b4⟩
  | bk ρ5=>
   obtain ⟨rfl,rfl⟩:=Zaq b4
   exact fun σ5 H5 ⟨Hf5,j5⟩ st5=>po σ5 H5 ⟨Hf5,j5.weak (j.kn.trans e1)⟩ st5
  | rt d=>
   obtain ⟨rfl,rfl⟩:=Zaq b4
   exact po
 ·have hd:ds.drop i=[]:=List.drop_eq_nil_iff.mpr (by omega)
  rw [hd] at eq2
  obtain ⟨rfl,rfl⟩:=Zaq eq2
  exact .inl ⟨i2 (by omega),po σ2 H2 ⟨Hf2,j2.weak (j.kn.trans e1)⟩ st2⟩
end
def runB (n k:Nat) (g:Rho->M Out):List D->M D:=fun ds=>if ds.length=k then Zan (g (ds.map some++List.replicate (n-k) none)) fun o=>match o with | .rt d=>mret d | .nx _=>mret .non | _=>ZaB else ZaB
theorem fnD {P:Program} {w:World} {K:PySem.W.Frag} {mg:Str->Option Value} {base:Heap} {x qual:Str} {st:Stmt} {f:Addr} {fd:FuncData} {N ps:List Str} {k:Nat} {own:List Nat} {fr:Bool} {GG:Gh->Prop} {g:Rho->M Out}
  (F:Fun K x qual st f fd) (S:FnScope N ps (Zal st))
  (hb:∀(cdv:Value) (A:Around) (outer:List Env) (s:Shared) (H:Hp) (E:XK),Room k (A.deeper (envOfC qual (Zal st) s.heap.objs.size f cdv))->∀G,GG G->PDSs (cxOf CX0 P w K mg base N qual (Zal st) f cdv A outer s H E).nox G [] [] own fr (Zb9 st) g) :
  FnOk P w K mg base CX0 (k+1) f fd ps (spD ps.length fr GG (runB N.length ps.length g)):=by
 refine F.ok S (fun vs H Q E h=>?_) fun cdv A outer s H vs Q E hr h=>?_
 ·obtain ⟨G,Hf,ds,pn,d,pn',_,e,_⟩:=h
  exact e
 ·obtain ⟨G,Hf,ds,pn,d,pn',hG,el,e1,r,st',eF,k'⟩:=h
  obtain ⟨t,p,q⟩:=hb cdv A outer s H E hr G hG
  refine ⟨t,p,?_⟩
  obtain ⟨hl,a0⟩:=Za7 eF
  obtain ⟨o,s1,a1,a2⟩:=Zai a0
  have hpl:ps.length<=N.length:=by have:=congrArg List.length S.pre;rw [List.length_take] at this;omega
  have j0:Jf G [] Hf Hf H (L2.start N vs) Hf H (ds.map some++List.replicate (N.length-ps.length) none):=by
   refine ⟨?_,.refl _ _,.refl e1,fun i d n e=>?_,fun i d m e=>?_,fun i j a di dj mi mj n e=>?_⟩
   ·unfold L2.start;simp;omega
   ·have hi:i<ds.length:=by
     by_cases hi:i<ds.length
     ·exact hi
     ·rw [List.getElem?_append_right (by simpa using hi),List.getElem?_replicate] at e
      split at e <;> cases e
    have e':ds[i]?=some d:=by
     rw [List.getElem?_append_left (by simpa using hi),List.getElem?_map] at e
     cases q:ds[i]? with
     | none=>rw [q] at e;cases e
     | some c=>rw [q] at e;simp at e;rw [e]
    obtain ⟨v,h1,h2⟩:=r.get e'
    refine ⟨v,?_,h2⟩
    unfold L2.start
    rw [List.getElem?_append_left (by simp;rw [<-r.length];exact hi),List.getElem?_map,h1]
    rfl
   ·exact absurd m (by simp)
   ·exact absurd mi (by simp)
  refine q Hf Hf H (L2.start N vs) H _ pn o s1 _ ⟨Hf,j0⟩ st' a1 ?_
  cases o with
  | rt c=>
   obtain ⟨rfl,rfl⟩:=Zaq a2
   exact fun v Hf' H' g' st2 r2 fz=>k' v Hf' H' g' st2 r2 fz
  | nx ρ'=>
   obtain ⟨rfl,rfl⟩:=Zaq a2
   exact fun σ' H' ⟨Hf',j'⟩ st2=>k' .non Hf' H' j'.gr st2 (Rep.non_iff.mpr rfl) fun _=>.scal fun z=>z
  | bk ρ'=>cases a2
  | ct ρ'=>cases a2
def tOf (G:Gh) (fr:Bool) (f:Rho->M D):TE:=fun σ H Q=>∃(Hf:Hp) (ρ:Rho) (s:Pn) (d:D) (s':Pn),Ext G Hf H/\EnvR G Hf σ ρ/\G.st s H/\f ρ s=some (d,s')/\
 ∀v Hf' H',Gr G Hf H Hf' H'->G.st s' H'->Rep G Hf' d v->(fr=true->ZaJ G H Hf' d v)->Q v H'
def tOfT (G:Gh) (f:Rho->M Bool):TT:=fun σ H Q=>∃(Hf:Hp) (ρ:Rho) (s:Pn) (b:Bool) (s':Pn),Ext G Hf H/\EnvR G Hf σ ρ/\G.st s H/\f ρ s=some (b,s')/\
 ∀Hf' H',Gr G Hf H Hf' H'->G.st s' H'->Q b H'
def gOf (G:Gh) (ok:Nat->Prop) (τ:D->Rho->Option Rho):TG:=fun x σ H Q=>∃(Hf:Hp) (d:D) (ρ ρ':Rho),Ext G Hf H/\Rep G Hf d x/\τ d ρ=some ρ'/\∀σ',Sets G Hf ok σ ρ σ' ρ'->Q σ' H
section
variable {X:Cx} {G:Gh} {own:List Nat} {fr:Bool} {f:Rho->M D}
theorem PD.canon {e:Expr} (h:PD X G fr e f):PE X e (tOf G fr f):=by
 obtain ⟨t,p,q⟩:=h
 exact fun pins s σ H Q I ⟨Hf,ρ,pn,d,pn',a1,a2,a3,a4,k⟩=>p pins s σ H Q I (q σ Hf H ρ pn d pn' Q a1 a2 a3 a4 k)
theorem PDT.canon {e:Expr} {f:Rho->M Bool} (h:PDT X G e f):PT X e (tOfT G f):=by
 obtain ⟨t,p,q⟩:=h
 exact fun pins s σ H Q I ⟨Hf,ρ,pn,d,pn',a1,a2,a3,a4,k⟩=>p pins s σ H Q I (q σ Hf H ρ pn d pn' Q a1 a2 a3 a4 k)
theorem PDG.canon {tg:Expr} {ok:Nat->Prop} {τ:D->Rho->Option Rho} (h:PDG X G tg ok τ):PG X tg (gOf G ok τ):=by
 obtain ⟨t,p,q⟩:=h
 exact fun pins s σ H v u Q I r ⟨Hf,d,ρ,ρ',a1,a2,a3,k⟩=>p pins s σ H v u Q I r (q v σ Hf H d ρ ρ' Q a1 a2 a3 k)
def ZbD (src:List (Option Nat)) (ρ:Rho):Rho:=src.map fun o=>o.bind fun j=>(ρ[j]?).bind id
theorem Zni {Hf:Hp} {σ:St} {ρ:Rho} {src:List (Option Nat)} (h:EnvR G Hf σ ρ):EnvR G Hf (ZdX src σ) (ZbD src ρ):=fun i d e=>by
 unfold ZbD at e
 rw [List.getElem?_map] at e
 cases q:src[i]? with
 | none=>rw [q] at e;cases e
 | some o=>
  rw [q] at e
  cases o with
  | none=>simp at e
  | some j=>
   simp only [Option.map_some,Option.bind_some,Option.some.injEq] at e
   have hj:ρ[j]?=some (some d):=by
    cases e2:ρ[j]? with
    | none=>rw [e2] at e;cases e
    | some o2=>rw [e2] at e;simp at e;rw [e]
   obtain ⟨v,h1,h2⟩:=h j d hj
   refine ⟨v,?_,h2⟩
   unfold ZdX
   rw [List.getElem?_map,q]
   simp [h1]
theorem Sets.len {Hf:Hp} {ok:Nat->Prop} {σ σ':St} {ρ ρ':Rho} (h:Sets G Hf ok σ ρ σ' ρ'):(σ.length=ρ.length->σ'.length=ρ'.length)/\σ'.length=σ.length:=by
 induction h with
 | nil=>exact ⟨fun e=>e,rfl⟩
 | cons _ _ _ ih=>exact ⟨fun e=>ih.1 (by simp [e]),ih.2.trans (by simp)⟩
theorem Sets.env {Hf:Hp} {ok:Nat->Prop} {σ σ':St} {ρ ρ':Rho} (h:Sets G Hf ok σ ρ σ' ρ'):σ.length=ρ.length->EnvR G Hf σ ρ->EnvR G Hf σ' ρ':=by
 induction h with
 | nil=>exact fun _ e=>e
 | @cons σ ρ σ' ρ' i d v o r _ ih=>
  intro hl he
  refine ih (by simp [hl]) fun k c e=>?_
  by_cases h:i=k
  ·subst h
   have hk:i < ρ.length:=by
    have:=(List.getElem?_eq_some_iff.mp e).1
    simpa using this
   rw [List.getElem?_set_self hk] at e
   cases e
   exact ⟨v,List.getElem?_set_self (by rw [hl];exact hk),r⟩
  ·rw [List.getElem?_set_ne h] at e ⊢
   exact he k c e
theorem Sets.envOld {Hf:Hp} {ok:Nat->Prop} {σ σ':St} {ρ ρ' ρ0:Rho} (h:Sets G Hf ok σ ρ σ' ρ') (h0:∀i d,ok i->ρ0[i]?≠some (some d)):EnvR G Hf σ ρ0->EnvR G Hf σ' ρ0:=by
 induction h with
 | nil=>exact fun e=>e
 | @cons σ ρ σ' ρ' i d v o r _ ih=>
  intro he
  refine ih fun k c e=>?_
  have hne:i≠k:=fun z=>h0 k c (z▸o) e
  rw [List.getElem?_set_ne hne]
  exact he k c e
def ZdV (τ:D->Rho->Option Rho) (ft:Rho->M Bool) (fe:Rho->M D) (ρ:Rho):List D->M (List D)
 | []=>mret []
 | d::ds=>Zan (mOf (τ d ρ)) fun ρ1=>Zan (ft ρ1) fun b=>if b=true then Zan (fe ρ1) fun c=>Zan (ZdV τ ft fe ρ ds) fun r=>mret (c::r) else ZdV τ ft fe ρ ds
def ZaP (src:List (Option Nat)) (fi:Rho->M (List D)) (τ:D->Rho->Option Rho) (ft:Rho->M Bool) (fe:Rho->M D):Rho->M D:=fun ρ=>
 Zan (fi ρ) fun ds=>if ds.length<=sizeLine then Zan (ZdV τ ft fe (ZbD src ρ) ds) fun r=>mret (.lst r) else ZaB
def ZaZ:Rho->M Bool:=fun _=>mret true
theorem ZkV {src:List (Option Nat)} {wi:TI} {fi:Rho->M (List D)} {τ:D->Rho->Option Rho} {ft:Rho->M Bool} {fe:Rho->M D} {r1:Bool}
  (qi:∀(σ:St) (Hf H:Hp) (ρ:Rho) (s:Pn) (ds:List D) (s':Pn) (R:It->Hp->Prop),Ext G Hf H->EnvR G Hf σ ρ->G.st s H->fi ρ s=some (ds,s')->
   (∀J Hf' H',Gr G Hf H Hf' H'->G.st s' H'->ItOk G J Hf' ds->R J H')->wi σ H R) :
  Yld G true (Zms src wi (gOf G (fun i=>src[i]?=some none) τ) (tOfT G ft) (tOf G r1 fe)) (ZaP src fi τ ft fe):=by
 intro σ Hf H ρ s d s' Q e1 e2 e3 e4 k
 obtain ⟨ds,s1,a1,a2⟩:=Zai e4
 obtain ⟨hz,a3⟩:=Za7 a2
 obtain ⟨r,s2,a4,a5⟩:=Zai a3
 obtain ⟨rfl,rfl⟩:=Zaq a5
 refine qi σ Hf H ρ s ds s1 _ e1 e2 e3 a1 fun Jt Hf1 H1 g1 st1 it=>?_
 intro p hp
 have nrp:=Gh.nord st1 hp
 have nfp:=Gh.sub' nrp
 have hf1p:Hf1 p=none:=by
  cases e:Hf1 p with
  | none=>rfl
  | some o=>rw [g1.fh p o nfp e] at hp;cases hp
 have h0:∀(i:Nat) (d:D),src[i]?=some none->(ZbD src ρ)[i]?≠some (some d):=fun i d e q=>by
  unfold ZbD at q
  rw [List.getElem?_map,e] at q
  simp at q
 refine ⟨fun i m σ2 H2=>∃(Hf2:Hp) (s2:Pn) (vs:List V) (acc rest:List D),i<=ds.length/\m=ds.length-i/\Gr G Hf1 H1 Hf2 H2/\EnvR G Hf2 σ2 (ZbD src ρ)/\σ2.length=(ZbD src ρ).length/\G.st s2 H2/\Hf2 p=none/\H2 p=some (.lst vs)/\RepL G Hf2 acc vs/\acc.length<=i/\
  ZdV τ ft fe (ZbD src ρ) (ds.drop i) s2=some (rest,s')/\acc++rest=r,⟨_,Hf1,s1,[],[],r,Nat.zero_le _,rfl,?_,?_,?_,Gh.grow st1 hp,hf1p,Zav,RepL.nil_iff.mpr rfl,Nat.le_refl _,a4,rfl⟩,?_⟩
 ·refine ⟨fun b o n e=>?_,.refl _ _,fun b o n e=>?_,fun b n h1 h2=>h1⟩
  ·rw [Zap (Zat e hp)];exact e
  ·rw [Zap (Zat e hf1p)];exact g1.fh b o n e
 ·exact Zni (e2.ext g1.ff)
 ·unfold ZdX ZbD;simp
 ·rintro i m σ2 H2 ⟨Hf2,sz,vs,acc,rest,hle,rfl,g2,env2,len2,st2,hfp2,hp2,racc,hacc,eq2,hr⟩
  obtain ⟨i1,i2⟩:=it i Hf2 H2 sz g2.ff g2.fh st2
  by_cases hlt:i<ds.length
  ·have hd:ds.drop i=ds[i]::ds.drop (i+1):=List.drop_eq_getElem_cons hlt
   rw [hd] at eq2
   obtain ⟨ρ3,s3,b1,b2⟩:=Zai eq2
   obtain ⟨b1',e3'⟩:=Zbt b1
   subst e3'
   obtain ⟨bo,s4,b3,b4⟩:=Zai b2
   obtain ⟨go,yl⟩:=i1 ds[i] (by simp [hlt])
   refine .inr ⟨go,fun x H3 y3=>?_⟩
   obtain ⟨Hf3,g3,st3,r3⟩:=yl x H3 y3
   refine ⟨Hf3,ds[i],ZbD src ρ,ρ3,g3.fh,r3,b1',fun σ4 sets=>?_⟩
   have env2':=env2.ext g3.ff
   have env4:=sets.env len2 env2'
   have env4':=sets.envOld h0 env2'
   refine ⟨Hf3,ρ3,s3,bo,s4,g3.fh,env4,st3,b3,fun Hf5 H5 g5 st5=>?_⟩
   have g25:=g3.trans g5
   have hfp5:Hf5 p=none:=g25.nw p nfp hfp2 ⟨_,hp2,fun _ z=>by cases z⟩
   have hp5:H5 p=some (.lst vs):=g25.hh p _ nfp hp2
   cases bo with
   | false=>
    refine iteF ⟨ds.length-(i+1),by omega,Hf5,s4,vs,acc,rest,hlt,rfl,g2.trans g25,env4'.ext g5.ff,by rw [<-len2];exact sets.len.2,st5,hfp5,hp5,racc.ext g25.ff,by omega,?_,hr⟩
    exact b4
   | true=>
    have b4':Zan (fe ρ3) (fun c=>Zan (ZdV τ ft fe (ZbD src ρ) (ds.drop (i+1))) fun r=>mret (c::r)) s4=some (rest,s'):=b4
    obtain ⟨c,s6,b5,b6⟩:=Zai b4'
    obtain ⟨rr,s7,b7,b8⟩:=Zai b6
    obtain ⟨rfl,rfl⟩:=Zaq b8
    refine iteT ⟨Hf5,ρ3,s4,c,s6,g5.fh,env4.ext g5.ff,st5,b5,fun v Hf6 H6 g6 st6 r6 _=>?_⟩
    have hfp6:Hf6 p=none:=g6.nw p nfp hfp5 ⟨_,hp5,fun _ z=>by cases z⟩
    have hp6:H6 p=some (.lst vs):=g6.hh p _ nfp hp5
    have hl:vs.length<sizeLine:=by rw [<-racc.length];omega
    refine ⟨vs,hp6,hl,ds.length-(i+1),by omega,Hf6,s6,vs ++ [v],acc ++ [c],rr,hlt,rfl,?_,(env4'.ext g5.ff).ext g6.ff,by rw [<-len2];exact sets.len.2,?_,hfp6,Zav,(racc.ext (g25.ff.trans g6.ff)).append (.one r6),by simp;omega,b7,by rw [<-hr];simp⟩
    ·have gg:=(g2.trans g25).trans g6
     refine ⟨fun b o n e=>?_,gg.ff,fun b o n e=>?_,gg.nw⟩
     ·rw [Zap (Zat e hp)];exact gg.hh b o n e
     ·rw [Zap (Zat e hfp6)];exact gg.fh b o n e
    ·refine G.mono _ _ _ st6 (fun b o rb e=>?_) fun b φ e=>?_
     ·have:b≠p:=fun z=>nrp (z▸rb)
      rw [Zap this];exact e
     ·have:b≠p:=fun z=>by rw [z,hp6] at e;cases e
      rw [Zap this];exact e
  ·have hd:ds.drop i=[]:=List.drop_eq_nil_iff.mpr (by omega)
   rw [hd] at eq2
   obtain ⟨rfl,rfl⟩:=Zaq eq2
   refine .inl ⟨i2 (by omega),?_⟩
   rw [List.append_nil] at hr
   subst hr
   refine k (.ref p) (upd Hf2 p (.lst vs)) H2 (g1.trans ⟨g2.hh,fun b o n e=>?_,fun b o n e=>?_,fun b n h1 h2=>?_⟩) st2 (Rep.lst_iff.mpr ⟨p,vs,rfl,nfp,Zav,racc.ext fun b o n e=>?_⟩) fun _ a ea _=>?_
   ·rw [Zap (Zat (g2.ff b o n e) hfp2)];exact g2.ff b o n e
   ·by_cases hb:b=p
    ·subst hb;rw [Zav] at e;rw [hp2];exact e
    ·rw [Zap hb] at e;exact g2.fh b o n e
   ·have:b≠p:=fun z=>h2.no (z▸hp)
    rw [Zap this];exact g2.nw b n h1 h2
   ·rw [Zap (Zat e hfp2)];exact e
   ·cases ea
    refine ⟨?_,fun ds' ed=>?_⟩
    ·cases q:H p with
     | none=>rfl
     | some o=>rw [g1.hh p o nfp q] at hp;cases hp
    ·cases ed
     exact ⟨vs,Hf2,Zav,hfp2,fun b o n e=>by rw [Zap (Zat e hfp2)];exact e,racc⟩
theorem ZcW:PIfs X [] (tOfT G ZaZ):=fun pins s σ H Q I ⟨Hf,ρ,pn,b,pn',a1,a2,a3,a4,k⟩=>by
 obtain ⟨rfl,rfl⟩:=Zaq a4
 exact Zo1 pins s σ H Q I (k Hf H (.refl a1) a3)
theorem Zec {c:Expr} {ft:Rho->M Bool} (h:PDT X G c ft):PIfs X [c] (tOfT G ft):=Zo0 h.canon
theorem Jf.put {kn Hf0 H0 Hf H:Hp} {σ:St} {ρ:Rho} {i:Nat} {a:Addr} {d d':D} {o':HO} (j:Jf G own kn Hf0 H0 σ Hf H ρ) (hi:i∈own) (e:ρ[i]?=some (some d)) (sa:σ[i]?=some (some (.ref a)))
  (new:ZdJ G Hf (upd H a o') a d'):Jf G own kn Hf0 H0 σ Hf (upd H a o') (ρ.set i (some d')):=by
 obtain ⟨a',h1,h2,h3,h4,h5⟩:=j.ow i d hi e
 rw [sa] at h1;cases h1
 have il:i < ρ.length:=(List.getElem?_eq_some_iff.mp e).1
 refine ⟨by simp [j.len],j.kn,⟨fun b o n q=>?_,j.gr.ff,fun b o n q=>?_,j.gr.nw⟩,fun k c n q=>?_,fun k c m q=>?_,fun k l b dk dl mk ml n ek el sk sl=>?_⟩
 ·rw [Zap (Zat q h4)];exact j.gr.hh b o n q
 ·rw [Zap (Zat q h3)];exact j.gr.fh b o n q
 ·have hne:i≠k:=fun z=>n (z▸hi)
  rw [List.getElem?_set_ne hne] at q
  exact j.fz k c n q
 ·by_cases hk:i=k
  ·subst hk
   rw [List.getElem?_set_self il] at q
   cases q
   exact ⟨a,sa,h2,h3,h4,new⟩
  ·rw [List.getElem?_set_ne hk] at q
   obtain ⟨b,g1,g2,g3,g4,g5⟩:=j.ow k c m q
   have hab:b≠a:=fun z=>j.ne i k a d c hi m hk e q sa (z▸g1)
   exact ⟨b,g1,g2,g3,g4,g5.keep (.refl _ _) fun o z=>by rw [Zap hab];exact z⟩
 ·have ek':∃d,ρ[k]?=some (some d):=by
   by_cases hk:i=k
   ·exact ⟨d,hk▸e⟩
   ·rw [List.getElem?_set_ne hk] at ek;exact ⟨_,ek⟩
  have el':∃d,ρ[l]?=some (some d):=by
   by_cases hl:i=l
   ·exact ⟨d,hl▸e⟩
   ·rw [List.getElem?_set_ne hl] at el;exact ⟨_,el⟩
  obtain ⟨_,ek'⟩:=ek'
  obtain ⟨_,el'⟩:=el'
  exact j.ne k l b _ _ mk ml n ek' el' sk sl
theorem ZlV {kn Hf0 H0 Hf H:Hp} {σ:St} {ρ:Rho} {i:Nat} {ds:List D} (j:Jf G own kn Hf0 H0 σ Hf H ρ) (hi:i∈own) (e:ρ[i]?=some (some (.lst ds))) :
  ∃a vs,σ[i]?=some (some (.ref a))/\¬G.rd a/\H a=some (.lst vs)/\RepL G Hf ds vs:=by
 obtain ⟨a,h1,h2,h3,h4,vs,h5,h6⟩:=j.ow i _ hi e
 exact ⟨a,vs,h1,h2,h5,h6⟩
theorem Zmf {ρ:Rho} {i:Nat} {d:D} (h:(ρ[i]?).bind id=some d):ρ[i]?=some (some d):=by
 cases q:ρ[i]? with
 | none=>rw [q] at h;cases h
 | some o=>rw [q] at h;simp at h;rw [h]
theorem Gh.other {s:Pn} {H:Hp} {a:Addr} {o:HO} (st:G.st s H) (h:¬G.rd a)
  (hx:∀φ,H a≠some (.ext φ):=by intro φ z;first | (have z2:=z.symm.trans (by assumption:_=some (L2.HO.lst _));cases z2) | (have z2:=z.symm.trans (by assumption:_=some (L2.HO.dK _));cases z2) | (have z2:=z.symm.trans (by assumption:_=some (L2.HO.dT _));cases z2)):G.st s (upd H a o):=G.mono _ _ _ st (fun b u rb e=>by
 have:b≠a:=fun z=>h (z▸rb)
 rw [Zap this];exact e) fun b φ e=>by
 have:b≠a:=fun z=>hx φ (z▸e)
 rw [Zap this];exact e
def sApp (i:Nat) (f:Rho->M D):Rho->M Out:=fun ρ=>Zan (f ρ) fun d=>match (ρ[i]?).bind id with
 | some (.lst ds)=>if ds.length<sizeLine then mret (.nx (ρ.set i (some (.lst (ds ++ [d]))))) else ZaB
 | _=>ZaB
theorem Zrs {i:Nat} {ob:List Nat} {te:TE} {r1:Bool} (hi:i∈own) (hy:YldJ G own r1 te f) :
  Dos G ob own own fr (ZjH (tBM X.K "list" Zgo (tVar i) (ZeI te tNil))) (sApp i f):=fun kn Hf0 H0 σ H ρ s out s' E ⟨Hf,j⟩ st e po=>by
 obtain ⟨d,s1,a1,a2⟩:=Zai e
 cases hb:(ρ[i]?).bind id with
 | none=>rw [hb] at a2;cases a2
 | some c=>
  rw [hb] at a2
  cases c with
  | lst ds=>
   have a2':(if ds.length<sizeLine then mret (.nx (ρ.set i (some (.lst (ds ++ [d]))))) else ZaB) s1=some (out,s'):=a2
   obtain ⟨c2,a3⟩:=Za7 a2'
   obtain ⟨rfl,rfl⟩:=Zaq a3
   have ei:=Zmf hb
   obtain ⟨a,vs,h1,h2,h3,h4⟩:=ZlV j hi ei
   refine ⟨_,h1,.inl ⟨rfl,vs,SqL.of h3⟩,?_⟩
   refine hy kn Hf0 H0 σ Hf H ρ s d s' _ j st a1 fun v Hf' H' j' e1 e2 st' r fz=>?_
   obtain ⟨a',vs',h1',h2',h3',h4'⟩:=ZlV j' hi ei
   rw [h1] at h1';cases h1'
   refine ⟨a,vs',v,rfl,rfl,h3',by rw [<-h4'.length];exact c2,?_⟩
   exact po σ _ ⟨Hf',j'.put hi ei h1 ⟨vs' ++ [v],Zav,h4'.append (.one r)⟩⟩ (Gh.other st' h2)
  | _=>cases a2
theorem ZiW {i:Nat} {x:Str} {e:Expr} {pos p1 p2 p3:Pos} {te:TE} (hv:PE X (.Name x p1) (tVar i)) (p:PE X e te)
  (hbase:attributeBase (.Name x p1) "append" X.env (eval (.Name x p1) X.env)=eval (.Name x p1) X.env:=by rfl)
  (hfew:((backTo p3 (starEach [e] X.env)).all (fun x=>!x.1)&&(backToKw p3 (keywordEach [] X.env)).all (fun x=>x.1.isSome)
   && decide ([e].length+([]:List Keyword).length+(if ([]:List Keyword).isEmpty then 0 else 1)<30))=true:=by rfl)
  (hline:(p2.endLine==p3.line)=true:=by rfl) (hs:starEach [e] X.env=(false,eval e X.env)::starEach [] X.env:=by rfl)
  (hsw:swapsWith (.Call (.Attribute (.Name x p1) "append" p2) [e] [] p3) none pos.line X.env=pure false:=by rfl) :
  PS X (.Expr (.Call (.Attribute (.Name x p1) "append" p2) [e] [] p3) pos) (ZjH (tBM X.K "list" Zgo (tVar i) (ZeI te tNil))):=
 Zqu (ZpZ PySem.F.plainAttrs_list PySem.F.slot_list_append PySem.F.type_list_append Zi7 hv (Zbb p ZbO hs) hbase hfew hline hs rfl) hsw
section
variable {i:Nat} {x:Str} {e:Expr} {pos p1 p2 p3:Pos} {r1:Bool} {ob:List Nat} {st:Stmt}
theorem Zke (hi:i∈own) (he:PD X G r1 e f) (hp:∀te,PE X e te->PS X st (ZjH (tBM X.K "list" Zgo (tVar i) (ZeI te tNil)))):PDS X G ob own own fr st (sApp i (fun ρ=>f (hide own ρ))):=by
 obtain ⟨t,p,q⟩:=he
 exact ⟨_,hp t p,Zrs hi (Yld.a q)⟩
end
end
section
variable {X:Cx} {G:Gh}
def dI (C:Int->Int->Bool) (g:Int->Int->D):D->D->Option D
 | .int i,.int j=>if C i j=true then some (g i j) else none
 | _,_=>none
theorem ZiG {C:Int->Int->Bool} {g:Int->Int->D} {d e c:D} (h:dI C g d e=some c):∃i j,d=.int i/\e=.int j/\C i j=true/\c=g i j:=by
 match d,e,h with
 | .int i,.int j,h=>
  have h':(if C i j=true then some (g i j) else none)=some c:=h
  split at h'
  ·rename_i hc;cases h';exact ⟨i,j,rfl,rfl,hc,rfl⟩
  ·cases h'
theorem ZmF {f:Value->Value->Sem Value} {C:Int->Int->Prop} {Cb:Int->Int->Bool} {g:Int->Int->Int} (h:OpR X f (rI C fun i j=>.int (g i j))) (hc:∀i j,Cb i j=true->C i j):OpD X G f (dI Cb fun i j=>.int (g i j)):=
 ⟨_,h,fun Hf H s x y d e c Q e1 st rx ry q k=>by
  obtain ⟨i,j,rfl,rfl,hcb,rfl⟩:=ZiG q
  exact ⟨i,j,Rep.int_iff.mp rx,Rep.int_iff.mp ry,hc i j hcb,k _ Hf H (.refl e1) st (Rep.int_iff.mpr rfl) (.scal fun z=>z)⟩⟩
theorem ZrX {f:Value->Value->Sem Value} {g:Int->Int->Int} (h:OpR X f (rI0 fun i j=>.int (g i j))):OpD X G f (dI (fun _ _=>true) fun i j=>.int (g i j)):=
 ⟨_,h,fun Hf H s x y d e c Q e1 st rx ry q k=>by
  obtain ⟨i,j,rfl,rfl,hcb,rfl⟩:=ZiG q
  exact ⟨i,j,Rep.int_iff.mp rx,Rep.int_iff.mp ry,k _ Hf H (.refl e1) st (Rep.int_iff.mpr rfl) (.scal fun z=>z)⟩⟩
theorem Zkj {f:Value->Value->Sem Value} {g:Int->Int->Bool} (h:OpR X f (rI0 fun i j=>.bl (g i j))):OpD X G f (dI (fun _ _=>true) fun i j=>.bl (g i j)):=
 ⟨_,h,fun Hf H s x y d e c Q e1 st rx ry q k=>by
  obtain ⟨i,j,rfl,rfl,hcb,rfl⟩:=ZiG q
  exact ⟨i,j,Rep.int_iff.mp rx,Rep.int_iff.mp ry,k _ Hf H (.refl e1) st (Rep.bl_iff.mpr rfl) (.scal fun z=>z)⟩⟩
def dSub:=dI (fun _ _=>true) fun i j=>.int (i-j)
def ZfI (i j:Int):Bool:=(decide (-(2 ^ 64)<i)&&decide (i<2 ^ 64))||(decide (-(2 ^ 64)<j)&&decide (j<2 ^ 64))
def dMul:=dI ZfI fun i j=>.int (i*j)
def dMod:=dI (fun _ j=>decide (0<j)) fun i j=>.int (i % j)
def dPow:=dI (fun i j=>decide (0<=j)&&decide (j<=1000000)&&decide (i.natAbs<2 ^ 64)) fun i j=>.int (i ^ j.toNat)
theorem ZdP:OpD X G (binaryOp .Sub) dSub:=ZrX ZrZ
theorem Zds:OpD X G (binaryOp .Mult) dMul:=ZmF Zkk fun i j h=>by
 simp only [ZfI,Bool.or_eq_true,Bool.and_eq_true,decide_eq_true_eq] at h
 exact h
theorem Zgt:OpD X G (binaryOp .Mod) dMod:=ZmF ZhP fun i j h=>by simpa using h
theorem ZqO:OpD X G (binaryOp .Pow) dPow:=ZmF Zr1 fun i j h=>by
 simp only [Bool.and_eq_true,decide_eq_true_eq] at h
 exact ⟨h.1.1,h.1.2,h.2⟩
def dLe:=dI (fun _ _=>true) fun i j=>.bl (decide (i<=j))
def dGt:=dI (fun _ _=>true) fun i j=>.bl (decide (j<i))
def dGe:=dI (fun _ _=>true) fun i j=>.bl (decide (j<=i))
theorem Zd2:OpD X G (compareOp .LtE) dLe:=Zkj Zs3
theorem ZrY:OpD X G (compareOp .Gt) dGt:=Zkj Zp2
theorem ZhO:OpD X G (compareOp .GtE) dGe:=Zkj Zs4
def Zau:List D->Option (List Int)
 | []=>some []
 | .int i::ds=>(Zau ds).map (i :: ·)
 | _::_=>none
theorem Zbv:∀{ds:List D} {ns:List Int},Zau ds=some ns->ds=ns.map D.int
 | [],ns,h=>by simp [Zau] at h;subst h;rfl
 | .int i::ds,ns,h=>by
  cases e:Zau ds with
  | none=>simp [Zau,e] at h
  | some ms=>simp [Zau,e] at h;subst h;simp [Zbv e]
 | .non::_,_,h=>by simp [Zau] at h
 | .bl _::_,_,h=>by simp [Zau] at h
 | .str _::_,_,h=>by simp [Zau] at h
 | .tup _::_,_,h=>by simp [Zau] at h
 | .lst _::_,_,h=>by simp [Zau] at h
 | .dk _::_,_,h=>by simp [Zau] at h
 | .dt _::_,_,h=>by simp [Zau] at h
 | .du _::_,_,h=>by simp [Zau] at h
 | .df _::_,_,h=>by simp [Zau] at h
 | .pen::_,_,h=>by simp [Zau] at h
 | .ty _::_,_,h=>by simp [Zau] at h
theorem ZdD (ns:List Int):Zau (ns.map D.int)=some ns:=by
 induction ns with
 | nil=>rfl
 | cons n ns ih=>simp [Zau,ih]
theorem RepL.ints {H:Hp}:∀{ns:List Int} {vs:List V},RepL G H (ns.map D.int) vs->vs=ns.map V.int
 | [],vs,h=>RepL.nil_iff.mp h
 | n::ns,vs,h=>by
  obtain ⟨v,r,rfl,h1,h2⟩:=RepL.cons_iff.mp h
  rw [Rep.int_iff.mp h1,RepL.ints h2]
  rfl
def dLt:D->D->Option D
 | .int i,.int j=>some (.bl (decide (i<j)))
 | .tup a,.tup b=>match Zau a,Zau b with | some ns,some ms=>some (.bl (HT.lexLt ns ms)) | _,_=>none
 | _,_=>none
theorem ZnM (hu:X.A.units<cLine):OpD X G (compareOp .Lt) dLt:=
 ⟨_,ZmG.or (Zr3 hu),fun Hf H s x y d e c Q e1 st rx ry q k=>by
  match d,e,q,rx,ry with
  | .int i,.int j,q,rx,ry=>
   cases q
   exact .inl ⟨i,j,Rep.int_iff.mp rx,Rep.int_iff.mp ry,k _ Hf H (.refl e1) st (Rep.bl_iff.mpr rfl) (.scal fun z=>z)⟩
  | .tup a,.tup b,q,rx,ry=>
   have q:(match Zau a,Zau b with | some ns,some ms=>some (D.bl (HT.lexLt ns ms)) | _,_=>none)=some c:=q
   cases ea:Zau a with
   | none=>rw [ea] at q;simp at q
   | some ns=>
    cases eb:Zau b with
    | none=>rw [ea,eb] at q;simp at q
    | some ms=>
     rw [ea,eb] at q
     cases q
     rw [Zbv ea] at rx
     rw [Zbv eb] at ry
     obtain ⟨p,vs,rfl,np,hp,rp⟩:=Rep.tup_iff.mp rx
     obtain ⟨p2,vs2,rfl,np2,hp2,rp2⟩:=Rep.tup_iff.mp ry
     rw [RepL.ints rp] at hp
     rw [RepL.ints rp2] at hp2
     exact .inr ⟨p,p2,ns,ms,rfl,rfl,SqT.of (e1 _ _ np hp),SqT.of (e1 _ _ np2 hp2),k _ Hf H (.refl e1) st (Rep.bl_iff.mpr rfl) (.scal fun z=>z)⟩⟩
theorem ZqS:OpR X (binaryOp .Add) (fun x y H Q=>∃a b ys,x=.ref a/\y=.ref b/\SqT X.K H a []/\SqT X.K H b ys/\Q (.ref b) H):=by
 intro pins s σ H x y v u Q I rx ry h
 obtain ⟨a,b,ys,rfl,rfl,ha,hb,q⟩:=h
 cases rx
 cases ry
 obtain ⟨its,r1,p1,_⟩:=I.tuple ha
 obtain ⟨its2,r2,p2,_⟩:=I.tuple hb
 have e0:its=[]:=by cases r1;rfl
 subst e0
 obtain ⟨⟨cls,dd,data,sl⟩,ho,hc,n,hd⟩:=id p1
 obtain ⟨⟨cls2,dd2,data2,sl2⟩,ho2,hc2,n2,hd2⟩:=id p2
 simp only at hc hd hc2 hd2
 subst hc hd hc2 hd2
 exact concat_meets ⟨_,ho,rfl⟩ ⟨_,ho2,rfl⟩ noFill_tuple_add seq_tuple_add PySem.F.slot_tuple_add PySem.F.entry_tuple_add (PySem.F.args_tuple_add_2 _ _)
   (tuple_addW0 a b ([]:List Value).toArray its2.toArray n n2 dd dd2 sl sl2 rfl) ⟨ho,ho2,⟨.ref b,H,I,rfl,q⟩⟩
def dAdd:D->D->Option D
 | .int i,.int j=>some (.int (i+j))
 | .tup a,.tup b=>if a.length+b.length<=sizeLine then some (.tup (a++b)) else none
 | .lst a,.lst b=>if a.length+b.length<=sizeLine then some (.lst (a++b)) else none
 | _,_=>none
theorem ZbI:OpD X G (binaryOp .Add) dAdd:=
 ⟨_,Zkl.or (Zr7.or (ZqR.or ZqS)),fun Hf H s x y d e c Q e1 st rx ry q k=>by
  match d,e,q,rx,ry with
  | .int i,.int j,q,rx,ry=>
   cases q
   exact .inl ⟨i,j,Rep.int_iff.mp rx,Rep.int_iff.mp ry,k _ Hf H (.refl e1) st (Rep.int_iff.mpr rfl) (.scal fun z=>z)⟩
  | .lst a,.lst b,q,rx,ry=>
   have q:(if a.length+b.length<=sizeLine then some (D.lst (a++b)) else none)=some c:=q
   split at q
   ·rename_i hz
    cases q
    obtain ⟨p,vs,rfl,np,hp,rp⟩:=Rep.lst_iff.mp rx
    obtain ⟨p2,vs2,rfl,np2,hp2,rp2⟩:=Rep.lst_iff.mp ry
    refine .inr (.inl ⟨p,p2,vs,vs2,rfl,rfl,e1 _ _ np hp,e1 _ _ np2 hp2,by rw [<-rp.length,<-rp2.length];exact hz,fun l hl=>?_⟩)
    have nf:=Gh.nofp st hl
    have g2:=Gr.new (o:=.lst (vs++vs2)) e1 hl nf
    have rr:=rp.append rp2
    exact k (.ref l) _ _ g2 (Gh.grow st hl) (Rep.lst_iff.mpr ⟨l,_,rfl,nf,Zav,rr.ext g2.ff⟩) (ZaJ.mk e1 hl nf rr)
   ·cases q
  | .tup a,.tup b,q,rx,ry=>
   have q:(if a.length+b.length<=sizeLine then some (D.tup (a++b)) else none)=some c:=q
   split at q
   ·rename_i hz
    cases q
    obtain ⟨p,vs,rfl,np,hp,rp⟩:=Rep.tup_iff.mp rx
    obtain ⟨p2,vs2,rfl,np2,hp2,rp2⟩:=Rep.tup_iff.mp ry
    by_cases hv:vs=[]
    ·subst hv
     have ea:a=[]:=List.length_eq_zero_iff.mp (by rw [rp.length];rfl)
     subst ea
     exact .inr (.inr (.inr ⟨p,p2,vs2,rfl,rfl,SqT.of (e1 _ _ np hp),SqT.of (e1 _ _ np2 hp2),k _ Hf H (.refl e1) st ry (.scal fun z=>z)⟩))
    ·refine .inr (.inr (.inl ⟨p,p2,vs,vs2,rfl,rfl,SqT.of (e1 _ _ np hp),SqT.of (e1 _ _ np2 hp2),hv,by rw [<-rp.length,<-rp2.length];exact hz,fun z=>?_,fun _ l hl=>?_⟩))
     ·subst z
      have eb:b=[]:=List.length_eq_zero_iff.mp (by rw [rp2.length];rfl)
      subst eb
      rw [List.append_nil] at k
      exact k _ Hf H (.refl e1) st rx (.scal fun z=>z)
     ·have nf:=Gh.nofp st hl
      have g2:=Gr.new (o:=.tup (vs++vs2)) e1 hl nf
      exact k (.ref l) _ _ g2 (Gh.grow st hl) (Rep.tup_iff.mpr ⟨l,_,rfl,nf,Zav,(rp.append rp2).ext g2.ff⟩) (.scal fun z=>z)
   ·cases q⟩
def dIx:D->D->Option D
 | .lst ds,.int i=>atI ds i
 | .tup ds,.int i=>atI ds i
 | _,_=>none
theorem Zmh {Hf:Hp} {ds:List D} {vs:List V} {i:Int} {c:D} (r:RepL G Hf ds vs) (h:atI ds i=some c):∃v,atI vs i=some v/\Rep G Hf c v:=by
 unfold atI at h ⊢
 rw [<-r.length]
 cases e:ixN ds.length i with
 | none=>rw [e] at h;cases h
 | some j=>
  rw [e] at h
  obtain ⟨v,h1,h2⟩:=r.get (i:=j) (d:=c) h
  exact ⟨v,h1,h2⟩
theorem ixd:IxD X G dIx:=
 ⟨_,Zb8.or Zsm,fun Hf H s x y d e c Q e1 st rx ry q k=>by
  match d,e,q,rx,ry with
  | .lst ds,.int i,q,rx,ry=>
   obtain ⟨p,vs,rfl,np,hp,rp⟩:=Rep.lst_iff.mp rx
   obtain ⟨v,h1,h2⟩:=Zmh rp q
   exact .inl ⟨p,vs,i,v,rfl,Rep.int_iff.mp ry,SqL.of (e1 _ _ np hp),h1,k v h2⟩
  | .tup ds,.int i,q,rx,ry=>
   obtain ⟨p,vs,rfl,np,hp,rp⟩:=Rep.tup_iff.mp rx
   obtain ⟨v,h1,h2⟩:=Zmh rp q
   exact .inr ⟨p,vs,i,v,rfl,Rep.int_iff.mp ry,SqT.of (e1 _ _ np hp),h1,k v h2⟩⟩
theorem RepL.one_inv {H:Hp} {d:D} {xs:List V} (h:RepL G H [d] xs):∃v,xs=[v]/\Rep G H d v:=by
 obtain ⟨v,r,rfl,h1,h2⟩:=RepL.cons_iff.mp h
 rw [RepL.nil_iff.mp h2]
 exact ⟨v,rfl,h1⟩
theorem RepL.two_inv {H:Hp} {d e:D} {xs:List V} (h:RepL G H [d,e] xs):∃v w,xs=[v,w]/\Rep G H d v/\Rep G H e w:=by
 obtain ⟨v,r,rfl,h1,h2⟩:=RepL.cons_iff.mp h
 obtain ⟨w,rfl,h3⟩:=RepL.one_inv h2
 exact ⟨v,w,rfl,h1,h3⟩
def dLen:List D->Option D
 | [.lst ds]=>some (.int ds.length)
 | [.tup ds]=>some (.int ds.length)
 | _=>none
theorem Zbr:Zcl X G (.builtin "len") dLen:=
 ⟨_,ZdI,fun Hf H s xs ds c Q e1 st r q k=>by
  match ds,q,r with
  | [.lst es],q,r=>
   cases q
   obtain ⟨v,rfl,rv⟩:=RepL.one_inv r
   obtain ⟨p,vs,rfl,np,hp,rp⟩:=Rep.lst_iff.mp rv
   exact ⟨p,vs,rfl,.inl (SqL.of (e1 _ _ np hp)),k _ Hf H (.refl e1) st (Rep.int_iff.mpr (by rw [rp.length])) (.scal fun z=>z)⟩
  | [.tup es],q,r=>
   cases q
   obtain ⟨v,rfl,rv⟩:=RepL.one_inv r
   obtain ⟨p,vs,rfl,np,hp,rp⟩:=Rep.tup_iff.mp rv
   exact ⟨p,vs,rfl,.inr (SqT.of (e1 _ _ np hp)),k _ Hf H (.refl e1) st (Rep.int_iff.mpr (by rw [rp.length])) (.scal fun z=>z)⟩⟩
def ZeC:List D->Option D
 | [.lst ds]=>some (.tup ds)
 | [.tup ds]=>some (.tup ds)
 | _=>none
theorem ZcS:Zcl X G (.type "tuple") ZeC:=
 ⟨_,ZjG,fun Hf H s xs ds c Q e1 st r q k=>by
  match ds,q,r with
  | [.lst es],q,r=>
   cases q
   obtain ⟨v,rfl,rv⟩:=RepL.one_inv r
   obtain ⟨p,vs,rfl,np,hp,rp⟩:=Rep.lst_iff.mp rv
   refine ⟨p,vs,rfl,.inl ⟨SqL.of (e1 _ _ np hp),fun l hl=>?_⟩⟩
   have nf:=Gh.nofp st hl
   have g2:=Gr.new (o:=.tup vs) e1 hl nf
   exact k (.ref l) _ _ g2 (Gh.grow st hl) (Rep.tup_iff.mpr ⟨l,_,rfl,nf,Zav,rp.ext g2.ff⟩) (.scal fun z=>z)
  | [.tup es],q,r=>
   cases q
   obtain ⟨v,rfl,rv⟩:=RepL.one_inv r
   obtain ⟨p,vs,rfl,np,hp,rp⟩:=Rep.tup_iff.mp rv
   exact ⟨p,vs,rfl,.inr ⟨SqT.of (e1 _ _ np hp),k _ Hf H (.refl e1) st rv (.scal fun z=>z)⟩⟩⟩
def ZfF:List D->Option D
 | [.int i,.int j]=>some (.int (if j > i then j else i))
 | _=>none
def Zh3:List D->Option D
 | [.int i,.int j]=>some (.int (if j<i then j else i))
 | _=>none
theorem Zia (hc:X.calm=true):Zcl X G (.builtin "max") ZfF:=
 ⟨_,ZoJ hc,fun Hf H s xs ds c Q e1 st r q k=>by
  match ds,q,r with
  | [.int i,.int j],q,r=>
   cases q
   obtain ⟨v,w,rfl,rv,rw'⟩:=RepL.two_inv r
   rw [Rep.int_iff.mp rv,Rep.int_iff.mp rw']
   exact ⟨i,j,rfl,k _ Hf H (.refl e1) st (Rep.int_iff.mpr rfl) (.scal fun z=>z)⟩⟩
theorem Zna (hc:X.calm=true):Zcl X G (.builtin "min") Zh3:=
 ⟨_,ZoH hc,fun Hf H s xs ds c Q e1 st r q k=>by
  match ds,q,r with
  | [.int i,.int j],q,r=>
   cases q
   obtain ⟨v,w,rfl,rv,rw'⟩:=RepL.two_inv r
   rw [Rep.int_iff.mp rv,Rep.int_iff.mp rw']
   exact ⟨i,j,rfl,k _ Hf H (.refl e1) st (Rep.int_iff.mpr rfl) (.scal fun z=>z)⟩⟩
def Za6:List D->Option (List Bool)
 | []=>some []
 | .bl b::ds=>(Za6 ds).map (b :: ·)
 | _::_=>none
theorem Zie:∀{ds:List D} {ns:List Bool},Za6 ds=some ns->ds=ns.map D.bl
 | [],ns,h=>by simp [Za6] at h;subst h;rfl
 | .bl i::ds,ns,h=>by
  cases e:Za6 ds with
  | none=>simp [Za6,e] at h
  | some ms=>simp [Za6,e] at h;subst h;simp [Zie e]
 | .non::_,_,h=>by simp [Za6] at h
 | .int _::_,_,h=>by simp [Za6] at h
 | .str _::_,_,h=>by simp [Za6] at h
 | .tup _::_,_,h=>by simp [Za6] at h
 | .lst _::_,_,h=>by simp [Za6] at h
 | .dk _::_,_,h=>by simp [Za6] at h
 | .dt _::_,_,h=>by simp [Za6] at h
 | .du _::_,_,h=>by simp [Za6] at h
 | .df _::_,_,h=>by simp [Za6] at h
 | .pen::_,_,h=>by simp [Za6] at h
 | .ty _::_,_,h=>by simp [Za6] at h
theorem ZlD (ns:List Bool):Za6 (ns.map D.bl)=some ns:=by
 induction ns with
 | nil=>rfl
 | cons n ns ih=>simp [Za6,ih]
theorem RepL.bools {H:Hp}:∀{ns:List Bool} {vs:List V},RepL G H (ns.map D.bl) vs->vs=ns.map V.bl
 | [],vs,h=>RepL.nil_iff.mp h
 | n::ns,vs,h=>by
  obtain ⟨v,r,rfl,h1,h2⟩:=RepL.cons_iff.mp h
  rw [Rep.bl_iff.mp h1,RepL.bools h2]
  rfl
theorem Zhs:∀{bs:List Bool} {us:List Value},Vals (bs.map V.bl) us->us=bs.map Value.bool
 | [],_,.nil=>rfl
 | b::bs,_,.cons r t=>by
  cases (show _=Value.bool b from r)
  rw [Zhs t]
  rfl
theorem Zmm {hc:X.calm=true} {pins:List (Addr×Obj)} {s:Shared} {σ:St} {H:Hp} {p:Addr} {bs:List Bool} {Q:Value->Shared->Prop} {E:Value->Shared->Prop} (fin:Bool) (I:Inv X pins σ H s) (h:H p=some (.lst (bs.map V.bl)))
  (fn:(Nat->Bool)->List Nat->Bool) (hq:∀s',Inv X pins σ H s'->Q (.bool (fn (fun i=>bs.getD i false) (List.range bs.length))) s') :
  wpAny (model X.prog X.w) X.A.in1 (pyIter (.ref p)) (fun it s₂=>∃I fp wr n P St tr,it=.ref I/\Walks X.prog X.w X.A.in1 I fp wr n P St/\St 0 s₂.heap/\TruthOf X.prog X.w X.A.in1 P tr/\
   ∀h' tk,(∀b o,b∉wr->s₂.heap.get? b=some o->h'.get? b=some o)->Q (.bool (fn tr (List.range n))) { s₂ with heap:=h',toks:=tk }) E s:=by
 obtain ⟨its,rv,pl,hz⟩:=I.list (SqL.of h)
 have eu:=Zhs rv
 subst eu
 refine wpAny_pyIter_list pl.isList ?_
 have hne:p≠s.heap.objs.size:=Nat.ne_of_lt (by
  obtain ⟨o,ho,_⟩:=pl.isList
  exact Heap.lt_size ho)
 refine ⟨s.heap.objs.size,_,_,_,_,_,fun i=>bs.getD i false,rfl,Walks.list (A:=X.A.in1) (I.ok.hd hc) s.heap.objs.size p hne _,⟨⟨_,Heap.get?_push_size _ rfl,rfl,rfl⟩,pl.isList.at fun o e=>Heap.get?_push_of_some _ e⟩,?_,?_⟩
 ·intro i v s' Q' E' hP hQ'
  have hv:v=.bool (bs.getD i false):=by
   have e:(bs.map Value.bool).toArray[i]?=some v:=hP
   rw [List.getElem?_toArray,List.getElem?_map] at e
   cases q:bs[i]? with
   | none=>rw [q] at e;cases e
   | some b=>rw [q] at e;cases e;simp [List.getD,q]
  subst hv
  exact wpAny_truthy_bool hQ'
 ·intro h' tk hk
  have:(List.map Value.bool bs).toArray.size=bs.length:=by simp
  rw [this]
  have I1:Inv X pins σ H { s with heap:=s.heap.push { cls:=.type "list_iterator",data:=.fields #[.ref p,.int 0 0] } }:=I.kept (t':=s.toks) fun b o e=>Heap.get?_push_of_some _ e
  refine hq _ (I.kept (t':=tk) fun b o e=>hk b o ?_ (Heap.get?_push_of_some _ e))
  have:=Nat.ne_of_lt (Heap.lt_size e)
  simpa using this
theorem ZpT (bs:List Bool):(List.range bs.length).all (fun i=>bs.getD i false)=bs.all id:=by
 induction bs with
 | nil=>rfl
 | cons b bs ih=>
  rw [List.length_cons,List.range_succ_eq_map,List.all_cons,List.all_map]
  show (b&&(List.range bs.length).all fun i=>bs.getD i false)=_
  rw [ih];rfl
theorem ZoL (hc:X.calm=true):ZbY X (.builtin "all") (fun xs H Q=>∃(p:Addr) (bs:List Bool),xs=[.ref p]/\H p=some (.lst (bs.map V.bl))/\Q (.bl (bs.all id)) H):=by
 intro pins s σ H xs us Q I r h
 obtain ⟨p,bs,rfl,hp,q⟩:=h
 obtain ⟨u,rfl,ru⟩:=Zcj r
 cases ru
 refine call_all_walk (Zmm (hc:=hc) true I hp (fun t l=>l.all t) fun s' I'=>⟨.bl (bs.all id),H,I',?_,q⟩)
 show Value.bool _=_
 rw [ZpT]
def dAll:List D->Option D
 | [.lst ds]=>(Za6 ds).map fun bs=>.bl (bs.all id)
 | _=>none
theorem Zjk (hc:X.calm=true):Zcl X G (.builtin "all") dAll:=
 ⟨_,ZoL hc,fun Hf H s xs ds c Q e1 st r q k=>by
  match ds,q,r with
  | [.lst es],q,r=>
   obtain ⟨v,rfl,rv⟩:=RepL.one_inv r
   obtain ⟨p,vs,rfl,np,hp,rp⟩:=Rep.lst_iff.mp rv
   cases e:Za6 es with
   | none=>simp [dAll,e] at q
   | some bs=>
    simp [dAll,e] at q
    subst q
    rw [Zie e] at rp
    rw [RepL.bools rp] at hp
    exact ⟨p,bs,rfl,e1 _ _ np hp,k _ Hf H (.refl e1) st (Rep.bl_iff.mpr rfl) (.scal fun z=>z)⟩⟩
theorem ZmA {x:Str} {n:String} {pos:Pos} (hg:Gl X x) (hm:X.mg x=none) (hv:bootBuiltins x=some (.type n)) (hn:x≠"__name__":=by decide) (hd:(x==("__debug__" : Str))=false:=by decide):PD X G true (.Name x pos) (dC (.ty n)):=by
 refine ⟨_,ZqH (v:=.ty n) hg hm hv rfl hn hd,fun σ Hf H ρ s d s' Q e1 e2 e3 e4 k=>?_⟩
 obtain ⟨rfl,rfl⟩:=Zaq e4
 exact k _ Hf H (.refl e1) e3 (Rep.ty_iff.mpr rfl) fun _=>.scal fun z=>z
def Zht:D->Option String
 | .non=>some "NoneType"
 | .bl _=>some "bool"
 | .int _=>some "int"
 | .str _=>some "str"
 | .tup _=>some "tuple"
 | .lst _=>some "list"
 | .dk _=>some "dict"
 | .dt _=>none
 | .du _=>none
 | .df _=>none
 | _=>none
def ZhT:List String:=["int","bool","str","tuple","list","dict"]
def dIsi:List D->Option D
 | [d,.ty T]=>match Zht d with
  | some n=>if ZhT.contains T then some (.bl (n==T||(n == "bool" && T == "int"))) else none
  | none=>none
 | _=>none
theorem Zq9 (K:PySem.W.Frag):∀n∈["NoneType","bool","int","str","tuple","list","dict"],∀T∈ZhT,PySem.W.kitOne K (.type n) (.type T)=some (n==T||(n == "bool" && T == "int")):=by
 intro n hn T hT
 simp only [ZhT,List.mem_cons,List.not_mem_nil,or_false] at hn hT
 rcases hn with rfl | rfl | rfl | rfl | rfl | rfl | rfl <;> rcases hT with rfl | rfl | rfl | rfl | rfl | rfl <;> rfl
theorem Znm {Hf H:Hp} {d:D} {v:V} {n:String} (e1:Ext G Hf H) (r:Rep G Hf d v) (h:Zht d=some n):TyOf X.K H v (.type n)/\n∈["NoneType","bool","int","str","tuple","list","dict"]:=by
 cases d with
 | non=>cases h;rw [Rep.non_iff.mp r];exact ⟨.non,by decide⟩
 | bl b=>cases h;rw [Rep.bl_iff.mp r];exact ⟨.bl b,by decide⟩
 | int b=>cases h;rw [Rep.int_iff.mp r];exact ⟨.int b,by decide⟩
 | str b=>cases h;rw [Rep.str_iff.mp r];exact ⟨.str b,by decide⟩
 | tup ds=>cases h;obtain ⟨p,vs,rfl,np,hp,rp⟩:=Rep.tup_iff.mp r;exact ⟨.tup (e1 _ _ np hp),by decide⟩
 | lst ds=>cases h;obtain ⟨p,vs,rfl,np,hp,rp⟩:=Rep.lst_iff.mp r;exact ⟨.lst (e1 _ _ np hp),by decide⟩
 | dk ds=>cases h;obtain ⟨p,rfl,np,hp⟩:=Rep.dk_iff.mp r;exact ⟨.dK (e1 _ _ np hp),by decide⟩
 | dt ds=>cases h
 | du ds=>cases h
 | df ds=>cases h
 | pen=>cases h
 | ty _=>cases h
 | clo _ _=>cases h
theorem ZoK:ZbY X (.builtin "isinstance") (fun xs H Q=>∃x n T,xs=[x,.ty T]/\TyOf X.K H x (.type n)/\n∈["NoneType","bool","int","str","tuple","list","dict"]/\T∈ZhT/\Q (.bl (n==T||(n == "bool" && T == "int"))) H):=by
 intro pins s σ H xs us Q I r h
 obtain ⟨x,n,T,rfl,ty,hn,hT,q⟩:=h
 obtain ⟨u,w',rfl,ru,rw'⟩:=Zmn r
 cases (show w'=Value.type T from rw')
 exact Zof I ru ty (Zq9 X.K n hn T hT) fun tk=>⟨.bl _,H,I.tok tk,rfl,q⟩
theorem Zgl:Zcl X G (.builtin "isinstance") dIsi:=
 ⟨_,ZoK,fun Hf H s xs ds c Q e1 st r q k=>by
  match ds,q,r with
  | [d,.ty T],q,r=>
   obtain ⟨v,w,rfl,rv,rw'⟩:=RepL.two_inv r
   rw [Rep.ty_iff.mp rw']
   have q:(match Zht d with | some n=>if ZhT.contains T then some (D.bl (n==T||(n == "bool" && T == "int"))) else none | none=>none)=some c:=q
   cases e:Zht d with
   | none=>rw [e] at q;cases q
   | some n=>
    rw [e] at q
    simp only at q
    split at q
    ·rename_i hk
     cases q
     obtain ⟨t1,t2⟩:=Znm (X:=X) e1 rv e
     exact ⟨v,n,T,rfl,t1,t2,by simpa using hk,k _ Hf H (.refl e1) st (Rep.bl_iff.mpr rfl) (.scal fun z=>z)⟩
    ·cases q⟩
end
mutual
def Zak:D->Bool
 | .non=>true
 | .bl _=>true
 | .int _=>true
 | .str _=>true
 | .tup ds=>ZaS ds
 | .lst ds=>ZaS ds
 | _=>false
def ZaS:List D->Bool
 | []=>true
 | d::ds=>Zak d&&ZaS ds
end
mutual
def dep:D->Nat
 | .tup ds=>deps ds+1
 | .lst ds=>deps ds+1
 | _=>0
def deps:List D->Nat
 | []=>0
 | d::ds=>max (dep d) (deps ds)
end
theorem Zei:∀{ds:List D} {d:D},d∈ds->dep d<=deps ds
 | e::ds,d,h=>by
  rcases List.mem_cons.mp h with rfl | h
  ·simp only [deps];omega
  ·have:=Zei h
   simp only [deps];omega
theorem ZcM:∀{ds:List D} {d:D},ZaS ds=true->d∈ds->Zak d=true
 | e::ds,d,n,h=>by
  have n':Zak e=true/\ZaS ds=true:=by simpa [ZaS] using n
  rcases List.mem_cons.mp h with rfl | h
  ·exact n'.1
  ·exact ZcM n'.2 h
mutual
def dEq:D->D->Bool
 | .non,.non=>true
 | .bl a,.bl b=>a==b
 | .bl a,.int i=>(if a then 1 else 0)==i
 | .int i,.bl b=>i==(if b then 1 else 0)
 | .int i,.int j=>i==j
 | .str x,.str y=>x==y
 | .tup a,.tup b=>dEqs a b
 | .lst a,.lst b=>dEqs a b
 | _,_=>false
def dEqs:List D->List D->Bool
 | [],[]=>true
 | a::as,b::bs=>dEq a b&&dEqs as bs
 | _,_=>false
end
mutual
theorem ZfH:∀d:D,Zak d=true->dEq d d=true
 | .non,_=>by simp [dEq]
 | .bl _,_=>by simp [dEq]
 | .int _,_=>by simp [dEq]
 | .str _,_=>by simp [dEq]
 | .tup ds,h=>by simp only [dEq];exact Zgj ds (by simpa [Zak] using h)
 | .lst ds,h=>by simp only [dEq];exact Zgj ds (by simpa [Zak] using h)
 | .dk _,h=>by simp [Zak] at h
 | .dt _,h=>by simp [Zak] at h
 | .du _,h=>by simp [Zak] at h
 | .df _,h=>by simp [Zak] at h
 | .pen,h=>by simp [Zak] at h
 | .ty _,h=>by simp [Zak] at h
 | .clo _ _,h=>by simp [Zak] at h
theorem Zgj:∀ds:List D,ZaS ds=true->dEqs ds ds=true
 | [],_=>by simp [dEqs]
 | d::ds,h=>by
  have n':Zak d=true/\ZaS ds=true:=by simpa [ZaS] using h
  simp only [dEqs,ZfH d n'.1,Zgj ds n'.2,Bool.and_self]
end
theorem Zhm:∀{a b:List D},dEqs a b=true->a.length=b.length
 | [],[],_=>rfl
 | a::as,b::bs,h=>by
  have:dEq a b=true/\dEqs as bs=true:=by simpa [dEqs] using h
  simp [Zhm this.2]
 | [],_::_,h=>by simp [dEqs] at h
 | _::_,[],h=>by simp [dEqs] at h
theorem ZfG:∀(a b:List D),a.length=b.length->(List.range a.length).all (fun j=>dEq (a.getD j .non) (b.getD j .non))=dEqs a b
 | [],[],_=>rfl
 | a::as,b::bs,h=>by
  have h':as.length=bs.length:=by simpa using h
  rw [List.length_cons,List.range_succ_eq_map,List.all_cons,List.all_map,dEqs,<-ZfG as bs h']
  rfl
 | [],_::_,h=>by simp at h
 | _::_,[],h=>by simp at h
theorem ZlA:∀(a b:List D),((List.range (min a.length b.length)).all (fun j=>dEq (a.getD j .non) (b.getD j .non))&&a.length==b.length)=dEqs a b:=fun a b=>by
 by_cases h:a.length=b.length
 ·rw [<-ZfG a b h,h];simp
 ·have:dEqs a b=false:=by
   cases e:dEqs a b with
   | false=>rfl
   | true=>exact absurd (Zhm e) h
  rw [this];simp [h]
mutual
theorem Rep.inj {G:Gh} {H:Hp}:∀{d e:D} {v:V},Zak d=true->Zak e=true->Rep G H d v->Rep G H e v->d=e
 | .non,e,v,_,pe,h,h'=>by
  rw [Rep.non_iff.mp h] at h'
  cases e <;> first | rfl | (simp [Zak] at pe;done) | (simp [Rep] at h')
 | .bl b,e,v,_,pe,h,h'=>by
  rw [Rep.bl_iff.mp h] at h'
  cases e <;> first | (simp [Zak] at pe;done) | (simp [Rep] at h';rw [h']) | (simp [Rep] at h')
 | .int b,e,v,_,pe,h,h'=>by
  rw [Rep.int_iff.mp h] at h'
  cases e <;> first | (simp [Zak] at pe;done) | (simp [Rep] at h';rw [h']) | (simp [Rep] at h')
 | .str b,e,v,_,pe,h,h'=>by
  rw [Rep.str_iff.mp h] at h'
  cases e <;> first | (simp [Zak] at pe;done) | (simp [Rep] at h';rw [h']) | (simp [Rep] at h')
 | .tup ds,e,v,pd,pe,h,h'=>by
  obtain ⟨a,vs,rfl,n,q,r⟩:=Rep.tup_iff.mp h
  cases e with
  | tup es=>
   obtain ⟨a',vs',e',n',q',r'⟩:=Rep.tup_iff.mp h'
   cases e'
   rw [q] at q';cases q'
   rw [RepL.inj (by simpa [Zak] using pd) (by simpa [Zak] using pe) r r']
  | lst es=>
   obtain ⟨a',vs',e',n',q',r'⟩:=Rep.lst_iff.mp h'
   cases e'
   rw [q] at q';cases q'
  | _=>first | (simp [Rep] at h';done) | (simp [Zak] at pe;done)
 | .lst ds,e,v,pd,pe,h,h'=>by
  obtain ⟨a,vs,rfl,n,q,r⟩:=Rep.lst_iff.mp h
  cases e with
  | lst es=>
   obtain ⟨a',vs',e',n',q',r'⟩:=Rep.lst_iff.mp h'
   cases e'
   rw [q] at q';cases q'
   rw [RepL.inj (by simpa [Zak] using pd) (by simpa [Zak] using pe) r r']
  | tup es=>
   obtain ⟨a',vs',e',n',q',r'⟩:=Rep.tup_iff.mp h'
   cases e'
   rw [q] at q';cases q'
  | _=>first | (simp [Rep] at h';done) | (simp [Zak] at pe;done)
 | .dk _,_,_,pd,_,_,_=>by simp [Zak] at pd
 | .dt _,_,_,pd,_,_,_=>by simp [Zak] at pd
 | .du _,_,_,pd,_,_,_=>by simp [Zak] at pd
 | .df _,_,_,pd,_,_,_=>by simp [Zak] at pd
 | .pen,_,_,pd,_,_,_=>by simp [Zak] at pd
 | .ty _,_,_,pd,_,_,_=>by simp [Zak] at pd
 | .clo _ _,_,_,pd,_,_,_=>by simp [Zak] at pd
theorem RepL.inj {G:Gh} {H:Hp}:∀{ds es:List D} {vs:List V},ZaS ds=true->ZaS es=true->RepL G H ds vs->RepL G H es vs->ds=es
 | [],es,vs,_,pe,h,h'=>by
  rw [RepL.nil_iff.mp h] at h'
  cases es with
  | nil=>rfl
  | cons e es=>obtain ⟨v,r,e1,_⟩:=RepL.cons_iff.mp h';cases e1
 | d::ds,es,vs,pd,pe,h,h'=>by
  obtain ⟨v,r,rfl,r1,r2⟩:=RepL.cons_iff.mp h
  have pd':Zak d=true/\ZaS ds=true:=by simpa [ZaS] using pd
  cases es with
  | nil=>have:=RepL.nil_iff.mp h';cases this
  | cons e es=>
   obtain ⟨v',r',e1,r1',r2'⟩:=RepL.cons_iff.mp h'
   cases e1
   have pe':Zak e=true/\ZaS es=true:=by simpa [ZaS] using pe
   rw [Rep.inj pd'.1 pe'.1 r1 r1',RepL.inj pd'.2 pe'.2 r2 r2']
end
section
variable {X:Cx} {G:Gh} {pins:List (Addr×Obj)} {σ:St} {Hf H:Hp} {s:Shared}
theorem Zd4 (A:Around):A.in1.units=A.units+1:=rfl
theorem Zgw {ds:List D} {vs:List V} {us:List Value} (r:RepL G Hf ds vs) (rv:Vals vs us) {j:Nat} (h:j<us.toArray.size):∃v,Rep G Hf (ds.getD j .non) v/\RelV v us.toArray[j]/\ds.getD j .non∈ds:=by
 have hl:j<ds.length:=by rw [r.length,rv.length];simpa using h
 have e:ds[j]?=some (ds.getD j .non):=by simp [List.getD,hl]
 obtain ⟨v,h1,h2⟩:=r.get e
 obtain ⟨u,h3,h4⟩:=rv.get h1
 refine ⟨v,h2,?_,?_⟩
 ·have:us.toArray[j]=u:=by
   have h':j<us.length:=by simpa using h
   have q:us[j]?=some us[j]:=by simp [h']
   rw [h3] at q
   simpa using (Option.some.inj q).symm
  rw [this];exact h4
 ·simp [List.getD,hl]
theorem Zm1 (I:Inv X pins σ H s) (e1:Ext G Hf H):∀(n:Nat) (A:Around) (d e:D) (x y:V) (u v:Value),dep d<=n->dep e<=n->A.units+n+1<cLine->Zak d=true->Zak e=true->Rep G Hf d x->Rep G Hf e y->RelV x u->RelV y v->
  SeqAt.EqAt A s u v (dEq d e)/\SeqAt.RcAt A s u v (dEq d e)/\SeqAt.RcNeAt A s u v (!dEq d e):=by
 intro n
 induction n with
 | zero=>
  intro A d e x y u v hd he hu pd pe rd re ru rv
  have hu':A.units<cLine:=by omega
  cases d with
  | tup ds=>simp [dep] at hd
  | lst ds=>simp [dep] at hd
  | dk _=>simp [Zak] at pd
  | dt _=>simp [Zak] at pd
  | du _=>simp [Zak] at pd
  | df _=>simp [Zak] at pd
  | pen=>simp [Zak] at pd
  | ty _=>simp [Zak] at pd
  | clo _ _=>simp [Zak] at pd
  | non=>
   rw [Rep.non_iff.mp rd] at ru
   cases (show u=Value.none from ru)
   cases e with
   | tup ds=>simp [dep] at he
   | lst ds=>simp [dep] at he
   | dk _=>simp [Zak] at pe
   | dt _=>simp [Zak] at pe
   | du _=>simp [Zak] at pe
   | df _=>simp [Zak] at pe
   | pen=>simp [Zak] at pe
   | ty _=>simp [Zak] at pe
   | clo _ _=>simp [Zak] at pe
   | non=>rw [Rep.non_iff.mp re] at rv;cases (show v=Value.none from rv);simp only [dEq];exact ⟨.same _,.none_none,.none_none⟩
   | bl b=>rw [Rep.bl_iff.mp re] at rv;cases (show v=Value.bool b from rv);simp only [dEq];exact ⟨.none_bool b,.none_bool b,.none_bool b⟩
   | int b=>rw [Rep.int_iff.mp re] at rv;obtain ⟨t,rfl⟩:=rv;simp only [dEq];exact ⟨.none_int b t,.none_int b t,.none_int b t⟩
   | str b=>rw [Rep.str_iff.mp re] at rv;obtain ⟨t,rfl⟩:=rv;simp only [dEq];exact ⟨.none_str b t,.none_str b t,.none_str b t⟩
  | bl a=>
   rw [Rep.bl_iff.mp rd] at ru
   cases (show u=Value.bool a from ru)
   cases e with
   | tup ds=>simp [dep] at he
   | lst ds=>simp [dep] at he
   | dk _=>simp [Zak] at pe
   | dt _=>simp [Zak] at pe
   | du _=>simp [Zak] at pe
   | df _=>simp [Zak] at pe
   | pen=>simp [Zak] at pe
   | ty _=>simp [Zak] at pe
   | clo _ _=>simp [Zak] at pe
   | non=>rw [Rep.non_iff.mp re] at rv;cases (show v=Value.none from rv);simp only [dEq];exact ⟨.bool_none a,.bool_none a,.bool_none a⟩
   | bl b=>rw [Rep.bl_iff.mp re] at rv;cases (show v=Value.bool b from rv);simp only [dEq];exact ⟨.bool_bool a b,.bool_bool a b,.bool_bool a b⟩
   | int b=>rw [Rep.int_iff.mp re] at rv;obtain ⟨t,rfl⟩:=rv;simp only [dEq];exact ⟨.bool_int a b t,.bool_int a b t,.bool_int a b t⟩
   | str b=>rw [Rep.str_iff.mp re] at rv;obtain ⟨t,rfl⟩:=rv;simp only [dEq];exact ⟨.bool_str a b t,.bool_str a b t,.bool_str a b t⟩
  | int a=>
   rw [Rep.int_iff.mp rd] at ru
   obtain ⟨ta,rfl⟩:=ru
   cases e with
   | tup ds=>simp [dep] at he
   | lst ds=>simp [dep] at he
   | dk _=>simp [Zak] at pe
   | dt _=>simp [Zak] at pe
   | du _=>simp [Zak] at pe
   | df _=>simp [Zak] at pe
   | pen=>simp [Zak] at pe
   | ty _=>simp [Zak] at pe
   | clo _ _=>simp [Zak] at pe
   | non=>rw [Rep.non_iff.mp re] at rv;cases (show v=Value.none from rv);simp only [dEq];exact ⟨.int_none a ta,.int_none a ta,.int_none a ta⟩
   | bl b=>rw [Rep.bl_iff.mp re] at rv;cases (show v=Value.bool b from rv);simp only [dEq];exact ⟨.int_bool a ta b,.int_bool a ta b,.int_bool a ta b⟩
   | int b=>rw [Rep.int_iff.mp re] at rv;obtain ⟨t,rfl⟩:=rv;simp only [dEq];exact ⟨.int_int a ta b t,.int_int a ta b t,.int_int a ta b t⟩
   | str b=>rw [Rep.str_iff.mp re] at rv;obtain ⟨t,rfl⟩:=rv;simp only [dEq];exact ⟨.int_str a ta b t,.int_str a ta b t,.int_str a ta b t⟩
  | str a=>
   rw [Rep.str_iff.mp rd] at ru
   obtain ⟨ta,rfl⟩:=ru
   cases e with
   | tup ds=>simp [dep] at he
   | lst ds=>simp [dep] at he
   | dk _=>simp [Zak] at pe
   | dt _=>simp [Zak] at pe
   | du _=>simp [Zak] at pe
   | df _=>simp [Zak] at pe
   | pen=>simp [Zak] at pe
   | ty _=>simp [Zak] at pe
   | clo _ _=>simp [Zak] at pe
   | non=>rw [Rep.non_iff.mp re] at rv;cases (show v=Value.none from rv);simp only [dEq];exact ⟨.str_none a ta,.str_none a ta,.str_none a ta⟩
   | bl b=>rw [Rep.bl_iff.mp re] at rv;cases (show v=Value.bool b from rv);simp only [dEq];exact ⟨.str_bool a ta b,.str_bool a ta b,.str_bool a ta b⟩
   | int b=>rw [Rep.int_iff.mp re] at rv;obtain ⟨t,rfl⟩:=rv;simp only [dEq];exact ⟨.str_int a ta b t,.str_int a ta b t,.str_int a ta b t⟩
   | str b=>rw [Rep.str_iff.mp re] at rv;obtain ⟨t,rfl⟩:=rv;simp only [dEq];exact ⟨.str_str a ta b t,.str_str a ta b t,.str_str a ta b t⟩
 | succ n ih=>
  intro A d e x y u v hd he hu pd pe rd re ru rv
  have hu':A.units<cLine:=by omega
  by_cases hs:dep d<=n/\dep e<=n
  ·exact ih A d e x y u v hs.1 hs.2 (by omega) pd pe rd re ru rv
  -- two refs
  have same:∀{l b:Addr},x=.ref l->y=.ref b->l=b->dEq d e=true:=fun ex ey el=>by
   subst ex ey el
   have:=Rep.inj pd pe rd re
   subst this
   exact ZfH d pd
  cases d with
  | dk _=>simp [Zak] at pd
  | dt _=>simp [Zak] at pd
  | du _=>simp [Zak] at pd
  | df _=>simp [Zak] at pd
  | pen=>simp [Zak] at pd
  | ty _=>simp [Zak] at pd
  | clo _ _=>simp [Zak] at pd
  | tup ds=>
   obtain ⟨l,vs,rfl,nl,hl,rl⟩:=Rep.tup_iff.mp rd
   cases (show u=Value.ref l from ru)
   obtain ⟨its,rits,pits,_⟩:=I.tuple (SqT.of (K:=X.K) (e1 _ _ nl hl))
   have il:s.heap.IsTuple l its.toArray:=pits
   cases e with
   | dk _=>simp [Zak] at pe
   | dt _=>simp [Zak] at pe
   | du _=>simp [Zak] at pe
   | df _=>simp [Zak] at pe
   | pen=>simp [Zak] at pe
   | ty _=>simp [Zak] at pe
   | clo _ _=>simp [Zak] at pe
   | non=>rw [Rep.non_iff.mp re] at rv;cases (show v=Value.none from rv);simp only [dEq];exact ⟨.tuple_none il hu',.tuple_none il hu',.tuple_none il hu'⟩
   | bl b=>rw [Rep.bl_iff.mp re] at rv;cases (show v=Value.bool b from rv);simp only [dEq];exact ⟨.tuple_bool b il hu',.tuple_bool b il hu',.tuple_bool b il hu'⟩
   | int b=>rw [Rep.int_iff.mp re] at rv;obtain ⟨t,rfl⟩:=rv;simp only [dEq];exact ⟨.tuple_int b t il hu',.tuple_int b t il hu',.tuple_int b t il hu'⟩
   | str b=>rw [Rep.str_iff.mp re] at rv;obtain ⟨t,rfl⟩:=rv;simp only [dEq];exact ⟨.tuple_str b t il hu',.tuple_str b t il hu',.tuple_str b t il hu'⟩
   | lst es=>
    obtain ⟨b,ws,rfl,nb,hb,rb⟩:=Rep.lst_iff.mp re
    cases (show v=Value.ref b from rv)
    obtain ⟨its2,rits2,pits2,_⟩:=I.list (SqL.of (K:=X.K) (e1 _ _ nb hb))
    simp only [dEq];exact ⟨.tuple_list il pits2.isList hu',.tuple_list il pits2.isList hu',.tuple_list il pits2.isList hu'⟩
   | tup es=>
    obtain ⟨b,ws,rfl,nb,hb,rb⟩:=Rep.tup_iff.mp re
    cases (show v=Value.ref b from rv)
    obtain ⟨its2,rits2,pits2,_⟩:=I.tuple (SqT.of (K:=X.K) (e1 _ _ nb hb))
    have ib:s.heap.IsTuple b its2.toArray:=pits2
    have hit:∀j (h1:j<its.toArray.size) (h2:j<its2.toArray.size),SeqAt.EqAt A.in1 s its.toArray[j] its2.toArray[j] ((fun j=>dEq (ds.getD j .non) (es.getD j .non)) j):=fun j h1 h2=>by
     obtain ⟨v1,a1,a2,a3⟩:=Zgw rl rits h1
     obtain ⟨v2,b1,b2,b3⟩:=Zgw rb rits2 h2
     exact (ih A.in1 _ _ v1 v2 _ _ (Nat.le_trans (Zei a3) (by simp [dep] at hd;omega)) (Nat.le_trans (Zei b3) (by simp [dep] at he;omega)) (by rw [Zd4];omega)
      (ZcM (by simpa [Zak] using pd) a3) (ZcM (by simpa [Zak] using pe) b3) a1 b1 a2 b2).1
    have sz1:its.toArray.size=ds.length:=by rw [rl.length,rits.length];simp
    have sz2:its2.toArray.size=es.length:=by rw [rb.length,rits2.length];simp
    have rc:=SeqAt.RcAt.tuples (e:=fun j=>dEq (ds.getD j .non) (es.getD j .non)) il ib hu' hit
    have rn:=SeqAt.RcNeAt.tuples (e:=fun j=>dEq (ds.getD j .non) (es.getD j .non)) il ib hu' hit
    rw [sz1,sz2,ZlA] at rc rn
    simp only [dEq]
    refine ⟨?_,rc,rn⟩
    by_cases hlb:l=b
    ·have q:=same rfl rfl hlb
     simp only [dEq] at q
     subst hlb
     rw [q];exact .same _
    ·exact .of_refs hlb rc
  | lst ds=>
   obtain ⟨l,vs,rfl,nl,hl,rl⟩:=Rep.lst_iff.mp rd
   cases (show u=Value.ref l from ru)
   obtain ⟨its,rits,pits,_⟩:=I.list (SqL.of (K:=X.K) (e1 _ _ nl hl))
   have il:=pits.isList
   cases e with
   | dk _=>simp [Zak] at pe
   | dt _=>simp [Zak] at pe
   | du _=>simp [Zak] at pe
   | df _=>simp [Zak] at pe
   | pen=>simp [Zak] at pe
   | ty _=>simp [Zak] at pe
   | clo _ _=>simp [Zak] at pe
   | non=>rw [Rep.non_iff.mp re] at rv;cases (show v=Value.none from rv);simp only [dEq];exact ⟨.list_none il hu',.list_none il hu',.list_none il hu'⟩
   | bl b=>rw [Rep.bl_iff.mp re] at rv;cases (show v=Value.bool b from rv);simp only [dEq];exact ⟨.list_bool b il hu',.list_bool b il hu',.list_bool b il hu'⟩
   | int b=>rw [Rep.int_iff.mp re] at rv;obtain ⟨t,rfl⟩:=rv;simp only [dEq];exact ⟨.list_int b t il hu',.list_int b t il hu',.list_int b t il hu'⟩
   | str b=>rw [Rep.str_iff.mp re] at rv;obtain ⟨t,rfl⟩:=rv;simp only [dEq];exact ⟨.list_str b t il hu',.list_str b t il hu',.list_str b t il hu'⟩
   | tup es=>
    obtain ⟨b,ws,rfl,nb,hb,rb⟩:=Rep.tup_iff.mp re
    cases (show v=Value.ref b from rv)
    obtain ⟨its2,rits2,pits2,_⟩:=I.tuple (SqT.of (K:=X.K) (e1 _ _ nb hb))
    have ib:s.heap.IsTuple b its2.toArray:=pits2
    simp only [dEq];exact ⟨.list_tuple il ib hu',.list_tuple il ib hu',.list_tuple il ib hu'⟩
   | lst es=>
    obtain ⟨b,ws,rfl,nb,hb,rb⟩:=Rep.lst_iff.mp re
    cases (show v=Value.ref b from rv)
    obtain ⟨its2,rits2,pits2,_⟩:=I.list (SqL.of (K:=X.K) (e1 _ _ nb hb))
    have ib:=pits2.isList
    have hit:∀j (h1:j<its.toArray.size) (h2:j<its2.toArray.size),SeqAt.EqAt A.in1 s its.toArray[j] its2.toArray[j] ((fun j=>dEq (ds.getD j .non) (es.getD j .non)) j):=fun j h1 h2=>by
     obtain ⟨v1,a1,a2,a3⟩:=Zgw rl rits h1
     obtain ⟨v2,b1,b2,b3⟩:=Zgw rb rits2 h2
     exact (ih A.in1 _ _ v1 v2 _ _ (Nat.le_trans (Zei a3) (by simp [dep] at hd;omega)) (Nat.le_trans (Zei b3) (by simp [dep] at he;omega)) (by rw [Zd4];omega)
      (ZcM (by simpa [Zak] using pd) a3) (ZcM (by simpa [Zak] using pe) b3) a1 b1 a2 b2).1
    have sz1:its.toArray.size=ds.length:=by rw [rl.length,rits.length];simp
    have sz2:its2.toArray.size=es.length:=by rw [rb.length,rits2.length];simp
    have key:SeqAt.RcAt A s (.ref l) (.ref b) (dEqs ds es)/\SeqAt.RcNeAt A s (.ref l) (.ref b) (!dEqs ds es):=by
     by_cases hsz:ds.length=es.length
     ·have rc:=SeqAt.RcAt.lists (e:=fun j=>dEq (ds.getD j .non) (es.getD j .non)) il ib (by rw [sz1,sz2];exact hsz) hu' hit
      have rn:=SeqAt.RcNeAt.lists (e:=fun j=>dEq (ds.getD j .non) (es.getD j .non)) il ib (by rw [sz1,sz2];exact hsz) hu' hit
      rw [sz1,ZfG ds es hsz] at rc rn
      exact ⟨rc,rn⟩
     ·have hne:(its.toArray.size != its2.toArray.size)=true:=by rw [sz1,sz2];simpa using hsz
      have hf:dEqs ds es=false:=by
       cases e:dEqs ds es with
       | false=>rfl
       | true=>exact absurd (Zhm e) hsz
      rw [hf]
      exact ⟨.lists_lengths il ib hne hu',.lists_lengths il ib hne hu'⟩
    simp only [dEq]
    refine ⟨?_,key.1,key.2⟩
    by_cases hlb:l=b
    ·have q:=same rfl rfl hlb
     simp only [dEq] at q
     subst hlb
     rw [q];exact .same _
    ·exact .of_refs hlb key.1
  | non=>
   rw [Rep.non_iff.mp rd] at ru
   cases (show u=Value.none from ru)
   cases e with
   | tup es=>
    obtain ⟨b,ws,rfl,nb,hb,rb⟩:=Rep.tup_iff.mp re
    cases (show v=Value.ref b from rv)
    obtain ⟨its2,rits2,pits2,_⟩:=I.tuple (SqT.of (K:=X.K) (e1 _ _ nb hb))
    have ib:s.heap.IsTuple b its2.toArray:=pits2
    simp only [dEq];exact ⟨.none_tuple ib hu',.none_tuple ib hu',.none_tuple ib hu'⟩
   | lst es=>
    obtain ⟨b,ws,rfl,nb,hb,rb⟩:=Rep.lst_iff.mp re
    cases (show v=Value.ref b from rv)
    obtain ⟨its2,rits2,pits2,_⟩:=I.list (SqL.of (K:=X.K) (e1 _ _ nb hb))
    have ib:=pits2.isList
    simp only [dEq];exact ⟨.none_list ib hu',.none_list ib hu',.none_list ib hu'⟩
   | _=>simp [dep] at hs
  | bl a=>
   rw [Rep.bl_iff.mp rd] at ru
   cases (show u=Value.bool a from ru)
   cases e with
   | tup es=>
    obtain ⟨b,ws,rfl,nb,hb,rb⟩:=Rep.tup_iff.mp re
    cases (show v=Value.ref b from rv)
    obtain ⟨its2,rits2,pits2,_⟩:=I.tuple (SqT.of (K:=X.K) (e1 _ _ nb hb))
    have ib:s.heap.IsTuple b its2.toArray:=pits2
    simp only [dEq];exact ⟨.bool_tuple a ib hu',.bool_tuple a ib hu',.bool_tuple a ib hu'⟩
   | lst es=>
    obtain ⟨b,ws,rfl,nb,hb,rb⟩:=Rep.lst_iff.mp re
    cases (show v=Value.ref b from rv)
    obtain ⟨its2,rits2,pits2,_⟩:=I.list (SqL.of (K:=X.K) (e1 _ _ nb hb))
    have ib:=pits2.isList
    simp only [dEq];exact ⟨.bool_list a ib hu',.bool_list a ib hu',.bool_list a ib hu'⟩
   | _=>simp [dep] at hs
  | int a=>
   rw [Rep.int_iff.mp rd] at ru
   obtain ⟨ta,rfl⟩:=ru
   cases e with
   | tup es=>
    obtain ⟨b,ws,rfl,nb,hb,rb⟩:=Rep.tup_iff.mp re
    cases (show v=Value.ref b from rv)
    obtain ⟨its2,rits2,pits2,_⟩:=I.tuple (SqT.of (K:=X.K) (e1 _ _ nb hb))
    have ib:s.heap.IsTuple b its2.toArray:=pits2
    simp only [dEq];exact ⟨.int_tuple a ta ib hu',.int_tuple a ta ib hu',.int_tuple a ta ib hu'⟩
   | lst es=>
    obtain ⟨b,ws,rfl,nb,hb,rb⟩:=Rep.lst_iff.mp re
    cases (show v=Value.ref b from rv)
    obtain ⟨its2,rits2,pits2,_⟩:=I.list (SqL.of (K:=X.K) (e1 _ _ nb hb))
    have ib:=pits2.isList
    simp only [dEq];exact ⟨.int_list a ta ib hu',.int_list a ta ib hu',.int_list a ta ib hu'⟩
   | _=>simp [dep] at hs
  | str a=>
   rw [Rep.str_iff.mp rd] at ru
   obtain ⟨ta,rfl⟩:=ru
   cases e with
   | tup es=>
    obtain ⟨b,ws,rfl,nb,hb,rb⟩:=Rep.tup_iff.mp re
    cases (show v=Value.ref b from rv)
    obtain ⟨its2,rits2,pits2,_⟩:=I.tuple (SqT.of (K:=X.K) (e1 _ _ nb hb))
    have ib:s.heap.IsTuple b its2.toArray:=pits2
    simp only [dEq];exact ⟨.str_tuple a ta ib hu',.str_tuple a ta ib hu',.str_tuple a ta ib hu'⟩
   | lst es=>
    obtain ⟨b,ws,rfl,nb,hb,rb⟩:=Rep.lst_iff.mp re
    cases (show v=Value.ref b from rv)
    obtain ⟨its2,rits2,pits2,_⟩:=I.list (SqL.of (K:=X.K) (e1 _ _ nb hb))
    have ib:=pits2.isList
    simp only [dEq];exact ⟨.str_list a ta ib hu',.str_list a ta ib hu',.str_list a ta ib hu'⟩
   | _=>simp [dep] at hs
end
section
variable {X:Cx} {G:Gh}
def okEq (d e:D):Bool:=Zak d&&Zak e&&decide (dep d<=60)&&decide (dep e<=60)
theorem Zi3 {d e:D} (h:okEq d e=true):Zak d=true/\Zak e=true/\dep d<=60/\dep e<=60:=by
 simp only [okEq,Bool.and_eq_true,decide_eq_true_eq] at h
 exact ⟨h.1.1.1,h.1.1.2,h.1.2,h.2⟩
def dEqO (d e:D):Option D:=if okEq d e=true then some (.bl (dEq d e)) else none
def dNeO (d e:D):Option D:=if okEq d e=true then some (.bl (!dEq d e)) else none
def rEqD (G:Gh) (neg:Bool):R2:=fun x y H Q=>∃Hf d e,Ext G Hf H/\okEq d e=true/\Rep G Hf d x/\Rep G Hf e y/\Q (.bl (if neg then !dEq d e else dEq d e)) H
theorem Zr5 (hu:X.A.units+64<cLine):OpR X (compareOp .Eq) (rEqD G false):=by
 intro pins s σ H x y v u Q I rx ry h
 obtain ⟨Hf,d,e,e1,ok,rd,re,q⟩:=h
 obtain ⟨o1,o2,o3,o4⟩:=Zi3 ok
 exact (Zm1 I e1 60 X.A d e x y v u o3 o4 (by omega) o1 o2 rd re rx ry).2.1 _ _ _ _ ⟨.bl (dEq d e),H,I,rfl,q⟩
theorem Zr2 (hu:X.A.units+64<cLine):OpR X (compareOp .NotEq) (rEqD G true):=by
 intro pins s σ H x y v u Q I rx ry h
 obtain ⟨Hf,d,e,e1,ok,rd,re,q⟩:=h
 obtain ⟨o1,o2,o3,o4⟩:=Zi3 ok
 exact (Zm1 I e1 60 X.A d e x y v u o3 o4 (by omega) o1 o2 rd re rx ry).2.2 _ _ _ _ ⟨.bl (!dEq d e),H,I,rfl,q⟩
theorem Zcd (hu:X.A.units+64<cLine):OpD X G (compareOp .Eq) dEqO:=
 ⟨_,Zr5 (G:=G) hu,fun Hf H s x y d e c Q e1 st rx ry q k=>by
  unfold dEqO at q
  split at q
  ·rename_i ok
   cases q
   exact ⟨Hf,d,e,e1,ok,rx,ry,k _ Hf H (.refl e1) st (Rep.bl_iff.mpr rfl) (.scal fun z=>z)⟩
  ·cases q⟩
theorem Zez (hu:X.A.units+64<cLine):OpD X G (compareOp .NotEq) dNeO:=
 ⟨_,Zr2 (G:=G) hu,fun Hf H s x y d e c Q e1 st rx ry q k=>by
  unfold dNeO at q
  split at q
  ·rename_i ok
   cases q
   exact ⟨Hf,d,e,e1,ok,rx,ry,k _ Hf H (.refl e1) st (Rep.bl_iff.mpr rfl) (.scal fun z=>z)⟩
  ·cases q⟩
def okIn (x:D) (ds:List D):Bool:=Zak x&&ZaS ds&&decide (dep x<=60)&&decide (deps ds<=60)
def inD (x:D) (ds:List D):Bool:=ds.any fun d=>dEq d x
theorem ZnQ {x:D} {ds:List D} (h:okIn x ds=true):Zak x=true/\ZaS ds=true/\dep x<=60/\deps ds<=60:=by
 simp only [okIn,Bool.and_eq_true,decide_eq_true_eq] at h
 exact ⟨h.1.1.1,h.1.1.2,h.1.2,h.2⟩
open Classical in
noncomputable def ansU (G:Gh) (Hf:Hp) (x:D) (u:Value):Bool:=if h:∃d v,Zak d=true/\Rep G Hf d v/\RelV v u then dEq h.choose x else false
theorem Zmk {Hf:Hp} {x d:D} {v:V} {u:Value} (pd:Zak d=true) (r:Rep G Hf d v) (ru:RelV v u):ansU G Hf x u=dEq d x:=by
 have h:∃d v,Zak d=true/\Rep G Hf d v/\RelV v u:=⟨d,v,pd,r,ru⟩
 unfold ansU
 rw [dif_pos h]
 obtain ⟨v',p',r',ru'⟩:=h.choose_spec
 have ev:v'=v:=RelV.inj ru' ru
 subst ev
 rw [Rep.inj p' pd r' r]
theorem Zk5 {Hf:Hp} {x:D}:∀{ds:List D} {vs:List V} {us:List Value},ZaS ds=true->RepL G Hf ds vs->Vals vs us->us.any (ansU G Hf x)=inD x ds
 | [],vs,us,_,r,rv=>by
  rw [RepL.nil_iff.mp r] at rv
  cases rv
  rfl
 | d::ds,vs,us,p,r,rv=>by
  obtain ⟨v,rr,rfl,r1,r2⟩:=RepL.cons_iff.mp r
  have p':Zak d=true/\ZaS ds=true:=by simpa [ZaS] using p
  cases rv with
  | cons a b=>
   rw [List.any_cons,Zmk p'.1 r1 a,Zk5 p'.2 r2 b]
   rfl
theorem Zkt {Hf:Hp}:∀{ds:List D} {vs:List V} {us:List Value} {u:Value},RepL G Hf ds vs->Vals vs us->u∈us->∃d v,d∈ds/\Rep G Hf d v/\RelV v u
 | [],vs,us,u,r,rv,m=>by
  rw [RepL.nil_iff.mp r] at rv
  cases rv
  simp at m
 | d::ds,vs,us,u,r,rv,m=>by
  obtain ⟨v,rr,rfl,r1,r2⟩:=RepL.cons_iff.mp r
  cases rv with
  | cons a b=>
   rcases List.mem_cons.mp m with e | m
   ·subst e;exact ⟨d,v,by simp,r1,a⟩
   ·obtain ⟨d',v',m',h1,h2⟩:=Zkt r2 b m
    exact ⟨d',v',by simp [m'],h1,h2⟩
def rInD (G:Gh) (neg:Bool):R2:=fun x y H Q=>∃Hf d ds,Ext G Hf H/\okIn d ds=true/\Rep G Hf d x/\(Rep G Hf (.lst ds) y∨Rep G Hf (.tup ds) y)/\Q (.bl (if neg then !inD d ds else inD d ds)) H
theorem Zgx {pins:List (Addr×Obj)} {s:Shared} {σ:St} {Hf H:Hp} {d:D} {ds:List D} {x:V} {v:Value} {vs:List V} {its:List Value} (hu:X.A.units+64<cLine) (I:Inv X pins σ H s) (e1:Ext G Hf H) (ok:okIn d ds=true) (rd:Rep G Hf d x) (rx:RelV x v)
  (rl:RepL G Hf ds vs) (rv:Vals vs its):(∀y,y∈its.toArray->SeqAt.EqAt X.A.in1 s y v (ansU G Hf d y))/\its.toArray.any (ansU G Hf d)=inD d ds:=by
 obtain ⟨o1,o2,o3,o4⟩:=ZnQ ok
 refine ⟨fun y hy=>?_,?_⟩
 ·obtain ⟨c,w,m,h1,h2⟩:=Zkt rl rv (by simpa using hy)
  rw [Zmk (ZcM o2 m) h1 h2]
  exact (Zm1 I e1 60 X.A.in1 c d w x y v (Nat.le_trans (Zei m) o4) o3 (by rw [Zd4];omega) (ZcM o2 m) o1 h1 rd h2 rx).1
 ·rw [show its.toArray.any (ansU G Hf d)=its.any (ansU G Hf d) by simp,Zk5 o2 rl rv]
theorem Zr4 (hu:X.A.units+64<cLine):OpR X (compareOp .In) (rInD G false):=by
 intro pins s σ H x y v u Q I rx ry h
 obtain ⟨Hf,d,ds,e1,ok,rd,hl,q⟩:=h
 rcases hl with hl | hl
 ·obtain ⟨p,vs,rfl,np,hp,rp⟩:=Rep.lst_iff.mp hl
  cases (show u=Value.ref p from ry)
  obtain ⟨its,rv,pl,hz⟩:=I.list (SqL.of (K:=X.K) (e1 _ _ np hp))
  obtain ⟨c1,c2⟩:=Zgx hu I e1 ok rd rx rp rv
  refine SeqAt.in_listAt _ pl.isList c1 ⟨.bl _,H,I,rfl,?_⟩
  rw [c2];exact q
 ·obtain ⟨p,vs,rfl,np,hp,rp⟩:=Rep.tup_iff.mp hl
  cases (show u=Value.ref p from ry)
  obtain ⟨its,rv,pl,hz⟩:=I.tuple (SqT.of (K:=X.K) (e1 _ _ np hp))
  obtain ⟨c1,c2⟩:=Zgx hu I e1 ok rd rx rp rv
  refine SeqAt.in_tupleAt _ pl c1 ⟨.bl _,H,I,rfl,?_⟩
  rw [c2];exact q
theorem ZnN (hu:X.A.units+64<cLine):OpR X (compareOp .NotIn) (rInD G true):=by
 intro pins s σ H x y v u Q I rx ry h
 obtain ⟨Hf,d,ds,e1,ok,rd,hl,q⟩:=h
 rcases hl with hl | hl
 ·obtain ⟨p,vs,rfl,np,hp,rp⟩:=Rep.lst_iff.mp hl
  cases (show u=Value.ref p from ry)
  obtain ⟨its,rv,pl,hz⟩:=I.list (SqL.of (K:=X.K) (e1 _ _ np hp))
  obtain ⟨c1,c2⟩:=Zgx hu I e1 ok rd rx rp rv
  refine SeqAt.notIn_listAt _ pl.isList c1 ⟨.bl _,H,I,rfl,?_⟩
  rw [c2];exact q
 ·obtain ⟨p,vs,rfl,np,hp,rp⟩:=Rep.tup_iff.mp hl
  cases (show u=Value.ref p from ry)
  obtain ⟨its,rv,pl,hz⟩:=I.tuple (SqT.of (K:=X.K) (e1 _ _ np hp))
  obtain ⟨c1,c2⟩:=Zgx hu I e1 ok rd rx rp rv
  refine SeqAt.notIn_tupleAt _ pl c1 ⟨.bl _,H,I,rfl,?_⟩
  rw [c2];exact q
end
theorem Zoa:typeLookup (.type "list") "keys" = pure none:=by rw [typeLookup_type,builtinLookup_eq_fast];kernel_rfl
theorem Zd8:entryFor table "dict.update.loop" = some Builtin.«dict.update.loop»:=entryFor_of_tree (by kernel_rfl)
theorem Zck:plainId "dict.update.loop" = true:=by decide +kernel
set_option maxHeartbeats 4000000 in
theorem Zgf {prog:Program} {w:World} {A:Around} {E:Value->Shared->Prop} {s:Shared} {a:Addr} {o:Obj} {xs:Array Value} {k:Nat} {Q:Option Value->Shared->Prop}
  (hx:s.heap.get? a=some o) (hc:o.cls=.type "list") (hdat:o.data=.seq xs k) (hd:o.dict=none) (hA:A.handled=none)
  (h:∀h' tk,(∀b o,s.heap.get? b=some o->h'.get? b=some o)->Q none { s with heap:=h',toks:=tk }) :
  wpAny (model prog w) A (getAttr? (.ref a) "keys") Q E s:=by
 have hmiss:=Zoa
 have hname:(["__module__","__name__","__qualname__","__doc__","__annotations__"]:List Str).contains ("keys" : Str)=false:=by decide +kernel
 have hsz:("keys" : Str).length+100<=sizeLine:=by decide +kernel
 obtain ⟨c,dct,dat,sl⟩:=o
 simp only at hc hdat hd
 subst hc hdat hd
 obtain ⟨hp,g,d,tk,os⟩:=s
 have hT:∀tk',(⟨hp,g,d,tk',os⟩:Shared).TypeIs (.ref a) "list":=fun _=>⟨_,hx,rfl⟩
 have f1:=sub_AttributeError
 have f3:=F.slot_list_getattribute.lookup
 have f4:=F.slot_list_getattribute.bind (.ref a)
 have f5:=am_list_getattr_none
 unfold getAttr? getAttrBy?
 refine wpAny_bind ?_
 refine wpAny_mkText ?_
 refine wpAny_bind (wpAny_attempt ?_)
 unfold getAttrBy
 repeat (any_goals (first | assumption | exact hT _ | ((with_reducible show wpAny _ _ (call (Value.builtin "list.__getattribute__") _ _) _ _ _);refine call_meets F.slot_list_getattribute (hT _) am_entry_list_getattribute (F.args_list_getattribute_2 _ _) (meets_getattribute_miss_list a xs k sl "keys" _ hmiss hname hsz) ⟨hx,hA,fun h' tk' e hx'=>?_⟩) | wp_step))
 obtain ⟨t',u',he⟩:=hx'.there
 have hTe:∀tk',(⟨h',g,d,tk',os⟩:Shared).TypeIs (.ref e) "AttributeError":=fun _=>⟨_,he,rfl⟩
 have fin:∀tk',wpAny (model prog w) A (do
   let b<-isInstance (.ref e) (.type "AttributeError")
   if b=true then pure none else throw (.ref e)) Q E ⟨h',g,d,tk',os⟩:=fun tk'=>by
  refine wpAny_bind (wpAny_isInstance (hTe _) f1 ?_)
  simp only [if_true]
  exact wpAny_pure (h h' tk' hx'.of.keeps)
 show wpAny _ _ (getattributeRaised _ _ _ _ _ _ _) _ _ _
 unfold getattributeRaised
 repeat (any_goals (first | assumption | exact fin _ | wp_step))
section
variable {X:Cx} {pins:List (Addr×Obj)} {σ:St} {H:Hp} {s:Shared} {A:Around} {E:Value->Shared->Prop} {a:Addr} {y v:V} {u r:Value}
theorem Zoy {H':Hp} {Q:Unit->Shared->Prop} (hu:A.units<cLine) (I:Inv X pins σ H s) (g:DPut H a y v H') (ry:RelV y u) (rv:RelV v r) (h:∀s',Inv X pins σ H' s'->Q () s') :
  wpAny (model X.prog X.w) A (dictSet a u r) Q E s:=by
 rcases g with ⟨kvs,k,e,ey,l,eH⟩ | ⟨kvs,k,b,e,ey,eb,l,eH⟩
 ·subst ey eH
  obtain ⟨z,hd,vs,rel,dd⟩:=Zqd I.hok e
  have hz:vs.length<=sizeLine:=by rw [<-rel.length];exact z
  have hl:(putK kvs k v).length<=sizeLine:=by have:=Zcz kvs k v;omega
  refine wpAny_dictSet_pairs (hsz:=hz) (ZfA ry) dd fun h' dd' hs=>h _ ?_
  have he:∃q,h'.get? a=some q:=let ⟨q,_,_,hq,_⟩:=dd';⟨q,hq⟩
  exact ZgB I (by rw [e];exact True.intro) hs he (Zov hl hd (rel.put k rv) dd')
 ·subst ey eH
  cases (show u=Value.ref b from ry)
  obtain ⟨z,hd,xs,rel,dd⟩:=Zqc I.hok e
  have hz:xs.length<=sizeLine:=by rw [<-Paired.length rel];exact z
  have hl:(putK kvs k v).length<=sizeLine:=by have:=Zcz kvs k v;omega
  refine wpAny_dictSet_heap (hsz:=hz) (knd:=tupleKind (Zbm X.prog X.w)) hu (ZeB I.hok eb) dd fun h' dd' hs=>h _ ?_
  obtain ⟨q,es,ep,hq,h2,h3,h4,_,h5⟩:=dd'
  refine ZgB I (by rw [e];exact True.intro) hs ⟨q,hq⟩ ⟨hl,hd,_,(rel.put k eb rv).keeps fun c ys ec=>?_,q,es,ep,hq,h2,h3,h4,h5⟩
  rw [Zap (Zp4 ec e (fun z=>nomatch z))]
  exact ec
end
section
variable {X:Cx} {pins:List (Addr×Obj)} {σ:St}
inductive Puts (d:Addr):Hp->List V->Hp->Prop
 | nil {H:Hp}:Puts d H [] H
 | cons {H H1 H2:Hp} {b:Addr} {k v:V} {r:List V}:H b=some (.tup [k,v])->DPut H d k v H1->Puts d H1 r H2->Puts d H (.ref b::r) H2
theorem ZoR {d l it:Addr} {vs:List V} {E:Value->Shared->Prop} {Q:Shared->Prop} {H':Hp} {A:Around} (hA:A.handled=none) (hu:A.units+1<cLine)
  (hQ:∀s',Inv X pins σ H' s'->Q s') (hfp:∀Hx:Hp,Hx it=none->FpOk X pins Hx it) :
  ∀(k i:Nat) (s:Shared) (H:Hp),vs.length-i=k->i<=vs.length->Inv X pins σ H s->H it=none->s.heap.IsListIter it l i->H l=some (.lst vs)->l≠d->(∀Hx Hy y v,DPut Hx d y v Hy->Hx l=some (.lst vs)->Hy l=some (.lst vs))->Puts d H (vs.drop i) H'->
   codeAny (model X.prog X.w) A (.builtin "dict.update.loop" ⟨[.ref d,.ref it,rawInt i,.none],[]⟩) (wants (fun r s₂=>r=.none/\Q s₂) E) s:=by
 intro k
 induction k with
 | zero=>
  intro i s H hk hi I hit st hl hne hkeep hp
  have hil:i=vs.length:=by omega
  obtain ⟨its,rv,pl,hz⟩:=I.list (SqL.of (K:=X.K) hl)
  refine codeAny_builtin Zd8 ?_
  rw [Around.under_plainId Zck _]
  show wpAny _ A.in1 (pyNext (.ref it) >>= _) _ _ s
  obtain ⟨f0,f1,f2,f3,f4,f5⟩:=hfp H hit
  have hlen:=rv.length
  refine wpAny_bind (wpAny_pyNext_list_end (A:=A.in1) hA st pl.isList (by simp;omega) fun h' eb=>?_)
  have I2:Inv X pins σ H { s with heap:=h' }:=I.turned (t':=s.toks) (fun b o hb e=>eb b o hb e) f0 f1 f3 f4 f5
  have e0:vs.drop i=[]:=by rw [hil];simp
  rw [e0] at hp
  cases hp
  show wpAny _ _ (Builtin.Dict.addKeywords d [] >>= _) _ _ _
  refine wpAny_bind (wpAny_pure ?_)
  exact wpAny_pure ⟨rfl,hQ _ I2⟩
 | succ k ih=>
  intro i s H hk hi I hit st hl hne hkeep hp
  have hlt:i<vs.length:=by omega
  obtain ⟨its,rv,pl,hz⟩:=I.list (SqL.of (K:=X.K) hl)
  have hlen:=rv.length
  refine codeAny_builtin Zd8 ?_
  rw [Around.under_plainId Zck _]
  show wpAny _ A.in1 (pyNext (.ref it) >>= _) _ _ s
  obtain ⟨f0,f1,f2,f3,f4,f5⟩:=hfp H hit
  have hd:vs.drop i=vs[i]::vs.drop (i+1):=List.drop_eq_getElem_cons hlt
  rw [hd] at hp
  generalize hvi:vs[i]=x at hp
  generalize hrest:vs.drop (i+1)=rest at hp
  cases hp with
  | @cons _ H1 _ b k0 v0 _ hb hput hrec=>
   have gx:vs[i]?=some (.ref b):=by rw [List.getElem?_eq_getElem hlt,hvi]
   obtain ⟨u,hu1,ru⟩:=rv.get gx
   cases (show u=Value.ref b from ru)
   refine wpAny_bind (wpAny_pyNext_list_item (A:=A.in1) st pl.isList (x:=.ref b) (by simpa using hu1) fun h' st' sb=>?_)
   have I1:Inv X pins σ H { s with heap:=h' }:=I.turned (t':=s.toks) (fun c o hc e=>(sb.2 c hc).trans e) f0 f1 f3 f4 f5
   obtain ⟨its2,rv2,pt,_⟩:=I1.tuple (SqT.of (K:=X.K) hb)
   obtain ⟨ku,vu,e2,rk,rvv⟩:=rv2.two
   subst e2
   obtain ⟨o,ho,hoc,n,hod⟩:=id pt
   show wpAny _ _ (holding [Value.ref b] _ >>= _) _ _ _
   refine wpAny_bind (wpAny_holding ?_)
   refine wpAny_bind (wpAny_tryCatch ?_)
   unfold Builtin.Dict.pairItems
   refine wpAny_bind (wpAny_typeOf (T:="tuple") ⟨o,ho,hoc⟩ ?_)
   rw [if_pos (by decide)]
   refine wpAny_bind (wpAny_seqItems ho hod ?_)
   refine wpAny_pure ?_
   show wpAny _ _ (holding [ku,vu] (dictSet d ku vu)) _ _ _
   refine wpAny_holding ?_
   obtain ⟨oi,hoi,ci,di⟩:=id st'
   have Ip:=I1.pinned (fp:=[it]) (fun c hc=>by
    have e:c=it:=by simpa using hc
    subst e
    exact hfp H hit) (fun c hc=>by
    have e:c=it:=by simpa using hc
    subst e
    exact ⟨oi,hoi,fun w z=>by rw [di] at z;cases z⟩)
   refine Zoy (by rw [Zd4];exact hu) Ip hput rk rvv fun s2 I2=>?_
   have pit:=I2.pin (it,oi) (List.mem_append_right _ (List.mem_append_right _ (ZcX (by simp) hoi)))
   have ec:((i:Int)+1)=((i+1:Nat):Int):=by push_cast;rfl
   show wpAny _ _ (again (.builtin "dict.update.loop" ⟨[.ref d,.ref it,rawInt ((i:Int)+1),.none],[]⟩)) _ _ _
   rw [ec]
   refine wpAny_pure ⟨plainId_quiet Zck _,?_⟩
   refine ih (i+1) s2 H1 (by omega) hlt I2.unpinned pit.2.1 ⟨oi,pit.1,ci,di⟩ (hkeep _ _ _ _ hput hl) hne hkeep ?_
   rw [hrest]
   exact hrec
theorem Zib (hc:X.calm=true) (hu:X.A.units+64<cLine) (tk:Bool):ZbY X (.type "dict") (fun xs H Q=>∃l vs,xs=[.ref l]/\H l=some (.lst vs)/\∀p,H p=none->∃H',Puts p (upd H p (if tk then .dT [] else .dK [])) vs H'/\Q (.ref p) H'):=by
 intro pins s σ H xs us Q I r h
 obtain ⟨l,vs,rfl,hl,q⟩:=h
 obtain ⟨u,rfl,ru⟩:=Zcj r
 cases (show u=Value.ref l from ru)
 obtain ⟨H',puts,q'⟩:=q s.heap.objs.size (I.hok.fresh (Nat.le_refl _))
 have hA:=I.ok.hd hc
 refine callType_codes (Q₁:=fun obj s₁=>obj=.ref s.heap.objs.size/\s₁ = { s with heap:=s.heap.push { cls:=.type "dict",data:=.dict #[] } }) F.kt_called_dict (F.kt_typeCall_dict_1 _) F.entry_dict_init (kt_code_dict_new _ ⟨rfl,rfl⟩) ?_
 rintro obj s₁ ⟨rfl,rfl⟩
 have hbig:=I.big
 have I1:Inv X pins σ (upd H s.heap.objs.size (if tk then .dT [] else .dK [])) { s with heap:=s.heap.push { cls:=.type "dict",data:=.dict #[] } }:=
  I.laid (t':=s.toks) (fun b o e=>Heap.get?_push_of_some _ e) (Nat.le_refl _) (by
   cases tk
   ·exact ZkU s.heap hbig
   ·exact ZpM s.heap hbig)
 have hnew:(s.heap.push { cls:=.type "dict",data:=.dict #[] }).get? s.heap.objs.size=some { cls:=.type "dict",data:=.dict #[] }:=Heap.get?_push_size _ rfl
 have hTd:({ s with heap:=s.heap.push { cls:=.type "dict",data:=.dict #[] } }:Shared).TypeIs (.ref s.heap.objs.size) "dict":=⟨_,hnew,rfl⟩
 have hld:l≠s.heap.objs.size:=Zat hl (I.hok.fresh (Nat.le_refl _))
 have hl1:(upd H s.heap.objs.size (if tk then HO.dT [] else HO.dK [])) l=some (.lst vs):=by rw [Zap hld];exact hl
 obtain ⟨zz,its,n,rits,hlo⟩:=(show Za4 X.prog X.w _ _ l (.lst vs) from I1.hok l _ hl1)
 refine ⟨hTd,F.args_dict_init_2 _ _,?_⟩
 unfold Builtin.«dict.__init__»
 refine wpAny_bind ?_
 unfold Builtin.Dict.selfAndRest
 refine wpAny_bind (wpAny_notOrdered_dict hTd ?_)
 show wpAny _ _ (pure (s.heap.objs.size,[Value.ref l])) _ _ _
 refine wpAny_pure ?_
 show wpAny _ _ (Builtin.Dict.updateFrom "dict.__init__" s.heap.objs.size (.ref l) [] .none) _ _ _
 unfold Builtin.Dict.updateFrom
 have hTl:({ s with heap:=s.heap.push { cls:=.type "dict",data:=.dict #[] } }:Shared).TypeIs (.ref l) "list":=⟨_,hlo,rfl⟩
 refine wpAny_bind (wpAny_typeOf hTl ?_)
 rw [if_pos (by decide)]
 refine wpAny_bind (Zgf hlo rfl rfl rfl hA fun h2 tk2 kp2=>?_)
 simp only [Option.isNone_none,if_true]
 refine wpAny_bind (wpAny_rule ?_)
 have I2:Inv X pins σ (upd H s.heap.objs.size (if tk then .dT [] else .dK [])) { s with heap:=h2,toks:=tk2 }:=I1.kept kp2
 obtain ⟨its',rv',pl',hz'⟩:=I2.list (SqL.of (K:=X.K) hl1)
 refine wpAny_bind (wpAny_pyIter_list pl'.isList ?_)
 refine wpAny_pure ⟨plainId_quiet Zck _,?_⟩
 have I3:Inv X pins σ (upd H s.heap.objs.size (if tk then .dT [] else .dK [])) { s with heap:=h2.push { cls:=.type "list_iterator",data:=.fields #[.ref l,.int 0 0] },toks:=tk2 }:=I2.kept (t':=tk2) fun b o e=>Heap.get?_push_of_some _ e
 have hfresh:(upd H s.heap.objs.size (if tk then HO.dT [] else HO.dK [])) h2.objs.size=none:=I2.hok.fresh (Nat.le_refl _)
 have hst:(h2.push { cls:=.type "list_iterator",data:=.fields #[.ref l,.int 0 0] }).IsListIter h2.objs.size l 0:=⟨_,Heap.get?_push_size _ rfl,rfl,rfl⟩
 refine ZoR (l:=l) (vs:=vs) (H':=H') (A:=X.A.in1) (pins:=pins) (σ:=σ) hA (by rw [Zd4];omega) (fun s' I'=>⟨.ref s.heap.objs.size,H',I',rfl,q'⟩) (fun Hx hn=>I2.fpOk (Nat.le_refl _) hn) vs.length 0 _ _ rfl (Nat.zero_le _) I3 hfresh hst hl1 hld ?_ puts
 intro Hx Hy y v hput hxl
 rcases hput with ⟨kvs,k,e,ey,l',eH⟩ | ⟨kvs,k,b,e,ey,eb,l',eH⟩
 ·subst eH;rw [Zap hld];exact hxl
 ·subst eH;rw [Zap hld];exact hxl
end
section
variable {X:Cx} {G:Gh}
def Zbx:D->Option Key
 | .int i=>some (.inl i)
 | .str x=>some (.inr x)
 | _=>none
def Zbp:List D->Option (List Key)
 | []=>some []
 | d::ds=>match Zbx d,Zbp ds with | some k,some ks=>some (k::ks) | _,_=>none
def ZcU:D->Option V
 | .int i=>some (.int i)
 | .bl b=>some (.bl b)
 | .str x=>some (.str x)
 | .non=>some .non
 | _=>none
theorem ZcR {H:Hp} {d:D} {v:V} {k:Key} (h:Zbx d=some k) (r:Rep G H d v):v=kV k:=by
 cases d with
 | int i=>cases h;rw [Rep.int_iff.mp r];rfl
 | str i=>cases h;rw [Rep.str_iff.mp r];rfl
 | _=>cases h
theorem ZcZ {H:Hp}:∀{ds:List D} {vs:List V} {ks:List Key},Zbp ds=some ks->RepL G H ds vs->vs=ks.map kV
 | [],vs,ks,h,r=>by cases h;exact RepL.nil_iff.mp r
 | d::ds,vs,ks,h,r=>by
  obtain ⟨v,rr,rfl,r1,r2⟩:=RepL.cons_iff.mp r
  unfold Zbp at h
  cases e1:Zbx d with
  | none=>rw [e1] at h;cases h
  | some k=>
   cases e2:Zbp ds with
   | none=>rw [e1,e2] at h;cases h
   | some ks'=>
    rw [e1,e2] at h
    cases h
    rw [ZcR e1 r1,ZcZ e2 r2]
    rfl
theorem ZfQ {H:Hp} {d:D} {v w:V} (h:ZcU d=some w) (r:Rep G H d v):v=w:=by
 cases d with
 | int i=>cases h;exact Rep.int_iff.mp r
 | str i=>cases h;exact Rep.str_iff.mp r
 | bl i=>cases h;exact Rep.bl_iff.mp r
 | non=>cases h;exact Rep.non_iff.mp r
 | _=>cases h
def ZjK:D->Option (List Key×V)
 | .tup [.tup ks,v]=>match Zbp ks,ZcU v with | some k,some w=>some (k,w) | _,_=>none
 | _=>none
def ZmE:D->Option (Key×V)
 | .tup [k,v]=>match Zbx k,ZcU v with | some k,some w=>some (k,w) | _,_=>none
 | _=>none
def Zdy:List (List Key×V)->List D->Option (List (List Key×V))
 | acc,[]=>some acc
 | acc,d::ds=>match ZjK d with | some (k,v)=>Zdy (putK acc k v) ds | none=>none
def Zdh:List (Key×V)->List D->Option (List (Key×V))
 | acc,[]=>some acc
 | acc,d::ds=>match ZmE d with | some (k,v)=>Zdh (putK acc k v) ds | none=>none
theorem ZmC {d:D} {k:List Key} {v:V} (h:ZjK d=some (k,v)):∃ks w,d=.tup [.tup ks,w]/\Zbp ks=some k/\ZcU w=some v:=by
 match d,h with
 | .tup [.tup ks,w],h=>
  have h':(match Zbp ks,ZcU w with | some k,some w=>some (k,w) | _,_=>none)=some (k,v):=h
  cases e1:Zbp ks with
  | none=>rw [e1] at h';cases h'
  | some k'=>
   cases e2:ZcU w with
   | none=>rw [e1,e2] at h';cases h'
   | some w'=>rw [e1,e2] at h';cases h';exact ⟨ks,w,rfl,e1,e2⟩
theorem ZmD {d:D} {k:Key} {v:V} (h:ZmE d=some (k,v)):∃ks w,d=.tup [ks,w]/\Zbx ks=some k/\ZcU w=some v:=by
 match d,h with
 | .tup [ks,w],h=>
  have h':(match Zbx ks,ZcU w with | some k,some w=>some (k,w) | _,_=>none)=some (k,v):=h
  cases e1:Zbx ks with
  | none=>rw [e1] at h';cases h'
  | some k'=>
   cases e2:ZcU w with
   | none=>rw [e1,e2] at h';cases h'
   | some w'=>rw [e1,e2] at h';cases h';exact ⟨ks,w,rfl,e1,e2⟩
theorem ZnA {Hf H:Hp} {p:Addr} (e1:Ext G Hf H) (hp:H p=none):∀{ds:List D} {vs:List V} {acc res:List (List Key×V)},RepL G Hf ds vs->Zdy acc ds=some res->acc.length+ds.length<=sizeLine->Puts p (upd H p (.dT acc)) vs (upd H p (.dT res))
 | [],vs,acc,res,r,h,_=>by
  rw [RepL.nil_iff.mp r]
  cases h
  exact .nil
 | d::ds,vs,acc,res,r,h,hl=>by
  obtain ⟨v,rr,rfl,r1,r2⟩:=RepL.cons_iff.mp r
  unfold Zdy at h
  cases e:ZjK d with
  | none=>rw [e] at h;cases h
  | some kv=>
   obtain ⟨k,w⟩:=kv
   rw [e] at h
   have h:Zdy (putK acc k w) ds=some res:=h
   obtain ⟨ks,wd,rfl,q1,q2⟩:=ZmC e
   obtain ⟨b,ws,rfl,nb,hb,rb⟩:=Rep.tup_iff.mp r1
   obtain ⟨v1,v2,rfl,rk,rv⟩:=RepL.two_inv rb
   obtain ⟨c,cs,rfl,nc,hcx,rc⟩:=Rep.tup_iff.mp rk
   have ec:=ZcZ q1 rc
   subst ec
   have ev:=ZfQ q2 rv
   subst ev
   have hb':=e1 _ _ nb hb
   have hc':=e1 _ _ nc hcx
   have ll:=Zcz acc k v2
   have hl':acc.length+(ds.length+1)<=sizeLine:=by simpa using hl
   refine .cons (by rw [Zap (Zat hb' hp)];exact hb') (DPut.t (k:=k) Zav (by rw [Zap (Zat hc' hp)];exact hc') (by omega)) ?_
   rw [Zil]
   exact ZnA e1 hp r2 h (by omega)
theorem ZnB {Hf H:Hp} {p:Addr} (e1:Ext G Hf H) (hp:H p=none):∀{ds:List D} {vs:List V} {acc res:List (Key×V)},RepL G Hf ds vs->Zdh acc ds=some res->acc.length+ds.length<=sizeLine->Puts p (upd H p (.dK acc)) vs (upd H p (.dK res))
 | [],vs,acc,res,r,h,_=>by
  rw [RepL.nil_iff.mp r]
  cases h
  exact .nil
 | d::ds,vs,acc,res,r,h,hl=>by
  obtain ⟨v,rr,rfl,r1,r2⟩:=RepL.cons_iff.mp r
  unfold Zdh at h
  cases e:ZmE d with
  | none=>rw [e] at h;cases h
  | some kv=>
   obtain ⟨k,w⟩:=kv
   rw [e] at h
   have h:Zdh (putK acc k w) ds=some res:=h
   obtain ⟨ks,wd,rfl,q1,q2⟩:=ZmD e
   obtain ⟨b,ws,rfl,nb,hb,rb⟩:=Rep.tup_iff.mp r1
   obtain ⟨v1,v2,rfl,rk,rv⟩:=RepL.two_inv rb
   have ek:=ZcR q1 rk
   subst ek
   have ev:=ZfQ q2 rv
   subst ev
   have hb':=e1 _ _ nb hb
   have ll:=Zcz acc k v2
   have hl':acc.length+(ds.length+1)<=sizeLine:=by simpa using hl
   refine .cons (by rw [Zap (Zat hb' hp)];exact hb') (DPut.k (k:=k) Zav (by omega)) ?_
   rw [Zil]
   exact ZnB e1 hp r2 h (by omega)
def ZoB:List D->Option D
 | [.lst ds]=>if ds.length<=sizeLine then (Zdy [] ds).map .dt else none
 | _=>none
def Zh6:List D->Option D
 | [.lst ds]=>if ds.length<=sizeLine then (Zdh [] ds).map .dk else none
 | _=>none
theorem Zng (hc:X.calm=true) (hu:X.A.units+64<cLine):ZbY X (.type "dict") (fun xs H Q=>∃l vs,xs=[.ref l]/\H l=some (.lst vs)/\∀p,H p=none->∃kvs,Puts p (upd H p (.dT [])) vs (upd H p (.dT kvs))/\∀o,Q (.ref p) (upd H p (.frz o (.dT kvs)))):=by
 intro pins s σ H xs us Q I r h
 obtain ⟨l,vs,ex,hl,hp⟩:=h
 refine thn (Zib hc hu true pins s σ H xs us (fun v H'=>∃p kvs,v=.ref p/\H'=upd H p (.dT kvs)/\∀o,Q (.ref p) (upd H p (.frz o (.dT kvs)))) I r ⟨l,vs,ex,hl,fun p hn=>?_⟩) fun u s1 ⟨v,H1,I1,r1,p,kvs,ev,eH,q⟩=>?_
 ·obtain ⟨kvs,pu,q⟩:=hp p hn
  exact ⟨_,pu,p,kvs,rfl,rfl,q⟩
 ·subst ev eH
  have ok:=I1.hok p (.dT kvs) Zav
  obtain ⟨_,_,xs',_,o,es,ep,h1,_⟩:=(show Za4 X.prog X.w _ s1.heap p (.dT kvs) from ok)
  have I2:=I1.write (x:=p) (e:=p) (o:=.frz o (.dT kvs)) (h':=s1.heap) (t':=s1.toks) (by rw [Zav];trivial) (.inl rfl) (fun _ _ _ e=>e) ⟨o,h1⟩ ⟨h1,ok.stay (fun _ _ _ e=>e) (fun b e=>?_) fun b xs e=>?_⟩
  ·rw [Zil] at I2
   exact ⟨.ref p,_,I2,r1,q o⟩
  ·have:b≠p:=fun z=>by rw [z,Zav] at e;cases e
   rw [Zap this];exact e
  ·have:b≠p:=fun z=>by rw [z,Zav] at e;cases e
   rw [Zap this];exact e
theorem Zne (hc:X.calm=true) (hu:X.A.units+64<cLine):Zcl X G (.type "dict") ZoB:=
 ⟨_,Zng hc hu,fun Hf H s xs ds c Q e1 st r q k=>by
  match ds,q,r with
  | [.lst es],q,r=>
   have q:(if es.length<=sizeLine then (Zdy [] es).map D.dt else none)=some c:=q
   split at q
   ·rename_i hz
    cases e:Zdy [] es with
    | none=>rw [e] at q;cases q
    | some res=>
     rw [e] at q
     cases q
     obtain ⟨v,rfl,rv⟩:=RepL.one_inv r
     obtain ⟨l,vs,rfl,nl,hl,rl⟩:=Rep.lst_iff.mp rv
     refine ⟨l,vs,rfl,e1 _ _ nl hl,fun p hp=>⟨_,ZnA e1 hp rl e (by simpa using hz),fun o=>?_⟩⟩
     have nf:=Gh.nofp st hp
     have g2:=Gr.new (o:=.frz o (.dT res)) e1 hp nf
     exact k (.ref p) _ _ g2 (Gh.grow st hp) (Rep.dt_iff.mpr ⟨p,o,rfl,nf,Zav⟩) fun a ea _=>by cases ea;exact ⟨hp,fun ds ed=>by cases ed⟩
   ·cases q⟩
theorem Znf (hc:X.calm=true) (hu:X.A.units+64<cLine):Zcl X G (.type "dict") Zh6:=
 ⟨_,Zib hc hu false,fun Hf H s xs ds c Q e1 st r q k=>by
  match ds,q,r with
  | [.lst es],q,r=>
   have q:(if es.length<=sizeLine then (Zdh [] es).map D.dk else none)=some c:=q
   split at q
   ·rename_i hz
    cases e:Zdh [] es with
    | none=>rw [e] at q;cases q
    | some res=>
     rw [e] at q
     cases q
     obtain ⟨v,rfl,rv⟩:=RepL.one_inv r
     obtain ⟨l,vs,rfl,nl,hl,rl⟩:=Rep.lst_iff.mp rv
     refine ⟨l,vs,rfl,e1 _ _ nl hl,fun p hp=>⟨_,ZnB e1 hp rl e (by simpa using hz),?_⟩⟩
     have nf:=Gh.nofp st hp
     have g2:=Gr.new (o:=.dK res) e1 hp nf
     exact k (.ref p) _ _ g2 (Gh.grow st hp) (Rep.dk_iff.mpr ⟨p,rfl,nf,Zav⟩) fun a ea _=>by cases ea;exact ⟨hp,fun ds ed=>by cases ed⟩
   ·cases q⟩
theorem Zr6 (hu:X.A.units+1<cLine):OpR X (compareOp .In) (fun x y H Q=>∃a o,y=.ref a/\DGet H a x o/\Q (.bl o.isSome) H):=by
 intro pins s σ H x y v u Q I rx ry h
 obtain ⟨a,o,rfl,g,q⟩:=h
 cases (show u=Value.ref a from ry)
 exact d_in hu I g rx fun s' I'=>⟨.bl _,H,I',rfl,q⟩
theorem ZnO (hu:X.A.units+1<cLine):OpR X (compareOp .NotIn) (fun x y H Q=>∃a o,y=.ref a/\DGet H a x o/\Q (.bl (!o.isSome)) H):=by
 intro pins s σ H x y v u Q I rx ry h
 obtain ⟨a,o,rfl,g,q⟩:=h
 cases (show u=Value.ref a from ry)
 exact Zro hu I g rx fun s' I'=>⟨.bl _,H,I',rfl,q⟩
def dInB:D->D->Option Bool
 | x,.lst ds=>if okIn x ds=true then some (inD x ds) else none
 | x,.tup ds=>if okIn x ds=true then some (inD x ds) else none
 | .tup ks,.dt kvs=>(Zbp ks).map fun k=>(valV kvs k).isSome
 | .tup ks,.du kvs=>(Zbp ks).map fun k=>(valV kvs k).isSome
 | x,.dk kvs=>(Zbx x).map fun k=>(valV kvs k).isSome
 | _,_=>none
def dIn (x y:D):Option D:=(dInB x y).map .bl
def Zda (x y:D):Option D:=(dInB x y).map fun b=>.bl (!b)
theorem Zje {Hf H:Hp} {x y:V} {d e:D} {b:Bool} (e1:Ext G Hf H) (rx:Rep G Hf d x) (ry:Rep G Hf e y) (h:dInB d e=some b) :
  (∃ds,okIn d ds=true/\(Rep G Hf (.lst ds) y∨Rep G Hf (.tup ds) y)/\b=inD d ds)∨∃a o,y=.ref a/\DGet H a x o/\b=o.isSome:=by
 cases e with
 | lst ds=>
  have h:(if okIn d ds=true then some (inD d ds) else none)=some b:=by cases d <;> exact h
  split at h
  ·rename_i ok;cases h;exact .inl ⟨ds,ok,.inl ry,rfl⟩
  ·cases h
 | tup ds=>
  have h:(if okIn d ds=true then some (inD d ds) else none)=some b:=by cases d <;> exact h
  split at h
  ·rename_i ok;cases h;exact .inl ⟨ds,ok,.inr ry,rfl⟩
  ·cases h
 | dt kvs=>
  obtain ⟨a,o,rfl,na,ha⟩:=Rep.dt_iff.mp ry
  cases d with
  | tup ks=>
   have h:(Zbp ks).map (fun k=>(valV kvs k).isSome)=some b:=h
   cases q:Zbp ks with
   | none=>rw [q] at h;cases h
   | some k=>
    rw [q] at h;cases h
    obtain ⟨c,cs,rfl,nc,hcx,rc⟩:=Rep.tup_iff.mp rx
    have ec:=ZcZ q rc
    subst ec
    exact .inr ⟨a,_,rfl,.inr ⟨kvs,k,c,.inr ⟨o,e1 _ _ na ha⟩,rfl,e1 _ _ nc hcx,rfl⟩,rfl⟩
  | _=>cases h
 | du kvs=>
  obtain ⟨a,rfl,na,ha⟩:=Rep.du_iff.mp ry
  cases d with
  | tup ks=>
   have h:(Zbp ks).map (fun k=>(valV kvs k).isSome)=some b:=h
   cases q:Zbp ks with
   | none=>rw [q] at h;cases h
   | some k=>
    rw [q] at h;cases h
    obtain ⟨c,cs,rfl,nc,hcx,rc⟩:=Rep.tup_iff.mp rx
    have ec:=ZcZ q rc
    subst ec
    exact .inr ⟨a,_,rfl,DGet.t (e1 _ _ na ha) (e1 _ _ nc hcx),rfl⟩
  | _=>cases h
 | dk kvs=>
  obtain ⟨a,rfl,na,ha⟩:=Rep.dk_iff.mp ry
  have h:(Zbx d).map (fun k=>(valV kvs k).isSome)=some b:=by cases d <;> exact h
  cases q:Zbx d with
  | none=>rw [q] at h;cases h
  | some k=>
   rw [q] at h;cases h
   have ek:=ZcR q rx
   subst ek
   exact .inr ⟨a,_,rfl,DGet.k (e1 _ _ na ha),rfl⟩
 | _=>cases d <;> cases h
theorem Zki (hu:X.A.units+64<cLine):OpD X G (compareOp .In) dIn:=
 ⟨_,(Zr4 (G:=G) hu).or (Zr6 (by omega)),fun Hf H s x y d e c Q e1 st rx ry q k=>by
  unfold dIn at q
  cases h:dInB d e with
  | none=>rw [h] at q;cases q
  | some b=>
   rw [h] at q;cases q
   have kk:=k (.bl b) Hf H (.refl e1) st (Rep.bl_iff.mpr rfl) (.scal fun z=>z)
   rcases Zje e1 rx ry h with ⟨ds,ok,hl,rfl⟩ | ⟨a,o,ey,g,rfl⟩
   ·exact .inl ⟨Hf,d,ds,e1,ok,rx,hl,kk⟩
   ·exact .inr ⟨a,o,ey,g,kk⟩⟩
theorem Zi1 (hu:X.A.units+64<cLine):OpD X G (compareOp .NotIn) Zda:=
 ⟨_,(ZnN (G:=G) hu).or (ZnO (by omega)),fun Hf H s x y d e c Q e1 st rx ry q k=>by
  unfold Zda at q
  cases h:dInB d e with
  | none=>rw [h] at q;cases q
  | some b=>
   rw [h] at q;cases q
   have kk:=k (.bl (!b)) Hf H (.refl e1) st (Rep.bl_iff.mpr rfl) (.scal fun z=>z)
   rcases Zje e1 rx ry h with ⟨ds,ok,hl,rfl⟩ | ⟨a,o,ey,g,rfl⟩
   ·exact .inl ⟨Hf,d,ds,e1,ok,rx,hl,kk⟩
   ·exact .inr ⟨a,o,ey,g,kk⟩⟩
end
section
variable {X:Cx} {G:Gh} {own ob:List Nat} {fr:Bool} {f:Rho->M D}
def Zqj (ta:TA):TE:=fun σ H Q=>ta σ H fun vs H1=>∃j:Int,vs=[.int j]/\∀p,H1 p=none->Q (.ref p) (upd H1 p (.rng 0 j))
theorem ZiY {a:Expr} {ta:TA} {p pos:Pos} (hg:Gl X "range") (hm:X.mg "range" = none) (ha:PA X [a] ta) (hs:starEach [a] X.env=[(false,eval a X.env)]:=by rfl):PE X (.Call (.Name "range" p) [a] [] pos) (Zqj ta):=by
 intro pins s σ H Q I h
 refine Call_ (ZeA I hg hm boot_range (PyProof.Rows.callWith_type1 (thn (ha pos pins s σ H _ I h) fun us s1 ⟨vs,H1,I1,r1,q1⟩=>?_) hs rfl))
 obtain ⟨j,e,q⟩:=q1
 subst e
 cases r1 with
 | cons r rr=>
  cases rr
  obtain ⟨t,rfl⟩:=r
  refine call_range_1 ⟨.ref s1.heap.objs.size,upd H1 s1.heap.objs.size (.rng 0 j),I1.laid (t':=s1.toks+1+1) (fun b o e=>Heap.get?_push_of_some _ e) (Nat.le_refl _) ?_,rfl,q _ (I1.hok.fresh (Nat.le_refl _))⟩
  exact ⟨_,_,_,Heap.get?_push_size _ rfl⟩
theorem Zfj:∀(ys:List Value) (lo:Int),(∀(j:Nat) v,ys[j]?=some v->∃t,v=.int (lo+j) t)->Vals ((List.range ys.length).map fun (i:Nat)=>V.int (lo+i)) ys
 | [],lo,_=>.nil
 | y::ys,lo,h=>by
  obtain ⟨t,e⟩:=h 0 y rfl
  rw [List.length_cons,List.range_succ_eq_map,List.map_cons,List.map_map]
  refine .cons ⟨t,by rw [e]⟩ ?_
  have q:=Zfj ys (lo+1) fun j v hv=>by
   obtain ⟨t,e⟩:=h (j+1) v (by simpa using hv)
   exact ⟨t,by rw [e];congr 1;push_cast;omega⟩
  have ee:((fun (i:Nat)=>V.int (lo+i))∘Nat.succ)=fun (i:Nat)=>V.int (lo+1+i):=by
   funext i
   show V.int (lo+(Nat.succ i:Nat))=V.int (lo+1+i)
   congr 1;push_cast;omega
  rw [ee];exact q
theorem Zk1 (hc:X.calm=true):ZbY X (.type "list") (fun xs H Q=>∃r j,xs=[.ref r]/\H r=some (.rng 0 j)/\-(2 ^ 62)<=j/\j<=2 ^ 24/\∀l,H l=none->Q (.ref l) (upd H l (.lst ((List.range j.toNat).map fun (i:Nat)=>V.int (0+i))))):=by
 intro pins s σ H xs us Q I r h
 obtain ⟨rr,j,rfl,hr,h1,h2,q⟩:=h
 obtain ⟨u,rfl,ru⟩:=Zcj r
 cases (show u=Value.ref rr from ru)
 obtain ⟨t,u',v',hro⟩:=(show Za4 X.prog X.w H s.heap rr (.rng 0 j) from I.hok rr _ hr)
 have hn:Builtin.Range.rangeSize 0 j 1=((j.toNat:Nat):Int):=by rw [rangeSize_one];split <;> omega
 refine call_list_range (I.ok.hd hc) (show IsRange s.heap rr 0 j 1 t u' v' from hro) (small_one (by omega) (by omega) h1 (by omega)) hn (by omega) fun h' tk acc' c' hk hS hacc=>?_
 obtain ⟨sz,hit⟩:=hacc
 have rv:=Zfj acc'.toList 0 fun i v hv=>by
  obtain ⟨t,e⟩:=hit i v (by simpa using hv)
  exact ⟨t,by rw [e];simp⟩
 have el:acc'.toList.length=j.toNat:=by simpa using sz
 rw [el] at rv
 refine ⟨.ref s.heap.objs.size,upd H s.heap.objs.size (.lst ((List.range j.toNat).map fun (i:Nat)=>V.int (0+i))),I.laid hk (Nat.le_refl _) ?_,rfl,q _ (I.hok.fresh (Nat.le_refl _))⟩
 refine ⟨?_,acc'.toList,c',rv,?_⟩
 ·rw [List.length_map,List.length_range]
  show j.toNat<=2 ^ 24
  omega
 ·rw [Array.toArray_toList]
  exact hS
def ZbV (f:Rho->M D):Rho->M D:=fun ρ=>Zan (f ρ) fun d=>match d with | .int j=>if -(2 ^ 62)<=j/\j<=2 ^ 24 then mret (.lst (ZaH 0 j.toNat)) else ZaB | _=>ZaB
theorem ZhF {Hf:Hp} (lo:Int):∀(l:List Nat),RepL G Hf (l.map fun (i:Nat)=>D.int (lo+i)) (l.map fun (i:Nat)=>V.int (lo+i))
 | []=>RepL.nil_iff.mpr rfl
 | i::l=>RepL.cons (Rep.int_iff.mpr rfl) (ZhF lo l)
theorem Zex {a:Expr} {p1 p2 pos1 pos:Pos} {r1:Bool} (hc:X.calm=true) (hg:Gl X "range") (hm:X.mg "range" = none) (hg2:Gl X "list") (hm2:X.mg "list" = none) (hv2:bootBuiltins "list" = some (.type "list")) (ha:PD X G r1 a f)
  (hs:starEach [a] X.env=[(false,eval a X.env)]:=by rfl)
  (he:starEach [.Call (.Name "range" p1) [a] [] pos1] X.env=(false,eval (.Call (.Name "range" p1) [a] [] pos1) X.env)::starEach [] X.env:=by rfl):PD X G true (.Call (.Name "list" p2) [.Call (.Name "range" p1) [a] [] pos1] [] pos) (ZbV f):=by
 obtain ⟨t,pa,qa⟩:=ha.drop
 refine ⟨_,ZiZ (Zk1 hc) hg2 hm2 hv2 (Zbb (ZiY hg hm (Zbb pa ZbO (by rw [hs];rfl)) hs) ZbO he) (by decide) (by decide) he rfl,fun σ Hf H ρ s d s' Q e1 e2 e3 e4 k=>?_⟩
 obtain ⟨dj,s1,a1,a2⟩:=Zai e4
 cases dj with
 | int j=>
  obtain ⟨c,a3⟩:=Za7 a2
  obtain ⟨rfl,rfl⟩:=Zaq a3
  refine qa σ Hf H ρ s _ _ _ e1 e2 e3 a1 fun v Hf1 H1 g st r=>?_
  rw [Rep.int_iff.mp r]
  refine ⟨j,rfl,fun p hp=>⟨p,j,rfl,Zav,c.1,c.2,fun l hl=>?_⟩⟩
  have hlp:l≠p:=fun z=>by rw [z,Zav] at hl;cases hl
  have hl1:H1 l=none:=by rw [Zap hlp] at hl;exact hl
  have st2:G.st s' (upd H1 p (.rng 0 j)):=Gh.grow st hp
  have nf:=Gh.nofp st2 hl
  have fp:Hf1 p=none:=by
   cases q:Hf1 p with
   | none=>rfl
   | some o=>rw [g.fh p o (Gh.nofp st hp) q] at hp;cases hp
  have gA:Gr G Hf1 H1 Hf1 (upd H1 p (.rng 0 j)):=⟨fun b o n q=>by rw [Zap (Zat q hp)];exact q,.refl _ _,fun b o n q=>by rw [Zap (Zat q fp)];exact g.fh b o n q,fun b n h1 h2=>h1⟩
  have gB:=Gr.new (o:=.lst ((List.range j.toNat).map fun (i:Nat)=>V.int (0+i))) gA.fh hl nf
  have rr:RepL G Hf1 (ZaH 0 j.toNat) ((List.range j.toNat).map fun (i:Nat)=>V.int (0+i)):=ZhF 0 _
  refine k (.ref l) _ _ ((g.trans gA).trans gB) (Gh.grow st2 hl) (Rep.lst_iff.mpr ⟨l,_,rfl,nf,Zav,rr.ext gB.ff⟩) fun _=>?_
  exact ZaJ.old (g.trans gA).hh (fun a ea _=>by cases ea;exact nf) (ZaJ.mk gA.fh hl nf rr)
 | _=>cases a2
end
structure BlkS (X:Cx) (XN:List Str) (NS:List (Str×NameKind)) (N':List Str) (src:List (Option Nat)) (scope:Scope):Prop where
 xn:X.N=XN
 ns:X.env.scope.names=NS
 nocell:∀y∈scope.names,y.2≠.cell
 kind:scope.kind=.function
 names:∀y∈scope.names,y.2=.local->scope.names.lookup y.1=some .local
 len:src.length=N'.length
 free:∀y∈scope.names,y.2=.free->NS.lookup y.1=some .cell∨NS.lookup y.1=some .free
 from_:(src.zip N').all (fun p=>match p.1 with | some j=>decide (XN[j]?=some p.2)&&(decide (NS.lookup p.2=some .cell)||decide (NS.lookup p.2=some .free))&&decide (scope.names.lookup p.2=some .free) | none=>true)=true
theorem ZdM {env:Env}:∀{names:List (Str×NameKind)} {x:Str},names.lookup x=some .free->
  (names.map fun (n,k)=>if (k==NameKind.free&&env.scope.kind == .function&&env.kindOf n==some .cell) then (n,NameKind.cell) else (n,k)).lookup x=some .cell∨
  (names.map fun (n,k)=>if (k==NameKind.free&&env.scope.kind == .function&&env.kindOf n==some .cell) then (n,NameKind.cell) else (n,k)).lookup x=some .free
 | [],_,h=>by simp at h
 | (n,k)::r,x,h=>by
  have ih:=@ZdM env r x
  show List.lookup x ((if (k==NameKind.free&&env.scope.kind == .function&&env.kindOf n==some .cell)=true then (n,NameKind.cell) else (n,k))::_)=_∨List.lookup x ((if (k==NameKind.free&&env.scope.kind == .function&&env.kindOf n==some .cell)=true then (n,NameKind.cell) else (n,k))::_)=_
  cases hx:x==n with
  | true=>
   simp only [List.lookup_cons,hx] at h
   cases h
   by_cases hc:(NameKind.free==NameKind.free&&env.scope.kind == .function&&env.kindOf n==some .cell)=true
   ·rw [if_pos hc];left;simp [List.lookup_cons,hx]
   ·rw [if_neg hc];right;simp [List.lookup_cons,hx]
  | false=>
   simp only [List.lookup_cons,hx] at h
   by_cases hc:(k==NameKind.free&&env.scope.kind == .function&&env.kindOf n==some .cell)=true
   ·rw [if_pos hc];simp only [List.lookup_cons,hx];exact ih h
   ·rw [if_neg hc];simp only [List.lookup_cons,hx];exact ih h
theorem ZcC {env:Env}:∀{names:List (Str×NameKind)} {x:Str} {k':NameKind},(∀y∈names,y.2≠.cell)->(k'=.cell∨k'=.free)->
  (names.map fun (n,k)=>if (k==NameKind.free&&env.scope.kind == .function&&env.kindOf n==some .cell) then (n,NameKind.cell) else (n,k)).lookup x=some k'->names.lookup x=some .free
 | [],_,_,_,_,h=>by simp at h
 | (n,k)::r,x,k',nc,hk,h=>by
  have ih:=@ZcC env r x k' (fun y hy=>nc y (List.mem_cons_of_mem _ hy)) hk
  have h:List.lookup x ((if (k==NameKind.free&&env.scope.kind == .function&&env.kindOf n==some .cell)=true then (n,NameKind.cell) else (n,k))::_)=_:=h
  cases hx:x==n with
  | true=>
   by_cases hc:(k==NameKind.free&&env.scope.kind == .function&&env.kindOf n==some .cell)=true
   ·have:k=.free:=by
     simp only [Bool.and_eq_true,beq_iff_eq] at hc
     exact hc.1.1
    subst this
    simp [List.lookup_cons,hx]
   ·rw [if_neg hc] at h
    simp only [List.lookup_cons,hx] at h ⊢
    cases h
    rcases hk with rfl | rfl
    ·exact absurd rfl (nc _ List.mem_cons_self)
    ·rfl
  | false=>
   by_cases hc:(k==NameKind.free&&env.scope.kind == .function&&env.kindOf n==some .cell)=true
   ·rw [if_pos hc] at h;simp only [List.lookup_cons,hx] at h ⊢;exact ih h
   ·rw [if_neg hc] at h;simp only [List.lookup_cons,hx] at h ⊢;exact ih h
theorem ZdH {env:Env}:∀(names:List (Str×NameKind)) (acc:List (Str×Addr)),(∀y∈names,y.2=.free->∃c,env.cells.lookup y.1=some c)->
  (∀x c,acc.lookup x=some c->env.cells.lookup x=some c)->
  ∃cl,(forIn names acc fun (p:Str×NameKind) (cs:List (Str×Addr))=>(if (p.2==NameKind.free)=true then do let a<-cellOf env p.1;pure (ForInStep.yield ((p.1,a)::cs)) else pure (ForInStep.yield cs):Sem (ForInStep (List (Str×Addr)))))=pure cl/\
   (∀x c,cl.lookup x=some c->env.cells.lookup x=some c)/\(∀x c,acc.lookup x=some c->∃c',cl.lookup x=some c')/\∀y∈names,y.2=.free->∃c,cl.lookup y.1=some c
 | [],acc,_,h2=>⟨acc,by simp,h2,fun x c h=>⟨c,h⟩,fun y hy=>by simp at hy⟩
 | (n,k)::r,acc,h1,h2=>by
  by_cases hk:k=.free
  ·subst hk
   obtain ⟨c,hc⟩:=h1 (n,.free) List.mem_cons_self rfl
   have hcell:cellOf env n=pure c:=by unfold cellOf;rw [hc]
   obtain ⟨cl,q1,q2,q3,q4⟩:=ZdH (env:=env) r ((n,c)::acc) (fun y hy=>h1 y (List.mem_cons_of_mem _ hy)) fun x c' h=>by
    cases hx:x==n with
    | true=>
     simp only [List.lookup_cons,hx] at h
     cases h
     have:x=n:=by simpa using hx
     rw [this];exact hc
    | false=>simp only [List.lookup_cons,hx] at h;exact h2 x c' h
   refine ⟨cl,?_,q2,fun x c' h=>?_,fun y hy hf=>?_⟩
   ·rw [List.forIn_cons]
    simp only [beq_self_eq_true,if_true,hcell,pure_bind]
    exact q1
   ·cases hx:x==n with
    | true=>exact q3 x c (by simp [List.lookup_cons,hx])
    | false=>exact q3 x c' (by simp only [List.lookup_cons,hx];exact h)
   ·rcases List.mem_cons.mp hy with e | hy
    ·subst e;exact q3 n c (by simp [List.lookup_cons])
    ·exact q4 y hy hf
  ·obtain ⟨cl,q1,q2,q3,q4⟩:=ZdH (env:=env) r acc (fun y hy=>h1 y (List.mem_cons_of_mem _ hy)) h2
   refine ⟨cl,?_,q2,q3,fun y hy hf=>?_⟩
   ·rw [List.forIn_cons]
    have:(k==NameKind.free)=false:=by simpa using hk
    simp only [this,Bool.false_eq_true,if_false,pure_bind]
    exact q1
   ·rcases List.mem_cons.mp hy with e | hy
    ·subst e;exact absurd hf hk
    ·exact q4 y hy hf
theorem BlkS.ok {X:Cx} {XN:List Str} {NS:List (Str×NameKind)} {N':List Str} {src:List (Option Nat)} {scope:Scope} (B:BlkS X XN NS N' src scope) (ok:X.Ok):∃cl,BlkOk X N' src scope cl:=by
 have hcells:∀y∈scope.names,y.2=.free->∃c,X.env.cells.lookup y.1=some c:=fun y hy hf=>ok.has y.1 (by
  have:=B.free y hy hf
  rw [<-B.ns] at this
  exact this)
 obtain ⟨cl,q1,q2,q3,q4⟩:=ZdH (env:=X.env) scope.names [] hcells (fun x c h=>by simp at h)
 refine ⟨cl,?_,B.nocell,B.kind,B.names,B.len,q2,fun x hx=>?_,fun i j x e1 e2=>?_⟩
 ·unfold closureFor
  show (forIn scope.names [] _ >>= _)=_
  rw [show (forIn scope.names ([]:List (Str×Addr)) fun (x:Str×NameKind) (r:List (Str×Addr))=>_)=_ from q1]
  rfl
 ·have hf:scope.names.lookup x=some .free:=by
   rcases hx with h | h
   ·exact ZcC B.nocell (.inl rfl) h
   ·exact ZcC B.nocell (.inr rfl) h
  exact q4 (x,.free) (PySem.mem_of_lookup hf) rfl
 ·have hm:(some j,x)∈src.zip N':=by
   have:(src.zip N')[i]?=some (some j,x):=by
    rw [List.getElem?_zip_eq_some]
    exact ⟨e1,e2⟩
   exact List.mem_of_getElem? this
  have q:=List.all_eq_true.mp B.from_ _ hm
  simp only [Bool.and_eq_true,Bool.or_eq_true,decide_eq_true_eq] at q
  obtain ⟨⟨p1,p2⟩,p3⟩:=q
  refine ⟨by rw [B.xn];exact p1,?_,ZdM p3⟩
  show X.env.scope.names.lookup x=_∨X.env.scope.names.lookup x=_
  rw [B.ns]
  exact p2
section
variable {X:Cx} {G:Gh} {elt tg iter:Expr} {ifs:List Expr} {scope:Scope} {pos pos' spos:Pos} {XN:List Str} {NS:List (Str×NameKind)} {N':List Str} {src:List (Option Nat)} {fi:Rho->M (List D)} {τ:D->Rho->Option Rho} {ft:Rho->M Bool} {fe:Rho->M D} {r1:Bool} {i:Nat} {x:Str}
theorem Zbs (hc:X.calm=true) (B:BlkS X XN NS N' src scope) (hi:PDI X G tg iter fi)
  (hg:∀cl pins C s H fp,PDG (blk X pins N' scope cl C s H fp) G tg (fun i=>src[i]?=some none) τ) (ht:∀cl pins C s H fp,PIfs (blk X pins N' scope cl C s H fp) ifs (tOfT G ft)) (he:∀cl pins C s H fp,PD (blk X pins N' scope cl C s H fp) G r1 elt fe)
  (hs:∀x,foldedSetIterable iter X.env x=pure x:=by intro _;rfl):PD X G true (.ListComp elt [⟨tg,iter,ifs,0⟩] scope pos) (ZaP src fi τ ft fe):=by
 obtain ⟨wi,pi,qi⟩:=hi
 refine ⟨_,fun pins s σ H Q I h=>?_,ZkV (r1:=r1) qi⟩
 obtain ⟨cl,B'⟩:=B.ok I.ok
 exact ZqE hc B' pi (fun pins C s H fp=>(hg cl pins C s H fp).canon) (ht cl) (fun pins C s H fp=>(he cl pins C s H fp).canon) hs pins s σ H Q I h
theorem Zcs (hN:X.N.Nodup) (hi':X.N[i]?=some x) (hx:Loc X.env.scope x)
  (hc:X.calm=true) (B:BlkS X XN NS N' src scope) (hi:PDI X G tg iter fi)
  (hg:∀cl pins C s H fp,PDG (blk X pins N' scope cl C s H fp) G tg (fun i=>src[i]?=some none) τ) (ht:∀cl pins C s H fp,PIfs (blk X pins N' scope cl C s H fp) ifs (tOfT G ft)) (he:∀cl pins C s H fp,PD (blk X pins N' scope cl C s H fp) G r1 elt fe)
  (hsw:swapsWith (.ListComp elt [⟨tg,iter,ifs,0⟩] scope pos) (some (.Name x pos')) spos.line X.env=pure true:=by rfl)
  (hs:∀x,foldedSetIterable iter X.env x=pure x:=by intro _;rfl)
  (hf:X.fn x=true∨X.env.scope.names.lookup x=some .local:=by first | exact .inl rfl | exact .inr rfl | assumption) :
  PAsg X G true i (.Assign [.Name x pos'] (.ListComp elt [⟨tg,iter,ifs,0⟩] scope pos) spos) (ZaP src fi τ ft fe):=by
 obtain ⟨wi,pi,qi⟩:=hi
 refine ⟨_,fun pins s σ H D I h=>?_,ZkV (r1:=r1) qi⟩
 obtain ⟨cl,B'⟩:=B.ok I.ok
 exact Zqt hN hi' hx hc B' pi (fun pins C s H fp=>(hg cl pins C s H fp).canon) (ht cl) (fun pins C s H fp=>(he cl pins C s H fp).canon) hsw hs hf pins s σ H D I h
end
def Cal (P:Program) (w:World) (K:PySem.W.Frag) (mg:Str->Option Value) (base:Heap) (k:Nat) (x:Str) (n:Nat) (fr:Bool) (GG:Gh->Prop) (F:List D->M D):Prop:=
 ∃f fd ps,FnOk P w K mg base CX0 k f fd ps (spD n fr GG F)/\mg x=some (.ref f)/\PySem.W.keepIn K (.ref f)=true/\ZcG K fd ps []
theorem Cal.mono {P:Program} {w:World} {K:PySem.W.Frag} {mg:Str->Option Value} {base:Heap} {j k:Nat} {x:Str} {n:Nat} {fr:Bool} {GG:Gh->Prop} {F:List D->M D} (c:Cal P w K mg base j x n fr GG F) (h:j<=k:=by decide):Cal P w K mg base k x n fr GG F:=
 let ⟨f,fd,ps,a,b,c,d⟩:=c
 ⟨f,fd,ps,a.mono h,b,c,d⟩
theorem Zas {X:Cx} {G:Gh} {k:Nat} {x:Str} {n:Nat} {fr:Bool} {GG:Gh->Prop} {F:List D->M D} {p pos:Pos} {e:Expr} {es:List Expr} {fs:Rho->M (List D)} (c:Cal X.prog X.w X.K X.mg X.base k x n fr GG F) (hG:GG G) (hr:Room k X.A) (hg:Gl X x)
  (ha:PDA X G (e::es) fs) (hal:∀ρ s ds s',fs ρ s=some (ds,s')->ds.length=(e::es).length) (hlen:(e::es).length=n:=by rfl)
  (hdb:(x==("__debug__" : Str))=false:=by decide) (he:starEach (e::es) X.env=(false,eval e X.env)::starEach es X.env:=by rfl) (hpl:(backTo pos (starEach es X.env)).any (·.1)=false:=by rfl) :
  PD X G fr (.Call (.Name x p) (e::es) [] pos) (dFn F fs):=by
 obtain ⟨f,fd,ps,a,b,c,d⟩:=c
 exact ZqL a hG hr hg b c d Zp0 ha hlen hal hdb he hpl
def hidB (h base:Heap) (as:List Addr):Heap:=PySem.W.hideAll h ((List.range h.objs.size).filter fun a=>!((base.get? a).isSome||decide (a∈as)))
theorem Zoo {h base:Heap} {as:List Addr}:(hidB h base as).objs.size=h.objs.size:=PySem.W.hideAll_size _ _
theorem ZkK {h base:Heap} {as:List Addr} {b:Addr} {o:Obj} (e:h.get? b=some o) (n:(∃u,base.get? b=some u)∨b∈as):(hidB h base as).get? b=some o:=
 PySem.W.hideAll_get _ e fun hm=>by
  have q:=(List.mem_filter.mp hm).2
  rcases n with ⟨u,n⟩ | n
  ·simp [n] at q
  ·simp [n] at q
theorem ZlY {h base:Heap} {as:List Addr} {b:Addr} {o:Obj} (e:(hidB h base as).get? b=some o):h.get? b=some o/\((∃u,base.get? b=some u)∨b∈as):=by
 have e':h.get? b=some o:=PySem.W.of_hideAll _ e
 refine ⟨e',?_⟩
 by_cases c:((base.get? b).isSome||decide (b∈as))=true
 ·rcases Bool.or_eq_true_iff.mp c with c | c
  ·exact .inl (Option.isSome_iff_exists.mp c)
  ·exact .inr (of_decide_eq_true c)
 ·have z:(hidB h base as).get? b=none:=PySem.W.hideAll_none _ (List.mem_filter.mpr ⟨List.mem_range.mpr (Heap.lt_size e'),by simpa using c⟩)
  rw [z] at e;cases e
theorem Env0.more {P:Program} {w:World} {K:PySem.W.Frag} {mg:Str->Option Value} {base:Heap} {A:Around} {outer:List Env} {s:Shared} {H:Hp} {as:List Addr} (e:Env0 P w K mg base A outer s H) (ha:∀b∈as,H b=none) (hf:∀b∈as,b∉frs outer) :
  Env0 P w K mg (hidB s.heap base as) A outer s H:=by
 have up:∀b o,base.get? b=some o->(hidB s.heap base as).get? b=some o:=fun b o q=>ZkK (e.bs b o q).1 (.inl ⟨o,q⟩)
 refine ⟨e.frames,⟨e.mod.kin.keeps up,e.mod.glob.keeps up,let ⟨mb,h1,h2⟩:=e.mod.blt;⟨mb,h1.keeps up,h2⟩,e.mod.nolimit.keeps up⟩,fun b o q=>?_,Nat.le_of_eq Zoo,?_,e.frf,e.hok,e.bare⟩
 ·obtain ⟨q1,q2⟩:=ZlY q
  refine ⟨q1,?_⟩
  rcases q2 with ⟨u,q2⟩ | q2
  ·exact (e.bs b u q2).2
  ·exact ha b q2
 ·have all:∀l:List Env,(∀b∈frs l,b∈frs outer)->s.heap.FunFrames base l->s.heap.FunFrames (hidB s.heap base as) l:=by
   intro l
   induction l with
   | nil=>intro _ _;trivial
   | cons env r ih=>
    intro hs hl
    obtain ⟨hk,⟨L,o,hf',hn,ho,hd⟩,hr⟩:=hl
    have hL:L∈frs outer:=hs L (by unfold frs;rw [List.filterMap_cons,hf'];exact List.mem_cons_self)
    refine ⟨hk,⟨L,o,hf',?_,ho,hd⟩,ih (fun b hb=>hs b (by unfold frs;rw [List.filterMap_cons,hf'];exact List.mem_cons_of_mem _ hb)) hr⟩
    cases q:(hidB s.heap base as).get? L with
    | none=>rfl
    | some u=>
     rcases (ZlY q).2 with ⟨u',q'⟩ | q'
     ·rw [hn] at q';cases q'
     ·exact absurd hL (hf L q')
  exact all outer (fun _ h=>h) e.funs
def fnφ (p:Addr) (fd:FuncData):Heap->Prop:=fun h=>∃oc od sl,h.get? p=some ⟨oc,od,.func fd,sl⟩
def codeφ (c:Addr) (q:Str):Heap->Prop:=fun h=>h.CodeRec (.ref c) q
theorem fnφ_at {P:Program} {w:World} {H:Hp} {h:Heap} {p:Addr} {fd:FuncData} (ok:HOk P w H h) (e:H p=some (.ext (fnφ p fd))):fnφ p fd h:=(ok p _ e).1
theorem codeφ_at {P:Program} {w:World} {H:Hp} {h:Heap} {c:Addr} {q:Str} (ok:HOk P w H h) (e:H c=some (.ext (codeφ c q))):h.CodeRec (.ref c) q:=(ok c _ e).1
structure CloScope (N ps:List Str) (sc:Scope):Prop where
 kind:sc.kind=.function
 co:sc.isCoroutine=false
 gen:sc.isGenerator=false
 nd:N.Nodup
 pre:N.take ps.length=ps
 par:∀x∈ps,sc.names.lookup x=some .local
 nocell:∀y∈sc.names,y.2≠.cell
def cxC (CX:CXT) (P:Program) (w:World) (K:PySem.W.Frag) (mg:Str->Option Value) (base:Heap) (N:List Str) (qual:Str) (scope:Scope) (f:Addr) (cd:Value) (cl:List (Str×Addr)) (A:Around) (outer:List Env) (s:Shared) (H:Hp) (E:XK):Cx where
 prog:=P
 w:=w
 K:=K
 mg:=mg
 base:=base
 A:=A.deeper (PySem.W.envX qual scope s.heap.objs.size f cd cl)
 N:=N
 s₀:=s
 H₀:=H
 env:=PySem.W.envX qual scope s.heap.objs.size f cd cl
 outer:=outer
 stack:=PySem.W.envX qual scope s.heap.objs.size f cd cl::outer
 ex:=[]
 calm:=true
 fn:=fun _=>false
 pn:=[]
 xe:=fun e s'=>wpAny (model P w) (A.deeper (PySem.W.envX qual scope s.heap.objs.size f cd cl)) (leaving (PySem.W.envX qual scope s.heap.objs.size f cd cl) e) (fun _ s''=>CX outer H s E e s'') (fun e' s''=>CX outer H s E e' s'') s'
structure CloAt (base:Heap) (cl:List (Str×Addr)) (sc:Scope) (N ps:List Str) (cvs:List V):Prop where
 inj:∀x y c,cl.lookup x=some c->cl.lookup y=some c->x=y
 cell:∀x c,cl.lookup x=some c->∃v,base.IsCell c v
 has:∀x,sc.names.lookup x=some .free->∃c,cl.lookup x=some c
 cap:∀(i:Nat) (x:Str) (v:V),N[ps.length+i]?=some x->cvs[i]?=some v->sc.names.lookup x=some .free/\∃c u,cl.lookup x=some c/\base.IsCell c (some u)/\RelV v u
 len:N.length=ps.length+cvs.length
theorem Zf9 {α:Type}:∀{l:List (Str×α)} {x:Str} {u:α},(l.map (·.1)).Nodup->(x,u)∈l->l.lookup x=some u
 | [],_,_,_,h=>by simp at h
 | (y,w)::l,x,u,nd,h=>by
  rw [List.map_cons,List.nodup_cons] at nd
  rcases List.mem_cons.mp h with e | hm
  ·cases e;simp [List.lookup_cons]
  ·have hne:(x==y)=false:=by
    simp only [beq_eq_false_iff_ne]
    rintro rfl
    exact nd.1 (List.mem_map_of_mem (f:=(·.1)) hm)
   rw [List.lookup_cons,hne]
   exact Zf9 nd.2 hm
theorem ZgM:∀(ps:List Str) (us:List Value),((ps.zip us).map (·.1)).Sublist ps
 | [],_=>by simp
 | _::_,[]=>by simp
 | p::ps,u::us=>by simpa using ZgM ps us
theorem Zij {ps:List Str} {us:List Value} {i:Nat} {x:Str} {u:Value} (nd:ps.Nodup) (h1:ps[i]?=some x) (h2:us[i]?=some u):(ps.zip us).reverse.lookup x=some u:=by
 refine Zf9 ?_ ?_
 ·rw [List.map_reverse]
  refine List.pairwise_reverse.mpr ?_
  exact (nd.sublist (ZgM _ _)).imp Ne.symm
 ·rw [List.mem_reverse]
  exact List.mem_of_getElem? (i:=i) (List.getElem?_zip_eq_some.mpr ⟨h1,h2⟩)
theorem Zrc {CX:CXT} {P:Program} {w:World} {K:PySem.W.Frag} {mg:Str->Option Value} {base:Heap} {N ps:List Str} {qual:Str} {scope:Scope} {f:Addr} {cd:Value} {cl:List (Str×Addr)} {A:Around} {outer:List Env} {s:Shared} {H:Hp} {E:XK} {us:List Value} {vs cvs:List V} {h':Heap} {tk:Nat}
  (S:CloScope N ps scope) (C:CloAt base cl scope N ps cvs) (hd:A.handled=none) (e0:Env0 P w K mg base A outer s H) (hl:vs.length=ps.length) (r:Vals vs us)
  (hns:h'.Ns s.heap.objs.size (fun x=>(ps.zip us).reverse.lookup x)) (hk:∀b o,s.heap.get? b=some o->h'.get? b=some o) :
  Inv (cxC CX P w K mg base N qual scope f cd cl A outer s H E) [] (vs.map some++cvs.map some) H { s with heap:=h',toks:=tk }:=by
 have noA:∀b:Addr,b∉(cxC CX P w K mg base N qual scope f cd cl A outer s H E).ex:=fun b z=>absurd (show b∈([]:List Addr) from z) (by simp)
 have up:∀b o,base.get? b=some o->h'.get? b=some o:=fun b o q=>hk b o (e0.bs b o q).1
 have cellAt:∀x c,cl.lookup x=some c->∃v,base.IsCell c v:=C.cell
 refine ⟨⟨e0.mod,S.kind,rfl,rfl,Nat.le_refl _,fun y z c h1 h2=>C.inj y z c h1 h2,fun y hy=>?_,fun y c z _=>(by cases z),fun _=>hd,Around.frames_deeper e0.frames,.inr ⟨rfl,rfl⟩,fun b z=>absurd z (noA b),e0.bs,e0.bsz,fun b _ _=>noA b,fun b z=>absurd z (noA b),e0.funs,e0.frf⟩,
  rfl,e0.bare,Un.kept hk,⟨_,hns,fun i y v h1 h2 h3=>?_⟩,fun y c h=>?_,e0.hok.fresh (Nat.le_refl _),fun y c h=>?_,fun p hp=>absurd (show p∈([]:List (Addr×Obj)) from hp) (by simp),e0.hok.kept hk,?_⟩
 ·have hy:scope.names.lookup y=some .cell∨scope.names.lookup y=some .free:=hy
  rcases hy with hy | hy
  ·exact absurd rfl (S.nocell _ (PySem.mem_of_lookup hy))
  ·exact C.has y hy
 ·have h1:N[i]?=some y:=h1
  by_cases hi:i<vs.length
  ·have ha:vs[i]?=some v:=by
    rw [List.getElem?_append_left (by simpa using hi),List.getElem?_map] at h2
    cases e:vs[i]? with
    | none=>rw [e] at h2;cases h2
    | some a=>rw [e] at h2;cases h2;rfl
   obtain ⟨u,hu,rv⟩:=r.get ha
   have hp:ps[i]?=some y:=by
    rw [<-S.pre,List.getElem?_take_of_lt (by omega)];exact h1
   have ndP:ps.Nodup:=by rw [<-S.pre];exact S.nd.sublist (List.take_sublist _ _)
   exact ⟨u,rv,.inl ⟨S.par y (List.mem_of_getElem? hp),Zij ndP hp hu⟩⟩
  ·rw [List.getElem?_append_right (by simpa using hi),List.getElem?_map,List.length_map] at h2
   have hc:cvs[i-vs.length]?=some v:=by
    cases e:cvs[i-vs.length]? with
    | none=>rw [e] at h2;cases h2
    | some a=>rw [e] at h2;cases h2;rfl
   obtain ⟨q1,c,u,q2,q3,q4⟩:=C.cap (i-vs.length) y v (by rw [show ps.length+(i-vs.length)=i by omega];exact h1) hc
   exact ⟨u,q4,.inr ⟨.inr q1,c,q2,q3.keeps up⟩⟩
 ·obtain ⟨v,q⟩:=C.cell y c h
  exact ⟨v,q.keeps up⟩
 ·obtain ⟨v,o,q,_⟩:=C.cell y c h
  exact (e0.bs c o q).2
 ·show _=N.length
  rw [C.len];simp [hl]
theorem Zrj {CX:CXT} {P:Program} {w:World} {K:PySem.W.Frag} {mg:Str->Option Value} {base:Heap} {k:Nat} {f:Addr} {name qual:Str} {params:Arguments} {body:Expr} {scope:Scope} {cl:List (Str×Addr)} {pm ct:Value} {c':Addr} {N ps:List Str} {cvs:List V} {sp:Sp}
  (S:CloScope N ps scope) (C:CloAt base cl scope N ps cvs) (len:∀vs H Q E,sp vs H Q E->vs.length=ps.length)
  (at_:∀vs H Q E,sp vs H Q E->H f=some (.ext (fnφ f (PySem.W.kla_fn name qual params body scope cl pm (.ref c') ct)))/\H c'=some (.ext (codeφ c' qual)))
  (hbody:∀(A:Around) (outer:List Env) (s:Shared) (H:Hp) (vs:List V) (Q:VK) (E:XK),Room k (A.deeper (PySem.W.envX qual scope s.heap.objs.size f (.ref c') cl))->sp vs H Q E->
   ∃t,PE (cxC CX P w K mg base N qual scope f (.ref c') cl A outer s H E) body t/\t (vs.map some++cvs.map some) H Q) :
  FnOk P w K mg base CX (k+1) f (PySem.W.kla_fn name qual params body scope cl pm (.ref c') ct) ps sp:=by
 refine ⟨len,fun A outer s H args us vs Q E hr e0 hb r hsp=>?_⟩
 have hl:=len _ _ _ _ hsp
 obtain ⟨a1,a2⟩:=at_ _ _ _ _ hsp
 obtain ⟨oc,od,sl,ho⟩:=fnφ_at e0.hok a1
 have lim:s.heap.NoLimit:=e0.mod.nolimit.keeps fun b o e=>(e0.bs b o e).1
 have hkind:∀y∈ps.zip us,scope.names.lookup y.1=some .local:=fun ⟨n,v⟩ hy=>S.par n (List.of_mem_zip hy).1
 refine PySem.W.kla_callFunE hr.depth ho rfl S.co S.gen rfl (codeφ_at e0.hok a2) (hb _ _ _ _ ?_)
 refine wpAny_newFunctionEnv S.nocell hkind (fun h' hns hsb=>?_) S.kind
 have hk:∀b o,s.heap.get? b=some o->h'.get? b=some o:=fun b o e=>hsb.extBut b o (Nat.ne_of_lt (Heap.lt_size e)) (Heap.get?_push_of_some _ e)
 refine ⟨lim.keeps hk,?_⟩
 show codeAny _ _ (.expr body (PySem.W.envX qual scope s.heap.objs.size f (.ref c') cl)) _ _
 obtain ⟨t,ht,hq⟩:=hbody A outer s H vs Q E (hr.deeper _) hsp
 refine PySem.W.kla_codeExpr (wpAny_mono (ht [] _ _ H Q (Zrc S C hr.hd e0 hl r hns hk) hq) (fun u s' hs=>?_) fun e s' hs=>hs)
 obtain ⟨v,H',J,rv,q⟩:=hs
 exact ⟨v,H',J.os,J.bare,J.base,J.hok,rv,q⟩
structure Mk0 (X:Cx) (c P:Addr):Prop where
 code:X.env.code=.ref c
 hd:PySem.W.CodeHd X.base c P
 bm:∃bm o,X.mg "__builtins__" = some (.ref bm)/\bm≠builtinsNs/\bm≠mainGlobals/\X.base.get? bm=some o/\o.cls=.type "module"/\o.dict=some builtinsNs/\o.data=.plain
def Slot (P:Addr) (q:Str) (lpos:Pos) (ps:Array Value) (H Hm:Hp) (c':Addr):Prop:=
 (Hm=H/\codeAmong lpos ps.toList=some (.ref c')/\H c'=some (.ext (codeφ c' q)))∨(codeAmong lpos ps.toList=none/\H c'=none/\c'≠P/\Hm=upd (upd H P (.tbl (ps ++ #[rawInt lpos.line,rawInt lpos.col,.ref c']))) c' (.ext (codeφ c' q)))
def Zqh (P:Addr) (q:Str) (lpos:Pos) (isFd:FuncData->Addr->Prop) (H:Hp) (R:Addr->Addr->FuncData->Hp->Prop):Prop:=
 ∃ps,H P=some (.tbl ps)/\TriplesOk ps.toList/\(∀cv,codeAmong lpos ps.toList=some cv->∃c',cv=.ref c'/\H c'=some (.ext (codeφ c' q)))/\
  ∀p c' fd Hm,isFd fd c'->Slot P q lpos ps H Hm c'->Hm p=none->R p c' fd (upd Hm p (.ext (fnφ p fd)))
section
variable {X:Cx} {pins:List (Addr×Obj)} {σ:St} {H:Hp} {s:Shared} {c P:Addr} {ps:Array Value}
theorem Mk0.bat (M:Mk0 X c P) (I:Inv X pins σ H s) (hP:H P=some (.tbl ps)):s.heap.BuiltinsAt X.mg P:=by
 obtain ⟨bm,o,e1,e2,e3,e4,e5⟩:=M.bm
 refine ⟨bm,o,e1,e2,e3,fun z=>?_,I.bk _ _ e4,e5⟩
 have:=(I.bs _ _ e4).2
 rw [z,hP] at this;cases this
theorem gne (I:Inv X pins σ H s) (hP:H P=some (.tbl ps)):mainGlobals≠P:=fun z=>by
 obtain ⟨o,es,ep,e,_⟩:=I.mod.glob
 have:=(I.bs _ _ e).2
 rw [z,hP] at this;cases this
theorem ZkS {P0:Program} {w:World} {H':Hp} {h:Heap} {a:Addr} {φ:Heap->Prop} (h1:φ h) (h2:∃o,h.get? a=some o) (h3:∀h1 h2:Heap,φ h1->(∀o,h1.get? a=some o->h2.get? a=some o)->φ h2):Za4 P0 w H' h a (.ext φ):=⟨h1,h2,h3⟩
theorem fnφ_keep {p:Addr} {fd:FuncData}:∀h1 h2:Heap,fnφ p fd h1->(∀o,h1.get? p=some o->h2.get? p=some o)->fnφ p fd h2:=fun h1 h2 ⟨oc,od,sl,e⟩ k=>⟨oc,od,sl,k _ e⟩
theorem codeφ_keep {p:Addr} {q:Str}:∀h1 h2:Heap,codeφ p q h1->(∀o,h1.get? p=some o->h2.get? p=some o)->codeφ p q h2:=fun h1 h2 ⟨a,o,vs,t,e,e1,r⟩ k=>by
 cases e
 exact ⟨p,o,vs,t,rfl,k _ e1,r⟩
theorem codeφ_there {p:Addr} {q:Str} {h:Heap} (x:codeφ p q h):∃o,h.get? p=some o:=by
 obtain ⟨a,o,vs,t,e,e1,r⟩:=x
 cases e
 exact ⟨o,e1⟩
theorem Zrb {h':Heap} {tk:Nat} {c':Addr} {more:Array Value} {q:Str} (I:Inv X pins σ H s) (hP:H P=some (.tbl ps)) (hx:Heap.ExtBut P s.heap h') (hge:s.heap.objs.size<=c') (hc:h'.CodeRec (.ref c') q) (ht:h'.get? P=some (PySem.W.tabObj (ps++more))) :
  Inv X pins σ (upd (upd H P (.tbl (ps++more))) c' (.ext (codeφ c' q))) { s with heap:=h',toks:=tk }/\H c'=none/\c'≠P:=by
 have hc0:H c'=none:=I.hok.fresh hge
 have hcP:c'≠P:=fun z=>by rw [z,hP] at hc0;cases hc0
 have old:∀{b:Addr} {u:HO},H b=some u->b≠c':=fun e z=>by rw [z,hc0] at e;cases e
 have get:∀{b:Addr} {u:HO},H b=some u->b≠P->upd (upd H P (.tbl (ps++more))) c' (.ext (codeφ c' q)) b=some u:=fun {b u} e n=>by rw [Zap (old e),Zap n];exact e
 refine ⟨I.call (g':=s.gens) (d':=s.drawn) (ch:=[]) ?_ ?_ I.bare (fun b hb=>absurd hb (by simp)),hc0,hcP⟩
 ·refine ⟨fun b o e n _ _=>hx b o (fun z=>by rw [z,hP] at n;cases n) e,fun b o e n _ _=>⟨o.slots,hx b o (fun z=>by rw [z,hP] at n;cases n) e⟩,fun b o e n _=>?_,fun b o e _=>?_,fun b xs e=>get e (fun z=>by rw [z,hP] at e;cases e),fun b o u e=>get e (fun z=>by rw [z,hP] at e;cases e),fun b ps' e=>?_⟩
  ·rw [Zap (Nat.ne_of_lt (Nat.lt_of_lt_of_le (Heap.lt_size e) hge)),Zap (fun z=>by rw [z,hP] at n;cases n)];exact n
  ·by_cases hb:b=P
   ·exact ⟨_,hb▸ht⟩
   ·exact ⟨o,hx b o hb e⟩
  ·by_cases hb:b=P
   ·subst hb
    rw [hP] at e;cases e
    exact ⟨more,by rw [Zap (old hP),Zav]⟩
   ·exact ⟨#[],by rw [get e hb];simp⟩
 ·intro a o e
  by_cases ha:a=c'
  ·subst ha
   rw [Zav] at e;cases e
   exact ZkS hc (codeφ_there hc) codeφ_keep
  ·rw [Zap ha] at e
   by_cases hb:a=P
   ·subst hb
    rw [Zav] at e;cases e
    exact ht
   ·rw [Zap hb] at e
    refine (I.hok a o e).stay (fun b u hb' r=>hx b u ?_ r) (fun b r=>get r (fun z=>by rw [z,hP] at r;cases r)) fun b xs r=>get r (fun z=>by rw [z,hP] at r;cases r)
    rcases hb' with rfl | hb'
    ·exact hb
    ·intro z;rw [z,hP] at hb';cases hb'
structure CloOf (X:Cx) (scope:Scope) (cl:List (Str×Addr)):Prop where
 of:∀x c,cl.lookup x=some c->X.env.cells.lookup x=some c
 has:∀y∈scope.names,y.2=.free->∃c,cl.lookup y.1=some c
theorem Zrp {scope:Scope} (ok:X.Ok) (hfree:∀y∈scope.names,y.2=.free->X.env.kindOf y.1=some .cell∨X.env.kindOf y.1=some .free):∃cl,closureFor scope X.env=pure cl/\CloOf X scope cl:=by
 obtain ⟨cl,q1,q2,q3,q4⟩:=ZdH (env:=X.env) scope.names [] (fun y hy hf=>ok.has y.1 (hfree y hy hf)) (fun x c h=>by simp at h)
 refine ⟨cl,?_,q2,q4⟩
 unfold closureFor
 show (forIn scope.names [] _ >>= _)=_
 rw [show (forIn scope.names ([]:List (Str×Addr)) fun (x:Str×NameKind) (r:List (Str×Addr))=>_)=_ from q1]
 rfl
theorem ZnI {params:Arguments} {body:Expr} {scope:Scope} {lpos:Pos} {q:Str} (M:Mk0 X c P) (hq:X.env.qual ++ "<lambda>" = q) (hfree:∀y∈scope.names,y.2=.free->X.env.kindOf y.1=some .cell∨X.env.kindOf y.1=some .free) (hdef:defaultsOf params X.env=([],[]):=by rfl) :
  PE X (.Lambda params body scope lpos) (fun σ H Q=>Zqh P q lpos (fun fd c'=>∃cl pm ctv,CloOf X scope cl/\fd=PySem.W.kla_fn "<lambda>" q params body scope cl pm (.ref c') ctv) H fun p _ _ H'=>Q (.ref p) H'):=by
 intro pins s σ H Q I ⟨ps,hP,ht,hhit,h⟩
 obtain ⟨cl,hcl,co⟩:=Zrp I.ok hfree
 have hP':s.heap.get? P=some (PySem.W.tabObj ps):=I.hok P _ hP
 have hg:s.heap.Ns mainGlobals X.mg:=I.mod.glob.keeps I.bk
 have hb:=M.bat I hP
 refine PySem.W.kla_eval hdef ?_
 rw [hq]
 cases hc:codeAmong lpos ps.toList with
 | some cv=>
  obtain ⟨c',rfl,hc'⟩:=hhit cv hc
  refine PySem.W.kla_makeFunctionHit hcl I.ok.glob hg M.code (M.hd.keeps I.bk) hP' ht hc hb fun ctv h' tk hk hsz=>?_
  refine ⟨.ref h'.objs.size,upd H h'.objs.size (.ext (fnφ _ _)),I.laid (t':=tk) (fun b u e=>Heap.get?_push_of_some _ (hk b u e)) hsz (ZkS ⟨_,_,_,Heap.get?_push_size _ rfl⟩ ⟨_,Heap.get?_push_size _ rfl⟩ fnφ_keep),rfl,h _ c' _ H ⟨cl,_,_,co,rfl⟩ (.inl ⟨rfl,hc,hc'⟩) (I.hok.fresh hsz)⟩
 | none=>
  refine PySem.W.kla_makeFunction hcl I.ok.glob hg M.code (M.hd.keeps I.bk) hP' ht hc (gne I hP) hb fun c' ctv h' tk hx hge hlt hrec htb=>?_
  obtain ⟨I1,hc0,hcP⟩:=Zrb (tk:=tk) I hP hx hge hrec htb
  refine ⟨.ref h'.objs.size,upd _ h'.objs.size (.ext (fnφ _ _)),I1.laid (t':=tk) (fun b u e=>Heap.get?_push_of_some _ e) (Nat.le_refl _) (ZkS ⟨_,_,_,Heap.get?_push_size _ rfl⟩ ⟨_,Heap.get?_push_size _ rfl⟩ fnφ_keep),rfl,h _ c' _ _ ⟨cl,_,_,co,rfl⟩ (.inr ⟨hc,hc0,hcP,rfl⟩) (I1.hok.fresh (Nat.le_refl _))⟩
end
structure Cells (X:Cx) (σ:St) (base':Heap):Prop where
 inj:∀x y c,X.env.cells.lookup x=some c->X.env.cells.lookup y=some c->x=y
 cell:∀x c,X.env.cells.lookup x=some c->∃v,base'.IsCell c v
 has:∀x,(X.env.kindOf x=some .cell∨X.env.kindOf x=some .free)->∃c,X.env.cells.lookup x=some c
 val:∀(i:Nat) (x:Str) (v:V),X.N[i]?=some x->σ[i]?=some (some v)->X.env.kindOf x=some .cell->∃c u,X.env.cells.lookup x=some c/\base'.IsCell c (some u)/\RelV v u
section
variable {X:Cx} {pins:List (Addr×Obj)} {σ:St} {H:Hp} {s:Shared}
def Zh9 (X:Cx):List Addr:=X.env.cells.filterMap fun p=>X.env.cells.lookup p.1
theorem ZoD {x:Str} {c:Addr} (e:X.env.cells.lookup x=some c):c∈Zh9 X:=List.mem_filterMap.mpr ⟨(x,c),PySem.mem_of_lookup e,e⟩
theorem ZkX {c:Addr} (h:c∈Zh9 X):∃x,X.env.cells.lookup x=some c:=by
 obtain ⟨p,_,e⟩:=List.mem_filterMap.mp h
 exact ⟨p.1,e⟩
theorem Zjd (I:Inv X pins σ H s) (hfn:∀x,X.fn x=true):Env0 X.prog X.w X.K X.mg (hidB s.heap X.base (Zh9 X)) X.A X.stack s H/\Cells X σ (hidB s.heap X.base (Zh9 X)):=by
 have cellK:∀x c v,X.env.cells.lookup x=some c->s.heap.IsCell c v->(hidB s.heap X.base (Zh9 X)).IsCell c v:=fun x c v e ⟨o,ho,hd⟩=>⟨o,ZkK ho (.inr (ZoD e)),hd⟩
 refine ⟨Env0.more I.env0 (fun b hb=>?_) fun b hb hf=>?_,⟨I.ok.inj,fun x c e=>?_,I.ok.has,fun i x v h1 h2 h3=>?_⟩⟩
 ·obtain ⟨x,e⟩:=ZkX hb
  exact I.freeC x b e
 ·obtain ⟨x,e⟩:=ZkX hb
  rcases List.mem_cons.mp (I.stkSub b hf) with z | z
  ·exact I.cne x b e z
  ·obtain ⟨_,o,ho,_⟩:=I.ok.funs.mem z
   exact absurd (Nat.lt_of_lt_of_le (Heap.lt_size ho) (I.ok.cab x b (hfn x) e)) (Nat.lt_irrefl _)
 ·obtain ⟨v,q⟩:=I.cell x c e
  exact ⟨v,cellK x c v e q⟩
 ·obtain ⟨m,_,hl⟩:=I.loc
  obtain ⟨u,r,l⟩:=hl i x v h1 h2 (.inr (.inl h3))
  rcases l with ⟨hk,_⟩ | ⟨_,c,hc,hcell⟩
  ·rw [h3] at hk;cases hk
  ·exact ⟨c,u,hc,cellK x c _ hc hcell,r⟩
theorem Zo8 {x:Str} {p pos:Pos} {e:Expr} {es:List Expr} {t:TA} {k:Nat} {f:Addr} {fd:FuncData} {ps:List Str} {sp:Heap->Sp} (F:∀base,FnOk X.prog X.w X.K X.mg base CX0 k f fd ps (sp base)) (hfn:∀x,X.fn x=true) (hr:Room k X.A) (hg:Gl X x) (hm:X.mg x=some (.ref f)) (hk:PySem.W.keepIn X.K (.ref f)=true) (hb:ZcG X.K fd ps [])
  (ha:PA X (e::es) t) (hdb:(x==("__debug__" : Str))=false:=by decide) (he:starEach (e::es) X.env=(false,eval e X.env)::starEach es X.env:=by rfl) (hpl:(backTo pos (starEach es X.env)).any (·.1)=false:=by rfl) :
  PE X (.Call (.Name x p) (e::es) [] pos) (fun σ H Q=>t σ H fun vs H1=>∀base',Cells X σ base'->sp base' vs H1 Q E0):=by
 intro pins s σ H Q I h
 refine wpAny_Call_Name_kw (Zl5 I hg hm ?_ hdb)
 refine PySem.W.callWith_K (h₀:=X.base) I.ok.mod.kin hk (thn (ha pos pins s σ H _ I h) fun us s1 ⟨vs,H1,I1,r,q⟩=>⟨I1.kIn,?_⟩) he hpl
 obtain ⟨e0,cs⟩:=Zjd I1 hfn
 have q':=q _ cs
 have hl:(us ++ []).length=ps.length:=by rw [List.append_nil,<-r.length];exact (F _).len _ _ _ _ q'
 refine wpAny_call (codeAny_mono ((F _).run X.A X.stack s1 H1 ⟨us,[]⟩ us vs Q E0 hr e0 (by have:=hb s1 us I1.kIn hl;rw [List.append_nil] at this;exact this) r q') fun r s' hq=>?_)
 cases r with
 | error e=>exact hq.elim
 | ok fl=>
  cases fl with
  | ret u=>exact I1.after hq
  | next=>exact False.elim hq
  | brk=>exact False.elim hq
  | cont=>exact False.elim hq
theorem Zo7 {x:Str} {p pos:Pos} {e:Expr} {es:List Expr} {t:TA} {k i:Nat} (hf:PE X (.Name x p) (tVar i)) (hr:Room k X.A) (ha:PA X (e::es) t)
  (he:starEach (e::es) X.env=(false,eval e X.env)::starEach es X.env:=by rfl) (hpl:(backTo pos (starEach es X.env)).any (·.1)=false:=by rfl) :
  PE X (.Call (.Name x p) (e::es) [] pos) (fun σ H Q=>∃f fd ps sp,σ[i]?=some (some (.ref f))/\ZcG X.K fd ps []/\FnOk X.prog X.w X.K X.mg X.base CX0 k f fd ps sp/\(∀h:Heap,HOk X.prog X.w H h->X.K.In h->fnφ f fd h)/\
   t σ H fun vs H1=>(∀h:Heap,HOk X.prog X.w H1 h->X.K.In h->fnφ f fd h)/\sp vs H1 Q E0):=by
 intro pins s σ H Q I ⟨f,fd,ps,sp,e,hb,F,h0,h⟩
 refine wpAny_Call_Name_kw (thn (hf pins s σ H (fun v H'=>v=.ref f/\H'=H) I ⟨_,e,rfl,rfl⟩) fun u s1 ⟨v,H1,I1,rv,ev,eH⟩=>?_)
 subst ev eH
 cases (show u=Value.ref f from rv)
 have at1:∀{pins σ H s},Inv X pins σ H s->(∀h:Heap,HOk X.prog X.w H h->X.K.In h->fnφ f fd h)->PySem.W.FnAt f s.heap:=fun I z=>by
  obtain ⟨oc,od,sl,q⟩:=z _ I.hok I.kIn
  exact ⟨oc,od,fd,sl,q⟩
 refine PySem.W.callWith_F (at1 I1 h0) (thn (ha pos pins s1 σ _ _ I1 h) fun us s2 ⟨vs,H2,I2,r,h2,q⟩=>⟨at1 I2 h2,?_⟩) he hpl
 exact Znx F hr hb .nil Zp0 I2 r (by rw [List.append_nil];exact q)
end
mutual
def Za3:D->Bool
 | .tup ds=>Zbe ds
 | .lst ds=>Zbe ds
 | .clo _ _=>false
 | _=>true
def Zbe:List D->Bool
 | []=>true
 | d::ds=>Za3 d&&Zbe ds
end
mutual
theorem Rep.re {G G':Gh} {H:Hp} (hf:G'.fp=G.fp) (hp:G'.pen=G.pen):∀{d:D} {v:V},Za3 d=true->Rep G H d v->Rep G' H d v
 | .non,_,_,h=>Rep.non_iff.mpr (Rep.non_iff.mp h)
 | .bl _,_,_,h=>Rep.bl_iff.mpr (Rep.bl_iff.mp h)
 | .int _,_,_,h=>Rep.int_iff.mpr (Rep.int_iff.mp h)
 | .str _,_,_,h=>Rep.str_iff.mpr (Rep.str_iff.mp h)
 | .tup ds,v,n,h=>by
  obtain ⟨a,vs,e1,nf,e2,r⟩:=Rep.tup_iff.mp h
  exact Rep.tup_iff.mpr ⟨a,vs,e1,by rw [hf];exact nf,e2,RepL.re hf hp (by simpa [Za3] using n) r⟩
 | .lst ds,v,n,h=>by
  obtain ⟨a,vs,e1,nf,e2,r⟩:=Rep.lst_iff.mp h
  exact Rep.lst_iff.mpr ⟨a,vs,e1,by rw [hf];exact nf,e2,RepL.re hf hp (by simpa [Za3] using n) r⟩
 | .dk _,_,_,h=>by
  obtain ⟨a,e1,nf,e2⟩:=Rep.dk_iff.mp h
  exact Rep.dk_iff.mpr ⟨a,e1,by rw [hf];exact nf,e2⟩
 | .dt _,_,_,h=>by
  obtain ⟨a,o,e1,nf,e2⟩:=Rep.dt_iff.mp h
  exact Rep.dt_iff.mpr ⟨a,o,e1,by rw [hf];exact nf,e2⟩
 | .du _,_,_,h=>by
  obtain ⟨a,e1,nf,e2⟩:=Rep.du_iff.mp h
  exact Rep.du_iff.mpr ⟨a,e1,by rw [hf];exact nf,e2⟩
 | .df _,_,_,h=>by
  obtain ⟨a,o,e1,nf,e2⟩:=Rep.df_iff.mp h
  exact Rep.df_iff.mpr ⟨a,o,e1,by rw [hf];exact nf,e2⟩
 | .pen,_,_,h=>Rep.pen_iff.mpr ((Rep.pen_iff.mp h).trans hp.symm)
 | .ty _,_,_,h=>Rep.ty_iff.mpr (Rep.ty_iff.mp h)
 | .clo _ _,_,n,_=>by simp [Za3] at n
theorem RepL.re {G G':Gh} {H:Hp} (hf:G'.fp=G.fp) (hp:G'.pen=G.pen):∀{ds:List D} {vs:List V},Zbe ds=true->RepL G H ds vs->RepL G' H ds vs
 | [],_,_,h=>RepL.nil_iff.mpr (RepL.nil_iff.mp h)
 | d::ds,vs,n,h=>by
  obtain ⟨v,r,e,h1,h2⟩:=RepL.cons_iff.mp h
  have n':Za3 d=true/\Zbe ds=true:=by simpa [Zbe] using n
  exact RepL.cons_iff.mpr ⟨v,r,e,Rep.re hf hp n'.1 h1,RepL.re hf hp n'.2 h2⟩
end
theorem Gr.re {G G':Gh} {Hf H Hf' H':Hp} (hf:G'.fp=G.fp) (g:Gr G Hf H Hf' H'):Gr G' Hf H Hf' H':=
 ⟨fun b o n=>g.hh b o (by rw [<-hf];exact n),fun b o n=>g.ff b o (by rw [<-hf];exact n),fun b o n=>g.fh b o (by rw [<-hf];exact n),fun b n=>g.nw b (by rw [<-hf];exact n)⟩
theorem Ext.re {G G':Gh} {H H':Hp} (hf:G'.fp=G.fp) (g:Ext G H H'):Ext G' H H':=fun b o n=>g b o (by rw [<-hf];exact n)
theorem ZaJ.re {G G':Gh} {H Hf':Hp} {d:D} {v:V} (hf:G'.fp=G.fp) (hp:G'.pen=G.pen) (n:Za3 d=true) (h:ZaJ G H Hf' d v):ZaJ G' H Hf' d v:=fun a e m=>by
 obtain ⟨h1,h2⟩:=h a e m
 refine ⟨h1,fun ds ed=>?_⟩
 obtain ⟨vs,Hm,q1,q2,q3,q4⟩:=h2 ds ed
 subst ed
 exact ⟨vs,Hm,q1,q2,q3.re hf,q4.re hf hp (by simpa [Za3] using n)⟩
def spK (n:Nat) (G:Gh) (cvs:List V) (F:List D->M D):Sp:=fun us H Q _=>∃(Hf:Hp) (ds cds:List D) (s:Pn) (d:D) (s':Pn),us.length=n/\Ext G Hf H/\RepL G Hf ds us/\RepL G Hf cds cvs/\G.st s H/\F (ds++cds) s=some (d,s')/\
 ∀v Hf' H',Gr G Hf H Hf' H'->G.st s' H'->Rep G Hf' d v->Q v H'
def CloG (P:Program) (w:World) (K:PySem.W.Frag) (mg:Str->Option Value) (k n:Nat) (T:Nat->List D->M D) (base:Heap) (G:Gh):Prop:=
 ∀t v cvs,G.clo t v cvs->∃f fd ps,v=.ref f/\ps.length=n/\ZcG K fd ps []/\(∀s H,G.st s H->∀h:Heap,HOk P w H h->K.In h->fnφ f fd h)/\FnOk P w K mg base CX0 k f fd ps (spK n G cvs (T t))
def dApp (T:Nat->List D->M D) (i:Nat) (fs:Rho->M (List D)):Rho->M D:=fun ρ=>Zan (dVar i ρ) fun c=>Zan (fs ρ) fun ds=>match c with | .clo t cds=>T t (ds++cds) | _=>ZaB
theorem Zoz {i:Nat} {ρ:Rho} {s s':Pn} {d:D} (h:dVar i ρ s=some (d,s')):ρ[i]?=some (some d)/\s'=s:=by
 obtain ⟨e,rfl⟩:=Zbt h
 refine ⟨?_,rfl⟩
 cases q:ρ[i]? with
 | none=>rw [q] at e;cases e
 | some o=>rw [q] at e;simp at e;rw [e]
section
variable {X:Cx} {G:Gh}
theorem Zpe {T:Nat->List D->M D} {k n i:Nat} {x:Str} {p pos:Pos} {e:Expr} {es:List Expr} {fs:Rho->M (List D)} (hG:CloG X.prog X.w X.K X.mg k n T X.base G) (hr:Room k X.A) (hf:PE X (.Name x p) (tVar i)) (ha:PDA X G (e::es) fs)
  (hal:∀ρ s ds s',fs ρ s=some (ds,s')->ds.length=(e::es).length) (hlen:(e::es).length=n:=by rfl)
  (he:starEach (e::es) X.env=(false,eval e X.env)::starEach es X.env:=by rfl) (hpl:(backTo pos (starEach es X.env)).any (·.1)=false:=by rfl) :
  PD X G false (.Call (.Name x p) (e::es) [] pos) (dApp T i fs):=by
 obtain ⟨t,pa,qa⟩:=ha
 refine ⟨_,Zo7 hf hr pa he hpl,fun σ Hf H ρ s d s' Q e1 e2 e3 e4 k=>?_⟩
 obtain ⟨c,s0,b0,b1⟩:=Zai e4
 obtain ⟨a0,rfl⟩:=Zoz b0
 obtain ⟨ds,s1,a1,a2⟩:=Zai b1
 cases c with
 | clo t cds=>
  obtain ⟨v,hσ,r⟩:=e2 i _ a0
  obtain ⟨cvs,hc,rc⟩:=Rep.clo_iff.mp r
  obtain ⟨f,fd,ps,rfl,hl,hb,hat,F⟩:=hG t v cvs hc
  refine ⟨f,fd,ps,_,hσ,hb,F,hat _ H e3,qa σ Hf H ρ _ ds s1 _ e1 e2 e3 a1 fun vs Hf1 H1 g1 st1 r1=>⟨hat _ H1 st1,Hf1,ds,cds,s1,d,s',?_,g1.fh,r1,rc.ext g1.ff,st1,a2,fun v Hf2 H2 g2 st2 r2=>k v Hf2 H2 (g1.trans g2) st2 r2 (fun z=>by cases z)⟩⟩
  rw [<-r1.length,hal _ _ _ _ a1];exact hlen
 | _=>cases a2
end
def runE (n:Nat) (f:Rho->M D):List D->M D:=fun ds=>if ds.length=n then f (ds.map some) else ZaB
theorem Zrm {G:Gh} {Hf:Hp} {ds:List D} {vs:List V} (r:RepL G Hf ds vs):EnvR G Hf (vs.map some) (ds.map some):=fun i d e=>by
 rw [List.getElem?_map] at e
 cases q:ds[i]? with
 | none=>rw [q] at e;cases e
 | some d'=>
  rw [q] at e;cases e
  obtain ⟨v,h1,h2⟩:=r.get q
  exact ⟨v,by rw [List.getElem?_map,h1];rfl,h2⟩
theorem fnKE {P:Program} {w:World} {K:PySem.W.Frag} {mg:Str->Option Value} {base:Heap} {k:Nat} {f:Addr} {name qual:Str} {params:Arguments} {body:Expr} {scope:Scope} {cl:List (Str×Addr)} {pm ct:Value} {c':Addr} {N ps:List Str} {cvs:List V} {G:Gh} {fr:Bool} {fe:Rho->M D}
  (S:CloScope N ps scope) (C:CloAt base cl scope N ps cvs) (hG:∀s H,G.st s H->H f=some (.ext (fnφ f (PySem.W.kla_fn name qual params body scope cl pm (.ref c') ct)))/\H c'=some (.ext (codeφ c' qual)))
  (hb:∀(A:Around) (outer:List Env) (s:Shared) (H:Hp) (E:XK),Room k (A.deeper (PySem.W.envX qual scope s.heap.objs.size f (.ref c') cl))->PD (cxC CX0 P w K mg base N qual scope f (.ref c') cl A outer s H E).nox G fr body fe) :
  FnOk P w K mg base CX0 (k+1) f (PySem.W.kla_fn name qual params body scope cl pm (.ref c') ct) ps (spK ps.length G cvs (runE N.length fe)):=by
 refine Zrj (cvs:=cvs) S C (fun vs H Q E ⟨_,_,_,_,_,_,h,_⟩=>h) (fun vs H Q E ⟨_,_,_,s,_,_,_,_,_,_,st,_⟩=>hG s H st) fun A outer s H vs Q E hr h=>?_
 obtain ⟨Hf,ds,cds,pn,d,pn',el,e1,r1,r2,st,eF,k'⟩:=h
 obtain ⟨t,p,q⟩:=hb A outer s H E hr
 refine ⟨t,p.nox,?_⟩
 obtain ⟨hl,a0⟩:=Za7 eF
 have env:=Zrm (r1.append r2)
 rw [List.map_append] at env
 exact q _ Hf H _ pn d pn' Q e1 env st a0 fun v Hf' H' g st' r _=>k' v Hf' H' g st' r
structure TabG (P:Addr) (q:Str) (G:Gh):Prop where
 get:∀s H,G.st s H->∃ps,H P=some (.tbl ps)/\TriplesOk ps.toList/\∀pos cv,codeAmong pos ps.toList=some cv->∃c',cv=.ref c'/\H c'=some (.ext (codeφ c' q))/\¬G.fp c'
 fp:G.fp P
 put:∀s H ps (pos:Pos) c',G.st s H->H P=some (.tbl ps)->H c'=none->codeAmong pos ps.toList=none->G.st s (upd (upd H P (.tbl (ps ++ #[rawInt pos.line,rawInt pos.col,.ref c']))) c' (.ext (codeφ c' q)))
def cloG (G:Gh) (t:Nat) (p c':Addr) (fd:FuncData) (q:Str) (cvs:List V):Gh where
 fp:=G.fp
 rd:=G.rd
 pen:=G.pen
 st:=fun s H=>G.st s H/\H p=some (.ext (fnφ p fd))/\H c'=some (.ext (codeφ c' q))
 mono:=fun s H H' ⟨h1,h2,h3⟩ k1 k2=>⟨G.mono s H H' h1 k1 k2,k2 _ _ h2,k2 _ _ h3⟩
 sub:=G.sub
 dom:=fun s H b h=>G.dom s H b h.1
 ntp:=fun s H b vs h=>G.ntp s H b vs h.1
 clo:=fun t' v cs=>t'=t/\v=.ref p/\cs=cvs
def CalA (P:Program) (w:World) (K:PySem.W.Frag) (mg:Str->Option Value) (k:Nat) (x:Str) (n:Nat) (fr:Bool) (GG:Heap->Gh->Prop) (F:List D->M D):Prop:=
 ∃f fd ps,(∀base,FnOk P w K mg base CX0 k f fd ps (spD n fr (GG base) F))/\mg x=some (.ref f)/\PySem.W.keepIn K (.ref f)=true/\ZcG K fd ps []
theorem CalA.mono {P:Program} {w:World} {K:PySem.W.Frag} {mg:Str->Option Value} {j k:Nat} {x:Str} {n:Nat} {fr:Bool} {GG:Heap->Gh->Prop} {F:List D->M D} (c:CalA P w K mg j x n fr GG F) (h:j<=k:=by decide):CalA P w K mg k x n fr GG F:=
 let ⟨f,fd,ps,a,b,c,d⟩:=c
 ⟨f,fd,ps,fun base=>(a base).mono h,b,c,d⟩
structure CapS (X:Cx) (XN:List Str) (NS:List (Str×NameKind)) (N ps:List Str) (cix:List Nat) (scope:Scope):Prop where
 xn:X.N=XN
 ns:X.env.scope.names=NS
 len:N.length=ps.length+cix.length
 at_:(cix.zip (N.drop ps.length)).all (fun p=>decide (XN[p.1]?=some p.2)&&decide (NS.lookup p.2=some .cell)&&decide (scope.names.lookup p.2=some .free))=true
 free:∀y∈scope.names,y.2=.free->NS.lookup y.1=some .cell∨NS.lookup y.1=some .free
theorem CapS.hfree {X:Cx} {XN:List Str} {NS:List (Str×NameKind)} {N ps:List Str} {cix:List Nat} {scope:Scope} (B:CapS X XN NS N ps cix scope):∀y∈scope.names,y.2=.free->X.env.kindOf y.1=some .cell∨X.env.kindOf y.1=some .free:=fun y hy hf=>by
 have:=B.free y hy hf
 rw [<-B.ns] at this
 exact this
theorem CapS.cloAt {X:Cx} {XN:List Str} {NS:List (Str×NameKind)} {N ps:List Str} {cix:List Nat} {scope:Scope} {σ:St} {base':Heap} {cl:List (Str×Addr)} {cvs:List V} (B:CapS X XN NS N ps cix scope) (cs:Cells X σ base') (co:CloOf X scope cl) (hl:cvs.length=cix.length)
  (hv:∀(i j:Nat) (v:V),cix[i]?=some j->cvs[i]?=some v->σ[j]?=some (some v)):CloAt base' cl scope N ps cvs:=by
 refine ⟨fun x y c h1 h2=>cs.inj x y c (co.of x c h1) (co.of y c h2),fun x c h=>cs.cell x c (co.of x c h),fun x h=>co.has (x,.free) (PySem.mem_of_lookup h) rfl,fun i x v h1 h2=>?_,by rw [B.len,hl]⟩
 have hi:i<cix.length:=by rw [<-hl];exact (List.getElem?_eq_some_iff.mp h2).1
 have hj:cix[i]?=some cix[i]:=List.getElem?_eq_getElem hi
 have hx:(N.drop ps.length)[i]?=some x:=by rw [List.getElem?_drop];exact h1
 have q:=List.all_eq_true.mp B.at_ (cix[i],x) (List.mem_of_getElem? (i:=i) (List.getElem?_zip_eq_some.mpr ⟨hj,hx⟩))
 simp only [Bool.and_eq_true,decide_eq_true_eq] at q
 obtain ⟨⟨q1,q2⟩,q3⟩:=q
 refine ⟨q3,?_⟩
 obtain ⟨c,u,e1,e2,e3⟩:=cs.val cix[i] x v (by rw [B.xn];exact q1) (hv i _ v hj h2) (by show X.env.scope.names.lookup x=_;rw [B.ns];exact q2)
 obtain ⟨c2,e4⟩:=co.has (x,.free) (PySem.mem_of_lookup q3) rfl
 have e5:=co.of x c2 e4
 rw [e1] at e5;cases e5
 exact ⟨c,u,e4,e2,e3⟩
def ZeR (ρ:Rho):List Nat->Option (List D)
 | []=>some []
 | i::r=>((ρ[i]?).bind id).bind fun d=>(ZeR ρ r).map (d :: ·)
theorem Zhn {G:Gh} {Hf:Hp} {σ:St} {ρ:Rho} (e:EnvR G Hf σ ρ):∀{cix:List Nat} {cds:List D},ZeR ρ cix=some cds->∃cvs,cvs.length=cix.length/\RepL G Hf cds cvs/\∀(i j:Nat) (v:V),cix[i]?=some j->cvs[i]?=some v->σ[j]?=some (some v)
 | [],cds,h=>by cases h;exact ⟨[],rfl,RepL.nil_iff.mpr rfl,fun i j v h1=>by simp at h1⟩
 | a::r,cds,h=>by
  unfold ZeR at h
  cases q:(ρ[a]?).bind id with
  | none=>rw [q] at h;cases h
  | some d=>
   rw [q] at h
   cases q2:ZeR ρ r with
   | none=>rw [q2] at h;cases h
   | some ds=>
    rw [q2] at h;cases h
    obtain ⟨v,h1,h2⟩:=e a d (by
     cases q3:ρ[a]? with
     | none=>rw [q3] at q;cases q
     | some o=>rw [q3] at q;simp at q;rw [q])
    obtain ⟨cvs,l1,l2,l3⟩:=Zhn e q2
    refine ⟨v::cvs,by simp [l1],RepL.cons h2 l2,fun i j u e1 e2=>?_⟩
    cases i with
    | zero=>simp at e1 e2;subst e1;subst e2;exact h1
    | succ i=>exact l3 i j u (by simpa using e1) (by simpa using e2)
def dFnC (F:List D->M D) (t:Nat) (cix:List Nat) (f:Rho->M D):Rho->M D:=fun ρ=>Zan (f ρ) fun d=>Zan (mOf (ZeR ρ cix)) fun cds=>if (Za3 d&&Zbe cds)=true then Zan (F [d,.clo t cds]) fun c=>if Za3 c=true then mret c else ZaB else ZaB
section
variable {X:Cx} {G:Gh} {P c:Addr} {q:Str}
theorem ZlK {lpos:Pos} {ps:Array Value} {H Hm:Hp} {c':Addr} {s:Pn} (TG:TabG P q G) (st:G.st s H) (hP:H P=some (.tbl ps)) (sl:Slot P q lpos ps H Hm c'):G.st s Hm/\Hm c'=some (.ext (codeφ c' q))/\Ext G H Hm:=by
 rcases sl with ⟨rfl,h1,h2⟩ | ⟨h1,h2,h3,rfl⟩
 ·exact ⟨st,h2,.refl _ _⟩
 ·refine ⟨TG.put s H ps lpos c' st hP h2 h1,Zav,fun b o n e=>?_⟩
  rw [Zap (Zat e h2),Zap (fun z=>n (by rw [z];exact TG.fp))]
  exact e
theorem Zl4 {Hf H Hm:Hp} {p:Addr} {o:HO} (e1:Ext G Hf H) (ex:Ext G H Hm) (hp:Hm p=none):Gr G Hf H Hf (upd Hm p o):=by
 have hh:Ext G H (upd Hm p o):=fun b u n e=>by
  have:=ex b u n e
  rw [Zap (Zat this hp)];exact this
 exact ⟨hh,.refl _ _,e1.trans hh,fun _ _ h _=>h⟩
theorem ZsE {base':Heap} {k:Nat} {T:Nat->List D->M D} {t:Nat} {p c':Addr} {fd:FuncData} {cvs:List V} {ps:List Str} {F:List D->M D} (hb:ZcG X.K fd ps []) (hF:FnOk X.prog X.w X.K X.mg base' CX0 k p fd ps (spK ps.length (cloG G t p c' fd q cvs) cvs F)) (hT:T t=F) :
  CloG X.prog X.w X.K X.mg k ps.length T base' (cloG G t p c' fd q cvs):=by
 rintro t' v cs ⟨rfl,rfl,rfl⟩
 exact ⟨p,fd,ps,rfl,rfl,hb,fun s H st h ok _=>fnφ_at ok st.2.1,by rw [hT];exact hF⟩
variable {k kl:Nat} {x:Str} {fr frb:Bool} {F:List D->M D} {T:Nat->List D->M D} {t:Nat} {e1:Expr} {f1:Rho->M D} {r1:Bool} {params:Arguments} {scope:Scope} {lpos ppos pos:Pos} {XN N ps:List Str} {NS:List (Str×NameKind)} {cix:List Nat}
theorem ofC {t:Nat} {p c':Addr} {fd:FuncData} {cvs:List V} {H:Hp} {d:D} {v:V} (n:Za3 d=true) (r:Rep (cloG G t p c' fd q cvs) H d v):Rep G H d v:=Rep.re (G:=cloG G t p c' fd q cvs) (G':=G) rfl rfl n r
theorem toC {t:Nat} {p c':Addr} {fd:FuncData} {cvs:List V} {H:Hp} {d:D} {v:V} (n:Za3 d=true) (r:Rep G H d v):Rep (cloG G t p c' fd q cvs) H d v:=Rep.re (G:=G) (G':=cloG G t p c' fd q cvs) rfl rfl n r
theorem toCL {t:Nat} {p c':Addr} {fd:FuncData} {cvs:List V} {H:Hp} {d:List D} {v:List V} (n:Zbe d=true) (r:RepL G H d v):RepL (cloG G t p c' fd q cvs) H d v:=RepL.re (G:=G) (G':=cloG G t p c' fd q cvs) rfl rfl n r
theorem grC {t:Nat} {p c':Addr} {fd:FuncData} {cvs:List V} {Hf H Hf' H':Hp} (g:Gr (cloG G t p c' fd q cvs) Hf H Hf' H'):Gr G Hf H Hf' H':=Gr.re (G:=cloG G t p c' fd q cvs) (G':=G) rfl g
theorem frC {t:Nat} {p c':Addr} {fd:FuncData} {cvs:List V} {H Hf':Hp} {d:D} {v:V} (n:Za3 d=true) (h:ZaJ (cloG G t p c' fd q cvs) H Hf' d v):ZaJ G H Hf' d v:=ZaJ.re (G:=cloG G t p c' fd q cvs) (G':=G) rfl rfl n h
theorem ZhL {body:Expr} {fe:Rho->M D} (M:Mk0 X c P) (TG:TabG P q G) (hW:CalA X.prog X.w X.K X.mg k x 2 fr (CloG X.prog X.w X.K X.mg (kl+1) ps.length T) F) (hfn:∀x,X.fn x=true) (hr:Room k X.A) (hg:Gl X x) (h1:PD X G r1 e1 f1)
  (hq:X.env.qual ++ "<lambda>" = q) (S:CloScope N ps scope) (B:CapS X XN NS N ps cix scope) (hT:T t=runE N.length fe)
  (hbind:∀(cl:List (Str×Addr)) (pm cd ct:Value) (us:List Value),us.length=ps.length->bindArgs (PySem.W.kla_fn "<lambda>" q params body scope cl pm cd ct) ⟨us,[]⟩=pure (ps.zip us))
  (hb:∀(base:Heap) (f c':Addr) (cl:List (Str×Addr)) (G:Gh) (A:Around) (outer:List Env) (s:Shared) (H:Hp) (E:XK),Room kl (A.deeper (PySem.W.envX q scope s.heap.objs.size f (.ref c') cl))->PD (cxC CX0 X.prog X.w X.K X.mg base N q scope f (.ref c') cl A outer s H E).nox G frb body fe)
  (hdef:defaultsOf params X.env=([],[]):=by rfl) (hdb:(x==("__debug__" : Str))=false:=by decide)
  (he:starEach [e1,.Lambda params body scope lpos] X.env=(false,eval e1 X.env)::starEach [.Lambda params body scope lpos] X.env:=by rfl) (he2:starEach [Expr.Lambda params body scope lpos] X.env=(false,eval (.Lambda params body scope lpos) X.env)::starEach [] X.env:=by rfl)
  (hpl:(backTo pos (starEach [Expr.Lambda params body scope lpos] X.env)).any (·.1)=false:=by rfl) :
  PD X G fr (.Call (.Name x ppos) [e1,.Lambda params body scope lpos] [] pos) (dFnC F t cix f1):=by
 obtain ⟨t1,p1,q1⟩:=h1.drop
 obtain ⟨f,fd0,ps0,FN,hm,hk,hbd⟩:=hW
 refine ⟨_,Zo8 FN hfn hr hg hm hk hbd (Zbb p1 (Zbb (ZnI M hq B.hfree hdef) ZbO he2) he) hdb he hpl,fun σ Hf H ρ s d s' Q x1 x2 x3 x4 k=>?_⟩
 obtain ⟨d1,s1,a1,a2⟩:=Zai x4
 obtain ⟨cds,s2,b3,a4⟩:=Zai a2
 obtain ⟨a3,rfl⟩:=Zbt b3
 obtain ⟨hn,a5⟩:=Za7 a4
 obtain ⟨cc,s3,a6,a7⟩:=Zai a5
 obtain ⟨hn2,a8⟩:=Za7 a7
 obtain ⟨rfl,rfl⟩:=Zaq a8
 obtain ⟨hn0,hn1⟩:=Bool.and_eq_true_iff.mp hn
 refine q1 σ Hf H ρ s d1 _ _ x1 x2 x3 a1 fun v1 Hf1 H1 g1 st1 rv1=>?_
 obtain ⟨tp,hP,htr,hhit⟩:=TG.get _ H1 st1
 refine ⟨tp,hP,htr,fun cv h=>let ⟨c',z1,z2,_⟩:=hhit lpos cv h;⟨c',z1,z2⟩,fun p c' fd Hm ⟨cl,pm,ctv,co,efd⟩ sl hp=>?_⟩
 subst efd
 obtain ⟨stm,hc',ex⟩:=ZlK TG st1 hP sl
 have gr:=Zl4 (o:=.ext (fnφ p (PySem.W.kla_fn "<lambda>" q params body scope cl pm (.ref c') ctv))) g1.fh ex hp
 have hcp:c'≠p:=fun z=>by rw [z,hp] at hc';cases hc'
 obtain ⟨cvs,l1,l2,l3⟩:=Zhn (x2.ext g1.ff) a3
 intro base' cs
 have C:CloAt base' cl scope N ps cvs:=B.cloAt cs co l1 l3
 refine ⟨cloG G t p c' (PySem.W.kla_fn "<lambda>" q params body scope cl pm (.ref c') ctv) q cvs,Hf1,[d1,.clo t cds],_,d,_,ZsE (X:=X) (.all (hbind cl pm (.ref c') ctv)) (fnKE S C (fun s H st=>st.2) fun A outer s H E hr=>hb base' p c' cl _ A outer s H E hr) hT,rfl,gr.fh,?_,⟨Gh.grow stm hp,Zav,by rw [Zap hcp];exact hc'⟩,a6,fun v Hf3 H3 g3 st3 r3 fz=>?_⟩
 ·refine .cons (toC hn0 rv1) (.one (Rep.clo_iff.mpr ⟨cvs,⟨rfl,rfl,rfl⟩,toCL hn1 l2⟩))
 ·have g3':Gr G Hf1 _ Hf3 H3:=grC g3
  have gg:=(g1.trans gr).trans g3'
  have rr:Rep G Hf3 d v:=ofC hn2 r3
  refine k v Hf3 H3 gg st3.1 rr fun z=>?_
  exact ZaJ.old (g1.hh.trans gr.hh) rr.nofp (frC hn2 (fz z))
end
theorem boot_len:bootBuiltins "len" = some (.builtin "len"):=by decide +kernel
theorem boot_isinstance:bootBuiltins "isinstance" = some (.builtin "isinstance"):=by decide +kernel
theorem boot_all:bootBuiltins "all" = some (.builtin "all"):=by decide +kernel
theorem boot_max:bootBuiltins "max" = some (.builtin "max"):=by decide +kernel
theorem boot_min:bootBuiltins "min" = some (.builtin "min"):=by decide +kernel
theorem boot_sorted:bootBuiltins "sorted" = some (.builtin "sorted"):=by decide +kernel
theorem boot_tuple:bootBuiltins "tuple" = some (.type "tuple"):=by decide +kernel
theorem boot_list:bootBuiltins "list" = some (.type "list"):=by decide +kernel
theorem boot_int:bootBuiltins "int" = some (.type "int"):=by decide +kernel
theorem boot_bool:bootBuiltins "bool" = some (.type "bool"):=by decide +kernel
theorem boot_dict:bootBuiltins "dict" = some (.type "dict"):=by decide +kernel
abbrev AnyG:Gh->Prop:=fun _=>True
def stL (K:PySem.W.Frag) (p sa:Addr) (tr:Bool) (s:Pn) (H:Hp):Prop:=
 ∃a h,s.1=[a,h]/\H p=some (.lst [.ref sa,.int a,.int h])/\sa≠p/\SqL K H sa (s.2.map V.int)/\(tr=true->∃o,H sa=some o)/\(tr=false->∀H':Hp,SqL K H' sa (s.2.map V.int))
def penL (K:PySem.W.Frag) (p sa:Addr) (tr:Bool):Gh where
 fp:=fun b=>b=p
 rd:=fun b=>b=p∨(tr=true/\b=sa)
 pen:=.ref p
 st:=stL K p sa tr
 mono:=fun s H H' ⟨a,h,e0,e1,ne,sq,t1,t2⟩ k _=>by
  refine ⟨a,h,e0,k p _ (.inl rfl) e1,ne,?_,fun ht=>?_,t2⟩
  ·cases tr with
   | false=>exact t2 rfl H'
   | true=>
    rcases sq with (q | ⟨o,q⟩) | q
    ·exact .inl (.inl (k sa _ (.inr ⟨rfl,rfl⟩) q))
    ·exact .inl (.inr ⟨o,k sa _ (.inr ⟨rfl,rfl⟩) q⟩)
    ·exact .inr q
  ·obtain ⟨o,q⟩:=t1 ht
   exact ⟨o,k sa o (.inr ⟨ht,rfl⟩) q⟩
 sub:=fun b h=>.inl h
 dom:=fun s H b ⟨a,h,e0,e1,ne,sq,t1,t2⟩ hb=>by
  rcases hb with rfl | ⟨ht,rfl⟩
  ·exact ⟨_,e1⟩
  ·exact t1 ht
 ntp:=fun s H b vs ⟨a,h,e0,e1,ne,sq,t1,t2⟩ hb z=>by
  rw [hb,e1] at z;cases z
def PenK (K:PySem.W.Frag):Gh->Prop:=fun G=>∃p sa tr,G=penL K p sa tr
def Zh8 (ns:List Int) (a:Int):Int:=if a<ns.length then ns.getD a.toNat 0 else if 0<ns.length then ns.getD (a*7 % ns.length).toNat 0 % 1000003+a*1000003 else 0
def ZdG (c a:Int):Int:=
 if 10 ^ 18<=c then c else
  let x:=(c % 2147483647*48271+a*69621+11) % 2147483629
  let y:=(x*x+48271*x+a) % 2147483587
  y*2147483579+(y*y+69621*a) % 2147483579
def Zb7 (m a h:Int) (ns:List Int):Int×Int:=if h<m then (a+1,ZdG (Zh8 ns a) a) else (a,h)
def ZbL:List D->M D:=fun ds s=>match ds,s with
 | [.pen,.int m],([a,h],ns)=>if 0<m/\m<1073741824/\0<=a then some (.int ((Zb7 m a h ns).2 % m),([(Zb7 m a h ns).1,(Zb7 m a h ns).2 / m],ns)) else none
 | _,_=>none
def okPn (s:Pn):Prop:=∃a h,s.1=[a,h]/\0<=a/\0<=h
theorem ZpJ (c a:Int) (ha:0<=a):0<=ZdG c a:=by
 unfold ZdG
 split
 ·have:(0:Int)<=10 ^ 18:=by decide
  omega
 ·dsimp only
  have h2:=Int.emod_nonneg (((c % 2147483647*48271+a*69621+11) % 2147483629)*((c % 2147483647*48271+a*69621+11) % 2147483629)+48271*((c % 2147483647*48271+a*69621+11) % 2147483629)+a) (show (2147483587:Int)≠0 by decide)
  generalize hy:(((c % 2147483647*48271+a*69621+11) % 2147483629)*((c % 2147483647*48271+a*69621+11) % 2147483629)+48271*((c % 2147483647*48271+a*69621+11) % 2147483629)+a) % 2147483587=y at h2 ⊢
  have h3:=Int.emod_nonneg (y*y+69621*a) (show (2147483579:Int)≠0 by decide)
  omega
theorem ZqZ {m:Int} {s:Pn} (ok:okPn s) (h1:0<m) (h2:m<1073741824):∃r s',ZbL [.pen,.int m] s=some (.int r,s')/\0<=r/\r<m/\okPn s':=by
 obtain ⟨a,h,e,ha,hh⟩:=ok
 obtain ⟨l,ns⟩:=s
 simp only at e
 subst e
 refine ⟨(Zb7 m a h ns).2 % m,([(Zb7 m a h ns).1,(Zb7 m a h ns).2 / m],ns),?_,Int.emod_nonneg _ (by omega),Int.emod_lt_of_pos _ h1,⟨_,_,rfl,?_,?_⟩⟩
 ·show (if 0<m/\m<1073741824/\0<=a then _ else _)=_
  rw [if_pos ⟨h1,h2,ha⟩]
 ·unfold Zb7
  split
  ·show 0<=a+1
   omega
  ·exact ha
 ·have:0<=(Zb7 m a h ns).2:=by
   unfold Zb7
   split
   ·exact ZpJ _ _ ha
   ·exact hh
  exact Int.ediv_nonneg this (by omega)
def Zm2 (G:Gh) (ob own own':List Nat) (fr:Bool) (g:Rho->M Out):TS:=fun E σ H=>∃kn Hf0 H0 ρ s out s',J G own kn Hf0 H0 σ H ρ/\G.st s H/\g ρ s=some (out,s')/\Post G ob own' kn Hf0 H0 fr out s' E
def ZsO (K:PySem.W.Frag) (t:TA):TE:=fun σ H Q=>t σ H fun xs H1=>xs.length<=sizeLine/\∀p,H1 p=none->K.lookup p=none->Q (.ref p) (upd H1 p (.lst xs))
theorem ZqC {X:Cx} {es:List Expr} {t:TA} {pos:Pos} (h:PA X es t):PE X (.List es pos) (ZsO X.K t):=by
 intro pins s σ H Q I hq
 refine wpAny_List_spliced (thn (h pos pins s σ H _ I hq) fun us s1 ⟨xs,H1,I1,r,z,q⟩=>⟨by rw [<-r.length];exact z,?_⟩)
 have hf:H1 s1.heap.objs.size=none:=I1.hok.fresh (Nat.le_refl _)
 have hk:X.K.lookup s1.heap.objs.size=none:=by
  cases e:X.K.lookup s1.heap.objs.size with
  | none=>rfl
  | some o=>
   have:=I1.kIn _ _ e
   rw [Heap.get?_none_of_le (Nat.le_refl _)] at this;cases this
 refine ⟨.ref s1.heap.objs.size,upd H1 s1.heap.objs.size (.lst xs),I1.laid (t':=s1.toks) (fun b u e=>Heap.get?_push_of_some _ e) (Nat.le_refl _) ?_,rfl,q _ hf hk⟩
 exact ⟨z,us,0,r,Heap.get?_push_size _ rfl⟩
end TF
namespace TF
open PySem L2
def Ok {α:Type} (m:M α) (s:Pn) (Q:α->Pn->Prop):Prop:=∃a s',m s=some (a,s')/\Q a s'
theorem Ok.bind {α β:Type} {m:M α} {k:α->M β} {s:Pn} {Q:β->Pn->Prop} (h:Ok m s fun a s1=>Ok (k a) s1 Q):Ok (Zan m k) s Q:=by
 obtain ⟨a,s1,e,b,s2,e2,q⟩:=h
 exact ⟨b,s2,by unfold Zan;rw [e];exact e2,q⟩
theorem Ok.ret {α:Type} {a:α} {s:Pn} {Q:α->Pn->Prop} (h:Q a s):Ok (mret a) s Q:=⟨a,s,rfl,h⟩
theorem Ok.eq {α:Type} {m:M α} {s s':Pn} {a:α} {Q:α->Pn->Prop} (e:m s=some (a,s')) (h:Q a s'):Ok m s Q:=⟨a,s',e,h⟩
theorem Ok.mono {α:Type} {m:M α} {s:Pn} {Q Q':α->Pn->Prop} (h:Ok m s Q) (k:∀a s',Q a s'->Q' a s'):Ok m s Q':=let ⟨a,s',e,q⟩:=h;⟨a,s',e,k a s' q⟩
theorem Ok.of {α:Type} {o:Option α} {a:α} {s:Pn} {Q:α->Pn->Prop} (e:o=some a) (h:Q a s):Ok (mOf o) s Q:=⟨a,s,by unfold mOf;rw [e],h⟩
theorem Ok.ite {α:Type} {c:Prop} [Decidable c] {m:M α} {s:Pn} {Q:α->Pn->Prop} (hc:c) (h:Ok m s Q):Ok (if c then m else ZaB) s Q:=by rw [if_pos hc];exact h
section
variable {ρ:Rho} {s:Pn} {Q:Out->Pn->Prop} {f:Rho->M D} {g1 g2:Rho->M Out}
theorem Ok.seq (h:Ok (g1 ρ) s fun o s1=>match o with | .nx ρ'=>Ok (g2 ρ') s1 Q | .rt d=>Q (.rt d) s1 | .bk ρ'=>Q (.bk ρ') s1 | .ct ρ'=>Q (.ct ρ') s1):Ok (sSeq g1 g2 ρ) s Q:=by
 refine Ok.bind (h.mono fun o s1 q=>?_)
 cases o with
 | nx ρ'=>exact q
 | rt d=>exact .ret q
 | bk ρ'=>exact .ret q
 | ct ρ'=>exact .ret q
theorem Ok.next (h:Q (.nx ρ) s):Ok (Zam ρ) s Q:=.ret h
theorem Ok.sset {i:Nat} (h:Ok (f ρ) s fun d s1=>Q (.nx (ρ.set i (some d))) s1):Ok (sSet i f ρ) s Q:=.bind (h.mono fun _ _ q=>.ret q)
theorem Ok.sown {i:Nat} (h:Ok (f ρ) s fun d s1=>Zgc d=true/\Q (.nx (ρ.set i (some d))) s1):Ok (sOwn i f ρ) s Q:=.bind (h.mono fun _ _ q=>.ite q.1 (.ret q.2))
theorem Ok.sret (h:Ok (f ρ) s fun d s1=>Q (.rt d) s1):Ok (sRet f ρ) s Q:=.bind (h.mono fun _ _ q=>.ret q)
theorem Ok.sif {c:Rho->M Bool} (h:Ok (c ρ) s fun b s1=>if b=true then Ok (g1 ρ) s1 Q else Ok (g2 ρ) s1 Q):Ok (sIf c g1 g2 ρ) s Q:=by
 refine .bind (h.mono fun b s1 q=>?_)
 cases b with
 | true=>simpa using q
 | false=>simpa using q
theorem Ok.sapp {i:Nat} {ds:List D} (hi:(ρ[i]?).bind id=some (.lst ds)) (hl:ds.length<sizeLine) (h:Ok (f ρ) s fun d s1=>Q (.nx (ρ.set i (some (.lst (ds ++ [d]))))) s1):Ok (sApp i f ρ) s Q:=by
 refine .bind (h.mono fun d s1 q=>?_)
 simp only [hi]
 exact .ite hl (.ret q)
theorem Ok.spar {i j:Nat} {fs:Rho->M (List D)} (h:Ok (fs ρ) s fun ds s1=>∃a b,ds=[a,b]/\ZbS a=true/\ZbS b=true/\Q (.nx ((ρ.set i (some a)).set j (some b))) s1):Ok (sPar i j fs ρ) s Q:=by
 refine .bind (h.mono fun d s1 q=>?_)
 obtain ⟨a,b,rfl,n1,n2,q⟩:=q
 exact .ite (by simp [n1,n2]) (.ret q)
theorem Ok.loop {τ:D->Rho->Option Rho} {body:Rho->M Out} (I:Nat->Rho->Pn->Prop):∀(ds:List D) (k:Nat) (ρ:Rho) (s:Pn),I k ρ s->
  (∀i d ρ s,ds[i]?=some d->I (k+i) ρ s->∃ρ1,τ d ρ=some ρ1/\Ok (body ρ1) s fun o s'=>∃ρ',o=.nx ρ'/\I (k+i+1) ρ' s')->Ok (mFor τ body ds ρ) s fun o s'=>∃ρ',o=.nx ρ'/\I (k+ds.length) ρ' s'
 | [],k,ρ,s,h0,_=>.ret ⟨ρ,rfl,h0⟩
 | d::ds,k,ρ,s,h0,h=>by
  obtain ⟨ρ1,e1,ok⟩:=h 0 d ρ s rfl h0
  refine Ok.bind (.of e1 (.bind (ok.mono fun o s' q=>?_)))
  obtain ⟨ρ',rfl,q⟩:=q
  refine (Ok.loop I ds (k+1) ρ' s' q fun i d' ρ2 s2 e2 q2=>?_).mono fun o s2 q2=>?_
  ·have:=h (i+1) d' ρ2 s2 (by simpa using e2) (by rw [show k+(i+1)=k+1+i by omega];exact q2)
   rw [show k+(i+1)+1=k+1+i+1 by omega] at this
   exact this
  ·rw [show k+(d::ds).length=k+1+ds.length by simp;omega]
   exact q2
theorem Ok.sfor {fi:Rho->M (List D)} {τ:D->Rho->Option Rho} {body:Rho->M Out} (I:Nat->Rho->Pn->Prop) (h:Ok (fi ρ) s fun ds s1=>I 0 ρ s1/\(∀i d ρ s,ds[i]?=some d->I i ρ s->∃ρ1,τ d ρ=some ρ1/\Ok (body ρ1) s fun o s'=>∃ρ',o=.nx ρ'/\I (i+1) ρ' s')/\
  ∀ρ' s',I ds.length ρ' s'->Q (.nx ρ') s'):Ok (sFor fi τ body ρ) s Q:=by
 refine .bind (h.mono fun ds s1 q=>?_)
 obtain ⟨q0,q1,q2⟩:=q
 refine (Ok.loop I ds 0 ρ s1 q0 fun i d ρ s e=>?_).mono fun o s' q=>?_
 ·rw [Nat.zero_add];exact q1 i d ρ s e
 ·obtain ⟨ρ',rfl,q⟩:=q
  rw [Nat.zero_add] at q
  exact q2 ρ' s' q
end
section
variable {ρ ρ':Rho} {s s1 s2:Pn} {f f2:Rho->M D} {g1 g2:Rho->M Out} {d e c:D} {r:Option (Out×Pn)}
theorem ZaN {n k:Nat} {g:Rho->M Out} {ds:List D} (hl:ds.length=k) (h:g (ds.map some++List.replicate (n-k) none) s=some (.rt d,s1)):runB n k g ds s=some (d,s1):=by
 unfold runB
 rw [if_pos hl]
 unfold Zan
 rw [h]
 rfl
theorem ZaM (h:f ρ s=some (d,s1)):sRet f ρ s=some (.rt d,s1):=by unfold sRet Zan;rw [h];rfl
theorem ZaE (h:g1 ρ s=some (.rt d,s1)):sSeq g1 g2 ρ s=some (.rt d,s1):=by unfold sSeq Zan;rw [h];rfl
theorem Zbh (h:g1 ρ s=some (.nx ρ',s1)) (h2:g2 ρ' s1=r):sSeq g1 g2 ρ s=r:=by unfold sSeq Zan;rw [h];exact h2
theorem Zb2 {i:Nat} (h:f ρ s=some (d,s1)):sSet i f ρ s=some (.nx (ρ.set i (some d)),s1):=by unfold sSet Zan;rw [h];rfl
theorem Zah {g:D->D->Option D} (h1:f ρ s=some (d,s1)) (h2:f2 ρ s1=some (e,s2)) (h:g d e=some c):dOp g f f2 ρ s=some (c,s2):=by
 unfold dOp Zan;rw [h1];simp only;rw [h2];simp only;unfold mOf;rw [h]
theorem ZaR {g:List D->Option D} {fs:Rho->M (List D)} {ds:List D} (h1:fs ρ s=some (ds,s1)) (h:g ds=some c):ZaD g fs ρ s=some (c,s1):=by
 unfold ZaD Zan;rw [h1];simp only;unfold mOf;rw [h]
theorem Zax {F:List D->M D} {fs:Rho->M (List D)} {ds:List D} {q:Option (D×Pn)} (h1:fs ρ s=some (ds,s1)) (h:F ds s1=q):dFn F fs ρ s=q:=by
 unfold dFn Zan;rw [h1];exact h
theorem Zad {fs:Rho->M (List D)} {ds:List D} (h1:f ρ s=some (d,s1)) (h2:fs ρ s1=some (ds,s2)):Zac f fs ρ s=some (d::ds,s2):=by
 unfold Zac Zan;rw [h1];simp only;rw [h2];rfl
theorem ZbN {fs:Rho->M (List D)} {ds:List D} (h1:fs ρ s=some (ds,s1)) (hl:ds.length<=sizeLine):dTup fs ρ s=some (.tup ds,s1):=by
 unfold dTup Zan;rw [h1];simp only;rw [if_pos hl];rfl
theorem Zf8 {fs:Rho->M (List D)} {ds:List D} (h1:fs ρ s=some (ds,s1)) (hl:ds.length<=sizeLine):dLst fs ρ s=some (.lst ds,s1):=by
 unfold dLst Zan;rw [h1];simp only;rw [if_pos hl];rfl
theorem ZaC {b:Bool} (h:f ρ s=some (.bl b,s1)):asB f ρ s=some (b,s1):=by unfold asB Zan;rw [h];rfl
theorem ZdQ {fb:Rho->M Bool} {b:Bool} (h:fb ρ s=some (b,s1)):bNot fb ρ s=some (!b,s1):=by unfold bNot Zan;rw [h];rfl
end
theorem Zjh {τ:D->Rho->Option Rho} {ft:Rho->M Bool} {fe:Rho->M D} {ρ:Rho} {s:Pn} (r:D->Rho) (b:D->Bool) (c:D->D):∀(ds:List D),(∀d∈ds,τ d ρ=some (r d)/\ft (r d) s=some (b d,s)/\(b d=true->fe (r d) s=some (c d,s)))->
  ZdV τ ft fe ρ ds s=some ((ds.filter b).map c,s)
 | [],_=>rfl
 | d::ds,h=>by
  obtain ⟨h1,h2,h3⟩:=h d (by simp)
  have ih:=Zjh r b c ds fun d' m=>h d' (by simp [m])
  unfold ZdV
  simp only [Zan,mOf,h1,h2]
  cases hb:b d with
  | true=>simp [Zan,h3 hb,ih,hb,mret]
  | false=>simp [ih,hb]
theorem Zh7 {τ:D->Rho->Option Rho} {fe:Rho->M D} {ρ:Rho} (P:D->Prop) (I:Pn->Prop):∀(ds:List D) (s:Pn),I s->(∀d∈ds,∀s,I s->∃ρ1,τ d ρ=some ρ1/\Ok (fe ρ1) s fun c s'=>P c/\I s')->
  Ok (ZdV τ ZaZ fe ρ ds) s fun r s'=>r.length=ds.length/\(∀c∈r,P c)/\I s'
 | [],s,hs,_=>.ret ⟨rfl,by simp,hs⟩
 | d::ds,s,hs,h=>by
  obtain ⟨ρ1,e1,ok⟩:=h d (by simp) s hs
  unfold ZdV
  refine .bind (.of e1 (.bind (.ret ?_)))
  refine .bind (ok.mono fun c s1 q=>.bind ((Zh7 P I ds s1 q.2 fun d' m=>h d' (by simp [m])).mono fun r s2 q2=>.ret ⟨by simp [q2.1],?_,q2.2.2⟩))
  intro x hx
  rcases List.mem_cons.mp hx with e | hx
  ·subst e;exact q.1
  ·exact q2.2.1 x hx
end TF
namespace TP
open PySem L2 TF
def ZmS:Rho->M Out:=(sSeq (sOwn 1 (dLst dNil))
 (sSeq (sFor (ZaU (ZaD dLen (Zac (dVar 0) dNil))) (gOne 2)
 (sSeq (sFor (Zfg (dOp dAdd (dVar 2) (dC (.int 1))) (ZaD dLen (Zac (dVar 0) dNil))) (gOne 3)
 (sSeq (sApp 1 (fun ρ=>(dTup (Zac (dOp dIx (dVar 0) (dVar 2)) (Zac (dOp dIx (dVar 0) (dVar 3)) dNil))) (hide [1] ρ)))
 Zam))
 Zam))
 (sSeq (sRet (dVar 1))
 Zam)))
def Zc0:List D->M D:=runB 4 1 ZmS
def ZfC:Rho->M Out:=(sSeq (sRet (dOp dIn (dTup (Zac (ZaD Zh3 (Zac (dVar 1) (Zac (dVar 2) dNil))) (Zac (ZaD ZfF (Zac (dVar 1) (Zac (dVar 2) dNil))) dNil))) (dVar 0)))
 Zam)
def Za5:List D->M D:=runB 3 3 ZfC
def Zsp:Rho->M Out:=(sSeq (sRet (ZaP [none,some 0,some 1] (ZaU (dOp dIx (dVar 0) (dC (.int 0)))) (gOne 0) (asB (dFn Za5 (Zac (dOp dIx (dVar 1) (dC (.int 1))) (Zac (dVar 2) (Zac (dVar 0) dNil))))) (dVar 0)))
 Zam)
def Zcn:List D->M D:=runB 2 2 Zsp
def ZjB:Rho->M Out:=(sSeq (sRet (ZaD ZoB (Zac (ZaP [none] (Zdk (dOp dIx (dVar 0) (dC (.int 1)))) (gOne 0) ZaZ (dTup (Zac (dVar 0) (Zac (dC (.bl true)) dNil)))) dNil)))
 Zam)
def Zbg:List D->M D:=runB 1 1 ZjB
def ZeZ:Rho->M Out:=(sSeq (sIf (asB (dOp dGe (dVar 0) (dOp dPow (dC (.int 10)) (dC (.int 18)))))
 (sSeq (sRet (dVar 0))
 Zam)
 Zam)
 (sSeq (sSet 2 (dOp dMod (dOp dAdd (dOp dAdd (dOp dMul (dOp dMod (dVar 0) (dC (.int 2147483647))) (dC (.int 48271))) (dOp dMul (dVar 1) (dC (.int 69621)))) (dC (.int 11))) (dC (.int 2147483629))))
 (sSeq (sSet 2 (dOp dMod (dOp dAdd (dOp dAdd (dOp dMul (dVar 2) (dVar 2)) (dOp dMul (dC (.int 48271)) (dVar 2))) (dVar 1)) (dC (.int 2147483587))))
 (sSeq (sRet (dOp dAdd (dOp dMul (dVar 2) (dC (.int 2147483579))) (dOp dMod (dOp dAdd (dOp dMul (dVar 2) (dVar 2)) (dOp dMul (dC (.int 69621)) (dVar 1))) (dC (.int 2147483579)))))
 Zam))))
def Zb0:List D->M D:=runB 3 2 ZeZ
def ZmY:Rho->M Out:=(sSeq (sSet 2 (dFn ZbL (Zac (dVar 0) (Zac (dOp dAdd (dVar 1) (dC (.int 1))) dNil))))
 (sSeq (sPar 3 4 (Zac (dFn ZbL (Zac (dVar 0) (Zac (dC (.int 4)) dNil))) (Zac (dOp dAdd (dC (.int 1)) (dFn ZbL (Zac (dVar 0) (Zac (dC (.int 3)) dNil)))) dNil)))
 (sSeq (sSet 5 (ZaP [none,some 0] (ZaU (dVar 2)) (gOne 0) ZaZ (dFn ZbL (Zac (dVar 1) (Zac (dC (.int 2)) dNil)))))
 (sSeq (sOwn 6 (dLst dNil))
 (sSeq (sFor (ZaU (dVar 2)) (gOne 7)
 (sSeq (sFor (Zfg (dOp dAdd (dVar 7) (dC (.int 1))) (dVar 2)) (gOne 8)
 (sSeq (sSet 9 (fun ρ=>(dOp dLt (dFn ZbL (Zac (dVar 0) (Zac (dC (.int 4)) dNil))) (dVar 4)) (hide [6] ρ)))
 (sSeq (sIf (bAnd (asB (dOp dEqO (dVar 3) (dC (.int 0)))) (bAnd (asB (dOp dEqO (dOp dIx (dVar 5) (dVar 7)) (dC (.int 1)))) (asB (dOp dEqO (dOp dIx (dVar 5) (dVar 8)) (dC (.int 1))))))
 (sSeq (sSet 9 (fun ρ=>(dC (.bl true)) (hide [6] ρ)))
 Zam)
 Zam)
 (sSeq (sIf (asB (dOp dEqO (dVar 3) (dC (.int 1))))
 (sSeq (sSet 9 (fun ρ=>(vOr (dOp dEqO (dOp dSub (dVar 8) (dVar 7)) (dC (.int 1))) (dOp dEqO (dOp dSub (dVar 8) (dVar 7)) (dOp dSub (dVar 2) (dC (.int 1))))) (hide [6] ρ)))
 Zam)
 Zam)
 (sSeq (sIf (asB (dVar 9))
 (sSeq (sApp 6 (fun ρ=>(dTup (Zac (dVar 7) (Zac (dVar 8) dNil))) (hide [6] ρ)))
 Zam)
 Zam)
 Zam)))))
 Zam))
 (sSeq (sRet (dTup (Zac (dVar 2) (Zac (ZaD ZeC (Zac (dVar 6) dNil)) dNil))))
 Zam))))))
def Zc2:List D->M D:=runB 10 2 ZmY
def ZjC:Rho->M Out:=(sSeq (sRet (vAnd (ZaD dIsi (Zac (dVar 0) (Zac (dC (.ty "tuple")) dNil))) (dOp dEqO (ZaD dLen (Zac (dVar 0) dNil)) (dVar 1))))
 Zam)
def Zba:List D->M D:=runB 2 2 ZjC
def ZmU:Rho->M Out:=(sSeq (sRet (vAnd (ZaD dIsi (Zac (dVar 0) (Zac (dC (.ty "int")) dNil))) (vNot (ZaD dIsi (Zac (dVar 0) (Zac (dC (.ty "bool")) dNil))))))
 Zam)
def Zc1:List D->M D:=runB 1 1 ZmU
def ZmV:Rho->M Out:=(sSeq (sRet (vAnd (dFn Zc1 (Zac (dVar 1) dNil)) (vAnd (dOp dLe (dC (.int 0)) (dVar 1)) (dOp dLt (dVar 1) (dVar 0)))))
 Zam)
def ZbW:List D->M D:=runB 2 2 ZmV
end TP
namespace TP
open PySem L2 TF
local macro_rules | `(tactic| walk_at "ev")=>`(tactic| simp [runB,sSeq,sRet,sSet,Zam,sIf,asB,dOp,ZaD,Zac,dNil,dTup,dLst,dVar,dC,dFn,Zan,mret,mOf,dAdd,dSub,dI,hide,ZbD,vOr,vAnd,vNot,bAnd,bOr,bNot])
def Zaw (p:Nat×Nat):D:=.tup [.int p.1,.int p.2]
def webD (n:Nat) (ties:List (Nat×Nat)):D:=.tup [.int n,.tup (ties.map Zaw)]
def tied (ties:List (Nat×Nat)) (a b:Nat):Bool:=decide ((min a b,max a b)∈ties)
theorem ZpP (p q:Nat×Nat):dEq (Zaw p) (Zaw q)=decide (p=q):=by
 obtain ⟨a,b⟩:=p
 obtain ⟨c,d⟩:=q
 simp only [Zaw,dEq,dEqs,Bool.and_true]
 by_cases h1:a=c
 ·by_cases h2:b=d
  ·subst h1 h2;simp
  ·have:((b:Int)==(d:Int))=false:=by simp;omega
   simp [this,h2]
 ·have:((a:Int)==(c:Int))=false:=by simp;omega
  simp [this,h1]
theorem Zok (p:Nat×Nat) (ties:List (Nat×Nat)):inD (Zaw p) (ties.map Zaw)=decide (p∈ties):=by
 unfold inD
 induction ties with
 | nil=>simp
 | cons t ts ih=>
  rw [List.map_cons,List.any_cons,ih,ZpP]
  by_cases h:t=p
  ·subst h;simp
  ·have:¬p=t:=fun z=>h z.symm
   simp [h,this]
theorem ZeV:∀ties:List (Nat×Nat),ZaS (ties.map Zaw)=true
 | []=>by simp [ZaS]
 | t::ts=>by simp [ZaS,Zaw,Zak,ZeV ts]
theorem ZfE:∀ties:List (Nat×Nat),deps (ties.map Zaw)<=1
 | []=>by simp [deps]
 | t::ts=>by
  have:=ZfE ts
  simp only [List.map_cons,deps,Zaw,dep]
  omega
theorem ZpN (p:Nat×Nat):dep (Zaw p)=1:=by simp [Zaw,dep,deps]
theorem Zmx (p:Nat×Nat):Zak (Zaw p)=true:=by simp [Zaw,Zak,ZaS]
theorem ZmJ (p:Nat×Nat) (ties:List (Nat×Nat)):okIn (Zaw p) (ties.map Zaw)=true:=by
 have:=ZfE ties
 simp [okIn,Zmx,ZeV,ZpN]
 omega
theorem ZoA (p:Nat×Nat) (ties:List (Nat×Nat)):dIn (Zaw p) (.tup (ties.map Zaw))=some (.bl (decide (p∈ties))):=by
 have:dInB (Zaw p) (.tup (ties.map Zaw))=some (decide (p∈ties)):=by
  show (if okIn (Zaw p) (ties.map Zaw)=true then some (inD (Zaw p) (ties.map Zaw)) else none)=_
  rw [if_pos (ZmJ p ties),Zok]
 unfold dIn
 rw [this]
 rfl
theorem Zse (a b:Nat):(if (b:Int) > a then (b:Int) else a)=((max a b:Nat):Int):=by split <;> omega
theorem Zdm {α:Type} (x:α) (xs:List α):atI (x::xs) 0=some x:=ZbJ (j:=0) rfl
theorem ZdY {α:Type} (x y:α) (xs:List α):atI (x::y::xs) 1=some y:=ZbJ (j:=1) rfl
theorem Zc5:2<=sizeLine:=by decide
theorem ZhR (a b:Nat):D.tup [.int (if b<a then (b:Int) else a),.int (if a<b then (b:Int) else a)]=Zaw (min a b,max a b):=by
 unfold Zaw
 congr 2
 ·congr 1;split <;> omega
 ·congr 2;split <;> omega
theorem ZlE (ties:List (Nat×Nat)) (a b:Nat) (s:Pn):Za5 [.tup (ties.map Zaw),.int a,.int b] s=some (.bl (tied ties a b),s):=by
 simp [Za5,ZfC,runB,sSeq,sRet,Zam,dOp,ZaD,Zac,dNil,dTup,dVar,Zan,mret,mOf,Zh3,ZfF,Zc5,ZhR,ZoA,tied]
theorem Zbc {src:List (Option Nat)} {fi:Rho->M (List D)} {τ:D->Rho->Option Rho} {ft:Rho->M Bool} {fe:Rho->M D} {ρ:Rho} {s:Pn} {ds:List D} (r:D->Rho) (b:D->Bool) (c:D->D) (hi:fi ρ s=some (ds,s)) (hl:ds.length<=sizeLine)
  (h:∀d∈ds,τ d (ZbD src ρ)=some (r d)/\ft (r d) s=some (b d,s)/\(b d=true->fe (r d) s=some (c d,s))):ZaP src fi τ ft fe ρ s=some (.lst ((ds.filter b).map c),s):=by
 unfold ZaP
 simp only [Zan,hi,hl,if_true,Zjh r b c ds h,mret]
theorem Znv (n:Nat) (h:n<=100000):-(2 ^ 62)<=(n:Int)/\(n:Int)<2 ^ 62:=by omega
theorem ZaG:sizeLine=16777216:=by decide
theorem Zbd {f:Rho->M D} {ρ:Rho} {s:Pn} {n:Nat} (h:f ρ s=some (.int n,s)) (hn:n<=100000):ZaU f ρ s=some (ZaH 0 n,s):=by
 unfold ZaU
 simp only [Zan,h]
 show (if -(2 ^ 62)<=(n:Int)/\(n:Int)<2 ^ 62 then mret (ZaH 0 (n:Int).toNat) else ZaB) s=_
 rw [if_pos (Znv n hn)]
 rfl
theorem Zjg {f g:Rho->M D} {ρ:Rho} {s:Pn} {a n:Nat} (h:f ρ s=some (.int a,s)) (h2:g ρ s=some (.int n,s)) (ha:a<=100000) (hn:n<=100000):Zfg f g ρ s=some (ZaH a (n-a),s):=by
 unfold Zfg
 simp only [Zan,h,h2]
 show (if -(2 ^ 62)<=(a:Int)/\(a:Int)<2 ^ 62/\-(2 ^ 62)<=(n:Int)/\(n:Int)<2 ^ 62 then mret (ZaH a ((n:Int)-a).toNat) else ZaB) s=_
 rw [if_pos (by omega),show ((n:Int)-(a:Int)).toNat=n-a by omega]
 rfl
theorem Za8 (lo:Int) (n:Nat):(ZaH lo n).length=n:=by simp [ZaH]
theorem Zef {lo n i:Nat} {d:D} (h:(ZaH lo n)[i]?=some d):i<n/\d=.int ((lo+i:Nat):Int):=by
 have hi:i<n:=by
  have:=(List.getElem?_eq_some_iff.mp h).1
  simpa [ZaH] using this
 refine ⟨hi,?_⟩
 unfold ZaH at h
 rw [List.getElem?_map,List.getElem?_range hi] at h
 simp at h
 rw [<-h];simp
theorem Zct {n:Nat} {d:D} (h:d∈ZaH 0 n):∃i:Nat,i<n/\d=.int (i:Int):=by
 unfold ZaH at h
 obtain ⟨i,hi,e⟩:=List.mem_map.mp h
 exact ⟨i,by simpa using hi,by rw [<-e];simp⟩
theorem ZcB (n:Nat):ZaH 0 n=(List.range n).map fun (i:Nat)=>D.int (i:Int):=by
 unfold ZaH
 simp
def nat0:D->Nat
 | .int i=>i.toNat
 | _=>0
theorem Ze0 (n:Nat) (p:Nat->Bool):((ZaH 0 n).filter fun d=>p (nat0 d)).map (fun d=>d)=((List.range n).filter p).map fun (i:Nat)=>D.int (i:Int):=by
 rw [ZcB,List.filter_map]
 simp only [List.map_id']
 congr 1
end TP
namespace TP
open PySem L2 TF
theorem Ok.toEq {α:Type} {m:M α} {s s':Pn} {a:α} (h:Ok m s fun b t=>b=a/\t=s'):m s=some (a,s'):=by
 obtain ⟨b,t,e,rfl,rfl⟩:=h
 exact e
theorem Zeg {n:Nat} (hn:n<=100000):(ZaH 0 n).length<=sizeLine:=by rw [Za8,ZaG];omega
theorem Zsb (n:Nat) (ties:List (Nat×Nat)) (p:Nat) (s:Pn) (hn:n<=100000):ZaP [none,some 0,some 1] (ZaU (dOp dIx (dVar 0) (dC (.int 0)))) (gOne 0) (asB (dFn Za5 (Zac (dOp dIx (dVar 1) (dC (.int 1))) (Zac (dVar 2) (Zac (dVar 0) dNil))))) (dVar 0) [some (webD n ties),some (.int p)] s
   = some (.lst (((List.range n).filter fun o=>tied ties p o).map fun (i:Nat)=>D.int (i:Int)),s):=by
 rw [<-Ze0]
 refine Zbc (ds:=ZaH 0 n) (fun d=>[some d,some (webD n ties),some (.int p)]) (fun d=>tied ties p (nat0 d)) (fun d=>d) (Zbd (Zah (d:=webD n ties) (e:=.int 0) rfl rfl (by unfold webD;exact Zdm _ _)) hn) (Zeg hn) ?_
 intro d hd
 obtain ⟨i,hi,rfl⟩:=Zct hd
 refine ⟨rfl,ZaC (Zax (Zad (Zah (d:=webD n ties) (e:=.int 1) rfl rfl (by unfold webD;exact ZdY _ _ _)) (Zad rfl (Zad rfl rfl))) ?_),fun _=>rfl⟩
 exact ZlE ties p i s
theorem Zq0 (n:Nat) (ties:List (Nat×Nat)) (p:Nat) (s:Pn) (hn:n<=100000):Zcn [webD n ties,.int p] s=some (.lst (((List.range n).filter fun o=>tied ties p o).map fun (i:Nat)=>D.int (i:Int)),s):=
 ZaN rfl (ZaE (ZaM (Zsb n ties p s hn)))
def SeqD (row:D) (ds:List D):Prop:=row=.lst ds∨row=.tup ds
theorem SeqD.len {row:D} {ds:List D} (h:SeqD row ds):dLen [row]=some (.int ds.length):=by
 rcases h with rfl | rfl <;> rfl
theorem SeqD.ix {row:D} {ds:List D} (h:SeqD row ds) {i:Nat} (hi:i<ds.length):dIx row (.int (i:Int))=some (ds.getD i .non):=by
 have e:ds[i]?=some (ds.getD i .non):=by simp [List.getD,hi]
 rcases h with rfl | rfl <;> exact ZbJ e
def preP (n i:Nat):List (Nat×Nat):=(List.range i).flatMap fun a=>(List.range (n-(a+1))).map fun k=>(a,a+1+k)
def allP (n:Nat):List (Nat×Nat):=preP n n
theorem ZfX (n i:Nat):preP n (i+1)=preP n i++(List.range (n-(i+1))).map fun k=>(i,i+1+k):=by
 unfold preP
 rw [List.range_succ,List.flatMap_append]
 simp
theorem Zfu (n:Nat):∀i,(preP n i).length<=i*n
 | 0=>by simp [preP]
 | i+1=>by
  have:=Zfu n i
  rw [ZfX,List.length_append,List.length_map,List.length_range]
  have e:(i+1)*n=i*n+n:=Nat.succ_mul i n
  omega
def prD (ds:List D) (p:Nat×Nat):D:=.tup [ds.getD p.1 .non,ds.getD p.2 .non]
theorem Zmj (n i j:Nat) (hn:n<=1000) (hi:i<n) (hj:j<=n):(preP n i).length+j<sizeLine:=by
 have h1:=Zfu n i
 have h2:i*n<=1000*1000:=Nat.mul_le_mul (by omega) hn
 rw [ZaG];omega
theorem Zlf (row:D) (ds:List D) (h:SeqD row ds) (hn:ds.length<=1000) (s:Pn):Zc0 [row] s=some (.lst ((allP ds.length).map (prD ds)),s):=by
 refine ZaN rfl (Ok.toEq ?_)
 refine Ok.seq (.sown (.eq (a:=.lst []) rfl ⟨rfl,?_⟩))
 show Ok _ s _
 refine Ok.seq (.sfor (fun i ρ s'=>s=s'/\∃o2 o3,ρ=[some row,some (.lst ((preP ds.length i).map (prD ds))),o2,o3]) (.eq (Zbd (ZaR (Zad rfl rfl) h.len) (by omega)) ⟨⟨rfl,none,none,rfl⟩,fun i d ρ s' hd hI=>?_,fun ρ' s' hI=>?_⟩))
 ·obtain ⟨rfl,o2,o3,rfl⟩:=hI
  obtain ⟨hi,rfl⟩:=Zef hd
  refine ⟨_,rfl,?_⟩
  refine Ok.seq (.sfor (fun j ρ s'=>s=s'/\∃o3,ρ=[some row,some (.lst ((preP ds.length i).map (prD ds)++(List.range j).map fun k=>prD ds (i,i+1+k))),some (.int ((0+i:Nat):Int)),o3]) (.eq (Zjg (a:=i+1) (Zah (d:=.int ((0+i:Nat):Int)) (e:=.int 1) (c:=.int ((i+1:Nat):Int)) rfl rfl (by simp [dAdd])) (ZaR (Zad rfl rfl) h.len) (by omega) (by omega)) ⟨⟨rfl,o3,by simp⟩,fun j d ρ s' hd hJ=>?_,fun ρ' s' hJ=>?_⟩))
  ·obtain ⟨rfl,o3,rfl⟩:=hJ
   obtain ⟨hj,rfl⟩:=Zef hd
   refine ⟨_,rfl,?_⟩
   refine Ok.seq (.sapp (ds:=(preP ds.length i).map (prD ds)++(List.range j).map fun k=>prD ds (i,i+1+k)) rfl (by simp only [List.length_append,List.length_map,List.length_range];exact Zmj _ _ _ hn hi (by omega)) (.eq (ZbN (Zad (Zah (d:=row) (e:=.int ((0+i:Nat):Int)) rfl rfl (by rw [Nat.zero_add];exact h.ix hi)) (Zad (Zah (d:=row) (e:=.int ((i+1+j:Nat):Int)) rfl rfl (h.ix (by omega))) rfl)) Zc5) ?_))
   refine Ok.next ⟨_,rfl,rfl,some (.int ((i+1+j:Nat):Int)),?_⟩
   rw [List.range_succ,List.map_append,<-List.append_assoc]
   rfl
  ·obtain ⟨rfl,o3',rfl⟩:=hJ
   refine Ok.next ⟨_,rfl,rfl,some (.int ((0+i:Nat):Int)),o3',?_⟩
   rw [ZfX,List.map_append,List.map_map,Za8]
   rfl
 ·obtain ⟨rfl,o2,o3,rfl⟩:=hI
  refine Ok.seq (.sret (.eq rfl ⟨?_,rfl⟩))
  rw [Za8];rfl
end TP
namespace TP
open PySem L2 TF
def keyP (p:Nat×Nat):List Key:=[.inl (p.1:Int),.inl (p.2:Int)]
theorem Zpz {p q:Nat×Nat} (h:keyP p=keyP q):p=q:=by
 simp only [keyP,List.cons.injEq,Sum.inl.injEq,and_true] at h
 obtain ⟨a,b⟩:=p
 obtain ⟨c,d⟩:=q
 simp only at h
 have h1:a=c:=by omega
 have h2:b=d:=by omega
 rw [h1,h2]
def kvT (acc:List (List Key×V)) (ties:List (Nat×Nat)):List (List Key×V):=ties.foldl (fun acc p=>putK acc (keyP p) (.bl true)) acc
theorem ZqN (p:Nat×Nat):ZjK (.tup [Zaw p,.bl true])=some (keyP p,.bl true):=rfl
theorem ZiV:∀(ties:List (Nat×Nat)) (acc:List (List Key×V)),Zdy acc (ties.map fun p=>D.tup [Zaw p,.bl true])=some (kvT acc ties)
 | [],acc=>rfl
 | t::ts,acc=>by
  rw [List.map_cons]
  unfold Zdy
  rw [ZqN]
  exact ZiV ts _
theorem ZkA (p:Nat×Nat):∀(ties:List (Nat×Nat)) (acc:List (List Key×V)),(valV (kvT acc ties) (keyP p)).isSome=(decide (p∈ties)||(valV acc (keyP p)).isSome)
 | [],acc=>by simp [kvT]
 | t::ts,acc=>by
  have ih:=ZkA p ts (putK acc (keyP t) (.bl true))
  have e:kvT acc (t::ts)=kvT (putK acc (keyP t) (.bl true)) ts:=rfl
  rw [e,ih,ZjR]
  by_cases h:p=t
  ·subst h;simp
  ·have hk:¬keyP p=keyP t:=fun z=>h (Zpz z)
   rw [if_neg hk]
   simp [h]
theorem Zf6 (n:Nat) (ties:List (Nat×Nat)) (s:Pn) (hl:ties.length<=100000):Zbg [webD n ties] s=some (.dt (kvT [] ties),s):=by
 have hc:ZaP [none] (Zdk (dOp dIx (dVar 0) (dC (.int 1)))) (gOne 0) ZaZ (dTup (Zac (dVar 0) (Zac (dC (.bl true)) dNil))) [some (webD n ties)] s=some (.lst ((ties.map Zaw).map fun d=>D.tup [d,.bl true]),s):=by
  have q:=Zbc (src:=[none]) (fi:=Zdk (dOp dIx (dVar 0) (dC (.int 1)))) (τ:=gOne 0) (ft:=ZaZ) (fe:=dTup (Zac (dVar 0) (Zac (dC (.bl true)) dNil))) (ρ:=[some (webD n ties)]) (s:=s) (ds:=ties.map Zaw) (fun d=>[some d]) (fun _=>true) (fun d=>D.tup [d,.bl true])
   (by unfold Zdk Zan;rw [Zah (d:=webD n ties) (e:=.int 1) (c:=.tup (ties.map Zaw)) rfl rfl (by unfold webD;exact ZdY _ _ _)];rfl) (by rw [List.length_map,ZaG];omega)
   (fun d hd=>⟨rfl,rfl,fun _=>ZbN (Zad rfl (Zad rfl rfl)) Zc5⟩)
  have q2:(ties.map Zaw).filter (fun _=>true)=ties.map Zaw:=List.filter_eq_self.mpr (by simp)
  rw [q,q2]
 refine ZaN rfl (ZaE (ZaM (ZaR (Zad hc rfl) ?_)))
 rw [List.map_map]
 show (if ((ties.map ((fun d=>D.tup [d,.bl true])∘Zaw)).length<=sizeLine) then (Zdy [] _).map D.dt else none)=_
 rw [if_pos (by rw [List.length_map,ZaG];omega)]
 have e:=ZiV ties []
 show (Zdy [] (ties.map fun p=>D.tup [Zaw p,.bl true])).map D.dt=_
 rw [e];rfl
theorem Zku {n i:Nat} {p:Nat×Nat} (h:p∈preP n i):p.1<i/\p.1<p.2/\p.2<n:=by
 unfold preP at h
 obtain ⟨a,ha,h⟩:=List.mem_flatMap.mp h
 obtain ⟨k,hk,rfl⟩:=List.mem_map.mp h
 simp at ha hk
 exact ⟨ha,by simp;omega,by simp;omega⟩
theorem ZnD {n:Nat} {p:Nat×Nat} (h:p∈allP n):prD (ZaH 0 n) p=Zaw p:=by
 obtain ⟨h1,h2,h3⟩:=Zku h
 have g:∀i,i<n->(ZaH 0 n).getD i .non=.int (i:Int):=fun i hi=>by
  rw [ZcB]
  simp [List.getD,hi]
 unfold prD Zaw
 rw [g _ h1,g _ h3]
theorem Zle {n:Nat} (s:Pn) (hn:n<=1000):Zc0 [.lst (ZaH 0 n)] s=some (.lst ((allP n).map Zaw),s):=by
 rw [Zlf _ _ (.inl rfl) (by rw [Za8];exact hn) s,Za8]
 congr 3
 exact List.map_congr_left fun p hp=>ZnD hp
theorem Zga {f:Rho->M D} {ρ:Rho} {s:Pn} {n:Nat} (h:f ρ s=some (.int n,s)) (hn:n<=1000):ZbV f ρ s=some (.lst (ZaH 0 n),s):=by
 unfold ZbV Zan
 rw [h]
 show (if -(2 ^ 62)<=(n:Int)/\(n:Int)<=2 ^ 24 then mret (D.lst (ZaH 0 (n:Int).toNat)) else ZaB) s=_
 rw [if_pos (by omega)]
 rfl
theorem ZpU (n:Nat) (hn:n<=1000):(allP n).length<=1000000:=by
 have h1:=Zfu n n
 have h2:n*n<=1000*1000:=Nat.mul_le_mul hn hn
 unfold allP
 omega
theorem ZkQ (l:List (Nat×Nat)) (b:D->Bool) (q:Nat×Nat->Bool) (h:∀p,b (Zaw p)=q p):((l.map Zaw).filter b).map (fun d=>d)=(l.filter q).map Zaw:=by
 rw [List.filter_map,List.map_id']
 congr 1
 exact List.filter_congr fun p _=>h p
def nat2:D->Nat×Nat
 | .tup [a,b]=>(nat0 a,nat0 b)
 | _=>(0,0)
theorem ZnV (p:Nat×Nat):nat2 (Zaw p)=p:=rfl
end TP
namespace TF
open PySem L2
theorem Ok.runB {n k:Nat} {g:Rho->M Out} {ds:List D} {s:Pn} {Q:D->Pn->Prop} (hl:ds.length=k) (h:Ok (g (ds.map some++List.replicate (n-k) none)) s fun o s'=>match o with | .rt d=>Q d s' | .nx _=>Q .non s' | _=>False):Ok (runB n k g ds) s Q:=by
 unfold TF.runB
 rw [if_pos hl]
 refine .bind (h.mono fun o s' q=>?_)
 cases o with
 | rt d=>exact .ret q
 | nx ρ=>exact .ret q
 | bk ρ=>exact q.elim
 | ct ρ=>exact q.elim
theorem Ok.band {f g:Rho->M Bool} {ρ:Rho} {s:Pn} {Q:Bool->Pn->Prop} (h:Ok (f ρ) s fun b s1=>if b=true then Ok (g ρ) s1 Q else Q false s1):Ok (bAnd f g ρ) s Q:=by
 refine .bind (h.mono fun b s1 q=>?_)
 cases b with
 | true=>simpa using q
 | false=>exact .ret (by simpa using q)
theorem Ok.fn {F:List D->M D} {fs:Rho->M (List D)} {ρ:Rho} {s s1:Pn} {ds:List D} {Q:D->Pn->Prop} (h1:fs ρ s=some (ds,s1)) (h:Ok (F ds) s1 Q):Ok (dFn F fs ρ) s Q:=by
 obtain ⟨a,s',e,q⟩:=h
 exact ⟨a,s',Zax h1 e,q⟩
theorem Ok.draw {fs:Rho->M (List D)} {ρ:Rho} {s:Pn} {m:Nat} {Q:D->Pn->Prop} (ok:okPn s) (h1:fs ρ s=some ([.pen,.int (m:Int)],s)) (hm:0<m) (hm2:m<1073741824) (h:∀(r:Nat) s',r<m->okPn s'->Q (.int (r:Int)) s'):Ok (dFn ZbL fs ρ) s Q:=by
 obtain ⟨r,s1,e,r0,r1,ok1⟩:=ZqZ ok (show 0<(m:Int) by omega) (show (m:Int)<1073741824 by omega)
 obtain ⟨n,rfl⟩:=Int.eq_ofNat_of_zero_le r0
 exact .fn h1 (.eq e (h n s1 (by omega) ok1))
theorem Ok.op {g:D->D->Option D} {f f2:Rho->M D} {ρ:Rho} {s:Pn} {Q:D->Pn->Prop} (h:Ok (f ρ) s fun d s1=>Ok (f2 ρ) s1 fun e s2=>∃c,g d e=some c/\Q c s2):Ok (dOp g f f2 ρ) s Q:=
 .bind (h.mono fun d s1 q=>.bind (q.mono fun e s2 q=>let ⟨c,e1,q⟩:=q;.of e1 q))
theorem Ok.cons {f:Rho->M D} {fs:Rho->M (List D)} {ρ:Rho} {s:Pn} {Q:List D->Pn->Prop} (h:Ok (f ρ) s fun d s1=>Ok (fs ρ) s1 fun ds s2=>Q (d::ds) s2):Ok (Zac f fs ρ) s Q:=
 .bind (h.mono fun d s1 q=>.bind (q.mono fun e s2 q=>.ret q))
theorem Ok.nil {ρ:Rho} {s:Pn} {Q:List D->Pn->Prop} (h:Q [] s):Ok (dNil ρ) s Q:=.ret h
theorem Ok.asB {f:Rho->M D} {ρ:Rho} {s:Pn} {Q:Bool->Pn->Prop} (h:Ok (f ρ) s fun d s1=>∃b,d=.bl b/\Q b s1):Ok (asB f ρ) s Q:=
 .bind (h.mono fun d s1 q=>by obtain ⟨b,rfl,q⟩:=q;exact .ret q)
theorem Ok.comp {src:List (Option Nat)} {fi:Rho->M (List D)} {τ:D->Rho->Option Rho} {fe:Rho->M D} {ρ:Rho} {s:Pn} {ds:List D} {Q:D->Pn->Prop} (P:D->Prop) (I:Pn->Prop) (hi:fi ρ s=some (ds,s)) (hl:ds.length<=sizeLine) (h0:I s)
  (hb:∀d∈ds,∀s,I s->∃ρ1,τ d (ZbD src ρ)=some ρ1/\Ok (fe ρ1) s fun c s'=>P c/\I s') (hq:∀r s',r.length=ds.length->(∀c∈r,P c)->I s'->Q (.lst r) s'):Ok (ZaP src fi τ ZaZ fe ρ) s Q:=by
 unfold ZaP
 refine .bind (.eq hi ?_)
 exact .ite hl (.bind ((Zh7 P I ds s h0 hb).mono fun r s' q=>.ret (hq r s' q.1 q.2.1 q.2.2)))
end TF
namespace TP
open PySem L2 TF
theorem ZdR {n:Nat} {p:Nat×Nat}:p∈allP n↔p.1<p.2/\p.2<n:=by
 constructor
 ·intro h;exact (Zku h).2
 ·intro ⟨h1,h2⟩
  unfold allP preP
  refine List.mem_flatMap.mpr ⟨p.1,by simp;omega,List.mem_map.mpr ⟨p.2-(p.1+1),by simp;omega,?_⟩⟩
  obtain ⟨a,b⟩:=p
  simp only at h1 h2 ⊢
  rw [show a+1+(b-(a+1))=b by omega]
theorem Zc9 {n i:Nat} {d:D} (h:(ZaH 0 n)[i]?=some d):i<n/\d=.int (i:Int):=by
 have:=Zef (lo:=0) h
 rw [Nat.zero_add] at this
 exact this
def IsWeb (n:Nat) (ties:List (Nat×Nat)):Prop:=ties.Sublist (allP n)
theorem IsWeb.mem {n:Nat} {ties:List (Nat×Nat)} (h:IsWeb n ties) {p:Nat×Nat} (hp:p∈ties):p.1<p.2/\p.2<n:=ZdR.mp (h.subset hp)
theorem IsWeb.len {n:Nat} {ties:List (Nat×Nat)} (h:IsWeb n ties) (hn:n<=24):ties.length<=576:=by
 have h1:=h.length_le
 have h2:=Zfu n n
 have h3:n*n<=24*24:=Nat.mul_le_mul hn hn
 unfold allP at h1
 omega
theorem IsWeb.filter {n:Nat} (f:Nat×Nat->Bool):IsWeb n ((allP n).filter f):=List.filter_sublist
theorem Ze2 {ties:List (Nat×Nat)} {a b:Nat} (h:a<b):tied ties a b=decide ((a,b)∈ties):=by
 unfold tied
 rw [show min a b=a by omega,show max a b=b by omega]
theorem ZcI (ties:List (Nat×Nat)) (a b:Nat):tied ties a b=tied ties b a:=by
 unfold tied
 rw [show min a b=min b a by omega,show max a b=max b a by omega]
theorem web0 {n:Nat} {ties:List (Nat×Nat)}:dIx (webD n ties) (.int 0)=some (.int n):=by unfold webD;exact Zdm _ _
theorem web1 {n:Nat} {ties:List (Nat×Nat)}:dIx (webD n ties) (.int 1)=some (.tup (ties.map Zaw)):=by unfold webD;exact ZdY _ _ _
theorem Zk8 (way rate n i j:Nat) (somes:List D) (hi:i<somes.length) (hj:j<somes.length) (hs:∀c∈somes,∃k:Int,c=.int k) (x0 x1 x6:Option D) (s:Pn) (o9:Bool) {g:Rho->M Out} {Q:Out->Pn->Prop}
  (hg:∀b,Ok (g [x0,x1,some (.int n),some (.int way),some (.int rate),some (.lst somes),x6,some (.int i),some (.int j),some (.bl b)]) s Q) :
  Ok ((sSeq (sIf (bAnd (asB (dOp dEqO (dVar 3) (dC (.int 0)))) (bAnd (asB (dOp dEqO (dOp dIx (dVar 5) (dVar 7)) (dC (.int 1)))) (asB (dOp dEqO (dOp dIx (dVar 5) (dVar 8)) (dC (.int 1))))))
 (sSeq (sSet 9 (fun ρ=>(dC (.bl true)) (hide [6] ρ)))
 Zam)
 Zam)
 (sSeq (sIf (asB (dOp dEqO (dVar 3) (dC (.int 1))))
 (sSeq (sSet 9 (fun ρ=>(vOr (dOp dEqO (dOp dSub (dVar 8) (dVar 7)) (dC (.int 1))) (dOp dEqO (dOp dSub (dVar 8) (dVar 7)) (dOp dSub (dVar 2) (dC (.int 1))))) (hide [6] ρ)))
 Zam)
 Zam) g)) [x0,x1,some (.int n),some (.int way),some (.int rate),some (.lst somes),x6,some (.int i),some (.int j),some (.bl o9)]) s Q:=by
 have eqi:∀a b:Int,dEqO (.int a) (.int b)=some (.bl (a==b)):=fun a b=>by
  unfold dEqO
  rw [if_pos (by simp [okEq,Zak,dep])]
  simp [dEq]
 have ixs:∀k,k<somes.length->∃v:Int,dIx (.lst somes) (.int (k:Int))=some (.int v):=fun k hk=>by
  obtain ⟨v,hv⟩:=hs (somes[k]) (List.getElem_mem hk)
  exact ⟨v,by rw [<-hv];exact ZbJ (by simp [hk])⟩
 obtain ⟨v1,e1⟩:=ixs i hi
 obtain ⟨v2,e2⟩:=ixs j hj
 have last:∀b,Ok ((sSeq (sIf (asB (dOp dEqO (dVar 3) (dC (.int 1))))
 (sSeq (sSet 9 (fun ρ=>(vOr (dOp dEqO (dOp dSub (dVar 8) (dVar 7)) (dC (.int 1))) (dOp dEqO (dOp dSub (dVar 8) (dVar 7)) (dOp dSub (dVar 2) (dC (.int 1))))) (hide [6] ρ)))
 Zam)
 Zam) g) [x0,x1,some (.int n),some (.int way),some (.int rate),some (.lst somes),x6,some (.int i),some (.int j),some (.bl b)]) s Q:=by
  intro b
  refine .seq (.sif (.eq (ZaC (Zah (d:=.int (way:Int)) (e:=.int 1) rfl rfl (eqi _ _))) ?_))
  split
  ·refine .seq (.sset ?_)
   refine .bind (.eq (Zah (d:=.int ((j:Int)-i)) (e:=.int 1) (Zah (d:=.int (j:Int)) (e:=.int (i:Int)) rfl rfl rfl) rfl (eqi _ _)) ?_)
   generalize ((j:Int)-i==1)=c
   cases c with
   | true=>
    refine .ret (.next ?_)
    exact hg true
   | false=>
    refine .eq (Zah (d:=.int ((j:Int)-i)) (e:=.int ((n:Int)-1)) (Zah (d:=.int (j:Int)) (e:=.int (i:Int)) rfl rfl rfl) (Zah (d:=.int (n:Int)) (e:=.int 1) rfl rfl rfl) (eqi _ _)) (.next ?_)
    exact hg _
  ·refine .next ?_
   exact hg b
 refine .seq (.sif (.band (.eq (ZaC (Zah (d:=.int (way:Int)) (e:=.int 0) rfl rfl (eqi _ _))) ?_)))
 split
 ·refine .band (.eq (ZaC (Zah (d:=.int v1) (e:=.int 1) (Zah (d:=.lst somes) (e:=.int (i:Int)) rfl rfl e1) rfl (eqi _ _))) ?_)
  split
  ·refine .eq (ZaC (Zah (d:=.int v2) (e:=.int 1) (Zah (d:=.lst somes) (e:=.int (j:Int)) rfl rfl e2) rfl (eqi _ _))) ?_
   split
   ·refine .seq (.sset (.eq (a:=.bl true) rfl ?_))
    refine .next ?_
    exact last true
   ·refine .next ?_
    exact last o9
  ·refine .next ?_
   exact last o9
 ·refine .next ?_
  exact last o9
end TP
namespace TP
open PySem L2 TF
theorem Zql {n i j:Nat} {l:List (Nat×Nat)} (h:l.Sublist (preP n i++(List.range j).map fun k=>(i,i+1+k))) (hn:n<=1000) (hi:i<n) (hj:j<=n):(l.map Zaw).length<sizeLine:=by
 have h1:=h.length_le
 rw [List.length_append,List.length_map,List.length_range] at h1
 have h2:=Zmj n i j hn hi hj
 rw [List.length_map];omega
theorem Zru {s:Pn} (ok:okPn s) (most:Nat) (hm:most<=24):Ok (Zc2 [.pen,.int (most:Int)]) s fun d s'=>okPn s'/\∃n ties,d=webD n ties/\n<=most/\IsWeb n ties:=by
 refine Ok.runB rfl ?_
 refine Ok.seq (.sset (.draw (m:=most+1) ok (Zad rfl (Zad (Zah (d:=.int (most:Int)) (e:=.int 1) rfl rfl rfl) rfl)) (by omega) (by omega) fun n s1 hn ok1=>?_))
 refine Ok.seq (.spar (.cons (.draw (m:=4) ok1 (Zad rfl (Zad rfl rfl)) (by omega) (by omega) fun way s2 hw ok2=>.cons (.op (.eq (a:=.int 1) rfl (.draw (m:=3) ok2 (Zad rfl (Zad rfl rfl)) (by omega) (by omega) fun r s3 hr ok3=>⟨.int ((1+r:Nat):Int),by simp [dAdd],.nil ⟨_,_,rfl,rfl,rfl,?_⟩⟩))))))
 refine Ok.seq (.sset (.comp (ds:=ZaH 0 n) (fun c=>∃k:Int,c=.int k) okPn (Zbd rfl (by omega)) (Zeg (by omega)) ok3 (fun d hd s ok=>⟨_,rfl,.draw (m:=2) ok (Zad rfl (Zad rfl rfl)) (by omega) (by omega) fun r s' _ ok'=>⟨⟨_,rfl⟩,ok'⟩⟩) fun somes s4 hl hs ok4=>?_))
 rw [Za8] at hl
 refine Ok.seq (.sown (.eq (a:=.lst []) rfl ⟨rfl,?_⟩))
 refine Ok.seq (.sfor (fun i ρ s'=>okPn s'/\∃(ties:List (Nat×Nat)) (o7 o8 o9:Option D),ties.Sublist (preP n i)/\ρ=[some .pen,some (.int (most:Int)),some (.int (n:Int)),some (.int (way:Int)),some (.int ((1+r:Nat):Int)),some (.lst somes),some (.lst (ties.map Zaw)),o7,o8,o9]) (.eq (Zbd rfl (by omega)) ⟨⟨ok4,[],none,none,none,List.nil_sublist _,rfl⟩,fun i d ρ s' hd hI=>?_,fun ρ' s' hI=>?_⟩))
 ·obtain ⟨ok5,ties,o7,o8,o9,hsub,rfl⟩:=hI
  obtain ⟨hi,rfl⟩:=Zc9 hd
  refine ⟨_,rfl,?_⟩
  refine Ok.seq (.sfor (fun j ρ s'=>okPn s'/\∃(ties:List (Nat×Nat)) (o8 o9:Option D),ties.Sublist (preP n i++(List.range j).map fun k=>(i,i+1+k))/\ρ=[some .pen,some (.int (most:Int)),some (.int (n:Int)),some (.int (way:Int)),some (.int ((1+r:Nat):Int)),some (.lst somes),some (.lst (ties.map Zaw)),some (.int (i:Int)),o8,o9]) (.eq (Zjg (a:=i+1) (n:=n) (Zah (d:=.int (i:Int)) (e:=.int 1) (c:=.int ((i+1:Nat):Int)) rfl rfl (by simp [dAdd])) rfl (by omega) (by omega)) ⟨⟨ok5,ties,o8,o9,by simpa using hsub,rfl⟩,fun j d ρ s' hd hJ=>?_,fun ρ' s' hJ=>?_⟩))
  ·obtain ⟨ok6,ties,o8,o9,hsub,rfl⟩:=hJ
   obtain ⟨hj,rfl⟩:=Zef hd
   refine ⟨_,rfl,?_⟩
   refine Ok.seq (.sset (.op (.draw (m:=4) ok6 (Zad rfl (Zad rfl rfl)) (by omega) (by omega) fun v s7 hv ok7=>.eq (a:=.int ((1+r:Nat):Int)) rfl ⟨_,rfl,?_⟩)))
   have fin:∀b,Ok (sSeq (sIf (asB (dVar 9)) (sSeq (sApp 6 (fun ρ=>(dTup (Zac (dVar 7) (Zac (dVar 8) dNil))) (hide [6] ρ))) Zam) Zam) Zam [some .pen,some (.int (most:Int)),some (.int (n:Int)),some (.int (way:Int)),some (.int ((1+r:Nat):Int)),some (.lst somes),some (.lst (ties.map Zaw)),some (.int (i:Int)),some (.int ((i+1+j:Nat):Int)),some (.bl b)]) s7
     fun o s'=>∃ρ',o=.nx ρ'/\okPn s'/\∃(ties:List (Nat×Nat)) (o8 o9:Option D),ties.Sublist (preP n i++(List.range (j+1)).map fun k=>(i,i+1+k))/\ρ'=[some .pen,some (.int (most:Int)),some (.int (n:Int)),some (.int (way:Int)),some (.int ((1+r:Nat):Int)),some (.lst somes),some (.lst (ties.map Zaw)),some (.int (i:Int)),o8,o9]:=by
    intro b
    refine Ok.seq (.sif (.eq (ZaC rfl) ?_))
    cases b with
    | true=>
     refine .seq (.sapp (ds:=ties.map Zaw) rfl (Zql hsub (by omega) hi (by omega)) (.eq (ZbN (Zad rfl (Zad rfl rfl)) Zc5) ?_))
     refine .next (.next ⟨_,rfl,ok7,ties ++ [(i,i+1+j)],some (.int ((i+1+j:Nat):Int)),some (.bl true),?_,?_⟩)
     ·rw [List.range_succ,List.map_append,<-List.append_assoc]
      exact List.Sublist.append hsub (List.Sublist.refl _)
     ·rw [List.map_append];rfl
    | false=>
     refine .next (.next ⟨_,rfl,ok7,ties,some (.int ((i+1+j:Nat):Int)),some (.bl false),?_,rfl⟩)
     rw [List.range_succ,List.map_append,<-List.append_assoc]
     exact hsub.trans (List.sublist_append_left _ _)
   exact Zk8 way (1+r) n i (i+1+j) somes (by omega) (by omega) hs (some .pen) (some (.int (most:Int))) (some (.lst (ties.map Zaw))) s7 (decide ((v:Int)<((1+r:Nat):Int))) fin
  ·obtain ⟨ok6,ties,o8',o9',hsub,rfl⟩:=hJ
   refine Ok.next ⟨_,rfl,ok6,ties,some (.int (i:Int)),o8',o9',?_,rfl⟩
   rw [ZfX]
   rwa [Za8] at hsub
 ·obtain ⟨ok5,ties,o7,o8,o9,hsub,rfl⟩:=hI
  rw [Za8] at hsub
  exact Ok.seq (.sret (.eq (ZbN (Zad rfl (Zad (ZaR (Zad rfl rfl) rfl) rfl)) Zc5) ⟨ok5,n,ties,rfl,by omega,hsub⟩))
end TP
namespace HT
open PySem PySem.Spec PyProof.Rows
section
variable {prog:Program} {w:World} {A:Around} {E:Value->Shared->Prop} {s:Shared}
theorem getItem_tuple_whole {t sl:Addr} {items:Array Value} {vl vu:Value} {lo hi:Option Int} {Q:Value->Shared->Prop} (ht:IsTup s.heap t items) (hs:s.heap.IsSliceOf sl vl vu .none) (pl:IsPart vl lo) (pu:IsPart vu hi)
  (hw:sIx items.size 0 lo=0/\sIx items.size items.size hi=items.size)
  (h:Q (.ref t) s)
  (hsz:items.size<=sizeLine):wpAny (model prog w) A (getItem (.ref t) (.ref sl)) Q E s:=by
 obtain ⟨os,hos,hcs,hds⟩:=id hs
 have hTs:s.TypeIs (.ref sl) "slice":=⟨os,hos,hcs⟩
 unfold getItem
 try with_reducible refine wpAny_holding ?_
 first | refine wpAny_bind (wpAny_pure ?_) | skip
 refine wpAny_bind (wpAny_sequenceKey ht.typeIs (by decide) ?_)
 refine wpAny_bind (wpAny_callSpecial?_slot (name:=Str.ofString "__getitem__") ht.typeIs PyProof.Rows.slot_tuple_getitem
  (wpAny_call_entry PyProof.Rows.slot_tuple_getitem ht.typeIs entry_tuple_getitem ?_ (args_tuple_getitem _ _)))
 show wpAny _ _ (Builtin.Tuple.tupleItemsOf (.ref t) >>= _) _ _ s
 refine wpAny_bind (tupleItemsOf_ ht ?_)
 refine wpAny_bind (wpAny_typeOf hTs ?_)
 rw [if_pos (by decide)]
 refine wpAny_bind (Zel hs pl pu ?_)
 have hyes:((((sIx items.size 0 lo:Nat):Int)==0&&(1:Int)==1&&(sIx items.size items.size hi-sIx items.size 0 lo)==items.size)=true):=by
  rw [hw.1,hw.2];simp
 show wpAny _ _ (if (((sIx items.size 0 lo:Nat):Int)==0&&(1:Int)==1&&(sIx items.size items.size hi-sIx items.size 0 lo)==items.size)=true then _ else _) _ _ s
 rw [if_pos hyes]
 unfold Builtin.Tuple.tupleIsExact
 refine wpAny_bind (wpAny_bind (wpAny_typeOf ht.typeIs ?_))
 refine wpAny_pure ?_
 rw [if_pos (by decide)]
 refine wpAny_bind (wpAny_rule ?_)
 first
  | exact wpAny_bind (wpAny_pure ⟨_,rfl,wpAny_pure h⟩)
  | exact wpAny_bind (wpAny_pure (wpAny_pure ⟨_,rfl,wpAny_pure h⟩))
end
end HT
namespace TF
open PySem PySem.Spec PyProof.Rows L2
def ZsU (K:PySem.W.Frag):V->Option Int->Option Int->Hp->VK->Prop:=fun x lo hi H Q=>∃a xs,x=.ref a/\SqT K H a xs/\
 (HT.sIx xs.length 0 lo=0/\HT.sIx xs.length xs.length hi=xs.length)/\Q (.ref a) H
section
variable {X:Cx} {G:Gh}
theorem Zqo:SlR X (ZsU X.K):=by
 intro pins s σ H x v vl vu lo hi sl Q I rx hs pl pu h
 obtain ⟨a,xs,rfl,hx,hw,q⟩:=h
 cases rx
 obtain ⟨its,r,ht,hz⟩:=I.tuple hx
 have hlen:its.toArray.size=xs.length:=by rw [List.size_toArray];exact r.length.symm
 refine ⟨"tuple",_,PyProof.Rows.slot_tuple_getitem.lookup,ht.typeIs,?_⟩
 exact HT.getItem_tuple_whole ht hs pl pu (by rw [hlen];exact hw) ⟨.ref a,H,I,rfl,q⟩ (by rw [hlen];exact hz)
def cutD (ds:List D) (lo hi:Option Int):List D:=(ds.drop (HT.sIx ds.length 0 lo)).take (HT.sIx ds.length ds.length hi-HT.sIx ds.length 0 lo)
def POD (X:Cx) (G:Gh) (e:Option Expr) (f:Rho->M (Option Int)):Prop:=
 ∃t,PO X e t/\∀(σ:St) (Hf H:Hp) (ρ:Rho) (s:Pn) (o:Option Int) (s':Pn) (Q:Option Int->Hp->Prop),Ext G Hf H->EnvR G Hf σ ρ->G.st s H->f ρ s=some (o,s')->
  (∀Hf' H',Gr G Hf H Hf' H'->G.st s' H'->Q o H')->t σ H Q
def ZjL:Rho->M (Option Int):=fun _=>mret none
def Zgs (f:Rho->M D):Rho->M (Option Int):=fun ρ=>Zan (f ρ) fun d=>match d with | .int i=>mret (some i) | _=>ZaB
theorem Zg7:POD X G none ZjL:=⟨_,Zqx,fun σ Hf H ρ s o s' Q e1 e2 e3 e4 k=>by
 obtain ⟨rfl,rfl⟩:=Zaq e4
 exact k Hf H (.refl e1) e3⟩
theorem Zg6 {e:Expr} {f:Rho->M D} {r1:Bool} (h:PD X G r1 e f):POD X G (some e) (Zgs f):=by
 obtain ⟨t,p,q⟩:=h.drop
 refine ⟨_,Zqw p,fun σ Hf H ρ s o s' Q e1 e2 e3 e4 k=>?_⟩
 obtain ⟨d,s1,a1,a2⟩:=Zai e4
 refine q σ Hf H ρ s d s1 _ e1 e2 e3 a1 fun v Hf1 H1 g1 st1 r1=>?_
 match d,a2,r1 with
 | .int i,a2,r1=>
  obtain ⟨rfl,rfl⟩:=Zaq a2
  exact ⟨i,Rep.int_iff.mp r1,k Hf1 H1 g1 st1⟩
def Zfi (f:Rho->M D) (fl fh:Rho->M (Option Int)):Rho->M D:=fun ρ=>Zan (f ρ) fun d=>Zan (fl ρ) fun lo=>Zan (fh ρ) fun hi=>match d with
 | .tup ds=>mret (.tup (cutD ds lo hi))
 | .lst ds=>mret (.lst (cutD ds lo hi))
 | _=>ZaB
theorem Zmc {Hf:Hp} {ds:List D} {vs:List V} (r:RepL G Hf ds vs) (lo hi:Option Int):RepL G Hf (cutD ds lo hi) (cutV vs lo hi):=by
 unfold cutD cutV
 rw [r.length]
 exact (r.drop _).take _
theorem Zm5 {ds:List D} {lo hi:Option Int} (h:HT.sIx ds.length 0 lo=0/\HT.sIx ds.length ds.length hi=ds.length):cutD ds lo hi=ds:=by
 unfold cutD
 rw [h.1,h.2]
 simp
theorem Zg9 {e:Expr} {lo hi:Option Expr} {p2 pos:Pos} {f:Rho->M D} {fl fh:Rho->M (Option Int)} {r1:Bool} (he:PD X G r1 e f) (hl:POD X G lo fl) (hh:POD X G hi fh):PD X G true (.Subscript e (.Slice lo hi none p2) pos) (Zfi f fl fh):=by
 obtain ⟨t,p,q⟩:=he.drop
 obtain ⟨tl,pl,ql⟩:=hl
 obtain ⟨th,ph,qh⟩:=hh
 refine ⟨_,Zo3 (Zqp.or (ZrB.or Zqo)) p pl ph,fun σ Hf H ρ s d s' Q e1 e2 e3 e4 k=>?_⟩
 obtain ⟨d0,s1,a1,a2⟩:=Zai e4
 obtain ⟨lo',s2,a3,a4⟩:=Zai a2
 obtain ⟨hi',s3,a5,a6⟩:=Zai a4
 refine q σ Hf H ρ s d0 s1 _ e1 e2 e3 a1 fun v Hf1 H1 g1 st1 r1=>?_
 refine ql σ Hf1 H1 ρ s1 lo' s2 _ g1.fh (e2.ext g1.ff) st1 a3 fun Hf2 H2 g2 st2=>?_
 refine qh σ Hf2 H2 ρ s2 hi' s3 _ g2.fh ((e2.ext g1.ff).ext g2.ff) st2 a5 fun Hf3 H3 g3 st3=>?_
 have rr:=(r1.ext g2.ff).ext g3.ff
 have g:=(g1.trans g2).trans g3
 match d0,a6,rr with
 | .lst ds,a6,rr=>
  obtain ⟨rfl,rfl⟩:=Zaq a6
  obtain ⟨a,vs,rfl,na,ha,ra⟩:=Rep.lst_iff.mp rr
  refine .inl ⟨a,vs,rfl,SqL.of (g.fh _ _ na ha),fun l hl=>?_⟩
  have nf:=Gh.nofp st3 hl
  have g2:=Gr.new (o:=.lst (cutV vs lo' hi')) g.fh hl nf
  have rr:=Zmc ra lo' hi'
  exact k (.ref l) _ _ (g.trans g2) (Gh.grow st3 hl) (Rep.lst_iff.mpr ⟨l,_,rfl,nf,Zav,rr.ext g2.ff⟩) fun _=>ZaJ.old g.hh (fun a ea _=>by cases ea;exact nf) (ZaJ.mk g.fh hl nf rr)
 | .tup ds,a6,rr=>
  obtain ⟨rfl,rfl⟩:=Zaq a6
  obtain ⟨a,vs,rfl,na,ha,ra⟩:=Rep.tup_iff.mp rr
  by_cases hw:HT.sIx vs.length 0 lo'=0/\HT.sIx vs.length vs.length hi'=vs.length
  ·refine .inr (.inr ⟨a,vs,rfl,SqT.of (g.fh _ _ na ha),hw,?_⟩)
   rw [<-ra.length] at hw
   exact k (.ref a) _ _ g st3 (by rw [Zm5 hw];exact rr) fun _=>.scal fun z=>z
  ·refine .inr (.inl ⟨a,vs,rfl,SqT.of (g.fh _ _ na ha),hw,fun l hl=>?_⟩)
   have nf:=Gh.nofp st3 hl
   have g2:=Gr.new (o:=.tup (cutV vs lo' hi')) g.fh hl nf
   exact k (.ref l) _ _ (g.trans g2) (Gh.grow st3 hl) (Rep.tup_iff.mpr ⟨l,_,rfl,nf,Zav,(Zmc ra lo' hi').ext g2.ff⟩) fun _=>.scal fun z=>z
def sUnp (τ:D->Rho->Option Rho) (f:Rho->M D):Rho->M Out:=fun ρ=>Zan (f ρ) fun d=>match τ d ρ with | some ρ'=>mret (.nx ρ') | none=>ZaB
theorem ZqI {ob own:List Nat} {fr r1:Bool} {tg e:Expr} {pos:Pos} {τ:D->Rho->Option Rho} {f:Rho->M D} (he:PD X G r1 e f) (hg:PDG X G tg (fun i=>i∉own) τ) (hs:swapsWithSole [tg] e pos.line X.env=pure false:=by rfl) (hw:swappedStores [tg] e X.env=pure none:=by rfl)
  (h1:(assignEach [tg] X.env).map (·.2)=[assign tg X.env]:=by rfl):PDS X G ob own own fr (.Assign [tg] e pos) (sUnp τ (fun ρ=>f (hide own ρ))):=by
 obtain ⟨t,p,q⟩:=he
 obtain ⟨g,pg,qg⟩:=hg
 have hy:Yld G r1 t f:=q
 refine ⟨_,ZhH p pg hs hw h1,fun kn Hf0 H0 σ H ρ s out s' E ⟨Hf,j⟩ st e po=>?_⟩
 obtain ⟨d,s1,a1,a2⟩:=Zai e
 refine hy.a kn Hf0 H0 σ Hf H ρ s d s1 _ j st a1 fun v Hf' H' j' e1 e2 st' r fz=>?_
 cases eq:τ d ρ with
 | none=>rw [eq] at a2;cases a2
 | some ρ'=>
  rw [eq] at a2
  obtain ⟨rfl,rfl⟩:=Zaq a2
  exact qg v σ Hf' H' d ρ ρ' _ j'.gr.fh r eq fun σ' hs'=>po σ' H' ⟨Hf',hs'.jf j'⟩ st'
theorem Zo9 {ob:List Nat} {fr r1:Bool} {tg e:Expr} {pos:Pos} {τ:D->Rho->Option Rho} {f:Rho->M D} (he:PD X G r1 e f) (hg:PDG X G tg (fun i=>i∉([]:List Nat)) τ) (hs:swapsWithSole [tg] e pos.line X.env=pure false:=by rfl) (hw:swappedStores [tg] e X.env=pure none:=by rfl)
  (h1:(assignEach [tg] X.env).map (·.2)=[assign tg X.env]:=by rfl):PDS X G ob [] [] fr (.Assign [tg] e pos) (sUnp τ f):=by
 have h:=ZqI (ob:=ob) (fr:=fr) he hg hs hw h1
 have e:(fun ρ=>f (hide [] ρ))=f:=by funext ρ;rw [Zhj]
 rw [e] at h
 exact h
theorem Cal.none {P:Program} {w:World} {K:PySem.W.Frag} {mg:Str->Option Value} {base:Heap} {k:Nat} {x:Str} {n:Nat} {fr:Bool} {GG:Gh->Prop} {f:Addr} {fd:FuncData} {ps:List Str} (hm:mg x=some (.ref f)) (hk:PySem.W.keepIn K (.ref f)=true) (hb:ZcG K fd ps []) :
  Cal P w K mg base k x n fr GG (fun _=>ZaB):=by
 refine ⟨f,fd,ps,⟨fun vs H Q E h=>?_,fun A outer s H args us vs Q E _ _ _ _ h=>?_⟩,hm,hk,hb⟩
 ·obtain ⟨G,Hf,ds,s,d,s',_,_,_,_,_,h,_⟩:=h
  cases h
 ·obtain ⟨G,Hf,ds,s,d,s',_,_,_,_,_,h,_⟩:=h
  cases h
end
end TF
namespace TF
open PySem PySem.Spec PyProof.Rows L2 PySem.SeqAt
open AutoSeq1 (wpAny_loadPart')
theorem Zmq (l:Addr) (items:Array Value) (n:Nat) (dd:Option Addr) (sl:Array (Option Value)) (x:Int) (u:Tok) (hc0:¬((x < -(2 ^ 63):Bool)||(x≥2 ^ 63:Bool))=true) (hc1:¬(items.isEmpty||x==1)=true) (hc2:¬((x<=0:Bool)||items.isEmpty)=true)
  (hc3:¬((items.size:Int)*x > (2 ^ 63-1) / 8)) (hc4:¬Builtin.Tuple.tupleTooMany ((items.size:Int)*x)=true) (hsz:(List.foldl (fun x1 x2=>x1++x2) #[] (List.replicate x.toNat items)).size<=sizeLine) :
  Meets (Builtin.«tuple.__mul__» ⟨[.ref l,.int x u],[]⟩) (fun _ R s=>s.heap.get? l=some { cls:=.type "tuple",dict:=dd,data:=.seq items n,slots:=sl }/\R (.ok (.ret (Value.ref s.heap.objs.size))) { s with heap:=s.heap.push { cls:=Value.type "tuple",data:=Data.seq (List.foldl (fun x1 x2=>x1++x2) #[] (List.replicate x.toNat items)) },toks:=s.toks }):=
 .of_wp fun prog w A R s h=>by
  obtain ⟨hp,g,d,tk,os⟩:=s;obtain ⟨hl,h⟩:=h;have f1:=AutoSeq1.idx_int;have f2:=AutoSeq1.sub_tuple_tuple;have f3:=AutoSeq1.sub_list_list;have f4:=AutoSeq1.sub_tuple_list;have f5:=AutoSeq1.sub_list_tuple;wp_walk using wpAny_loadPart' hl
  rw [if_neg hc0];wp_walk using wpAny_loadPart' hl
  rw [if_neg hc3];wp_walk using wpAny_loadPart' hl
  try (refine wpAny_ite_false (decide_eq_false (Nat.not_lt.mpr hsz)) ?_;wp_walk)
  exact ⟨_,rfl,h⟩
theorem Zdp:fillsNumberSlot (.type "tuple") "mul" = pure false:=
 PySem.fillsNumberSlot_seq (id:="tuple.__mul__") (r:=some (.builtin "tuple.__rmul__")) PySem.F.slot_tuple_mul.lookup (by decide +kernel) PySem.F.slot_tuple_rmul.lookup (by decide +kernel)
theorem Zet:seqRepeat? (.type "tuple")=pure (some (.builtin "tuple.__mul__")):=by
 unfold seqRepeat?
 rw [PySem.seqSlot_of (T:="tuple") (name:="__mul__") (id:="tuple.__mul__") PySem.F.slot_tuple_mul.lookup (by decide +kernel),PySem.seqSlot_of (T:="tuple") (name:="__rmul__") (id:="tuple.__rmul__") PySem.F.slot_tuple_rmul.lookup (by decide +kernel)]
 rfl
theorem ZdT (a:Int) (t:Tok) (l:Addr) (items:Array Value) (n:Nat) (dd:Option Addr) (sl:Array (Option Value)) :
  Meets (Builtin.«int.__rmul__» ⟨[.int a t,.ref l],[]⟩) (fun _ R s=>s.heap.get? l=some { cls:=.type "tuple",dict:=dd,data:=.seq items n,slots:=sl }/\R (.ok (.ret Value.notImplemented)) s):=
 .of_wp fun prog w A R s h=>by obtain ⟨hp,g,d,tk,os⟩:=s;obtain ⟨hl,h⟩:=h;wp_walk;exact ⟨_,rfl,h⟩
section
variable {X:Cx} {G:Gh}
def ZsV (K:PySem.W.Frag):R2:=fun x y H Q=>∃l k xs,x=.ref l/\y=.int k/\SqT K H l xs/\xs≠[]/\2<=k/\k<2 ^ 62/\xs.length*k.toNat<=sizeLine/\
 ∀p,H p=none->Q (.ref p) (upd H p (.tup (List.replicate k.toNat xs).flatten))
theorem ZqP:OpR X (binaryOp .Mult) (ZsV X.K):=by
 intro pins s σ H x y v u Q I rx ry h
 obtain ⟨l,k,xs,rfl,rfl,hH,hne,h1,h2,hz,q⟩:=h
 cases rx
 obtain ⟨t,rfl⟩:=ry
 obtain ⟨its,r,p1,_⟩:=I.tuple hH
 obtain ⟨⟨cls,dd,data,sl⟩,ho,hc,n,hd⟩:=id p1
 simp only at hc hd
 subst hc hd
 have hl:=r.length
 have hsz:its.toArray.size=xs.length:=by rw [List.size_toArray];exact hl.symm
 have hne':its≠[]:=fun z=>hne (r.nil_iff.mp z)
 have hemp:its.toArray.isEmpty=false:=by cases its with | nil=>exact absurd rfl hne' | cons a b=>rfl
 have e0:((k.toNat:Nat):Int)=k:=by omega
 have hcap:((its.toArray.size:Int)*k)=((xs.length*k.toNat:Nat):Int):=by rw [hsz,Int.natCast_mul,e0]
 have sl2:(sizeLine:Nat)=16777216:=sizeLine_eq
 have hnew:List.foldl (fun x1 x2=>x1++x2) #[] (List.replicate k.toNat its.toArray)=(List.replicate k.toNat its).flatten.toArray:=by
  have:=Zgi its k.toNat []
  rw [List.nil_append] at this
  exact this
 have hfl:(List.replicate k.toNat its).flatten.length<=sizeLine:=by rw [ZiA,Nat.mul_comm,<-hl];exact hz
 refine wpAny_binaryOp_repeat_ref (T:="tuple") (U:="int") (by decide) ⟨_,ho,rfl⟩ (fun s'=>typeIs_int s' k t) Zdp F.fills_int_mul F.slot_int_rmul Zet F.slot_int_index.lookup
  (call_meets F.slot_int_rmul (typeIs_int s k t) F.entry_int_rmul (F.args_int_rmul_2 _ _) (ZdT k t l its.toArray n dd sl)
   ⟨ho,rfl,⟨_,ho,rfl⟩,call_meets PySem.F.slot_tuple_mul ⟨_,ho,rfl⟩ PySem.F.entry_tuple_mul (PySem.F.args_tuple_mul_2 _ _) (Zmq l its.toArray n dd sl k t ?_ ?_ ?_ ?_ ?_ ?_) ⟨ho,?_⟩⟩)
 ·simp;omega
 ·rw [hemp];simp;omega
 ·rw [hemp];simp;omega
 ·rw [hcap];omega
 ·unfold Builtin.Tuple.tupleTooMany
  rw [hcap,decide_eq_true_eq];omega
 ·rw [hnew,List.size_toArray];exact hfl
 ·rw [hnew]
  exact ⟨.ref s.heap.objs.size,_,I.laid (t':=s.toks) (o:=.tup (List.replicate k.toNat xs).flatten) (fun b ob q=>Heap.get?_push_of_some _ q) (Nat.le_refl _) ⟨by rw [ZiA,Nat.mul_comm];exact hz,_,r.rep k.toNat,TupN.new _ _⟩,rfl,q _ (I.hok.fresh (Nat.le_refl _))⟩
theorem RepL.rep {Hf:Hp} {ds:List D} {vs:List V} (r:RepL G Hf ds vs):∀k:Nat,RepL G Hf (List.replicate k ds).flatten (List.replicate k vs).flatten
 | 0=>RepL.nil_iff.mpr rfl
 | k+1=>by
  rw [List.replicate_succ,List.replicate_succ,List.flatten_cons,List.flatten_cons]
  exact r.append (RepL.rep r k)
def ZgD:D->D->Option D
 | .int i,.int j=>if ZfI i j=true then some (.int (i*j)) else none
 | .tup ds,.int k=>if ds≠[]/\2<=k/\k<2 ^ 62/\ds.length*k.toNat<=sizeLine then some (.tup (List.replicate k.toNat ds).flatten) else none
 | .lst ds,.int k=>if -(2 ^ 63)<=k/\k<2 ^ 63/\ds.length*k.toNat<=sizeLine then some (.lst (List.replicate k.toNat ds).flatten) else none
 | _,_=>none
theorem Zph:OpD X G (binaryOp .Mult) ZgD:=by
 obtain ⟨r0,po,qo⟩:=Zds (X:=X) (G:=G)
 refine ⟨_,po.or (ZqP.or Zr0),fun Hf H s x y d e c Q e1 st rx ry q k=>?_⟩
 match d,e,q,rx,ry with
 | .int i,.int j,q,rx,ry=>exact .inl (qo Hf H s x y _ _ c Q e1 st rx ry q k)
 | .tup ds,.int j,q,rx,ry=>
  have q:(if ds≠[]/\2<=j/\j<2 ^ 62/\ds.length*j.toNat<=sizeLine then some (D.tup (List.replicate j.toNat ds).flatten) else none)=some c:=q
  split at q
  ·rename_i hz
   cases q
   obtain ⟨p,vs,rfl,np,hp,rp⟩:=Rep.tup_iff.mp rx
   refine .inr (.inl ⟨p,j,vs,rfl,Rep.int_iff.mp ry,SqT.of (e1 _ _ np hp),fun z=>hz.1 (List.length_eq_zero_iff.mp (by rw [rp.length,z];rfl)),hz.2.1,hz.2.2.1,by rw [<-rp.length];exact hz.2.2.2,fun l hl=>?_⟩)
   have nf:=Gh.nofp st hl
   have g2:=Gr.new (o:=.tup (List.replicate j.toNat vs).flatten) e1 hl nf
   exact k (.ref l) _ _ g2 (Gh.grow st hl) (Rep.tup_iff.mpr ⟨l,_,rfl,nf,Zav,(rp.rep _).ext g2.ff⟩) (.scal fun z=>z)
  ·cases q
 | .lst ds,.int j,q,rx,ry=>
  have q:(if -(2 ^ 63)<=j/\j<2 ^ 63/\ds.length*j.toNat<=sizeLine then some (D.lst (List.replicate j.toNat ds).flatten) else none)=some c:=q
  split at q
  ·rename_i hz
   cases q
   obtain ⟨p,vs,rfl,np,hp,rp⟩:=Rep.lst_iff.mp rx
   refine .inr (.inr ⟨p,j,vs,rfl,Rep.int_iff.mp ry,e1 _ _ np hp,hz.1,hz.2.1,by rw [<-rp.length];exact hz.2.2,fun l hl=>?_⟩)
   have nf:=Gh.nofp st hl
   have g2:=Gr.new (o:=.lst (List.replicate j.toNat vs).flatten) e1 hl nf
   exact k (.ref l) _ _ g2 (Gh.grow st hl) (Rep.lst_iff.mpr ⟨l,_,rfl,nf,Zav,(rp.rep _).ext g2.ff⟩) (ZaJ.mk e1 hl nf (rp.rep _))
  ·cases q
end
end TF
namespace TF
open PySem PySem.Spec PyProof.Rows L2
section
variable {X:Cx} {G:Gh}
end
end TF
namespace TF
open PySem L2
section
variable {f g:Rho->M D} {ρ:Rho} {s s1:Pn} {a b:Bool} {r:Option (D×Pn)}
theorem ZjU (h:f ρ s=some (.bl true,s1)) (h2:g ρ s1=r):vAnd f g ρ s=r:=by unfold vAnd Zan;rw [h];exact h2
theorem ZjV (h:f ρ s=some (.bl false,s1)):vAnd f g ρ s=some (.bl false,s1):=by unfold vAnd Zan;rw [h];rfl
theorem Ze1 (h:f ρ s=some (.bl a,s)) (h2:a=true->g ρ s=some (.bl b,s)):vAnd f g ρ s=some (.bl (a&&b),s):=by
 cases a with
 | false=>exact ZjV h
 | true=>rw [Bool.true_and];exact ZjU h (h2 rfl)
theorem ZlG (h:f ρ s=some (.bl a,s1)):vNot f ρ s=some (.bl (!a),s1):=by unfold vNot Zan;rw [h];rfl
end
section
variable {f g:Rho->M Bool} {ρ:Rho} {s s1:Pn} {a b:Bool} {r:Option (Bool×Pn)}
theorem Zif (h:f ρ s=some (false,s1)):bAnd f g ρ s=some (false,s1):=by unfold bAnd Zan;rw [h];rfl
theorem Zk3 (h:f ρ s=some (true,s1)) (h2:g ρ s1=r):bAnd f g ρ s=r:=by unfold bAnd Zan;rw [h];exact h2
theorem Ztb (h:f ρ s=some (true,s1)):bOr f g ρ s=some (true,s1):=by unfold bOr Zan;rw [h];rfl
theorem Zid (h:f ρ s=some (false,s1)) (h2:g ρ s1=r):bOr f g ρ s=r:=by unfold bOr Zan;rw [h];exact h2
theorem Zrr (h:f ρ s=some (a,s)) (h2:a=true->g ρ s=some (b,s)):bAnd f g ρ s=some (a&&b,s):=by
 cases a with
 | false=>exact Zif h
 | true=>rw [Bool.true_and];exact Zk3 h (h2 rfl)
end
section
variable {c:Rho->M Bool} {g1 g2:Rho->M Out} {ρ:Rho} {s s1:Pn} {r:Option (Out×Pn)}
theorem ZhD (h:c ρ s=some (true,s1)) (h2:g1 ρ s1=r):sIf c g1 g2 ρ s=r:=by unfold sIf Zan;rw [h];exact h2
theorem ZhE (h:c ρ s=some (false,s1)) (h2:g2 ρ s1=r):sIf c g1 g2 ρ s=r:=by unfold sIf Zan;rw [h];exact h2
end
section
variable {fa fb:Rho->M D} {f:D->Rho->M Bool} {g:D->D->Option D} {ρ:Rho} {s s1 s2:Pn} {d e:D} {k:Bool} {r:Option (Bool×Pn)}
end
theorem eqi (a b:Int):dEqO (.int a) (.int b)=some (.bl (a==b)):=by
 unfold dEqO
 rw [if_pos (by simp [okEq,Zak,dep])]
 simp [dEq]
theorem nei (a b:Int):dNeO (.int a) (.int b)=some (.bl (!(a==b))):=by
 unfold dNeO
 rw [if_pos (by simp [okEq,Zak,dep])]
 simp [dEq]
theorem Zf7 {τ:D->Rho->Option Rho} {body:Rho->M Out} {d:D} {ds:List D} {ρ ρ1 ρ2:Rho} {s s1:Pn} {r:Option (Out×Pn)} (h:τ d ρ=some ρ1) (hb:body ρ1 s=some (.nx ρ2,s1)) (h2:mFor τ body ds ρ2 s1=r):mFor τ body (d::ds) ρ s=r:=by
 unfold mFor Zan mOf
 simp only [h,hb]
 exact h2
theorem Zky {τ:D->Rho->Option Rho} {body:Rho->M Out} {d e:D} {ds:List D} {ρ ρ1:Rho} {s s1:Pn} (h:τ d ρ=some ρ1) (hb:body ρ1 s=some (.rt e,s1)):mFor τ body (d::ds) ρ s=some (.rt e,s1):=by
 unfold mFor Zan mOf
 simp only [h,hb]
 rfl
theorem ZlQ {fi:Rho->M (List D)} {τ:D->Rho->Option Rho} {body:Rho->M Out} {ds:List D} {ρ:Rho} {s s1:Pn} {r:Option (Out×Pn)} (h:fi ρ s=some (ds,s1)) (h2:mFor τ body ds ρ s1=r):sFor fi τ body ρ s=r:=by
 unfold sFor Zan;rw [h];exact h2
theorem ZlL {f:Rho->M D} {ρ:Rho} {s s1:Pn} {ds:List D} (h:f ρ s=some (.tup ds,s1)):Zdk f ρ s=some (ds,s1):=by unfold Zdk Zan;rw [h];rfl
theorem Zb1 {f:Rho->M D} {ρ:Rho} {s s1:Pn} {ds:List D} (h:f ρ s=some (.lst ds,s1)):ZaY f ρ s=some (ds,s1):=by unfold ZaY Zan;rw [h];rfl
end TF
namespace TP
open PySem L2 TF
def ZdW:D->Bool
 | .non=>true | .bl _=>true | .int _=>true | .str _=>true | .tup _=>true | .lst _=>true | _=>false
def tupB:D->Bool | .tup _=>true | _=>false
def intB:D->Bool | .int _=>true | .bl _=>true | _=>false
def Zqe:D->Bool | .bl _=>true | _=>false
def Znk:D->Bool | .int _=>true | _=>false
theorem Zog {d:D} (h:ZdW d=true):dIsi [d,.ty "tuple"]=some (.bl (tupB d)):=by
 cases d <;> first | rfl | cases h
theorem Zra {d:D} (h:ZdW d=true):dIsi [d,.ty "int"]=some (.bl (intB d)):=by
 cases d <;> first | rfl | cases h
theorem ZpA {d:D} (h:ZdW d=true):dIsi [d,.ty "bool"]=some (.bl (Zqe d)):=by
 cases d <;> first | rfl | cases h
theorem Zls {d:D} (h:ZdW d=true) (s:Pn):Zc1 [d] s=some (.bl (Znk d),s):=by
 refine ZaN rfl (ZaE (ZaM ?_))
 have e:Znk d=((intB d) && !(Zqe d)):=by cases d <;> rfl
 rw [e]
 exact Ze1 (ZaR (Zad rfl (Zad rfl rfl)) (Zra h)) fun _=>ZlG (ZaR (Zad rfl (Zad rfl rfl)) (ZpA h))
def ZcN (n:Int):D->Bool | .int i=>decide (0<=i)&&decide (i<n) | _=>false
theorem ZnF {n:Int} {d:D} (h:ZcN n d=true):∃i,d=.int i:=by
 cases d <;> first | exact ⟨_,rfl⟩ | cases h
theorem Zg0 {d:D} (h:ZdW d=true) (n:Int) (s:Pn):ZbW [.int n,d] s=some (.bl (ZcN n d),s):=by
 refine ZaN rfl (ZaE (ZaM ?_))
 have hw:=Zax (ρ:=[some (D.int n),some d]) (F:=Zc1) (fs:=Zac (dVar 1) dNil) (s:=s) (Zad rfl rfl) (Zls h s)
 cases d with
 | int i=>exact ZjU hw (Ze1 (Zah (d:=.int 0) (e:=.int i) rfl rfl rfl) fun _=>Zah (d:=.int i) (e:=.int n) rfl rfl rfl)
 | pen=>cases h
 | ty _=>cases h
 | clo _ _=>cases h
 | dk _=>cases h
 | dt _=>cases h
 | _=>exact ZjV hw
theorem ZbQ {α:Type} (l:List α):l.filter (fun _=>true)=l:=List.filter_eq_self.mpr (by simp)
def p2:D->Int×Int | .tup [.int a,.int b]=>(a,b) | _=>(0,0)
end TP
namespace TF
open PySem L2
section
variable {f:Rho->M D} {fs:Rho->M (List D)} {ρ:Rho} {s:Pn}
theorem Ok.sunp {τ:D->Rho->Option Rho} {Q:Out->Pn->Prop} (h:Ok (f ρ) s fun d s1=>∃ρ',τ d ρ=some ρ'/\Q (.nx ρ') s1):Ok (sUnp τ f ρ) s Q:=
 .bind (h.mono fun d s1 q=>by obtain ⟨ρ',e,q⟩:=q;rw [e];exact .ret q)
end
theorem Zg4 {f:Rho->M D} {fl fh:Rho->M (Option Int)} {ρ:Rho} {s:Pn} {ds:List D} {lo hi:Option Int} (h:f ρ s=some (.tup ds,s)) (hl:fl ρ s=some (lo,s)) (hh:fh ρ s=some (hi,s)):Zfi f fl fh ρ s=some (.tup (cutD ds lo hi),s):=by
 unfold Zfi Zan
 simp only [h,hl,hh]
 rfl
theorem Zir {f:Rho->M D} {ρ:Rho} {s s1:Pn} {i:Int} (h:f ρ s=some (.int i,s1)):Zgs f ρ s=some (some i,s1):=by
 unfold Zgs Zan;rw [h];rfl
end TF
namespace TF
open PySem PySem.Spec PyProof.Rows L2
theorem ZoZ {X:Cx} {GG:Gh->Prop} {ob own own':List Nat} {fr:Bool} {sts:List Stmt} {g:Rho->M Out} (h:∀G,GG G->PDSs X G ob own own' fr sts g):PSs X sts (fun E σ H=>∃G,GG G/\Zm2 G ob own own' fr g E σ H):=by
 intro pins s σ H D I ⟨G,hG,kn,Hf0,H0,ρ,pn,out,pn',j,st,e,po⟩
 obtain ⟨t,p,q⟩:=h G hG
 exact p pins s σ H D I (q kn Hf0 H0 σ H ρ pn out pn' D j st e po)
theorem ZrA {K:PySem.W.Frag} {H:Hp} {a p:Addr} {xs:List V} {o:HO} (sq:SqL K H a xs) (hp:H p=none):SqL K (upd H p o) a xs:=by
 have hne:∀u,H a=some u->a≠p:=fun u e z=>by rw [z,hp] at e;cases e
 rcases sq with (q | ⟨o',q⟩) | q
 ·exact .inl (.inl (by rw [Zap (hne _ q)];exact q))
 ·exact .inl (.inr ⟨o',by rw [Zap (hne _ q)];exact q⟩)
 ·exact .inr q
def inT (L:List (Addr×Str)) (b:Addr):Prop:=∃q,(b,q)∈L
def Zqg (G0:Gh) (L:List (Addr×Str)) (P:Addr) (q:Str) (H:Hp):Prop:=∃ps,H P=some (.tbl ps)/\TriplesOk ps.toList/\∀pos cv,codeAmong pos ps.toList=some cv->∃c',cv=.ref c'/\H c'=some (.ext (codeφ c' q))/\¬G0.fp c'/\¬inT L c'
def Zfk (G0:Gh) (L:List (Addr×Str)):Gh where
 fp:=fun b=>G0.fp b∨inT L b
 rd:=fun b=>G0.rd b∨inT L b
 pen:=G0.pen
 st:=fun s H=>G0.st s H/\∀P q,(P,q)∈L->Zqg G0 L P q H
 mono:=fun s H H' ⟨h1,h2⟩ k1 k2=>⟨G0.mono s H H' h1 (fun b o r=>k1 b o (.inl r)) k2,fun P q m=>by
  obtain ⟨ps,e,t,h⟩:=h2 P q m
  refine ⟨ps,k1 P _ (.inr ⟨q,m⟩) e,t,fun pos cv hc=>?_⟩
  obtain ⟨c',z1,z2,z3⟩:=h pos cv hc
  exact ⟨c',z1,k2 _ _ z2,z3⟩⟩
 sub:=fun b h=>h.elim (fun z=>.inl (G0.sub b z)) .inr
 dom:=fun s H b ⟨h1,h2⟩ hb=>by
  rcases hb with z | ⟨q,m⟩
  ·exact G0.dom s H b h1 z
  ·obtain ⟨ps,e,_⟩:=h2 b q m
   exact ⟨_,e⟩
 ntp:=fun s H b vs ⟨h1,h2⟩ hb=>by
  rcases hb with z | ⟨q,m⟩
  ·exact G0.ntp s H b vs h1 z
  ·obtain ⟨ps,e,_⟩:=h2 b q m
   rw [e];intro z;cases z
theorem ZjF {pos pos':Pos} {c:Value} (l:List Value) (h:TriplesOk l) {cv:Value} (hc:codeAmong pos' (l ++ [rawInt pos.line,rawInt pos.col,c])=some cv):codeAmong pos' l=some cv∨cv=c:=by
 fun_induction TriplesOk l with
 | case1=>
  simp only [List.nil_append,rawInt,codeAmong] at hc
  split at hc
  ·exact .inr (Option.some.inj hc).symm
  ·cases hc
 | case2 a b d e f rest ih=>
  simp only [List.cons_append,codeAmong] at hc ⊢
  split at hc
  ·rename_i h1;rw [if_pos h1];exact .inl hc
  ·rename_i h1;rw [if_neg h1];exact ih h hc
 | case3=>cases h
theorem Zlb {pos:Pos} {c:Value} (l:List Value) (h:TriplesOk l):TriplesOk (l ++ [rawInt pos.line,rawInt pos.col,c]):=by
 fun_induction TriplesOk l with
 | case1=>simp [TriplesOk,rawInt]
 | case2 a b d e f rest ih=>simp only [List.cons_append,TriplesOk];exact ih h
 | case3=>cases h
def LOk (L:List (Addr×Str)):Prop:=∀P q q',(P,q)∈L->(P,q')∈L->q=q'
def PenT (GG0:Gh->Prop) (L:List (Addr×Str)) (G:Gh):Prop:=∃G0,GG0 G0/\(∀b,inT L b->¬G0.rd b)/\G=Zfk G0 L
theorem Zqi {G0:Gh} {L:List (Addr×Str)} {P:Addr} {q:Str} (lo:LOk L) (hrd:∀b,inT L b->¬G0.rd b) (m:(P,q)∈L):TabG P q (Zfk G0 L):=by
 refine ⟨fun s H st=>?_,.inr ⟨q,m⟩,fun s H ps pos c' st hP hc hn=>?_⟩
 ·obtain ⟨ps,e,t,h⟩:=st.2 P q m
  refine ⟨ps,e,t,fun pos cv hc=>?_⟩
  obtain ⟨c',z1,z2,z3,z4⟩:=h pos cv hc
  exact ⟨c',z1,z2,fun z=>z.elim z3 z4⟩
 ·have hcP:c'≠P:=fun z=>by rw [z,hP] at hc;cases hc
  have notL:¬inT L c':=fun ⟨q',m'⟩=>by
   obtain ⟨_,e,_⟩:=st.2 c' q' m'
   rw [hc] at e;cases e
  have k2:∀b φ,H b=some (.ext φ)->upd (upd H P (.tbl (ps ++ #[rawInt pos.line,rawInt pos.col,.ref c']))) c' (.ext (codeφ c' q)) b=some (.ext φ):=fun b φ e=>by
   rw [Zap (Zat e hc),Zap (fun z=>by rw [z,hP] at e;cases e)];exact e
  refine ⟨G0.mono s H _ st.1 (fun b o r e=>?_) k2,fun P' q' m'=>?_⟩
  ·rw [Zap (Zat e hc),Zap (fun z=>hrd P ⟨q,m⟩ (by rw [<-z];exact r))];exact e
  ·by_cases hb:P'=P
   ·subst hb
    have:=lo P' q q' m m'
    subst this
    obtain ⟨ps',e,t,h⟩:=st.2 P' q m
    rw [hP] at e;cases e
    refine ⟨_,by rw [Zap (Ne.symm hcP),Zav],?_,fun pos' cv hcv=>?_⟩
    ·rw [Array.toList_append];exact Zlb _ t
    ·rw [Array.toList_append] at hcv
     rcases ZjF (pos:=pos) _ t hcv with z | z
     ·obtain ⟨c2,z1,z2,z3⟩:=h pos' cv z
      exact ⟨c2,z1,k2 _ _ z2,z3⟩
     ·exact ⟨c',z,Zav,Gh.nofp st.1 hc,notL⟩
   ·obtain ⟨ps',e,t,h⟩:=st.2 P' q' m'
    refine ⟨ps',by rw [Zap (Zat e hc),Zap hb];exact e,t,fun pos' cv hcv=>?_⟩
    obtain ⟨c2,z1,z2,z3⟩:=h pos' cv hcv
    exact ⟨c2,z1,k2 _ _ z2,z3⟩
def Zaz (L:List (Addr×Str)) (G:Gh):Prop:=∀P q,(P,q)∈L->TabG P q G
theorem PenT.tabs {GG0:Gh->Prop} {L:List (Addr×Str)} {G:Gh} (lo:LOk L) (h:PenT GG0 L G):Zaz L G:=by
 obtain ⟨G0,_,hrd,rfl⟩:=h
 exact fun P q m=>Zqi lo hrd m
mutual
theorem Rep.tr {G G':Gh} {H H':Hp} (h:∀a o,¬G.fp a->H a=some o->(∀ps,o≠.tbl ps)->¬G'.fp a/\H' a=some o) (hp:G'.pen=G.pen):∀{d:D} {v:V},Za3 d=true->Rep G H d v->Rep G' H' d v
 | .non,_,_,r=>Rep.non_iff.mpr (Rep.non_iff.mp r)
 | .bl _,_,_,r=>Rep.bl_iff.mpr (Rep.bl_iff.mp r)
 | .int _,_,_,r=>Rep.int_iff.mpr (Rep.int_iff.mp r)
 | .str _,_,_,r=>Rep.str_iff.mpr (Rep.str_iff.mp r)
 | .tup ds,v,n,r=>by
  obtain ⟨a,vs,e1,nf,e2,r⟩:=Rep.tup_iff.mp r
  obtain ⟨z1,z2⟩:=h a _ nf e2 (fun _ z=>by cases z)
  exact Rep.tup_iff.mpr ⟨a,vs,e1,z1,z2,RepL.tr h hp (by simpa [Za3] using n) r⟩
 | .lst ds,v,n,r=>by
  obtain ⟨a,vs,e1,nf,e2,r⟩:=Rep.lst_iff.mp r
  obtain ⟨z1,z2⟩:=h a _ nf e2 (fun _ z=>by cases z)
  exact Rep.lst_iff.mpr ⟨a,vs,e1,z1,z2,RepL.tr h hp (by simpa [Za3] using n) r⟩
 | .dk _,_,_,r=>by
  obtain ⟨a,e1,nf,e2⟩:=Rep.dk_iff.mp r
  obtain ⟨z1,z2⟩:=h a _ nf e2 (fun _ z=>by cases z)
  exact Rep.dk_iff.mpr ⟨a,e1,z1,z2⟩
 | .dt _,_,_,r=>by
  obtain ⟨a,o,e1,nf,e2⟩:=Rep.dt_iff.mp r
  obtain ⟨z1,z2⟩:=h a _ nf e2 (fun _ z=>by cases z)
  exact Rep.dt_iff.mpr ⟨a,o,e1,z1,z2⟩
 | .du _,_,_,r=>by
  obtain ⟨a,e1,nf,e2⟩:=Rep.du_iff.mp r
  obtain ⟨z1,z2⟩:=h a _ nf e2 (fun _ z=>by cases z)
  exact Rep.du_iff.mpr ⟨a,e1,z1,z2⟩
 | .df _,_,_,r=>by
  obtain ⟨a,o,e1,nf,e2⟩:=Rep.df_iff.mp r
  obtain ⟨z1,z2⟩:=h a _ nf e2 (fun _ z=>by cases z)
  exact Rep.df_iff.mpr ⟨a,o,e1,z1,z2⟩
 | .pen,_,_,r=>Rep.pen_iff.mpr ((Rep.pen_iff.mp r).trans hp.symm)
 | .ty _,_,_,r=>Rep.ty_iff.mpr (Rep.ty_iff.mp r)
 | .clo _ _,_,n,_=>by simp [Za3] at n
theorem RepL.tr {G G':Gh} {H H':Hp} (h:∀a o,¬G.fp a->H a=some o->(∀ps,o≠.tbl ps)->¬G'.fp a/\H' a=some o) (hp:G'.pen=G.pen):∀{ds:List D} {vs:List V},Zbe ds=true->RepL G H ds vs->RepL G' H' ds vs
 | [],_,_,r=>RepL.nil_iff.mpr (RepL.nil_iff.mp r)
 | d::ds,vs,n,r=>by
  obtain ⟨v,rr,e,h1,h2⟩:=RepL.cons_iff.mp r
  have n':Za3 d=true/\Zbe ds=true:=by simpa [Zbe] using n
  exact RepL.cons_iff.mpr ⟨v,rr,e,Rep.tr h hp n'.1 h1,RepL.tr h hp n'.2 h2⟩
end
open Classical in
noncomputable def hidL (L:List (Addr×Str)) (H H2:Hp):Hp:=fun b=>if inT L b then H2 b else H b
theorem Zrh {L:List (Addr×Str)} {H H2:Hp} {b:Addr} (h:inT L b):hidL L H H2 b=H2 b:=by unfold hidL;rw [if_pos h]
theorem ZbU {L:List (Addr×Str)} {H H2:Hp} {b:Addr} (h:¬inT L b):hidL L H H2 b=H b:=by unfold hidL;rw [if_neg h]
theorem Zri {P:Program} {w:World} {K:PySem.W.Frag} {mg:Str->Option Value} {base:Heap} {k:Nat} {f:Addr} {fd:FuncData} {ps:List Str} {n:Nat} {fr:Bool} {GG0:Gh->Prop} {L:List (Addr×Str)} {F:List D->M D} (FN:FnOk P w K mg base CX0 k f fd ps (spD n fr GG0 F))
  (hF:∀ds s d s',F ds s=some (d,s')->Zbe ds=true/\Za3 d=true):FnOk P w K mg base CX0 k f fd ps (spD n fr (PenT GG0 L) F):=by
 refine FN.imp fun vs H Q E h=>?_
 obtain ⟨G,Hf,ds,s,d,s',⟨G0,hG0,hrd,rfl⟩,hl,e1,r,st,eF,k⟩:=h
 obtain ⟨n1,n2⟩:=hF _ _ _ _ eF
 have nfp:∀b,inT L b->¬G0.fp b:=fun b m z=>hrd b m (G0.sub b z)
 have e1':Ext G0 (hidL L Hf fun _=>none) H:=fun b o nb q=>by
  by_cases m:inT L b
  ·rw [Zrh m] at q;cases q
  ·rw [ZbU m] at q;exact e1 b o (fun z=>z.elim nb m) q
 refine ⟨G0,hidL L Hf fun _=>none,ds,s,d,s',hG0,hl,e1',RepL.tr (G:=Zfk G0 L) (G':=G0) (fun a o na q _=>?_) rfl n1 r,st.1,eF,fun v Hf' H' g st' r' fz=>?_⟩
 ·have m:¬inT L a:=fun z=>na (.inr z)
  exact ⟨fun z=>na (.inl z),by rw [ZbU m];exact q⟩
 ·have tab:∀b,inT L b->∃ps,H' b=some (.tbl ps):=fun b ⟨q,m⟩=>by
   obtain ⟨ps,e,_⟩:=st.2 b q m
   exact ⟨ps,g.hh b _ (nfp b ⟨q,m⟩) e⟩
  have out:∀a o,¬G0.fp a->Hf' a=some o->(∀ps,o≠.tbl ps)->¬inT L a:=fun a o na q no m=>by
   obtain ⟨ps,e⟩:=tab a m
   rw [g.fh a o na q] at e
   exact no ps (Option.some.inj e)
  have tr:∀a o,¬G0.fp a->Hf' a=some o->(∀ps,o≠.tbl ps)->¬(Zfk G0 L).fp a/\hidL L Hf' Hf a=some o:=fun a o na q no=>by
   have m:=out a o na q no
   exact ⟨fun z=>z.elim na m,by rw [ZbU m];exact q⟩
  refine k v (hidL L Hf' Hf) H' ⟨fun b o nb q=>g.hh b o (fun z=>nb (.inl z)) q,fun b o nb q=>?_,fun b o nb q=>?_,fun b nb q1 q2=>?_⟩ ⟨st',fun P q m=>?_⟩ (Rep.tr (G:=G0) (G':=Zfk G0 L) tr rfl n2 r') fun z a ea mu=>?_
  ·have m:¬inT L b:=fun z=>nb (.inr z)
   rw [ZbU m]
   exact g.ff b o (fun z=>nb (.inl z)) (by rw [ZbU m];exact q)
  ·have m:¬inT L b:=fun z=>nb (.inr z)
   rw [ZbU m] at q
   exact g.fh b o (fun z=>nb (.inl z)) q
  ·have m:¬inT L b:=fun z=>nb (.inr z)
   rw [ZbU m]
   exact g.nw b (fun z=>nb (.inl z)) (by rw [ZbU m];exact q1) q2
  ·obtain ⟨ps,e,t,h⟩:=st.2 P q m
   refine ⟨ps,g.hh P _ (nfp P ⟨q,m⟩) e,t,fun pos cv hc=>?_⟩
   obtain ⟨c',z1,z2,z3,z4⟩:=h pos cv hc
   exact ⟨c',z1,g.hh c' _ z3 z2,z3,z4⟩
  ·obtain ⟨h1,h2⟩:=fz z a ea mu
   refine ⟨h1,fun xs ed=>?_⟩
   obtain ⟨us,Hm,q1,q2,q3,q4⟩:=h2 xs ed
   have na:¬inT L a:=fun m=>by
    obtain ⟨q,m⟩:=m
    obtain ⟨ps,e,_⟩:=st.2 a q m
    rw [h1] at e;cases e
   refine ⟨us,hidL L Hm fun _=>none,by rw [ZbU na];exact q1,by rw [ZbU na];exact q2,fun b o nb q=>?_,?_⟩
   ·have m:¬inT L b:=fun z=>nb (.inr z)
    rw [ZbU m] at q ⊢
    exact q3 b o (fun z=>nb (.inl z)) q
   ·subst ed
    refine RepL.tr (G:=G0) (G':=Zfk G0 L) (fun b o nb q no=>?_) rfl (by simpa [Za3] using n2) q4
    have m:=out b o nb (q3 b o nb q) no
    exact ⟨fun z=>z.elim nb m,by rw [ZbU m];exact q⟩
theorem ZpR {P:Program} {w:World} {K:PySem.W.Frag} {mg:Str->Option Value} {base:Heap} {k:Nat} {x:Str} {n:Nat} {fr:Bool} {GG0:Gh->Prop} {L:List (Addr×Str)} {F:List D->M D} (c:Cal P w K mg base k x n fr GG0 F) (hF:∀ds s d s',F ds s=some (d,s')->Zbe ds=true/\Za3 d=true):Cal P w K mg base k x n fr (PenT GG0 L) F:=
 let ⟨f,fd,ps,a,b,c,d⟩:=c
 ⟨f,fd,ps,Zri a hF,b,c,d⟩
theorem ZpI {N ps:List Str} {own:List Nat} {fr:Bool} {G:Gh} {t:TS} {g:Rho->M Out} {vs:List V} {ds:List D} {Hf H:Hp} {pn pn':Pn} {d:D} {Q:VK} (hpl:ps.length<=N.length) (q:Dos G [] [] own fr t g) (e1:Ext G Hf H) (r:RepL G Hf ds vs) (st':G.st pn H) (eF:runB N.length ps.length g ds pn=some (d,pn'))
  (k':∀v Hf' H',Gr G Hf H Hf' H'->G.st pn' H'->Rep G Hf' d v->(fr=true->ZaJ G H Hf' d v)->Q v H'):t { nx:=fun _ H'=>Q .non H',rt:=Q } (L2.start N vs) H:=by
 obtain ⟨hl,a0⟩:=Za7 eF
 obtain ⟨o,s1,a1,a2⟩:=Zai a0
 have j0:Jf G [] Hf Hf H (L2.start N vs) Hf H (ds.map some++List.replicate (N.length-ps.length) none):=by
  refine ⟨?_,.refl _ _,.refl e1,fun i d n e=>?_,fun i d m e=>absurd m (by simp),fun i j a di dj mi mj n e=>absurd mi (by simp)⟩
  ·have:=r.length
   unfold L2.start;simp;omega
  ·have hi:i<ds.length:=by
    by_cases hi:i<ds.length
    ·exact hi
    ·rw [List.getElem?_append_right (by simpa using hi),List.getElem?_replicate] at e
     split at e <;> cases e
   have e':ds[i]?=some d:=by
    rw [List.getElem?_append_left (by simpa using hi),List.getElem?_map] at e
    cases q:ds[i]? with
    | none=>rw [q] at e;cases e
    | some c=>rw [q] at e;simp at e;rw [e]
   obtain ⟨v,h1,h2⟩:=r.get e'
   refine ⟨v,?_,h2⟩
   unfold L2.start
   rw [List.getElem?_append_left (by simp;rw [<-r.length];exact hi),List.getElem?_map,h1]
   rfl
 refine q Hf Hf H (L2.start N vs) H _ pn o s1 _ ⟨Hf,j0⟩ st' a1 ?_
 cases o with
 | rt c=>
  obtain ⟨rfl,rfl⟩:=Zaq a2
  exact fun v Hf' H' g' st2 r2 fz=>k' v Hf' H' g' st2 r2 fz
 | nx ρ'=>
  obtain ⟨rfl,rfl⟩:=Zaq a2
  exact fun σ' H' ⟨Hf',j'⟩ st2=>k' .non Hf' H' j'.gr st2 (Rep.non_iff.mpr rfl) fun _=>.scal fun z=>z
 | bk ρ'=>cases a2
 | ct ρ'=>cases a2
theorem fnDC {P:Program} {w:World} {K:PySem.W.Frag} {mg:Str->Option Value} {base:Heap} {x qual:Str} {st:Stmt} {f:Addr} {fd:FuncData} {N ps:List Str} {k:Nat} {own:List Nat} {fr:Bool} {GG:Gh->Prop} {g:Rho->M Out}
  (F:Fun K x qual st f fd) (S:FnScope N ps (Zal st))
  (hb:∀(A:Around) (outer:List Env) (s:Shared) (H:Hp) (E:XK),Room k (A.deeper (envOfC qual (Zal st) s.heap.objs.size f fd.code))->∀G,GG G->PDSs (cxOf CX0 P w K mg base N qual (Zal st) f fd.code A outer s H E).nox G [] [] own fr (Zb9 st) g) :
  FnOk P w K mg base CX0 (k+1) f fd ps (spD ps.length fr GG (runB N.length ps.length g)):=by
 obtain ⟨oc,od,kV,doc,pm,an,cdv,ct,osl,rfl,lk,hcd⟩:=F.ex
 refine Zqb lk hcd S (fun vs H Q E ⟨_,_,_,_,_,_,_,e,_⟩=>e) fun A outer s H vs Q E hr h=>?_
 obtain ⟨G,Hf,ds,pn,d,pn',hG,el,e1,r,st',eF,k'⟩:=h
 obtain ⟨t,p,q⟩:=hb A outer s H E hr G hG
 exact ⟨t,p.nox,ZpI (by have:=congrArg List.length S.pre;rw [List.length_take] at this;omega) q e1 r st' eF k'⟩
section
variable {X:Cx} {G:Gh} {P c:Addr} {q:Str} {k kl n:Nat} {x:Str} {fr frb:Bool} {F:List D->M D} {T:Nat->List D->M D} {t:Nat} {e1:Expr} {f1:Rho->M D} {r1:Bool} {params:Arguments} {scope:Scope} {lpos ppos pos:Pos} {XN N ps:List Str} {NS:List (Str×NameKind)} {cix:List Nat}
end
def BMn (mg:Str->Option Value) (h:Heap):Prop:=∃bm o,mg "__builtins__" = some (.ref bm)/\bm≠builtinsNs/\bm≠mainGlobals/\h.get? bm=some o/\o.cls=.type "module"/\o.dict=some builtinsNs/\o.data=.plain
theorem Zn3 {P:Program} {w:World} {K:PySem.W.Frag} {mg mb:Str->Option Value} {CX:CXT} {k:Nat} {fa a:Addr} {fd:FuncData} {x:Str} {sp:Sp} {s₁:Shared} {vs:List Value} {ns:List Int} {tb:List (Addr×Addr)}
  (KX:K.In s₁.heap) (hns:s₁.heap.Ns mainGlobals mg) (hb:s₁.heap.Ns builtinsNs mb) (hbb:∀x:Str,x≠"__name__"->mb x=bootBuiltins x) (hlim:s₁.heap.NoLimit) (hg:s₁.gens = #[])
  (hT:∀e∈tb,PySem.W.CodeHd s₁.heap e.1 e.2/\s₁.heap.get? e.2=some (PySem.W.tabObj #[])) (hKt:PySem.W.noTabs K=true) (hbm:BMn mg s₁.heap)
  (ha:s₁.heap.get? a=some { cls:=.type "list",data:=.seq vs.toArray }) (hi:IntsAre vs ns) (hl:ns.length<=sizeLine) (hr:Room k callerA)
  (F:∀base:Heap,K.In base->base.Ns mainGlobals mg->(∀e∈tb,PySem.W.CodeHd base e.1 e.2)->BMn mg base->FnOk P w K mg base CX k fa fd [x] sp) (hbind:∀(s:Shared) (u:Value),BindsTo s fd ⟨[u],[]⟩ [(x,u)])
  (hsp:∀H:Hp,SqL K H a (ns.map V.int)->(∀e∈tb,H e.2=some (.tbl #[]))->sp [.ref a] H (fun v _=>v=.bl true) fun _ _ _=>False)
  (hCX:∀H e s',CX [] H s₁ (fun _ _ _=>False) e s'->False) :
  codeAny (model P w) callerA (.call (.ref fa) ⟨[.ref a],[]⟩) (fun r s'=>r=.ok (.ret (.bool true))/\OldK s₁.heap s'.heap/\s'.os=s₁.os/\AllBare s'.gens) s₁:=by
 have rv:=ZiM hi
 have lenV:=hi.length
 have tabne:∀e∈tb,e.2≠a:=fun e he z=>by
  have:=(hT e he).2
  rw [z,ha] at this;cases this
 have noK:∀e∈tb,K.lookup e.2=none:=fun e he=>by
  cases q:K.lookup e.2 with
  | none=>rfl
  | some o=>
   have h2:=List.all_eq_true.mp hKt (e.2,o) (PySem.W.mem_of_lookupK q)
   have e1:=KX _ _ q
   rw [(hT e he).2] at e1
   cases e1
   exact absurd (show false=true from h2) Bool.false_ne_true
 have core:∀H:Hp,(∀b u,H b=some u->(b=a/\u=.frz { cls:=.type "list",data:=.seq vs.toArray } (.lst (ns.map V.int))/\K.lookup a=none)∨(u=.tbl #[]/\∃e∈tb,e.2=b))->SqL K H a (ns.map V.int)->(∀e∈tb,H e.2=some (.tbl #[]))->
   codeAny (model P w) callerA (.call (.ref fa) ⟨[.ref a],[]⟩) (fun r s'=>r=.ok (.ret (.bool true))/\OldK s₁.heap s'.heap/\s'.os=s₁.os/\AllBare s'.gens) s₁:=by
  intro H hO hS hTb
  have hok:HOk P w H s₁.heap:=fun b u e=>by
   rcases hO b u e with ⟨rfl,rfl,_⟩ | ⟨rfl,e',he,rfl⟩
   ·exact ⟨ha,by rw [List.length_map];exact hl,vs,_,rv,ha⟩
   ·exact (hT e' he).2
  have base_of:∀{b:Addr} {o:Obj},s₁.heap.get? b=some o->H b=none->(hidT s₁.heap H).get? b=some o:=fun e n=>ZpG e n
  have noA:∀{b:Addr} {o:Obj},s₁.heap.get? b=some o->(∀vs n,o.data≠.seq vs n)->(∀vs,o.data≠.fields vs∨o.cls≠.none)->H b=none:=fun {b o} e d1 d2=>by
   cases q:H b with
   | none=>rfl
   | some u=>
    rcases hO b u q with ⟨rfl,_,_⟩ | ⟨_,e',he,rfl⟩
    ·rw [ha] at e;cases e;exact absurd rfl (d1 _ _)
    ·rw [(hT e' he).2] at e;cases e
     rcases d2 #[] with z | z
     ·exact absurd rfl z
     ·exact absurd rfl z
  have nsK:∀{b:Addr} {m:Str->Option Value},s₁.heap.Ns b m->(hidT s₁.heap H).Ns b m:=fun {b m} ⟨o,es,ep,e,d,r⟩=>⟨o,es,ep,base_of e (noA e (fun _ _ z=>by rw [d] at z;cases z) fun _=>.inl fun z=>by rw [d] at z;cases z),d,r⟩
  have hKb:K.In (hidT s₁.heap H):=fun b o e=>base_of (KX b o e) (by
   cases q:H b with
   | none=>rfl
   | some u=>
    rcases hO b u q with ⟨rfl,_,z⟩ | ⟨_,e',he,rfl⟩
    ·rw [z] at e;cases e
    ·rw [noK e' he] at e;cases e)
  have hM:Mod K mg (hidT s₁.heap H):=⟨hKb,nsK hns,⟨mb,nsK hb,hbb⟩,let ⟨mc,h1,h2⟩:=hlim;⟨mc,nsK h1,h2⟩⟩
  have e0:Env0 P w K mg (hidT s₁.heap H) callerA [] s₁ H:=⟨rfl,hM,fun b o e=>ZqY e,Nat.le_of_eq (Zon _ _),trivial,fun b hb=>absurd (show b∈([]:List Addr) from hb) (by simp),hok,.of_eq hg⟩
  have hCd:∀e∈tb,PySem.W.CodeHd (hidT s₁.heap H) e.1 e.2:=fun e he=>by
   obtain ⟨o,vs',file,tf,flags,tg,inF,text,tt,e1,r1,r2,r3⟩:=(hT e he).1
   exact ⟨o,vs',file,tf,flags,tg,inF,text,tt,base_of e1 (noA e1 (fun _ _ z=>by rw [r2] at z;cases z) fun _=>.inr (by rw [r1];nofun)),r1,r2,r3⟩
  have hBm:BMn mg (hidT s₁.heap H):=by
   obtain ⟨bm,o,e1,e2,e3,e4,e5,e6,e7⟩:=hbm
   exact ⟨bm,o,e1,e2,e3,base_of e4 (noA e4 (fun _ _ z=>by rw [e7] at z;cases z) fun _=>.inl fun z=>by rw [e7] at z;cases z),e5,e6,e7⟩
  refine codeAny_mono ((F _ hKb (nsK hns) hCd hBm).run callerA [] s₁ H ⟨[.ref a],[]⟩ [.ref a] [.ref a] _ _ hr e0 (hbind s₁ (.ref a)) (.cons rfl .nil) (hsp H hS hTb)) fun r s' h=>?_
  cases r with
  | error e=>exact (hCX H e s' h).elim
  | ok fl=>
   cases fl with
   | next=>exact False.elim h
   | brk=>exact False.elim h
   | cont=>exact False.elim h
   | ret u=>
    obtain ⟨v,H',os,bare,un,hok',r',q⟩:=h
    have q':v=.bl true:=q
    subst q'
    obtain rfl:u=Value.bool true:=r'
    refine ⟨rfl,⟨fun b o e=>?_,fun b o e=>un.there b o e (by simp)⟩,os,bare⟩
    cases q:H b with
    | none=>exact .inl (un.keep b o e q (by intro z;exact absurd (show b∈([]:List Addr) from z) (by simp)) (by simp))
    | some u=>
     rcases hO b u q with ⟨rfl,rfl,_⟩ | ⟨rfl,e',he,rfl⟩
     ·have z2:=un.frzs b _ _ q
      obtain ⟨e1,_⟩:=hok b _ q
      obtain ⟨e2,_⟩:=hok' b _ z2
      rw [e] at e1;cases e1
      exact .inl e2
     ·obtain ⟨more,z⟩:=un.tbls _ _ q
      have z2:s'.heap.get? e'.2=some (PySem.W.tabObj (#[]++more)):=hok' _ _ z
      have e1:=(hT e' he).2
      rw [e] at e1;cases e1
      exact .inr (.inl ⟨((hT e' he).1.tab (hT e' he).2).isCodeTable,rfl,#[],more,rfl,z2⟩)
 cases hk:K.lookup a with
 | some o=>
  have e:=KX a o hk
  rw [ha] at e
  cases e
  refine core (fun b=>open Classical in if ∃e∈tb,e.2=b then some (.tbl #[]) else none) (fun b u z=>?_) (.inr ⟨_,vs.toArray,_,hk,rfl,rfl,rfl,by rw [List.size_toArray,lenV];exact hl,by simpa using rv⟩) (fun e he=>if_pos ⟨e,he,rfl⟩)
  by_cases h:∃e∈tb,e.2=b
  ·rw [if_pos h] at z;cases z;exact .inr ⟨rfl,h⟩
  ·rw [if_neg h] at z;cases z
 | none=>
  refine core (fun b=>open Classical in if ∃e∈tb,e.2=b then some (.tbl #[]) else if b=a then some (.frz { cls:=.type "list",data:=.seq vs.toArray } (.lst (ns.map V.int))) else none) (fun b u z=>?_) (.inl (.inr ⟨{ cls:=.type "list",data:=.seq vs.toArray },?_⟩)) (fun e he=>if_pos ⟨e,he,rfl⟩)
  ·by_cases h:∃e∈tb,e.2=b
   ·rw [if_pos h] at z;cases z;exact .inr ⟨rfl,h⟩
   ·rw [if_neg h] at z
    by_cases hb:b=a
    ·rw [if_pos hb] at z;cases z;exact .inl ⟨hb,rfl,hk⟩
    ·rw [if_neg hb] at z;cases z
  ·show (if ∃e∈tb,e.2=a then _ else _)=_
   rw [if_neg (fun ⟨e,he,z⟩=>tabne e he z),if_pos rfl]
theorem ZoQ {l : PySem.W.OpenLaw} {n k : Nat} {q : Program} {loose : List Str} {XP : (Str -> Option Value) -> Heap -> Prop} {YP : World -> Heap -> Prop} {d : DefRec} {K : Params -> PySem.W.Frag} {CX : World -> CXT} {sp : World -> Sp} {x : Str} {tb : List (Str × Addr × Addr)}
    (hn : l.most = some n) (hn2 : n <= sizeLine) (hdf : d.params.defaults = []) (hr : Room k callerA)
    (hY : ∀ (w : World) (h : Heap), YP w h -> (K w.params).In h)
    (hrec : ∀ e ∈ tb, ∃ d, (recsOf q).find? (fun r => r.name == e.1) = some d) (htab : ∀ w : World, ∀ e ∈ tb, PySem.W.tabIn (K w.params) e.1 = some e.2) (hno : ∀ w : World, PySem.W.noTabs (K w.params) = true)
    (F : ∀ (w : World) (mg : Str -> Option Value) (fa : Addr) (h : Heap), (K w.params).In h -> h.Ns mainGlobals mg -> mg d.name = some (.ref fa) ->
      ∃ fd : FuncData, (∀ (s : Shared) (u : Value), BindsTo s fd ⟨[u], []⟩ [(x, u)]) /\
        ∀ base : Heap, (K w.params).In base -> base.Ns mainGlobals mg -> (∀ e ∈ tb, PySem.W.CodeHd base e.2.1 e.2.2) -> BMn mg base -> FnOk l.prog w (K w.params) mg base (CX w) k fa fd [x] (sp w))
    (hsp : ∀ (w : World) (H : Hp) (a : Addr) (ns : List Int), ns.length <= n -> SqL (K w.params) H a (ns.map V.int) -> (∀ e ∈ tb, H e.2.2 = some (.tbl #[])) -> sp w [.ref a] H (fun v _ => v = .bl true) fun _ _ _ => False)
    (hCX : ∀ (w : World) (H : Hp) (s : Shared) (e : Value) (s' : Shared), CX w [] H s (fun _ _ _ => False) e s' -> False) :
    PySem.W.WalkO q loose XP YP l.row.toRowW d [] (fun f vs => PySem.call f vs) := by
  refine Att.attach_call hn hdf fun w s₀ s₁ mg mb fa o pm cd doc a vs ns G Y ho hd hcd hmg hobj hints hlen hg => ?_
  have KX := hY w _ Y
  obtain ⟨fd, hb, hF⟩ := F w mg fa _ KX G.T.g hmg
  have hT : ∀ e ∈ tb.map (·.2), PySem.W.CodeHd s₁.heap e.1 e.2 /\ s₁.heap.get? e.2 = some (PySem.W.tabObj #[]) := fun e he => by
    obtain ⟨e', he', rfl⟩ := List.mem_map.mp he
    obtain ⟨d', hd'⟩ := hrec e' he'
    exact PySem.W.tab_of G.T KX hd' (htab w e' he')
  exact Zn3 (tb := tb.map (·.2)) KX G.T.g G.T.b G.T.builtins G.T.nolimit hg hT (hno w) (let ⟨bm, ob, a, b, c, d, e, f⟩ := G.T.bmain; ⟨bm, ob, a, b, (fun z => by
      obtain ⟨o, es, ep, e', hd', _⟩ := G.T.g
      rw [z, e'] at c; cases c; rw [hd'] at f; cases f), c, d, e, f⟩) hobj hints (Nat.le_trans hlen hn2) hr
    (fun base h1 h2 h3 h4 => hF base h1 h2 (fun e he => h3 e.2 (List.mem_map_of_mem (f := (·.2)) he)) h4) hb (fun H hS hTb => hsp w H a ns hlen hS fun e he => hTb e.2 (List.mem_map_of_mem (f := (·.2)) he)) fun H e s' => hCX w H s₁ e s'
end TF
namespace L2
open PySem PySem.Spec PyProof.Rows
section
variable {X:Cx} {pins:List (Addr×Obj)} {σ:St} {H:Hp} {s:Shared} {h':Heap}
end
end L2
namespace TF
open PySem PySem.Spec PyProof.Rows L2
section
variable {X:Cx} {G:Gh}
end
section
variable {X:Cx} {G:Gh}
def maxI (n:Int) (r:List Int):Int:=r.foldl max n
theorem Zq3 (r:List Int):∀n,n<=maxI n r/\∀a∈r,a<=maxI n r:=by
 induction r with
 | nil=>intro n;exact ⟨Int.le_refl _,by simp⟩
 | cons b r ih=>
  intro n
  obtain ⟨h1,h2⟩:=ih (max n b)
  refine ⟨?_,fun a ha=>?_⟩
  ·show n<=maxI (max n b) r;omega
  ·show a<=maxI (max n b) r
   rcases List.mem_cons.mp ha with rfl | ha
   ·omega
   ·exact h2 a ha
theorem Zpv (r:List Int):∀n,maxI n r∈n::r:=by
 induction r with
 | nil=>intro n;simp [maxI]
 | cons b r ih=>
  intro n
  have h:=ih (max n b)
  show maxI (max n b) r∈n::b::r
  rcases List.mem_cons.mp h with h | h
  ·rw [h]
   rcases Int.le_total n b with z | z
   ·rw [Int.max_eq_right z];simp
   ·rw [Int.max_eq_left z];simp
  ·exact List.mem_cons_of_mem _ (List.mem_cons_of_mem _ h)
theorem Zkv {n M:Int} {r:List Int} (h1:M∈n::r) (h2:∀a∈n::r,a<=M):M=maxI n r:=by
 obtain ⟨g1,g2⟩:=Zq3 r n
 have g3:=h2 _ (Zpv r n)
 have g4:M<=maxI n r:=by
  rcases List.mem_cons.mp h1 with h | h
  ·rw [h];exact g1
  ·exact g2 M h
 omega
def ZjO:List D->Option D
 | [.lst ds]=>match Zau ds with | some (n::r)=>some (.int (maxI n r)) | _=>none
 | _=>none
theorem ZoI (hc:X.calm=true):ZbY X (.builtin "max") (fun xs H Q=>∃p n r,xs=[.ref p]/\SqL X.K H p ((n::r).map V.int)/\Q (.int (maxI n r)) H):=by
 intro pins s σ H xs us Q I r h
 obtain ⟨p,n,rr,rfl,hp,q⟩:=h
 obtain ⟨u,rfl,ru⟩:=Zcj r
 cases ru
 obtain ⟨its,rv,pl,hz⟩:=I.list hp
 have hi:IntsAre its (n::rr):=Zbq rv
 obtain ⟨xs,e⟩:=hi.allInts.items
 have hns:n::rr=xs.toList.map (·.1):=by rw [<-hi.numsOf,<-nums_intItems,<-e]
 have hl:=pl.isList
 rw [e] at hl
 have hsz:0<xs.size:=by
  have h3:0<(n::rr).length:=by simp
  rw [hns,List.length_map,Array.length_toList] at h3;exact h3
 refine max_intList (I.ok.hd hc) hl hsz fun v h' tk hv hk=>?_
 obtain ⟨t,rfl⟩:=intItems_at hv
 obtain ⟨h1,h2⟩:=argBest_gt (numAt xs) (xs.size-1)
 have e2:numAt xs (argBest (fun i j=>decide (numAt xs i > numAt xs j)) (xs.size-1))=maxI n rr:=by
  refine Zkv ?_ fun a ha=>?_
  ·rw [hns,numAt_eq];exact getD_mem (by rw [List.length_map,Array.length_toList];omega)
  ·rw [hns] at ha
   obtain ⟨j,hj,rfl⟩:=mem_getD ha
   rw [List.length_map,Array.length_toList] at hj
   rw [<-numAt_eq];exact h2 j (by omega)
 rw [e2]
 exact ⟨.int (maxI n rr),H,I.kept (t':=tk) hk,⟨_,rfl⟩,q⟩
theorem Znd (hc:X.calm=true):Zcl X G (.builtin "max") ZjO:=
 ⟨_,ZoI hc,fun Hf H s xs ds c Q e1 st r q k=>by
  match ds,q,r with
  | [.lst es],q,r=>
   have q:(match Zau es with | some (n::r)=>some (D.int (maxI n r)) | _=>none)=some c:=q
   cases he:Zau es with
   | none=>rw [he] at q;cases q
   | some ns=>
    cases ns with
    | nil=>rw [he] at q;cases q
    | cons n rr=>
     rw [he] at q
     cases q
     obtain ⟨v,rfl,rv⟩:=RepL.one_inv r
     obtain ⟨p,vs,rfl,np,hp,rp⟩:=Rep.lst_iff.mp rv
     rw [Zbv he] at rp
     rw [RepL.ints rp] at hp
     exact ⟨p,n,rr,rfl,SqL.of (e1 _ _ np hp),k _ Hf H (.refl e1) st (Rep.int_iff.mpr rfl) (.scal fun z=>z)⟩⟩
end
theorem Ze9:∀{a b:List Int},a.Perm b->a.Pairwise (·<=·)->b.Pairwise (·<=·)->a=b
 | [],b,p,_,_=>(List.nil_perm.mp p).symm
 | x::a,[],p,_,_=>absurd p.length_eq (by simp)
 | x::a,y::b,p,ha,hb=>by
  have ha':=List.pairwise_cons.mp ha
  have hb':=List.pairwise_cons.mp hb
  have e:x=y:=by
   have h1:x∈y::b:=p.mem_iff.mp (by simp)
   have h2:y∈x::a:=p.mem_iff.mpr (by simp)
   rcases List.mem_cons.mp h1 with h1 | h1
   ·exact h1
   ·rcases List.mem_cons.mp h2 with h2 | h2
    ·exact h2.symm
    ·have:=hb'.1 x h1
     have:=ha'.1 y h2
     omega
  subst e
  rw [Ze9 (List.Perm.cons_inv p) ha'.2 hb'.2]
def Zde (ns:List Int):List Int:=ns.mergeSort fun a b=>decide (a<=b)
theorem Zhy (ns:List Int):(Zde ns).Perm ns:=List.mergeSort_perm ns _
theorem ZjW (ns:List Int):(Zde ns).Pairwise (·<=·):=by
 have h:=List.pairwise_mergeSort (le:=fun (a b:Int)=>decide (a<=b)) (fun a b c h1 h2=>by simp at h1 h2 ⊢;omega) (fun a b=>by simp;omega) ns
 exact h.imp fun h=>by simpa using h
theorem Zhx {a ns:List Int} (p:a.Perm ns) (h:a.Pairwise (·<=·)):a=Zde ns:=Ze9 (p.trans (Zhy ns).symm) h (ZjW ns)
section
variable {X:Cx} {G:Gh}
theorem ZfP:∀{vs:List Value} {ns:List Int},IntsAre vs ns->Vals (ns.map V.int) vs
 | _,_,.nil=>.nil
 | _,_,.cons n t r=>.cons ⟨t,rfl⟩ (ZfP r)
theorem Zm8:ZbY X (.builtin "sorted") (fun xs H Q=>∃(p:Addr) (ns:List Int),xs=[.ref p]/\SqL X.K H p (ns.map V.int)/\ns.length<64/\∀l,H l=none->Q (.ref l) (upd H l (.lst ((Zde ns).map V.int)))):=by
 intro pins s σ H xs us Q I r h
 obtain ⟨p,ns,rfl,hp,h64,q⟩:=h
 obtain ⟨u,rfl,ru⟩:=Zcj r
 cases ru
 obtain ⟨its,rv,pl,hz⟩:=I.list hp
 have hi:IntsAre its ns:=Zbq rv
 have hl:=rv.length
 rw [List.length_map] at hl
 refine sorted_ints pl.isList hi (by omega) fun out ns' a1 a2 a3=>?_
 obtain ⟨e,he⟩:=sortedAll_at s.heap its out
 have eo:out=out.toList.toArray:=by simp
 rw [eo] at he
 have en:=Zhx a2 a3
 subst en
 have hle:s.heap.objs.size<=s.heap.objs.size+1:=Nat.le_succ _
 refine ⟨.ref (s.heap.objs.size+1),_,I.laid (a:=s.heap.objs.size+1) (o:=.lst ((Zde ns).map V.int)) (t':=s.toks) (fun _ _=>sortedAll_old) hle ⟨?_,out.toList,e,ZfP a1,he⟩,rfl,q _ (I.hok.fresh hle)⟩
 rw [List.length_map,(Zhy ns).length_eq,sizeLine_eq]
 omega
def ZgC:List D->Option D
 | [.lst ds]=>match Zau ds with | some ns=>if ns.length<64 then some (.lst ((Zde ns).map .int)) else none | none=>none
 | _=>none
theorem ZeK {Hf:Hp}:∀ns:List Int,RepL G Hf (ns.map D.int) (ns.map V.int)
 | []=>RepL.nil_iff.mpr rfl
 | n::ns=>.cons (Rep.int_iff.mpr rfl) (ZeK ns)
theorem ZkZ:Zcl X G (.builtin "sorted") ZgC:=
 ⟨_,Zm8,fun Hf H s xs ds c Q e1 st r q k=>by
  match ds,q,r with
  | [.lst es],q,r=>
   have q:(match Zau es with | some ns=>if ns.length<64 then some (D.lst ((Zde ns).map .int)) else none | none=>none)=some c:=q
   cases he:Zau es with
   | none=>rw [he] at q;cases q
   | some ns=>
    rw [he] at q
    have q:(if ns.length<64 then some (D.lst ((Zde ns).map .int)) else none)=some c:=q
    split at q
    ·rename_i h64
     cases q
     obtain ⟨v,rfl,rv⟩:=RepL.one_inv r
     obtain ⟨p,vs,rfl,np,hp,rp⟩:=Rep.lst_iff.mp rv
     rw [Zbv he] at rp
     rw [RepL.ints rp] at hp
     refine ⟨p,ns,rfl,SqL.of (e1 _ _ np hp),h64,fun l hl=>?_⟩
     have nf:=Gh.nofp st hl
     have g2:=Gr.new (o:=.lst ((Zde ns).map V.int)) e1 hl nf
     exact k (.ref l) _ _ g2 (Gh.grow st hl) (Rep.lst_iff.mpr ⟨l,_,rfl,nf,Zav,ZeK _⟩) (ZaJ.mk e1 hl nf (ZeK _))
    ·cases q⟩
end
end TF
namespace HT
open PySem PySem.Spec PyProof.Rows
section
variable {prog:Program} {w:World} {A:Around} {E:Value->Shared->Prop} {s:Shared}
end
end HT
namespace TF
open PySem PySem.Spec PyProof.Rows L2
section
variable {X:Cx} {G:Gh}
end
end TF
namespace L2
open PySem PySem.Spec PyProof.Rows
open AutoSeq1 (wpAny_loadPart')
section
variable {prog:Program} {w:World} {A:Around} {E:Value->Shared->Prop} {s:Shared}
end
end L2
namespace TF
open PySem PySem.Spec PyProof.Rows L2
section
variable {X:Cx} {G:Gh}
end
section
variable {X:Cx} {G:Gh}
def dNeg (f:Rho->M D):Rho->M D:=fun ρ=>Zan (f ρ) fun d=>match d with | .int i=>mret (.int (-i)) | _=>ZaB
theorem ZlT {a:Expr} {pos:Pos} {f:Rho->M D} {r1:Bool} (ha:PD X G r1 a f):PD X G true (.UnaryOp .USub a pos) (dNeg f):=by
 obtain ⟨t,p,q⟩:=ha.drop
 refine ⟨_,ZsY Zrv p,fun σ Hf H ρ s d s' Q e1 e2 e3 e4 k=>?_⟩
 obtain ⟨d0,s1,a1,a2⟩:=Zai e4
 refine q σ Hf H ρ s d0 s1 _ e1 e2 e3 a1 fun v Hf1 H1 g1 st1 r1=>?_
 match d0,a2,r1 with
 | .int i,a2,r1=>
  obtain ⟨rfl,rfl⟩:=Zaq a2
  exact ⟨i,Rep.int_iff.mp r1,k _ Hf1 H1 g1 st1 (Rep.int_iff.mpr rfl) fun _=>.scal fun z=>z⟩
end
end TF
namespace L2
open PySem PySem.Spec PyProof.Rows
section
variable {prog:Program} {w:World} {A:Around} {E:Value->Shared->Prop} {s:Shared}
theorem ZpQ {t:Addr} {vs:List Value} {Q:List Value->Shared->Prop} (ht:s.heap.IsTuple t vs.toArray) (k:Q vs { s with heap:=(s.heap.push (seqObj "list" #[] 0)).update s.heap.objs.size (Obj.mapSeq (· ++ vs.toArray)) }) (hz:vs.length<=sizeLine):wpAny (model prog w) A (collect (.ref t)) Q E s:=by
 obtain ⟨o,ho,hc,n,hd⟩:=id ht
 unfold collect;refine wpAny_bind (wpAny_runValue (codeAny_builtin entry_proto_collect' ?_));show wpAny _ _ (do again (.builtin "list.__iadd__" ⟨[<-newList [],.ref t],[]⟩)) _ _ s
 refine wpAny_bind (wpAny_newList (wpAny_pure ⟨Code.quiet_builtin _ (by decide +kernel),codeAny_builtin entry_list_iadd' ?_⟩));show wpAny _ _ (Builtin.List.listExtendWith (.ref s.heap.objs.size) (.ref t) (.ref s.heap.objs.size)) _ _ { s with heap:=s.heap.push (seqObj "list" #[] 0) }
 unfold Builtin.List.listExtendWith;have ho':(s.heap.push (seqObj "list" #[] 0)).get? t=some o:=Heap.get?_push_of_some _ ho
 refine wpAny_bind (wpAny_typeOf (T:="tuple") ⟨o,ho',hc⟩ ?_);have hb:(Value.type "tuple" == Value.type "tuple")=true:=by rfl
 rw [if_pos (by rw [hb];simp)];refine wpAny_bind (listItems_at ho' hd ?_);refine wpAny_bind (listItems_at (xs:=#[]) (n:=0) (Heap.get?_push_size _ rfl) rfl ?_);rw [if_neg (by simp)]
 refine wpAny_bind (listUpdate_at (xs:=#[]) (n:=0) (Heap.get?_push_size _ rfl) rfl ?_ (Nat.zero_le _) (by show (#[]++vs.toArray).size<=sizeLine+1;simp only [Array.size_append,List.size_toArray,List.length_nil];omega));refine wpAny_pure ?_
 show wpAny (model prog w) A (do let o<-load s.heap.objs.size;match o.data with | .seq xs _=>pure xs.toList | _=>unsupported "internal:collect") Q E { s with heap:=(s.heap.push (seqObj "list" #[] 0)).update s.heap.objs.size (Obj.mapSeq (· ++ vs.toArray)) }
 refine wpAny_bind (wpAny_load (get?_update_seq (Heap.get?_push_size _ rfl) _) ?_);show wpAny _ _ (pure ((#[]:Array Value)++vs.toArray).toList) Q E _;rw [show ((#[]:Array Value)++vs.toArray).toList=vs by simp];exact wpAny_pure k
end
end L2
namespace TF
open PySem PySem.Spec PyProof.Rows L2
section
variable {X:Cx} {G:Gh}
end
end TF
namespace L2
open PySem PySem.Spec PyProof.Rows
end L2
namespace TF
open PySem PySem.Spec PyProof.Rows L2
section
variable {X:Cx} {G:Gh}
end
end TF
namespace L2
open PySem PySem.Spec PyProof.Rows
section
variable {prog:Program} {w:World} {A:Around} {E:Value->Shared->Prop} {s:Shared} {o:Obj} {es:Array DictEntry} {d it:Addr} {ep i:Nat}
end
section
variable {X:Cx} {tg:Expr}
end
end L2
namespace TF
open PySem PySem.Spec PyProof.Rows L2
section
variable {X:Cx} {G:Gh}
end
end TF
namespace L2
open PySem PySem.Spec PyProof.Rows
section
variable {prog:Program} {w:World} {A:Around} {E:Value->Shared->Prop} {s:Shared} {z TI TO i1 i2:Addr} {f1 f2:List Addr} {n1 n2 k:Nat} {P1 P2:Nat->Value->Prop} {S1 S2:Nat->Heap->Prop} {a b:Value}
end
section
variable {prog:Program} {w:World} {A:Around} {E:Value->Shared->Prop} {s:Shared}
end
end L2
namespace L2
open PySem PySem.Spec PyProof.Rows
end L2
namespace TF
open PySem PySem.Spec PyProof.Rows L2
section
variable {X:Cx} {G:Gh}
end
end TF
namespace TS
open PySem PySem.W PyProof.Rows
def Tri {α:Type} (lt:Nat->Nat->Bool) (n:Nat):KasT α->(α->Prop)->Prop
 | .ret a,Q=>Q a
 | .ask i j k,Q=>i<n/\j<n/\Tri lt n (k (lt i j)) Q
theorem Tri.bind {α β:Type} {lt:Nat->Nat->Bool} {n:Nat} {f:α->KasT β} {Q:β->Prop}:∀{t:KasT α},Tri lt n t (fun a=>Tri lt n (f a) Q)->Tri lt n (t.bind f) Q
 | .ret _,h=>h
 | .ask i j k,h=>⟨h.1,h.2.1,Tri.bind (t:=k (lt i j)) h.2.2⟩
theorem Tri.mono {α:Type} {lt:Nat->Nat->Bool} {n:Nat} {Q R:α->Prop} (hr:∀a,Q a->R a):∀{t:KasT α},Tri lt n t Q->Tri lt n t R
 | .ret _,h=>hr _ h
 | .ask i j k,h=>⟨h.1,h.2.1,Tri.mono hr (t:=k (lt i j)) h.2.2⟩
theorem Tri.wp {α:Type} {lt:Nat->Nat->Bool} {n:Nat} {Q:α->Prop} {R:α->Shared->Prop} {s:Shared} {cmp:Nat->Nat->(Bool->Shared->Prop)->Shared->Prop} (hc:∀i j,i<n->j<n->∀C:Bool->Shared->Prop,C (lt i j) s->cmp i j C s) (hr:∀a,Q a->R a s):∀{t:KasT α},Tri lt n t Q->t.kasWp cmp R s
 | .ret _,h=>hr _ h
 | .ask i j k,h=>hc i j h.1 h.2.1 _ (Tri.wp hc hr (t:=k (lt i j)) h.2.2)
def g (p:Array Nat) (k:Nat):Nat:=p.getD k 0
theorem g_eq {p q:Array Nat} {i j:Nat} (h:p[i]?=q[j]?):g p i=g q j:=by
 have e:∀(r:Array Nat) (k:Nat),g r k=(r[k]?).getD 0:=fun r k=>by unfold g;simp [Array.getD_eq_getD_getElem?]
 rw [e,e,h]
structure Pm (n:Nat) (p:Array Nat):Prop where
 pos:0<n
 pm:p.toList.Perm (List.range n)
section
variable {lt:Nat->Nat->Bool} {n:Nat} {p q:Array Nat}
theorem Pm.size (h:Pm n p):p.size=n:=by
 have:=h.pm.length_eq
 simpa using this
theorem Pm.of (h:Pm n p) (e:q.Perm p):Pm n q:=⟨h.pos,(Array.perm_iff_toList_perm.mp e).trans h.pm⟩
theorem Pm.bd (h:Pm n p) (k:Nat):g p k<n:=by
 unfold g
 by_cases hk:k<p.size
 ·have:p.getD k 0=p[k]:=by simp [Array.getD,hk]
  rw [this]
  have m:p[k]∈p.toList:=by simp
  have:=h.pm.mem_iff.mp m
  simpa using this
 ·have:p.getD k 0=0:=by simp [Array.getD,hk]
  rw [this];exact h.pos
theorem Zp9 (hj:q.size=n) {m:Nat} (hm:m<=n) (k:Nat):g (kas_rev q 0 m) k=if k<m then g q (m-1-k) else g q k:=by
 have e:=getElem?_mirror_all (xs:=q) (i:=0) (j:=m) (by omega) k
 unfold kas_rev
 by_cases hk:k<m
 ·rw [if_pos ⟨by omega,hk⟩] at e
  rw [if_pos hk]
  exact g_eq (by rw [e];congr 1;omega)
 ·rw [if_neg (fun z=>hk z.2)] at e
  rw [if_neg hk]
  exact g_eq e
end
end TS
namespace TS
open PySem PySem.W PyProof.Rows
def lexB:List Int->List Int->Bool
 | [],[]=>false
 | [],_::_=>true
 | _::_,[]=>false
 | a::as,b::bs=>if a=b then lexB as bs else decide (a<b)
theorem Zkz:∀a,lexB a a=false
 | []=>rfl
 | a::as=>by unfold lexB;rw [if_pos rfl];exact Zkz as
theorem Ziy:∀a b c,lexB a b=true->lexB b c=true->lexB a c=true
 | [],[],_,h,_=>by cases h
 | [],_::_,[],_,h=>by cases h
 | [],_::_,_::_,_,_=>rfl
 | _::_,[],_,h,_=>by cases h
 | _::_,_::_,[],_,h=>by cases h
 | a::as,b::bs,c::cs,h1,h2=>by
  unfold lexB at h1 h2 ⊢
  split at h1
  ·rename_i e;subst e
   split at h2
   ·rename_i e;subst e;rw [if_pos rfl];exact Ziy as bs cs h1 h2
   ·rename_i e;rw [if_neg e];exact h2
  ·rename_i e1
   split at h2
   ·rename_i e;subst e;rw [if_neg e1];exact h1
   ·rename_i e2
    simp at h1 h2
    rw [if_neg (by omega)]
    simp;omega
theorem Ziz:∀a b,a≠b->lexB a b=false->lexB b a=true
 | [],[],n,_=>absurd rfl n
 | [],_::_,_,h=>by cases h
 | _::_,[],_,_=>rfl
 | a::as,b::bs,n,h=>by
  unfold lexB at h ⊢
  split at h
  ·rename_i e;subst e;rw [if_pos rfl]
   exact Ziz as bs (fun z=>n (by rw [z])) h
  ·rename_i e
   simp at h
   rw [if_neg (Ne.symm e)]
   simp;omega
theorem Zhh {a b:List Int} (h:lexB a b=true):lexB b a=false:=by
 cases e:lexB b a with
 | false=>rfl
 | true=>have:=Ziy _ _ _ h e;rw [Zkz] at this;cases this
def leT (a b:List Int):Bool:=!lexB b a
theorem Zn2 (a b c:List Int) (h1:leT a b=true) (h2:leT b c=true):leT a c=true:=by
 unfold leT at h1 h2 ⊢
 simp at h1 h2 ⊢
 by_cases e1:a=b
 ·subst e1;exact h2
 ·by_cases e2:b=c
  ·subst e2;exact h1
  ·exact Zhh (Ziy _ _ _ (Ziz b a (Ne.symm e1) h1) (Ziz c b (Ne.symm e2) h2))
def Zig (h:Heap) (v:Value) (ns:List Int):Prop:=∃a xs,v=.ref a/\h.IsTuple a (List.toArray xs)/\IntsAre xs ns
section
variable {prog:Program} {w:World} {A:Around} {E:Value->Shared->Prop} {s:Shared}
theorem Zp5 {fin:Bool} {Q:Bool->Shared->Prop}:∀{as bs:List Int} {xs ys:List Value} (i:Nat),IntsAre xs as->IntsAre ys bs->fin=decide (as.length<bs.length)->Q (lexB as bs) s->KatLex prog w A true fin Q (xs.zip ys) i s
 | [],[],_,_,i,.nil,.nil,e,h=>by subst e;exact kat_nil h
 | [],_::_,_,_,i,.nil,.cons _ _ _,e,h=>by subst e;exact kat_nil h
 | _::_,[],_,_,i,.cons _ _ _,.nil,e,h=>by subst e;exact kat_nil h
 | a::as,b::bs,_,_,i,.cons _ t hx,.cons _ u hy,e,h=>by
  unfold lexB at h
  refine kat_cons (wpAny_eqBool_int ?_)
  by_cases q:a=b
  ·rw [if_pos q] at h
   rw [show (a==b)=true by simp [q]]
   exact kat_yes (Zp5 (i+1) hx hy (by rw [e];simp) h)
  ·rw [if_neg q] at h
   rw [show (a==b)=false by simp [q]]
   refine kat_no ?_
   by_cases hi:i=0
   ·subst hi
    exact oneLt_int h
   ·rw [show (true&&i==0)=false by simp [hi]]
    exact kat_one _ _ (lt_int h)
theorem Zte {x y:Value} {as bs:List Int} {C:Bool->Shared->Prop} (hx:Zig s.heap x as) (hy:Zig s.heap y bs) (h:C (lexB as bs) s):wpAny (model prog w) A (keyLt' (tuples' true) x y) C E s:=by
 obtain ⟨a,xs,rfl,⟨o,ho,hc,n,hd⟩,ix⟩:=hx
 obtain ⟨b,ys,rfl,⟨o',ho',hc',n',hd'⟩,iy⟩:=hy
 refine kat_lt ho hd ho' hd' ?_
 have e:decide ((List.toArray xs).size<(List.toArray ys).size)=decide (as.length<bs.length):=by rw [List.size_toArray,List.size_toArray,ix.length,iy.length]
 exact Zp5 0 ix iy e h
theorem Znp {h:Heap}:∀{vs:List Value} {nss:List (List Int)},Paired (Zig h) vs nss->(∀ns∈nss,ns≠[])->∃fs,KatTups h vs fs/\fs.length=vs.length/\∀v∈fs,∃n t,v=Value.int n t
 | _,_,.nil,_=>⟨[],.nil,rfl,fun _ z=>by simp at z⟩
 | _,_,.cons (a:=v) (b:=ns) hv r,hne=>by
  obtain ⟨fs,h1,h2,h3⟩:=Znp r fun ns' m=>hne ns' (List.mem_cons_of_mem _ m)
  obtain ⟨a,xs,rfl,⟨o,ho,hc,n,hd⟩,ix⟩:=hv
  cases ix with
  | nil=>exact absurd rfl (hne [] (by simp))
  | cons m t r'=>
   refine ⟨.int m t::fs,.cons ho hc hd (by simp) h1,by simp [h2],fun v hv=>?_⟩
   rcases List.mem_cons.mp hv with rfl | hv
   ·exact ⟨m,t,rfl⟩
   ·exact h3 v hv
theorem Zsh {vs:List Value} {nss:List (List Int)} {Q:SortKind->Shared->Prop} (h:Paired (Zig s.heap) vs nss) (hne:∀ns∈nss,ns≠[]) (h0:0<vs.length) (q:Q (tuples' true) s):wpAny (model prog w) A (keyKind' vs.toArray) Q E s:=by
 obtain ⟨fs,h1,h2,h3⟩:=Znp h hne
 refine kat_kind (T:=.type "int") h1 (by omega) (fun v hv=>?_) rfl ?_
 ·obtain ⟨n,t,rfl⟩:=h3 v hv
  exact Looks.of_pure rfl
 ·exact q
theorem Paired.get3 {α β:Type} {F:α->β->Prop}:∀{l:List α} {r:List β} {i:Nat} (d:α) (d':β),Paired F l r->i<l.length->F (l.getD i d) (r.getD i d')
 | _,_,i,_,_,.nil,e=>absurd e (by simp)
 | _,_,0,_,_,.cons h t,e=>h
 | _,_,i+1,d,d',.cons h t,e=>by
  have:=Paired.get3 d d' t (i:=i) (by simpa using e)
  simpa using this
theorem range_getD {α:Type} (vs:List α) (d:α):((List.range vs.length).map fun i=>vs.getD i d)=vs:=by
 refine List.ext_getElem (by simp) fun i h1 h2=>?_
 simp [h2]
end
end TS
namespace TS
open PySem PySem.W PyProof.Rows
section
variable {prog:Program} {w:World} {A:Around} {E:Value->Shared->Prop} {s:Shared}
end
end TS
namespace TF
open PySem PySem.Spec PyProof.Rows L2 TS
section
variable {X:Cx} {G:Gh}
theorem ZiP {pins:List (Addr×Obj)} {s:Shared} {σ:St} {H:Hp} {T:V->List Int->Prop} (I:Inv X pins σ H s) (hT:∀v ns,T v ns->∃a,v=.ref a/\SqT X.K H a (ns.map V.int)):∀{vs:List V} {its:List Value} {nss:List (List Int)},Vals vs its->Paired T vs nss->Paired (Zig s.heap) its nss
 | _,_,_,.nil,.nil=>.nil
 | _,_,_,.cons r rr,.cons t tt=>by
  refine .cons ?_ (ZiP I hT rr tt)
  obtain ⟨a,rfl,hq⟩:=hT _ _ t
  cases r
  obtain ⟨xs,rv,pl,hz⟩:=I.tuple hq
  exact ⟨a,xs,rfl,show s.heap.IsTuple a xs.toArray from pl,Zbq rv⟩
def tupI (ns:List Int):D:=.tup (ns.map .int)
def ZdZ:List D->Option (List (List Int))
 | []=>some []
 | .tup ds::r=>match Zau ds,ZdZ r with | some ns,some nss=>some (ns::nss) | _,_=>none
 | _::_=>none
theorem Zhu:∀nss:List (List Int),ZdZ (nss.map tupI)=some nss
 | []=>rfl
 | ns::nss=>by
  show (match Zau (ns.map D.int),ZdZ (nss.map tupI) with | some ns,some nss=>some (ns::nss) | _,_=>none)=_
  rw [ZdD,Zhu nss]
theorem ZiO:∀{ds:List D} {nss:List (List Int)},ZdZ ds=some nss->ds=nss.map tupI
 | [],nss,h=>by
  have h:some []=some nss:=h
  cases h;rfl
 | d::r,nss,h=>by
  cases d with
  | tup ds=>
   have h:(match Zau ds,ZdZ r with | some ns,some nss=>some (ns::nss) | _,_=>none)=some nss:=h
   cases e1:Zau ds with
   | none=>rw [e1] at h;cases h
   | some ns=>
    cases e2:ZdZ r with
    | none=>rw [e1,e2] at h;cases h
    | some ms=>
     rw [e1,e2] at h;cases h
     rw [List.map_cons,<-ZiO e2]
     unfold tupI
     rw [<-Zbv e1]
  | _=>cases h
theorem ZiU {Hf:Hp}:∀{nss:List (List Int)} {vs:List V},RepL G Hf (nss.map tupI) vs->Paired (fun v ns=>Rep G Hf (tupI ns) v) vs nss
 | [],vs,h=>by
  rw [RepL.nil_iff.mp h];exact .nil
 | ns::nss,vs,h=>by
  obtain ⟨v,r,rfl,h1,h2⟩:=RepL.cons_iff.mp h
  exact .cons h1 (ZiU h2)
end
end TF
namespace TF
open PySem PySem.Spec PyProof.Rows L2
section
variable {X:Cx} {G:Gh} {own:List Nat} {fr:Bool}
end
section
variable {X:Cx} {G:Gh}
def vD:V->Option D
 | .int i=>some (.int i)
 | .bl b=>some (.bl b)
 | .str x=>some (.str x)
 | .non=>some .non
 | _=>none
theorem Znl {H:Hp} {v:V} {c:D} (h:vD v=some c):Rep G H c v:=by
 cases v with
 | int i=>cases h;exact Rep.int_iff.mpr rfl
 | bl i=>cases h;exact Rep.bl_iff.mpr rfl
 | str i=>cases h;exact Rep.str_iff.mpr rfl
 | non=>cases h;exact Rep.non_iff.mpr rfl
 | _=>cases h
def dIxK:D->D->Option D
 | .dk kvs,y=>match Zbx y with | some k=>(valV kvs k).bind vD | none=>none
 | .df kvs,y=>match Zbx y with | some k=>(valV kvs k).bind vD | none=>none
 | .dt kvs,.tup ks=>match Zbp ks with | some k=>(valV kvs k).bind vD | none=>none
 | .du kvs,.tup ks=>match Zbp ks with | some k=>(valV kvs k).bind vD | none=>none
 | _,_=>none
theorem ZlU {a b:Expr} {pos:Pos} {fa fb:Rho->M D} {r1 r2:Bool} (hu:X.A.units+1<cLine) (ha:PD X G r1 a fa) (hb:PD X G r2 b fb) (hs:NoSl b:=by intro _ _;rfl):PD X G false (.Subscript a b pos) (dOp dIxK fa fb):=by
 obtain ⟨ta,pa,qa⟩:=ha.drop
 obtain ⟨tb,pb,qb⟩:=hb.drop
 refine ⟨_,ZqD hu pa pb hs,fun σ Hf H ρ s d s' Q e1 e2 e3 e4 k=>?_⟩
 obtain ⟨da,s1,a1,a2⟩:=Zai e4
 obtain ⟨db,s2,a3,a4⟩:=Zai a2
 obtain ⟨a5,rfl⟩:=Zbt a4
 refine qa σ Hf H ρ s da s1 _ e1 e2 e3 a1 fun x Hf1 H1 g1 st1 r1=>?_
 refine qb σ Hf1 H1 ρ s1 db _ _ g1.fh (e2.ext g1.ff) st1 a3 fun y Hf2 H2 g2 st2 r2=>?_
 have r1:=r1.ext g2.ff
 have fin:∀v c,d=c->vD v=some c->Q v H2:=fun v c ec h=>by
  subst ec
  exact k v Hf2 H2 (g1.trans g2) st2 (Znl h) (fun z=>by cases z)
 match da,a5,r1 with
 | .dk kvs,a5,r1=>
  obtain ⟨p,rfl,np,hp⟩:=Rep.dk_iff.mp r1
  have a5:(match Zbx db with | some k=>(valV kvs k).bind vD | none=>none)=some d:=a5
  cases ek:Zbx db with
  | none=>rw [ek] at a5;cases a5
  | some ky=>
   rw [ek] at a5
   obtain ⟨v,ev,e6⟩:=Option.bind_eq_some_iff.mp a5
   have ey:=ZcR ek r2
   subst ey
   refine ⟨p,v,rfl,?_,fin v d rfl e6⟩
   rw [<-ev]
   exact DGet.k (g2.fh _ _ np hp)
 | .df kvs,a5,r1=>
  obtain ⟨p,o,rfl,np,hp⟩:=Rep.df_iff.mp r1
  have a5:(match Zbx db with | some k=>(valV kvs k).bind vD | none=>none)=some d:=a5
  cases ek:Zbx db with
  | none=>rw [ek] at a5;cases a5
  | some ky=>
   rw [ek] at a5
   obtain ⟨v,ev,e6⟩:=Option.bind_eq_some_iff.mp a5
   have ey:=ZcR ek r2
   subst ey
   exact ⟨p,v,rfl,.inl ⟨kvs,ky,.inr ⟨o,g2.fh _ _ np hp⟩,rfl,ev.symm⟩,fin v d rfl e6⟩
 | .du kvs,a5,r1=>
  obtain ⟨p,rfl,np,hp⟩:=Rep.du_iff.mp r1
  match db,a5,r2 with
  | .tup ks,a5,r2=>
   have a5:(match Zbp ks with | some k=>(valV kvs k).bind vD | none=>none)=some d:=a5
   obtain ⟨q,vs,rfl,nq,hq,rq⟩:=Rep.tup_iff.mp r2
   cases ek:Zbp ks with
   | none=>rw [ek] at a5;cases a5
   | some ky=>
    rw [ek] at a5
    obtain ⟨v,ev,e6⟩:=Option.bind_eq_some_iff.mp a5
    have ey:=ZcZ ek rq
    subst ey
    refine ⟨p,v,rfl,?_,fin v d rfl e6⟩
    rw [<-ev]
    exact DGet.t (g2.fh _ _ np hp) (g2.fh _ _ nq hq)
 | .dt kvs,a5,r1=>
  obtain ⟨p,o,rfl,np,hp⟩:=Rep.dt_iff.mp r1
  match db,a5,r2 with
  | .tup ks,a5,r2=>
   have a5:(match Zbp ks with | some k=>(valV kvs k).bind vD | none=>none)=some d:=a5
   obtain ⟨q,vs,rfl,nq,hq,rq⟩:=Rep.tup_iff.mp r2
   cases ek:Zbp ks with
   | none=>rw [ek] at a5;cases a5
   | some ky=>
    rw [ek] at a5
    obtain ⟨v,ev,e6⟩:=Option.bind_eq_some_iff.mp a5
    have ey:=ZcZ ek rq
    subst ey
    exact ⟨p,v,rfl,.inr ⟨kvs,ky,q,.inr ⟨o,g2.fh _ _ np hp⟩,rfl,g2.fh _ _ nq hq,ev.symm⟩,fin v d rfl e6⟩
end
section
variable {X:Cx} {G:Gh} {ob:List Nat} {fr:Bool}
end
section
variable {X:Cx} {G:Gh} {ob own:List Nat} {fr:Bool}
end
section
variable {X:Cx} {G:Gh} {ob own:List Nat} {fr:Bool}
theorem Zkf {pos:Pos}:PD X G true (.Dict [] [] pos) (dC (.dk [])):=by
 refine ⟨_,Zo5,fun σ Hf H ρ s d s' Q e1 e2 e3 e4 k=>?_⟩
 obtain ⟨rfl,rfl⟩:=Zaq e4
 intro p hp
 have nf:=Gh.nofp e3 hp
 have g2:=Gr.new (o:=.dK []) e1 hp nf
 exact k (.ref p) _ _ g2 (Gh.grow e3 hp) (Rep.dk_iff.mpr ⟨p,rfl,nf,Zav⟩) fun _ a ea _=>by cases ea;exact ⟨hp,fun ds ed=>by cases ed⟩
def Zft (i:Nat) (fx fv:Rho->M D):Rho->M Out:=fun ρ=>Zan (fv ρ) fun v=>Zan (fx ρ) fun x=>match (ρ[i]?).bind id with
 | some (.dk kvs)=>match Zbx x,ZcU v with | some k,some w=>if kvs.length<sizeLine then mret (.nx (ρ.set i (some (.dk (putK kvs k w))))) else ZaB | _,_=>ZaB
 | _=>ZaB
theorem Zpa {r1 r2:Bool} {i:Nat} {x:Str} {ex ev:Expr} {p1 p2 pos:Pos} {fx fv:Rho->M D} {tx tv:TE} (hu:X.A.units+1<cLine) (hi:i∈own) (hn:PE X (.Name x p1) (tVar i)) (px:PE X ex tx) (yx:YldJ G own r1 tx fx) (pv':PE X ev tv) (yv:YldJ G own r2 tv fv)
  (hs:swapsWith ev (some (.Subscript (.Name x p1) ex p2)) pos.line X.env=pure false) :
  PDS X G ob own own fr (.Assign [.Subscript (.Name x p1) ex p2] ev pos) (Zft i fx fv):=by
 refine ⟨_,Zqv hu hn px pv' hs,fun kn Hf0 H0 σ H ρ s out s' E ⟨Hf,j⟩ st e po=>?_⟩
 obtain ⟨v,s1,a1,a2⟩:=Zai e
 obtain ⟨xx,s2,a3,a4⟩:=Zai a2
 refine yv kn Hf0 H0 σ Hf H ρ s v s1 _ j st a1 fun w Hf1 H1 j1 e1 e2 st1 r1 _=>?_
 cases hb:(ρ[i]?).bind id with
 | none=>rw [hb] at a4;cases a4
 | some c=>
  rw [hb] at a4
  cases c with
  | dk kvs=>
   have a4':(match Zbx xx,ZcU v with | some k,some w=>if kvs.length<sizeLine then mret (Out.nx (ρ.set i (some (.dk (putK kvs k w))))) else ZaB | _,_=>ZaB) s2=some (out,s'):=a4
   cases hk:Zbx xx with
   | none=>rw [hk] at a4';cases a4'
   | some k=>
    cases hw:ZcU v with
    | none=>rw [hk,hw] at a4';cases a4'
    | some w'=>
     rw [hk,hw] at a4'
     obtain ⟨hl,a5⟩:=Za7 a4'
     obtain ⟨rfl,rfl⟩:=Zaq a5
     have ei:=Zmf hb
     obtain ⟨a,h1,h2,h3,h4,h5⟩:=j1.ow i _ hi ei
     refine ⟨_,h1,?_⟩
     refine yx kn Hf0 H0 σ Hf1 H1 ρ s1 _ _ _ j1 st1 a3 fun w2 Hf2 H2 j2 e3 e4 st2 r2 _=>?_
     obtain ⟨a',h1',h2',h3',h4',h5'⟩:=j2.ow i _ hi ei
     rw [h1] at h1';cases h1'
     have ek:=ZcR hk r2
     subst ek
     have ew:=ZfQ hw r1
     subst ew
     refine ⟨a,_,rfl,DPut.k (k:=k) (show H2 a=some (.dK kvs) from h5') (by omega),?_⟩
     exact po σ _ ⟨Hf2,j2.put hi ei h1 (show upd H2 a (.dK (putK kvs k w)) a=some (.dK (putK kvs k w)) from Zav)⟩ (Gh.other st2 h2)
  | _=>cases a4
theorem Zi0 {r1 r2:Bool} {i:Nat} {x:Str} {ex ev:Expr} {p1 p2 pos:Pos} {fx fv:Rho->M D} (hu:X.A.units+1<cLine) (hi:i∈own) (hn:PE X (.Name x p1) (tVar i)) (hx:PD X G r1 ex fx) (hv:PD X G r2 ev fv)
  (hs:swapsWith ev (some (.Subscript (.Name x p1) ex p2)) pos.line X.env=pure false:=by rfl) :
  PDS X G ob own own fr (.Assign [.Subscript (.Name x p1) ex p2] ev pos) (Zft i (fun ρ=>fx (hide own ρ)) (chk r2 fv)):=by
 obtain ⟨tv,pv',qv⟩:=hv
 obtain ⟨tx,px,qx⟩:=hx
 have yv:Yld G r2 tv fv:=qv
 have yx:Yld G r1 tx fx:=qx
 exact Zpa hu hi hn px yx.a pv' yv.b hs
def minI (n:Int) (r:List Int):Int:=r.foldl min n
theorem Zq1 (r:List Int):∀n,minI n r<=n/\∀a∈r,minI n r<=a:=by
 induction r with
 | nil=>intro n;exact ⟨Int.le_refl _,by simp⟩
 | cons b r ih=>
  intro n
  obtain ⟨h1,h2⟩:=ih (min n b)
  refine ⟨?_,fun a ha=>?_⟩
  ·show minI (min n b) r<=n;omega
  ·show minI (min n b) r<=a
   rcases List.mem_cons.mp ha with rfl | ha
   ·omega
   ·exact h2 a ha
theorem Zps (r:List Int):∀n,minI n r∈n::r:=by
 induction r with
 | nil=>intro n;simp [minI]
 | cons b r ih=>
  intro n
  have h:=ih (min n b)
  show minI (min n b) r∈n::b::r
  rcases List.mem_cons.mp h with h | h
  ·rw [h]
   rcases Int.le_total n b with z | z
   ·rw [Int.min_eq_left z];simp
   ·rw [Int.min_eq_right z];simp
  ·exact List.mem_cons_of_mem _ (List.mem_cons_of_mem _ h)
theorem Zks {n M:Int} {r:List Int} (h1:M∈n::r) (h2:∀a∈n::r,M<=a):M=minI n r:=by
 obtain ⟨g1,g2⟩:=Zq1 r n
 have g3:=h2 _ (Zps r n)
 have g4:minI n r<=M:=by
  rcases List.mem_cons.mp h1 with h | h
  ·rw [h];exact g1
  ·exact g2 M h
 omega
def Zm3:List D->Option D
 | [.lst ds]=>match Zau ds with | some (n::r)=>some (.int (minI n r)) | _=>none
 | _=>none
theorem ZoG (hc:X.calm=true):ZbY X (.builtin "min") (fun xs H Q=>∃p n r,xs=[.ref p]/\SqL X.K H p ((n::r).map V.int)/\Q (.int (minI n r)) H):=by
 intro pins s σ H xs us Q I r h
 obtain ⟨p,n,rr,rfl,hp,q⟩:=h
 obtain ⟨u,rfl,ru⟩:=Zcj r
 cases ru
 obtain ⟨its,rv,pl,hz⟩:=I.list hp
 have hi:IntsAre its (n::rr):=Zbq rv
 obtain ⟨xs,e⟩:=hi.allInts.items
 have hns:n::rr=xs.toList.map (·.1):=by rw [<-hi.numsOf,<-nums_intItems,<-e]
 have hl:=pl.isList
 rw [e] at hl
 have hsz:0<xs.size:=by
  have h3:0<(n::rr).length:=by simp
  rw [hns,List.length_map,Array.length_toList] at h3;exact h3
 refine min_intList (I.ok.hd hc) hl hsz fun v h' tk hv hk=>?_
 obtain ⟨t,rfl⟩:=intItems_at hv
 obtain ⟨h1,h2⟩:=argBest_lt (numAt xs) (xs.size-1)
 have e2:numAt xs (argBest (fun i j=>decide (numAt xs i<numAt xs j)) (xs.size-1))=minI n rr:=by
  refine Zks ?_ fun a ha=>?_
  ·rw [hns,numAt_eq];exact getD_mem (by rw [List.length_map,Array.length_toList];omega)
  ·rw [hns] at ha
   obtain ⟨j,hj,rfl⟩:=mem_getD ha
   rw [List.length_map,Array.length_toList] at hj
   rw [<-numAt_eq];exact h2 j (by omega)
 rw [e2]
 exact ⟨.int (minI n rr),H,I.kept (t':=tk) hk,⟨_,rfl⟩,q⟩
theorem Zm9 (hc:X.calm=true):Zcl X G (.builtin "min") Zm3:=
 ⟨_,ZoG hc,fun Hf H s xs ds c Q e1 st r q k=>by
  match ds,q,r with
  | [.lst es],q,r=>
   have q:(match Zau es with | some (n::r)=>some (D.int (minI n r)) | _=>none)=some c:=q
   cases he:Zau es with
   | none=>rw [he] at q;cases q
   | some ns=>
    cases ns with
    | nil=>rw [he] at q;cases q
    | cons n rr=>
     rw [he] at q
     cases q
     obtain ⟨v,rfl,rv⟩:=RepL.one_inv r
     obtain ⟨p,vs,rfl,np,hp,rp⟩:=Rep.lst_iff.mp rv
     rw [Zbv he] at rp
     rw [RepL.ints rp] at hp
     exact ⟨p,n,rr,rfl,SqL.of (e1 _ _ np hp),k _ Hf H (.refl e1) st (Rep.int_iff.mpr rfl) (.scal fun z=>z)⟩⟩
def ZrF (K:PySem.W.Frag):V->List V->Hp->VK->Prop:=fun x vs H Q=>∃(p:Addr) (ns:List Int) (k:Int),x=.ref p/\vs=[.int k]/\SqL K H p (ns.map V.int)/\k∈ns/\Q (.int (ns.idxOf k:Nat)) H
theorem Zpp : MtR X "list.index" (ZrF X.K) := by
  intro pins s σ H x xs v us Q I rx rv h
  obtain ⟨p, ns, k, rfl, rfl, hp, hk, q⟩ := h
  cases rx
  obtain ⟨u, rfl, t, rfl⟩ := Zcj rv
  obtain ⟨its, r2, pl, hz⟩ := I.list hp
  have hi : IntsAre its ns := Zbq r2
  obtain ⟨⟨c0, d0, dat, sl0⟩, hob, hcl, n0, hdat⟩ := id pl.isList
  simp only at hcl hdat
  subst hcl hdat
  have l1 := hi.length
  have l2 : ns.idxOf k < ns.length := by rw [List.idxOf_lt_length_iff]; exact hk
  have l3 : ns.length <= sizeLine := by simpa using hz
  have l4 := Zgb
  have go := SeqAt.list_indexAt p its.toArray n0 d0 sl0 (.int k t) (isInt k) (ns.idxOf k) (by simpa [l1] using l2) (by omega)
    (by show isInt k its[ns.idxOf k] = true
        rw [isInt_at k hi (ns.idxOf k) (by omega) l2]; simpa using List.getElem_idxOf l2)
    (fun j hjs hlt => by
        show isInt k its[j] = false
        rw [isInt_at k hi j (by simpa using hjs) (by have : j < ns.idxOf k := hlt; omega)]; exact ne_of_lt_idxOf hlt _)
  refine call_meets PySem.F.slot_list_index ⟨_, hob, rfl⟩ PySem.F.entry_list_index (PySem.F.args_list_index_2 _ _) go ⟨hob, fun y hy => (eq_isInt k t hi y (by simpa using hy)).at _ _, ?_⟩
  exact ⟨.int (ns.idxOf k : Nat), H, I.tok _, ⟨_, rfl⟩, q⟩
def Zh4:D->D->Option D
 | .lst ds,.int k=>(Zau ds).bind fun ns=>if k∈ns then some (.int (ns.idxOf k:Nat)) else none
 | _,_=>none
theorem Zpd {o e:Expr} {ap cp:Pos} {r1 r2:Bool} {fo fe:Rho->M D} (ho:PD X G r1 o fo) (he:PD X G r2 e fe)
  (hbase:attributeBase o "index" X.env (eval o X.env)=eval o X.env:=by rfl)
  (hfew:((backTo cp (starEach [e] X.env)).all (fun x=>!x.1)&&(backToKw cp (keywordEach [] X.env)).all (fun x=>x.1.isSome)
   && decide ([e].length+([]:List Keyword).length+(if ([]:List Keyword).isEmpty then 0 else 1)<30))=true:=by rfl)
  (hline:(ap.endLine==cp.line)=true:=by rfl) (hs:starEach [e] X.env=(false,eval e X.env)::starEach [] X.env:=by rfl) :
  PD X G true (.Call (.Attribute o "index" ap) [e] [] cp) (dOp Zh4 fo fe):=by
 obtain ⟨to,po,qo⟩:=ho.drop
 obtain ⟨te,pe,qe⟩:=he.drop
 refine ⟨_,ZpZ PySem.F.plainAttrs_list PySem.F.slot_list_index PySem.F.type_list_index Zpp po (Zbb pe ZbO hs) hbase hfew hline hs rfl,fun σ Hf H ρ s d s' Q e1 e2 e3 e4 k=>?_⟩
 obtain ⟨da,s1,a1,a2⟩:=Zai e4
 obtain ⟨db,s2,a3,a4⟩:=Zai a2
 obtain ⟨a5,rfl⟩:=Zbt a4
 refine qo σ Hf H ρ s da s1 _ e1 e2 e3 a1 fun x Hf1 H1 g1 st1 r1=>?_
 match da,db,a5,r1,a3 with
 | .lst ds,.int kk,a5,r1,a3=>
  have a5:((Zau ds).bind fun ns=>if kk∈ns then some (D.int (ns.idxOf kk:Nat)) else none)=some d:=a5
  cases he:Zau ds with
  | none=>rw [he] at a5;cases a5
  | some ns=>
   rw [he] at a5
   have a5:(if kk∈ns then some (D.int (ns.idxOf kk:Nat)) else none)=some d:=a5
   split at a5
   ·rename_i hmem
    cases a5
    obtain ⟨p,vs,rfl,np,hp,rp⟩:=Rep.lst_iff.mp r1
    refine ⟨.inl ⟨rfl,vs,SqL.of (g1.fh _ _ np hp)⟩,?_⟩
    refine qe σ Hf1 H1 ρ s1 _ _ _ g1.fh (e2.ext g1.ff) st1 a3 fun y Hf2 H2 g2 st2 r2=>?_
    rw [Zbv he] at rp
    rw [RepL.ints rp] at hp
    cases (Rep.int_iff.mp r2)
    exact ⟨p,ns,kk,rfl,rfl,SqL.of (g2.fh _ _ np (g2.ff _ _ np hp)),hmem,k _ Hf2 H2 (g1.trans g2) st2 (Rep.int_iff.mpr rfl) fun _=>.scal fun z=>z⟩
   ·cases a5
end
section
variable {X:Cx} {G:Gh} {ob own:List Nat} {fr:Bool}
end
end TF
namespace HT
open PySem PySem.Spec PyProof.Rows
section
variable {prog:Program} {w:World} {A:Around} {E:Value->Shared->Prop} {s:Shared}
end
end HT
namespace TF
open PySem PySem.Spec PyProof.Rows L2
section
variable {X:Cx} {G:Gh}
end
end TF
namespace HT
open PySem PySem.Spec PyProof.Rows
section
variable {prog:Program} {w:World} {A:Around} {R:Result->Shared->Prop} {I:Addr} {fp wr:List Addr} {n:Nat} {P:Nat->Value->Prop} {St:Nat->Heap->Prop}
end
section
variable {prog:Program} {w:World} {A:Around} {E:Value->Shared->Prop} {s:Shared}
end
section
variable {prog:Program} {w:World} {A:Around} {R:Result->Shared->Prop} {I:Addr} {fp wr:List Addr} {n:Nat} {P:Nat->Value->Prop} {St:Nat->Heap->Prop}
end
section
variable {prog:Program} {w:World} {A:Around} {E:Value->Shared->Prop} {s:Shared}
end
end HT
namespace L2
open PySem PySem.Spec PyProof.Rows
section
variable {X:Cx}
theorem Zjy {M:Model} {h:Heap} {id:String}:PySem.W.Looks M h (keeperOf (.builtin id)) Keeper.machine:=fun A Q E s _ q=>by
 show wpAny M A (pure Keeper.machine) Q E s
 exact wpAny_pure q
end
end L2
namespace TF
open PySem PySem.Spec PyProof.Rows L2
section
variable {X:Cx} {G:Gh}
end
end TF
namespace TS
open PySem PySem.Spec PyProof.Rows L2
section
variable {prog:Program} {w:World} {A:Around} {E:Value->Shared->Prop} {s:Shared}
end
end TS
namespace TF
open PySem PySem.Spec PyProof.Rows L2 TS
section
variable {X:Cx} {G:Gh}
end
end TF
namespace TP2
open PySem L2 TF TP
end TP2
namespace TP3
open PySem L2 TF TP
open TP2
end TP3
namespace TP3
open PySem L2 TF TP
open TP2
end TP3
namespace TP3
open PySem L2 TF TP
open TP2
def ZkL:Rho->M Out:=(sSeq (sRet (ZaD Zm3 (Zac (ZaP [none,some 0] (ZaU (dOp dAdd (ZaD dLen (Zac (dVar 0) dNil)) (dC (.int 1)))) (gOne 0) (asB (dOp Zda (dVar 0) (dVar 1))) (dVar 0)) dNil)))
 Zam)
def Zb6:List D->M D:=runB 1 1 ZkL
end TP3
namespace TP3
open PySem L2 TF TP
open TP2
end TP3
namespace TP3
open PySem L2 TF TP
open TP2
end TP3
namespace TP3
open PySem L2 TF TP
open TP2
end TP3
namespace TP3
open PySem L2 TF TP
open TP2
def Zlx:Rho->M Out:=(sSeq (sIf (bNot (asB (dFn Zba (Zac (dVar 1) (Zac (dOp dIx (dVar 0) (dC (.int 0))) dNil)))))
 (sSeq (sRet (dC (.bl false)))
 Zam)
 Zam)
 (sSeq (sIf (bNot (asB (ZaD dAll (Zac (ZaP [none,some 0] (Zdk (dVar 1)) (gOne 0) ZaZ (dFn ZbW (Zac (dOp dIx (dVar 1) (dC (.int 0))) (Zac (dVar 0) dNil)))) dNil))))
 (sSeq (sRet (dC (.bl false)))
 Zam)
 Zam)
 (sSeq (sRet (ZaD dAll (Zac (ZaP [none,some 1] (Zdk (dOp dIx (dVar 0) (dC (.int 1)))) (gOne 0) ZaZ (dOp dNeO (dOp dIx (dVar 1) (dOp dIx (dVar 0) (dC (.int 0)))) (dOp dIx (dVar 1) (dOp dIx (dVar 0) (dC (.int 1)))))) dNil)))
 Zam)))
def Zdd:List D->M D:=runB 2 2 Zlx
end TP3
namespace TQ
open PySem L2 TF TQ
open TP
open TP2
open TP3
def Zoq:Rho->M Out:=(sSeq (sRet (vAnd (dOp dLt (dOp dIx (dVar 0) (dC (.int 0))) (dOp dIx (dVar 1) (dC (.int 1)))) (dOp dLt (dOp dIx (dVar 1) (dC (.int 0))) (dOp dIx (dVar 0) (dC (.int 1))))))
 Zam)
def ZoO:List D->M D:=runB 2 2 Zoq
def ZgJ:Rho->M Out:=(sSeq (sRet (vOr (dOp dEqO (dVar 1) (dVar 2)) (dFn Za5 (Zac (dVar 0) (Zac (dVar 1) (Zac (dVar 2) dNil))))))
 Zam)
def Zd9:List D->M D:=runB 3 3 ZgJ
def Zk6:List D->M D:=runB 4 4 (sSeq (sIf (asB (dOp dEqO (dOp dIx (dVar 0) (dC (.int 0))) (dOp dIx (dVar 1) (dC (.int 0)))))
 (sSeq (sRet (dFn Za5 (Zac (dOp dIx (dVar 2) (dOp dIx (dVar 0) (dC (.int 0)))) (Zac (dOp dIx (dVar 0) (dC (.int 1))) (Zac (dOp dIx (dVar 1) (dC (.int 1))) dNil)))))
 Zam)
 Zam)
 (sSeq (sRet (dFn Za5 (Zac (dVar 3) (Zac (dOp dIx (dVar 0) (dC (.int 0))) (Zac (dOp dIx (dVar 1) (dC (.int 0))) dNil)))))
 Zam))
def Zgn:List D->M D:=runE 3 (vNot (dFn Za5 (Zac (dVar 2) (Zac (dVar 0) (Zac (dVar 1) dNil)))))
def ZiJ:List D->M D:=runB 4 4 (sSeq (sRet (vAnd (dFn Zd9 (Zac (dVar 2) (Zac (dOp dIx (dVar 0) (dC (.int 0))) (Zac (dOp dIx (dVar 1) (dC (.int 0))) dNil)))) (dFn Zd9 (Zac (dVar 3) (Zac (dOp dIx (dVar 0) (dC (.int 1))) (Zac (dOp dIx (dVar 1) (dC (.int 1))) dNil))))))
 Zam)
def ZdN:List D->M D:=runE 3 (dFn Za5 (Zac (dVar 2) (Zac (dVar 0) (Zac (dVar 1) dNil))))
def ZiI:List D->M D:=runE 3 (dOp dNeO (dOp dMod (dVar 0) (dVar 2)) (dOp dMod (dVar 1) (dVar 2)))
def ZgL:List D->M D:=runE 4 (dOp dIn (ZaD Zh3 (Zac (dOp dSub (dVar 1) (dVar 0)) (Zac (dOp dAdd (dOp dSub (dVar 2) (dVar 1)) (dVar 0)) dNil))) (dVar 3))
def Tl:Nat->List D->M D
 | 0=>Zgn
 | 1=>ZdN
 | 2=>ZoO
 | 3=>Zk6
 | 4=>ZiJ
 | 6=>ZiI
 | 7=>ZgL
 | _=>fun _=>ZaB
def Zlw:Rho->M Out:=(sSeq (sSet 2 (dFn Zc0 (Zac (ZbV (ZaD dLen (Zac (dVar 0) dNil))) dNil)))
 (sSeq (sRet (dTup (Zac (ZaD dLen (Zac (dVar 0) dNil)) (Zac (ZaD ZeC (Zac (ZaP [none,some 1,some 0] (ZaY (dVar 2)) (gOne 0) (asB (dApp Tl 1 (Zac (dOp dIx (dVar 2) (dOp dIx (dVar 0) (dC (.int 0)))) (Zac (dOp dIx (dVar 2) (dOp dIx (dVar 0) (dC (.int 1)))) dNil)))) (dVar 0)) dNil)) dNil))))
 Zam))
def ZbZ:List D->M D:=runB 3 2 Zlw
def ZpH:Rho->M Out:=(sSeq (sSet 1 (dFn Zbg (Zac (dVar 0) dNil)))
 (sSeq (sRet (dFnC ZbZ 0 [1] (ZbV (dOp dIx (dVar 0) (dC (.int 0))))))
 Zam))
def Zdr:List D->M D:=runB 2 1 ZpH
def ZhY:Rho->M Out:=(sSeq (sSet 2 (dFn Zbg (Zac (dVar 0) dNil)))
 (sSeq (sRet (dFnC ZbZ 1 [2] (dVar 1)))
 Zam))
def Zcf:List D->M D:=runB 3 2 ZhY
def Zsn:Rho->M Out:=(sSeq (sRet (dFn Zcf (Zac (dVar 0) (Zac (dVar 1) dNil))))
 Zam)
def Zdc:List D->M D:=runB 2 2 Zsn
end TQ
namespace TF
open PySem PySem.Spec PyProof.Rows L2
def Zhw (K:PySem.W.Frag) (L:List (Addr×Str)):Sp:=fun vs H Q _=>∃(a:Addr) (ns:List Int),vs=[.ref a]/\SqL K H a (ns.map V.int)/\ns.length<=63/\(∀P q,(P,q)∈L->H P=some (.tbl #[]))/\∀H',Q (.bl true) H'
theorem Zmt {L:List (Addr×Str)} {tb:List (Str×Addr×Addr)} {H:Hp} (h:∀P q,(P,q)∈L->∃x c,(x,c,P)∈tb) (hT:∀e∈tb,H e.2.2=some (.tbl #[])):∀P q,(P,q)∈L->H P=some (.tbl #[]):=fun P q m=>by
 obtain ⟨x,c,z⟩:=h P q m
 exact hT _ z
theorem ZsH {G0:Gh} {L:List (Addr×Str)} {H:Hp} (h:∀P q,(P,q)∈L->H P=some (.tbl #[])):∀P q,(P,q)∈L->Zqg G0 L P q H:=fun P q m=>⟨#[],h P q m,trivial,fun pos cv hc=>by cases hc⟩
theorem Zpx {K:PySem.W.Frag} {L:List (Addr×Str)} {N:List Str} {H:Hp} {a p:Addr} {ns:List Int} {g:Rho->M Out} {Q:VK} {n:Nat} {s':Pn} (sq:SqL K H a (ns.map V.int)) (hTb:∀P q,(P,q)∈L->H P=some (.tbl #[])) (hp:H p=none) (hk:K.lookup p=none) (hQ:∀H',Q (.bl true) H')
  (hg:g (none::some .pen::List.replicate n none) ([0,0],ns)=some (.rt (.bl true),s')) :
  ∃G,PenT (PenK K) L G/\Zm2 G [] [] [] false g { nx:=fun _ H'=>Q .non H',rt:=Q } (some (.ref a)::some (.ref p)::List.replicate n none) (upd H p (.lst [.ref a,.int 0,.int 0])):=by
 have main:∀tr:Bool,(tr=true->∃o,H a=some o/\∀ps,o≠.tbl ps)->(tr=false->∀H':Hp,SqL K H' a (ns.map V.int))->a≠p->∃G,PenT (PenK K) L G/\Zm2 G [] [] [] false g { nx:=fun _ H'=>Q .non H',rt:=Q } (some (.ref a)::some (.ref p)::List.replicate n none) (upd H p (.lst [.ref a,.int 0,.int 0])):=by
  intro tr t1 t2 ne
  refine ⟨Zfk (penL K p a tr) L,⟨penL K p a tr,⟨p,a,tr,rfl⟩,fun b ⟨q,mb⟩ hb=>?_,rfl⟩,fun _=>none,fun _=>none,upd H p (.lst [.ref a,.int 0,.int 0]),none::some .pen::List.replicate n none,([0,0],ns),_,s',⟨fun _=>none,⟨by simp,.refl _ _,.refl (fun b o _ e=>by cases e),fun i d _ e=>?_,fun i d m=>by simp at m,fun i j b di dj m=>by simp at m⟩⟩,⟨⟨0,0,rfl,Zav,ne,?_,fun ht=>?_,t2⟩,ZsH fun P q z=>?_⟩,hg,fun v Hf' H' g st r _=>?_⟩
  ·have e:=hTb b q mb
   rcases hb with rfl | ⟨ht,rfl⟩
   ·rw [hp] at e;cases e
   ·obtain ⟨o,z1,z2⟩:=t1 ht
    rw [e] at z1;cases z1;exact z2 _ rfl
  ·match i,e with
   | 0,e=>cases e
   | 1,e=>cases e;exact ⟨_,rfl,Rep.pen_iff.mpr rfl⟩
   | i+2,e=>
    have e':(List.replicate n (none:Option D))[i]?=some (some d):=e
    rw [List.getElem?_replicate] at e'
    split at e' <;> cases e'
  ·exact ZrA sq hp
  ·obtain ⟨o,q,_⟩:=t1 ht
   exact ⟨o,by rw [Zap ne];exact q⟩
  ·rw [Zap (Zat (hTb P q z) hp)];exact hTb P q z
  ·rw [Rep.bl_iff.mp r]
   exact hQ H'
 have hne:∀o,H a=some o->a≠p:=fun o e z=>by rw [z,hp] at e;cases e
 rcases sq with (q | ⟨o,q⟩) | q
 ·exact main true (fun _=>⟨_,q,fun _ z=>by cases z⟩) (fun z=>by cases z) (hne _ q)
 ·exact main true (fun _=>⟨_,q,fun _ z=>by cases z⟩) (fun z=>by cases z) (hne _ q)
 ·by_cases e:a=p
  ·obtain ⟨o,_,_,q1,_⟩:=q
   rw [e,hk] at q1;cases q1
  ·exact main false (fun z=>by cases z) (fun _ H'=>.inr q) e
theorem lok_nd:∀{L:List (Addr×Str)},(L.map (·.1)).Nodup->LOk L
 | [],_=>fun P q q' h=>by simp at h
 | (a,b)::L,nd=>fun P q q' h1 h2=>by
  rw [List.map_cons,List.nodup_cons] at nd
  rcases List.mem_cons.mp h1 with e1 | m1
  ·cases e1
   rcases List.mem_cons.mp h2 with e2 | m2
   ·cases e2;rfl
   ·exact absurd (List.mem_map_of_mem (f:=(·.1)) m2) nd.1
  ·rcases List.mem_cons.mp h2 with e2 | m2
   ·cases e2;exact absurd (List.mem_map_of_mem (f:=(·.1)) m1) nd.1
   ·exact lok_nd nd.2 P q q' m1 m2
theorem Zpn:∀ds s d s',ZbL ds s=some (d,s')->Zbe ds=true/\Za3 d=true:=fun ds s d s' h=>by
 unfold ZbL at h
 split at h
 ·split at h
  ·cases h;exact ⟨rfl,rfl⟩
  ·cases h
 ·cases h
end TF
namespace TT
open PySem PyProof.Rows
section
variable {M:Model} {A:Around} {E:Value->Shared->Prop} {s:Shared}
end
end TT
namespace TT
open PySem PyProof.Rows
section
variable (rk:Keyed->Int)
variable {rk} {a b out:Array Keyed} {ia ib:Nat}
end
end TT
namespace TT
open PySem PyProof.Rows
section
variable {M:Model} {A:Around} {E:Value->Shared->Prop} {s:Shared}
variable {rk:Keyed->Int} {κ:SortKind} {In:Keyed->Prop}
end
end TT
namespace TT
open PySem PyProof.Rows
section
variable (rk:Keyed->Int)
variable {rk} {a b out:Array Keyed} {na nb:Nat}
end
section
variable {M:Model} {A:Around} {E:Value->Shared->Prop} {s:Shared} {rk:Keyed->Int} {κ:SortKind} {In:Keyed->Prop}
end
end TT
namespace TT
open PySem PyProof.Rows
section
variable {M:Model} {A:Around} {E:Value->Shared->Prop} {s:Shared} {rk:Keyed->Int} {κ:SortKind} {In:Keyed->Prop}
end
end TT
namespace TT
open PySem PyProof.Rows
section
variable (rk:Keyed->Int)
end
section
variable {rk:Keyed->Int}
end
section
variable {M:Model} {A:Around} {E:Value->Shared->Prop} {s:Shared} {rk:Keyed->Int} {κ:SortKind} {In:Keyed->Prop}
end
end TT
namespace TT
open PySem PyProof.Rows
section
variable {M:Model} {A:Around} {E:Value->Shared->Prop} {s:Shared} {rk:Keyed->Int} {κ:SortKind} {In:Keyed->Prop}
end
end TT
namespace TT
open PySem PyProof.Rows
section
variable {M:Model} {A:Around} {E:Value->Shared->Prop} {s:Shared} {rk:Keyed->Int} {κ:SortKind} {In:Keyed->Prop} {a₀:List Keyed}
end
end TT
namespace TT
open PySem PyProof.Rows
section
variable {M:Model} {A:Around} {E:Value->Shared->Prop} {s:Shared} {rk:Keyed->Int} {κ:SortKind} {In:Keyed->Prop} {a₀:List Keyed}
end
end TT
namespace TT
open PySem PyProof.Rows L2 TS
open Classical in
section
variable {prog:Program} {w:World} {A:Around} {E:Value->Shared->Prop} {s:Shared}
end
end TT
namespace TF
open PySem PySem.Spec PyProof.Rows L2
section
variable {X:Cx} {G:Gh}
end
end TF
namespace L2
open PySem PySem.Spec PyProof.Rows
section
variable {X:Cx} {tg:Expr}
end
end L2
namespace TF
open PySem PySem.Spec PyProof.Rows L2
section
variable {X:Cx} {G:Gh} {ob own:List Nat} {fr:Bool}
end
end TF
namespace TF
open PySem PySem.Spec PyProof.Rows L2
open Sem (wp)
section
variable {prog:Program} {w:World} {A:Around} {E:Value->Shared->Prop} {s:Shared}
def ZiH (n:Nat) (a c:Int) (acc:Array Value):Prop:=
 ItemsOf (fun i v=>∃t,v=.int (a+i*c) t) acc n
theorem ZlC {Q : List Value -> Shared -> Prop} {r : Addr} {a b c : Int} {t u v : Tok} {n : Nat}
    (hh : A.handled = none) (hr : IsRange s.heap r a b c t u v)
    (hsmall : Builtin.Range.small a b c = true) (hn : Builtin.Range.rangeSize a b c = n)
    (hlen : n <= 2 ^ 24)
    (hQ : ∀ (h' : Heap) (tk : Nat) (acc : Array Value), (∀ b o', s.heap.get? b = some o' -> h'.get? b = some o') ->
      ZiH n a c acc -> Q acc.toList { s with heap := h', toks := tk }) :
    wpAny (model prog w) A (collect (.ref r)) Q E s := by
  unfold collect
  apply wpAny_bind
  apply wpAny_runValue
  apply codeAny_builtin F.entry_proto_collect
  rw [Around.under_plainId
    F.plain_proto_collect _]
  show wpAny _ A.in1 (newList [] >>= fun z =>
    again (.builtin "list.__iadd__" ⟨[z, .ref r], []⟩)) _ _ s
  apply wpAny_bind
  refine wpAny_newObj_type ?_
  refine wpAny_pure ⟨plainId_quiet
    F.plain_list_iadd _, codeAny_builtin
    F.entry_list_iadd ?_⟩
  rw [Around.under_plainId
    F.plain_list_iadd _]
  show wpAny _ A.in1 (Builtin.List.listExtendWith
    (.ref s.heap.objs.size) (.ref r)
    (.ref s.heap.objs.size)) _ _ _
  have h0 : (s.heap.push
      { cls := .type "list", data := .seq ([] : List Value).toArray }).get?
      s.heap.objs.size = some { cls := .type "list", data := .seq #[] 0 } :=
    Heap.get?_push_size _ rfl
  have fin' : ∀ (h' : Heap) (tk : Nat) (acc : Array Value) (k : Nat),
      (∀ b o', s.heap.get? b = some o' -> h'.get? b = some o') ->
      h'.get? s.heap.objs.size = some
        { cls := .type "list", dict := none, data := .seq acc k, slots := #[] } ->
      ZiH n a c acc -> wpAny (model prog w) A (match Value.ref s.heap.objs.size with
        | Value.ref a => do
          match (<- load a).data with
            | Data.seq xs _ => pure xs.toList
            | _ => unsupported "internal:collect"
        | _ => unsupported "internal:collect") Q E { s with heap := h', toks := tk } := by
    intro h' tk acc k kp hS hi
    show wpAny _ A (load s.heap.objs.size >>= _) _ _ _
    refine wpAny_bind (wpAny_load hS ?_)
    exact wpAny_pure (hQ h' tk acc kp hi)
  refine wpAny_mono (wpAny_extend_range (A := A)
    (R := fun r s' => r = .ok (.ret (.ref s.heap.objs.size)) /\
      ∃ h' tk acc k, (∀ b o', s.heap.get? b = some o' -> h'.get? b = some o') /\
        h'.get? s.heap.objs.size = some
          { cls := .type "list", dict := none, data := .seq acc k, slots := #[] } /\ ZiH n a c acc /\
        s' = { s with heap := h', toks := tk })
    (s := { s with heap := (s.heap.push
      { cls := .type "list", data := .seq ([] : List Value).toArray }) }) hh
    (Heap.get?_push_of_some _ hr) hsmall hn hlen _ _ 0 h0
    fun h' tk acc' c' hk hS' hacc => ⟨rfl, h', tk, acc', c', fun b o e => hk b o (Nat.ne_of_lt
      (Heap.lt_size e)) (Heap.get?_push_of_some _ e), hS', hacc, rfl⟩)
    (fun fin s' h => ?_) (fun e s' h => ?_)
  · cases fin with
    | done f =>
      obtain ⟨e, h', tk, acc, k, kp, hS, hi, rfl⟩ := h
      cases e
      exact fin' h' tk acc k kp hS hi
    | again c' =>
      refine ⟨h.1, codeAny_mono h.2
        fun r s'' hr => ?_⟩
      obtain ⟨rfl, h', tk, acc, k, kp, hS, hi, rfl⟩ := hr
      exact fin' h' tk acc k kp hS hi
  · exact absurd h.1 (by simp)
end
variable {X:Cx} {G:Gh} {f:Rho->M D}
end TF
namespace HT
open PySem PySem.Spec PyProof.Rows
end HT
namespace HT
open PySem PySem.Spec PyProof.Rows
section
variable {prog:Program} {w:World}
variable (prog w) in
variable {A:Around} {E:Value->Shared->Prop} {s:Shared}
end
end HT
namespace HT
open PySem PySem.Spec PyProof.Rows
namespace FS
end FS
section
variable {prog:Program} {w:World} {A:Around} {E:Value->Shared->Prop} {s:Shared}
end
end HT
namespace HT
open PySem PySem.Spec PyProof.Rows
section
variable {prog:Program} {w:World} {A:Around} {E:Value->Shared->Prop} {s:Shared}
variable {a:Addr} {o:Obj} {es:Array (Int×Value)} {ep:Nat} {t:SetTable}
namespace FS
end FS
end
end HT
namespace HT
open PySem PySem.Spec PyProof.Rows
section
variable {prog:Program} {w:World} {A:Around} {E:Value->Shared->Prop} {s:Shared}
variable {a:Addr} {o:Obj} {es:Array (Int×Value)} {ep:Nat} {t:SetTable}
end
end HT
namespace HT
open PySem PySem.Spec PyProof.Rows
section
variable {prog:Program} {w:World} {A:Around} {E:Value->Shared->Prop} {s:Shared}
variable {a:Addr} {o:Obj} {es:Array (Int×Value)} {ep:Nat} {t:SetTable}
end
end HT
namespace TF
open PySem PySem.Spec PyProof.Rows L2
section
variable {X:Cx} {G:Gh}
end
section
variable {X:Cx} {G:Gh} {ob own:List Nat} {fr:Bool} {f:Rho->M D}
end
end TF
namespace TT
open PySem PyProof.Rows L2 TS
section
variable {prog:Program} {w:World} {A:Around} {E:Value->Shared->Prop} {s:Shared}
end
end TT
namespace TS
open PySem PySem.Spec PyProof.Rows L2
section
variable {prog:Program} {w:World} {A:Around} {E:Value->Shared->Prop} {s:Shared}
end
end TS
namespace TF
open PySem PySem.Spec PyProof.Rows L2 TS
section
variable {X:Cx} {G:Gh}
end
end TF
namespace TF
open PySem PySem.Spec PyProof.Rows L2 TT
section
variable {X:Cx} {G:Gh}
end
end TF
namespace TQ
open PySem L2 TF TQ
open TP
open TP2
open TP3
end TQ
namespace TF
open PySem PySem.Spec PyProof.Rows L2
section
variable {X:Cx} {G:Gh} {f g:Rho->M D}
end
end TF
namespace TQ
open PySem L2 TF
end TQ
namespace TF
open PySem PySem.Spec PyProof.Rows L2
section
variable {X:Cx} {G:Gh}
end
theorem boot_sum:bootBuiltins "sum" = some (.builtin "sum"):=by decide +kernel
section
variable {X:Cx} {G:Gh}
def ZdA (ns:List Int):Bool:=ns.all fun n=>decide (-4294967296<=n)&&decide (n<=4294967296)
theorem Zlc {ns:List Int} (h:ZdA ns=true):∀j:Nat,-(4294967296*(j:Int))<=(ns.take j).sum/\(ns.take j).sum<=4294967296*(j:Int):=by
 intro j
 induction ns generalizing j with
 | nil=>rw [List.take_nil];show _<=(0:Int)/\(0:Int)<=_;omega
 | cons n r ih=>
  cases j with
  | zero=>rw [List.take_zero];show _<=(0:Int)/\(0:Int)<=_;omega
  | succ j=>
   unfold ZdA at h
   simp only [List.all_cons,Bool.and_eq_true,decide_eq_true_eq] at h
   have:=ih h.2 j
   rw [List.take_succ_cons,List.sum_cons]
   omega
def dSum:List D->Option D
 | [.lst ds]=>match Zau ds with | some ns=>if ZdA ns=true then some (.int ns.sum) else none | none=>none
 | _=>none
theorem ZoE (hc:X.calm=true):ZbY X (.builtin "sum") (fun xs H Q=>∃p ns,xs=[.ref p]/\SqL X.K H p (ns.map V.int)/\ZdA ns=true/\Q (.int ns.sum) H):=by
 intro pins s σ H xs us Q I r h
 obtain ⟨p,ns,rfl,hp,ok,q⟩:=h
 obtain ⟨u,rfl,ru⟩:=Zcj r
 cases ru
 obtain ⟨its,rv,pl,hz⟩:=I.list hp
 have hi:IntsAre its ns:=Zbq rv
 obtain ⟨xs,e⟩:=hi.allInts.items
 have hns:ns=xs.toList.map (·.1):=by rw [<-hi.numsOf,<-nums_intItems,<-e]
 have hl:=pl.isList
 rw [e] at hl
 have hlen:ns.length=xs.size:=by rw [hns,List.length_map,Array.length_toList]
 have hz2:ns.length<=16777216:=by
  have:=hz
  rw [List.length_map] at this
  rw [show sizeLine=16777216 by decide] at this
  exact this
 refine sum_intList (I.ok.hd hc) hl (fun j hj=>?_) fun h' tk t' hk=>?_
 ·rw [preSum_eq,<-hns]
  have h1:=Zlc ok (j+1)
  have h2:-4294967296<=numAt xs j/\numAt xs j<=4294967296:=by
   rw [numAt_eq,<-hns]
   have hm:ns.getD j 0∈ns:=getD_mem (by omega)
   have:=List.all_eq_true.mp ok _ hm
   simp only [Bool.and_eq_true,decide_eq_true_eq] at this
   exact this
  constructor
  ·constructor <;> omega
  ·constructor <;> omega
 ·rw [preSum_eq,<-hns,<-hlen,List.take_length]
  exact ⟨.int ns.sum,H,I.kept (t':=tk) hk,⟨_,rfl⟩,q⟩
theorem ZoF (hc:X.calm=true):Zcl X G (.builtin "sum") dSum:=
 ⟨_,ZoE hc,fun Hf H s xs ds c Q e1 st r q k=>by
  match ds,q,r with
  | [.lst es],q,r=>
   have q:(match Zau es with | some ns=>if ZdA ns=true then some (D.int ns.sum) else none | none=>none)=some c:=q
   cases he:Zau es with
   | none=>rw [he] at q;cases q
   | some ns=>
    rw [he] at q
    by_cases ok:ZdA ns=true
    ·have q:(if ZdA ns=true then some (D.int ns.sum) else none)=some c:=q
     rw [if_pos ok] at q
     cases q
     obtain ⟨v,rfl,rv⟩:=RepL.one_inv r
     obtain ⟨p,vs,rfl,np,hp,rp⟩:=Rep.lst_iff.mp rv
     rw [Zbv he] at rp
     rw [RepL.ints rp] at hp
     exact ⟨p,ns,rfl,SqL.of (e1 _ _ np hp),ok,k _ Hf H (.refl e1) st (Rep.int_iff.mpr rfl) (.scal fun z=>z)⟩
    ·have q:(if ZdA ns=true then some (D.int ns.sum) else none)=some c:=q
     rw [if_neg ok] at q;cases q⟩
end
end TF
namespace TF
open PySem PySem.Spec PyProof.Rows L2 PySem.SeqAt
open AutoSeq1 (wpAny_loadPart')
theorem Zk9 (l:Addr) (items:Array Value) (n:Nat) (dd:Option Addr) (sl:Array (Option Value)) (u:Tok) :
  Meets (Builtin.«tuple.__mul__» ⟨[.ref l,.int 1 u],[]⟩) (fun _ R s=>s.heap.get? l=some { cls:=.type "tuple",dict:=dd,data:=.seq items n,slots:=sl }/\R (.ok (.ret (Value.ref l))) s):=
 .of_wp fun prog w A R s h=>by
  obtain ⟨hp,g,d,tk,os⟩:=s;obtain ⟨hl,h⟩:=h;have f1:=AutoSeq1.idx_int;have f2:=AutoSeq1.sub_tuple_tuple;have f3:=AutoSeq1.sub_list_list;have f4:=AutoSeq1.sub_tuple_list;have f5:=AutoSeq1.sub_list_tuple;wp_walk using wpAny_loadPart' hl
  exact ⟨_,rfl,h⟩
theorem Zla (l:Addr) (items:Array Value) (n:Nat) (dd:Option Addr) (sl:Array (Option Value)) (u:Tok) (hc1:items.isEmpty=false) :
  Meets (Builtin.«tuple.__mul__» ⟨[.ref l,.int 0 u],[]⟩) (fun _ R s=>s.heap.get? l=some { cls:=.type "tuple",dict:=dd,data:=.seq items n,slots:=sl }/\R (.ok (.ret (Value.ref s.heap.objs.size))) { s with heap:=s.heap.push { cls:=Value.type "tuple",data:=Data.seq #[] },toks:=s.toks }):=
 .of_wp fun prog w A R s h=>by
  obtain ⟨hp,g,d,tk,os⟩:=s;obtain ⟨hl,h⟩:=h;have f1:=AutoSeq1.idx_int;have f2:=AutoSeq1.sub_tuple_tuple;have f3:=AutoSeq1.sub_list_list;have f4:=AutoSeq1.sub_tuple_list;have f5:=AutoSeq1.sub_list_tuple;wp_walk using wpAny_loadPart' hl
  exact ⟨_,rfl,h⟩
section
variable {X:Cx} {G:Gh}
def ZrD (K:PySem.W.Frag):R2:=fun x y H Q=>∃l xs,x=.ref l/\y=.int 1/\SqT K H l xs/\Q (.ref l) H
def ZrE (K:PySem.W.Frag):R2:=fun x y H Q=>∃l xs,x=.ref l/\y=.int 0/\SqT K H l xs/\xs≠[]/\∀p,H p=none->Q (.ref p) (upd H p (.tup []))
theorem Zpi:OpR X (binaryOp .Mult) (ZrD X.K):=by
 intro pins s σ H x y v u Q I rx ry h
 obtain ⟨l,xs,rfl,rfl,hH,q⟩:=h
 cases rx
 obtain ⟨t,rfl⟩:=ry
 obtain ⟨its,r,p1,_⟩:=I.tuple hH
 obtain ⟨⟨cls,dd,data,sl⟩,ho,hc,n,hd⟩:=id p1
 simp only at hc hd
 subst hc hd
 exact wpAny_binaryOp_repeat_ref (T:="tuple") (U:="int") (by decide) ⟨_,ho,rfl⟩ (fun s'=>typeIs_int s' 1 t) Zdp F.fills_int_mul F.slot_int_rmul Zet F.slot_int_index.lookup
  (call_meets F.slot_int_rmul (typeIs_int s 1 t) F.entry_int_rmul (F.args_int_rmul_2 _ _) (ZdT 1 t l its.toArray n dd sl)
   ⟨ho,rfl,⟨_,ho,rfl⟩,call_meets PySem.F.slot_tuple_mul ⟨_,ho,rfl⟩ PySem.F.entry_tuple_mul (PySem.F.args_tuple_mul_2 _ _) (Zk9 l its.toArray n dd sl t) ⟨ho,.ref l,H,I,rfl,q⟩⟩)
theorem Zpj:OpR X (binaryOp .Mult) (ZrE X.K):=by
 intro pins s σ H x y v u Q I rx ry h
 obtain ⟨l,xs,rfl,rfl,hH,hne,q⟩:=h
 cases rx
 obtain ⟨t,rfl⟩:=ry
 obtain ⟨its,r,p1,_⟩:=I.tuple hH
 obtain ⟨⟨cls,dd,data,sl⟩,ho,hc,n,hd⟩:=id p1
 simp only at hc hd
 subst hc hd
 have hne':its≠[]:=fun z=>hne (r.nil_iff.mp z)
 have hemp:its.toArray.isEmpty=false:=by cases its with | nil=>exact absurd rfl hne' | cons a b=>rfl
 exact wpAny_binaryOp_repeat_ref (T:="tuple") (U:="int") (by decide) ⟨_,ho,rfl⟩ (fun s'=>typeIs_int s' 0 t) Zdp F.fills_int_mul F.slot_int_rmul Zet F.slot_int_index.lookup
  (call_meets F.slot_int_rmul (typeIs_int s 0 t) F.entry_int_rmul (F.args_int_rmul_2 _ _) (ZdT 0 t l its.toArray n dd sl)
   ⟨ho,rfl,⟨_,ho,rfl⟩,call_meets PySem.F.slot_tuple_mul ⟨_,ho,rfl⟩ PySem.F.entry_tuple_mul (PySem.F.args_tuple_mul_2 _ _) (Zla l its.toArray n dd sl t hemp) ⟨ho,.ref s.heap.objs.size,_,I.laid (t':=s.toks) (o:=.tup []) (fun b ob q=>Heap.get?_push_of_some _ q) (Nat.le_refl _) ⟨Nat.zero_le _,[],.nil,TupN.new _ _⟩,rfl,q _ (I.hok.fresh (Nat.le_refl _))⟩⟩)
def Zh2 (d e:D):Option D:=match d,e with
 | .tup ds,.int k=>if k=1 then some (.tup ds) else if k=0/\ds≠[] then some (.tup []) else ZgD (.tup ds) (.int k)
 | _,_=>ZgD d e
theorem Zkh:OpD X G (binaryOp .Mult) Zh2:=by
 obtain ⟨r0,po,qo⟩:=Zph (X:=X) (G:=G)
 refine ⟨_,po.or (Zpi.or Zpj),fun Hf H s x y d e c Q e1 st rx ry q k=>?_⟩
 by_cases hd:∃ds j,d=.tup ds/\e=.int j
 ·obtain ⟨ds,j,rfl,rfl⟩:=hd
  have q:(if j=1 then some (D.tup ds) else if j=0/\ds≠[] then some (.tup []) else ZgD (.tup ds) (.int j))=some c:=q
  by_cases h1:j=1
  ·rw [if_pos h1] at q
   cases q
   obtain ⟨p,vs,rfl,np,hp,rp⟩:=Rep.tup_iff.mp rx
   refine .inr (.inl ⟨p,vs,rfl,by rw [Rep.int_iff.mp ry,h1],SqT.of (e1 _ _ np hp),?_⟩)
   exact k (.ref p) _ _ (.refl e1) st (Rep.tup_iff.mpr ⟨p,vs,rfl,np,hp,rp⟩) (.scal fun z=>z)
  ·rw [if_neg h1] at q
   by_cases h2:j=0/\ds≠[]
   ·rw [if_pos h2] at q
    cases q
    obtain ⟨p,vs,rfl,np,hp,rp⟩:=Rep.tup_iff.mp rx
    refine .inr (.inr ⟨p,vs,rfl,by rw [Rep.int_iff.mp ry,h2.1],SqT.of (e1 _ _ np hp),fun z=>h2.2 (List.length_eq_zero_iff.mp (by rw [rp.length,z];rfl)),fun l hl=>?_⟩)
    have nf:=Gh.nofp st hl
    have g2:=Gr.new (o:=.tup []) e1 hl nf
    exact k (.ref l) _ _ g2 (Gh.grow st hl) (Rep.tup_iff.mpr ⟨l,_,rfl,nf,Zav,RepL.nil_iff.mpr rfl⟩) (.scal fun z=>z)
   ·rw [if_neg h2] at q
    exact .inl (qo Hf H s x y _ _ c Q e1 st rx ry q k)
 ·have q':ZgD d e=some c:=by
   unfold Zh2 at q
   split at q
   ·exact absurd ⟨_,_,rfl,rfl⟩ hd
   ·exact q
  exact .inl (qo Hf H s x y _ _ c Q e1 st rx ry q' k)
end
end TF
namespace TQ
open PySem L2 TF TQ
open TP
open TP2
open TP3
def ZmX:Rho->M Out:=(sSeq (sSet 1 (dTup (Zac (dOp dIx (dVar 0) (dC (.int 0))) (Zac (dFn Zbg (Zac (dVar 0) dNil)) dNil))))
 (sSeq (sRet (ZaP [none,some 1] (ZaU (dOp dIx (dVar 0) (dC (.int 0)))) (gOne 0) ZaZ (dFn Zcn (Zac (dVar 1) (Zac (dVar 0) dNil)))))
 Zam))
def ZbX:List D->M D:=runB 2 1 ZmX
def ZhZ (Fs:List D->M D):Rho->M Out:=(sSeq (sSet 4 (ZaP [none,some 2,some 0] (ZaY (dVar 3)) (gOne 0) (bAnd (asB (dOp dNeO (dVar 0) (dVar 1))) (asB (dOp Zda (dVar 0) (dOp dIx (dVar 2) (dVar 1))))) (dVar 0)))
 (sSeq (sRet (dOp dAdd (dLst (Zac (dVar 2) dNil)) (dFn Fs (Zac (dVar 0) (Zac (dVar 1) (Zac (dVar 4) dNil))))))
 Zam))
def Zcg (Fs:List D->M D):List D->M D:=runB 5 4 (ZhZ Fs)
def ZjE:Rho->M Out:=(sSeq (sRet (ZaP [none,some 0,some 1] (ZaY (dVar 2)) (gOne 0) (asB (dOp dIn (dVar 0) (dOp dIx (dVar 1) (dVar 2)))) (dVar 0)))
 Zam)
def Zdn:List D->M D:=runB 3 3 ZjE
def Zop:Rho->M Out:=(sSeq (sRet (ZaD dSum (Zac (ZaP [none,some 0] (ZaY (dVar 1)) (gOne 0) ZaZ (dOp dIx (dVar 1) (dVar 0))) dNil)))
 Zam)
def Zdu:List D->M D:=runB 2 2 Zop
def Zdq (Fs:List D->M D):Rho->M Out:=(sSeq (sIf (asB (dOp dEqO (dVar 2) (dLst dNil)))
 (sSeq (sRet (dLst dNil))
 Zam)
 Zam)
 (sSeq (sSet 3 (ZaP [none,some 0,some 2] (ZaY (dVar 2)) (gOne 0) ZaZ (dFn Zdn (Zac (dVar 1) (Zac (dVar 0) (Zac (dVar 2) dNil))))))
 (sSeq (sFor (ZaU (ZaD dLen (Zac (dVar 2) dNil))) (gOne 4)
 (sSeq (sIf (asB (dOp dLe (dFn Zdu (Zac (dVar 1) (Zac (dOp dIx (dVar 3) (dVar 4)) dNil))) (dOp dIx (dVar 1) (dOp dIx (dVar 2) (dVar 4)))))
 (sSeq (sRet (dFn (Zcg Fs) (Zac (dVar 0) (Zac (dVar 1) (Zac (dOp dIx (dVar 2) (dVar 4)) (Zac (dVar 2) dNil))))))
 Zam)
 Zam)
 Zam))
 (sSeq (sSet 5 (ZaP [none] (ZaY (dVar 3)) (gOne 0) ZaZ (ZaD dLen (Zac (dVar 0) dNil))))
 (sSeq (sSet 6 (dOp dIx (dVar 2) (dOp Zh4 (dVar 5) (ZaD ZjO (Zac (dVar 5) dNil)))))
 (sSeq (sSet 7 (dFn (Zcg Fs) (Zac (dVar 0) (Zac (dVar 1) (Zac (dVar 6) (Zac (dVar 2) dNil))))))
 (sSeq (sSet 8 (dFn Fs (Zac (dVar 0) (Zac (dVar 1) (Zac (ZaP [none,some 6] (ZaY (dVar 2)) (gOne 0) (asB (dOp dNeO (dVar 0) (dVar 1))) (dVar 0)) dNil)))))
 (sSeq (sRet (dIf (asB (dOp dGe (dFn Zdu (Zac (dVar 1) (Zac (dVar 7) dNil))) (dFn Zdu (Zac (dVar 1) (Zac (dVar 8) dNil))))) (dVar 7) (dVar 8)))
 Zam))))))))
def Za9:Nat->List D->M D
 | 0=>fun _=>ZaB
 | n+1=>runB 9 3 (Zdq (Za9 n))
def ZeN:Rho->M Out:=(sSeq (sSet 2 (ZaP [none] (ZaY (dFn ZbX (Zac (dFn Zdr (Zac (dVar 0) dNil)) dNil))) (gOne 0) ZaZ (ZaD Zh6 (Zac (ZaP [none] (ZaY (dVar 0)) (gOne 0) ZaZ (dTup (Zac (dVar 0) (Zac (dC (.bl true)) dNil)))) dNil))))
 (sSeq (sRet (ZaD ZeC (Zac (ZaD ZgC (Zac (dFn (Za9 26) (Zac (dVar 2) (Zac (dVar 1) (Zac (ZbV (dOp dIx (dVar 0) (dC (.int 0)))) dNil)))) dNil)) dNil)))
 Zam))
def ZbT:List D->M D:=runB 3 2 ZeN
def Zsq:Rho->M Out:=(sSeq (sSet 1 (dFn ZbT (Zac (dVar 0) (Zac (dOp Zh2 (dTup (Zac (dC (.int 1)) dNil)) (dOp dIx (dVar 0) (dC (.int 0)))) dNil))))
 (sSeq (sRet (dTup (Zac (ZaD dLen (Zac (dVar 1) dNil)) (Zac (dVar 1) dNil))))
 Zam))
def ZdK:List D->M D:=runB 2 1 Zsq
def ZkM:Rho->M Out:=(sSeq (sSet 2 (dFn ZbX (Zac (dVar 0) dNil)))
 (sSeq (sOwn 3 (dC (.dk [])))
 (sSeq (sFor (fun ρ=>(ZaY (dVar 1)) (hide [3] ρ)) (gOne 4)
 (sSeq (Zft 3 (fun ρ=>(dVar 4) (hide [3] ρ)) (chk true (dFn Zb6 (Zac (ZaP [none,some 3] (ZaY (dOp dIx (dVar 2) (dVar 4))) (gOne 0) (asB (dOp dIn (dVar 0) (dVar 1))) (dOp dIxK (dVar 1) (dVar 0))) dNil))))
 Zam))
 (sSeq (sRet (ZaD ZeC (Zac (ZaP [none,some 3] (ZaU (dOp dIx (dVar 0) (dC (.int 0)))) (gOne 0) ZaZ (dOp dIxK (dVar 1) (dVar 0))) dNil)))
 Zam))))
def ZcT:List D->M D:=runB 5 2 ZkM
end TQ
namespace TF
open PySem PySem.Spec PyProof.Rows L2
section
variable {X:Cx} {G:Gh}
end
section
variable {X:Cx} {G:Gh}
def Zh5 (fa fb fc:Rho->M D):Rho->M D:=fun ρ=>Zan (fa ρ) fun d=>Zan (fb ρ) fun y=>Zan (fc ρ) fun z=>match d with
 | .dk kvs=>(match Zbx y with | some k=>(match valV kvs k with | some v=>mOf (vD v) | none=>mret z) | none=>ZaB)
 | _=>ZaB
theorem ZqK {a b c:Expr} {apos cpos:Pos} {fa fb fc:Rho->M D} {r1 r2 r3:Bool} (hu:X.A.units+1<cLine) (ha:PD X G r1 a fa) (hb:PD X G r2 b fb) (hc:PD X G r3 c fc)
  (hbase:attributeBase a "get" X.env (eval a X.env)=eval a X.env:=by rfl)
  (hfew:((backTo cpos (starEach [b,c] X.env)).all (fun x=>!x.1)&&(backToKw cpos (keywordEach [] X.env)).all (fun x=>x.1.isSome)
   && decide (([b,c]:List Expr).length+([]:List Keyword).length+(if ([]:List Keyword).isEmpty then 0 else 1)<30))=true:=by rfl)
  (hline:(apos.endLine==cpos.line)=true:=by rfl) (htr:backTo cpos (starEach [b,c] X.env)=[(false,eval b X.env),(false,eval c X.env)]:=by rfl) :
  PD X G false (.Call (.Attribute a "get" apos) [b,c] [] cpos) (Zh5 fa fb fc):=by
 obtain ⟨ta,pa,qa⟩:=ha.drop
 obtain ⟨tb,pb,qb⟩:=hb.drop
 obtain ⟨tc,pc,qc⟩:=hc.drop
 refine ⟨_,Zo6 hu pa pb pc ⟨hbase,hfew,hline,htr⟩,fun σ Hf H ρ s d s' Q e1 e2 e3 e4 k=>?_⟩
 obtain ⟨da,s1,a1,a2⟩:=Zai e4
 obtain ⟨db,s2,a3,a4⟩:=Zai a2
 obtain ⟨dc,s3,a5,a6⟩:=Zai a4
 refine qa σ Hf H ρ s da s1 _ e1 e2 e3 a1 fun x Hf1 H1 g1 st1 r1=>?_
 match da,a6,r1 with
 | .dk kvs,a6,r1=>
  obtain ⟨p,rfl,np,hp⟩:=Rep.dk_iff.mp r1
  have a6:(match Zbx db with | some k=>(match valV kvs k with | some v=>mOf (vD v) | none=>mret dc) | none=>ZaB) s3=some (d,s'):=a6
  refine ⟨p,rfl,.inl ⟨kvs,.of (g1.fh _ _ np hp)⟩,qb σ Hf1 H1 ρ s1 db _ _ g1.fh (e2.ext g1.ff) st1 a3 fun y Hf2 H2 g2 st2 r2=>?_⟩
  refine qc σ Hf2 H2 ρ s2 dc _ _ g2.fh ((e2.ext g1.ff).ext g2.ff) st2 a5 fun z Hf3 H3 g3 st3 r3=>?_
  have hp3:H3 p=some (.dK kvs):=g3.fh _ _ np (g3.ff _ _ np (g2.ff _ _ np hp))
  cases ek:Zbx db with
  | none=>rw [ek] at a6;cases a6
  | some ky=>
   rw [ek] at a6
   have ey:=ZcR ek r2
   subst ey
   refine ⟨valV kvs ky,.inl ⟨kvs,ky,.of hp3,rfl,rfl⟩,?_⟩
   have a6:(match valV kvs ky with | some v=>mOf (vD v) | none=>mret dc) s3=some (d,s'):=a6
   cases ev:valV kvs ky with
   | none=>
    rw [ev] at a6
    obtain ⟨rfl,rfl⟩:=Zaq a6
    exact k z Hf3 H3 ((g1.trans g2).trans g3) st3 r3 (fun z=>by cases z)
   | some v=>
    rw [ev] at a6
    obtain ⟨a7,rfl⟩:=Zbt a6
    exact k v Hf3 H3 ((g1.trans g2).trans g3) st3 (Znl a7) (fun z=>by cases z)
def valφ (v a:Addr):Heap->Prop:=fun h=>h.IsValuesView v a
def ZsI (td:TE):TE:=fun σ H Q=>td σ H fun x H1=>∃a kvs,x=.ref a/\Rd H1 a (.dK kvs)/\∀v,H1 v=none->Q (.ref v) (upd H1 v (.ext (valφ v a)))
theorem ZnH {o:Expr} {apos cpos:Pos} {td:TE} (ho:PE X o td) (hbase:attributeBase o "values" X.env (eval o X.env)=eval o X.env:=by rfl)
  (hfew:((backTo cpos (starEach [] X.env)).all (fun x=>!x.1)&&(backToKw cpos (keywordEach [] X.env)).all (fun x=>x.1.isSome)
   && decide (([]:List Expr).length+([]:List Keyword).length+(if ([]:List Keyword).isEmpty then 0 else 1)<30))=true:=by rfl)
  (hline:(apos.endLine==cpos.line)=true:=by rfl) (htr:backTo cpos (starEach [] X.env)=[]:=by rfl):PE X (.Call (.Attribute o "values" apos) [] [] cpos) (ZsI td):=by
 intro pins s σ H Q I h
 refine wpAny_Call_method hbase hfew hline PySem.F.plainAttrs_dict PySem.F.slot_dict_values PySem.F.type_dict_values (thn (ho pins s σ H _ I h) fun u s1 ⟨x,H1,I1,rx,a,kvs,ex,d,q1⟩=>?_)
 subst ex
 obtain rfl:u=Value.ref a:=rx
 obtain ⟨t1,t2,_⟩:=Zoh I1 (.inl ⟨kvs,d⟩)
 refine ⟨t1,t2,?_⟩
 rw [htr]
 refine Calls.callWith_builtin rfl (PySem.evalArgs_none ?_)
 obtain ⟨z,hd,vs,rel,dd⟩:=Zee I1.hok d
 refine call_meetsIn PySem.F.slot_dict_values dd.typeIs PySem.F.entry_dict_values (PySem.F.args_dict_values_1 _) (meets_dict_values (Zbm X.prog X.w) a hd) ⟨⟨vs,dd⟩,?_⟩
 refine ⟨.ref s1.heap.objs.size,upd H1 s1.heap.objs.size (.ext (valφ s1.heap.objs.size a)),I1.laid (t':=s1.toks) (fun b u e=>Heap.get?_push_of_some _ e) (Nat.le_refl _) ?_,rfl,q1 _ (I1.hok.fresh (Nat.le_refl _))⟩
 exact ⟨⟨_,Heap.get?_push_size _ rfl,rfl,rfl⟩,⟨_,Heap.get?_push_size _ rfl⟩,fun h1 h2 ⟨o,e,c⟩ k=>⟨o,k _ e,c⟩⟩
theorem Zkg {α β:Type} {F:α->β->Prop}:∀{l:List α} {r:List β} {i:Nat} {y:β},Paired F l r->r[i]?=some y->∃x,l[i]?=some x/\F x y
 | _,_,i,y,.nil,h=>by simp at h
 | _,_,0,y,.cons f _,h=>by simp at h;exact ⟨_,rfl,by rw [<-h];exact f⟩
 | _,_,i+1,y,.cons _ r,h=>by
  obtain ⟨x,h1,h2⟩:=Zkg r (i:=i) (by simpa using h)
  exact ⟨x,by simpa using h1,h2⟩
theorem ZkE:∀{vs:List Value} {ns:List Int} {i:Nat} {u:Value},IntsAre vs ns->vs[i]?=some u->∃n t,ns[i]?=some n/\u=.int n t
 | _,_,_,_,.nil,h=>by simp at h
 | _,_,0,u,.cons n t _,h=>by simp at h;exact ⟨n,t,rfl,h.symm⟩
 | _,_,i+1,u,.cons n t r,h=>by
  obtain ⟨m,t',h1,h2⟩:=ZkE r (i:=i) (by simpa using h)
  exact ⟨m,t',by simpa using h1,h2⟩
theorem ZgW (ns:List Int):preSum (fun i=>ns.getD i 0) ns.length=ns.sum:=by
 have:∀k,k<=ns.length->preSum (fun i=>ns.getD i 0) k=(ns.take k).sum:=by
  intro k
  induction k with
  | zero=>intro _;rw [List.take_zero];rfl
  | succ k ih=>
   intro hk
   show preSum (fun i=>ns.getD i 0) k+ns.getD k 0=_
   rw [ih (by omega),List.take_add_one,List.sum_append,List.getElem?_eq_getElem (by omega),List.getD_eq_getElem?_getD,List.getElem?_eq_getElem (by omega)]
   simp
 have h:=this ns.length (Nat.le_refl _)
 rw [List.take_length] at h
 exact h
theorem ZkY (hc:X.calm=true):ZbY X (.builtin "sum") (fun xs H Q=>∃(v a:Addr) (kvs:List (Key×V)) (ns:List Int),xs=[.ref v]/\H v=some (.ext (valφ v a))/\Rd H a (.dK kvs)/\kvs.map (·.2)=ns.map V.int/\Q (.int ns.sum) H):=by
 intro pins s σ H xs us Q I r h
 obtain ⟨v,a,kvs,ns,rfl,hv,hd,hns,q⟩:=h
 obtain ⟨u,rfl,ru⟩:=Zcj r
 cases ru
 obtain ⟨z,hy,vs,rel,dd⟩:=Zee I.hok hd
 obtain ⟨ep,hat⟩:=dd.dictAt
 have hvv:s.heap.IsValuesView v a:=(I.hok v _ hv).1
 have hlen:kvs.length=vs.length:=rel.length
 have K:=PySem.W.kdl_values (prog:=X.prog) (w:=X.w) (r:=v) (d:=a) (knd:=Zbm X.prog X.w) (kvs:=vs) (ep:=ep)
 refine call_sum_walkAnyS ?_
 obtain ⟨oI,St,hit,W,st⟩:=K.iter X.A.in1 s (I.ok.hd hc) ⟨hvv,hat⟩
 refine hit _ _ ⟨s.heap.objs.size,_,_,_,vs.length,_,_,fun i=>ns.getD i 0,rfl,W.toS,st,fun b hb=>?_,fun i u hu=>?_,fun s' t' hm=>?_⟩
 ·show b<(s.heap.push oI).objs.size
  rw [size_push']
  rcases List.mem_cons.mp hb with e | hb
  ·rw [e];exact Nat.lt_succ_self _
  ·rw [List.mem_singleton.mp hb];exact Nat.lt_succ_of_lt (K.there _ ⟨hvv,hat⟩).2
 ·obtain ⟨k,hx⟩:=hu
  have hi:i<kvs.length:=by rw [hlen];exact (List.getElem?_eq_some_iff.mp hx).1
  obtain ⟨kv,hkv,rkv⟩:=Zkg rel hx
  have e1:(kvs.map (·.2))[i]?=some kv.2:=by rw [List.getElem?_map,hkv];rfl
  rw [hns,List.getElem?_map] at e1
  cases q2:ns[i]? with
  | none=>rw [q2] at e1;cases e1
  | some n=>
   rw [q2] at e1
   have e2:V.int n=kv.2:=Option.some.inj e1
   have r2:RelV kv.2 u:=rkv.2
   rw [<-e2] at r2
   obtain ⟨t,rfl⟩:=r2
   exact ⟨t,by show Value.int n t=Value.int (ns.getD i 0) t;rw [List.getD_eq_getElem?_getD,q2];rfl⟩
 ·have hk:∀b o,s.heap.get? b=some o->s'.heap.get? b=some o:=fun b o e=>
   hm.heap b o (fun hI=>absurd (Heap.lt_size e) (by rw [List.mem_singleton.mp hI];exact Nat.lt_irrefl _)) (Heap.get?_push_of_some _ e)
  rw [Moved.eq_with hm]
  have hl2:ns.length=vs.length:=by
   have:=congrArg List.length hns
   rw [List.length_map,List.length_map] at this
   omega
  rw [<-hl2,ZgW]
  exact ⟨.int ns.sum,H,I.kept hk,⟨_,rfl⟩,q⟩
def ZeF:List (Key×V)->Option (List Int)
 | []=>some []
 | (_,.int n)::r=>(ZeF r).map (n :: ·)
 | _=>none
theorem ZjT:∀{kvs:List (Key×V)} {ns:List Int},ZeF kvs=some ns->kvs.map (·.2)=ns.map V.int
 | [],ns,h=>by cases h;rfl
 | (k,.int n)::r,ns,h=>by
  obtain ⟨m,h1,rfl⟩:=Option.map_eq_some_iff.mp h
  rw [List.map_cons,List.map_cons,ZjT h1]
 | (_,.non)::_,_,h=>by cases h
 | (_,.bl _)::_,_,h=>by cases h
 | (_,.str _)::_,_,h=>by cases h
 | (_,.ref _)::_,_,h=>by cases h
 | (_,.ty _)::_,_,h=>by cases h
 | (_,.flt _)::_,_,h=>by cases h
 | (_,.byt _)::_,_,h=>by cases h
def Zhl (f:Rho->M D):Rho->M D:=fun ρ=>Zan (f ρ) fun d=>match d with
 | .dk kvs=>(match ZeF kvs with | some ns=>mret (.int ns.sum) | none=>ZaB)
 | _=>ZaB
theorem ZmB {a:Expr} {p pos apos cpos:Pos} {f:Rho->M D} {r1:Bool} (hc:X.calm=true) (hg:Gl X "sum") (hm:X.mg "sum" = none) (hv:bootBuiltins "sum" = some (.builtin "sum")) (ha:PD X G r1 a f)
  (hbase:attributeBase a "values" X.env (eval a X.env)=eval a X.env:=by rfl)
  (hfew:((backTo cpos (starEach [] X.env)).all (fun x=>!x.1)&&(backToKw cpos (keywordEach [] X.env)).all (fun x=>x.1.isSome)
   && decide (([]:List Expr).length+([]:List Keyword).length+(if ([]:List Keyword).isEmpty then 0 else 1)<30))=true:=by rfl)
  (hline:(apos.endLine==cpos.line)=true:=by rfl) (htr:backTo cpos (starEach [] X.env)=[]:=by rfl)
  (he:starEach [.Call (.Attribute a "values" apos) [] [] cpos] X.env=(false,eval (.Call (.Attribute a "values" apos) [] [] cpos) X.env)::starEach [] X.env:=by rfl) :
  PD X G true (.Call (.Name "sum" p) [.Call (.Attribute a "values" apos) [] [] cpos] [] pos) (Zhl f):=by
 obtain ⟨t,pa,qa⟩:=ha.drop
 refine ⟨_,Zew (ZkY hc) hg hm hv (Zbb (ZnH pa hbase hfew hline htr) ZbO he) (by decide) (by decide) he rfl,fun σ Hf H ρ s d s' Q e1 e2 e3 e4 k=>?_⟩
 obtain ⟨da,s1,a1,a2⟩:=Zai e4
 match da,a2 with
 | .dk kvs,a2=>
  have a2:(match ZeF kvs with | some ns=>mret (D.int ns.sum) | none=>ZaB) s1=some (d,s'):=a2
  cases hn:ZeF kvs with
  | none=>rw [hn] at a2;cases a2
  | some ns=>
   rw [hn] at a2
   obtain ⟨rfl,rfl⟩:=Zaq a2
   refine qa σ Hf H ρ s _ _ _ e1 e2 e3 a1 fun x Hf1 H1 g1 st1 r1=>?_
   obtain ⟨q,rfl,nq,hq⟩:=Rep.dk_iff.mp r1
   have hq1:=g1.fh _ _ nq hq
   refine ⟨q,kvs,rfl,.of hq1,fun v hv=>?_⟩
   have hqv:q≠v:=fun z=>by rw [<-z,hq1] at hv;cases hv
   have st2:G.st _ (upd H1 v (.ext (valφ v q))):=Gh.grow st1 hv
   have fp:Hf1 v=none:=by
    cases q:Hf1 v with
    | none=>rfl
    | some o=>rw [g1.fh v o (Gh.nofp st1 hv) q] at hv;cases hv
   have gA:Gr G Hf1 H1 Hf1 (upd H1 v (.ext (valφ v q))):=⟨fun b o n q=>by rw [Zap (Zat q hv)];exact q,.refl _ _,fun b o n q=>by rw [Zap (Zat q fp)];exact g1.fh b o n q,fun b n h1 h2=>h1⟩
   refine ⟨v,q,kvs,ns,rfl,Zav,.of (by rw [Zap hqv];exact hq1),ZjT hn,?_⟩
   exact k _ Hf1 _ (g1.trans gA) st2 (Rep.int_iff.mpr rfl) fun _=>.scal fun z=>z
theorem Zm7 (hc:X.calm=true):ZbY X (.builtin "sum") (fun xs H Q=>∃(p:Addr) (ns:List Int),xs=[.ref p]/\SqT X.K H p (ns.map V.int)/\Q (.int ns.sum) H):=by
 intro pins s σ H xs us Q I r h
 obtain ⟨p,ns,rfl,hp,q⟩:=h
 obtain ⟨u,rfl,ru⟩:=Zcj r
 cases ru
 obtain ⟨its,rv,pl,hz⟩:=I.tuple hp
 have hi:IntsAre its ns:=Zbq rv
 have hl:s.heap.IsTuple p its.toArray:=pl
 have hpl:p<s.heap.objs.size:=by obtain ⟨o,ho,_⟩:=hl;exact Heap.lt_size ho
 have hne:p≠s.heap.objs.size:=Nat.ne_of_lt hpl
 have hil:its.length=ns.length:=hi.length
 refine call_sum_walkAnyS (wpAny_pyIter_tuple hl ⟨s.heap.objs.size,_,_,_,its.toArray.size,_,_,fun i=>ns.getD i 0,rfl,(Walks.tuple (A:=X.A.in1) (I.ok.hd hc) _ p hne its.toArray).toS,⟨⟨_,Heap.get?_push_size _ rfl,rfl,rfl⟩,hl.push _⟩,fun b hb=>?_,fun i u hu=>?_,fun s' t' hm=>?_⟩)
 ·rw [size_push']
  rcases List.mem_cons.mp hb with e | hb
  ·rw [e];exact Nat.lt_succ_self _
  ·rw [List.mem_singleton.mp hb];exact Nat.lt_succ_of_lt hpl
 ·have hx:its[i]?=some u:=by simpa using hu
  obtain ⟨n,t,h1,rfl⟩:=ZkE hi hx
  exact ⟨t,by show Value.int n t=Value.int (ns.getD i 0) t;rw [List.getD_eq_getElem?_getD,h1];rfl⟩
 ·have hk:∀b o,s.heap.get? b=some o->s'.heap.get? b=some o:=fun b o e=>
   hm.heap b o (fun hI=>absurd (Heap.lt_size e) (by rw [List.mem_singleton.mp hI];exact Nat.lt_irrefl _)) (Heap.get?_push_of_some _ e)
  rw [Moved.eq_with hm,List.size_toArray,hil,ZgW]
  exact ⟨.int ns.sum,H,I.kept hk,⟨_,rfl⟩,q⟩
def ZjN:List D->Option D
 | [.tup ds]=>(Zau ds).map fun ns=>.int ns.sum
 | _=>none
theorem Zjj (hc:X.calm=true):Zcl X G (.builtin "sum") ZjN:=
 ⟨_,Zm7 hc,fun Hf H s xs ds c Q e1 st r q k=>by
  match ds,q,r with
  | [.tup es],q,r=>
   obtain ⟨ns,h1,rfl⟩:=Option.map_eq_some_iff.mp (show (Zau es).map (fun ns=>D.int ns.sum)=some c from q)
   obtain ⟨v,rfl,rv⟩:=RepL.one_inv r
   obtain ⟨p,vs,rfl,np,hp,rp⟩:=Rep.tup_iff.mp rv
   rw [Zbv h1] at rp
   rw [RepL.ints rp] at hp
   exact ⟨p,ns,rfl,SqT.of (e1 _ _ np hp),k _ Hf H (.refl e1) st (Rep.int_iff.mpr rfl) (.scal fun z=>z)⟩⟩
end
section
variable {X:Cx} {G:Gh}
theorem Znc (hc:X.calm=true):ZbY X (.builtin "max") (fun xs H Q=>∃p n r,xs=[.ref p]/\SqT X.K H p ((n::r).map V.int)/\Q (.int (maxI n r)) H):=by
 intro pins s σ H xs us Q I r h
 obtain ⟨p,n,rr,rfl,hp,q⟩:=h
 obtain ⟨u,rfl,ru⟩:=Zcj r
 cases ru
 obtain ⟨its,rv,pl,hz⟩:=I.tuple hp
 have hi:IntsAre its (n::rr):=Zbq rv
 obtain ⟨xs,e⟩:=hi.allInts.items
 have hns:n::rr=xs.toList.map (·.1):=by rw [<-hi.numsOf,<-nums_intItems,<-e]
 have hl:s.heap.IsTuple p its.toArray:=pl
 rw [e] at hl
 have hsz:0<xs.size:=by
  have h3:0<(n::rr).length:=by simp
  rw [hns,List.length_map,Array.length_toList] at h3;exact h3
 have hpl:p<s.heap.objs.size:=by obtain ⟨o,ho,_⟩:=hl;exact Heap.lt_size ho
 have hne:p≠s.heap.objs.size:=Nat.ne_of_lt hpl
 have hn1:(intItems xs).size=xs.size:=by simp [intItems]
 refine call_max_walk (wpAny_pyIter_tuple hl ⟨s.heap.objs.size,_,_,_,_,_,_,rfl,Walks.tuple (A:=X.A.in1) (I.ok.hd hc) _ p hne (intItems xs),⟨⟨_,Heap.get?_push_size _ rfl,rfl,rfl⟩,hl.push _⟩,fun b hb=>?_,by rw [hn1];exact hsz,CmpOf.ints_gt (numAt xs) (fun _ _=>intItems_at),fun v h' tk hP hk=>?_⟩)
 ·rw [Heap.size_push]
  rcases List.mem_cons.mp hb with e1 | hb
  ·rw [e1];exact Nat.lt_succ_self _
  ·rw [List.mem_singleton.mp hb];exact Nat.lt_succ_of_lt hpl
 ·have hkk:∀b o,s.heap.get? b=some o->h'.get? b=some o:=fun b o eb=>hk b o (fun hm=>Nat.ne_of_lt (Heap.lt_size eb) (List.mem_singleton.mp hm)) (Heap.get?_push_of_some _ eb)
  rw [hn1] at hP
  obtain ⟨t,rfl⟩:=intItems_at hP
  obtain ⟨h1,h2⟩:=argBest_gt (numAt xs) (xs.size-1)
  have e2:numAt xs (argBest (fun i j=>decide (numAt xs i > numAt xs j)) (xs.size-1))=maxI n rr:=by
   refine Zkv ?_ fun a ha=>?_
   ·rw [hns,numAt_eq];exact getD_mem (by rw [List.length_map,Array.length_toList];omega)
   ·rw [hns] at ha
    obtain ⟨j,hj,rfl⟩:=mem_getD ha
    rw [List.length_map,Array.length_toList] at hj
    rw [<-numAt_eq];exact h2 j (by omega)
  rw [e2]
  exact ⟨.int (maxI n rr),H,I.kept (t':=tk) hkk,⟨_,rfl⟩,q⟩
def Zm4:List D->Option D
 | [.tup ds]=>match Zau ds with | some (n::r)=>some (.int (maxI n r)) | _=>none
 | _=>none
theorem Znb (hc:X.calm=true):Zcl X G (.builtin "max") Zm4:=
 ⟨_,Znc hc,fun Hf H s xs ds c Q e1 st r q k=>by
  match ds,q,r with
  | [.tup es],q,r=>
   have q:(match Zau es with | some (n::r)=>some (D.int (maxI n r)) | _=>none)=some c:=q
   cases he:Zau es with
   | none=>rw [he] at q;cases q
   | some ns=>
    cases ns with
    | nil=>rw [he] at q;cases q
    | cons n rr=>
     rw [he] at q
     cases q
     obtain ⟨v,rfl,rv⟩:=RepL.one_inv r
     obtain ⟨p,vs,rfl,np,hp,rp⟩:=Rep.tup_iff.mp rv
     rw [Zbv he] at rp
     rw [RepL.ints rp] at hp
     exact ⟨p,n,rr,rfl,SqT.of (e1 _ _ np hp),k _ Hf H (.refl e1) st (Rep.int_iff.mpr rfl) (.scal fun z=>z)⟩⟩
theorem Zik {M:Model} {A:Around} {E:Value->Shared->Prop} {s:Shared} {β:Type} {a b:Nat} (f:Nat->β->Sem (ForInStep β)) (I:Nat->β->Shared->Prop) (Q:β->Shared->Prop)
  (turn:∀i c s,a<=i->i<b->I i c s->wpAny M A (f i c) (fun r s'=>match r with | .yield c'=>I (i+1) c' s' | .done c'=>Q c' s') E s)
  (fin:∀c s,I (max a b) c s->Q c s) (c:β) (h:I a c s):wpAny M A (forIn [a:b] c f) Q E s:=by
 rw [Std.Legacy.Range.forIn_eq_forIn_range']
 have hsz:([a:b]:Std.Legacy.Range).size=b-a:=by simp [Std.Legacy.Range.size]
 show wpAny M A (forIn (List.range' a ([a:b]:Std.Legacy.Range).size 1) c f) Q E s
 rw [hsz]
 refine wpAny_forIn_list f (fun l c st=>∃i,a<=i/\i<=max a b/\l=List.range' i (max a b-i) 1/\I i c st) Q ?_ ?_ _ c ⟨a,Nat.le_refl _,by omega,by congr 1;omega,h⟩
 ·rintro x rest c st ⟨i,hai,hib,hl,hI⟩
  have hlt:i<max a b:=by
   rcases Nat.lt_or_ge i (max a b) with h' | h'
   ·exact h'
   ·rw [show max a b-i=0 by omega] at hl;simp at hl
  obtain ⟨n,hn⟩:∃n,max a b-i=n+1:=⟨max a b-i-1,by omega⟩
  rw [hn,List.range'_succ] at hl
  obtain ⟨rfl,rfl⟩:=List.cons.inj hl
  refine wpAny_mono (turn x c st hai (by omega) hI) (fun r s' hr=>?_) fun _ _ e=>e
  cases r with
  | done c'=>exact hr
  | yield c'=>exact ⟨x+1,by omega,by omega,by congr 1;omega,hr⟩
 ·rintro c st ⟨i,hai,hib,hl,hI⟩
  have:max a b-i=0:=by
   cases hk:max a b-i with
   | zero=>rfl
   | succ n=>rw [hk,List.range'_succ] at hl;cases hl
  have e:i=max a b:=by omega
  rw [e] at hI
  exact fin c st hI
theorem Zjs (l:Addr) (items:Array Value) (n:Nat) (dd:Option Addr) (sl:Array (Option Value)) (x:Value) (e:Value->Bool) (j:Nat) (hj:j<items.size)
  (hit:e items[j]=true) (hno:∀m (hm:m<items.size),m<j->e items[m]=false) :
  Meets (Builtin.«tuple.index» ⟨[.ref l,x],[]⟩)
   (fun A R s=>s.heap.get? l=some { cls:=.type "tuple",dict:=dd,data:=.seq items n,slots:=sl }/\(∀y,y∈items->SeqAt.EqAt A.in1 s y x (e y))/\R (.ok (.ret (.int j s.toks))) { s with toks:=s.toks+1 }):=
 .of_wp fun prog w A R s h=>by
  obtain ⟨hp,g,d,tk,os⟩:=s;obtain ⟨hl,he,h⟩:=h
  wp_walk using wpAny_loadPart' hl,Zik _ (fun i (c:Option PySem.Fin×Unit) s'=>i<=j/\c=(none,())/\s'=⟨hp,g,d,tk,os⟩) _
  case turn=>
   rintro i c s' _ hi ⟨hij,rfl,rfl⟩
   have hi':i<items.size:=by omega
   rw [Array.getElem?_eq_getElem hi']
   refine wpAny_bind (he _ (Array.getElem_mem hi') prog w _ _ ?_)
   by_cases ej:i=j
   ·subst ej
    rw [hit]
    wp_walk
    exact ⟨_,rfl,h⟩
   ·rw [hno i hi' (by omega)]
    wp_walk
    exact ⟨by omega,rfl,rfl⟩
  case fin=>
   rintro c s' ⟨hij,_⟩
   omega
  case h=>
   exact ⟨Nat.zero_le _,rfl,rfl⟩
def Zqq (K:PySem.W.Frag):V->List V->Hp->VK->Prop:=fun x vs H Q=>∃(p:Addr) (ns:List Int) (k:Int),x=.ref p/\vs=[.int k]/\SqT K H p (ns.map V.int)/\k∈ns/\Q (.int (ns.idxOf k:Nat)) H
theorem ZnW:MtR X "tuple.index" (Zqq X.K):=by
 intro pins s σ H x xs v us Q I rx rv h
 obtain ⟨p,ns,k,rfl,rfl,hp,hk,q⟩:=h
 cases rx
 obtain ⟨u,rfl,t,rfl⟩:=Zcj rv
 obtain ⟨its,r2,pl,hz⟩:=I.tuple hp
 have hi:IntsAre its ns:=Zbq r2
 obtain ⟨⟨c0,d0,dat,sl0⟩,hob,hcl,n0,hdat⟩:=id (show s.heap.IsTuple p its.toArray from pl)
 simp only at hcl hdat
 subst hcl hdat
 have l1:=hi.length
 have l2:ns.idxOf k<ns.length:=by rw [List.idxOf_lt_length_iff];exact hk
 have go:=Zjs p its.toArray n0 d0 sl0 (.int k t) (isInt k) (ns.idxOf k) (by simpa [l1] using l2)
  (by
   show isInt k its[ns.idxOf k]=true
   rw [isInt_at k hi (ns.idxOf k) (by omega) l2];simpa using List.getElem_idxOf l2)
  (fun j hjs hlt=>by
   show isInt k its[j]=false
   rw [isInt_at k hi j (by simpa using hjs) (by have:j<ns.idxOf k:=hlt;omega)];exact ne_of_lt_idxOf hlt _)
 refine call_meets PySem.F.slot_tuple_index ⟨_,hob,rfl⟩ PySem.F.entry_tuple_index (PySem.F.args_tuple_index_2 _ _) go ⟨hob,fun y hy=>(eq_isInt k t hi y (by simpa using hy)).at _ _,?_⟩
 exact ⟨.int (ns.idxOf k:Nat),H,I.tok _,⟨_,rfl⟩,q⟩
def ZiF:D->D->Option D
 | .tup ds,.int k=>(Zau ds).bind fun ns=>if k∈ns then some (.int (ns.idxOf k:Nat)) else none
 | _,_=>none
end
end TF
namespace TS
open PySem PySem.W PyProof.Rows
def Zff {α:Type} (lt:Nat->Nat->Bool):KasT α->α
 | .ret a=>a
 | .ask i j k=>Zff lt (k (lt i j))
theorem Tri.run {α:Type} {lt:Nat->Nat->Bool} {n:Nat} {Q:α->Prop}:∀{t:KasT α},Tri lt n t Q->Tri lt n t (fun a=>a=Zff lt t)/\Q (Zff lt t)
 | .ret a,h=>⟨rfl,h⟩
 | .ask i j k,h=>⟨⟨h.1,h.2.1,(Tri.run (t:=k (lt i j)) h.2.2).1⟩,(Tri.run (t:=k (lt i j)) h.2.2).2⟩
structure OrdW (lt:Nat->Nat->Bool):Prop where
 tr:∀a b c,lt a b=false->lt b c=false->lt a c=false
 as:∀a b,lt a b=true->lt b a=false
section
variable {lt:Nat->Nat->Bool} {n:Nat} {p q:Array Nat}
def SoW (lt:Nat->Nat->Bool) (p:Array Nat) (m:Nat):Prop:=∀i j,i<j->j<m->lt (g p j) (g p i)=false
def DeW (lt:Nat->Nat->Bool) (p:Array Nat) (m:Nat):Prop:=∀i j,i<j->j<m->lt (g p i) (g p j)=false
def EqW (lt:Nat->Nat->Bool) (p:Array Nat) (l m:Nat):Prop:=∀i j,l<=i->i<m->l<=j->j<m->lt (g p i) (g p j)=false
theorem OrdW.irr (o:OrdW lt) (a:Nat):lt a a=false:=by
 cases e:lt a a with
 | false=>rfl
 | true=>have:=o.as a a e;rw [e] at this;cases this
theorem ascW (o:OrdW lt) (h:Pm n p):∀(f k:Nat),1<=k->k+f=n->SoW lt p k->Tri lt n (kas_asc p f k) (fun m=>k<=m/\m<=n/\SoW lt p m/\(m<n->lt (g p m) (g p (m-1))=true))
 | 0,k,h1,h2,hs=>⟨Nat.le_refl _,by omega,hs,fun z=>by omega⟩
 | f+1,k,h1,h2,hs=>by
  show g p k<n/\g p (k-1)<n/\Tri lt n (if lt (g p k) (g p (k-1))=true then .ret k else kas_asc p f (k+1)) _
  refine ⟨h.bd _,h.bd _,?_⟩
  cases e:lt (g p k) (g p (k-1)) with
  | true=>rw [if_pos rfl];exact ⟨Nat.le_refl _,by omega,hs,fun _=>e⟩
  | false=>
   rw [if_neg (by simp)]
   refine Tri.mono (fun m ⟨a,b⟩=>⟨by omega,b⟩) (ascW o h f (k+1) (by omega) (by omega) fun i j hij hj=>?_)
   by_cases hjk:j<k
   ·exact hs i j hij hjk
   ·have:j=k:=by omega
    subst this
    by_cases hi:i=j-1
    ·subst hi;exact e
    ·exact o.tr _ _ _ e (hs i (j-1) (by omega) (by omega))
theorem Zfh (hj:q.size=n) {l m:Nat} (hl:l<=m) (hm:m<=n) (k:Nat):g (kas_rev q l m) k=if l<=k/\k<m then g q (l+(m-1-k)) else g q k:=by
 have e:=getElem?_mirror_all (xs:=q) (i:=l) (j:=m) (by omega) k
 unfold kas_rev
 by_cases hk:l<=k/\k<m
 ·rw [if_pos hk] at e
  rw [if_pos hk]
  exact g_eq (by rw [e];congr 1;omega)
 ·rw [if_neg hk] at e
  rw [if_neg hk]
  exact g_eq e
theorem ZpX (hs:p.size=n) {l m:Nat} (hl:l<=m) (hm:m<=n) (hd:DeW lt p m) (he:EqW lt p l m):DeW lt (kas_rev p l m) m:=fun i j hij hj=>by
 rw [Zfh hs hl hm,Zfh hs hl hm]
 by_cases hi:l<=i
 ·rw [if_pos ⟨hi,by omega⟩,if_pos ⟨by omega,hj⟩]
  exact he _ _ (by omega) (by omega) (by omega) (by omega)
 ·rw [if_neg (fun z=>hi z.1)]
  by_cases hjl:l<=j
  ·rw [if_pos ⟨hjl,hj⟩]
   exact hd _ _ (by omega) (by omega)
  ·rw [if_neg (fun z=>hjl z.1)]
   exact hd _ _ hij hj
theorem ZjM (o:OrdW lt):∀(f k q:Nat) (p:Array Nat),Pm n p->q+1<=k->k+f=n->DeW lt p k->EqW lt p (k-(q+1)) k->
  Tri lt n (kas_desc f p k q) (fun r=>Pm n r.1/\r.2.2+1<=r.2.1/\r.2.1<=n/\DeW lt r.1 r.2.1/\EqW lt r.1 (r.2.1-(r.2.2+1)) r.2.1)
 | 0,k,q,p,h,h1,h2,hd,he=>⟨h,h1,by show k<=n;omega,hd,he⟩
 | f+1,k,q,p,h,h1,h2,hd,he=>by
  show g p k<n/\g p (k-1)<n/\Tri lt n (if lt (g p k) (g p (k-1))=true then (if q > 0 then kas_desc f (kas_rev p (k-(q+1)) k) (k+1) 0 else kas_desc f p (k+1) 0) else .ask (g p (k-1)) (g p k) fun d=>if d=true then .ret (p,k,q) else kas_desc f p (k+1) (q+1)) _
  refine ⟨h.bd _,h.bd _,?_⟩
  have one:∀p:Array Nat,EqW lt p (k+1-(0+1)) (k+1):=fun p i j a b c d=>by
   have:i=j:=by omega
   subst this;exact o.irr _
  cases e:lt (g p k) (g p (k-1)) with
  | true=>
   rw [if_pos rfl]
   have e2:=o.as _ _ e
   by_cases hq:q > 0
   ·rw [if_pos hq]
    have h':Pm n (kas_rev p (k-(q+1)) k):=h.of (mirror_perm _ _ _ _)
    refine ZjM o f (k+1) 0 _ h' (by omega) (by omega) (fun i j hij hj=>?_) (one _)
    have hr:=ZpX h.size (by omega:k-(q+1)<=k) (by omega) hd he
    by_cases hjk:j<k
    ·exact hr i j hij hjk
    ·have:j=k:=by omega
     subst this
     rw [Zfh h.size (by omega) (by omega),Zfh h.size (by omega) (by omega),if_neg (by omega:¬(j-(q+1)<=j/\j<j))]
     have hlast:∀x,x<j->lt (g p x) (g p j)=false:=fun x hx=>by
      by_cases hx1:x=j-1
      ·subst hx1;exact e2
      ·exact o.tr _ _ _ (hd x (j-1) (by omega) (by omega)) e2
     by_cases hi:j-(q+1)<=i/\i<j
     ·rw [if_pos hi];exact hlast _ (by omega)
     ·rw [if_neg hi];exact hlast _ hij
   ·rw [if_neg hq]
    refine ZjM o f (k+1) 0 p h (by omega) (by omega) (fun i j hij hj=>?_) (one _)
    by_cases hjk:j<k
    ·exact hd i j hij hjk
    ·have:j=k:=by omega
     subst this
     by_cases hi:i=j-1
     ·subst hi;exact e2
     ·exact o.tr _ _ _ (hd i (j-1) (by omega) (by omega)) e2
  | false=>
   rw [if_neg (by simp)]
   refine ⟨h.bd _,h.bd _,?_⟩
   show Tri lt n (if lt (g p (k-1)) (g p k)=true then .ret (p,k,q) else kas_desc f p (k+1) (q+1)) _
   cases e2:lt (g p (k-1)) (g p k) with
   | true=>rw [if_pos rfl];exact ⟨h,h1,by show k<=n;omega,hd,he⟩
   | false=>
    rw [if_neg (by simp)]
    refine ZjM o f (k+1) (q+1) p h (by omega) (by omega) (fun i j hij hj=>?_) fun i j a b c d=>?_
    ·by_cases hjk:j<k
     ·exact hd i j hij hjk
     ·have:j=k:=by omega
      subst this
      by_cases hi:i=j-1
      ·subst hi;exact e2
      ·exact o.tr _ _ _ (hd i (j-1) (by omega) (by omega)) e2
    ·have low:∀x,k-(q+1)<=x->x<k->lt (g p x) (g p k)=false/\lt (g p k) (g p x)=false:=fun x hx hx2=>
      ⟨o.tr _ _ _ (he x (k-1) hx hx2 (by omega) (by omega)) e2,o.tr _ _ _ e (he (k-1) x (by omega) (by omega) hx hx2)⟩
     by_cases hi:i<k
     ·by_cases hj:j<k
      ·exact he i j (by omega) hi (by omega) hj
      ·have:j=k:=by omega
       subst this
       exact (low i (by omega) hi).1
     ·have:i=k:=by omega
      subst this
      by_cases hj:j<i
      ·exact (low j (by omega) hj).2
      ·have:j=i:=by omega
       subst this;exact o.irr _
theorem ZpV (o:OrdW lt) (h:Pm n p) {k:Nat} (h1:1<=k) (h2:k<=n) (hs:DeW lt p k):Tri lt n (kas_tail3 k n p) (fun r=>1<=r.1/\r.1<=n/\Pm n r.2/\SoW lt r.2 r.1):=by
 have h':Pm n (kas_rev p 0 k):=h.of (mirror_perm _ _ _ _)
 have hs':SoW lt (kas_rev p 0 k) k:=fun i j hij hj=>by
  rw [Zp9 h.size h2,Zp9 h.size h2,if_pos (by omega),if_pos (by omega)]
  exact hs _ _ (by omega) (by omega)
 refine Tri.bind (Tri.mono (fun m ⟨a,b,c,_⟩=>?_) (ascW o h' (n-k) k h1 (by omega) hs'))
 exact ⟨by show 1<=m;omega,b,h',c⟩
theorem Zp1 (o:OrdW lt) (h:Pm n p) {m:Nat} (h1:1<=m) (h2:m<n) (hd:DeW lt p (m+1)):Tri lt n (kas_descPart m n p) (fun r=>1<=r.1/\r.1<=n/\Pm n r.2/\SoW lt r.2 r.1):=by
 refine Tri.bind (Tri.mono (fun r ⟨r1,r2,r3,r4,r5⟩=>?_) (ZjM o (n-(m+1)) (m+1) 0 p h (by omega) (by omega) hd fun i j a b c d=>by
  have:i=j:=by omega
  subst this;exact o.irr _))
 by_cases hq:r.2.2 > 0
 ·rw [if_pos hq]
  exact ZpV o (r1.of (mirror_perm _ _ _ _)) (by omega) r3 (ZpX r1.size (by omega) r3 r4 r5)
 ·rw [if_neg hq]
  exact ZpV o r1 (by omega) r3 r4
theorem ZsD (o:OrdW lt) (h:Pm n p):Tri lt n (kas_count n p) (fun r=>1<=r.1/\r.1<=n/\Pm n r.2/\SoW lt r.2 r.1):=by
 have hn:=h.pos
 refine Tri.bind (Tri.mono (fun m ⟨a,b,c,d⟩=>?_) (ascW o h (n-1) 1 (by omega) (by omega) fun i j hij hj=>by omega))
 by_cases hm:m=n
 ·rw [if_pos (by simpa using hm)]
  exact ⟨a,b,h,c⟩
 ·rw [if_neg (by simpa using hm)]
  have dm:=o.as _ _ (d (by omega))
  by_cases h1:m > 1
  ·rw [if_pos h1]
   refine ⟨h.bd 0,h.bd (m-1),?_⟩
   show Tri lt n (if lt (g p 0) (g p (m-1))=true then .ret (m,p) else kas_descPart m n (kas_rev p 0 m)) _
   cases e:lt (g p 0) (g p (m-1)) with
   | true=>rw [if_pos rfl];exact ⟨a,b,h,c⟩
   | false=>
    rw [if_neg (by simp)]
    have up:∀i j,i<m->j<m->lt (g p i) (g p j)=false:=fun i j hi hj=>by
     -- g i<=g (m-1)<=g 0<=g j
     have x1:lt (g p 0) (g p j)=false:=by
      by_cases z:j=m-1
      ·subst z;exact e
      ·exact o.tr _ _ _ e (c j (m-1) (by omega) (by omega))
     by_cases z:i=0
     ·subst z;exact x1
     ·exact o.tr _ _ _ (c 0 i (by omega) hi) x1
    have h':Pm n (kas_rev p 0 m):=h.of (mirror_perm _ _ _ _)
    refine Zp1 o h' (by omega) (by omega) fun i j hij hj=>?_
    rw [Zfh h.size (by omega) (by omega),Zfh h.size (by omega) (by omega),if_pos (by omega:0<=i/\i<m)]
    by_cases hjm:j<m
    ·rw [if_pos (by omega:0<=j/\j<m)]
     exact up _ _ (by omega) (by omega)
    ·have:j=m:=by omega
     subst this
     rw [if_neg (by omega:¬(0<=j/\j<j))]
     exact o.tr _ _ _ (up _ (j-1) (by omega) (by omega)) dm
  ·rw [if_neg h1]
   have:m=1:=by omega
   subst this
   refine Zp1 o h (by omega) (by omega) fun i j hij hj=>?_
   have h1:i=0:=by omega
   have h2:j=1:=by omega
   subst h1 h2
   exact dm
theorem Zka (o:OrdW lt) (h:Pm n p) {k:Nat} (hk:k<n) (hs:SoW lt p k):∀(f l r:Nat),l<=r->r<=k->r-l<=f->(∀i,i<l->lt (g p k) (g p i)=false)->(∀i,r<=i->i<k->lt (g p i) (g p k)=false)->
  Tri lt n (kas_place p k f l r) (fun m=>m<=k/\(∀i,i<m->lt (g p k) (g p i)=false)/\∀i,m<=i->i<k->lt (g p i) (g p k)=false)
 | 0,l,r,h1,h2,h3,ha,hb=>⟨by omega,ha,fun i hi=>hb i (by omega)⟩
 | f+1,l,r,h1,h2,h3,ha,hb=>by
  show Tri lt n (if l≥r then .ret l else .ask (g p k) (g p ((l+r) / 2)) fun c=>if c=true then kas_place p k f l ((l+r) / 2) else kas_place p k f ((l+r) / 2+1) r) _
  by_cases hlr:l≥r
  ·rw [if_pos hlr]
   exact ⟨by omega,ha,fun i hi=>hb i (by omega)⟩
  ·rw [if_neg hlr]
   refine ⟨h.bd _,h.bd _,?_⟩
   show Tri lt n (if lt (g p k) (g p ((l+r) / 2))=true then kas_place p k f l ((l+r) / 2) else kas_place p k f ((l+r) / 2+1) r) _
   cases e:lt (g p k) (g p ((l+r) / 2)) with
   | true=>
    rw [if_pos rfl]
    refine Zka o h hk hs f l _ (by omega) (by omega) (by omega) ha fun i hi hik=>?_
    have e2:=o.as _ _ e
    by_cases hq:i=(l+r) / 2
    ·subst hq;exact e2
    ·exact o.tr _ _ _ (hs _ i (by omega) hik) e2
   | false=>
    rw [if_neg (by simp)]
    refine Zka o h hk hs f _ r (by omega) h2 (by omega) (fun i hi=>?_) hb
    by_cases hq:i=(l+r) / 2
    ·subst hq;exact e
    ·exact o.tr _ _ _ e (hs i _ (by omega) (by omega))
theorem binW (o:OrdW lt):∀(f k:Nat) (p:Array Nat),Pm n p->1<=k->k+f=n->SoW lt p k->Tri lt n (kas_bin f p k) (fun q=>Pm n q/\SoW lt q n)
 | 0,k,p,h,h1,h2,hs=>⟨h,by have:k=n:=(by omega);subst this;exact hs⟩
 | f+1,k,p,h,h1,h2,hs=>by
  refine Tri.bind (Tri.mono (fun m ⟨a,b,c⟩=>?_) (Zka o h (k:=k) (by omega) hs k 0 k (by omega) (by omega) (by omega) (fun i hi=>by omega) fun i hi hik=>by omega))
  have hg:∀i,g (bubble p k (k-m)) i=if i=m then g p k else if m<i/\i<=k then g p (i-1) else g p i:=fun i=>by
   have e:=getElem?_bubble (xs:=p) (src:=k) (by rw [h.size];omega) (k-m) (by omega) i
   rw [show k-(k-m)=m by omega] at e
   by_cases q1:i=m
   ·rw [if_pos q1] at e ⊢;exact g_eq e
   ·rw [if_neg q1] at e ⊢
    by_cases q2:m<i/\i<=k
    ·rw [if_pos q2] at e ⊢;exact g_eq e
    ·rw [if_neg q2] at e ⊢;exact g_eq e
  refine binW o f (k+1) _ (h.of (bubble_perm _ _ _)) (by omega) (by omega) fun i j hij hj=>?_
  rw [hg,hg]
  by_cases i1:i=m
  ·rw [if_pos i1,if_neg (by omega:¬j=m),if_pos (by omega:m<j/\j<=k)]
   exact c _ (by omega) (by omega)
  ·rw [if_neg i1]
   by_cases i2:m<i/\i<=k
   ·rw [if_pos i2,if_neg (by omega:¬j=m),if_pos (by omega:m<j/\j<=k)]
    exact hs _ _ (by omega) (by omega)
   ·rw [if_neg i2]
    by_cases j1:j=m
    ·rw [if_pos j1];exact b i (by omega)
    ·rw [if_neg j1]
     by_cases j2:m<j/\j<=k
     ·rw [if_pos j2]
      exact hs _ _ (by omega) (by omega)
     ·rw [if_neg j2]
      exact hs _ _ hij (by omega)
theorem ZpW (o:OrdW lt) (hn:0<n):Tri lt n (kas_sort n) (fun q=>Pm n q/\SoW lt q n):=by
 have h:Pm n (List.toArray (List.range n)):=⟨hn,by simp⟩
 refine Tri.bind (Tri.mono (fun r ⟨a,b,c,d⟩=>?_) (ZsD o h))
 by_cases hr:r.1<n
 ·rw [if_pos hr]
  have e:max r.1 1=r.1:=by omega
  rw [e]
  exact binW o _ _ _ c a (by omega) d
 ·rw [if_neg hr]
  exact ⟨c,by have:r.1=n:=(by omega);rw [this] at d;exact d⟩
def ZaT (lt:Nat->Nat->Bool) (n:Nat):List Nat:=if n<2 then List.range n else (Zff lt (kas_sort n)).toList
theorem Zc7 (o:OrdW lt):(ZaT lt n).Perm (List.range n):=by
 unfold ZaT
 by_cases h:n<2
 ·rw [if_pos h]
 ·rw [if_neg h]
  exact (ZpW o (by omega)).run.2.1.pm
end
end TS
namespace TF
open PySem PySem.Spec PyProof.Rows L2 TS PySem.W
section
variable {X:Cx} {pins:List (Addr×Obj)} {σ:St} {H:Hp} {s:Shared}
def Zfz (X:Cx) (σ:St) (sp:Heap->Sp):List V->Hp->(List V->Hp->Prop)->Prop
 | [],H,R=>R [] H
 | v::r,H,R=>∀base',Cells X σ base'->sp base' [v] H (fun k H1=>Zfz X σ sp r H1 fun ks H2=>R (k::ks) H2) E0
structure KeyFn (X:Cx) (σ:St) (k:Nat) (f:Addr) (sp:Heap->Sp):Prop where
 fn:∀x,X.fn x=true
 ok:∃fd ps,ZcG X.K fd ps []/\∀base',Cells X σ base'->FnOk X.prog X.w X.K X.mg base' CX0 k f fd ps (sp base')
theorem Zpy {k:Nat} {f:Addr} {sp:Heap->Sp} {A:Around} {Q:VK} {E:Value->Shared->Prop} {u:Value} {v:V} (F:KeyFn X σ k f sp) (I:Inv X pins σ H s) (hA:∀{base H s},Env0 X.prog X.w X.K X.mg base X.A X.stack s H->Env0 X.prog X.w X.K X.mg base A X.stack s H) (hr:Room k A) (rv:RelV v u) (q:∀base',Cells X σ base'->sp base' [v] H Q E0) :
  wpAny (model X.prog X.w) A (call (.ref f) [u]) (EP X pins σ Q) E s:=by
 obtain ⟨fd,ps,hb,F0⟩:=F.ok
 obtain ⟨e0,cs⟩:=Zjd I F.fn
 have q':=q _ cs
 have r:Vals [v] [u]:=.cons rv .nil
 have hl:([u] ++ []).length=ps.length:=by rw [List.append_nil,<-r.length];exact (F0 _ cs).len _ _ _ _ q'
 refine wpAny_call (codeAny_mono ((F0 _ cs).run A X.stack s H ⟨[u],[]⟩ [u] [v] Q E0 hr (hA e0) (by have:=hb s [u] I.kIn hl;rw [List.append_nil] at this;exact this) r q') fun r s' hq=>?_)
 cases r with
 | error e=>exact hq.elim
 | ok fl=>
  cases fl with
  | ret u=>exact I.after hq
  | next=>exact False.elim hq
  | brk=>exact False.elim hq
  | cont=>exact False.elim hq
def FpS (X:Cx) (pins:List (Addr×Obj)) (b:Addr):Prop:=b≠X.env.locals/\b∉X.fs/\(b∈X.ex∨X.s₀.heap.objs.size<=b)/\(∀x c,X.env.cells.lookup x=some c->c≠b)/\∀p∈X.pn++pins,p.1≠b
theorem Zor (I:Inv X pins σ H s) {b:Addr} (hb:s.heap.objs.size<=b):FpS X pins b:=(I.fpOk hb (H':=H) (I.hok.fresh hb)).2
theorem ZjI {b:Addr} {o o':Obj} {rest:List (Addr×Obj)} {h':Heap} {t':Nat} (I:Inv X (pins++(b,o)::rest) σ H s) (k:∀c u,c≠b->s.heap.get? c=some u->h'.get? c=some u) (hb':h'.get? b=some o') (hd:∀v,o'.data≠.cell v) (fp:FpS X pins b)
  (hr:∀p∈rest,p.1≠b):Inv X (pins++(b,o')::rest) σ H { s with heap:=h',toks:=t' }:=by
 obtain ⟨pb1,pb2,pb3,pb4,pb5⟩:=I.pin (b,o) (List.mem_append_right _ (List.mem_append_right _ (.head _)))
 have I1:Inv X (pins++rest) σ H s:=I.pins_of fun p hp=>I.pin p (List.mem_append_right _ ((List.mem_append.mp hp).elim (fun z=>List.mem_append_left _ z) fun z=>List.mem_append_right _ (.tail _ z)))
 obtain ⟨f1,f2,f3,f4,f5⟩:=fp
 have I2:=I1.turned (t':=t') k pb2 f1 f3 f4 (fun p hp=>by
  rcases List.mem_append.mp hp with z | z
  ·exact f5 p (List.mem_append_left _ z)
  ·rcases List.mem_append.mp z with z | z
   ·exact f5 p (List.mem_append_right _ z)
   ·exact hr p z)
 refine I2.pins_of fun p hp=>?_
 rcases List.mem_append.mp hp with z | z
 ·exact I2.pin p (List.mem_append_right _ (List.mem_append_left _ z))
 ·rcases List.mem_cons.mp z with rfl | z
  ·exact ⟨hb',pb2,f1,f2,hd⟩
  ·exact I2.pin p (List.mem_append_right _ (List.mem_append_right _ z))
theorem ZsG {b:Addr} {o:Obj} {u:HO} {rest:List (Addr×Obj)} (I:Inv X (pins++(b,o)::rest) σ H s) (fp:FpS X pins b) (hx:X.s₀.heap.objs.size<=b) (new:Za4 X.prog X.w (upd H b u) s.heap b u):Inv X pins σ (upd H b u) s:=by
 obtain ⟨pb1,pb2,pb3,pb4,pb5⟩:=I.pin (b,o) (List.mem_append_right _ (List.mem_append_right _ (.head _)))
 obtain ⟨f1,f2,f3,f4,f5⟩:=fp
 refine ⟨I.ok,I.os,I.bare,?_,I.loc,I.cell,?_,?_,?_,?_,I.len⟩
 ·exact ⟨I.base.keep,I.base.slot,fun c q e n x=>by
   rw [Zap (Nat.ne_of_lt (Nat.lt_of_lt_of_le (Heap.lt_size e) hx))]
   exact I.base.free c q e n x,I.base.there,fun c xs e=>by have:=I.base.tups c xs e;rw [Zap (Zat this pb2)];exact this,fun c q xs e=>by have:=I.base.frzs c q xs e;rw [Zap (Zat this pb2)];exact this,fun c ps e=>by
   obtain ⟨m,this⟩:=I.base.tbls c ps e
   exact ⟨m,by rw [Zap (Zat this pb2)];exact this⟩⟩
 ·rw [Zap (Ne.symm f1)];exact I.free
 ·intro x c e
  rw [Zap (f4 x c e)];exact I.freeC x c e
 ·intro p hp
  have hp':p∈X.pn++(pins++(b,o)::rest):=(List.mem_append.mp hp).elim (fun z=>List.mem_append_left _ z) fun z=>List.mem_append_right _ (List.mem_append_left _ z)
  obtain ⟨q1,q2,q3,q4,q5⟩:=I.pin p hp'
  exact ⟨q1,by rw [Zap (f5 p hp)];exact q2,q3,q4,q5⟩
 ·intro c v e
  by_cases hc:c=b
  ·subst hc;rw [Zav] at e;cases e;exact new
  ·rw [Zap hc] at e
   exact (I.hok c v e).stay (fun d w _ q=>q) (fun d q=>by rw [Zap (Zat q pb2)];exact q) fun d xs q=>by rw [Zap (Zat q pb2)];exact q
theorem ZiK:∀{xs:List V} {us:List Value} {v:V} {u:Value},Vals xs us->RelV v u->Vals (xs ++ [v]) (us ++ [u])
 | [],_,v,u,h,r=>by cases h;exact .cons r .nil
 | x::xs,_,v,u,h,r=>by
  cases h with
  | cons h1 h2=>exact .cons h1 (ZiK h2 r)
theorem ZcV {c:String} {xs:Array Value} {n:Nat}:∀v,(seqObj c xs n).data≠.cell v:=fun v h=>by cases h
theorem keys_fold {k:Nat} {f kS a:Addr} {sp:Heap->Sp} {A:Around} {E:Value->Shared->Prop} {e1:Nat} {R:List V->Hp->Prop} {body:Value->PUnit->Sem (ForInStep PUnit)} (F:KeyFn X σ k f sp) (hA:∀{base H s},Env0 X.prog X.w X.K X.mg base X.A X.stack s H->Env0 X.prog X.w X.K X.mg base A X.stack s H) (hr:Room k A)
  (fp:FpS X pins kS) (hka:a≠kS)
  (hbody:∀x ks e (s:Shared) (D:Value->Shared->Prop),List.length ks<64->wpAny (model X.prog X.w) A (call (.ref f) [x]) (fun u s'=>s'.heap.get? kS=some (seqObj "list" (List.toArray ks) e)/\D u { s' with heap:=s'.heap.update kS (Obj.mapSeq (·.push u)) }) (fun _ _=>False) s->
   wpAny (model X.prog X.w) A (body x ⟨⟩) (fun r s'=>r=.yield ⟨⟩/\∃u,D u s') E s) :
  ∀(r:List V) (us:List Value) (kvs:List V) (ks:List Value) (e:Nat) (H:Hp) (s:Shared),Vals r us->Vals kvs ks->ks.length+us.length<64->Inv X (pins ++ [(kS,seqObj "list" (List.toArray ks) e),(a,seqObj "list" #[] e1)]) σ H s->Zfz X σ sp r H (fun k2 H2=>R (kvs++k2) H2)->
   wpAny (model X.prog X.w) A (forIn us PUnit.unit body) (fun _ s'=>∃kvs' ks' e' H',Inv X (pins ++ [(kS,seqObj "list" (List.toArray ks') e'),(a,seqObj "list" #[] e1)]) σ H' s'/\Vals kvs' ks'/\ks'.length=ks.length+us.length/\R kvs' H') E s
 | [],_,kvs,ks,e,H,s,h,hv,hz,I,q=>by
  cases h
  rw [List.forIn_nil]
  refine wpAny_pure ⟨kvs,ks,e,H,I,hv,rfl,?_⟩
  have q:R (kvs ++ []) H:=q
  rw [List.append_nil] at q;exact q
 | v::r,_,kvs,ks,e,H,s,h,hv,hz,I,q=>by
  cases h with
  | @cons _ u _ us r1 r2=>
   rw [List.length_cons] at hz
   rw [List.forIn_cons]
   refine wpAny_bind (wpAny_mono (hbody u ks e s (fun u' s'=>∃v' H',Inv X (pins ++ [(kS,seqObj "list" (List.toArray (ks ++ [u'])) (e+1)),(a,seqObj "list" #[] e1)]) σ H' s'/\RelV v' u'/\Zfz X σ sp r H' fun ks H2=>R (kvs++v'::ks) H2) (by omega) ?_) (fun q' s' hq=>?_) fun _ _ x=>x)
   ·refine wpAny_mono (Zpy F I hA hr r1 q) (fun u' s' ⟨v',H',I',rv,q'⟩=>?_) fun _ _ x=>x
    have pk:=(I'.pin (kS,seqObj "list" (List.toArray ks) e) (List.mem_append_right _ (List.mem_append_right _ (.head _)))).1
    refine ⟨pk,v',H',?_,rv,q'⟩
    refine ZjI (o:=seqObj "list" (List.toArray ks) e) (t':=s'.toks) I' (fun c w hc e=>by rw [Heap.get?_update_ne _ _ _ _ hc];exact e) ?_ ZcV fp (fun p hp=>by rw [List.mem_singleton.mp hp];exact hka)
    have ea:(List.toArray ks).push u'=List.toArray (ks ++ [u']):=by simp
    rw [get?_update_seq pk (·.push u'),ea]
    have:((List.toArray (ks ++ [u'])).size==(List.toArray ks).size)=false:=by simp
    rw [this];rfl
   ·obtain ⟨rfl,u',v',H',I',rv,q'⟩:=hq
    show wpAny (model X.prog X.w) A (forIn us PUnit.unit body) _ E s'
    refine wpAny_mono (keys_fold F hA hr fp hka hbody r us (kvs ++ [v']) (ks ++ [u']) (e+1) H' s' r2 (ZiK hv rv) (by rw [List.length_append,List.length_singleton];omega) I' ?_) (fun _ s'' ⟨a1,a2,a3,a4,a5,a6,a7,a8⟩=>⟨a1,a2,a3,a4,a5,a6,by rw [a7,List.length_append,List.length_singleton,List.length_cons];omega,a8⟩) fun _ _ x=>x
    have e2:(fun k2 H2=>R (kvs ++ [v']++k2) H2)=fun k2 H2=>R (kvs++v'::k2) H2:=by funext k2 H2;rw [List.append_assoc];rfl
    rw [e2];exact q'
end
section
variable {prog:Program} {w:World} {A:Around} {E:Value->Shared->Prop} {s:Shared}
def Zc6 (h:Heap) (kS a:Addr) (out:List Value):Heap:=(h.update kS (Obj.mapSeq fun _=>(#[]:Array Value))).update a (Obj.mapSeq fun _=>List.toArray out)
theorem ZiR {kS a:Addr} {ks out:List Value} {e e1:Nat} {st:SortSt} {P:PySem.Fin->Shared->Prop} (hk:s.heap.get? kS=some (seqObj "list" (List.toArray ks) e)) (ha:s.heap.get? a=some (seqObj "list" #[] e1)) (hka:a≠kS) (hout:(arrOf st).map (·.2)=List.toArray out) (hz:out.length<64) (hkz:ks.length<64) (hf:failedOf st=none)
  (h:P (.done (.ret .none)) { s with heap:=Zc6 s.heap kS a out }):wpAny (model prog w) A (ksk_tail a false e1 (.ref kS) st) P E s:=by
 have ha2:(s.heap.update kS (Obj.mapSeq fun _=>(#[]:Array Value))).get? a=some (seqObj "list" #[] e1):=by rw [Heap.get?_update_ne _ _ _ _ hka];exact ha
 unfold ksk_tail
 try dsimp only
 rw [hout]
 refine wpAny_bind (listUpdate_at hk rfl ?_ (by rw [List.size_toArray,sizeLine_eq];omega) (Nat.zero_le _))
 refine wpAny_bind (wpAny_letGo ?_)
 refine wpAny_bind (seqEpoch_at ha2 rfl ?_)
 refine wpAny_bind (listUpdate_at ha2 rfl ?_ (Nat.zero_le _) (by show (List.toArray out).size<=_;rw [List.size_toArray,sizeLine_eq];omega))
 rw [hf]
 simp only [bne_self_eq_false,Bool.false_eq_true,if_false]
 exact wpAny_pure h
theorem ZoV {kS a:Addr} {us ks:List Value} {e e1:Nat} {lt:Nat->Nat->Bool} {P:PySem.Fin->Shared->Prop} (o:OrdW lt) (hk:s.heap.get? kS=some (seqObj "list" (List.toArray ks) e)) (ha:s.heap.get? a=some (seqObj "list" #[] e1)) (hka:a≠kS) (hl:ks.length=us.length) (h64:us.length<64)
  (hkind:2<=ks.length->∃κ,(∀Q:SortKind->Shared->Prop,Q κ s->wpAny (model prog w) A (keyKind' (List.toArray ks)) Q E s)/\∀i j,i<ks.length->j<ks.length->∀C:Bool->Shared->Prop,C (lt i j) s->kas_ask prog w A κ ks i j C s)
  (h:P (.done (.ret .none)) { s with heap:=Zc6 s.heap kS a ((ZaT lt us.length).map fun i=>us.getD i Value.none) }):wpAny (model prog w) A (ksk_end a false us.toArray e1 (.ref kS) (List.toArray ks)) P E s:=by
 have hol:((ZaT lt us.length).map fun i=>us.getD i Value.none).length=us.length:=by rw [List.length_map,(Zc7 o).length_eq,List.length_range]
 unfold ksk_end
 try dsimp only
 simp only [Bool.false_eq_true,if_false]
 by_cases h2:us.toArray.size<2
 ·rw [if_pos h2,if_pos h2]
  refine wpAny_bind (wpAny_pure ?_)
  rw [StateT.run_pure]
  refine wpAny_bind (wpAny_pure ?_)
  try dsimp only
  have hlt:us.length<2:=by simpa using h2
  refine ZiR (out:=(ZaT lt us.length).map fun i=>us.getD i Value.none) hk ha hka ?_ (by omega) (by omega) rfl h
  have e:(ZaT lt us.length).map (fun i=>us.getD i Value.none)=us:=by
   unfold ZaT
   rw [if_pos hlt]
   exact TS.range_getD us _
  rw [e]
  apply Array.toList_inj.mp
  show (((List.toArray ks).zip us.toArray).map (·.2)).toList=_
  rw [Array.toList_map,ksk_zip]
  show (ks.zip us).map Prod.snd=_
  rw [List.map_snd_zip (by omega)]
 ·rw [if_neg h2,if_neg h2]
  have h2':2<=us.length:=by simpa using h2
  obtain ⟨κ,hκ,hask⟩:=hkind (by omega)
  refine wpAny_bind (hκ _ ?_)
  have tr:=(ZpW (n:=us.length) o (by omega)).run
  have wp:=Tri.wp (s:=s) (cmp:=kas_ask prog w A κ ks) (R:=fun q s'=>q=Zff lt (kas_sort us.length)/\s'=s) (fun i j hi hj C hC=>hask i j (by omega) (by omega) C hC) (fun q hq=>⟨hq,rfl⟩) tr.1
  refine wpAny_bind (wpAny_mono (kat_run (ks:=ks) (vs:=us) (Q:=fun st' s'=>arrOf st'=(Zff lt (kas_sort us.length)).map (kas_item (ks.toArray.zip us.toArray))/\failedOf st'=none/\s'=s) hl h2' h64 (fun p' st' s' a1 a2 a3 a4=>⟨by rw [<-a4.1];exact a2,a3,a4.2⟩) wp) ?_ fun _ _ e=>e)
  rintro ⟨⟨⟩,st'⟩ s' ⟨har,hf,rfl⟩
  try dsimp only
  have hout:=kat_snds (ks:=ks) (vs:=us) hl har
  refine ZiR (out:=(ZaT lt us.length).map fun i=>us.getD i Value.none) hk ha hka ?_ (by omega) (by omega) hf h
  rw [hout]
  unfold ZaT
  rw [if_neg (by omega)]
end
section
variable {X:Cx} {pins:List (Addr×Obj)} {σ:St} {H:Hp} {s:Shared}
def Zdb (X:Cx) (kvs:List V) (H:Hp) (lt:Nat->Nat->Bool):Prop:=
 (∃ns:List Int,kvs=ns.map V.int/\lt=fun i j=>decide (ns.getD i 0<ns.getD j 0))∨
 ∃(nss:List (List Int)) (T:V->List Int->Prop),(∀v ns,T v ns->∃a,v=.ref a/\SqT X.K H a (ns.map V.int))/\Paired T kvs nss/\(∀ns∈nss,ns≠[])/\lt=fun i j=>lexB (nss.getD i []) (nss.getD j [])
theorem Zdb.ord {kvs:List V} {lt:Nat->Nat->Bool} (h:Zdb X kvs H lt):OrdW lt:=by
 rcases h with ⟨ns,_,rfl⟩ | ⟨nss,T,_,_,_,rfl⟩
 ·refine ⟨fun a b c h1 h2=>?_,fun a b h=>?_⟩
  ·have h1:=of_decide_eq_false h1
   have h2:=of_decide_eq_false h2
   exact decide_eq_false (by omega)
  ·have h:=of_decide_eq_true h
   exact decide_eq_false (by omega)
 ·refine ⟨fun a b c h1 h2=>?_,fun a b h=>Zhh h⟩
  have t:=Zn2 (nss.getD c []) (nss.getD b []) (nss.getD a []) (by unfold leT;rw [h2];rfl) (by unfold leT;rw [h1];rfl)
  unfold leT at t
  simpa using t
theorem ZiC:∀{ks:List Value} {ns:List Int} {i:Nat},IntsAre ks ns->i<ks.length->∃t,ks.getD i Value.none=.int (ns.getD i 0) t
 | _,_,_,.nil,h=>absurd h (by simp)
 | _,_,0,.cons n t _,_=>⟨t,rfl⟩
 | _,_,i+1,.cons n t r,h=>by
  obtain ⟨t',e⟩:=ZiC r (i:=i) (by simpa using h)
  exact ⟨t',by simpa using e⟩
theorem Zob {kvs:List V} {ks:List Value} {lt:Nat->Nat->Bool} {A:Around} {E:Value->Shared->Prop} (h:Zdb X kvs H lt) (I:Inv X pins σ H s) (rv:Vals kvs ks):2<=ks.length->∃κ,(∀Q:SortKind->Shared->Prop,Q κ s->wpAny (model X.prog X.w) A (keyKind' (List.toArray ks)) Q E s)/\∀i j,i<ks.length->j<ks.length->∀C:Bool->Shared->Prop,C (lt i j) s->kas_ask X.prog X.w A κ ks i j C s:=fun h2=>by
 rcases h with ⟨ns,rfl,rfl⟩ | ⟨nss,T,hT,pT,hne,rfl⟩
 ·have hi:IntsAre ks ns:=Zbq rv
  refine ⟨oneType',fun Q q=>?_,fun i j hi' hj' C hC=>?_⟩
  ·rw [ksk_kind (keys:=List.toArray ks) (kz:=ns) hi (by simpa using h2)]
   exact wpAny_pure q
  ·obtain ⟨t,et⟩:=ZiC hi hi'
   obtain ⟨t',et'⟩:=ZiC hi hj'
   show wpAny (model X.prog X.w) A (keyLt' oneType' (ks.getD i Value.none) (ks.getD j Value.none)) C _ s
   rw [et,et']
   exact kat_lt_int hC
 ·have ht:=ZiP I hT rv pT
  have hl:ks.length=nss.length:=Paired.length ht
  exact ⟨tuples' true,fun Q q=>Zsh ht hne (by omega) q,fun i j hi hj C hC=>Zte (Paired.get3 _ [] ht hi) (Paired.get3 _ [] ht hj) hC⟩
theorem ZjQ:∀{xs:List V} {us:List Value} {i:Nat},Vals xs us->i<xs.length->RelV (xs.getD i .non) (us.getD i Value.none)
 | _,_,_,.nil,h=>absurd h (by simp)
 | _,_,0,.cons h _,_=>h
 | _,_,i+1,.cons _ r,h=>by
  have:=ZjQ r (i:=i) (by simpa using h)
  simpa using this
theorem ZiL {xs:List V} {us:List Value} (h:Vals xs us):∀{ix:List Nat},(∀i∈ix,i<xs.length)->Vals (ix.map fun i=>xs.getD i .non) (ix.map fun i=>us.getD i Value.none)
 | [],_=>.nil
 | i::r,hb=>.cons (ZjQ h (hb i (by simp))) (ZiL h fun j m=>hb j (by simp [m]))
theorem Zmu {k:Nat} {f:Addr} {sp:Heap->Sp} {E:Value->Shared->Prop} {u:Value} {xs:List V} {Q:VK} (F:KeyFn X σ k f sp) (hr:Room (k+2) X.A) (I:Inv X pins σ H s) (h64:xs.length<64)
  (hcol:∀Q1:List Value->Shared->Prop,(∀(h':Heap) (tk:Nat) (its:List Value),(∀b o,s.heap.get? b=some o->h'.get? b=some o)->Vals xs its->Q1 its { s with heap:=h',toks:=tk })->wpAny (model X.prog X.w) X.A.in1 (collect u) Q1 E s)
  (q:Zfz X σ sp xs H fun kvs H1=>∃lt,Zdb X kvs H1 lt/\∀l,H1 l=none->Q (.ref l) (upd H1 l (.lst ((ZaT lt xs.length).map fun i=>xs.getD i .non)))) :
  wpAny (model X.prog X.w) X.A (call (.builtin "sorted") [u] [(Str.ofString "key",.ref f)]) (EP X pins σ Q) E s:=by
 refine call_function_entry_kw kind_sorted plain_sorted entry_sorted (ksk_s1 _ _) ?_
 unfold Builtin.«sorted»
 refine wpAny_bind (m:=checkCount "sorted" 1 1 _) (wpAny_pure ?_)
 refine wpAny_bind (hcol _ fun h1 tk its k1 rv=>?_)
 have hil:its.length=xs.length:=rv.length.symm
 have I1:Inv X pins σ H { s with heap:=h1,toks:=tk }:=I.kept k1
 refine wpAny_bind (wpAny_newList ?_ (by rw [sizeLine_eq];omega))
 generalize hs2:({ s with heap:=h1.push (seqObj "list" its.toArray 0),toks:=tk }:Shared)=s2
 have hh2:s2.heap=h1.push (seqObj "list" its.toArray 0):=by rw [<-hs2]
 have I2:Inv X pins σ H s2:=by rw [<-hs2];exact I1.kept (fun b o e=>Heap.get?_push_of_some _ e)
 generalize ha:h1.objs.size=a
 have fpa:FpS X pins a:=by rw [<-ha];exact Zor I1 (Nat.le_refl _)
 have hxa:X.s₀.heap.objs.size<=a:=by rw [<-ha];exact I1.sz
 have hna:H a=none:=by rw [<-ha];exact I1.hok.fresh (Nat.le_refl _)
 have ho:s2.heap.get? a=some (seqObj "list" its.toArray 0):=by rw [hh2,<-ha];exact Heap.get?_push_size _ rfl
 refine wpAny_bind (wpAny_holding (wpAny_call_entry_kw slot_list_sort ⟨_,ho,rfl⟩ entry_list_sort ?body (ksk_l1 _ _)))
 case body=>
  show wpAny (model X.prog X.w) X.A.in1.in1 (Builtin.«list.sort» ⟨[.ref a],[(Str.ofString "key",.ref f)]⟩) _ E s2
  rw [ksk_t1]
  obtain ⟨e1,ho1⟩:∃e1,(s2.heap.update a (Obj.mapSeq fun _=>(#[]:Array Value))).get? a=some (seqObj "list" #[] e1):=⟨_,get?_update_seq ho fun _=>#[]⟩
  unfold ksk_tree
  refine wpAny_bind (listItems_at ho rfl ?_)
  refine wpAny_bind (listUpdate_at ho rfl ?_ (by rw [List.size_toArray,sizeLine_eq];omega) (Nat.zero_le _))
  refine wpAny_bind (seqEpoch_at ho1 rfl ?_)
  refine wpAny_bind (wpAny_newTuple ?_ (by show its.length<=_;rw [sizeLine_eq];omega))
  refine wpAny_bind (wpAny_newList ?_ (Nat.zero_le _))
  refine wpAny_holding ?_
  generalize hs3:({ s2 with heap:=(s2.heap.update a (Obj.mapSeq fun _=>(#[]:Array Value))).push (seqObj "tuple" its.toArray 0) }:Shared)=s3
  have hh3:s3.heap=(s2.heap.update a (Obj.mapSeq fun _=>(#[]:Array Value))).push (seqObj "tuple" its.toArray 0):=by rw [<-hs3]
  generalize hkS:s3.heap.objs.size=kS
  have I3:Inv X (pins ++ [(a,seqObj "list" #[] e1)]) σ H { s2 with heap:=s2.heap.update a (Obj.mapSeq fun _=>(#[]:Array Value)),toks:=s2.toks }:=by
   have Ia:Inv X (pins++(a,seqObj "list" its.toArray 0) :: []) σ H s2:=I2.pins_of fun p hp=>by
    rcases List.mem_append.mp hp with z | z
    ·exact I2.pin p (List.mem_append_right _ z)
    ·rw [List.mem_singleton.mp z]
     exact ⟨ho,hna,fpa.1,fpa.2.1,ZcV⟩
   exact ZjI Ia (fun c w hc e=>by rw [Heap.get?_update_ne _ _ _ _ hc];exact e) ho1 ZcV fpa (fun p hp=>by simp at hp)
  have I4:Inv X (pins ++ [(a,seqObj "list" #[] e1)]) σ H s3:=by rw [<-hs3];exact I3.kept (t':=s2.toks) (fun b o e=>Heap.get?_push_of_some _ e)
  have hak:a<kS:=by
   rw [<-hkS,hh3,size_push',Heap.size_update]
   exact Nat.lt_succ_of_lt (Heap.lt_size ho)
  have fpk:FpS X pins kS:=by
   have:=Zor I4 (b:=kS) (by rw [hkS];exact Nat.le_refl _)
   exact ⟨this.1,this.2.1,this.2.2.1,this.2.2.2.1,fun p hp=>this.2.2.2.2 p ((List.mem_append.mp hp).elim (fun z=>List.mem_append_left _ z) fun z=>List.mem_append_right _ (List.mem_append_left _ z))⟩
  have I5:Inv X (pins ++ [(kS,seqObj "list" (List.toArray []) 0),(a,seqObj "list" #[] e1)]) σ H { s3 with heap:=s3.heap.push (seqObj "list" #[] 0),toks:=s3.toks }:=by
   have I':=I4.kept (t':=s3.toks) (h':=s3.heap.push (seqObj "list" #[] 0)) (fun b o e=>Heap.get?_push_of_some _ e)
   refine I'.pins_of fun p hp=>?_
   rcases List.mem_append.mp hp with z | z
   ·exact I'.pin p (List.mem_append_right _ (List.mem_append_left _ z))
   ·rcases List.mem_cons.mp z with rfl | z
    ·exact ⟨by rw [<-hkS];exact Heap.get?_push_size _ rfl,by rw [<-hkS];exact I4.hok.fresh (Nat.le_refl _),fpk.1,fpk.2.1,ZcV⟩
    ·exact I'.pin p (List.mem_append_right _ (List.mem_append_right _ z))
  show wpAny (model X.prog X.w) X.A.in1.in1 _ _ E { s3 with heap:=s3.heap.push (seqObj "list" #[] 0),toks:=s3.toks }
  generalize ({ s3 with heap:=s3.heap.push (seqObj "list" #[] 0),toks:=s3.toks }:Shared)=s5 at I5 ⊢
  unfold ksk_rest
  refine wpAny_bind (wpAny_rule ?_)
  first
   | rw [List.forIn_toArray]
   | (rw [<-Array.forIn_toList];simp only [List.toList_toArray])
   | rw [<-Array.forIn_toList]
  have hr2:Room k X.A.in1.in1:=(hr.in1).in1
  refine wpAny_bind (wpAny_mono (keys_fold (E:=E) (R:=fun kvs H1=>∃lt,Zdb X kvs H1 lt/\∀l,H1 l=none->Q (.ref l) (upd H1 l (.lst ((ZaT lt xs.length).map fun i=>xs.getD i .non)))) F (fun e=>e.in1.in1) hr2 fpk (Nat.ne_of_lt hak) (fun x ks e s' D hz hx=>?_) xs its [] [] 0 H s5 rv .nil (by simp only [List.length_nil];omega) I5 q) (fun _ s' hd=>?_) fun _ _ x=>x)
  ·refine wpAny_bind (wpAny_attempt (wpAny_mono hx (fun u' s'' hk=>?_) fun _ _ hF=>hF.elim))
   obtain ⟨hk1,hk2⟩:=hk
   try dsimp only
   refine wpAny_bind (listUpdate_at hk1 rfl ?_ (by rw [List.size_toArray,sizeLine_eq];omega) (Nat.le_trans (Nat.le_of_eq (Array.size_push ..)) (by rw [List.size_toArray,sizeLine_eq];omega)))
   exact wpAny_pure ⟨rfl,u',hk2⟩
  ·obtain ⟨kvs,ks,e',H',I',hv,hl,lt,hok,hq⟩:=hd
   have hl:ks.length=its.length:=by simpa using hl
   have pk:=I'.pin (kS,seqObj "list" (List.toArray ks) e') (List.mem_append_right _ (List.mem_append_right _ (.head _)))
   have pa:=I'.pin (a,seqObj "list" #[] e1) (List.mem_append_right _ (List.mem_append_right _ (.tail _ (.head _))))
   try dsimp only
   refine wpAny_bind (listItems_at pk.1 rfl ?_)
   refine ZoV hok.ord pk.1 pa.1 (Nat.ne_of_lt hak) hl (by omega) (Zob hok I' hv) ⟨_,rfl,?_⟩
   refine wpAny_pure ⟨_,rfl,?_⟩
   have hol:((ZaT lt its.length).map fun i=>its.getD i Value.none).length=its.length:=by rw [List.length_map,(Zc7 hok.ord).length_eq,List.length_range]
   -- the store of keys is emptied
   obtain ⟨c1,hc1⟩:∃c1,(s'.heap.update kS (Obj.mapSeq fun _=>(#[]:Array Value))).get? kS=some (seqObj "list" #[] c1):=⟨_,get?_update_seq pk.1 fun _=>#[]⟩
   have I6:=ZjI (o':=seqObj "list" #[] c1) (h':=s'.heap.update kS (Obj.mapSeq fun _=>(#[]:Array Value))) (t':=s'.toks) I' (fun c w hc e=>by rw [Heap.get?_update_ne _ _ _ _ hc];exact e) hc1 ZcV fpk (fun p hp=>by rw [List.mem_singleton.mp hp];exact Nat.ne_of_lt hak)
   have I7:Inv X (pins++(a,seqObj "list" #[] e1) :: []) σ H' { s' with heap:=s'.heap.update kS (Obj.mapSeq fun _=>(#[]:Array Value)),toks:=s'.toks }:=I6.pins_of fun p hp=>I6.pin p (List.mem_append_right _ ((List.mem_append.mp hp).elim (fun z=>List.mem_append_left _ z) fun z=>List.mem_append_right _ (.tail _ z)))
   have pa2:=I7.pin (a,seqObj "list" #[] e1) (List.mem_append_right _ (List.mem_append_right _ (.head _)))
   obtain ⟨c2,hc2⟩:∃c2,(Zc6 s'.heap kS a ((ZaT lt its.length).map fun i=>its.getD i Value.none)).get? a=some (seqObj "list" (List.toArray ((ZaT lt its.length).map fun i=>its.getD i Value.none)) c2):=⟨_,get?_update_seq pa2.1 _⟩
   have I8:=ZjI (o':=seqObj "list" (List.toArray ((ZaT lt its.length).map fun i=>its.getD i Value.none)) c2) (h':=Zc6 s'.heap kS a ((ZaT lt its.length).map fun i=>its.getD i Value.none)) (t':=s'.toks) I7 (fun c w hc e=>by unfold Zc6;rw [Heap.get?_update_ne _ _ _ _ hc];exact e) hc2 ZcV fpa (fun p hp=>by simp at hp)
   have hout:Vals ((ZaT lt xs.length).map fun i=>xs.getD i .non) ((ZaT lt its.length).map fun i=>its.getD i Value.none):=by
    rw [hil]
    exact ZiL rv fun i hi=>List.mem_range.mp ((Zc7 hok.ord).mem_iff.mp hi)
   refine ⟨.ref a,_,ZsG (u:=.lst ((ZaT lt xs.length).map fun i=>xs.getD i .non)) I8 fpa hxa ⟨?_,_,c2,hout,hc2⟩,rfl,hq a pa2.2.1⟩
   rw [hout.length,hol,sizeLine_eq];omega
end
end TF
namespace TF
open PySem PySem.Spec PyProof.Rows L2 TS
section
variable {X:Cx}
def ZoP (X:Cx) (id:String) (nm:Str) (r:St->List V->List V->Hp->VK->Prop):Prop:=
 ∀(pins:List (Addr×Obj)) (s:Shared) (σ:St) (H:Hp) (xs ys:List V) (us vs:List Value) (Q:VK),Inv X pins σ H s->Vals xs us->Vals ys vs->r σ xs ys H Q->wpAny (model X.prog X.w) X.A (call (.builtin id) us ([nm].zip vs)) (EP X pins σ Q) X.xe s
theorem ZnJ {id:String} {x nm:Str} {p pos kpos:Pos} {e d:Expr} {ta tb:TE} {r:St->List V->List V->Hp->VK->Prop} (hc:ZoP X id nm r) (hg:Gl X x) (hm:X.mg x=none) (hv:bootBuiltins x=some (.builtin id)) (ha:PE X e ta) (hb:PE X d tb)
  (hn:x≠"__name__":=by decide) (hdb:(x==("__debug__" : Str))=false:=by decide) (he:starEach [e] X.env=(false,eval e X.env)::starEach [] X.env:=by rfl)
  (hall:(backToKw pos (keywordEach [⟨some nm,d,kpos⟩] X.env)).all (·.1.isSome)=true:=by rfl) (hks:(backToKw pos (keywordEach [⟨some nm,d,kpos⟩] X.env)).filterMap (·.1)=[nm]:=by rfl)
  (hpl:((backTo pos (starEach [e] X.env)).any (·.1)||(backToKw pos (keywordEach [⟨some nm,d,kpos⟩] X.env)).any (·.1.isNone))=false:=by rfl) :
  PE X (.Call (.Name x p) [e] [⟨some nm,d,kpos⟩] pos) (fun σ H Q=>ZeI ta tNil σ H fun xs H1=>ZeI tb tNil σ H1 fun ys H2=>r σ xs ys H2 Q):=by
 intro pins s σ H Q I h
 refine wpAny_Call_Name_kw (ZeA I hg hm hv ?_ hn hdb)
 refine PySem.W.callWith_of (P:=fun _=>True) hpl (fun h _=>⟨Keeper.machine,.inr (.inl rfl),Zjy⟩) (evalArgs_kw2 hall (thn ((Zbb ha ZbO he) pos pins s σ H _ I h) fun us s1 ⟨vs,H1,I1,rv,q1⟩=>?_) he)
 refine thn ((Zqy hb ZrM) pos pins s1 σ H1 _ I1 q1) fun ws s2 ⟨zs,H2,I2,rz,q2⟩=>?_
 refine ⟨trivial,?_⟩
 rw [hks]
 exact hc pins s2 σ H2 vs zs us ws Q I2 rv rz q2
def Zii (X:Cx) (H:Hp) (p:Addr) (ns:List Int):Prop:=
 SqL X.K H p (ns.map V.int)∨SqT X.K H p (ns.map V.int)∨∃j:Int,H p=some (.rng 0 j)/\-(2 ^ 62)<=j/\j<=2 ^ 24/\ns=(List.range j.toNat).map fun (i:Nat)=>(i:Int)
theorem Zm6 {pins:List (Addr×Obj)} {σ:St} {H:Hp} {s:Shared} {p:Addr} {ns:List Int} {E:Value->Shared->Prop} (hc:X.calm=true) (I:Inv X pins σ H s) (h:Zii X H p ns) (Q1:List Value->Shared->Prop)
  (k:∀(h':Heap) (tk:Nat) (its:List Value),(∀b o,s.heap.get? b=some o->h'.get? b=some o)->Vals (ns.map V.int) its->Q1 its { s with heap:=h',toks:=tk }):wpAny (model X.prog X.w) X.A.in1 (collect (.ref p)) Q1 E s:=by
 have keep:∀its:List Value,∀b o,s.heap.get? b=some o->((s.heap.push (seqObj "list" #[] 0)).update s.heap.objs.size (Obj.mapSeq (· ++ its.toArray))).get? b=some o:=fun its b o e=>by
  rw [Heap.get?_update_ne _ _ _ _ (Nat.ne_of_lt (Heap.lt_size e))]
  exact Heap.get?_push_of_some _ e
 rcases h with h | h | ⟨j,hr,h1,h2,rfl⟩
 ·obtain ⟨its,rv,pl,hz⟩:=I.list h
  have hl:=rv.length
  exact collect_list pl.isList (k _ s.toks its (keep its) rv) (by rw [<-hl];exact hz)
 ·obtain ⟨its,rv,pl,hz⟩:=I.tuple h
  have hl:=rv.length
  exact ZpQ (show s.heap.IsTuple p its.toArray from pl) (k _ s.toks its (keep its) rv) (by rw [<-hl];exact hz)
 ·obtain ⟨t,u',v',hro⟩:=(show Za4 X.prog X.w H s.heap p (.rng 0 j) from I.hok p _ hr)
  have hn:Builtin.Range.rangeSize 0 j 1=((j.toNat:Nat):Int):=by rw [rangeSize_one];split <;> omega
  refine ZlC (A:=X.A.in1) (I.ok.hd hc) (show IsRange s.heap p 0 j 1 t u' v' from hro) (small_one (by omega) (by omega) h1 (by omega)) hn (by omega) fun h' tk acc kp hi=>?_
  obtain ⟨sz,hit⟩:=hi
  have rv:=Zfj acc.toList 0 fun i v hv=>by
   obtain ⟨t,e⟩:=hit i v (by simpa using hv)
   exact ⟨t,by rw [e];simp⟩
  have el:acc.toList.length=j.toNat:=by simpa using sz
  rw [el] at rv
  refine k h' tk acc.toList kp ?_
  rw [List.map_map]
  have e:(List.range j.toNat).map (V.int∘fun (i:Nat)=>(i:Int))=(List.range j.toNat).map fun (i:Nat)=>V.int (0+i):=List.map_congr_left fun i _=>by show V.int _=V.int _;rw [Int.zero_add]
  rw [e];exact rv
theorem Zk0 (hc:X.calm=true):ZoP X "sorted" "key" (fun σ xs ys H Q=>∃(p f:Addr) (ns:List Int) (sp:Heap->Sp) (k:Nat),xs=[.ref p]/\ys=[.ref f]/\Zii X H p ns/\KeyFn X σ k f sp/\Room (k+2) X.A/\ns.length<64/\
  Zfz X σ sp (ns.map V.int) H fun kvs H1=>∃lt,Zdb X kvs H1 lt/\∀l,H1 l=none->Q (.ref l) (upd H1 l (.lst ((ZaT lt ns.length).map fun i=>V.int (ns.getD i 0))))):=by
 intro pins s σ H xs ys us vs Q I r r2 h
 obtain ⟨p,f,ns,sp,k,rfl,rfl,hp,F,hr,h64,q⟩:=h
 obtain ⟨u,rfl,ru⟩:=Zcj r
 cases ru
 obtain ⟨v,rfl,rv⟩:=Zcj r2
 cases rv
 refine Zmu (xs:=ns.map V.int) F hr I (by rw [List.length_map];exact h64) (fun Q1 k=>Zm6 hc I hp Q1 k) ?_
 have ek:(fun kvs H1=>∃lt,Zdb X kvs H1 lt/\∀l,H1 l=none->Q (.ref l) (upd H1 l (.lst ((ZaT lt ns.length).map fun i=>V.int (ns.getD i 0)))))=fun kvs H1=>∃lt,Zdb X kvs H1 lt/\∀l,H1 l=none->Q (.ref l) (upd H1 l (.lst ((ZaT lt (ns.map V.int).length).map fun i=>(ns.map V.int).getD i .non))):=by
  funext kvs H1
  refine propext (exists_congr fun lt=>and_congr_right fun ok=>?_)
  have e:(ZaT lt (ns.map V.int).length).map (fun i=>(ns.map V.int).getD i .non)=(ZaT lt ns.length).map fun i=>V.int (ns.getD i 0):=by
   rw [List.length_map]
   refine List.map_congr_left fun i hi=>?_
   have hi:=List.mem_range.mp ((Zc7 ok.ord).mem_iff.mp hi)
   rw [List.getD_eq_getElem?_getD,List.getElem?_map,List.getD_eq_getElem?_getD,List.getElem?_eq_getElem hi];rfl
  rw [e]
 rw [ek] at q
 exact q
end
def ZhS (F:List D->M D) (cds:List D):List Int->M (List D)
 | []=>mret []
 | n::r=>Zan (F (.int n::cds)) fun k=>Zan (ZhS F cds r) fun ks=>mret (k::ks)
def ltD (ks:List D):Option (Nat->Nat->Bool):=match Zau ks with
 | some ns=>some fun i j=>decide (ns.getD i 0<ns.getD j 0)
 | none=>match ZdZ ks with
  | some nss=>if nss.all (fun ns=>!ns.isEmpty)=true then some fun i j=>lexB (nss.getD i []) (nss.getD j []) else none
  | none=>none
def ZdS (F:List D->M D) (cds:List D) (ns:List Int):M D:=if (decide (ns.length<64)&&Zbe cds)=true then Zan (ZhS F cds ns) fun ks=>match ltD ks with
 | some lt=>mret (.lst ((ZaT lt ns.length).map fun i=>.int (ns.getD i 0)))
 | none=>ZaB else ZaB
section
variable {X:Cx} {G:Gh} {σ:St}
theorem ZkC {cvs:List V} {cds:List D} {F:List D->M D}:∀(ns:List Int) (Hf H:Hp) (s s':Pn) (ks:List D) (R:List V->Hp->Prop),Ext G Hf H->RepL G Hf cds cvs->G.st s H->ZhS F cds ns s=some (ks,s')->
  (∀kvs Hf1 H1,Gr G Hf H Hf1 H1->G.st s' H1->RepL G Hf1 ks kvs->R kvs H1)->Zfz X σ (fun _=>spK 1 G cvs F) (ns.map V.int) H R
 | [],Hf,H,s,s',ks,R,e,rc,st,h,k=>by
  obtain ⟨rfl,rfl⟩:=Zaq h
  exact k [] Hf H (.refl e) st (RepL.nil_iff.mpr rfl)
 | n::r,Hf,H,s,s',ks,R,e,rc,st,h,k=>by
  obtain ⟨d,s1,a1,a2⟩:=Zai h
  obtain ⟨ks',s2,a3,a4⟩:=Zai a2
  obtain ⟨rfl,rfl⟩:=Zaq a4
  intro base' cs
  refine ⟨Hf,[.int n],cds,s,d,s1,rfl,e,.one (Rep.int_iff.mpr rfl),rc,st,a1,fun v Hf1 H1 g1 st1 rv=>?_⟩
  exact ZkC r Hf1 H1 s1 _ ks' _ g1.fh (rc.ext g1.ff) st1 a3 fun kvs Hf2 H2 g2 st2 rk=>k (v::kvs) Hf2 H2 (g1.trans g2) st2 (.cons (rv.ext g2.ff) rk)
theorem Zoc {ks:List D} {kvs:List V} {lt:Nat->Nat->Bool} {Hf H:Hp} (e:Ext G Hf H) (r:RepL G Hf ks kvs) (h:ltD ks=some lt):Zdb X kvs H lt:=by
 unfold ltD at h
 cases hi:Zau ks with
 | some ns=>
  rw [hi] at h
  cases h
  rw [Zbv hi] at r
  exact .inl ⟨ns,RepL.ints r,rfl⟩
 | none=>
  rw [hi] at h
  cases ht:ZdZ ks with
  | none=>rw [ht] at h;cases h
  | some nss=>
   rw [ht] at h
   have h:(if nss.all (fun ns=>!ns.isEmpty)=true then some fun i j=>lexB (nss.getD i []) (nss.getD j []) else none)=some lt:=h
   by_cases hn:nss.all (fun ns=>!ns.isEmpty)=true
   ·rw [if_pos hn] at h
    cases h
    rw [ZiO ht] at r
    refine .inr ⟨nss,fun v ns=>Rep G Hf (tupI ns) v,fun v ns rv=>?_,ZiU r,fun ns hm z=>?_,rfl⟩
    ·obtain ⟨a,vs,rfl,na,ha,rl⟩:=Rep.tup_iff.mp rv
     rw [RepL.ints rl] at ha
     exact ⟨a,rfl,SqT.of (e _ _ na ha)⟩
    ·have:=List.all_eq_true.mp hn ns hm
     rw [z] at this;cases this
   ·rw [if_neg hn] at h;cases h
end
section
variable {X:Cx} {G:Gh} {P c:Addr} {q:Str} {kl:Nat} {frb:Bool} {e1:Expr} {f1:Rho->M D} {r1:Bool} {params:Arguments} {scope:Scope} {lpos ppos pos kpos:Pos} {XN N ps:List Str} {NS:List (Str×NameKind)} {cix:List Nat} {body:Expr} {fe:Rho->M D}
theorem Zjt {cds:List D} {ns:List Int} {σ:St} {Hf1 H1:Hp} {ρ:Rho} {s s':Pn} {d:D} {Q:VK} {p0:Addr} (hfn:∀x,X.fn x=true) (hr:Room (kl+3) X.A) (M:Mk0 X c P) (TG:TabG P q G) (S:CloScope N ps scope) (B:CapS X XN NS N ps cix scope) (hps:ps.length=1)
  (hbind:∀(cl:List (Str×Addr)) (pm cd ct:Value) (us:List Value),us.length=ps.length->bindArgs (PySem.W.kla_fn "<lambda>" q params body scope cl pm cd ct) ⟨us,[]⟩=pure (ps.zip us))
  (hb:∀(base:Heap) (f c':Addr) (cl:List (Str×Addr)) (G:Gh) (A:Around) (outer:List Env) (s:Shared) (H:Hp) (E:XK),Room kl (A.deeper (PySem.W.envX q scope s.heap.objs.size f (.ref c') cl))->PD (cxC CX0 X.prog X.w X.K X.mg base N q scope f (.ref c') cl A outer s H E).nox G frb body fe)
  (x1:Ext G Hf1 H1) (x2:EnvR G Hf1 σ ρ) (st1:G.st s H1) (hcap:ZeR ρ cix=some cds) (hk:ZdS (runE N.length fe) cds ns s=some (d,s'))
  (hit:∀H2,Ext G H1 H2->(∀b u,H1 b=some u->(∀t,u≠.tbl t)->H2 b=some u)->Zii X H2 p0 ns)
  (k:∀v Hf3 H3,Gr G Hf1 H1 Hf3 H3->G.st s' H3->Rep G Hf3 d v->Q v H3) :
  ZeI (fun σ H Q=>Zqh P q lpos (fun fd c'=>∃cl pm ctv,CloOf X scope cl/\fd=PySem.W.kla_fn "<lambda>" q params body scope cl pm (.ref c') ctv) H fun p _ _ H'=>Q (.ref p) H') tNil σ H1 fun ys H2=>
   ∃(p f:Addr) (ns:List Int) (sp:Heap->Sp) (k:Nat),[V.ref p0]=[.ref p]/\ys=[.ref f]/\Zii X H2 p ns/\KeyFn X σ k f sp/\Room (k+2) X.A/\ns.length<64/\
    Zfz X σ sp (ns.map V.int) H2 fun kvs H1=>∃lt,Zdb X kvs H1 lt/\∀l,H1 l=none->Q (.ref l) (upd H1 l (.lst ((ZaT lt ns.length).map fun i=>V.int (ns.getD i 0)))):=by
 unfold ZdS at hk
 obtain ⟨hn,a5⟩:=Za7 hk
 obtain ⟨hn0,hn1⟩:=Bool.and_eq_true_iff.mp hn
 have h64:=of_decide_eq_true hn0
 obtain ⟨ks,s1,a6,a7⟩:=Zai a5
 obtain ⟨tp,hP,htr,hhit⟩:=TG.get _ H1 st1
 refine ⟨tp,hP,htr,fun cv h=>let ⟨c',z1,z2,_⟩:=hhit lpos cv h;⟨c',z1,z2⟩,fun p c' fd Hm ⟨cl,pm,ctv,co,efd⟩ sl hp=>?_⟩
 subst efd
 obtain ⟨stm,hc',ex⟩:=ZlK TG st1 hP sl
 have gr:=Zl4 (o:=.ext (fnφ p (PySem.W.kla_fn "<lambda>" q params body scope cl pm (.ref c') ctv))) x1 ex hp
 have hcp:c'≠p:=fun z=>by rw [z,hp] at hc';cases hc'
 obtain ⟨cvs,l1,l2,l3⟩:=Zhn x2 hcap
 have st2:(cloG G 0 p c' (PySem.W.kla_fn "<lambda>" q params body scope cl pm (.ref c') ctv) q cvs).st s (upd Hm p (.ext (fnφ p (PySem.W.kla_fn "<lambda>" q params body scope cl pm (.ref c') ctv)))):=⟨Gh.grow stm hp,Zav,by rw [Zap hcp];exact hc'⟩
 refine ⟨p0,p,ns,fun _=>spK 1 (cloG G 0 p c' (PySem.W.kla_fn "<lambda>" q params body scope cl pm (.ref c') ctv) q cvs) cvs (runE N.length fe),kl+1,rfl,rfl,?_,⟨hfn,_,ps,.all (hbind cl pm (.ref c') ctv),fun base' cs=>?_⟩,hr,h64,?_⟩
 ·refine hit _ gr.hh fun b u e nt=>?_
  have e2:Hm b=some u:=by
   rcases sl with ⟨rfl,h1,h2⟩ | ⟨h1,h2,h3,rfl⟩
   ·exact e
   ·have hbP:b≠P:=fun z=>by
     rw [z,hP] at e;cases e
     exact nt _ rfl
    rw [Zap (Zat e h2),Zap hbP];exact e
  rw [Zap (Zat e2 hp)];exact e2
 ·have:=fnKE S (B.cloAt cs co l1 l3) (fun s H st=>st.2) (G:=cloG G 0 p c' (PySem.W.kla_fn "<lambda>" q params body scope cl pm (.ref c') ctv) q cvs) fun A outer s H E hr=>hb base' p c' cl _ A outer s H E hr
  rw [hps] at this
  exact this
 ·refine ZkC ns Hf1 _ s s1 ks _ (Ext.re (G:=G) rfl gr.fh) (toCL hn1 l2) st2 a6 fun kvs Hf2 H2 g2 st3 rk=>?_
  cases hlt:ltD ks with
  | none=>rw [hlt] at a7;cases a7
  | some lt=>
   rw [hlt] at a7
   obtain ⟨rfl,rfl⟩:=Zaq a7
   refine ⟨lt,Zoc g2.fh rk hlt,fun l hl=>?_⟩
   have g2':Gr G Hf1 _ Hf2 H2:=grC g2
   have nf:=Gh.nofp st3.1 hl
   have gB:=Gr.new (G:=G) (o:=.lst ((ZaT lt ns.length).map fun i=>V.int (ns.getD i 0))) g2'.fh hl nf
   have gg:=(gr.trans g2').trans gB
   have hrl:RepL G (upd Hf2 l (.lst ((ZaT lt ns.length).map fun i=>V.int (ns.getD i 0)))) ((ZaT lt ns.length).map fun i=>D.int (ns.getD i 0)) ((ZaT lt ns.length).map fun i=>V.int (ns.getD i 0)):=by
    have:=ZeK (G:=G) (Hf:=upd Hf2 l (.lst ((ZaT lt ns.length).map fun i=>V.int (ns.getD i 0)))) ((ZaT lt ns.length).map fun i=>ns.getD i 0)
    rw [List.map_map,List.map_map] at this
    exact this
   exact k (.ref l) _ _ gg (Gh.grow st3.1 hl) (Rep.lst_iff.mpr ⟨l,_,rfl,nf,Zav,hrl⟩)
def ZeQ (F:List D->M D) (cix:List Nat) (f:Rho->M D):Rho->M D:=fun ρ=>Zan (f ρ) fun d=>Zan (mOf (ZeR ρ cix)) fun cds=>match d with
 | .int j=>if -(2 ^ 62)<=j/\j<=2 ^ 24 then ZdS F cds ((List.range j.toNat).map fun (i:Nat)=>(i:Int)) else ZaB
 | _=>ZaB
theorem Zld {p2 pos2:Pos} (hc:X.calm=true) (hg:Gl X "sorted") (hm:X.mg "sorted" = none) (hv:bootBuiltins "sorted" = some (.builtin "sorted")) (hgr:Gl X "range") (hmr:X.mg "range" = none) (M:Mk0 X c P) (TG:TabG P q G) (hfn:∀x,X.fn x=true) (hr:Room (kl+3) X.A) (h1:PD X G r1 e1 f1)
  (hq:X.env.qual ++ "<lambda>" = q) (S:CloScope N ps scope) (B:CapS X XN NS N ps cix scope) (hps:ps.length=1)
  (hbind:∀(cl:List (Str×Addr)) (pm cd ct:Value) (us:List Value),us.length=ps.length->bindArgs (PySem.W.kla_fn "<lambda>" q params body scope cl pm cd ct) ⟨us,[]⟩=pure (ps.zip us))
  (hb:∀(base:Heap) (f c':Addr) (cl:List (Str×Addr)) (G:Gh) (A:Around) (outer:List Env) (s:Shared) (H:Hp) (E:XK),Room kl (A.deeper (PySem.W.envX q scope s.heap.objs.size f (.ref c') cl))->PD (cxC CX0 X.prog X.w X.K X.mg base N q scope f (.ref c') cl A outer s H E).nox G frb body fe)
  (hdef:defaultsOf params X.env=([],[]):=by rfl)
  (hs1:starEach [e1] X.env=[(false,eval e1 X.env)]:=by rfl)
  (he:starEach [.Call (.Name "range" p2) [e1] [] pos2] X.env=(false,eval (.Call (.Name "range" p2) [e1] [] pos2) X.env)::starEach [] X.env:=by rfl)
  (hall:(backToKw pos (keywordEach [⟨some "key",.Lambda params body scope lpos,kpos⟩] X.env)).all (·.1.isSome)=true:=by rfl) (hks:(backToKw pos (keywordEach [⟨some "key",.Lambda params body scope lpos,kpos⟩] X.env)).filterMap (·.1)=[("key" : Str)]:=by rfl)
  (hpl:((backTo pos (starEach [.Call (.Name "range" p2) [e1] [] pos2] X.env)).any (·.1)||(backToKw pos (keywordEach [⟨some "key",.Lambda params body scope lpos,kpos⟩] X.env)).any (·.1.isNone))=false:=by rfl) :
  PD X G false (.Call (.Name "sorted" ppos) [.Call (.Name "range" p2) [e1] [] pos2] [⟨some "key",.Lambda params body scope lpos,kpos⟩] pos) (ZeQ (runE N.length fe) cix f1):=by
 obtain ⟨t1,p1,q1⟩:=h1.drop
 refine ⟨_,ZnJ (Zk0 hc) hg hm hv (ZiY hgr hmr (Zbb p1 ZbO (by rw [hs1];rfl)) hs1) (ZnI M hq B.hfree hdef) (by decide) (by decide) he hall hks hpl,fun σ Hf H ρ s d s' Q x1 x2 x3 x4 k=>?_⟩
 obtain ⟨d1,s1,a1,a2⟩:=Zai x4
 obtain ⟨cds,s2,b3,a4⟩:=Zai a2
 obtain ⟨a3,rfl⟩:=Zbt b3
 cases d1 with
 | int j=>
  obtain ⟨cj,a5⟩:=Za7 a4
  refine q1 σ Hf H ρ s _ _ _ x1 x2 x3 a1 fun v1 Hf1 H1 g1 st1 rv1=>?_
  rw [Rep.int_iff.mp rv1]
  refine ⟨j,rfl,fun p hp=>?_⟩
  have st2:G.st s2 (upd H1 p (.rng 0 j)):=Gh.grow st1 hp
  have fp:Hf1 p=none:=by
   cases q:Hf1 p with
   | none=>rfl
   | some o=>rw [g1.fh p o (Gh.nofp st1 hp) q] at hp;cases hp
  have gA:Gr G Hf1 H1 Hf1 (upd H1 p (.rng 0 j)):=⟨fun b o n q=>by rw [Zap (Zat q hp)];exact q,.refl _ _,fun b o n q=>by rw [Zap (Zat q fp)];exact g1.fh b o n q,fun b n h1 h2=>h1⟩
  refine Zjt hfn hr M TG S B hps hbind hb gA.fh (x2.ext g1.ff) st2 a3 a5 (fun H2 _ keep=>.inr (.inr ⟨j,keep _ _ Zav (fun t z=>by cases z),cj.1,cj.2,rfl⟩)) fun v Hf3 H3 g3 st3 r3=>k v Hf3 H3 ((g1.trans gA).trans g3) st3 r3 (fun z=>by cases z)
 | _=>cases a4
end
end TF
namespace TQ
open PySem L2 TF TQ
open TP
open TP2
open TP3
def ZhW:Rho->M Out:=(sSeq (sRet (ZaD ZeC (Zac (ZaP [none,some 0] (ZaY (dVar 1)) (gOne 0) ZaZ (dOp dIx (dVar 1) (dVar 0))) dNil)))
 Zam)
def Zby:List D->M D:=runB 2 2 ZhW
def Zgh (Fs:List D->M D):Rho->M Out:=(sSeq (sRet (dFn Fs (Zac (dVar 0) (Zac (dFn Zdc (Zac (dVar 1) (Zac (dVar 3) dNil))) (Zac (dFn Zby (Zac (dVar 2) (Zac (dVar 3) dNil))) (Zac (dVar 4) (Zac (dVar 5) dNil)))))))
 Zam)
def Zbf (Fs:List D->M D):List D->M D:=runB 6 6 (Zgh Fs)
def ZgI:Rho->M Out:=(sSeq (sOwn 2 (dC (.dk [])))
 (sSeq (sFor (ZaU (ZaD dLen (Zac (dVar 1) dNil))) (gOne 3)
 (sSeq (Zft 2 (fun ρ=>(dOp dIx (dVar 1) (dVar 3)) (hide [2] ρ)) (chk true (ZaD ZfF (Zac (dOp dIx (dVar 0) (dVar 3)) (Zac (Zh5 (dVar 2) (dOp dIx (dVar 1) (dVar 3)) (dC (.int 0))) dNil)))))
 Zam))
 (sSeq (sRet (Zhl (dVar 2)))
 Zam)))
def Zbj:List D->M D:=runB 4 2 ZgI
def Zhk:Rho->M Out:=(sSeq (sRet (ZaP [none,some 1] (ZaU (dOp dIx (dVar 0) (dC (.int 0)))) (gOne 0) (asB (dOp dNeO (dVar 0) (dVar 1))) (dVar 0)))
 Zam)
def Zbu:List D->M D:=runB 2 2 Zhk
def ZdF (Fs:List D->M D):Rho->M Out:=(sSeq (sIf (asB (dFn Zba (Zac (dVar 4) (Zac (dC (.int 1)) dNil))))
 (sSeq (sRet (vAnd (dOp dEqO (dOp dIx (dVar 4) (dC (.int 0))) (dVar 0)) (dOp dLe (ZaD ZjN (Zac (dVar 2) dNil)) (dVar 3))))
 Zam)
 Zam)
 (sSeq (sIf (asB (dFn Zba (Zac (dVar 4) (Zac (dC (.int 2)) dNil))))
 (sSeq (sRet (vAnd (dOp dEqO (dOp dIx (dVar 4) (dC (.int 0))) (dC (.str (Str.ofString "hues")))) (vAnd (dFn Zdd (Zac (dVar 1) (Zac (dOp dIx (dVar 4) (dC (.int 1))) dNil))) (dOp dLe (dFn Zbj (Zac (dVar 2) (Zac (dOp dIx (dVar 4) (dC (.int 1))) dNil))) (dVar 3)))))
 Zam)
 Zam)
 (sSeq (sIf (bOr (bNot (asB (dFn Zba (Zac (dVar 4) (Zac (dC (.int 4)) dNil))))) (asB (dOp dNeO (dOp dIx (dVar 4) (dC (.int 0))) (dC (.str (Str.ofString "place"))))))
 (sSeq (sRet (dC (.bl false)))
 Zam)
 Zam)
 (sSeq (sSet 5 (dOp dIx (dVar 4) (dC (.int 1))))
 (sSeq (sIf (bOr (bNot (asB (dFn ZbW (Zac (dOp dIx (dVar 1) (dC (.int 0))) (Zac (dVar 5) dNil))))) (asB (dOp dGt (dOp dIx (dVar 2) (dVar 5)) (dVar 3))))
 (sSeq (sRet (dC (.bl false)))
 Zam)
 Zam)
 (sSeq (sIf (bNot (asB (dFn (Zbf Fs) (Zac (dVar 0) (Zac (dVar 1) (Zac (dVar 2) (Zac (dFn Zbu (Zac (dVar 1) (Zac (dVar 5) dNil))) (Zac (dVar 3) (Zac (dOp dIx (dVar 4) (dC (.int 2))) dNil)))))))))
 (sSeq (sRet (dC (.bl false)))
 Zam)
 Zam)
 (sSeq (sRet (dFn (Zbf Fs) (Zac (dVar 0) (Zac (dVar 1) (Zac (dVar 2) (Zac (dFn Zcn (Zac (dVar 1) (Zac (dVar 5) dNil))) (Zac (dOp dSub (dVar 3) (dOp dIx (dVar 2) (dVar 5))) (Zac (dOp dIx (dVar 4) (dC (.int 3))) dNil))))))))
 Zam)))))))
def Zbi:Nat->List D->M D
 | 0=>fun _=>ZaB
 | n+1=>runB 6 5 (ZdF (Zbi n))
def Zso:Rho->M Out:=(sSeq (sRet (dOp Zh2 (dTup (Zac (dC (.int 1)) dNil)) (dOp dIx (dVar 0) (dC (.int 0)))))
 Zam)
def ZeE:List D->M D:=runB 1 1 Zso
def ZmW:Rho->M Out:=(sSeq (sRet (dFn (Zbi 26) (Zac (dC (.str (Str.ofString "few"))) (Zac (dVar 0) (Zac (dFn ZeE (Zac (dVar 0) dNil)) (Zac (dOp dSub (dVar 1) (dC (.int 1))) (Zac (dVar 2) dNil)))))))
 Zam)
def Zcu:List D->M D:=runB 3 3 ZmW
def ZjD:Rho->M Out:=(sSeq (sSet 2 (dFn ZbX (Zac (dVar 0) dNil)))
 (sSeq (sRet (dFn ZcT (Zac (dVar 0) (Zac (ZeQ (runE 3 (dTup (Zac (dNeg (dOp dIx (dVar 1) (dVar 0))) (Zac (dNeg (ZaD dLen (Zac (dOp dIx (dVar 2) (dVar 0)) dNil))) dNil)))) [1,2] (dOp dIx (dVar 0) (dC (.int 0)))) dNil))))
 Zam))
def Zcy:List D->M D:=runB 3 2 ZjD
def Zh0 (Fs:List D->M D):Rho->M Out:=(sSeq (sRet (dFn Fs (Zac (dVar 0) (Zac (dFn Zdc (Zac (dVar 1) (Zac (dVar 3) dNil))) (Zac (dFn Zby (Zac (dVar 2) (Zac (dVar 3) dNil))) (Zac (dVar 4) dNil))))))
 Zam)
def Zbz (Fs:List D->M D):List D->M D:=runB 5 5 (Zh0 Fs)
def ZiE (Fs:List D->M D):Rho->M Out:=(sSeq (sIf (asB (dOp dLe (ZaD ZjN (Zac (dVar 2) dNil)) (dVar 3)))
 (sSeq (sRet (dTup (Zac (dVar 0) dNil)))
 Zam)
 Zam)
 (sSeq (sSet 4 (dFn Zcy (Zac (dVar 1) (Zac (dVar 2) dNil))))
 (sSeq (sIf (asB (dOp dLe (dFn Zbj (Zac (dVar 2) (Zac (dVar 4) dNil))) (dVar 3)))
 (sSeq (sRet (dTup (Zac (dC (.str (Str.ofString "hues"))) (Zac (dVar 4) dNil))))
 Zam)
 Zam)
 (sSeq (sSet 5 (dOp ZiF (dVar 4) (ZaD Zm4 (Zac (dVar 4) dNil))))
 (sSeq (sRet (dTup (Zac (dC (.str (Str.ofString "place"))) (Zac (dVar 5) (Zac (dFn (Zbz Fs) (Zac (dVar 0) (Zac (dVar 1) (Zac (dVar 2) (Zac (dFn Zbu (Zac (dVar 1) (Zac (dVar 5) dNil))) (Zac (dVar 3) dNil)))))) (Zac (dFn (Zbz Fs) (Zac (dVar 0) (Zac (dVar 1) (Zac (dVar 2) (Zac (dFn Zcn (Zac (dVar 1) (Zac (dVar 5) dNil))) (Zac (dOp dSub (dVar 3) (dOp dIx (dVar 2) (dVar 5))) dNil)))))) dNil))))))
 Zam)))))
def Zco:Nat->List D->M D
 | 0=>fun _=>ZaB
 | n+1=>runB 6 4 (ZiE (Zco n))
def ZhX:Rho->M Out:=(sSeq (sRet (dFn (Zco 26) (Zac (dC (.str (Str.ofString "few"))) (Zac (dVar 0) (Zac (dFn ZeE (Zac (dVar 0) dNil)) (Zac (dOp dSub (dVar 1) (dC (.int 1))) dNil))))))
 Zam)
def Zce:List D->M D:=runB 2 2 ZhX
def Zgg:Rho->M Out:=(sSeq (sSet 2 (dFn ZdK (Zac (dVar 0) dNil)))
 (sSeq (sIf (asB (dOp dGe (dOp dIx (dVar 2) (dC (.int 0))) (dVar 1)))
 (sSeq (sRet (dTup (Zac (dC (.str (Str.ofString "knot"))) (Zac (Zfi (dOp dIx (dVar 2) (dC (.int 1))) ZjL (Zgs (dVar 1))) dNil))))
 Zam)
 Zam)
 (sSeq (sRet (dTup (Zac (dC (.str (Str.ofString "none"))) (Zac (dFn Zce (Zac (dVar 0) (Zac (dVar 1) dNil))) dNil))))
 Zam)))
def ZbR:List D->M D:=runB 3 2 Zgg
end TQ
namespace TF
open PySem PySem.Spec PyProof.Rows L2
section
variable {X:Cx} {G:Gh}
def tBMT (r:V->List V->Hp->VK->Prop) (to:TE) (t:TA):TE:=fun σ H Q=>to σ H fun x H1=>(∃p vs,x=.ref p/\H1 p=some (.tup vs))/\t σ H1 fun xs H2=>r x xs H2 Q
theorem ZrV {o e:Expr} {es:List Expr} {to:TE} {t:TA} {name:Str} {apos cpos:Pos} {id:String} {r:V->List V->Hp->VK->Prop} (pa:PlainAttrs "tuple") (slot:PySem.Slot "tuple" name id) (hty:typeOf (.builtin id)=pure (.type "method_descriptor")) (hm:MtR X id r) (ho:PE X o to) (ha:PA X (e::es) t)
  (hbase:attributeBase o name X.env (eval o X.env)=eval o X.env:=by rfl)
  (hfew:((backTo cpos (starEach (e::es) X.env)).all (fun x=>!x.1)&&(backToKw cpos (keywordEach [] X.env)).all (fun x=>x.1.isSome)
   && decide ((e::es).length+([]:List Keyword).length+(if ([]:List Keyword).isEmpty then 0 else 1)<30))=true:=by rfl)
  (hline:(apos.endLine==cpos.line)=true:=by rfl) (hs:starEach (e::es) X.env=(false,eval e X.env)::starEach es X.env:=by rfl) (hplain:(backTo cpos (starEach es X.env)).any (·.1)=false:=by rfl) :
  PE X (.Call (.Attribute o name apos) (e::es) [] cpos) (tBMT r to t):=by
 intro pins s σ H Q I h
 refine wpAny_Call_method_late hbase hfew hline rfl (thn (ho pins s σ H _ I h) fun v s1 ⟨x,H1,I1,r1,ty,q1⟩=>?_)
 obtain ⟨p,vs,rfl,hp⟩:=ty
 cases r1
 obtain ⟨_,its,_,ob,e1,⟨e2,n,e3⟩,e4⟩:=(show Za4 X.prog X.w H1 s1.heap p (.tup vs) from I1.hok p _ hp)
 refine ⟨"tuple",id,pa,slot,hty,⟨ob,e1,e2⟩,fun a e=>by cases e;exact ⟨ob,e1,e4⟩,?_⟩
 have hA:=ha cpos pins s1 σ H1 _ I1 q1
 rw [hs] at hA ⊢
 refine Calls.callWith_builtin (by show (false||(backTo cpos (starEach es X.env)).any (·.1))=false;rw [hplain] <;> rfl) (Calls.evalArgs_plain ?_)
 exact thn hA fun us s2 ⟨ws,H2,I2,r2,q2⟩=>hm pins s2 σ H2 (.ref p) ws (.ref p) us Q I2 rfl r2 q2
theorem ZnL {o e:Expr} {ap cp:Pos} {r1 r2:Bool} {fo fe:Rho->M D} (ho:PD X G r1 o fo) (he:PD X G r2 e fe)
  (hbase:attributeBase o "index" X.env (eval o X.env)=eval o X.env:=by rfl)
  (hfew:((backTo cp (starEach [e] X.env)).all (fun x=>!x.1)&&(backToKw cp (keywordEach [] X.env)).all (fun x=>x.1.isSome)
   && decide ([e].length+([]:List Keyword).length+(if ([]:List Keyword).isEmpty then 0 else 1)<30))=true:=by rfl)
  (hline:(ap.endLine==cp.line)=true:=by rfl) (hs:starEach [e] X.env=(false,eval e X.env)::starEach [] X.env:=by rfl) :
  PD X G true (.Call (.Attribute o "index" ap) [e] [] cp) (dOp ZiF fo fe):=by
 obtain ⟨to,po,qo⟩:=ho.drop
 obtain ⟨te,pe,qe⟩:=he.drop
 refine ⟨_,ZrV PySem.F.plainAttrs_tuple PySem.F.slot_tuple_index PySem.F.type_tuple_index ZnW po (Zbb pe ZbO hs) hbase hfew hline hs rfl,fun σ Hf H ρ s d s' Q e1 e2 e3 e4 k=>?_⟩
 obtain ⟨da,s1,a1,a2⟩:=Zai e4
 obtain ⟨db,s2,a3,a4⟩:=Zai a2
 obtain ⟨a5,rfl⟩:=Zbt a4
 refine qo σ Hf H ρ s da s1 _ e1 e2 e3 a1 fun x Hf1 H1 g1 st1 r1=>?_
 match da,db,a5,r1,a3 with
 | .tup ds,.int kk,a5,r1,a3=>
  have a5:((Zau ds).bind fun ns=>if kk∈ns then some (D.int (ns.idxOf kk:Nat)) else none)=some d:=a5
  cases he:Zau ds with
  | none=>rw [he] at a5;cases a5
  | some ns=>
   rw [he] at a5
   have a5:(if kk∈ns then some (D.int (ns.idxOf kk:Nat)) else none)=some d:=a5
   split at a5
   ·rename_i hmem
    cases a5
    obtain ⟨p,vs,rfl,np,hp,rp⟩:=Rep.tup_iff.mp r1
    refine ⟨⟨p,vs,rfl,g1.fh _ _ np hp⟩,?_⟩
    refine qe σ Hf1 H1 ρ s1 _ _ _ g1.fh (e2.ext g1.ff) st1 a3 fun y Hf2 H2 g2 st2 r2=>?_
    rw [Zbv he] at rp
    rw [RepL.ints rp] at hp
    cases (Rep.int_iff.mp r2)
    exact ⟨p,ns,kk,rfl,rfl,SqT.of (g2.fh _ _ np (g2.ff _ _ np hp)),hmem,k _ Hf2 H2 (g1.trans g2) st2 (Rep.int_iff.mpr rfl) fun _=>.scal fun z=>z⟩
   ·cases a5
end
section
variable {X:Cx} {G:Gh}
end
end TF
namespace K35
open PySem.Spec PyProof.Rows
open PySem L2 TF TQ
open TP
open TP2
open TP3
def top (i:Nat):Stmt:=PySem.Challenge.pw_tiefold_k35_whole_either_a_knot_or_a_pap.main.body.getD i (.Pass ⟨0,0,0,0⟩)
abbrev Zfo:Stmt:=top 1
abbrev Zd5:Stmt:=top 2
abbrev Zfn:Stmt:=top 3
abbrev Zfp:Stmt:=top 5
abbrev ZhC:Stmt:=top 6
abbrev Zea:Stmt:=top 7
abbrev Zfs:Stmt:=top 8
abbrev Zdf:Stmt:=top 9
abbrev Zes:Stmt:=top 10
abbrev Zj1:Stmt:=top 11
abbrev Zca:Stmt:=top 12
abbrev ZdU:Stmt:=top 13
abbrev Zj3:Stmt:=top 15
abbrev ZcF:Stmt:=top 16
abbrev ZbG:Stmt:=top 17
abbrev Zdg:Stmt:=top 18
abbrev ZcE:Stmt:=top 19
abbrev ZeJ:Stmt:=top 20
abbrev Zc8:Stmt:=top 22
abbrev ZcK:Stmt:=top 23
abbrev Zdw:Stmt:=top 24
abbrev Zfq:Stmt:=top 26
abbrev ZfW:Stmt:=top 27
abbrev Zdv:Stmt:=top 28
abbrev Zj2:Stmt:=top 29
abbrev Zfr:Stmt:=top 30
abbrev ZcJ:Stmt:=top 31
abbrev Zc3:Stmt:=top 32
abbrev Zcp:Stmt:=top 33
abbrev ZcD:Stmt:=top 34
abbrev Zin:Stmt:=top 35
abbrev Zdx:Stmt:=top 36
abbrev Zcw:Stmt:=top 37
abbrev ZeT:Stmt:=top 39
abbrev ZeS:Stmt:=top 40
abbrev Zeb:Stmt:=top 41
abbrev Zc4:Stmt:=top 46
abbrev s_law:Stmt:=top 47
structure Txt (mg:Str->Option Value):Prop where
 b_all:mg "all" = none
 b_bool:mg "bool" = none
 b_dict:mg "dict" = none
 b_int:mg "int" = none
 b_isinstance:mg "isinstance" = none
 b_len:mg "len" = none
 b_list:mg "list" = none
 b_max:mg "max" = none
 b_min:mg "min" = none
 b_range:mg "range" = none
 b_sorted:mg "sorted" = none
 b_sum:mg "sum" = none
 b_tuple:mg "tuple" = none
set_option maxHeartbeats 4000000
variable {P:Program} {w:World} {K:PySem.W.Frag} {mg:Str->Option Value} {base:Heap} {a_f:Addr} {fd_f:FuncData}
theorem Ze3:FnScope ["web"] ["web"] (Zal Zdf):=⟨rfl,rfl,rfl,by decide +kernel,rfl,by decide +kernel,by decide +kernel⟩
theorem Zis (F:Fun K "marked_ties" "marked_ties" Zdf a_f fd_f) (T:Txt mg) :
  FnOk P w K mg base CX0 1 a_f fd_f ["web"] (spD 1 true AnyG Zbg):=
 have c_nd:=Ze3.nd
 fnD (own:=[]) F Ze3 fun cdv A outer s H E hr G hG=>
 (Zaf (own2:=[]) (Zay (ZcP (Zne rfl hr.units) rfl T.b_dict TF.boot_dict (Zab (Zbs rfl (⟨rfl,rfl,by decide +kernel,rfl,by decide +kernel,rfl,by decide +kernel,by decide +kernel⟩:BlkS _ ["web"] (Zal Zdf).names ["tie"] [none] _) (Ziq (ZaA ixd (Zaa 0 (pv 0)) Zar)) (fun _ _ _ _ _ _=>(ZaF (show (["tie"]:List Str).Nodup by decide +kernel) rfl (Or.inl rfl) rfl)) (fun _ _ _ _ _ _=>ZcW) (fun _ _ _ _ _ _=>(Zbw (Zab (Zaa 0 (pv 0)) (Zab Zdj Zag))))) Zag)))
 (Zaj (own:=[])))
theorem ZgN:FnScope ["row","pairs","i","j"] ["row"] (Zal Zfn):=⟨rfl,rfl,rfl,by decide +kernel,rfl,by decide +kernel,by decide +kernel⟩
theorem Zlg (F:Fun K "pairs_of" "pairs_of" Zfn a_f fd_f) (T:Txt mg) :
  FnOk P w K mg base CX0 1 a_f fd_f ["row"] (spD 1 true AnyG Zc0):=
 have c_nd:=ZgN.nd
 fnD (own:=[]) F ZgN fun cdv A outer s H E hr G hG=>
 (Zaf (own2:=[1]) (Zfw (ZaL c_nd rfl (Or.inl rfl) (Zfc Zag)))
 (Zaf (own2:=[1]) (Zcm (own:=[1]) PassesOwn.never rfl (Zch rfl T.b_range (ZaQ (Zbr) rfl T.b_len TF.boot_len (Zab (Zaa 0 (pv 0)) Zag))) (ZaF c_nd rfl (Or.inl rfl) (by decide))
 (Zaf (own2:=[1]) (Zcm (own:=[1]) PassesOwn.never rfl (ZgY rfl T.b_range (Za2 ZbI (Zaa 2 (pv 2)) Zar) (ZaQ (Zbr) rfl T.b_len TF.boot_len (Zab (Zaa 0 (pv 0)) Zag))) (ZaF c_nd rfl (Or.inl rfl) (by decide))
 (Zaf (own2:=[1]) (Zke (own:=[1]) (i:=1) (by decide) (Zbw (Zab (ZaA ixd (Zaa 0 (pv 0)) (Zaa 2 (pv 2))) (Zab (ZaA ixd (Zaa 0 (pv 0)) (Zaa 3 (pv 3))) Zag))) (fun _ h=>ZiW (pv 1) h))
 (Zaj (own:=[1]))))
 (Zaj (own:=[1]))))
 (Zaf (own2:=[1]) (Zmz (i:=1) (by decide) (pv 1))
 (Zaj (own:=[1])))))
theorem ZfS:FnScope ["row","tied","pairs"] ["row","tied"] (Zal ZdU):=⟨rfl,rfl,rfl,by decide +kernel,rfl,by decide +kernel,by decide +kernel⟩
theorem Zf1 (F:Fun K "web_where" "web_where" ZdU a_f fd_f) (T:Txt mg) (c_pairs_of:Cal P w K mg base 1 "pairs_of" 1 true AnyG Zc0) :
  FnOk P w K mg base CX0 5 a_f fd_f ["row","tied"] (spD 2 false (CloG P w K mg 4 2 Tl base) ZbZ):=
 have c_nd:=ZfS.nd
 fnD (own:=[]) F ZfS fun cdv A outer s H E hr G hG=>
 (Zaf (own2:=[]) (ZaK (ZaL c_nd rfl (Or.inl rfl) (Zas (c_pairs_of.mono) trivial hr rfl (Zab (Zex rfl rfl T.b_range rfl T.b_list TF.boot_list (ZaQ (Zbr) rfl T.b_len TF.boot_len (Zab (Zaa 0 (pv 0)) Zag))) Zag) (Zae Zao))))
 (Zaf (own2:=[]) (Zay (PD.weak (Zbw (Zab (ZaQ (Zbr) rfl T.b_len TF.boot_len (Zab (Zaa 0 (pv 0)) Zag)) (Zab (ZcP (ZcS) rfl T.b_tuple TF.boot_tuple (Zab (Zbs rfl (⟨rfl,rfl,by decide +kernel,rfl,by decide +kernel,rfl,by decide +kernel,by decide +kernel⟩:BlkS _ ["row","tied","pairs"] (Zal ZdU).names ["pair","tied","row"] [none,some 1,some 0] _) (ZbH (Zaa 2 (pv 2))) (fun _ _ _ _ _ _=>(ZaF (show (["pair","tied","row"]:List Str).Nodup by decide +kernel) rfl (Or.inl rfl) rfl)) (fun _ _ _ _ _ _=>(Zec (Zb3 (Zpe hG (hr.mono (by decide)) (pv 1) (Zab (ZaA ixd (Zaa 2 (pv 2)) (ZaA ixd (Zaa 0 (pv 0)) Zar)) (Zab (ZaA ixd (Zaa 2 (pv 2)) (ZaA ixd (Zaa 0 (pv 0)) Zar)) Zag)) (Zae (Zae Zao)))))) (fun _ _ _ _ _ _=>(Zaa 0 (pv 0)))) Zag)) Zag)))))
 (Zaj (own:=[]))))
theorem ZgS:FnScope ["ties","a","b"] ["ties","a","b"] (Zal Zfs):=⟨rfl,rfl,rfl,by decide +kernel,rfl,by decide +kernel,by decide +kernel⟩
theorem Zll (F:Fun K "are_tied" "are_tied" Zfs a_f fd_f) (T:Txt mg) :
  FnOk P w K mg base CX0 1 a_f fd_f ["ties","a","b"] (spD 3 false AnyG Za5):=
 have c_nd:=ZgS.nd
 fnD (own:=[]) F ZgS fun cdv A outer s H E hr G hG=>
 (Zaf (own2:=[]) (Zay (PD.weak (Zcc (Zki hr.units) (Zbw (Zab (ZaQ (Zna rfl) rfl T.b_min TF.boot_min (Zab (Zaa 1 (pv 1)) (Zab (Zaa 2 (pv 2)) Zag))) (Zab (ZaQ (Zia rfl) rfl T.b_max TF.boot_max (Zab (Zaa 1 (pv 1)) (Zab (Zaa 2 (pv 2)) Zag))) Zag))) (Zaa 0 (pv 0)))))
 (Zaj (own:=[])))
theorem ZiS:FnScope ["web","ties"] ["web"] (Zal Zes):=⟨rfl,rfl,rfl,by decide +kernel,rfl,by decide +kernel,by decide +kernel⟩
theorem ZnP (F:Fun K "turned" "turned" Zes a_f fd_f) (T:Txt mg) {L:List (Addr×Str)} (lo:LOk L) (c_marked_ties:Cal P w K mg base 1 "marked_ties" 1 true AnyG Zbg) (c_web_where:CalA P w K mg 5 "web_where" 2 false (CloG P w K mg 4 2 Tl) ZbZ) (ca_are_tied:∀base,Cal P w K mg base 1 "are_tied" 3 false AnyG Za5) {tc tP:Addr} (hcode:fd_f.code=.ref tc) (hCd:PySem.W.CodeHd base tc tP) (hBm:BMn mg base) (hL:(tP,(Str.ofString "turned.<locals>.<lambda>"))∈L) :
  FnOk P w K mg base CX0 6 a_f fd_f ["web"] (spD 1 false (Zaz L) Zdr):=
 have c_nd:=ZiS.nd
 fnDC (own:=[]) F ZiS fun A outer s H E hr G hG=>
 have hT:Zaz L G:=hG
 have TG9:=hT _ _ hL
 have M9:Mk0 (cxOf CX0 P w K mg base ["web","ties"] "turned" (Zal Zes) a_f fd_f.code A outer s H E).nox tc tP:=⟨hcode,hCd,hBm⟩
 (Zaf (own2:=[]) (ZaK (ZaL c_nd rfl (Or.inr rfl) (Zas (c_marked_ties.mono) trivial hr rfl (Zab (Zaa 0 (pv 0)) Zag) (Zae Zao))))
 (Zaf (own2:=[]) (Zay (ZhL (kl:=3) (frb:=true) (N:=["a","b","ties"]) (ps:=["a","b"]) (cix:=[1]) (T:=Tl) (t:=0) (q:="turned.<locals>.<lambda>") M9 TG9 (c_web_where.mono) (fun _=>rfl) hr rfl (Zex rfl rfl T.b_range rfl T.b_list TF.boot_list (ZaA ixd (Zaa 0 (pv 0)) Zar)) rfl (⟨rfl,rfl,rfl,by decide +kernel,rfl,by decide +kernel,by decide +kernel⟩:CloScope ["a","b","ties"] ["a","b"] _) (⟨rfl,rfl,rfl,by decide +kernel,by decide +kernel⟩:CapS _ ["web","ties"] (Zal Zes).names ["a","b","ties"] ["a","b"] [1] _) rfl (fun _ _ _ _ us hl=>match us,hl with | [_,_],_=>rfl) (fun base f c cl G A outer s H E hr=>(ZnK (Zas ((ca_are_tied base).mono) trivial hr rfl (Zab (Zaa 2 (pv 2)) (Zab (Zaa 0 (pv 0)) (Zab (Zaa 1 (pv 1)) Zag))) (Zae (Zae (Zae Zao))))))))
 (Zaj (own:=[]))))
theorem ZlO:FnScope ["web","place"] ["web","place"] (Zal ZhC):=⟨rfl,rfl,rfl,by decide +kernel,rfl,by decide +kernel,by decide +kernel⟩
theorem ZqV (F:Fun K "near" "near" ZhC a_f fd_f) (T:Txt mg) (c_are_tied:Cal P w K mg base 1 "are_tied" 3 false AnyG Za5) :
  FnOk P w K mg base CX0 2 a_f fd_f ["web","place"] (spD 2 true AnyG Zcn):=
 have c_nd:=ZlO.nd
 fnD (own:=[]) F ZlO fun cdv A outer s H E hr G hG=>
 (Zaf (own2:=[]) (Zay (Zbs rfl (⟨rfl,rfl,by decide +kernel,rfl,by decide +kernel,rfl,by decide +kernel,by decide +kernel⟩:BlkS _ ["web","place"] (Zal ZhC).names ["other","web","place"] [none,some 0,some 1] _) (Zcb rfl T.b_range (ZaA ixd (Zaa 0 (pv 0)) Zar)) (fun _ _ _ _ _ _=>(ZaF (show (["other","web","place"]:List Str).Nodup by decide +kernel) rfl (Or.inl rfl) rfl)) (fun _ _ _ _ _ _=>(Zec (Zb3 (Zas (c_are_tied.mono) trivial hr rfl (Zab (ZaA ixd (Zaa 1 (pv 1)) Zar) (Zab (Zaa 2 (pv 2)) (Zab (Zaa 0 (pv 0)) Zag))) (Zae (Zae (Zae Zao))))))) (fun _ _ _ _ _ _=>(Zaa 0 (pv 0)))))
 (Zaj (own:=[])))
theorem ZgT:FnScope ["web","marked"] ["web"] (Zal Zea):=⟨rfl,rfl,rfl,by decide +kernel,rfl,by decide +kernel,by decide +kernel⟩
theorem Zlm (F:Fun K "all_near" "all_near" Zea a_f fd_f) (T:Txt mg) (c_marked_ties:Cal P w K mg base 1 "marked_ties" 1 true AnyG Zbg) (c_near:Cal P w K mg base 2 "near" 2 true AnyG Zcn) :
  FnOk P w K mg base CX0 3 a_f fd_f ["web"] (spD 1 true AnyG ZbX):=
 have c_nd:=ZgT.nd
 fnD (own:=[]) F ZgT fun cdv A outer s H E hr G hG=>
 (Zaf (own2:=[]) (ZaK (ZaL c_nd rfl (Or.inr rfl) (Zbw (Zab (ZaA ixd (Zaa 0 (pv 0)) Zar) (Zab (Zas (c_marked_ties.mono) trivial hr rfl (Zab (Zaa 0 (pv 0)) Zag) (Zae Zao)) Zag)))))
 (Zaf (own2:=[]) (Zay (Zbs rfl (⟨rfl,rfl,by decide +kernel,rfl,by decide +kernel,rfl,by decide +kernel,by decide +kernel⟩:BlkS _ ["web","marked"] (Zal Zea).names ["place","marked"] [none,some 1] _) (Zcb rfl T.b_range (ZaA ixd (Zaa 0 (pv 0)) Zar)) (fun _ _ _ _ _ _=>(ZaF (show (["place","marked"]:List Str).Nodup by decide +kernel) rfl (Or.inl rfl) rfl)) (fun _ _ _ _ _ _=>ZcW) (fun _ _ _ _ _ _=>(Zas (c_near.mono) trivial hr rfl (Zab (Zaa 1 (pv 1)) (Zab (Zaa 0 (pv 0)) Zag)) (Zae (Zae Zao))))))
 (Zaj (own:=[]))))
theorem Zep:FnScope ["aparts","weights","place","places","others"] ["aparts","weights","place","places"] (Zal ZcE):=⟨rfl,rfl,rfl,by decide +kernel,rfl,by decide +kernel,by decide +kernel⟩
theorem Zhd (F:Fun K "heaviest_with" "heaviest_with" ZcE a_f fd_f) (T:Txt mg) {Fs:List D->M D} {lv:Nat} (hlv:0<=lv) (c_heaviest_among:Cal P w K mg base lv "heaviest_among" 3 false AnyG Fs) :
  FnOk P w K mg base CX0 (lv+1) a_f fd_f ["aparts","weights","place","places"] (spD 4 false AnyG (Zcg Fs)):=
 have c_nd:=Zep.nd
 fnD (own:=[]) F Zep fun cdv A outer s H E hr G hG=>
 (Zaf (own2:=[]) (ZaK (Zcs c_nd rfl (Or.inl rfl) rfl (⟨rfl,rfl,by decide +kernel,rfl,by decide +kernel,rfl,by decide +kernel,by decide +kernel⟩:BlkS _ ["aparts","weights","place","places","others"] (Zal ZcE).names ["other","place","aparts"] [none,some 2,some 0] _) (ZbH (Zaa 3 (pv 3))) (fun _ _ _ _ _ _=>(ZaF (show (["other","place","aparts"]:List Str).Nodup by decide +kernel) rfl (Or.inl rfl) rfl)) (fun _ _ _ _ _ _=>(Zec (PDW.pt (Zfa (ZaX (Zez hr.units) (Zaa 0 (pv 0)) (Zaa 1 (pv 1))) (Zfv (ZaX (Zi1 hr.units) (Zaa 0 (pv 0)) (ZaA ixd (Zaa 2 (pv 2)) (Zaa 1 (pv 1))))))))) (fun _ _ _ _ _ _=>(Zaa 0 (pv 0)))))
 (Zaf (own2:=[]) (Zay (PD.weak (Za2 ZbI (Zfc (Zab (Zaa 2 (pv 2)) Zag)) (Zas (c_heaviest_among) trivial hr rfl (Zab (Zaa 0 (pv 0)) (Zab (Zaa 1 (pv 1)) (Zab (Zaa 4 (pv 4)) Zag))) (Zae (Zae (Zae Zao)))))))
 (Zaj (own:=[]))))
theorem Ze6:FnScope ["aparts","place","places"] ["aparts","place","places"] (Zal Zdg):=⟨rfl,rfl,rfl,by decide +kernel,rfl,by decide +kernel,by decide +kernel⟩
theorem Ziv (F:Fun K "apart_among" "apart_among" Zdg a_f fd_f) (T:Txt mg) :
  FnOk P w K mg base CX0 1 a_f fd_f ["aparts","place","places"] (spD 3 true AnyG Zdn):=
 have c_nd:=Ze6.nd
 fnD (own:=[]) F Ze6 fun cdv A outer s H E hr G hG=>
 (Zaf (own2:=[]) (Zay (Zbs rfl (⟨rfl,rfl,by decide +kernel,rfl,by decide +kernel,rfl,by decide +kernel,by decide +kernel⟩:BlkS _ ["aparts","place","places"] (Zal Zdg).names ["other","aparts","place"] [none,some 0,some 1] _) (ZbH (Zaa 2 (pv 2))) (fun _ _ _ _ _ _=>(ZaF (show (["other","aparts","place"]:List Str).Nodup by decide +kernel) rfl (Or.inl rfl) rfl)) (fun _ _ _ _ _ _=>(Zec (ZaX (Zki hr.units) (Zaa 0 (pv 0)) (ZaA ixd (Zaa 1 (pv 1)) (Zaa 2 (pv 2)))))) (fun _ _ _ _ _ _=>(Zaa 0 (pv 0)))))
 (Zaj (own:=[])))
theorem ZhA:FnScope ["weights","places"] ["weights","places"] (Zal ZeJ):=⟨rfl,rfl,rfl,by decide +kernel,rfl,by decide +kernel,by decide +kernel⟩
theorem ZmH (F:Fun K "weighed" "weighed" ZeJ a_f fd_f) (T:Txt mg) :
  FnOk P w K mg base CX0 1 a_f fd_f ["weights","places"] (spD 2 false AnyG Zdu):=
 have c_nd:=ZhA.nd
 fnD (own:=[]) F ZhA fun cdv A outer s H E hr G hG=>
 (Zaf (own2:=[]) (Zay (PD.weak (ZaQ (ZoF rfl) rfl T.b_sum TF.boot_sum (Zab (Zbs rfl (⟨rfl,rfl,by decide +kernel,rfl,by decide +kernel,rfl,by decide +kernel,by decide +kernel⟩:BlkS _ ["weights","places"] (Zal ZeJ).names ["place","weights"] [none,some 0] _) (ZbH (Zaa 1 (pv 1))) (fun _ _ _ _ _ _=>(ZaF (show (["place","weights"]:List Str).Nodup by decide +kernel) rfl (Or.inl rfl) rfl)) (fun _ _ _ _ _ _=>ZcW) (fun _ _ _ _ _ _=>(ZaA ixd (Zaa 1 (pv 1)) (Zaa 0 (pv 0))))) Zag))))
 (Zaj (own:=[])))
theorem Zd7:FnScope ["aparts","weights","places","rows","i","counts","branching","with_it","without_it"] ["aparts","weights","places"] (Zal ZbG):=⟨rfl,rfl,rfl,by decide +kernel,rfl,by decide +kernel,by decide +kernel⟩
theorem ZgH (F:Fun K "heaviest_among" "heaviest_among" ZbG a_f fd_f) (T:Txt mg) {Fs:List D->M D} {lv:Nat} (hlv:1<=lv) (c_apart_among:Cal P w K mg base 1 "apart_among" 3 true AnyG Zdn) (c_heaviest_among:Cal P w K mg base lv "heaviest_among" 3 false AnyG Fs) (c_heaviest_with:Cal P w K mg base (lv+1) "heaviest_with" 4 false AnyG (Zcg Fs)) (c_weighed:Cal P w K mg base 1 "weighed" 2 false AnyG Zdu) :
  FnOk P w K mg base CX0 (lv+2) a_f fd_f ["aparts","weights","places"] (spD 3 false AnyG (runB 9 3 (Zdq Fs))):=
 have c_nd:=Zd7.nd
 fnD (own:=[]) F Zd7 fun cdv A outer s H E hr G hG=>
 (Zaf (own2:=[]) (Zbo (own':=[]) (ZaX (Zcd hr.units) (Zaa 2 (pv 2)) (Zfc Zag))
 (Zaf (own2:=[]) (Zay (PD.weak (Zfc Zag)))
 (Zaj (own:=[])))
 Zaj)
 (Zaf (own2:=[]) (ZaK (Zcs c_nd rfl (Or.inl rfl) rfl (⟨rfl,rfl,by decide +kernel,rfl,by decide +kernel,rfl,by decide +kernel,by decide +kernel⟩:BlkS _ ["aparts","weights","places","rows","i","counts","branching","with_it","without_it"] (Zal ZbG).names ["place","aparts","places"] [none,some 0,some 2] _) (ZbH (Zaa 2 (pv 2))) (fun _ _ _ _ _ _=>(ZaF (show (["place","aparts","places"]:List Str).Nodup by decide +kernel) rfl (Or.inl rfl) rfl)) (fun _ _ _ _ _ _=>ZcW) (fun _ _ _ _ _ _=>(Zas (c_apart_among.mono (h:=Nat.le_trans (by decide) (Nat.le_succ_of_le hlv))) trivial hr rfl (Zab (Zaa 1 (pv 1)) (Zab (Zaa 0 (pv 0)) (Zab (Zaa 2 (pv 2)) Zag))) (Zae (Zae (Zae Zao)))))))
 (Zaf (own2:=[]) (Zcm (own:=[]) PassesOwn.never rfl (Zch rfl T.b_range (ZaQ (Zbr) rfl T.b_len TF.boot_len (Zab (Zaa 2 (pv 2)) Zag))) (ZaF c_nd rfl (Or.inl rfl) (by decide))
 (Zaf (own2:=[]) (Zbo (own':=[]) (ZaX (Zd2) (Zas (c_weighed.mono (h:=Nat.le_trans (by decide) (Nat.le_succ_of_le hlv))) trivial hr rfl (Zab (Zaa 1 (pv 1)) (Zab (ZaA ixd (Zaa 3 (pv 3)) (Zaa 4 (pv 4))) Zag)) (Zae (Zae Zao))) (ZaA ixd (Zaa 1 (pv 1)) (ZaA ixd (Zaa 2 (pv 2)) (Zaa 4 (pv 4)))))
 (Zaf (own2:=[]) (Zay (Zas (c_heaviest_with) trivial hr rfl (Zab (Zaa 0 (pv 0)) (Zab (Zaa 1 (pv 1)) (Zab (ZaA ixd (Zaa 2 (pv 2)) (Zaa 4 (pv 4))) (Zab (Zaa 2 (pv 2)) Zag)))) (Zae (Zae (Zae (Zae Zao))))))
 (Zaj (own:=[])))
 Zaj)
 (Zaj (own:=[]))))
 (Zaf (own2:=[]) (ZaK (Zcs c_nd rfl (Or.inl rfl) rfl (⟨rfl,rfl,by decide +kernel,rfl,by decide +kernel,rfl,by decide +kernel,by decide +kernel⟩:BlkS _ ["aparts","weights","places","rows","i","counts","branching","with_it","without_it"] (Zal ZbG).names ["row"] [none] _) (ZbH (Zaa 3 (pv 3))) (fun _ _ _ _ _ _=>(ZaF (show (["row"]:List Str).Nodup by decide +kernel) rfl (Or.inl rfl) rfl)) (fun _ _ _ _ _ _=>ZcW) (fun _ _ _ _ _ _=>(ZaQ (Zbr) rfl T.b_len TF.boot_len (Zab (Zaa 0 (pv 0)) Zag)))))
 (Zaf (own2:=[]) (ZaK (ZaL c_nd rfl (Or.inr rfl) (ZaA ixd (Zaa 2 (pv 2)) (Zpd (Zaa 5 (pv 5)) (ZaQ (Znd rfl) rfl T.b_max TF.boot_max (Zab (Zaa 5 (pv 5)) Zag))))))
 (Zaf (own2:=[]) (ZaK (ZaL c_nd rfl (Or.inl rfl) (Zas (c_heaviest_with) trivial hr rfl (Zab (Zaa 0 (pv 0)) (Zab (Zaa 1 (pv 1)) (Zab (Zaa 6 (pv 6)) (Zab (Zaa 2 (pv 2)) Zag)))) (Zae (Zae (Zae (Zae Zao)))))))
 (Zaf (own2:=[]) (ZaK (ZaL c_nd rfl (Or.inl rfl) (Zas (c_heaviest_among.mono (h:=Nat.le_succ _)) trivial hr rfl (Zab (Zaa 0 (pv 0)) (Zab (Zaa 1 (pv 1)) (Zab (Zbs rfl (⟨rfl,rfl,by decide +kernel,rfl,by decide +kernel,rfl,by decide +kernel,by decide +kernel⟩:BlkS _ ["aparts","weights","places","rows","i","counts","branching","with_it","without_it"] (Zal ZbG).names ["other","branching"] [none,some 6] _) (ZbH (Zaa 2 (pv 2))) (fun _ _ _ _ _ _=>(ZaF (show (["other","branching"]:List Str).Nodup by decide +kernel) rfl (Or.inl rfl) rfl)) (fun _ _ _ _ _ _=>(Zec (ZaX (Zez hr.units) (Zaa 0 (pv 0)) (Zaa 1 (pv 1))))) (fun _ _ _ _ _ _=>(Zaa 0 (pv 0)))) Zag))) (Zae (Zae (Zae Zao))))))
 (Zaf (own2:=[]) (Zay (Zs2 (ZaX (ZhO) (Zas (c_weighed.mono (h:=Nat.le_trans (by decide) (Nat.le_succ_of_le hlv))) trivial hr rfl (Zab (Zaa 1 (pv 1)) (Zab (Zaa 7 (pv 7)) Zag)) (Zae (Zae Zao))) (Zas (c_weighed.mono (h:=Nat.le_trans (by decide) (Nat.le_succ_of_le hlv))) trivial hr rfl (Zab (Zaa 1 (pv 1)) (Zab (Zaa 8 (pv 8)) Zag)) (Zae (Zae Zao)))) (Zaa 7 (pv 7)) (Zaa 8 (pv 8))))
 (Zaj (own:=[]))))))))))
theorem Zeq:FnScope ["web","weights","aparts"] ["web","weights"] (Zal ZcF):=⟨rfl,rfl,rfl,by decide +kernel,rfl,by decide +kernel,by decide +kernel⟩
theorem Zhe (F:Fun K "heaviest_knot" "heaviest_knot" ZcF a_f fd_f) (T:Txt mg) {L:List (Addr×Str)} (lo:LOk L) (c_all_near:Cal P w K mg base 3 "all_near" 1 true AnyG ZbX) (c_heaviest_among:Cal P w K mg base 53 "heaviest_among" 3 false AnyG (Za9 26)) (c_turned:Cal P w K mg base 6 "turned" 1 false (Zaz L) Zdr) :
  FnOk P w K mg base CX0 54 a_f fd_f ["web","weights"] (spD 2 true (Zaz L) ZbT):=
 have c_nd:=Zeq.nd
 fnD (own:=[]) F Zeq fun cdv A outer s H E hr G hG=>
 have hT:Zaz L G:=hG
 (Zaf (own2:=[]) (ZaK (Zcs c_nd rfl (Or.inl rfl) rfl (⟨rfl,rfl,by decide +kernel,rfl,by decide +kernel,rfl,by decide +kernel,by decide +kernel⟩:BlkS _ ["web","weights","aparts"] (Zal ZcF).names ["row"] [none] _) (ZbH (Zas (c_all_near.mono) trivial hr rfl (Zab (Zas (c_turned.mono) hT hr rfl (Zab (Zaa 0 (pv 0)) Zag) (Zae Zao)) Zag) (Zae Zao))) (fun _ _ _ _ _ _=>(ZaF (show (["row"]:List Str).Nodup by decide +kernel) rfl (Or.inl rfl) rfl)) (fun _ _ _ _ _ _=>ZcW) (fun _ _ _ _ _ _=>(ZcP (Znf rfl hr.units) rfl T.b_dict TF.boot_dict (Zab (Zbs rfl (⟨rfl,rfl,by decide +kernel,rfl,by decide +kernel,rfl,by decide +kernel,by decide +kernel⟩:BlkS _ ["row"] [((PySem.Str.ofString ".0"),PySem.NameKind.local),((PySem.Str.ofString "row"),PySem.NameKind.local),((PySem.Str.ofString "dict"),PySem.NameKind.globalImplicit)] ["other"] [none] _) (ZbH (Zaa 0 (pv 0))) (fun _ _ _ _ _ _=>(ZaF (show (["other"]:List Str).Nodup by decide +kernel) rfl (Or.inl rfl) rfl)) (fun _ _ _ _ _ _=>ZcW) (fun _ _ _ _ _ _=>(Zbw (Zab (Zaa 0 (pv 0)) (Zab Zdj Zag))))) Zag)))))
 (Zaf (own2:=[]) (Zay (ZcP (ZcS) rfl T.b_tuple TF.boot_tuple (Zab (ZaQ (ZkZ) rfl T.b_sorted TF.boot_sorted (Zab (Zas (c_heaviest_among.mono) trivial hr rfl (Zab (Zaa 2 (pv 2)) (Zab (Zaa 1 (pv 1)) (Zab (Zex rfl rfl T.b_range rfl T.b_list TF.boot_list (ZaA ixd (Zaa 0 (pv 0)) Zar)) Zag))) (Zae (Zae (Zae Zao)))) Zag)) Zag)))
 (Zaj (own:=[]))))
theorem ZlP:FnScope ["web","knot"] ["web"] (Zal Zj3):=⟨rfl,rfl,rfl,by decide +kernel,rfl,by decide +kernel,by decide +kernel⟩
theorem ZqW (F:Fun K "most" "most" Zj3 a_f fd_f) (T:Txt mg) {L:List (Addr×Str)} (lo:LOk L) (c_heaviest_knot:Cal P w K mg base 54 "heaviest_knot" 2 true (Zaz L) ZbT) :
  FnOk P w K mg base CX0 55 a_f fd_f ["web"] (spD 1 true (Zaz L) ZdK):=
 have c_nd:=ZlP.nd
 fnD (own:=[]) F ZlP fun cdv A outer s H E hr G hG=>
 have hT:Zaz L G:=hG
 (Zaf (own2:=[]) (ZaK (ZaL c_nd rfl (Or.inl rfl) (Zas (c_heaviest_knot.mono) hT hr rfl (Zab (Zaa 0 (pv 0)) (Zab (Za2 Zkh (Zbw (Zab Zar Zag)) (ZaA ixd (Zaa 0 (pv 0)) Zar)) Zag)) (Zae (Zae Zao)))))
 (Zaf (own2:=[]) (Zay (Zbw (Zab (ZaQ (Zbr) rfl T.b_len TF.boot_len (Zab (Zaa 1 (pv 1)) Zag)) (Zab (Zaa 1 (pv 1)) Zag))))
 (Zaj (own:=[]))))
theorem Zeo:FnScope ["web","places","ties"] ["web","places"] (Zal Zca):=⟨rfl,rfl,rfl,by decide +kernel,rfl,by decide +kernel,by decide +kernel⟩
theorem Zhc (F:Fun K "numbered_anew" "numbered_anew" Zca a_f fd_f) (T:Txt mg) {L:List (Addr×Str)} (lo:LOk L) (c_marked_ties:Cal P w K mg base 1 "marked_ties" 1 true AnyG Zbg) (c_web_where:CalA P w K mg 5 "web_where" 2 false (CloG P w K mg 4 2 Tl) ZbZ) (ca_are_tied:∀base,Cal P w K mg base 1 "are_tied" 3 false AnyG Za5) {tc tP:Addr} (hcode:fd_f.code=.ref tc) (hCd:PySem.W.CodeHd base tc tP) (hBm:BMn mg base) (hL:(tP,(Str.ofString "numbered_anew.<locals>.<lambda>"))∈L) :
  FnOk P w K mg base CX0 6 a_f fd_f ["web","places"] (spD 2 false (Zaz L) Zcf):=
 have c_nd:=Zeo.nd
 fnDC (own:=[]) F Zeo fun A outer s H E hr G hG=>
 have hT:Zaz L G:=hG
 have TG9:=hT _ _ hL
 have M9:Mk0 (cxOf CX0 P w K mg base ["web","places","ties"] "numbered_anew" (Zal Zca) a_f fd_f.code A outer s H E).nox tc tP:=⟨hcode,hCd,hBm⟩
 (Zaf (own2:=[]) (ZaK (ZaL c_nd rfl (Or.inr rfl) (Zas (c_marked_ties.mono) trivial hr rfl (Zab (Zaa 0 (pv 0)) Zag) (Zae Zao))))
 (Zaf (own2:=[]) (Zay (ZhL (kl:=3) (frb:=false) (N:=["a","b","ties"]) (ps:=["a","b"]) (cix:=[2]) (T:=Tl) (t:=1) (q:="numbered_anew.<locals>.<lambda>") M9 TG9 (c_web_where.mono) (fun _=>rfl) hr rfl (Zaa 1 (pv 1)) rfl (⟨rfl,rfl,rfl,by decide +kernel,rfl,by decide +kernel,by decide +kernel⟩:CloScope ["a","b","ties"] ["a","b"] _) (⟨rfl,rfl,rfl,by decide +kernel,by decide +kernel⟩:CapS _ ["web","places","ties"] (Zal Zca).names ["a","b","ties"] ["a","b"] [2] _) rfl (fun _ _ _ _ us hl=>match us,hl with | [_,_],_=>rfl) (fun base f c cl G A outer s H E hr=>(Zas ((ca_are_tied base).mono) trivial hr rfl (Zab (Zaa 2 (pv 2)) (Zab (Zaa 0 (pv 0)) (Zab (Zaa 1 (pv 1)) Zag))) (Zae (Zae (Zae Zao)))))))
 (Zaj (own:=[]))))
theorem ZlM:FnScope ["web","places"] ["web","places"] (Zal Zj1):=⟨rfl,rfl,rfl,by decide +kernel,rfl,by decide +kernel,by decide +kernel⟩
theorem ZqT (F:Fun K "part" "part" Zj1 a_f fd_f) (T:Txt mg) {L:List (Addr×Str)} (lo:LOk L) (c_numbered_anew:Cal P w K mg base 6 "numbered_anew" 2 false (Zaz L) Zcf) :
  FnOk P w K mg base CX0 7 a_f fd_f ["web","places"] (spD 2 false (Zaz L) Zdc):=
 have c_nd:=ZlM.nd
 fnD (own:=[]) F ZlM fun cdv A outer s H E hr G hG=>
 have hT:Zaz L G:=hG
 (Zaf (own2:=[]) (Zay (Zas (c_numbered_anew.mono) hT hr rfl (Zab (Zaa 0 (pv 0)) (Zab (Zaa 1 (pv 1)) Zag)) (Zae (Zae Zao))))
 (Zaj (own:=[])))
theorem Zem:FnScope ["weights","places"] ["weights","places"] (Zal ZcD):=⟨rfl,rfl,rfl,by decide +kernel,rfl,by decide +kernel,by decide +kernel⟩
theorem Zha (F:Fun K "weights_along" "weights_along" ZcD a_f fd_f) (T:Txt mg) :
  FnOk P w K mg base CX0 1 a_f fd_f ["weights","places"] (spD 2 true AnyG Zby):=
 have c_nd:=Zem.nd
 fnD (own:=[]) F Zem fun cdv A outer s H E hr G hG=>
 (Zaf (own2:=[]) (Zay (ZcP (ZcS) rfl T.b_tuple TF.boot_tuple (Zab (Zbs rfl (⟨rfl,rfl,by decide +kernel,rfl,by decide +kernel,rfl,by decide +kernel,by decide +kernel⟩:BlkS _ ["weights","places"] (Zal ZcD).names ["place","weights"] [none,some 0] _) (ZbH (Zaa 1 (pv 1))) (fun _ _ _ _ _ _=>(ZaF (show (["place","weights"]:List Str).Nodup by decide +kernel) rfl (Or.inl rfl) rfl)) (fun _ _ _ _ _ _=>ZcW) (fun _ _ _ _ _ _=>(ZaA ixd (Zaa 1 (pv 1)) (Zaa 0 (pv 0))))) Zag)))
 (Zaj (own:=[])))
theorem ZdL:FnScope ["plainest","web","weights","places","w","thing"] ["plainest","web","weights","places","w","thing"] (Zal ZcJ):=⟨rfl,rfl,rfl,by decide +kernel,rfl,by decide +kernel,by decide +kernel⟩
theorem ZfN (F:Fun K "is_bound_of_part" "is_bound_of_part" ZcJ a_f fd_f) (T:Txt mg) {L:List (Addr×Str)} (lo:LOk L) {Fs:List D->M D} {lv:Nat} (hlv:7<=lv) (c_is_bound:Cal P w K mg base lv "is_bound" 5 false (Zaz L) Fs) (c_part:Cal P w K mg base 7 "part" 2 false (Zaz L) Zdc) (c_weights_along:Cal P w K mg base 1 "weights_along" 2 true AnyG Zby) :
  FnOk P w K mg base CX0 (lv+1) a_f fd_f ["plainest","web","weights","places","w","thing"] (spD 6 false (Zaz L) (Zbf Fs)):=
 have c_nd:=ZdL.nd
 fnD (own:=[]) F ZdL fun cdv A outer s H E hr G hG=>
 have hT:Zaz L G:=hG
 (Zaf (own2:=[]) (Zay (Zas (c_is_bound) hT hr rfl (Zab (Zaa 0 (pv 0)) (Zab (Zas (c_part.mono (h:=Nat.le_trans (by decide) hlv)) hT hr rfl (Zab (Zaa 1 (pv 1)) (Zab (Zaa 3 (pv 3)) Zag)) (Zae (Zae Zao))) (Zab (Zas (c_weights_along.mono (h:=Nat.le_trans (by decide) hlv)) trivial hr rfl (Zab (Zaa 2 (pv 2)) (Zab (Zaa 3 (pv 3)) Zag)) (Zae (Zae Zao))) (Zab (Zaa 4 (pv 4)) (Zab (Zaa 5 (pv 5)) Zag))))) (Zae (Zae (Zae (Zae (Zae Zao)))))))
 (Zaj (own:=[])))
theorem Ze4:FnScope ["thing","length"] ["thing","length"] (Zal Zd5):=⟨rfl,rfl,rfl,by decide +kernel,rfl,by decide +kernel,by decide +kernel⟩
theorem Zit (F:Fun K "is_tuple_of" "is_tuple_of" Zd5 a_f fd_f) (T:Txt mg) :
  FnOk P w K mg base CX0 1 a_f fd_f ["thing","length"] (spD 2 false AnyG Zba):=
 have c_nd:=Ze4.nd
 fnD (own:=[]) F Ze4 fun cdv A outer s H E hr G hG=>
 (Zaf (own2:=[]) (Zay (Zey (ZaQ (Zgl) rfl T.b_isinstance TF.boot_isinstance (Zab (Zaa 0 (pv 0)) (Zab (ZmA rfl T.b_tuple TF.boot_tuple) Zag))) (Zfb (Zcc (Zcd hr.units) (ZaQ (Zbr) rfl T.b_len TF.boot_len (Zab (Zaa 0 (pv 0)) Zag)) (Zaa 1 (pv 1))))))
 (Zaj (own:=[])))
theorem ZgO:FnScope ["thing"] ["thing"] (Zal Zfo):=⟨rfl,rfl,rfl,by decide +kernel,rfl,by decide +kernel,by decide +kernel⟩
theorem Zlh (F:Fun K "is_whole" "is_whole" Zfo a_f fd_f) (T:Txt mg) :
  FnOk P w K mg base CX0 1 a_f fd_f ["thing"] (spD 1 false AnyG Zc1):=
 have c_nd:=ZgO.nd
 fnD (own:=[]) F ZgO fun cdv A outer s H E hr G hG=>
 (Zaf (own2:=[]) (Zay (Zey (ZaQ (Zgl) rfl T.b_isinstance TF.boot_isinstance (Zab (Zaa 0 (pv 0)) (Zab (ZmA rfl T.b_int TF.boot_int) Zag))) (Zfb (ZnK (ZaQ (Zgl) rfl T.b_isinstance TF.boot_isinstance (Zab (Zaa 0 (pv 0)) (Zab (ZmA rfl T.b_bool TF.boot_bool) Zag)))))))
 (Zaj (own:=[])))
theorem ZgP:FnScope ["n","thing"] ["n","thing"] (Zal Zfp):=⟨rfl,rfl,rfl,by decide +kernel,rfl,by decide +kernel,by decide +kernel⟩
theorem Zli (F:Fun K "is_place" "is_place" Zfp a_f fd_f) (T:Txt mg) (c_is_whole:Cal P w K mg base 1 "is_whole" 1 false AnyG Zc1) :
  FnOk P w K mg base CX0 2 a_f fd_f ["n","thing"] (spD 2 false AnyG ZbW):=
 have c_nd:=ZgP.nd
 fnD (own:=[]) F ZgP fun cdv A outer s H E hr G hG=>
 (Zaf (own2:=[]) (Zay (Zey (Zas (c_is_whole.mono) trivial hr rfl (Zab (Zaa 1 (pv 1)) Zag) (Zae Zao)) (Zey (Zcc (Zd2) Zar (Zaa 1 (pv 1))) (Zfb (Zcc (ZnM hr.units0) (Zaa 1 (pv 1)) (Zaa 0 (pv 0)))))))
 (Zaj (own:=[])))
theorem ZfT:FnScope ["web","thing"] ["web","thing"] (Zal Zc8):=⟨rfl,rfl,rfl,by decide +kernel,rfl,by decide +kernel,by decide +kernel⟩
theorem Zkm (F:Fun K "is_hueing" "is_hueing" Zc8 a_f fd_f) (T:Txt mg) (c_is_place:Cal P w K mg base 2 "is_place" 2 false AnyG ZbW) (c_is_tuple_of:Cal P w K mg base 1 "is_tuple_of" 2 false AnyG Zba) :
  FnOk P w K mg base CX0 3 a_f fd_f ["web","thing"] (spD 2 false AnyG Zdd):=
 have c_nd:=ZfT.nd
 fnD (own:=[]) F ZfT fun cdv A outer s H E hr G hG=>
 (Zaf (own2:=[]) (Zbo (own':=[]) (ZdO (Zb3 (Zas (c_is_tuple_of.mono) trivial hr rfl (Zab (Zaa 1 (pv 1)) (Zab (ZaA ixd (Zaa 0 (pv 0)) Zar) Zag)) (Zae (Zae Zao)))))
 (Zaf (own2:=[]) (Zay (PD.weak Zdj))
 (Zaj (own:=[])))
 Zaj)
 (Zaf (own2:=[]) (Zbo (own':=[]) (ZdO (Zb3 (ZaQ (Zjk rfl) rfl T.b_all TF.boot_all (Zab (Zbs rfl (⟨rfl,rfl,by decide +kernel,rfl,by decide +kernel,rfl,by decide +kernel,by decide +kernel⟩:BlkS _ ["web","thing"] (Zal Zc8).names ["hue","web"] [none,some 0] _) (Ziq (Zaa 1 (pv 1))) (fun _ _ _ _ _ _=>(ZaF (show (["hue","web"]:List Str).Nodup by decide +kernel) rfl (Or.inl rfl) rfl)) (fun _ _ _ _ _ _=>ZcW) (fun _ _ _ _ _ _=>(Zas (c_is_place.mono) trivial hr rfl (Zab (ZaA ixd (Zaa 1 (pv 1)) Zar) (Zab (Zaa 0 (pv 0)) Zag)) (Zae (Zae Zao))))) Zag))))
 (Zaf (own2:=[]) (Zay (PD.weak Zdj))
 (Zaj (own:=[])))
 Zaj)
 (Zaf (own2:=[]) (Zay (PD.weak (ZaQ (Zjk rfl) rfl T.b_all TF.boot_all (Zab (Zbs rfl (⟨rfl,rfl,by decide +kernel,rfl,by decide +kernel,rfl,by decide +kernel,by decide +kernel⟩:BlkS _ ["web","thing"] (Zal Zc8).names ["tie","thing"] [none,some 1] _) (Ziq (ZaA ixd (Zaa 0 (pv 0)) Zar)) (fun _ _ _ _ _ _=>(ZaF (show (["tie","thing"]:List Str).Nodup by decide +kernel) rfl (Or.inl rfl) rfl)) (fun _ _ _ _ _ _=>ZcW) (fun _ _ _ _ _ _=>(Zcc (Zez hr.units) (ZaA ixd (Zaa 1 (pv 1)) (ZaA ixd (Zaa 0 (pv 0)) Zar)) (ZaA ixd (Zaa 1 (pv 1)) (ZaA ixd (Zaa 0 (pv 0)) Zar))))) Zag))))
 (Zaj (own:=[])))))
theorem Zd0:FnScope ["weights","hueing","heaviest","place"] ["weights","hueing"] (Zal Zc3):=⟨rfl,rfl,rfl,by decide +kernel,rfl,by decide +kernel,by decide +kernel⟩
theorem Zf0 (F:Fun K "weighed_by_hues" "weighed_by_hues" Zc3 a_f fd_f) (T:Txt mg) :
  FnOk P w K mg base CX0 1 a_f fd_f ["weights","hueing"] (spD 2 false AnyG Zbj):=
 have c_nd:=Zd0.nd
 fnD (own:=[]) F Zd0 fun cdv A outer s H E hr G hG=>
 (Zaf (own2:=[2]) (Zfw (ZaL c_nd rfl (Or.inl rfl) Zkf))
 (Zaf (own2:=[2]) (Zcm (own:=[2]) PassesOwn.never rfl (Zch rfl T.b_range (ZaQ (Zbr) rfl T.b_len TF.boot_len (Zab (Zaa 1 (pv 1)) Zag))) (ZaF c_nd rfl (Or.inl rfl) (by decide))
 (Zaf (own2:=[2]) (Zi0 (own:=[2]) (i:=2) (L2.hu_of hr) (by decide) (pv 2) (ZaA ixd (Zaa 1 (pv 1)) (Zaa 3 (pv 3))) (ZaQ (Zia rfl) rfl T.b_max TF.boot_max (Zab (ZaA ixd (Zaa 0 (pv 0)) (Zaa 3 (pv 3))) (Zab (ZqK (L2.hu_of hr) (Zaa 2 (pv 2)) (ZaA ixd (Zaa 1 (pv 1)) (Zaa 3 (pv 3))) Zar) Zag))))
 (Zaj (own:=[2]))))
 (Zaf (own2:=[2]) (Zay (PD.weak (ZmB rfl rfl T.b_sum TF.boot_sum (Zaa 2 (pv 2)))))
 (Zaj (own:=[2])))))
theorem Zd6:FnScope ["web","v"] ["web","v"] (Zal Zcp):=⟨rfl,rfl,rfl,by decide +kernel,rfl,by decide +kernel,by decide +kernel⟩
theorem ZgG (F:Fun K "places_without" "places_without" Zcp a_f fd_f) (T:Txt mg) :
  FnOk P w K mg base CX0 1 a_f fd_f ["web","v"] (spD 2 true AnyG Zbu):=
 have c_nd:=Zd6.nd
 fnD (own:=[]) F Zd6 fun cdv A outer s H E hr G hG=>
 (Zaf (own2:=[]) (Zay (Zbs rfl (⟨rfl,rfl,by decide +kernel,rfl,by decide +kernel,rfl,by decide +kernel,by decide +kernel⟩:BlkS _ ["web","v"] (Zal Zcp).names ["place","v"] [none,some 1] _) (Zcb rfl T.b_range (ZaA ixd (Zaa 0 (pv 0)) Zar)) (fun _ _ _ _ _ _=>(ZaF (show (["place","v"]:List Str).Nodup by decide +kernel) rfl (Or.inl rfl) rfl)) (fun _ _ _ _ _ _=>(Zec (ZaX (Zez hr.units) (Zaa 0 (pv 0)) (Zaa 1 (pv 1))))) (fun _ _ _ _ _ _=>(Zaa 0 (pv 0)))))
 (Zaj (own:=[])))
theorem ZgR:FnScope ["plainest","web","weights","w","thing","v"] ["plainest","web","weights","w","thing"] (Zal Zfr):=⟨rfl,rfl,rfl,by decide +kernel,rfl,by decide +kernel,by decide +kernel⟩
theorem Zlk (F:Fun K "is_bound" "is_bound" Zfr a_f fd_f) (T:Txt mg) {L:List (Addr×Str)} (lo:LOk L) {Fs:List D->M D} {lv:Nat} (hlv:7<=lv) (c_is_bound_of_part:Cal P w K mg base (lv+1) "is_bound_of_part" 6 false (Zaz L) (Zbf Fs)) (c_is_hueing:Cal P w K mg base 3 "is_hueing" 2 false AnyG Zdd) (c_is_place:Cal P w K mg base 2 "is_place" 2 false AnyG ZbW) (c_is_tuple_of:Cal P w K mg base 1 "is_tuple_of" 2 false AnyG Zba) (c_near:Cal P w K mg base 2 "near" 2 true AnyG Zcn) (c_places_without:Cal P w K mg base 1 "places_without" 2 true AnyG Zbu) (c_weighed_by_hues:Cal P w K mg base 1 "weighed_by_hues" 2 false AnyG Zbj) :
  FnOk P w K mg base CX0 (lv+2) a_f fd_f ["plainest","web","weights","w","thing"] (spD 5 false (Zaz L) (runB 6 5 (ZdF Fs))):=
 have c_nd:=ZgR.nd
 fnD (own:=[]) F ZgR fun cdv A outer s H E hr G hG=>
 have hT:Zaz L G:=hG
 (Zaf (own2:=[]) (Zbo (own':=[]) (Zb3 (Zas (c_is_tuple_of.mono (h:=Nat.le_trans (by decide) (Nat.le_succ_of_le hlv))) trivial hr rfl (Zab (Zaa 4 (pv 4)) (Zab Zar Zag)) (Zae (Zae Zao))))
 (Zaf (own2:=[]) (Zay (Zey (Zcc (Zcd hr.units) (ZaA ixd (Zaa 4 (pv 4)) Zar) (Zaa 0 (pv 0))) (Zfb (Zcc (Zd2) (ZaQ (Zjj rfl) rfl T.b_sum TF.boot_sum (Zab (Zaa 2 (pv 2)) Zag)) (Zaa 3 (pv 3))))))
 (Zaj (own:=[])))
 Zaj)
 (Zaf (own2:=[]) (Zbo (own':=[]) (Zb3 (Zas (c_is_tuple_of.mono (h:=Nat.le_trans (by decide) (Nat.le_succ_of_le hlv))) trivial hr rfl (Zab (Zaa 4 (pv 4)) (Zab Zar Zag)) (Zae (Zae Zao))))
 (Zaf (own2:=[]) (Zay (Zey (Zcc (Zcd hr.units) (ZaA ixd (Zaa 4 (pv 4)) Zar) ZcO) (Zey (Zas (c_is_hueing.mono (h:=Nat.le_trans (by decide) (Nat.le_succ_of_le hlv))) trivial hr rfl (Zab (Zaa 1 (pv 1)) (Zab (ZaA ixd (Zaa 4 (pv 4)) Zar) Zag)) (Zae (Zae Zao))) (Zfb (Zcc (Zd2) (Zas (c_weighed_by_hues.mono (h:=Nat.le_trans (by decide) (Nat.le_succ_of_le hlv))) trivial hr rfl (Zab (Zaa 2 (pv 2)) (Zab (ZaA ixd (Zaa 4 (pv 4)) Zar) Zag)) (Zae (Zae Zao))) (Zaa 3 (pv 3)))))))
 (Zaj (own:=[])))
 Zaj)
 (Zaf (own2:=[]) (Zbo (own':=[]) (PDW.pt (ZhK (ZdO (Zb3 (Zas (c_is_tuple_of.mono (h:=Nat.le_trans (by decide) (Nat.le_succ_of_le hlv))) trivial hr rfl (Zab (Zaa 4 (pv 4)) (Zab Zar Zag)) (Zae (Zae Zao))))) (Zgr (ZaX (Zez hr.units) (ZaA ixd (Zaa 4 (pv 4)) Zar) ZcO))))
 (Zaf (own2:=[]) (Zay (PD.weak Zdj))
 (Zaj (own:=[])))
 Zaj)
 (Zaf (own2:=[]) (ZaK (ZaL c_nd rfl (Or.inl rfl) (ZaA ixd (Zaa 4 (pv 4)) Zar)))
 (Zaf (own2:=[]) (Zbo (own':=[]) (PDW.pt (ZhK (ZdO (Zb3 (Zas (c_is_place.mono (h:=Nat.le_trans (by decide) (Nat.le_succ_of_le hlv))) trivial hr rfl (Zab (ZaA ixd (Zaa 1 (pv 1)) Zar) (Zab (Zaa 5 (pv 5)) Zag)) (Zae (Zae Zao))))) (Zgr (ZaX (ZrY) (ZaA ixd (Zaa 2 (pv 2)) (Zaa 5 (pv 5))) (Zaa 3 (pv 3))))))
 (Zaf (own2:=[]) (Zay (PD.weak Zdj))
 (Zaj (own:=[])))
 Zaj)
 (Zaf (own2:=[]) (Zbo (own':=[]) (ZdO (Zb3 (Zas (c_is_bound_of_part) hT hr rfl (Zab (Zaa 0 (pv 0)) (Zab (Zaa 1 (pv 1)) (Zab (Zaa 2 (pv 2)) (Zab (Zas (c_places_without.mono (h:=Nat.le_trans (by decide) (Nat.le_succ_of_le hlv))) trivial hr rfl (Zab (Zaa 1 (pv 1)) (Zab (Zaa 5 (pv 5)) Zag)) (Zae (Zae Zao))) (Zab (Zaa 3 (pv 3)) (Zab (ZaA ixd (Zaa 4 (pv 4)) Zar) Zag)))))) (Zae (Zae (Zae (Zae (Zae (Zae Zao)))))))))
 (Zaf (own2:=[]) (Zay (PD.weak Zdj))
 (Zaj (own:=[])))
 Zaj)
 (Zaf (own2:=[]) (Zay (Zas (c_is_bound_of_part) hT hr rfl (Zab (Zaa 0 (pv 0)) (Zab (Zaa 1 (pv 1)) (Zab (Zaa 2 (pv 2)) (Zab (Zas (c_near.mono (h:=Nat.le_trans (by decide) (Nat.le_succ_of_le hlv))) trivial hr rfl (Zab (Zaa 1 (pv 1)) (Zab (Zaa 5 (pv 5)) Zag)) (Zae (Zae Zao))) (Zab (Za2 ZdP (Zaa 3 (pv 3)) (ZaA ixd (Zaa 2 (pv 2)) (Zaa 5 (pv 5)))) (Zab (ZaA ixd (Zaa 4 (pv 4)) Zar) Zag)))))) (Zae (Zae (Zae (Zae (Zae (Zae Zao))))))))
 (Zaj (own:=[])))))))))
theorem ZlN:FnScope ["web"] ["web"] (Zal Zj2):=⟨rfl,rfl,rfl,by decide +kernel,rfl,by decide +kernel,by decide +kernel⟩
theorem ZqU (F:Fun K "ones" "ones" Zj2 a_f fd_f) (T:Txt mg) :
  FnOk P w K mg base CX0 1 a_f fd_f ["web"] (spD 1 false AnyG ZeE):=
 have c_nd:=ZlN.nd
 fnD (own:=[]) F ZlN fun cdv A outer s H E hr G hG=>
 (Zaf (own2:=[]) (Zay (PD.weak (Za2 Zkh (Zbw (Zab Zar Zag)) (ZaA ixd (Zaa 0 (pv 0)) Zar))))
 (Zaj (own:=[])))
theorem ZgQ:FnScope ["web","k","thing"] ["web","k","thing"] (Zal Zfq):=⟨rfl,rfl,rfl,by decide +kernel,rfl,by decide +kernel,by decide +kernel⟩
theorem Zlj (F:Fun K "is_paper" "is_paper" Zfq a_f fd_f) (T:Txt mg) {L:List (Addr×Str)} (lo:LOk L) (c_is_bound:Cal P w K mg base 59 "is_bound" 5 false (Zaz L) (Zbi 26)) (c_ones:Cal P w K mg base 1 "ones" 1 false AnyG ZeE) :
  FnOk P w K mg base CX0 60 a_f fd_f ["web","k","thing"] (spD 3 false (Zaz L) Zcu):=
 have c_nd:=ZgQ.nd
 fnD (own:=[]) F ZgQ fun cdv A outer s H E hr G hG=>
 have hT:Zaz L G:=hG
 (Zaf (own2:=[]) (Zay (Zas (c_is_bound.mono) hT hr rfl (Zab ZcO (Zab (Zaa 0 (pv 0)) (Zab (Zas (c_ones.mono) trivial hr rfl (Zab (Zaa 0 (pv 0)) Zag) (Zae Zao)) (Zab (Za2 ZdP (Zaa 1 (pv 1)) Zar) (Zab (Zaa 2 (pv 2)) Zag))))) (Zae (Zae (Zae (Zae (Zae Zao)))))))
 (Zaj (own:=[])))
theorem ZfL:FnScope ["taken"] ["taken"] (Zal Zdw):=⟨rfl,rfl,rfl,by decide +kernel,rfl,by decide +kernel,by decide +kernel⟩
theorem Zjv (F:Fun K "least_free" "least_free" Zdw a_f fd_f) (T:Txt mg) :
  FnOk P w K mg base CX0 1 a_f fd_f ["taken"] (spD 1 true AnyG Zb6):=
 have c_nd:=ZfL.nd
 fnD (own:=[]) F ZfL fun cdv A outer s H E hr G hG=>
 (Zaf (own2:=[]) (Zay (ZaQ (Zm9 rfl) rfl T.b_min TF.boot_min (Zab (Zbs rfl (⟨rfl,rfl,by decide +kernel,rfl,by decide +kernel,rfl,by decide +kernel,by decide +kernel⟩:BlkS _ ["taken"] (Zal Zdw).names ["hue","taken"] [none,some 0] _) (Zcb rfl T.b_range (Za2 ZbI (ZaQ (Zbr) rfl T.b_len TF.boot_len (Zab (Zaa 0 (pv 0)) Zag)) Zar)) (fun _ _ _ _ _ _=>(ZaF (show (["hue","taken"]:List Str).Nodup by decide +kernel) rfl (Or.inl rfl) rfl)) (fun _ _ _ _ _ _=>(Zec (ZaX (Zi1 hr.units) (Zaa 0 (pv 0)) (Zaa 1 (pv 1))))) (fun _ _ _ _ _ _=>(Zaa 0 (pv 0)))) Zag)))
 (Zaj (own:=[])))
theorem ZfM:FnScope ["web","order","nears","hues","place"] ["web","order"] (Zal ZcK):=⟨rfl,rfl,rfl,by decide +kernel,rfl,by decide +kernel,by decide +kernel⟩
theorem Zjw (F:Fun K "hued_along" "hued_along" ZcK a_f fd_f) (T:Txt mg) (c_all_near:Cal P w K mg base 3 "all_near" 1 true AnyG ZbX) (c_least_free:Cal P w K mg base 1 "least_free" 1 true AnyG Zb6) :
  FnOk P w K mg base CX0 4 a_f fd_f ["web","order"] (spD 2 true AnyG ZcT):=
 have c_nd:=ZfM.nd
 fnD (own:=[]) F ZfM fun cdv A outer s H E hr G hG=>
 (Zaf (own2:=[]) (ZaK (ZaL c_nd rfl (Or.inl rfl) (Zas (c_all_near.mono) trivial hr rfl (Zab (Zaa 0 (pv 0)) Zag) (Zae Zao))))
 (Zaf (own2:=[3]) (Zfw (ZaL c_nd rfl (Or.inr rfl) Zkf))
 (Zaf (own2:=[3]) (Zcm (own:=[3]) PassesOwn.never rfl (PDI.a (own:=[3]) (ZbH (Zaa 1 (pv 1)))) (ZaF c_nd rfl (Or.inl rfl) (by decide))
 (Zaf (own2:=[3]) (Zi0 (own:=[3]) (i:=3) (L2.hu_of hr) (by decide) (pv 3) (Zaa 4 (pv 4)) (Zas (c_least_free.mono) trivial hr rfl (Zab (Zbs rfl (⟨rfl,rfl,by decide +kernel,rfl,by decide +kernel,rfl,by decide +kernel,by decide +kernel⟩:BlkS _ ["web","order","nears","hues","place"] (Zal ZcK).names ["other","hues"] [none,some 3] _) (ZbH (ZaA ixd (Zaa 2 (pv 2)) (Zaa 4 (pv 4)))) (fun _ _ _ _ _ _=>(ZaF (show (["other","hues"]:List Str).Nodup by decide +kernel) rfl (Or.inl rfl) rfl)) (fun _ _ _ _ _ _=>(Zec (ZaX (Zki hr.units) (Zaa 0 (pv 0)) (Zaa 1 (pv 1))))) (fun _ _ _ _ _ _=>(ZlU (L2.hu_of hr) (Zaa 1 (pv 1)) (Zaa 0 (pv 0))))) Zag) (Zae Zao)))
 (Zaj (own:=[3]))))
 (Zaf (own2:=[3]) (Zay (ZcP (ZcS) rfl T.b_tuple TF.boot_tuple (Zab (Zbs rfl (⟨rfl,rfl,by decide +kernel,rfl,by decide +kernel,rfl,by decide +kernel,by decide +kernel⟩:BlkS _ ["web","order","nears","hues","place"] (Zal ZcK).names ["place","hues"] [none,some 3] _) (Zcb rfl T.b_range (ZaA ixd (Zaa 0 (pv 0)) Zar)) (fun _ _ _ _ _ _=>(ZaF (show (["place","hues"]:List Str).Nodup by decide +kernel) rfl (Or.inl rfl) rfl)) (fun _ _ _ _ _ _=>ZcW) (fun _ _ _ _ _ _=>(ZlU (L2.hu_of hr) (Zaa 1 (pv 1)) (Zaa 0 (pv 0))))) Zag)))
 (Zaj (own:=[3]))))))
theorem Ze5:FnScope ["web","weights","nears"] ["web","weights"] (Zal Zcw):=⟨rfl,rfl,rfl,by decide +kernel,rfl,by decide +kernel,by decide +kernel⟩
theorem Ziu (F:Fun K "heavy_first" "heavy_first" Zcw a_f fd_f) (T:Txt mg) {L:List (Addr×Str)} (lo:LOk L) (c_all_near:Cal P w K mg base 3 "all_near" 1 true AnyG ZbX) (c_hued_along:Cal P w K mg base 4 "hued_along" 2 true AnyG ZcT) {tc tP:Addr} (hcode:fd_f.code=.ref tc) (hCd:PySem.W.CodeHd base tc tP) (hBm:BMn mg base) (hL:(tP,(Str.ofString "heavy_first.<locals>.<lambda>"))∈L) :
  FnOk P w K mg base CX0 7 a_f fd_f ["web","weights"] (spD 2 false (Zaz L) Zcy):=
 have c_nd:=Ze5.nd
 fnDC (own:=[]) F Ze5 fun A outer s H E hr G hG=>
 have hT:Zaz L G:=hG
 have TG9:=hT _ _ hL
 have M9:Mk0 (cxOf CX0 P w K mg base ["web","weights","nears"] "heavy_first" (Zal Zcw) a_f fd_f.code A outer s H E).nox tc tP:=⟨hcode,hCd,hBm⟩
 (Zaf (own2:=[]) (ZaK (ZaL c_nd rfl (Or.inr rfl) (Zas (c_all_near.mono) trivial hr rfl (Zab (Zaa 0 (pv 0)) Zag) (Zae Zao))))
 (Zaf (own2:=[]) (Zay (PD.weak (Zas (c_hued_along.mono) trivial hr rfl (Zab (Zaa 0 (pv 0)) (Zab (Zld (kl:=3) (frb:=true) (N:=["place","weights","nears"]) (ps:=["place"]) (cix:=[1,2]) (q:="heavy_first.<locals>.<lambda>") rfl rfl T.b_sorted TF.boot_sorted rfl T.b_range M9 TG9 (fun _=>rfl) (hr.mono (by decide)) (ZaA ixd (Zaa 0 (pv 0)) Zar) rfl (⟨rfl,rfl,rfl,by decide +kernel,rfl,by decide +kernel,by decide +kernel⟩:CloScope ["place","weights","nears"] ["place"] _) (⟨rfl,rfl,rfl,by decide +kernel,by decide +kernel⟩:CapS _ ["web","weights","nears"] (Zal Zcw).names ["place","weights","nears"] ["place"] [1,2] _) rfl (fun _ _ _ _ us hl=>match us,hl with | [_],_=>rfl) (fun base f c cl G A outer s H E hr=>(Zbw (Zab (ZlT (ZaA ixd (Zaa 1 (pv 1)) (Zaa 0 (pv 0)))) (Zab (ZlT (ZaQ (Zbr) rfl T.b_len TF.boot_len (Zab (ZaA ixd (Zaa 2 (pv 2)) (Zaa 0 (pv 0))) Zag))) Zag))))) Zag)) (Zae (Zae Zao)))))
 (Zaj (own:=[]))))
theorem Zer:FnScope ["plainest","web","weights","places","w"] ["plainest","web","weights","places","w"] (Zal Zdx):=⟨rfl,rfl,rfl,by decide +kernel,rfl,by decide +kernel,by decide +kernel⟩
theorem Zhf (F:Fun K "bound_of_part" "bound_of_part" Zdx a_f fd_f) (T:Txt mg) {L:List (Addr×Str)} (lo:LOk L) {Fs:List D->M D} {lv:Nat} (hlv:7<=lv) (c_bound:Cal P w K mg base lv "bound" 4 true (Zaz L) Fs) (c_part:Cal P w K mg base 7 "part" 2 false (Zaz L) Zdc) (c_weights_along:Cal P w K mg base 1 "weights_along" 2 true AnyG Zby) :
  FnOk P w K mg base CX0 (lv+1) a_f fd_f ["plainest","web","weights","places","w"] (spD 5 true (Zaz L) (Zbz Fs)):=
 have c_nd:=Zer.nd
 fnD (own:=[]) F Zer fun cdv A outer s H E hr G hG=>
 have hT:Zaz L G:=hG
 (Zaf (own2:=[]) (Zay (Zas (c_bound) hT hr rfl (Zab (Zaa 0 (pv 0)) (Zab (Zas (c_part.mono (h:=Nat.le_trans (by decide) hlv)) hT hr rfl (Zab (Zaa 1 (pv 1)) (Zab (Zaa 3 (pv 3)) Zag)) (Zae (Zae Zao))) (Zab (Zas (c_weights_along.mono (h:=Nat.le_trans (by decide) hlv)) trivial hr rfl (Zab (Zaa 2 (pv 2)) (Zab (Zaa 3 (pv 3)) Zag)) (Zae (Zae Zao))) (Zab (Zaa 4 (pv 4)) Zag)))) (Zae (Zae (Zae (Zae Zao))))))
 (Zaj (own:=[])))
theorem Zj0:FnScope ["plainest","web","weights","w","hueing","v"] ["plainest","web","weights","w"] (Zal Zin):=⟨rfl,rfl,rfl,by decide +kernel,rfl,by decide +kernel,by decide +kernel⟩
theorem Zpl (F:Fun K "bound" "bound" Zin a_f fd_f) (T:Txt mg) {L:List (Addr×Str)} (lo:LOk L) {Fs:List D->M D} {lv:Nat} (hlv:7<=lv) (c_bound_of_part:Cal P w K mg base (lv+1) "bound_of_part" 5 true (Zaz L) (Zbz Fs)) (c_heavy_first:Cal P w K mg base 7 "heavy_first" 2 false (Zaz L) Zcy) (c_near:Cal P w K mg base 2 "near" 2 true AnyG Zcn) (c_places_without:Cal P w K mg base 1 "places_without" 2 true AnyG Zbu) (c_weighed_by_hues:Cal P w K mg base 1 "weighed_by_hues" 2 false AnyG Zbj) :
  FnOk P w K mg base CX0 (lv+2) a_f fd_f ["plainest","web","weights","w"] (spD 4 true (Zaz L) (runB 6 4 (ZiE Fs))):=
 have c_nd:=Zj0.nd
 fnD (own:=[]) F Zj0 fun cdv A outer s H E hr G hG=>
 have hT:Zaz L G:=hG
 (Zaf (own2:=[]) (Zbo (own':=[]) (ZaX (Zd2) (ZaQ (Zjj rfl) rfl T.b_sum TF.boot_sum (Zab (Zaa 2 (pv 2)) Zag)) (Zaa 3 (pv 3)))
 (Zaf (own2:=[]) (Zay (Zbw (Zab (Zaa 0 (pv 0)) Zag)))
 (Zaj (own:=[])))
 Zaj)
 (Zaf (own2:=[]) (ZaK (ZaL c_nd rfl (Or.inl rfl) (Zas (c_heavy_first.mono (h:=Nat.le_trans (by decide) (Nat.le_succ_of_le hlv))) hT hr rfl (Zab (Zaa 1 (pv 1)) (Zab (Zaa 2 (pv 2)) Zag)) (Zae (Zae Zao)))))
 (Zaf (own2:=[]) (Zbo (own':=[]) (ZaX (Zd2) (Zas (c_weighed_by_hues.mono (h:=Nat.le_trans (by decide) (Nat.le_succ_of_le hlv))) trivial hr rfl (Zab (Zaa 2 (pv 2)) (Zab (Zaa 4 (pv 4)) Zag)) (Zae (Zae Zao))) (Zaa 3 (pv 3)))
 (Zaf (own2:=[]) (Zay (Zbw (Zab ZcO (Zab (Zaa 4 (pv 4)) Zag))))
 (Zaj (own:=[])))
 Zaj)
 (Zaf (own2:=[]) (ZaK (ZaL c_nd rfl (Or.inl rfl) (ZnL (Zaa 4 (pv 4)) (ZaQ (Znb rfl) rfl T.b_max TF.boot_max (Zab (Zaa 4 (pv 4)) Zag)))))
 (Zaf (own2:=[]) (Zay (Zbw (Zab ZcO (Zab (Zaa 5 (pv 5)) (Zab (Zas (c_bound_of_part) hT hr rfl (Zab (Zaa 0 (pv 0)) (Zab (Zaa 1 (pv 1)) (Zab (Zaa 2 (pv 2)) (Zab (Zas (c_places_without.mono (h:=Nat.le_trans (by decide) (Nat.le_succ_of_le hlv))) trivial hr rfl (Zab (Zaa 1 (pv 1)) (Zab (Zaa 5 (pv 5)) Zag)) (Zae (Zae Zao))) (Zab (Zaa 3 (pv 3)) Zag))))) (Zae (Zae (Zae (Zae (Zae Zao)))))) (Zab (Zas (c_bound_of_part) hT hr rfl (Zab (Zaa 0 (pv 0)) (Zab (Zaa 1 (pv 1)) (Zab (Zaa 2 (pv 2)) (Zab (Zas (c_near.mono (h:=Nat.le_trans (by decide) (Nat.le_succ_of_le hlv))) trivial hr rfl (Zab (Zaa 1 (pv 1)) (Zab (Zaa 5 (pv 5)) Zag)) (Zae (Zae Zao))) (Zab (Za2 ZdP (Zaa 3 (pv 3)) (ZaA ixd (Zaa 2 (pv 2)) (Zaa 5 (pv 5)))) Zag))))) (Zae (Zae (Zae (Zae (Zae Zao)))))) Zag))))))
 (Zaj (own:=[])))))))
theorem Zen:FnScope ["web","k"] ["web","k"] (Zal Zdv):=⟨rfl,rfl,rfl,by decide +kernel,rfl,by decide +kernel,by decide +kernel⟩
theorem Zhb (F:Fun K "paper_against" "paper_against" Zdv a_f fd_f) (T:Txt mg) {L:List (Addr×Str)} (lo:LOk L) (c_bound:Cal P w K mg base 59 "bound" 4 true (Zaz L) (Zco 26)) (c_ones:Cal P w K mg base 1 "ones" 1 false AnyG ZeE) :
  FnOk P w K mg base CX0 60 a_f fd_f ["web","k"] (spD 2 true (Zaz L) Zce):=
 have c_nd:=Zen.nd
 fnD (own:=[]) F Zen fun cdv A outer s H E hr G hG=>
 have hT:Zaz L G:=hG
 (Zaf (own2:=[]) (Zay (Zas (c_bound.mono) hT hr rfl (Zab ZcO (Zab (Zaa 0 (pv 0)) (Zab (Zas (c_ones.mono) trivial hr rfl (Zab (Zaa 0 (pv 0)) Zag) (Zae Zao)) (Zab (Za2 ZdP (Zaa 1 (pv 1)) Zar) Zag)))) (Zae (Zae (Zae (Zae Zao))))))
 (Zaj (own:=[])))
theorem ZhB:FnScope ["web","k","told"] ["web","k"] (Zal ZfW):=⟨rfl,rfl,rfl,by decide +kernel,rfl,by decide +kernel,by decide +kernel⟩
theorem ZmI (F:Fun K "settled" "settled" ZfW a_f fd_f) (T:Txt mg) {L:List (Addr×Str)} (lo:LOk L) (c_most:Cal P w K mg base 55 "most" 1 true (Zaz L) ZdK) (c_paper_against:Cal P w K mg base 60 "paper_against" 2 true (Zaz L) Zce) :
  FnOk P w K mg base CX0 61 a_f fd_f ["web","k"] (spD 2 true (Zaz L) ZbR):=
 have c_nd:=ZhB.nd
 fnD (own:=[]) F ZhB fun cdv A outer s H E hr G hG=>
 have hT:Zaz L G:=hG
 (Zaf (own2:=[]) (ZaK (ZaL c_nd rfl (Or.inl rfl) (Zas (c_most.mono) hT hr rfl (Zab (Zaa 0 (pv 0)) Zag) (Zae Zao))))
 (Zaf (own2:=[]) (Zbo (own':=[]) (ZaX (ZhO) (ZaA ixd (Zaa 2 (pv 2)) Zar) (Zaa 1 (pv 1)))
 (Zaf (own2:=[]) (Zay (Zbw (Zab ZcO (Zab (Zg9 (ZaA ixd (Zaa 2 (pv 2)) Zar) Zg7 (Zg6 (Zaa 1 (pv 1)))) Zag))))
 (Zaj (own:=[])))
 Zaj)
 (Zaf (own2:=[]) (Zay (Zbw (Zab ZcO (Zab (Zas (c_paper_against.mono) hT hr rfl (Zab (Zaa 0 (pv 0)) (Zab (Zaa 1 (pv 1)) Zag)) (Zae (Zae Zao))) Zag))))
 (Zaj (own:=[])))))
theorem ZfV:FnScope ["_law_cell","_law_at","_law_x"] ["_law_cell","_law_at"] (Zal ZeT):=⟨rfl,rfl,rfl,by decide +kernel,rfl,by decide +kernel,by decide +kernel⟩
theorem Zko (F:Fun K "_law_fill" "_law_fill" ZeT a_f fd_f) (T:Txt mg) :
  FnOk P w K mg base CX0 1 a_f fd_f ["_law_cell","_law_at"] (spD 2 false AnyG Zb0):=
 have c_nd:=ZfV.nd
 fnD (own:=[]) F ZfV fun cdv A outer s H E hr G hG=>
 (Zaf (own2:=[]) (Zbo (own':=[]) (ZaX (ZhO) (Zaa 0 (pv 0)) (Za2 ZqO Zar Zar))
 (Zaf (own2:=[]) (Zay (Zaa 0 (pv 0)))
 (Zaj (own:=[])))
 Zaj)
 (Zaf (own2:=[]) (ZaK (ZaL c_nd rfl (Or.inl rfl) (Za2 Zgt (Za2 ZbI (Za2 ZbI (Za2 Zds (Za2 Zgt (Zaa 0 (pv 0)) Zar) Zar) (Za2 Zds (Zaa 1 (pv 1)) Zar)) Zar) Zar)))
 (Zaf (own2:=[]) (ZaK (ZaL c_nd rfl (Or.inl rfl) (Za2 Zgt (Za2 ZbI (Za2 ZbI (Za2 Zds (Zaa 2 (pv 2)) (Zaa 2 (pv 2))) (Za2 Zds Zar (Zaa 2 (pv 2)))) (Zaa 1 (pv 1))) Zar)))
 (Zaf (own2:=[]) (Zay (PD.weak (Za2 ZbI (Za2 Zds (Zaa 2 (pv 2)) Zar) (Za2 Zgt (Za2 ZbI (Za2 Zds (Zaa 2 (pv 2)) (Zaa 2 (pv 2))) (Za2 Zds Zar (Zaa 1 (pv 1)))) Zar))))
 (Zaj (own:=[]))))))
theorem ZgU:FnScope ["_law_pen","_law_most","_law_n","_law_way","_law_rate","_law_some","_law_ties","_law_a","_law_b","_law_tied"] ["_law_pen","_law_most"] (Zal Zeb):=⟨rfl,rfl,rfl,by decide +kernel,rfl,by decide +kernel,by decide +kernel⟩
theorem Zln (F:Fun K "_law_web" "_law_web" Zeb a_f fd_f) (T:Txt mg) {L:List (Addr×Str)} (lo:LOk L) (c__law_next:Cal P w K mg base 2 "_law_next" 2 true (PenT (PenK K) L) ZbL) :
  FnOk P w K mg base CX0 3 a_f fd_f ["_law_pen","_law_most"] (spD 2 true (PenT (PenK K) L) Zc2):=
 have c_nd:=ZgU.nd
 fnD (own:=[]) F ZgU fun cdv A outer s H E hr G hG=>
 have hT:Zaz L G:=PenT.tabs lo hG
 (Zaf (own2:=[]) (ZaK (ZaL c_nd rfl (Or.inl rfl) (Zas (c__law_next.mono) hG hr rfl (Zab (Zaa 0 (pv 0)) (Zab (Za2 ZbI (Zaa 1 (pv 1)) Zar) Zag)) (Zae (Zae Zao)))))
 (Zaf (own2:=[]) (ZqJ (own:=[]) rfl c_nd rfl rfl (by decide) (by decide) (by decide) rfl rfl (Zab (Zas (c__law_next.mono) hG hr rfl (Zab (Zaa 0 (pv 0)) (Zab Zar Zag)) (Zae (Zae Zao))) (Zab (Za2 ZbI Zar (Zas (c__law_next.mono) hG hr rfl (Zab (Zaa 0 (pv 0)) (Zab Zar Zag)) (Zae (Zae Zao)))) Zag)) (by with_unfolding_all rfl))
 (Zaf (own2:=[]) (ZaK (Zcs c_nd rfl (Or.inl rfl) rfl (⟨rfl,rfl,by decide +kernel,rfl,by decide +kernel,rfl,by decide +kernel,by decide +kernel⟩:BlkS _ ["_law_pen","_law_most","_law_n","_law_way","_law_rate","_law_some","_law_ties","_law_a","_law_b","_law_tied"] (Zal Zeb).names ["_law_place","_law_pen"] [none,some 0] _) (Zcb rfl T.b_range (Zaa 2 (pv 2))) (fun _ _ _ _ _ _=>(ZaF (show (["_law_place","_law_pen"]:List Str).Nodup by decide +kernel) rfl (Or.inl rfl) rfl)) (fun _ _ _ _ _ _=>ZcW) (fun _ _ _ _ _ _=>(Zas (c__law_next.mono) hG hr rfl (Zab (Zaa 1 (pv 1)) (Zab Zar Zag)) (Zae (Zae Zao))))))
 (Zaf (own2:=[6]) (Zfw (ZaL c_nd rfl (Or.inl rfl) (Zfc Zag)))
 (Zaf (own2:=[6]) (Zcm (own:=[6]) PassesOwn.never rfl (Zch rfl T.b_range (Zaa 2 (pv 2))) (ZaF c_nd rfl (Or.inl rfl) (by decide))
 (Zaf (own2:=[6]) (Zcm (own:=[6]) PassesOwn.never rfl (ZgY rfl T.b_range (Za2 ZbI (Zaa 7 (pv 7)) Zar) (Zaa 2 (pv 2))) (ZaF c_nd rfl (Or.inl rfl) (by decide))
 (Zaf (own2:=[6]) (Zg8 (own:=[6]) (ZaL c_nd rfl (Or.inl rfl) (Zcc (ZnM hr.units0) (Zas (c__law_next.mono) hG hr rfl (Zab (Zaa 0 (pv 0)) (Zab Zar Zag)) (Zae (Zae Zao))) (Zaa 4 (pv 4)))))
 (Zaf (own2:=[6]) (Zbo (own':=[6]) (PDW.pt (Zfa (ZaX (Zcd hr.units) (Zaa 3 (pv 3)) Zar) (Zfa (ZaX (Zcd hr.units) (ZaA ixd (Zaa 5 (pv 5)) (Zaa 7 (pv 7))) Zar) (Zfv (ZaX (Zcd hr.units) (ZaA ixd (Zaa 5 (pv 5)) (Zaa 8 (pv 8))) Zar)))))
 (Zaf (own2:=[6]) (Zg8 (own:=[6]) (ZaL c_nd rfl (Or.inl rfl) Zdj))
 (Zaj (own:=[6])))
 Zaj)
 (Zaf (own2:=[6]) (Zbo (own':=[6]) (ZaX (Zcd hr.units) (Zaa 3 (pv 3)) Zar)
 (Zaf (own2:=[6]) (Zg8 (own:=[6]) (ZaL c_nd rfl (Or.inl rfl) (Zs1 (Zcc (Zcd hr.units) (Za2 ZdP (Zaa 8 (pv 8)) (Zaa 7 (pv 7))) Zar) (Zfb (Zcc (Zcd hr.units) (Za2 ZdP (Zaa 8 (pv 8)) (Zaa 7 (pv 7))) (Za2 ZdP (Zaa 2 (pv 2)) Zar))))))
 (Zaj (own:=[6])))
 Zaj)
 (Zaf (own2:=[6]) (Zbo (own':=[6]) (Zb3 (Zaa 9 (pv 9)))
 (Zaf (own2:=[6]) (Zke (own:=[6]) (i:=6) (by decide) (Zbw (Zab (Zaa 7 (pv 7)) (Zab (Zaa 8 (pv 8)) Zag))) (fun _ h=>ZiW (pv 6) h))
 (Zaj (own:=[6])))
 Zaj)
 (Zaj (own:=[6])))))))
 (Zaj (own:=[6]))))
 (Zaf (own2:=[6]) (Zay (Zbw (Zab (Zaa 2 (pv 2)) (Zab (ZcP (ZcS) rfl T.b_tuple TF.boot_tuple (Zab (Zaa 6 (pv 6)) Zag)) Zag))))
 (Zaj (own:=[6]))))))))
def ZgK:Rho->M Out:=(sSeq (sIf (asB (dOp dEqO (dOp dIx (dVar 1) (dC (.int 1))) (dTup dNil)))
 (sSeq (sRet (dVar 1))
 Zam)
 Zam)
 (sSeq (sSet 2 (dFn ZbL (Zac (dVar 0) (Zac (ZaD dLen (Zac (dOp dIx (dVar 1) (dC (.int 1))) dNil)) dNil))))
 (sSeq (sRet (dTup (Zac (dOp dIx (dVar 1) (dC (.int 0))) (Zac (dOp dAdd (Zfi (dOp dIx (dVar 1) (dC (.int 1))) ZjL (Zgs (dVar 2))) (Zfi (dOp dIx (dVar 1) (dC (.int 1))) (Zgs (dOp dAdd (dVar 2) (dC (.int 1)))) ZjL)) dNil))))
 Zam)))
def ZbA:List D->M D:=runB 3 2 ZgK
theorem Zd1:FnScope ["_law_pen","_law_told","_law_at"] ["_law_pen","_law_told"] (Zal Zc4):=⟨rfl,rfl,rfl,by decide +kernel,rfl,by decide +kernel,by decide +kernel⟩
theorem Zf2 (F:Fun K "_law_fewer_ties" "_law_fewer_ties" Zc4 a_f fd_f) (T:Txt mg) {L:List (Addr×Str)} (lo:LOk L) (c__law_next:Cal P w K mg base 2 "_law_next" 2 true (PenT (PenK K) L) ZbL) :
  FnOk P w K mg base CX0 3 a_f fd_f ["_law_pen","_law_told"] (spD 2 false (PenT (PenK K) L) ZbA):=
 have c_nd:=Zd1.nd
 fnD (own:=[]) F Zd1 fun cdv A outer s H E hr G hG=>
 have hT:Zaz L G:=PenT.tabs lo hG
 (Zaf (own2:=[]) (Zbo (own':=[]) (ZaX (Zcd hr.units) (ZaA ixd (Zaa 1 (pv 1)) Zar) (Zbw Zag))
 (Zaf (own2:=[]) (Zay (Zaa 1 (pv 1)))
 (Zaj (own:=[])))
 Zaj)
 (Zaf (own2:=[]) (ZaK (ZaL c_nd rfl (Or.inl rfl) (Zas (c__law_next.mono) hG hr rfl (Zab (Zaa 0 (pv 0)) (Zab (ZaQ (Zbr) rfl T.b_len TF.boot_len (Zab (ZaA ixd (Zaa 1 (pv 1)) Zar) Zag)) Zag)) (Zae (Zae Zao)))))
 (Zaf (own2:=[]) (Zay (PD.weak (Zbw (Zab (ZaA ixd (Zaa 1 (pv 1)) Zar) (Zab (Za2 ZbI (Zg9 (ZaA ixd (Zaa 1 (pv 1)) Zar) Zg7 (Zg6 (Zaa 2 (pv 2)))) (Zg9 (ZaA ixd (Zaa 1 (pv 1)) Zar) (Zg6 (Za2 ZbI (Zaa 2 (pv 2)) Zar)) Zg7)) Zag)))))
 (Zaj (own:=[])))))
def ZmT:Rho->M Out:=(sSeq (sFor (ZaU (dC (.int 2))) (gOne 2)
 (sSeq (sSet 3 (dFn Zc2 (Zac (dVar 1) (Zac (dC (.int 8)) dNil))))
 (sSeq (sSet 4 (dOp dIx (dFn ZdK (Zac (dVar 3) dNil)) (dC (.int 0))))
 (sSeq (sSet 5 (ZaP [none,some 3] (ZaU (dC (.int 10))) (gOne 0) ZaZ (dFn ZbR (Zac (dVar 1) (Zac (dVar 0) dNil)))))
 (sSeq (sFor (ZaU (dC (.int 10))) (gOne 6)
 (sSeq (sUnp (Zqa 7 8) (dOp dIx (dVar 5) (dVar 6)))
 (sSeq (sIf (asB (dOp dNeO (dOp dEqO (dVar 7) (dC (.str (Str.ofString "knot")))) (dOp dLe (dVar 6) (dVar 4))))
 (sSeq (sRet (dC (.bl false)))
 Zam)
 Zam)
 (sSeq (sIf (asB (dOp dEqO (dVar 7) (dC (.str (Str.ofString "none")))))
 (sSeq (sFor (ZaU (dC (.int 10))) (gOne 9)
 (sSeq (sSet 10 (dFn Zcu (Zac (dVar 3) (Zac (dVar 9) (Zac (dVar 8) dNil)))))
 (sSeq (sIf (bOr (bAnd (asB (dOp dGe (dVar 9) (dVar 6))) (bNot (asB (dVar 10)))) (bAnd (asB (dOp dLe (dVar 9) (dVar 4))) (asB (dVar 10))))
 (sSeq (sRet (dC (.bl false)))
 Zam)
 Zam)
 Zam)))
 Zam)
 Zam)
 Zam))))
 (sSeq (sSet 6 (dOp dAdd (dVar 4) (dC (.int 1))))
 (sSeq (sSet 11 (dFn ZbA (Zac (dVar 1) (Zac (dVar 3) dNil))))
 (sSeq (sSet 12 (ZaP [none,some 1] (ZaU (dOp dIx (dVar 3) (dC (.int 0)))) (gOne 0) (asB (dOp dEqO (dFn ZbL (Zac (dVar 1) (Zac (dC (.int 2)) dNil))) (dC (.int 0)))) (dVar 0)))
 (sSeq (sFor (ZaY (dLst (Zac (dVar 11) (Zac (dFn Zdc (Zac (dVar 3) (Zac (dVar 12) dNil))) dNil)))) (gOne 13)
 (sSeq (sSet 14 (dFn ZbR (Zac (dVar 13) (Zac (dVar 6) dNil))))
 (sSeq (sIf (bOr (asB (dOp dNeO (dOp dIx (dVar 14) (dC (.int 0))) (dC (.str (Str.ofString "none"))))) (bNot (asB (dFn Zcu (Zac (dVar 13) (Zac (dVar 6) (Zac (dOp dIx (dVar 14) (dC (.int 1))) dNil)))))))
 (sSeq (sRet (dC (.bl false)))
 Zam)
 Zam)
 Zam)))
 Zam)))))))))
 (sSeq (sRet (dC (.bl true)))
 Zam))
theorem ZjZ:FnScope ["script","_law_pen","_law_turn","_law_told","_law_many","_law_all","_law_k","_law_word","_law_what","_law_other","_law_said","_law_less","_law_some","_law_one","_law_found"] ["script"] (Zal s_law):=⟨rfl,rfl,rfl,by decide +kernel,rfl,by decide +kernel,by decide +kernel⟩
theorem Zrn {cdv:Value} {A:Around} {outer:List Env} {s:Shared} {H:Hp} {E:XK} {L:List (Addr×Str)} (lo:LOk L) (T:Txt mg) (hr:Room 61 (A.deeper (envOfC "law" (Zal s_law) s.heap.objs.size a_f cdv))) (c__law_fewer_ties:Cal P w K mg base 3 "_law_fewer_ties" 2 false (PenT (PenK K) L) ZbA) (c__law_next:Cal P w K mg base 2 "_law_next" 2 true (PenT (PenK K) L) ZbL) (c__law_web:Cal P w K mg base 3 "_law_web" 2 true (PenT (PenK K) L) Zc2) (c_is_paper:Cal P w K mg base 60 "is_paper" 3 false (Zaz L) Zcu) (c_most:Cal P w K mg base 55 "most" 1 true (Zaz L) ZdK) (c_part:Cal P w K mg base 7 "part" 2 false (Zaz L) Zdc) (c_settled:Cal P w K mg base 61 "settled" 2 true (Zaz L) ZbR) (G:Gh) (hG:(PenT (PenK K) L) G) :
  PDSs (cxOf CX0 P w K mg base ["script","_law_pen","_law_turn","_law_told","_law_many","_law_all","_law_k","_law_word","_law_what","_law_other","_law_said","_law_less","_law_some","_law_one","_law_found"] "law" (Zal s_law) a_f cdv A outer s H E).nox G [] [] [] false ((Zb9 s_law).drop 1) ZmT:=
 have c_nd:=ZjZ.nd
 have hT:Zaz L G:=PenT.tabs lo hG
 (Zaf (own2:=[]) (Zcm (own:=[]) PassesOwn.never rfl (Zch rfl T.b_range Zar) (ZaF c_nd rfl (Or.inl rfl) (by decide))
 (Zaf (own2:=[]) (ZaK (ZaL c_nd rfl (Or.inr rfl) (Zas (c__law_web.mono) hG hr rfl (Zab (Zaa 1 (pv 1)) (Zab Zar Zag)) (Zae (Zae Zao)))))
 (Zaf (own2:=[]) (ZaK (ZaL c_nd rfl (Or.inl rfl) (ZaA ixd (Zas (c_most.mono) hT hr rfl (Zab (Zaa 3 (pv 3)) Zag) (Zae Zao)) Zar)))
 (Zaf (own2:=[]) (ZaK (Zcs c_nd rfl (Or.inl rfl) rfl (⟨rfl,rfl,by decide +kernel,rfl,by decide +kernel,rfl,by decide +kernel,by decide +kernel⟩:BlkS _ ["script","_law_pen","_law_turn","_law_told","_law_many","_law_all","_law_k","_law_word","_law_what","_law_other","_law_said","_law_less","_law_some","_law_one","_law_found"] (Zal s_law).names ["_law_k","_law_told"] [none,some 3] _) (Zcb rfl T.b_range Zar) (fun _ _ _ _ _ _=>(ZaF (show (["_law_k","_law_told"]:List Str).Nodup by decide +kernel) rfl (Or.inl rfl) rfl)) (fun _ _ _ _ _ _=>ZcW) (fun _ _ _ _ _ _=>(Zas (c_settled.mono) hT hr rfl (Zab (Zaa 1 (pv 1)) (Zab (Zaa 0 (pv 0)) Zag)) (Zae (Zae Zao))))))
 (Zaf (own2:=[]) (Zcm (own:=[]) PassesOwn.never rfl (Zch rfl T.b_range Zar) (ZaF c_nd rfl (Or.inl rfl) (by decide))
 (Zaf (own2:=[]) (Zo9 (ZaA ixd (Zaa 5 (pv 5)) (Zaa 6 (pv 6))) (Zpc rfl c_nd rfl rfl (Or.inl rfl) (Or.inl rfl) (by decide) (by decide) (hp:=Zkb (Zgq c_nd rfl (Or.inl rfl)) (Zkb (Zgq c_nd rfl (Or.inl rfl)) ZqB))))
 (Zaf (own2:=[]) (Zbo (own':=[]) (ZaX (Zez hr.units) (Zcc (Zcd hr.units) (Zaa 7 (pv 7)) ZcO) (Zcc (Zd2) (Zaa 6 (pv 6)) (Zaa 4 (pv 4))))
 (Zaf (own2:=[]) (Zay (PD.weak Zdj))
 (Zaj (own:=[])))
 Zaj)
 (Zaf (own2:=[]) (Zbo (own':=[]) (ZaX (Zcd hr.units) (Zaa 7 (pv 7)) ZcO)
 (Zaf (own2:=[]) (Zcm (own:=[]) PassesOwn.never rfl (Zch rfl T.b_range Zar) (ZaF c_nd rfl (Or.inl rfl) (by decide))
 (Zaf (own2:=[]) (ZaK (ZaL c_nd rfl (Or.inl rfl) (Zas (c_is_paper.mono) hT hr rfl (Zab (Zaa 3 (pv 3)) (Zab (Zaa 9 (pv 9)) (Zab (Zaa 8 (pv 8)) Zag))) (Zae (Zae (Zae Zao))))))
 (Zaf (own2:=[]) (Zbo (own':=[]) (PDW.pt (ZhK (PDW.pt (Zfa (ZaX (ZhO) (Zaa 9 (pv 9)) (Zaa 6 (pv 6))) (Zfv (ZdO (Zb3 (Zaa 10 (pv 10))))))) (Zgr (PDW.pt (Zfa (ZaX (Zd2) (Zaa 9 (pv 9)) (Zaa 4 (pv 4))) (Zfv (Zb3 (Zaa 10 (pv 10)))))))))
 (Zaf (own2:=[]) (Zay (PD.weak Zdj))
 (Zaj (own:=[])))
 Zaj)
 (Zaj (own:=[])))))
 (Zaj (own:=[])))
 Zaj)
 (Zaj (own:=[]))))))
 (Zaf (own2:=[]) (ZaK (ZaL c_nd rfl (Or.inl rfl) (Za2 ZbI (Zaa 4 (pv 4)) Zar)))
 (Zaf (own2:=[]) (ZaK (ZaL c_nd rfl (Or.inl rfl) (Zas (c__law_fewer_ties.mono) hG hr rfl (Zab (Zaa 1 (pv 1)) (Zab (Zaa 3 (pv 3)) Zag)) (Zae (Zae Zao)))))
 (Zaf (own2:=[]) (ZaK (Zcs c_nd rfl (Or.inl rfl) rfl (⟨rfl,rfl,by decide +kernel,rfl,by decide +kernel,rfl,by decide +kernel,by decide +kernel⟩:BlkS _ ["script","_law_pen","_law_turn","_law_told","_law_many","_law_all","_law_k","_law_word","_law_what","_law_other","_law_said","_law_less","_law_some","_law_one","_law_found"] (Zal s_law).names ["_law_place","_law_pen"] [none,some 1] _) (Zcb rfl T.b_range (ZaA ixd (Zaa 3 (pv 3)) Zar)) (fun _ _ _ _ _ _=>(ZaF (show (["_law_place","_law_pen"]:List Str).Nodup by decide +kernel) rfl (Or.inl rfl) rfl)) (fun _ _ _ _ _ _=>(Zec (ZaX (Zcd hr.units) (Zas (c__law_next.mono) hG hr rfl (Zab (Zaa 1 (pv 1)) (Zab Zar Zag)) (Zae (Zae Zao))) Zar))) (fun _ _ _ _ _ _=>(Zaa 0 (pv 0)))))
 (Zaf (own2:=[]) (Zcm (own:=[]) PassesOwn.never rfl (PDI.n (ZbH (Zfc (Zab (Zaa 11 (pv 11)) (Zab (Zas (c_part.mono) hT hr rfl (Zab (Zaa 3 (pv 3)) (Zab (Zaa 12 (pv 12)) Zag)) (Zae (Zae Zao))) Zag))))) (ZaF c_nd rfl (Or.inl rfl) (by decide))
 (Zaf (own2:=[]) (ZaK (ZaL c_nd rfl (Or.inl rfl) (Zas (c_settled.mono) hT hr rfl (Zab (Zaa 13 (pv 13)) (Zab (Zaa 6 (pv 6)) Zag)) (Zae (Zae Zao)))))
 (Zaf (own2:=[]) (Zbo (own':=[]) (PDW.pt (ZhK (ZaX (Zez hr.units) (ZaA ixd (Zaa 14 (pv 14)) Zar) ZcO) (Zgr (ZdO (Zb3 (Zas (c_is_paper.mono) hT hr rfl (Zab (Zaa 13 (pv 13)) (Zab (Zaa 6 (pv 6)) (Zab (ZaA ixd (Zaa 14 (pv 14)) Zar) Zag))) (Zae (Zae (Zae Zao)))))))))
 (Zaf (own2:=[]) (Zay (PD.weak Zdj))
 (Zaj (own:=[])))
 Zaj)
 (Zaj (own:=[])))))
 (Zaj (own:=[])))))))))))
 (Zaf (own2:=[]) (Zay (PD.weak Zdj))
 (Zaj (own:=[]))))
end K35
namespace K35
open PySem.Spec PyProof.Rows
open PySem L2 TF TQ
open TP
open TP2
open TP3
theorem ZfU:FnScope ["_law_pen","_law_many","_law_at","_law_cell","_law_found"] ["_law_pen","_law_many"] (Zal ZeS):=⟨rfl,rfl,rfl,by decide +kernel,rfl,by decide +kernel,by decide +kernel⟩
theorem ZmL {ds:List D} {s s':Pn} {d:D} (h:ZbL ds s=some (d,s')):∃m a hd ns,ds=[.pen,.int m]/\s=([a,hd],ns)/\0<m/\m<1073741824/\0<=a/\d=.int ((Zb7 m a hd ns).2 % m)/\s'=([(Zb7 m a hd ns).1,(Zb7 m a hd ns).2 / m],ns):=by
 unfold ZbL at h
 split at h
 ·split at h
  ·rename_i m a hd ns c
   cases h
   exact ⟨m,a,hd,ns,rfl,rfl,c.1,c.2.1,c.2.2,rfl,rfl⟩
  ·cases h
 ·cases h
set_option maxHeartbeats 4000000 in
theorem Zkn {P:Program} {w:World} {K:PySem.W.Frag} {mg:Str->Option Value} {base:Heap} {a_f:Addr} {fd_f:FuncData} (F:Fun K "_law_next" "_law_next" ZeS a_f fd_f) (T:Txt mg)
  (c__law_fill:Cal P w K mg base 1 "_law_fill" 2 false AnyG Zb0) (ZmQ:∀c a s,0<=a->Zb0 [.int c,.int a] s=some (.int (ZdG c a),s)) :
  FnOk P w K mg base CX0 2 a_f fd_f ["_law_pen","_law_many"] (spD 2 true (PenK K) ZbL):=by
 have nd:=ZfU.nd
 refine F.ok ZfU (fun vs H Q E h=>?_) fun cdv A outer s0 H vs Q E hr h=>?_
 ·obtain ⟨G,Hf,ds,pn,d,pn',_,e,_⟩:=h
  exact e
 ·obtain ⟨G,Hf,ds,pn,d,pn',hG,el,e1,r,st',eF,k'⟩:=h
  obtain ⟨p,sa,tr,rfl⟩:=hG
  obtain ⟨m,a,hd,ns,rfl,rfl,m0,m1,a0,rfl,rfl⟩:=ZmL eF
  obtain ⟨v1,v2,rfl,r1,r2⟩:=RepL.two_inv r
  cases (Rep.pen_iff.mp r1)
  cases (Rep.int_iff.mp r2)
  obtain ⟨a',h',ea,hp,ne,sq,t1,t2⟩:=st'
  simp only [List.cons.injEq,and_true] at ea
  obtain ⟨rfl,rfl⟩:=ea
  -- behind: the pen's two numbers
  have fin:∀(H1:Hp) (x0 y0 x y:Int),stL K p sa tr ([x0,y0],ns) H1->stL K p sa tr ([x,y],ns) (upd H1 p (.lst [.ref sa,.int x,.int y])):=fun H1 x0 y0 x y ⟨_,_,_,_,_,sq,t1,t2⟩=>by
   refine ⟨x,y,rfl,Zav,ne,?_,fun ht=>?_,t2⟩
   ·rcases sq with (q | ⟨o,q⟩) | q
    ·exact .inl (.inl (by rw [Zap ne];exact q))
    ·exact .inl (.inr ⟨o,by rw [Zap ne];exact q⟩)
    ·exact .inr q
   ·obtain ⟨o,q⟩:=t1 ht
    exact ⟨o,by rw [Zap ne];exact q⟩
  have st0:stL K p sa tr ([a,hd],ns) H:=⟨a,hd,rfl,hp,ne,sq,t1,t2⟩
  have grH:∀(Hf1 H1:Hp) o,Ext (penL K p sa tr) Hf1 H1->Gr (penL K p sa tr) Hf1 H1 Hf1 (upd H1 p o):=fun Hf1 H1 o e1=>
   ⟨fun b u n q=>by rw [Zap (show b≠p from n)];exact q,.refl _ _,fun b u n q=>by rw [Zap (show b≠p from n)];exact e1 b u n q,fun b n h1 h2=>h1⟩
  refine ⟨_,Zcr (ZjJ (Zgp ZmG (Zdi Zb8 (pv 0) Zbn (fun _ _=>rfl)) (pv 1) (Zf3 _))
   (Zcr (Zev (i:=2) nd rfl (Or.inl rfl) (Zdi Zb8 (pv 0) Zbn (fun _ _=>rfl)))
   (Zcr (Zev (i:=3) nd rfl (Or.inl rfl) Zbn)
   (Zcr (ZjJ (Zgp ZmG (pv 2) (Zew ZdI rfl T.b_len TF.boot_len (Zbb (Zdi Zb8 (pv 0) Zbn (fun _ _=>rfl)) ZbO)) (Zf3 _))
    (Ze8 (Zev (i:=3) nd rfl (Or.inl rfl) (Zdi Zb8 (Zdi Zb8 (pv 0) Zbn (fun _ _=>rfl)) (pv 2) (fun _ _=>rfl))))
    (Ze8 (ZjJ (Zgp Zp2 (Zew ZdI rfl T.b_len TF.boot_len (Zbb (Zdi Zb8 (pv 0) Zbn (fun _ _=>rfl)) ZbO)) Zbn (Zf3 _))
     (Ze8 (Zev (i:=3) nd rfl (Or.inl rfl) (Zed Zkl (Zed ZhP (Zdi Zb8 (Zdi Zb8 (pv 0) Zbn (fun _ _=>rfl)) (Zed ZhP (Zed Zkk (pv 2) Zbn) (Zew ZdI rfl T.b_len TF.boot_len (Zbb (Zdi Zb8 (pv 0) Zbn (fun _ _=>rfl)) ZbO))) (fun _ _=>rfl)) Zbn) (Zed Zkk (pv 2) Zbn))))
     Zip)))
   (Zcr (ZhH (Zed Zkl (pv 2) Zbn) (Zkc (pv 0) Zbn Zg5))
   (Ze8 (ZhH (PD.canon (Zas (G:=penL K p sa tr) c__law_fill trivial hr rfl (Zab (Zaa 3 (pv 3)) (Zab (Zaa 2 (pv 2)) Zag)) (Zae (Zae Zao)))) (Zkc (pv 0) Zbn Zg5)))))))
   Zip)
   (Zcr (Zev (i:=4) nd rfl (Or.inl rfl) (Zed ZhP (Zdi Zb8 (pv 0) Zbn (fun _ _=>rfl)) (pv 1)))
   (Zcr (ZhH (Zed ZqQ (Zdi Zb8 (pv 0) Zbn (fun _ _=>rfl)) (pv 1)) (Zkc (pv 0) Zbn Zg5))
   (Ze8 (Zj9 (pv 4))))),?_⟩
  -- pen[2]<many
  refine ⟨_,rfl,p,[.ref sa,.int a,.int hd],2,.int hd,rfl,rfl,SqL.of hp,rfl,_,rfl,hd,m,rfl,rfl,_,rfl,?_⟩
  -- the last three rows,from any state of the pen
  have last:∀(x y:Int) (o2 o3 o4:Option V) (Hf1 H1:Hp),Gr (penL K p sa tr) Hf H Hf1 H1->stL K p sa tr ([x,y],ns) H1->x=(Zb7 m a hd ns).1->y=(Zb7 m a hd ns).2->
    tSeq (tAsg (tOp (rI (fun _ j=>0<j) fun i j=>.int (i % j)) (tOp (rIxL K) (tVar 0) (tC (.int 2))) (tVar 1)) (ZgA 4))
     (tSeq (tAsg (tOp (rI CDiv fun i j=>.int (i / j)) (tOp (rIxL K) (tVar 0) (tC (.int 2))) (tVar 1)) (gSub (tVar 0) (tC (.int 2)) ZhG)) (tRet (tVar 4))) { nx:=fun _ H'=>Q .non H',rt:=Q } [some (.ref p),some (.int m),o2,o3,o4] H1:=by
   intro x y o2 o3 o4 Hf1 H1 g1 st1 ex ey
   obtain ⟨x1,y1,exy,hp1,_⟩:=id st1
   simp only [List.cons.injEq,and_true] at exy
   obtain ⟨rfl,rfl⟩:=exy
   refine ⟨_,rfl,p,[.ref sa,.int x,.int y],2,.int y,rfl,rfl,SqL.of hp1,rfl,_,rfl,y,m,rfl,rfl,m0,?_⟩
   refine ⟨_,rfl,p,[.ref sa,.int x,.int y],2,.int y,rfl,rfl,SqL.of hp1,rfl,_,rfl,y,m,rfl,rfl,⟨m0,m1⟩,_,rfl,p,[.ref sa,.int x,.int y],2,2,rfl,rfl,hp1,rfl,?_⟩
   refine ⟨_,rfl,?_⟩
   have st2:=fin H1 x y x (y / m) st1
   subst ex ey
   exact k' _ Hf1 _ (g1.trans (grH _ _ _ g1.fh)) st2 (Rep.int_iff.mpr rfl) fun _=>.scal fun z=>z
  by_cases hlt:hd<m
  ·rw [decide_eq_true hlt]
   refine iteT ?_
   refine ⟨_,rfl,p,[.ref sa,.int a,.int hd],1,.int a,rfl,rfl,SqL.of hp,rfl,?_⟩
   -- the rest behind the cell
   have rest:∀c:Int,c=Zh8 ns a->
     tSeq (tAsg (tOp (rI0 fun i j=>.int (i+j)) (tVar 2) (tC (.int 1))) (gSub (tVar 0) (tC (.int 1)) ZhG)) (tAsg (tOf (penL K p sa tr) false (dFn Zb0 (Zac (dVar 3) (Zac (dVar 2) dNil)))) (gSub (tVar 0) (tC (.int 2)) ZhG)) ({ nx:=(tSeq (tAsg (tOp (rI (fun _ j=>0<j) fun i j=>.int (i % j)) (tOp (rIxL K) (tVar 0) (tC (.int 2))) (tVar 1)) (ZgA 4)) (tSeq (tAsg (tOp (rI CDiv fun i j=>.int (i / j)) (tOp (rIxL K) (tVar 0) (tC (.int 2))) (tVar 1)) (gSub (tVar 0) (tC (.int 2)) ZhG)) (tRet (tVar 4))) { nx:=fun _ H'=>Q .non H',rt:=Q }),rt:=Q }:Ends) [some (.ref p),some (.int m),some (.int a),some (.int c),none] H:=by
    intro c ec
    refine ⟨_,rfl,a,1,rfl,rfl,_,rfl,p,[.ref sa,.int a,.int hd],1,1,rfl,rfl,hp,rfl,?_⟩
    have g1:=grH Hf H (.lst [.ref sa,.int (a+1),.int hd]) e1
    refine ⟨Hf,[none,none,some (.int a),some (.int c)],([a+1,hd],ns),.int (ZdG c a),([a+1,hd],ns),g1.fh,fun i d e=>?_,fin H a hd (a+1) hd st0,?_,fun v Hf' H' g st r _=>?_⟩
    ·match i,e with
     | 0,e=>cases e
     | 1,e=>cases e
     | 2,e=>cases e;exact ⟨_,rfl,Rep.int_iff.mpr rfl⟩
     | 3,e=>cases e;exact ⟨_,rfl,Rep.int_iff.mpr rfl⟩
     | i+4,e=>simp at e
    ·exact ZmQ c a _ a0
    ·rw [Rep.int_iff.mp r]
     obtain ⟨x1,y1,exy,hp1,_⟩:=id st
     simp only [List.cons.injEq,and_true] at exy
     obtain ⟨rfl,rfl⟩:=exy
     refine ⟨_,rfl,p,[.ref sa,.int (a+1),.int hd],2,2,rfl,rfl,hp1,rfl,?_⟩
     refine last (a+1) (ZdG c a) _ _ _ Hf' _ ((g1.trans g).trans (grH _ _ _ g.fh)) (fin H' _ _ _ _ st) ?_ ?_
     ·unfold Zb7;rw [if_pos hlt]
     ·unfold Zb7;rw [if_pos hlt,ec]
   refine ⟨_,rfl,_,rfl,p,[.ref sa,.int a,.int hd],0,.ref sa,rfl,rfl,SqL.of hp,rfl,sa,ns.map V.int,rfl,.inl sq,a,_,rfl,rfl,_,rfl,?_⟩
   have lm:((ns.map V.int).length:Int)=(ns.length:Int):=by simp
   by_cases h2:a<ns.length
   ·rw [lm,decide_eq_true h2]
    refine iteT ?_
    have hi:a.toNat<ns.length:=by omega
    have gi:(ns.map V.int)[a.toNat]?=some (.int (ns.getD a.toNat 0)):=by simp [List.getD,hi]
    have ai:atI (ns.map V.int) a=some (.int (ns.getD a.toNat 0)):=by
     have q:=ZbJ gi
     rwa [Int.toNat_of_nonneg a0] at q
    refine ⟨_,rfl,p,[.ref sa,.int a,.int hd],0,.ref sa,rfl,rfl,SqL.of hp,rfl,_,rfl,sa,ns.map V.int,a,_,rfl,rfl,sq,ai,?_⟩
    exact rest _ (by unfold Zh8;rw [if_pos h2])
   ·rw [lm,decide_eq_false h2]
    refine iteF ?_
    refine ⟨_,rfl,p,[.ref sa,.int a,.int hd],0,.ref sa,rfl,rfl,SqL.of hp,rfl,sa,ns.map V.int,rfl,.inl sq,_,0,rfl,rfl,_,rfl,?_⟩
    by_cases h3:(0:Int)<ns.length
    ·rw [lm,decide_eq_true h3]
     refine iteT ?_
     have j0:=Int.emod_nonneg (a*7) (show (ns.length:Int)≠0 by omega)
     have j1:=Int.emod_lt_of_pos (a*7) h3
     have hi:(a*7 % (ns.length:Int)).toNat<ns.length:=by omega
     have gi:(ns.map V.int)[(a*7 % (ns.length:Int)).toNat]?=some (.int (ns.getD (a*7 % (ns.length:Int)).toNat 0)):=by simp [List.getD,hi]
     have ai:atI (ns.map V.int) (a*7 % (ns.length:Int))=some (.int (ns.getD (a*7 % (ns.length:Int)).toNat 0)):=by
      have q:=ZbJ gi
      rwa [Int.toNat_of_nonneg j0] at q
     refine ⟨_,rfl,p,[.ref sa,.int a,.int hd],0,.ref sa,rfl,rfl,SqL.of hp,rfl,_,rfl,a,7,rfl,rfl,.inr ⟨by decide,by decide⟩,_,rfl,p,[.ref sa,.int a,.int hd],0,.ref sa,rfl,rfl,SqL.of hp,rfl,sa,ns.map V.int,rfl,.inl sq,a*7,_,rfl,rfl,(by rw [lm];exact h3),sa,ns.map V.int,_,_,rfl,rfl,sq,(by rw [lm];exact ai),_,1000003,rfl,rfl,(by show (0:Int)<1000003;decide),_,rfl,a,1000003,rfl,rfl,.inr ⟨by decide,by decide⟩,_,_,rfl,rfl,?_⟩
     exact rest _ (by unfold Zh8;rw [if_neg h2,if_pos (by omega)])
    ·rw [lm,decide_eq_false h3]
     refine iteF ?_
     exact rest 0 (by unfold Zh8;rw [if_neg h2,if_neg (by omega)])
  ·rw [decide_eq_false hlt]
   refine iteF ?_
   exact last a hd none none none Hf H (.refl e1) st0 (by unfold Zb7;rw [if_neg hlt]) (by unfold Zb7;rw [if_neg hlt])
end K35
namespace TF
open PySem PySem.Spec PyProof.Rows L2
theorem ux0 {α:Type} (us:List α) (e:us.length=0):us=[]:=by cases us with | nil=>rfl | cons=>cases e
theorem ux1 {α:Type} (us:List α) (e:us.length=1):∃a,us=[a]:=by
 cases us with | nil=>cases e | cons a r=>cases ux0 r (Nat.succ.inj e);exact ⟨a,rfl⟩
theorem ux2 {α:Type} (us:List α) (e:us.length=2):∃a b,us=[a,b]:=by
 cases us with | nil=>cases e | cons a r=>obtain ⟨b,rfl⟩:=ux1 r (Nat.succ.inj e);exact ⟨a,b,rfl⟩
theorem ux3 {α:Type} (us:List α) (e:us.length=3):∃a b c,us=[a,b,c]:=by
 cases us with | nil=>cases e | cons a r=>obtain ⟨b,c,rfl⟩:=ux2 r (Nat.succ.inj e);exact ⟨a,b,c,rfl⟩
theorem ux4 {α:Type} (us:List α) (e:us.length=4):∃a b c d,us=[a,b,c,d]:=by
 cases us with | nil=>cases e | cons a r=>obtain ⟨b,c,d,rfl⟩:=ux3 r (Nat.succ.inj e);exact ⟨a,b,c,d,rfl⟩
theorem ux5 {α:Type} (us:List α) (e:us.length=5):∃a b c d f,us=[a,b,c,d,f]:=by
 cases us with | nil=>cases e | cons a r=>obtain ⟨b,c,d,f,rfl⟩:=ux4 r (Nat.succ.inj e);exact ⟨a,b,c,d,f,rfl⟩
theorem ux6 {α:Type} (us:List α) (e:us.length=6):∃a b c d f g,us=[a,b,c,d,f,g]:=by
 cases us with | nil=>cases e | cons a r=>obtain ⟨b,c,d,f,g,rfl⟩:=ux5 r (Nat.succ.inj e);exact ⟨a,b,c,d,f,g,rfl⟩
def IsC (K:PySem.W.Frag) (x:Str) (st:Stmt) (c:Addr):Prop:=∃(f:Addr) (fd:FuncData),PySem.W.nsIn K mainGlobals x=some (some (.ref f))/\Fun K x x st f fd/\fd.code=.ref c
def Is (K:PySem.W.Frag) (x:Str) (st:Stmt):Prop:=∃c,IsC K x st c
def fnO (x:Str) (st:Stmt) (pm:Value) (c:Addr):Obj:=⟨.type "function",none,.func (PySem.W.fnOf x x (ZcA st) (Zb9 st) (Zal st) .none .none .none pm none (.ref c) .none),#[]⟩
def cdO (x:Str) (t:Nat) (ln ac:Int) (a:Addr) (tx k:Nat) (v:Bool):Obj:=
 ⟨.type "code",none,.fields #[.str x t,.str x (t+1),.str "/claim/cut.py" (t+2),.int ln 0,.int ac 0,.int 0 0,.int 0 0,.int 3 0,.ref a,.bool true,.int tx 0,.ref (a+1),.none,
  (match v with | true=>.ref (a+2) | false=>.none),(match v with | true=>.ref (a+3) | false=>.none),.ref (match v with | true=>a+4 | false=>a+2),.int k 0,.int ln 0,.str "/claim/cut.py" (k+1)],#[]⟩
structure DRow where
 x:Str
 i:Nat
 t:Nat
 ln:Int
 ac:Int
 a:Addr
 k:Nat
 v:Bool
 pm:Str
 pt:Nat
def DRow.c (r:DRow):Addr:=match r.v with | true=>r.a+5 | false=>r.a+3
def dE (P:Params) (x:Str) (t:Nat) (v:Value):DictEntry:=⟨PyData.keyHash P x,.str x t,v⟩
abbrev nE (x:Str) (t:Nat) (a:Addr):Str×Nat×Addr:=(x,t,a)
abbrev dR (x:Str) (i t:Nat) (ln ac:Int) (a:Addr) (k:Nat) (v:Bool) (pm:Str) (pt:Nat):DRow:=⟨x,i,t,ln,ac,a,k,v,pm,pt⟩
def dRs (P:Params) (l:List (Str×Nat×Addr)):List DictEntry:=l.map fun e=>dE P e.1 e.2.1 (.ref e.2.2)
def Zta (top:Nat->Stmt) (tx:Nat) (m:List DictEntry) (n:Nat) (rs:List DRow):PySem.W.Frag:=
 (mainNs,⟨.type "dict",none,.dict m.toArray n,#[]⟩)::rs.flatMap fun r=>[(r.c,cdO r.x r.t r.ln r.ac r.a tx r.k r.v),(r.c+1,fnO r.x (top r.i) (.str r.pm r.pt) r.c)]
theorem is_mk {K:PySem.W.Frag} {x:Str} {st:Stmt} {pm:Value} {c f:Addr} (a:PySem.W.nsIn K mainGlobals x=some (some (.ref f))) (l:K.lookup f=some (fnO x st pm c)) (cd:PySem.W.codeIn K (.ref c) x=true):IsC K x st c:=
 ⟨f,_,a,Zss l cd (by unfold PySem.W.keepIn;dsimp only;rw [l];rfl),rfl⟩
theorem is_mkx {K:PySem.W.Frag} {x:Str} {st:Stmt} {pm:Value} {c f:Addr} (a:PySem.W.nsIn K mainGlobals x=some (some (.ref f))) (l:K.lookup f=some (fnO x st pm c)) (cd:PySem.W.codeIn K (.ref c) x=true):Is K x st:=⟨c,is_mk a l cd⟩
def Zsx:Stmt->Pos
 | .FunctionDef _ _ _ _ _ _ _ _ _ p=>p
 | _=>⟨0,0,0,0⟩
abbrev Zn4 (st:Stmt):DefRec:=⟨"law",ZcA st,Zb9 st,Zal st,Zsx st⟩
theorem head_of {l:PySem.W.OpenLaw} {q:Program} {K:Params->PySem.W.Frag} {as:List Addr} {e:∀P,as=(K P).map (·.1)} {N:Nat} {st:Stmt} (said:l.wellSaid=true)
  (left:PySem.W.LeftO l.prog q [] (fun s=>PySem.W.xlAt q [] s&&PySem.W.recOk l.row.records s) (PySem.W.kHook K as e).obs (PySem.W.kHook K as e).val N)
  (hdef:PySem.W.defOf q l.row.name=some (Zn4 st,[])) (hp:l.row.prog.theDef l.row.name=some (ZcA st,Zb9 st,Zal st))
  (hk:PySem.W.kwWritten? (ZcA st).kwonlyargs (ZcA st).kw_defaults=some [])
  (ok:(PySem.W.chainsOk q&&PySem.W.opensWell l.row.prog&&(PySem.W.frees l.row.toRowW&&l.row.within.isEmpty))=true) (hb:l.row.prog.bare) (hw:l.row.toRowW.promised) (hwr:(!l.row.writes||l.row.records.isEmpty)=true)
  (call:PySem.W.WalkO q [] (PySem.W.XL q []) (PySem.W.kHook K as e).says l.row.toRowW (Zn4 st) [] fun f vs=>PySem.call f vs):l.Holds:=
 PySem.W.holds_law said fun sd=>PySem.W.holds_open left (PySem.W.kHook K as e).of (PySem.W.kHook K as e).keeps (fun s z=>PySem.W.xl_of s (Bool.and_eq_true_iff.mp z).1) PySem.W.XL.keeps hdef hp hk (fun s z=>PySem.W.recFacts_of (Bool.and_eq_true_iff.mp z).2) hwr sd ok hb hw call
end TF
namespace TP
open PySem TF L2
theorem ZmQ:∀c a s,0<=a->Zb0 [.int c,.int a] s=some (.int (ZdG c a),s):=by
 intro c a s ha
 have hx0:=Int.emod_nonneg (c % 2147483647*48271+a*69621+11) (show (2147483629:Int)≠0 by decide)
 have hx1:=Int.emod_lt_of_pos (c % 2147483647*48271+a*69621+11) (show (0:Int)<2147483629 by decide)
 by_cases hc:10 ^ 18<=c
 ·have e:ZdG c a=c:=by unfold ZdG;rw [if_pos hc]
  rw [e]
  have:(1000000000000000000:Int)<=c:=by simpa using hc
  simp [Zb0,runB,ZeZ,sSeq,sIf,asB,dOp,dGe,dI,dVar,dC,Zan,mret,mOf,dPow,sRet,Zam,this]
 ·have e:¬(1000000000000000000:Int)<=c:=fun z=>hc (by simpa using z)
  generalize hx:(c % 2147483647*48271+a*69621+11) % 2147483629=x at hx0 hx1
  have hy0:=Int.emod_nonneg (x*x+48271*x+a) (show (2147483587:Int)≠0 by decide)
  have hy1:=Int.emod_lt_of_pos (x*x+48271*x+a) (show (0:Int)<2147483587 by decide)
  generalize hy:(x*x+48271*x+a) % 2147483587=y at hy0 hy1
  have ef:ZdG c a=y*2147483579+(y*y+69621*a) % 2147483579:=by
   unfold ZdG
   rw [if_neg hc]
   dsimp only
   rw [hx,hy]
  rw [ef]
  have m1:∀z:Int,0<=z->z<2147483648->∀w,ZfI z w=true:=fun z h1 h2 w=>by
   unfold ZfI;simp;left;omega
  have m2:∀z w:Int,0<=z->z<2147483648->ZfI w z=true:=fun z w h1 h2=>by
   unfold ZfI;simp;right;omega
  simp [Zb0,runB,ZeZ,sSeq,sIf,asB,dOp,dGe,dI,dVar,dC,Zan,mret,mOf,dPow,sRet,Zam,sSet,dMod,dMul,dAdd,e,hx,hy,m1 x hx0 (by omega),m1 y hy0 (by omega),m2 48271 _ (by decide) (by decide),m2 69621 _ (by decide) (by decide),m1 48271 (by decide) (by decide),m1 69621 (by decide) (by decide),m2 2147483579 _ (by decide) (by decide)]
end TP
namespace TP2
open PySem L2 TF TP
end TP2
namespace TP2
open PySem L2 TF TP
abbrev nD (i:Nat):D:=.int (i:Int)
def tupN (k:List Nat):D:=.tup (k.map nD)
def okK (ties:List (Nat×Nat)) (i:Nat) (k:List Nat):Bool:=k.all fun o=>decide ((o,i)∈ties)
def kn (ties:List (Nat×Nat)):Nat->List (List Nat)
 | 0=>[[]]
 | i+1=>kn ties i++((kn ties i).filter (okK ties i)).map (· ++ [i])
theorem ZkB {ties:List (Nat×Nat)}:∀{i:Nat} {k:List Nat},k∈kn ties i->(∀o∈k,o<i)/\k.length<=i
 | 0,k,h=>by
  have:k=[]:=by simpa [kn] using h
  subst this
  simp
 | i+1,k,h=>by
  rw [kn] at h
  rcases List.mem_append.mp h with h | h
  ·have:=ZkB h
   exact ⟨fun o ho=>Nat.lt_succ_of_lt (this.1 o ho),by omega⟩
  ·obtain ⟨q,hq,rfl⟩:=List.mem_map.mp h
   have:=ZkB (List.mem_filter.mp hq).1
   refine ⟨fun o ho=>?_,by simp;omega⟩
   rcases List.mem_append.mp ho with ho | ho
   ·exact Nat.lt_succ_of_lt (this.1 o ho)
   ·rw [List.mem_singleton.mp ho];omega
theorem Zl7 (ties:List (Nat×Nat)):∀i,∃r,kn ties i=[]::r
 | 0=>⟨[],rfl⟩
 | i+1=>by
  obtain ⟨r,e⟩:=Zl7 ties i
  refine ⟨r++((kn ties i).filter (okK ties i)).map (· ++ [i]),?_⟩
  rw [kn]
  conv=>lhs;lhs;rw [e]
  rfl
theorem Zsz (p:Nat×Nat) (ties:List (Nat×Nat)):dIn (Zaw p) (.dt (kvT [] ties))=some (.bl (decide (p∈ties))):=by
 have e:dInB (Zaw p) (.dt (kvT [] ties))=some (decide (p∈ties)):=by
  show (Zbp [.int (p.1:Int),.int (p.2:Int)]).map (fun k=>(valV (kvT [] ties) k).isSome)=_
  show some ((valV (kvT [] ties) (keyP p)).isSome)=_
  rw [ZkA]
  simp [valV]
 unfold dIn
 rw [e];rfl
theorem Zjq {α:Type} (l:List α) (p:α->Bool):dAll [.lst (l.map fun x=>D.bl (p x))]=some (.bl (l.all p)):=by
 show (Za6 _).map _=_
 rw [show l.map (fun x=>D.bl (p x))=(l.map p).map D.bl by rw [List.map_map];rfl,ZlD]
 show some (D.bl _)=some (D.bl _)
 rw [List.all_map];rfl
def ZaV (n:Nat) (ties:List (Nat×Nat)) (p:Nat):List Nat:=(List.range n).filter fun o=>tied ties p o
def ZbP (n:Nat) (ties:List (Nat×Nat)):D:=.lst ((List.range n).map fun p=>.lst ((ZaV n ties p).map nD))
theorem ZsA (a b:Nat):dEq (nD a) (nD b)=decide (a=b):=by
 show ((a:Int)==(b:Int))=_
 rw [Bool.eq_iff_iff,beq_iff_eq,decide_eq_true_eq]
 constructor <;> intro h <;> omega
theorem ZpB (o:Nat) (l:List Nat):inD (nD o) (l.map nD)=decide (o∈l):=by
 unfold inD
 induction l with
 | nil=>simp
 | cons t ts ih=>
  rw [List.map_cons,List.any_cons,ih,ZsA]
  by_cases h:t=o
  ·subst h;simp
  ·have:¬o=t:=fun z=>h z.symm
   simp [h,this]
theorem ZhI (l:List Nat):ZaS (l.map nD)=true:=by
 induction l with
 | nil=>simp [ZaS]
 | cons a l ih=>simp [ZaS,Zak,ih]
theorem Zmb (l:List Nat):deps (l.map nD)=0:=by
 induction l with
 | nil=>simp [deps]
 | cons a l ih=>simp [deps,dep,ih]
theorem ZpO (o:Nat) (l:List Nat):dIn (nD o) (.lst (l.map nD))=some (.bl (decide (o∈l))):=by
 have h:okIn (nD o) (l.map nD)=true:=by simp [okIn,Zak,ZhI,dep,Zmb]
 simp only [dIn,dInB,h,if_true,Option.map,ZpB]
end TP2
namespace TP2
open PySem L2 TF TP
def mxN (l:List Nat):Nat:=l.foldl max 0
theorem ZkP (l:List Nat):∀a,a<=l.foldl max a/\∀x∈l,x<=l.foldl max a:=by
 induction l with
 | nil=>intro a;simp
 | cons b l ih=>
  intro a
  obtain ⟨h1,h2⟩:=ih (max a b)
  refine ⟨?_,fun x hx=>?_⟩
  ·show a<=l.foldl max (max a b);omega
  ·show x<=l.foldl max (max a b)
   rcases List.mem_cons.mp hx with rfl | hx
   ·omega
   ·exact h2 x hx
theorem ZkO (l:List Nat) (b:Nat) (h:∀x∈l,x<=b):∀a,a<=b->l.foldl max a<=b:=by
 induction l with
 | nil=>intro a ha;exact ha
 | cons c l ih=>
  intro a ha
  exact ih (fun x hx=>h x (by simp [hx])) (max a c) (by have:=h c (by simp);omega)
theorem Zkw (l:List Nat):∀a:Nat,maxI (a:Int) (l.map fun (i:Nat)=>(i:Int))=((l.foldl max a:Nat):Int):=by
 induction l with
 | nil=>intro a;rfl
 | cons b l ih=>
  intro a
  show maxI (max (a:Int) (b:Int)) (l.map fun (i:Nat)=>(i:Int))=_
  rw [show max (a:Int) (b:Int)=((max a b:Nat):Int) by omega,ih]
  rfl
theorem ZeX (l:List Nat):Zau (l.map nD)=some (l.map fun (i:Nat)=>(i:Int)):=by
 have:=ZdD (l.map fun (i:Nat)=>(i:Int))
 rw [List.map_map] at this
 exact this
def ZdC (ties:List (Nat×Nat)) (n:Nat):List Nat:=(kn ties n).map List.length
theorem Zn0 (ties:List (Nat×Nat)) (n:Nat):∃r,ZdC ties n=0::r:=by
 obtain ⟨r,e⟩:=Zl7 ties n
 exact ⟨r.map List.length,by unfold ZdC;rw [e];rfl⟩
end TP2
namespace TP2
open PySem L2 TF TP
theorem Zj5:∀{a b:List Nat},a.Pairwise (· < ·)->b.Pairwise (· < ·)->(∀x,x∈a↔x∈b)->a=b
 | [],[],_,_,_=>rfl
 | [],y::b,_,_,h=>absurd ((h y).mpr (by simp)) (by simp)
 | x::a,[],_,_,h=>absurd ((h x).mp (by simp)) (by simp)
 | x::a,y::b,ha,hb,h=>by
  have ha':=List.pairwise_cons.mp ha
  have hb':=List.pairwise_cons.mp hb
  have e:x=y:=by
   have h1:=(h x).mp (by simp)
   have h2:=(h y).mpr (by simp)
   rcases List.mem_cons.mp h1 with h1 | h1
   ·exact h1
   ·rcases List.mem_cons.mp h2 with h2 | h2
    ·exact h2.symm
    ·have:=ha'.1 y h2
     have:=hb'.1 x h1
     omega
  subst e
  rw [Zj5 ha'.2 hb'.2 fun z=>?_]
  constructor
  ·intro hz
   rcases List.mem_cons.mp ((h z).mp (List.mem_cons_of_mem _ hz)) with e | e
   ·exact absurd (ha'.1 z hz) (by omega)
   ·exact e
  ·intro hz
   rcases List.mem_cons.mp ((h z).mpr (List.mem_cons_of_mem _ hz)) with e | e
   ·exact absurd (hb'.1 z hz) (by omega)
   ·exact e
theorem Zja {α:Type} (q:α->Bool):∀l:List α,l.length=(l.filter q).length+(l.filter fun x=>!q x).length
 | []=>rfl
 | a::l=>by
  have:=Zja q l
  cases h:q a with
  | true=>simp [List.filter_cons,h];omega
  | false=>simp [List.filter_cons,h];omega
end TP2
namespace TP2
open PySem L2 TF TP
def RT (ties:List (Nat×Nat)) (a b:Nat):Prop:=a<b/\(a,b)∈ties
theorem Zf5 {ties:List (Nat×Nat)}:∀{n:Nat} {k:List Nat},k∈kn ties n↔k.Pairwise (RT ties)/\∀o∈k,o<n
 | 0,k=>by
  constructor
  ·intro h
   have:k=[]:=by simpa [kn] using h
   subst this
   exact ⟨.nil,by simp⟩
  ·rintro ⟨_,h⟩
   cases k with
   | nil=>simp [kn]
   | cons a k=>exact absurd (h a (by simp)) (by omega)
 | n+1,k=>by
  rw [kn,List.mem_append]
  constructor
  ·rintro (h | h)
   ·have:=Zf5.mp h
    exact ⟨this.1,fun o ho=>Nat.lt_succ_of_lt (this.2 o ho)⟩
   ·obtain ⟨q,hq,rfl⟩:=List.mem_map.mp h
    obtain ⟨hq1,hq2⟩:=List.mem_filter.mp hq
    have:=Zf5.mp hq1
    unfold okK at hq2
    rw [List.all_eq_true] at hq2
    refine ⟨List.pairwise_append.mpr ⟨this.1,by simp,fun a ha b hb=>?_⟩,fun o ho=>?_⟩
    ·rw [List.mem_singleton.mp hb]
     exact ⟨this.2 a ha,by simpa using hq2 a ha⟩
    ·rcases List.mem_append.mp ho with ho | ho
     ·exact Nat.lt_succ_of_lt (this.2 o ho)
     ·rw [List.mem_singleton.mp ho];omega
  ·rintro ⟨h1,h2⟩
   by_cases hn:n∈k
   ·right
    obtain ⟨a,b,rfl⟩:=List.append_of_mem hn
    have hp:=List.pairwise_append.mp h1
    have hb:b=[]:=by
     cases b with
     | nil=>rfl
     | cons y b=>
      have r1:=(List.pairwise_cons.mp hp.2.1).1 y (by simp)
      have:=h2 y (by simp)
      have:=r1.1
      omega
    subst hb
    have ha:∀o∈a,RT ties o n:=fun o ho=>hp.2.2 o ho n (by simp)
    refine List.mem_map.mpr ⟨a,List.mem_filter.mpr ⟨Zf5.mpr ⟨hp.1,fun o ho=>(ha o ho).1⟩,?_⟩,rfl⟩
    unfold okK
    rw [List.all_eq_true]
    exact fun o ho=>by simpa using (ha o ho).2
   ·left
    refine Zf5.mpr ⟨h1,fun o ho=>?_⟩
    have:=h2 o ho
    have:o≠n:=fun z=>hn (z▸ho)
    omega
theorem Zhi (ties:List (Nat×Nat)):∀n,(kn ties n).Nodup
 | 0=>by simp [kn]
 | n+1=>by
  rw [kn]
  refine List.pairwise_append.mpr ⟨Zhi ties n,?_,fun a ha b hb e=>?_⟩
  ·refine List.pairwise_map.mpr (((Zhi ties n).sublist List.filter_sublist).imp fun h e=>h ?_)
   exact List.append_cancel_right e
  ·obtain ⟨q,_,rfl⟩:=List.mem_map.mp hb
   have:=(ZkB ha).1 n (by rw [e];simp)
   omega
theorem Zny {R:Nat->Nat->Prop} {k:List Nat} (hr:k.Pairwise (· < ·)) (h:k.Pairwise R) {a b:Nat} (ha:a∈k) (hb:b∈k) (hab:a<b):R a b:=by
 obtain ⟨i,hi,rfl⟩:=List.getElem_of_mem ha
 obtain ⟨j,hj,rfl⟩:=List.getElem_of_mem hb
 have p1:=List.pairwise_iff_getElem.mp hr
 have p2:=List.pairwise_iff_getElem.mp h
 rcases Nat.lt_trichotomy i j with z | z | z
 ·exact p2 i j hi hj z
 ·subst z;exact absurd hab (Nat.lt_irrefl _)
 ·have:=p1 j i hj hi z;omega
theorem IsWeb.irr {n:Nat} {ties:List (Nat×Nat)} (h:IsWeb n ties) (a:Nat):tied ties a a=false:=by
 unfold tied
 rw [decide_eq_false_iff_not]
 intro z
 have h1:min a a<max a a:=(TP.IsWeb.mem h z).1
 omega
end TP2
namespace TP3
open PySem L2 TF TP TS
open TP2
def ZbB (k:List Nat):List Int:=k.map fun (x:Nat)=>(x:Int)
end TP3
namespace TP3
open PySem L2 TF TP TS
open TP2
theorem Za1 {n:Nat} {ties:List (Nat×Nat)} {k:List Nat}:k∈kn ties n↔k.Pairwise (· < ·)/\(∀o∈k,o<n)/\∀a∈k,∀b∈k,a≠b->tied ties a b=true:=by
 rw [Zf5]
 constructor
 ·rintro ⟨h1,h2⟩
  have hr:k.Pairwise (· < ·):=h1.imp fun h=>h.1
  refine ⟨hr,h2,fun a ha b hb hab=>?_⟩
  by_cases hlt:a<b
  ·rw [Ze2 hlt];simpa using (Zny hr h1 ha hb hlt).2
  ·have hlt:b<a:=by omega
   rw [ZcI,Ze2 hlt];simpa using (Zny hr h1 hb ha hlt).2
 ·rintro ⟨hr,h2,h3⟩
  refine ⟨?_,h2⟩
  refine List.Pairwise.imp_of_mem (fun {a b} ha hb hab=>?_) hr
  refine ⟨hab,?_⟩
  have:=h3 a ha b hb (by omega)
  rw [Ze2 hab] at this
  simpa using this
def img (n:Nat) (f:Nat->Nat) (k:List Nat):List Nat:=(List.range n).filter fun x=>decide (x∈k.map f)
theorem Zcq (n:Nat):(List.range n).Pairwise (· < ·):=List.pairwise_lt_range
theorem ZkF (n:Nat) (f:Nat->Nat) (k:List Nat):(img n f k).Pairwise (· < ·):=(Zcq n).sublist List.filter_sublist
theorem ZcY {n:Nat} {f:Nat->Nat} {k:List Nat} {x:Nat}:x∈img n f k↔x<n/\∃a∈k,f a=x:=by
 unfold img
 rw [List.mem_filter,List.mem_range,decide_eq_true_eq,List.mem_map]
theorem ZbK {k:List Nat} (h:k.Pairwise (· < ·)):k.Nodup:=h.imp fun h=>by omega
structure Emb (m n:Nat) (f:Nat->Nat) (tm tn:List (Nat×Nat)):Prop where
 lt:∀a,a<m->f a<n
 inj:∀a b,a<m->b<m->f a=f b->a=b
 td:∀a b,a<m->b<m->tied tm a b=tied tn (f a) (f b)
section
variable {m n:Nat} {f:Nat->Nat} {tm tn:List (Nat×Nat)}
theorem ZkG (E:Emb m n f tm tn) {k:List Nat} (hr:k.Pairwise (· < ·)) (hm:∀o∈k,o<m):(img n f k).Perm (k.map f):=by
 refine (List.perm_ext_iff_of_nodup (ZbK (ZkF n f k)) ?_).mpr fun x=>?_
 ·refine List.pairwise_map.mpr (List.Pairwise.imp_of_mem (fun {a b} ha hb hab e=>?_) hr)
  have:=E.inj a b (hm a ha) (hm b hb) e
  omega
 ·rw [ZcY,List.mem_map]
  exact ⟨fun h=>h.2,fun h=>⟨by obtain ⟨a,ha,rfl⟩:=h;exact E.lt a (hm a ha),h⟩⟩
theorem Zre (E:Emb m n f tm tn) {k:List Nat} (hr:k.Pairwise (· < ·)) (hm:∀o∈k,o<m):(img n f k).length=k.length:=by
 rw [(ZkG E hr hm).length_eq,List.length_map]
theorem Zrf (E:Emb m n f tm tn) {k k':List Nat} (hr:k.Pairwise (· < ·)) (hm:∀o∈k,o<m) (hr':k'.Pairwise (· < ·)) (hm':∀o∈k',o<m) (e:img n f k=img n f k'):k=k':=by
 have one:∀{k k':List Nat},(∀o∈k,o<m)->(∀o∈k',o<m)->img n f k=img n f k'->∀x∈k,x∈k':=fun {k k'} hm hm' e x hx=>by
  have:f x∈img n f k':=e▸ZcY.mpr ⟨E.lt x (hm x hx),x,hx,rfl⟩
  obtain ⟨_,a,ha,q⟩:=ZcY.mp this
  rw [<-E.inj a x (hm' a ha) (hm x hx) q];exact ha
 exact Zj5 hr hr' fun x=>⟨one hm hm' e x,one hm' hm e.symm x⟩
theorem Zol (E:Emb m n f tm tn) {k:List Nat} (hr:k.Pairwise (· < ·)) (hm:∀o∈k,o<m):img n f k∈kn tn n↔k∈kn tm m:=by
 rw [Za1,Za1]
 constructor
 ·rintro ⟨_,_,h⟩
  refine ⟨hr,hm,fun a ha b hb hab=>?_⟩
  rw [E.td a b (hm a ha) (hm b hb)]
  exact h _ (ZcY.mpr ⟨E.lt a (hm a ha),a,ha,rfl⟩) _ (ZcY.mpr ⟨E.lt b (hm b hb),b,hb,rfl⟩) fun z=>hab (E.inj a b (hm a ha) (hm b hb) z)
 ·rintro ⟨_,_,h⟩
  refine ⟨ZkF n f k,fun o ho=>(ZcY.mp ho).1,fun x hx y hy hxy=>?_⟩
  obtain ⟨_,a,ha,rfl⟩:=ZcY.mp hx
  obtain ⟨_,b,hb,rfl⟩:=ZcY.mp hy
  rw [<-E.td a b (hm a ha) (hm b hb)]
  exact h a ha b hb fun z=>hxy (by rw [z])
theorem ZcQ {α:Type} [BEq α] [LawfulBEq α]:∀{a b:List α},a.Nodup->(∀x∈a,x∈b)->a.length<=b.length
 | [],_,_,_=>by simp
 | x::a,b,nd,h=>by
  have nd':=List.nodup_cons.mp nd
  have hx:=h x (by simp)
  have ih:=ZcQ (a:=a) (b:=b.erase x) nd'.2 fun y hy=>(List.mem_erase_of_ne (fun (z:y=x)=>nd'.1 (by rw [<-z];exact hy))).mpr (h y (by simp [hy]))
  have:=List.length_erase_of_mem hx
  have:0<b.length:=List.length_pos_of_mem hx
  simp only [List.length_cons];omega
theorem Zgk {α:Type} (g:α->Nat) (j:Nat):∀l:List α,(l.map g).count j=(l.filter fun x=>g x==j).length
 | []=>rfl
 | a::l=>by
  rw [List.map_cons,List.count_cons,Zgk g j l,List.filter_cons]
  cases h:g a==j <;> simp
theorem Zot (E:Emb m n f tm tn) (j:Nat):(ZdC tm m).count j<=(ZdC tn n).count j:=by
 unfold ZdC
 rw [Zgk,Zgk]
 have h1:(((kn tm m).filter fun x=>x.length==j).map (img n f)).length=((kn tm m).filter fun x=>x.length==j).length:=List.length_map ..
 rw [<-h1]
 refine ZcQ ?_ fun x hx=>?_
 ·refine List.pairwise_map.mpr (List.Pairwise.imp_of_mem (fun {a b} ha hb hab e=>?_) ((Zhi tm m).sublist List.filter_sublist))
  have ha:=Za1.mp (List.mem_filter.mp ha).1
  have hb:=Za1.mp (List.mem_filter.mp hb).1
  exact hab (Zrf E ha.1 ha.2.1 hb.1 hb.2.1 e)
 ·obtain ⟨k,hk,rfl⟩:=List.mem_map.mp hx
  obtain ⟨hk1,hk2⟩:=List.mem_filter.mp hk
  have hk:=Za1.mp hk1
  exact List.mem_filter.mpr ⟨(Zol E hk.1 hk.2.1).mpr hk1,by rw [Zre E hk.1 hk.2.1];exact hk2⟩
theorem Zl3 {l:List Nat} (h:∃r,l=0::r):mxN l∈l:=by
 have key:∀(l:List Nat) (a:Nat),l.foldl max a=a∨l.foldl max a∈l:=by
  intro l
  induction l with
  | nil=>intro a;exact .inl rfl
  | cons b l ih=>
   intro a
   show l.foldl max (max a b)=a∨l.foldl max (max a b)∈b::l
   rcases ih (max a b) with e | e
   ·rcases Nat.le_total a b with h | h
    ·right;rw [e,Nat.max_eq_right h];simp
    ·left;rw [e,Nat.max_eq_left h]
   ·right;exact List.mem_cons_of_mem _ e
 obtain ⟨r,rfl⟩:=h
 rcases key (0::r) 0 with e | e
 ·unfold mxN;rw [e];simp
 ·exact e
theorem ZhQ {l:List Nat} {x:Nat} (h:x∈l):x<=mxN l:=(ZkP l 0).2 x h
theorem Zsw (E:Emb m n f tm tn):mxN (ZdC tm m)<=mxN (ZdC tn n):=by
 have h:=Zl3 (Zn0 tm m)
 have h1:0<(ZdC tm m).count (mxN (ZdC tm m)):=List.count_pos_iff.mpr h
 have h2:=Zot E (mxN (ZdC tm m))
 exact ZhQ (List.count_pos_iff.mp (by omega))
end
def anew (ties:List (Nat×Nat)) (ps:List Nat):List (Nat×Nat):=(allP ps.length).filter fun p=>tied ties (ps.getD p.1 0) (ps.getD p.2 0)
theorem Zb5 (ties:List (Nat×Nat)) (ps:List Nat):IsWeb ps.length (anew ties ps):=IsWeb.filter _
theorem Zjp {n:Nat} {ties:List (Nat×Nat)} (hw:IsWeb n ties) {ps:List Nat} {a b:Nat} (ha:a<ps.length) (hb:b<ps.length):tied (anew ties ps) a b=tied ties (ps.getD a 0) (ps.getD b 0):=by
 have lt:∀{a b:Nat},a<b->b<ps.length->tied (anew ties ps) a b=tied ties (ps.getD a 0) (ps.getD b 0):=fun {a b} hab hb=>by
  rw [Ze2 hab]
  unfold anew
  rw [Bool.eq_iff_iff,decide_eq_true_eq,List.mem_filter,ZdR]
  exact ⟨fun h=>h.2,fun h=>⟨⟨hab,hb⟩,h⟩⟩
 rcases Nat.lt_trichotomy a b with h | h | h
 ·exact lt h hb
 ·subst h;rw [IsWeb.irr (Zb5 ties ps),IsWeb.irr hw]
 ·rw [ZcI,lt h ha,ZcI]
theorem ZkT {n:Nat} {ties:List (Nat×Nat)} (hw:IsWeb n ties) {ps:List Nat} (nd:ps.Nodup) (hp:∀o∈ps,o<n):Emb ps.length n (fun i=>ps.getD i 0) (anew ties ps) ties where
 lt:=fun a ha=>by
  rw [List.getD_eq_getElem?_getD,List.getElem?_eq_getElem ha]
  exact hp _ (List.getElem_mem ha)
 inj:=fun a b ha hb e=>by
  rw [List.getD_eq_getElem?_getD,List.getElem?_eq_getElem ha,List.getD_eq_getElem?_getD,List.getElem?_eq_getElem hb] at e
  exact (List.getElem_inj nd).mp e
 td:=fun a b ha hb=>Zjp hw ha hb
end TP3
namespace TP3
open PySem L2 TF TP TS
open TP2
theorem ZeD (ties:List (Nat×Nat)) (a b:Nat) (s:Pn):Za5 [.dt (kvT [] ties),.int a,.int b] s=some (.bl (tied ties a b),s):=by
 simp [Za5,ZfC,runB,sSeq,sRet,Zam,dOp,ZaD,Zac,dNil,dTup,dVar,Zan,mret,mOf,Zh3,ZfF,Zc5,ZhR,Zsz,tied]
theorem Zgz {as:List Nat} {j:Nat} (hj:j<as.length):atI (as.map nD) (j:Int)=some (nD (as.getD j 0)):=by
 refine ZbJ ?_
 rw [List.getElem?_map,List.getD_eq_getElem?_getD,List.getElem?_eq_getElem hj]
 rfl
theorem Zn1 (ps:List Nat):dLen [.lst (ps.map nD)]=some (nD ps.length):=by
 show some (D.int ((ps.map nD).length:Nat))=_
 rw [List.length_map]
end TP3
namespace TP3
open PySem L2 TF TP TS
open TP2
theorem Zl1 {d:D} (h:Zak d=true) (hd:dep d<=60):dNeO d d=some (.bl false):=by
 unfold dNeO okEq
 rw [if_pos (by simp [h,hd]),ZfH d h];rfl
theorem Zrk {d:D} (h:Zak d=true) (hd:dep d<=60):dEqO d d=some (.bl true):=by
 unfold dEqO okEq
 rw [if_pos (by simp [h,hd]),ZfH d h]
end TP3
namespace TP3
open PySem L2 TF TP TS
open TP2
def ZeO (l:List Nat):List Nat:=(List.range (l.length+1)).filter fun h=>!decide (h∈l)
theorem Zma (l:List Nat):ZeO l≠[]:=fun h=>by
 have:=ZcQ (a:=List.range (l.length+1)) (b:=l) List.nodup_range fun x hx=>by
  by_cases m:x∈l
  ·exact m
  ·have:x∈ZeO l:=List.mem_filter.mpr ⟨hx,by simpa using m⟩
   rw [h] at this;simp at this
 rw [List.length_range] at this
 omega
def mex (l:List Nat):Nat:=(ZeO l).headD 0
theorem Zfy (l:List Nat):mex l∉l/\∀x<mex l,x∈l:=by
 have hne:=Zma l
 cases e:ZeO l with
 | nil=>exact absurd e hne
 | cons m r=>
  have hm:mex l=m:=by unfold mex;rw [e];rfl
  have h1:m∈ZeO l:=by rw [e];simp
  have h2:=List.mem_filter.mp h1
  rw [hm]
  refine ⟨by simpa using h2.2,fun x hx=>?_⟩
  by_cases mx:x∈l
  ·exact mx
  ·have hr:=List.mem_range.mp h2.1
   have h3:x∈ZeO l:=List.mem_filter.mpr ⟨List.mem_range.mpr (by omega),by simpa using mx⟩
   have h4:(ZeO l).Pairwise (· < ·):=(Zcq _).sublist List.filter_sublist
   rw [e] at h3 h4
   rcases List.mem_cons.mp h3 with z | z
   ·omega
   ·have:=(List.pairwise_cons.mp h4).1 x z
    omega
theorem Zpt {l:List Nat} {m:Nat} (h1:m∉l) (h2:∀x<m,x∈l):m=mex l:=by
 obtain ⟨g1,g2⟩:=Zfy l
 rcases Nat.lt_trichotomy m (mex l) with h | h | h
 ·exact absurd (g2 m h) h1
 ·exact h
 ·exact absurd (h2 _ h) g1
theorem Zi8 {l l':List Nat} (h:∀x,x∈l↔x∈l'):mex l=mex l':=by
 obtain ⟨g1,g2⟩:=Zfy l
 exact Zpt (fun z=>g1 ((h _).mpr z)) fun x hx=>(h x).mp (g2 x hx)
theorem Zsd (l:List Nat):mex l<=l.length:=by
 have h:=ZcQ (a:=List.range (mex l)) (b:=l) List.nodup_range fun x hx=>(Zfy l).2 x (List.mem_range.mp hx)
 rw [List.length_range] at h;exact h
theorem ZnY {n:Int} {r:List Int} (h:∀a∈r,n<=a):minI n r=n:=(Zks (by simp) fun a ha=>by
 rcases List.mem_cons.mp ha with rfl | ha
 ·exact Int.le_refl _
 ·exact h a ha).symm
theorem Zpr {l:List Nat} (hr:l.Pairwise (· < ·)) (hn:l≠[]):Zm3 [.lst (l.map nD)]=some (nD (l.headD 0)):=by
 cases l with
 | nil=>exact absurd rfl hn
 | cons m r=>
  have e:Zau ((m::r).map nD)=some ((m:Int)::r.map fun (i:Nat)=>(i:Int)):=ZeX (m::r)
  show (match Zau ((m::r).map nD) with | some (n::r)=>some (D.int (minI n r)) | _=>none)=_
  rw [e]
  show some (D.int (minI (m:Int) (r.map fun (i:Nat)=>(i:Int))))=_
  rw [ZnY fun a ha=>?_]
  ·rfl
  ·obtain ⟨x,hx,rfl⟩:=List.mem_map.mp ha
   have:=(List.pairwise_cons.mp hr).1 x hx
   omega
theorem Zq6 (l:List D):dLen [.lst l]=some (nD l.length):=rfl
theorem Zlz (o:Nat) (l:List Nat):Zda (nD o) (.lst (l.map nD))=some (.bl (!decide (o∈l))):=by
 have h:=ZpO o l
 unfold dIn at h
 unfold Zda
 cases e:dInB (nD o) (.lst (l.map nD)) with
 | none=>rw [e] at h;cases h
 | some b=>
  rw [e] at h
  have h:=Option.some.inj h
  have h:=D.bl.inj h
  subst h
  rfl
theorem ZjA (l:List Nat) (hl:l.length<=1000) (s:Pn):Zb6 [.lst (l.map nD)] s=some (nD (mex l),s):=by
 have hc:=Zbc (src:=[none,some 0]) (fi:=ZaU (dOp dAdd (ZaD dLen (Zac (dVar 0) dNil)) (dC (.int 1)))) (τ:=gOne 0) (ft:=asB (dOp Zda (dVar 0) (dVar 1))) (fe:=dVar 0) (ρ:=[some (.lst (l.map nD))]) (s:=s) (ds:=ZaH 0 (l.length+1)) (fun d=>[some d,some (.lst (l.map nD))]) (fun d=>!decide (nat0 d∈l)) (fun d=>d)
  (Zbd (n:=l.length+1) (Zah (d:=nD l.length) (e:=.int 1) (ZaR (Zad rfl rfl) (by rw [Zq6,List.length_map])) rfl rfl) (by omega)) (by rw [Za8,ZaG];omega) (fun d hd=>by
  obtain ⟨i,hi,rfl⟩:=Zct hd
  exact ⟨rfl,ZaC (Zah (d:=nD i) (e:=.lst (l.map nD)) rfl rfl (Zlz i l)),fun _=>rfl⟩)
 rw [Ze0 (l.length+1) fun h=>!decide (h∈l)] at hc
 refine ZaN rfl (ZaE (ZaM (ZaR (Zad hc rfl) ?_)))
 exact Zpr (l:=ZeO l) ((Zcq _).sublist List.filter_sublist) (Zma l)
def hr (ties:List (Nat×Nat)):List Nat->Nat->Nat
 | [],_=>0
 | p::qs,x=>if x=p then mex ((qs.filter fun o=>tied ties p o).map (hr ties qs)) else hr ties qs x
def kvF (qs:List Nat) (f:Nat->Nat):List (Key×V):=qs.map fun (q:Nat)=>(Sum.inl (q:Int),V.int (f q))
theorem Zfe {f:Nat->Nat} {x:Nat}:∀qs:List Nat,valV (kvF qs f) (Sum.inl (x:Int))=if x∈qs then some (.int (f x)) else none
 | []=>rfl
 | q::qs=>by
  by_cases e:q=x
  ·subst e
   show valV ((Sum.inl (q:Int),V.int (f q))::kvF qs f) _=_
   rw [ZbE rfl];simp
  ·have hn:¬((Sum.inl (q:Int):Key)=Sum.inl (x:Int)):=fun z=>by
    have:=Sum.inl.inj z
    omega
   show valV ((Sum.inl (q:Int),V.int (f q))::kvF qs f) _=_
   rw [ZbF hn,Zfe qs]
   have:x≠q:=fun z=>e z.symm
   simp [this]
theorem Zn6 {f g:Nat->Nat} {qs:List Nat} (h:∀q∈qs,f q=g q):kvF qs f=kvF qs g:=List.map_congr_left fun q hq=>by rw [h q hq]
theorem Zsf (qs:List Nat) (f:Nat->Nat) (x:Nat):dIn (nD x) (.dk (kvF qs f))=some (.bl (decide (x∈qs))):=by
 show ((some (Sum.inl (x:Int):Key)).map fun k=>(valV (kvF qs f) k).isSome).map D.bl=_
 simp only [Option.map_some]
 rw [Zfe]
 by_cases h:x∈qs <;> simp [h]
theorem Zn5 {qs:List Nat} {f:Nat->Nat} {x:Nat} (h:x∈qs):dIxK (.dk (kvF qs f)) (nD x)=some (nD (f x)):=by
 show (valV (kvF qs f) (Sum.inl (x:Int))).bind vD=_
 rw [Zfe,if_pos h]
 rfl
theorem Zl6 {qs:List Nat} {f:Nat->Nat} {p h:Nat} (hp:p∉qs):putK (kvF qs f) (Sum.inl (p:Int)) (.int (h:Int))=kvF (qs ++ [p]) fun x=>if x=p then h else f x:=by
 rw [Zj8 _ (by rw [Zfe,if_neg hp])]
 have e:kvF qs (fun x=>if x=p then h else f x)=kvF qs f:=Zn6 fun q hq=>if_neg fun (z:q=p)=>hp (z▸hq)
 show kvF qs f++_=(qs ++ [p]).map _
 rw [List.map_append,<-e]
 show _++_=kvF qs _ ++ [(Sum.inl (p:Int),V.int ((if p=p then h else f p:Nat):Int))]
 rw [if_pos rfl]
theorem ZeH {ps:List Nat} {k p:Nat} (h:ps[k]?=some p):ps.take (k+1)=ps.take k ++ [p]:=by
 obtain ⟨hl,e⟩:=List.getElem?_eq_some_iff.mp h
 rw [List.take_succ_eq_append_getElem hl,e]
theorem Zmr {ps:List Nat} {k p:Nat} (nd:ps.Nodup) (h:ps[k]?=some p):p∉ps.take k:=fun m=>by
 have h2:(ps.take (k+1)).Nodup:=nd.sublist (List.take_sublist _ _)
 rw [ZeH h] at h2
 have:=(List.nodup_append.mp h2).2.2 p m p (by simp)
 exact this rfl
theorem ZlS {i:Nat} {fx fv:Rho->M D} {ρ:Rho} {s:Pn} {x v:D} {kvs:List (Key×V)} {key:Key} {w:V} (h1:fv ρ s=some (v,s)) (h2:fx ρ s=some (x,s)) (h3:(ρ[i]?).bind id=some (.dk kvs)) (h4:Zbx x=some key) (h5:ZcU v=some w) (hl:kvs.length<sizeLine) :
  Zft i fx fv ρ s=some (.nx (ρ.set i (some (.dk (putK kvs key w)))),s):=by
 unfold Zft Zan
 rw [h1];simp only;rw [h2];simp only;rw [h3];simp only;rw [h4,h5];simp only
 rw [if_pos hl];rfl
theorem Zrg (ties:List (Nat×Nat)) {ps:List Nat} {k p:Nat} (h:ps[k]?=some p):hr ties (ps.take (k+1)).reverse=fun x=>if x=p then mex (((ps.take k).filter fun o=>tied ties p o).map (hr ties (ps.take k).reverse)) else hr ties (ps.take k).reverse x:=by
 rw [ZeH h,List.reverse_append]
 funext x
 show (if x=p then mex (((ps.take k).reverse.filter fun o=>tied ties p o).map (hr ties (ps.take k).reverse)) else _)=_
 by_cases e:x=p
 ·rw [if_pos e,if_pos e]
  refine Zi8 fun y=>?_
  simp only [List.mem_map,List.mem_filter,List.mem_reverse]
 ·rw [if_neg e,if_neg e];rfl
def Zdl (n:Nat) (ties:List (Nat×Nat)) (ps:List Nat):List Nat:=(List.range n).map (hr ties ps.reverse)
end TP3
namespace TP3
open PySem L2 TF TP TS
open TP2
section
variable (ap:Nat->Nat->Bool)
def cntA (ps:List Nat) (p:Nat):Nat:=(ps.filter fun o=>ap p o).length
def Zbk (ps:List Nat) (p:Nat):List Nat:=ps.filter fun o=>!decide (o=p) && !ap p o
def ZaI (ps:List Nat):Nat:=ps.getD ((ps.map (cntA ap ps)).idxOf (mxN (ps.map (cntA ap ps)))) 0
structure KnA (ps K:List Nat):Prop where
 nd:K.Nodup
 sub:∀x∈K,x∈ps
 two:∀x∈K,∀y∈K,x≠y->ap x y=false
end
section
variable {ap:Nat->Nat->Bool}
theorem Zf4 {l:List Nat} (h:l≠[]):mxN l∈l:=by
 have:=Zl3 (l:=0::l) ⟨l,rfl⟩
 have e:mxN (0::l)=mxN l:=rfl
 rw [e] at this
 rcases List.mem_cons.mp this with z | z
 ·cases l with
  | nil=>exact absurd rfl h
  | cons a r=>
   have h1:=ZhQ (l:=a::r) (x:=a) (by simp)
   have h2:a=0:=by omega
   rw [z,h2];simp
 ·exact z
theorem Zqz {ps:List Nat} (f:Nat->Nat) {v:Nat} (h:v∈ps.map f):ps.getD ((ps.map f).idxOf v) 0∈ps/\f (ps.getD ((ps.map f).idxOf v) 0)=v:=by
 have hl:=List.idxOf_lt_length_iff.mpr h
 have e:=List.getElem_idxOf hl
 rw [List.getElem_map] at e
 have hl':(ps.map f).idxOf v<ps.length:=by simpa using hl
 rw [List.getD_eq_getElem?_getD,List.getElem?_eq_getElem hl']
 exact ⟨List.getElem_mem hl',e⟩
theorem Zdz {ps:List Nat} (h:ps≠[]):ZaI ap ps∈ps:=(Zqz (cntA ap ps) (Zf4 (by simpa using h))).1
theorem ZcL {ps:List Nat} {p:Nat}:∀x∈Zbk ap ps p,x∈ps/\x≠p/\ap p x=false:=fun x hx=>by
 obtain ⟨h1,h2⟩:=List.mem_filter.mp hx
 simp only [Bool.and_eq_true,Bool.not_eq_true',decide_eq_false_iff_not] at h2
 exact ⟨h1,h2.1,h2.2⟩
theorem ZeP {ps:List Nat} {p:Nat} (h:p∈ps) (f:Nat->Bool) (hf:f p=false):(ps.filter f).length<ps.length:=by
 induction ps with
 | nil=>simp at h
 | cons a r ih=>
  have hr:=List.length_filter_le f r
  rcases List.mem_cons.mp h with e | h
  ·subst e
   rw [List.filter_cons_of_neg (by simpa using hf)]
   simp only [List.length_cons];omega
  ·have:=ih h
   by_cases fa:f a=true
   ·rw [List.filter_cons_of_pos fa];simp only [List.length_cons];omega
   ·rw [List.filter_cons_of_neg fa];simp only [List.length_cons];omega
theorem Zj6 {ps:List Nat} {p:Nat} (h:p∈ps):(Zbk ap ps p).length<ps.length:=ZeP h _ (by simp)
theorem Zhq {ps:List Nat} {p:Nat} (h:p∈ps):(ps.filter fun o=>!decide (o=p)).length<ps.length:=ZeP h _ (by simp)
theorem KnA.with {ps K:List Nat} {p:Nat} (sy:∀a b,ap a b=ap b a) (hp:p∈ps) (h:KnA ap (Zbk ap ps p) K):KnA ap ps (p::K) where
 nd:=List.nodup_cons.mpr ⟨fun z=>(ZcL p (h.sub p z)).2.1 rfl,h.nd⟩
 sub:=fun x hx=>by
  rcases List.mem_cons.mp hx with e | hx
  ·rw [e];exact hp
  ·exact (ZcL x (h.sub x hx)).1
 two:=fun x hx y hy ne=>by
  rcases List.mem_cons.mp hx with e | hx
  ·rcases List.mem_cons.mp hy with e' | hy
   ·exact absurd (e.trans e'.symm) ne
   ·rw [e];exact (ZcL y (h.sub y hy)).2.2
  ·rcases List.mem_cons.mp hy with e' | hy
   ·rw [e',sy];exact (ZcL x (h.sub x hx)).2.2
   ·exact h.two x hx y hy ne
theorem KnA.mono {ps qs K:List Nat} (h:KnA ap ps K) (s:∀x∈ps,x∈qs):KnA ap qs K:=⟨h.nd,fun x hx=>s x (h.sub x hx),h.two⟩
theorem KnA.rest {ps K:List Nat} {p:Nat} (h:KnA ap ps K):KnA ap (Zbk ap ps p) (K.filter fun o=>!decide (o=p) && !ap p o) where
 nd:=h.nd.sublist List.filter_sublist
 sub:=fun x hx=>by
  obtain ⟨h1,h2⟩:=List.mem_filter.mp hx
  exact List.mem_filter.mpr ⟨h.sub x h1,h2⟩
 two:=fun x hx y hy=>h.two x (List.mem_filter.mp hx).1 y (List.mem_filter.mp hy).1
theorem Znz (ir:∀a,ap a a=false) {K:List Nat} {p:Nat} {ps:List Nat} (h:KnA ap ps K) (hm:p∈K∨cntA ap ps p<=1):K.length<=(K.filter fun o=>!decide (o=p) && !ap p o).length+1:=by
 have e:=Zja (fun o=>!decide (o=p) && !ap p o) K
 have hd:(K.filter fun o=>!(!decide (o=p) && !ap p o)).length<=1:=by
  have nd:(K.filter fun o=>!(!decide (o=p) && !ap p o)).Nodup:=h.nd.sublist List.filter_sublist
  by_cases hp:p∈K
  ·have:=ZcQ (b:=[p]) nd fun x hx=>by
    obtain ⟨h1,h2⟩:=List.mem_filter.mp hx
    by_cases z:x=p
    ·simp [z]
    ·have:=h.two p hp x h1 (Ne.symm z)
     simp [z,this] at h2
   simpa using this
  ·have hc:=hm.resolve_left hp
   have:=ZcQ (b:=ps.filter fun o=>ap p o) nd fun x hx=>by
    obtain ⟨h1,h2⟩:=List.mem_filter.mp hx
    have z:x≠p:=fun z=>hp (z▸h1)
    simp [z] at h2
    exact List.mem_filter.mpr ⟨h.sub x h1,h2⟩
   unfold cntA at hc
   omega
 omega
end
def kvA (l:List Nat):List (Key×V):=l.map fun (o:Nat)=>(Sum.inl (o:Int),V.bl true)
theorem ZiB {x:Nat}:∀l:List Nat,valV (kvA l) (Sum.inl (x:Int))=if x∈l then some (.bl true) else none
 | []=>rfl
 | q::qs=>by
  by_cases e:q=x
  ·subst e
   show valV ((Sum.inl (q:Int),V.bl true)::kvA qs) _=_
   rw [ZbE rfl];simp
  ·have hn:¬((Sum.inl (q:Int):Key)=Sum.inl (x:Int)):=fun z=>by
    have:=Sum.inl.inj z
    omega
   show valV ((Sum.inl (q:Int),V.bl true)::kvA qs) _=_
   rw [ZbF hn,ZiB qs]
   have:x≠q:=fun z=>e z.symm
   simp [this]
theorem ZnC:∀(l:List Nat) (acc:List (Key×V)),l.Nodup->(∀x∈l,valV acc (Sum.inl (x:Int))=none)->Zdh acc (l.map fun o=>D.tup [nD o,.bl true])=some (acc++kvA l)
 | [],acc,_,_=>by simp [Zdh,kvA]
 | p::ps,acc,nd,h=>by
  have nd':=List.nodup_cons.mp nd
  show Zdh (putK acc (Sum.inl (p:Int)) (.bl true)) (ps.map fun o=>D.tup [nD o,.bl true])=_
  rw [ZnC ps _ nd'.2 fun x hx=>?_,Zj8 _ (h p (by simp))]
  ·show some ((acc ++ [_])++kvA ps)=some (acc++(_::kvA ps))
   simp
  ·rw [ZjR,if_neg (fun z=>nd'.1 (by
    have:=Sum.inl.inj z
    have:x=p:=by omega
    exact this▸hx))]
   exact h x (by simp [hx])
theorem Zsg (l:List Nat) (x:Nat):dIn (nD x) (.dk (kvA l))=some (.bl (decide (x∈l))):=by
 show ((some (Sum.inl (x:Int):Key)).map fun k=>(valV (kvA l) k).isSome).map D.bl=_
 simp only [Option.map_some]
 rw [ZiB]
 by_cases h:x∈l <;> simp [h]
theorem Zn7 (l:List Nat) (x:Nat):Zda (nD x) (.dk (kvA l))=some (.bl (!decide (x∈l))):=by
 show ((some (Sum.inl (x:Int):Key)).map fun k=>(valV (kvA l) k).isSome).map (fun b=>D.bl (!b))=_
 simp only [Option.map_some]
 rw [ZiB]
 by_cases h:x∈l <;> simp [h]
def apsD (n:Nat) (A:Nat->List Nat):D:=.lst ((List.range n).map fun p=>.dk (kvA (A p)))
theorem ZoN {n p:Nat} {A:Nat->List Nat} (h:p<n):dIx (apsD n A) (nD p)=some (.dk (kvA (A p))):=by
 show atI _ (p:Int)=_
 refine ZbJ ?_
 rw [List.getElem?_map,List.getElem?_range h];rfl
section
variable {n:Nat} {A:Nat->List Nat} {ap:Nat->Nat->Bool}
theorem Zh1 (a b:Nat):dNeO (nD a) (nD b)=some (.bl (!decide (a=b))):=by
 rw [nei]
 congr 3
 rw [Bool.eq_iff_iff,beq_iff_eq,decide_eq_true_eq]
 constructor <;> intro h <;> omega
theorem Zq4 {ds es:List D} (h:ds.length+es.length<=100000):dAdd (.lst ds) (.lst es)=some (.lst (ds++es)):=by
 show (if ds.length+es.length<=sizeLine then some (D.lst (ds++es)) else none)=_
 rw [if_pos (by rw [ZaG];omega)]
theorem Zsv (ds:List D) (hp:ZaS ds=true) (hd:deps ds<=10):dEqO (.lst ds) (.lst [])=some (.bl (decide (ds=[]))):=by
 have hok:okEq (.lst ds) (.lst [])=true:=by
  unfold okEq
  simp [Zak,dep,ZaS,deps,hp]
  omega
 unfold dEqO
 rw [if_pos hok]
 cases ds with
 | nil=>rfl
 | cons a r=>rfl
theorem Zpu {l:List Nat} (h:l≠[]):ZjO [.lst (l.map nD)]=some (nD (mxN l)):=by
 cases l with
 | nil=>exact absurd rfl h
 | cons m r=>
  have e:Zau ((m::r).map nD)=some ((m:Int)::r.map fun (i:Nat)=>(i:Int)):=ZeX (m::r)
  show (match Zau ((m::r).map nD) with | some (n::r)=>some (D.int (maxI n r)) | _=>none)=_
  rw [e]
  show some (D.int (maxI (m:Int) (r.map fun (i:Nat)=>(i:Int))))=_
  rw [Zkw r m]
  have e2:mxN (m::r)=r.foldl max m:=by
   show r.foldl max (max 0 m)=_
   rw [Nat.max_eq_right (Nat.zero_le m)]
  rw [e2]
theorem ZmP {l:List Nat} {v:Nat} (h:v∈l):Zh4 (.lst (l.map nD)) (nD v)=some (nD (l.idxOf v)):=by
 show ((Zau (l.map nD)).bind fun ns=>if (v:Int)∈ns then some (D.int (ns.idxOf (v:Int):Nat)) else none)=_
 rw [ZeX]
 show (if (v:Int)∈l.map (fun (i:Nat)=>(i:Int)) then some (D.int ((l.map fun (i:Nat)=>(i:Int)).idxOf (v:Int):Nat)) else none)=_
 rw [if_pos (List.mem_map.mpr ⟨v,h,rfl⟩)]
 have:(l.map fun (i:Nat)=>(i:Int)).idxOf (v:Int)=l.idxOf v:=by
  clear h
  induction l with
  | nil=>rfl
  | cons a r ih=>
   rw [List.map_cons,List.idxOf_cons,List.idxOf_cons,ih]
   have:((a:Int)==(v:Int))=(a==v):=by
    rw [Bool.eq_iff_iff,beq_iff_eq,beq_iff_eq]
    constructor <;> intro h <;> omega
   rw [this]
 rw [this]
end
end TP3
namespace TP3
open PySem L2 TF TP TS
open TP2
def Za0 (n:Nat) (ties:List (Nat×Nat)):List (Nat×Nat):=(allP n).filter fun p=>!decide (p∈ties)
theorem Zno (n:Nat) (ties:List (Nat×Nat)):IsWeb n (Za0 n ties):=IsWeb.filter _
theorem ZcH {ties:List (Nat×Nat)} {a b:Nat}:tied ties a b=true↔(min a b,max a b)∈ties:=by unfold tied;exact decide_eq_true_iff
theorem ZeG {n:Nat} {ties:List (Nat×Nat)} {a b:Nat}:tied (Za0 n ties) a b=true↔a<n/\b<n/\a≠b/\tied ties a b=false:=by
 rw [ZcH]
 unfold Za0
 rw [List.mem_filter,ZdR]
 have e:tied ties a b=decide ((min a b,max a b)∈ties):=rfl
 rw [e]
 simp only [Bool.not_eq_true',decide_eq_false_iff_not]
 constructor
 ·rintro ⟨⟨h1,h2⟩,h3⟩
  exact ⟨by omega,by omega,by omega,h3⟩
 ·rintro ⟨h1,h2,h3,h4⟩
  exact ⟨⟨by omega,by omega⟩,h4⟩
theorem Zjx {n:Nat} {ties:List (Nat×Nat)} (p o:Nat):tied (Za0 n ties) p o=decide (o∈ZaV n (Za0 n ties) p):=by
 unfold ZaV
 rw [Bool.eq_iff_iff,decide_eq_true_iff,List.mem_filter,List.mem_range]
 exact ⟨fun h=>⟨(ZeG.mp h).2.1,h⟩,fun h=>h.2⟩
theorem ZoS {n:Nat} {ties:List (Nat×Nat)} (a:Nat):tied (Za0 n ties) a a=false:=by
 cases h:tied (Za0 n ties) a a with
 | false=>rfl
 | true=>exact absurd rfl (ZeG.mp h).2.2.1
def Ze7 (n:Nat) (b:List Nat):List Nat:=(List.range n).filter fun x=>decide (x∈b)
theorem ZeU {n:Nat} {b:List Nat} (nd:b.Nodup) (h:∀x∈b,x<n):(Ze7 n b).Perm b:=by
 refine (List.perm_ext_iff_of_nodup (List.nodup_range.sublist List.filter_sublist) nd).mpr fun a=>?_
 rw [List.mem_filter,List.mem_range,decide_eq_true_iff]
 exact ⟨fun z=>z.2,fun z=>⟨h a z,z⟩⟩
theorem ZgV (n:Nat) (b:List Nat):(Ze7 n b).Pairwise (· < ·):=(Zcq n).sublist List.filter_sublist
def Zcx (a k:List Nat):List Nat:=if a.length<k.length then k else a
def Zgu (n:Nat) (ties:List (Nat×Nat)):List Nat:=(kn ties n).foldl Zcx []
theorem ZgZ:∀(l:List (List Nat)) (a:List Nat),(l.foldl Zcx a=a∨l.foldl Zcx a∈l)/\a.length<=(l.foldl Zcx a).length/\∀k∈l,k.length<=(l.foldl Zcx a).length
 | [],a=>⟨.inl rfl,Nat.le_refl _,fun k h=>by cases h⟩
 | x::r,a=>by
  obtain ⟨h1,h2,h3⟩:=ZgZ r (Zcx a x)
  have h4:a.length<=(Zcx a x).length/\x.length<=(Zcx a x).length/\(Zcx a x=a∨Zcx a x=x):=by
   unfold Zcx
   split
   ·exact ⟨by omega,Nat.le_refl _,.inr rfl⟩
   ·exact ⟨Nat.le_refl _,by omega,.inl rfl⟩
  rw [List.foldl_cons]
  refine ⟨?_,by omega,fun k hk=>?_⟩
  ·rcases h1 with h | h
   ·rcases h4.2.2 with z | z
    ·exact .inl (h.trans z)
    ·exact .inr (by rw [h,z];simp)
   ·exact .inr (by simp [h])
  ·rcases List.mem_cons.mp hk with rfl | hk
   ·omega
   ·exact h3 k hk
theorem Znu {n:Nat} {b:List Nat} (nd:b.Nodup) (h:∀x∈b,x<n) (hl:b.length<64):ZgC [.lst (b.map nD)]=some (.lst ((Ze7 n b).map nD)):=by
 have e:Zau (b.map nD)=some (ZbB b):=by
  have:b.map nD=(ZbB b).map D.int:=by unfold ZbB;rw [List.map_map];rfl
  rw [this,ZdD]
 show (match Zau (b.map nD) with | some ns=>if ns.length<64 then some (D.lst ((Zde ns).map .int)) else none | none=>none)=_
 rw [e]
 show (if (ZbB b).length<64 then some (D.lst ((Zde (ZbB b)).map .int)) else none)=_
 rw [if_pos (by unfold ZbB;simp;omega)]
 have q:ZbB (Ze7 n b)=Zde (ZbB b):=Zhx ((ZeU nd h).map _) (List.pairwise_map.mpr ((ZgV n b).imp fun h=>by omega))
 rw [<-q]
 unfold ZbB
 rw [List.map_map];rfl
theorem ZdB {n:Nat} {ties:List (Nat×Nat)} (hw:IsWeb n ties) (hn:n<=24):Zgu n ties∈kn ties n/\∀K∈kn ties n,K.length<=(Zgu n ties).length:=by
 obtain ⟨h1,_,h3⟩:=ZgZ (kn ties n) []
 refine ⟨?_,h3⟩
 rcases h1 with h | h
 ·show (kn ties n).foldl Zcx []∈_
  rw [h]
  exact Za1.mpr ⟨List.Pairwise.nil,(fun o h=>by cases h),fun a h=>by cases h⟩
 ·exact h
end TP3
namespace TP3
open PySem L2 TF TP TS
open TP2
theorem ZoU {n:Nat} {ties:List (Nat×Nat)} {k F:List Nat} (hF:F∈kn ties n) (hr:k.Pairwise (· < ·)) (hs:∀x∈k,x∈F):k∈kn ties n:=by
 obtain ⟨h1,h2,h3⟩:=Za1.mp hF
 exact Za1.mpr ⟨hr,fun o ho=>h2 o (hs o ho),fun a ha b hb ne=>h3 a (hs a ha) b (hs b hb) ne⟩
theorem Zsc {l:List Nat} {b:Nat} (h:∀x∈l,x<=b):mxN l<=b:=ZkO l b h 0 (Nat.zero_le _)
theorem Zl2 {n:Nat} {ties:List (Nat×Nat)} (hw:IsWeb n ties) (hn:n<=24):mxN (ZdC ties n)=(Zgu n ties).length:=by
 obtain ⟨h1,h2⟩:=ZdB hw hn
 refine Nat.le_antisymm (Zsc fun x hx=>?_) (ZhQ (List.mem_map.mpr ⟨_,h1,rfl⟩))
 obtain ⟨K,hK,rfl⟩:=List.mem_map.mp hx
 exact h2 K hK
end TP3
namespace TP3
open PySem L2 TF TP TS
open TP2
theorem Zgd (k:List Nat):Zau (k.map nD)=some (ZbB k):=by
 have:k.map nD=(ZbB k).map D.int:=by unfold ZbB;rw [List.map_map];rfl
 rw [this,ZdD]
end TP3
namespace TP3
open PySem L2 TF TP TS
open TP2
section
variable (ties:List (Nat×Nat))
end
section
variable {ties:List (Nat×Nat)} {many:Nat}
end
end TP3
namespace TP3
open PySem L2 TF TP TS
open TP2
theorem Zl0 {n p:Nat} {ties:List (Nat×Nat)} (h:p<n):dIx (ZbP n ties) (nD p)=some (.lst ((ZaV n ties p).map nD)):=by
 show atI _ (p:Int)=_
 refine ZbJ ?_
 rw [List.getElem?_map,List.getElem?_range h];rfl
theorem Zi9 {τ:D->Rho->Option Rho} {body:Rho->M Out} {s:Pn} (I:Rho->Prop) (g:Nat->Option D):∀(l:List Nat) (ρ:Rho),I ρ->
  (∀x∈l,∀ρ,I ρ->∃ρ1,τ (nD x) ρ=some ρ1/\match g x with | some d=>body ρ1 s=some (.rt d,s) | none=>∃ρ2,body ρ1 s=some (.nx ρ2,s)/\I ρ2)->
  match l.findSome? g with | some d=>mFor τ body (l.map nD) ρ s=some (.rt d,s) | none=>∃ρ2,mFor τ body (l.map nD) ρ s=some (.nx ρ2,s)/\I ρ2
 | [],ρ,h0,_=>⟨ρ,rfl,h0⟩
 | x::l,ρ,h0,h=>by
  obtain ⟨ρ1,e1,e2⟩:=h x (by simp) ρ h0
  rw [List.findSome?_cons]
  cases hg:g x with
  | some d=>
   rw [hg] at e2
   exact Zky e1 e2
  | none=>
   rw [hg] at e2
   obtain ⟨ρ2,e3,h2⟩:=e2
   have ih:=Zi9 I g l ρ2 h2 fun y hy=>h y (by simp [hy])
   simp only
   cases hl:l.findSome? g with
   | some d=>rw [hl] at ih;exact Zf7 e1 e3 ih
   | none=>
    rw [hl] at ih
    obtain ⟨ρ3,e4,h3⟩:=ih
    exact ⟨ρ3,Zf7 e1 e3 e4,h3⟩
end TP3
namespace TP3
open PySem L2 TF TP TS
open TP2
def hueB (n:Nat) (ties:List (Nat×Nat)):D->Bool
 | .tup ds=>decide (ds.length=n)&&(ds.all (ZcN (n:Int))&&ties.all fun p=>!decide (nat0 (ds.getD p.1 .non)=nat0 (ds.getD p.2 .non)))
 | _=>false
theorem ZhJ {n:Int}:∀{ds:List D},ds.all (ZcN n)=true->∃as:List Nat,ds=as.map nD
 | [],_=>⟨[],rfl⟩
 | d::ds,h=>by
  rw [List.all_cons,Bool.and_eq_true] at h
  obtain ⟨i,rfl⟩:=ZnF h.1
  have h0:0<=i:=by
   have:=h.1
   simp only [ZcN,Bool.and_eq_true,decide_eq_true_eq] at this
   exact this.1
  obtain ⟨a,rfl⟩:=Int.eq_ofNat_of_zero_le h0
  obtain ⟨as,rfl⟩:=ZhJ h.2
  exact ⟨a::as,rfl⟩
theorem Zpg (p:Nat×Nat):dIx (Zaw p) (.int 0)=some (nD p.1):=Zdm _ _
theorem Zpf (p:Nat×Nat):dIx (Zaw p) (.int 1)=some (nD p.2):=ZdY _ _ _
theorem Zjf {n:Nat} {ties:List (Nat×Nat)} (hw:IsWeb n ties) {f:List Nat} (hl:f.length=n):hueB n ties (tupN f)=(f.all (fun x=>decide (x<n))&&ties.all fun p=>!decide (f.getD p.1 0=f.getD p.2 0)):=by
 show (decide ((f.map nD).length=n)&&((f.map nD).all (ZcN (n:Int))&&ties.all fun p=>!decide (nat0 ((f.map nD).getD p.1 .non)=nat0 ((f.map nD).getD p.2 .non))))=_
 have gg:∀i,i<n->(f.map nD).getD i .non=nD (f.getD i 0):=fun i hi=>by
  rw [List.getD_eq_getElem?_getD,List.getElem?_map,List.getD_eq_getElem?_getD,List.getElem?_eq_getElem (by omega)];rfl
 rw [List.length_map,decide_eq_true hl,Bool.true_and,List.all_map]
 congr 1
 ·congr 1
  funext x
  show (decide (0<=(x:Int))&&decide ((x:Int)<(n:Int)))=_
  rw [decide_eq_true (by omega),Bool.true_and]
  exact decide_eq_decide.mpr (by omega)
 ·rw [Bool.eq_iff_iff,List.all_eq_true,List.all_eq_true]
  constructor
  ·intro h p hp
   obtain ⟨g1,g2⟩:=TP.IsWeb.mem hw hp
   have:=h p hp
   rw [gg p.1 (by omega),gg p.2 g2] at this
   exact this
  ·intro h p hp
   obtain ⟨g1,g2⟩:=TP.IsWeb.mem hw hp
   rw [gg p.1 (by omega),gg p.2 g2]
   exact h p hp
end TP3
namespace TP3
open PySem L2 TF TP TS
open TP2
theorem Zb4 {d:D} (h:ZdW d=true) (n:Nat) (s:Pn):Zba [d,nD n] s=some (.bl (match d with | .tup ds=>decide (ds.length=n) | _=>false),s):=by
 refine ZaN rfl (ZaE (ZaM ?_))
 have hw:ZaD dIsi (Zac (dVar 0) (Zac (dC (.ty "tuple")) dNil)) [some d,some (nD n)] s=_:=ZaR (Zad rfl (Zad rfl rfl)) (Zog h)
 cases d with
 | tup ds=>
  refine ZjU hw (Zah (d:=nD ds.length) (e:=nD n) (ZaR (Zad rfl rfl) rfl) rfl ?_)
  rw [eqi]
  congr 2
  rw [Bool.eq_iff_iff,beq_iff_eq,decide_eq_true_iff]
  constructor <;> intro h <;> omega
 | pen=>cases h
 | ty _=>cases h
 | clo _ _=>cases h
 | dk _=>cases h
 | dt _=>cases h
 | du _=>cases h
 | df _=>cases h
 | _=>exact ZjV hw
theorem ZkD {n:Nat} {ties:List (Nat×Nat)} (hw:IsWeb n ties) (hn:n<=24) {t:D} (hk:ZdW t=true) (hks:∀ds,t=.tup ds->∀d∈ds,ZdW d=true) (hl:∀ds,t=.tup ds->ds.length<=100000) (s:Pn):Zdd [webD n ties,t] s=some (.bl (hueB n ties t),s):=by
 have htl:=hw.len hn
 have h0:=Zb4 hk n s
 have h00:∀b,Zba [t,nD n] s=some (.bl b,s)->bNot (asB (dFn Zba (Zac (dVar 1) (Zac (dOp dIx (dVar 0) (dC (.int 0))) dNil)))) [some (webD n ties),some t] s=some (!b,s):=fun b h=>ZdQ (ZaC (Zax (Zad rfl (Zad (Zah (d:=webD n ties) (e:=.int 0) rfl rfl web0) rfl)) h))
 cases t with
 | tup ds=>
  have hB:hueB n ties (.tup ds)=(decide (ds.length=n)&&(ds.all (ZcN (n:Int))&&ties.all fun p=>!decide (nat0 (ds.getD p.1 .non)=nat0 (ds.getD p.2 .non)))):=rfl
  by_cases hlen:ds.length=n
  ·have h1:=h00 true (by rw [h0];simp [hlen])
   rw [hB,decide_eq_true hlen,Bool.true_and]
   have hc:=Zbc (src:=[none,some 0]) (fi:=Zdk (dVar 1)) (τ:=gOne 0) (ft:=ZaZ) (fe:=dFn ZbW (Zac (dOp dIx (dVar 1) (dC (.int 0))) (Zac (dVar 0) dNil))) (ρ:=[some (webD n ties),some (.tup ds)]) (s:=s) (ds:=ds) (fun d=>[some d,some (webD n ties)]) (fun _=>true) (fun d=>.bl (ZcN (n:Int) d)) (ZlL rfl) (by rw [ZaG];omega) (fun d hd=>⟨rfl,rfl,fun _=>Zax (Zad (Zah (d:=webD n ties) (e:=.int 0) rfl rfl web0) (Zad rfl rfl)) (Zg0 (hks ds rfl d hd) (n:Int) s)⟩)
   rw [ZbQ] at hc
   have h2:bNot (asB (ZaD dAll (Zac (ZaP [none,some 0] (Zdk (dVar 1)) (gOne 0) ZaZ (dFn ZbW (Zac (dOp dIx (dVar 1) (dC (.int 0))) (Zac (dVar 0) dNil)))) dNil))) [some (webD n ties),some (.tup ds)] s=some (!ds.all (ZcN (n:Int)),s):=ZdQ (ZaC (ZaR (Zad hc rfl) (Zjq ds _)))
   cases ha:ds.all (ZcN (n:Int)) with
   | false=>
    rw [ha] at h2
    exact ZaN rfl (Zbh (ZhE h1 rfl) (ZaE (ZhD h2 (ZaE (ZaM rfl)))))
   | true=>
    rw [ha] at h2
    obtain ⟨as,rfl⟩:=ZhJ ha
    rw [List.length_map] at hlen
    have gg:∀i,i<n->(as.map nD).getD i .non=nD (as.getD i 0):=fun i hi=>by
     rw [List.getD_eq_getElem?_getD,List.getElem?_map,List.getD_eq_getElem?_getD,List.getElem?_eq_getElem (by omega)];rfl
    refine ZaN rfl (Zbh (ZhE h1 rfl) (Zbh (ZhE h2 rfl) (ZaE (ZaM ?_))))
    have hc2:=Zbc (src:=[none,some 1]) (fi:=Zdk (dOp dIx (dVar 0) (dC (.int 1)))) (τ:=gOne 0) (ft:=ZaZ) (fe:=dOp dNeO (dOp dIx (dVar 1) (dOp dIx (dVar 0) (dC (.int 0)))) (dOp dIx (dVar 1) (dOp dIx (dVar 0) (dC (.int 1))))) (ρ:=[some (webD n ties),some (tupN as)]) (s:=s) (ds:=ties.map Zaw) (fun d=>[some d,some (tupN as)]) (fun _=>true) (fun d=>.bl (!decide (as.getD (p2 d).1.toNat 0=as.getD (p2 d).2.toNat 0))) (ZlL (Zah (d:=webD n ties) (e:=.int 1) rfl rfl web1)) (by rw [List.length_map,ZaG];omega) (fun d hd=>by
     obtain ⟨p,hp,rfl⟩:=List.mem_map.mp hd
     obtain ⟨g1,g2⟩:=TP.IsWeb.mem hw hp
     have i1:dIx (tupN as) (nD p.1)=some (nD (as.getD p.1 0)):=Zgz (by omega)
     have i2:dIx (tupN as) (nD p.2)=some (nD (as.getD p.2 0)):=Zgz (by omega)
     refine ⟨rfl,rfl,fun _=>Zah (d:=nD (as.getD p.1 0)) (e:=nD (as.getD p.2 0)) (Zah (d:=tupN as) (e:=nD p.1) rfl (Zah (d:=Zaw p) (e:=.int 0) rfl rfl (Zpg p)) i1) (Zah (d:=tupN as) (e:=nD p.2) rfl (Zah (d:=Zaw p) (e:=.int 1) rfl rfl (Zpf p)) i2) ?_⟩
     rw [Zh1]
     show _=some (D.bl (!decide (as.getD (p.1:Int).toNat 0=as.getD (p.2:Int).toNat 0)))
     rw [Int.toNat_natCast,Int.toNat_natCast])
    rw [ZbQ,List.map_map] at hc2
    have e3:ties.map ((fun d=>D.bl (!decide (as.getD (p2 d).1.toNat 0=as.getD (p2 d).2.toNat 0)))∘Zaw)=ties.map fun p=>D.bl (!decide (as.getD p.1 0=as.getD p.2 0)):=rfl
    rw [e3] at hc2
    refine ZaR (Zad hc2 rfl) ?_
    rw [Zjq ties fun p=>!decide (as.getD p.1 0=as.getD p.2 0),Bool.true_and]
    congr 2
    rw [Bool.eq_iff_iff,List.all_eq_true,List.all_eq_true]
    constructor
    ·intro h p hp
     obtain ⟨g1,g2⟩:=TP.IsWeb.mem hw hp
     have:=h p hp
     rw [gg p.1 (by omega),gg p.2 g2];exact this
    ·intro h p hp
     obtain ⟨g1,g2⟩:=TP.IsWeb.mem hw hp
     have:=h p hp
     rw [gg p.1 (by omega),gg p.2 g2] at this;exact this
  ·have h1:=h00 false (by rw [h0];simp [hlen])
   rw [hB,decide_eq_false hlen,Bool.false_and]
   exact ZaN rfl (ZaE (ZhD h1 (ZaE (ZaM rfl))))
 | pen=>cases hk
 | ty _=>cases hk
 | clo _ _=>cases hk
 | dk _=>cases hk
 | dt _=>cases hk
 | du _=>cases hk
 | df _=>cases hk
 | _=>exact ZaN rfl (ZaE (ZhD (h00 false h0) (ZaE (ZaM rfl))))
theorem Zjb (f:List Nat):ZdW (tupN f)=true/\∀ds,tupN f=.tup ds->∀d∈ds,ZdW d=true:=⟨rfl,fun ds e d hd=>by
 cases e
 obtain ⟨x,_,rfl⟩:=List.mem_map.mp hd
 rfl⟩
end TP3
namespace TQ
open PySem L2 TF TS
open TP
open TP2
open TP3
theorem ZsF {T:Nat->List D->M D} {i t:Nat} {fs:Rho->M (List D)} {ρ:Rho} {s s1:Pn} {ds cds:List D} {r:Option (D×Pn)} (h1:(ρ[i]?).bind id=some (.clo t cds)) (h2:fs ρ s=some (ds,s1)) (h3:T t (ds++cds) s1=r):dApp T i fs ρ s=r:=by
 unfold dApp Zan dVar mOf
 rw [h1]
 simp only [h2]
 exact h3
theorem Zos {F:List D->M D} {t:Nat} {cix:List Nat} {f:Rho->M D} {ρ:Rho} {s s1 s2:Pn} {d c:D} {cds:List D} (h1:f ρ s=some (d,s1)) (h2:ZeR ρ cix=some cds) (n1:Za3 d=true) (n2:Zbe cds=true) (h3:F [d,.clo t cds] s1=some (c,s2)) (n3:Za3 c=true):dFnC F t cix f ρ s=some (c,s2):=by
 unfold dFnC Zan mOf
 rw [h1,h2]
 simp only
 rw [if_pos (by rw [n1,n2];rfl),h3]
 simp only
 rw [if_pos n3]
 rfl
theorem Zd3:∀{ds:List D},(∀d∈ds,Za3 d=true)->Zbe ds=true
 | [],_=>rfl
 | d::ds,h=>by
  show (Za3 d&&Zbe ds)=true
  rw [h d List.mem_cons_self,Zd3 fun x (hx:x∈ds)=>h x (List.mem_cons_of_mem _ hx)]
  rfl
theorem Zio {n:Nat} {f:Rho->M D} {ds:List D} {s:Pn} {r:Option (D×Pn)} (hl:ds.length=n) (h:f (ds.map some) s=r):runE n f ds s=r:=by
 unfold runE
 rw [if_pos hl]
 exact h
theorem Zi4 (n:Nat) (ties:List (Nat×Nat)):Za3 (webD n ties)=true:=by
 have:Zbe (ties.map Zaw)=true:=Zd3 fun d hd=>by obtain ⟨p,_,rfl⟩:=List.mem_map.mp hd;rfl
 simp only [webD,Za3,Zbe,this];rfl
theorem Zkr (lo:Int) (n:Nat):Zbe (ZaH lo n)=true:=Zd3 fun d hd=>by
 unfold ZaH at hd
 obtain ⟨i,_,rfl⟩:=List.mem_map.mp hd
 rfl
theorem ZeW (l:List Nat):Zbe (l.map nD)=true:=Zd3 fun d hd=>by obtain ⟨p,_,rfl⟩:=List.mem_map.mp hd;rfl
theorem ZfO {row:D} {ds cds:List D} {t:Nat} (h:SeqD row ds) (hn:ds.length<=1000) (b:Nat×Nat->Bool) (s:Pn) (hb:∀p∈allP ds.length,Tl t ([ds.getD p.1 .non,ds.getD p.2 .non]++cds) s=some (.bl (b p),s)):ZbZ [row,.clo t cds] s=some (webD ds.length ((allP ds.length).filter b),s):=by
 have hln:∀r,ZaD dLen (Zac (dVar 0) dNil) (some row::r) s=some (nD ds.length,s):=fun r=>ZaR (Zad rfl rfl) h.len
 refine ZaN rfl (Zbh (Zb2 (Zax (Zad (Zga (hln _) hn) rfl) (Zle s hn))) (ZaE (ZaM ?_)))
 have hap:=ZpU ds.length hn
 have hc:=Zbc (src:=[none,some 1,some 0]) (fi:=ZaY (dVar 2)) (τ:=gOne 0) (ft:=asB (dApp Tl 1 (Zac (dOp dIx (dVar 2) (dOp dIx (dVar 0) (dC (.int 0)))) (Zac (dOp dIx (dVar 2) (dOp dIx (dVar 0) (dC (.int 1)))) dNil)))) (fe:=dVar 0) (ρ:=[some row,some (.clo t cds),some (.lst ((allP ds.length).map Zaw))]) (s:=s) (ds:=(allP ds.length).map Zaw) (fun d=>[some d,some (.clo t cds),some row]) (fun d=>b (nat2 d)) (fun d=>d) (Zb1 rfl) (by rw [List.length_map,ZaG];omega) fun d hd=>by
  obtain ⟨p,hpm,rfl⟩:=List.mem_map.mp hd
  have hpp:=ZdR.mp hpm
  refine ⟨rfl,ZaC (ZsF (t:=t) (cds:=cds) rfl (Zad (Zah (d:=row) (e:=nD p.1) rfl (Zah (d:=Zaw p) (e:=.int 0) rfl rfl (Zdm _ _)) (h.ix (by omega))) (Zad (Zah (d:=row) (e:=nD p.2) rfl (Zah (d:=Zaw p) (e:=.int 1) rfl rfl (ZdY _ _ _)) (h.ix (by omega))) rfl)) (hb p hpm)),fun _=>rfl⟩
 rw [ZkQ (allP ds.length) _ b fun p=>by rw [ZnV]] at hc
 exact ZbN (Zad (hln _) (Zad (ZaR (Zad hc rfl) rfl) rfl)) Zc5
theorem range_getD {n i:Nat} (h:i<n):(ZaH 0 n).getD i .non=nD i:=by
 rw [ZcB]
 simp [List.getD,h]
theorem Zmw (n:Nat) (ties:List (Nat×Nat)) (s:Pn) (hn:n<=1000) (hl:ties.length<=100000):Zdr [webD n ties] s=some (webD n ((allP n).filter fun p=>!decide (p∈ties)),s):=by
 refine ZaN rfl (Zbh (Zb2 (Zax (Zad rfl rfl) (Zf6 n ties s hl))) (ZaE (ZaM ?_)))
 refine Zos (d:=.lst (ZaH 0 n)) (cds:=[.dt (kvT [] ties)]) (Zga (Zah (d:=webD n ties) (e:=.int 0) rfl rfl web0) hn) rfl (by simp only [Za3];exact Zkr _ _) rfl ?_ (Zi4 _ _)
 have:=ZfO (row:=.lst (ZaH 0 n)) (ds:=ZaH 0 n) (cds:=[.dt (kvT [] ties)]) (t:=0) (.inl rfl) (by rw [Za8];exact hn) (fun p=>!decide (p∈ties)) s (fun p hp=>by
  rw [Za8] at hp
  have hpp:=ZdR.mp hp
  rw [range_getD (by omega),range_getD (by omega)]
  show Zgn [nD p.1,nD p.2,.dt (kvT [] ties)] s=_
  refine Zio rfl ?_
  refine ZlG (a:=decide (p∈ties)) (Zax (Zad rfl (Zad rfl (Zad rfl rfl))) ?_)
  rw [ZeD,Ze2 hpp.1])
 rw [Za8] at this
 exact this
theorem Zi5 {ps:List Nat} {i:Nat} (h:i<ps.length):(ps.map nD).getD i .non=nD (ps.getD i 0):=by
 rw [List.getD_eq_getElem?_getD,List.getElem?_map,List.getD_eq_getElem?_getD,List.getElem?_eq_getElem h]
 rfl
theorem ZoY (n:Nat) (ties:List (Nat×Nat)) (ps:List Nat) (hp:ps.length<=1000) (hl:ties.length<=100000) (s:Pn):Zcf [webD n ties,.lst (ps.map nD)] s=some (webD ps.length (anew ties ps),s):=by
 refine ZaN rfl (Zbh (Zb2 (Zax (Zad rfl rfl) (Zf6 n ties s hl))) (ZaE (ZaM ?_)))
 refine Zos (d:=.lst (ps.map nD)) (cds:=[.dt (kvT [] ties)]) rfl rfl (by simp only [Za3];exact ZeW _) rfl ?_ (Zi4 _ _)
 have:=ZfO (row:=.lst (ps.map nD)) (ds:=ps.map nD) (cds:=[.dt (kvT [] ties)]) (t:=1) (.inl rfl) (by rw [List.length_map];exact hp) (fun p=>tied ties (ps.getD p.1 0) (ps.getD p.2 0)) s (fun p hpm=>by
  rw [List.length_map] at hpm
  have hpp:=ZdR.mp hpm
  rw [Zi5 (by omega),Zi5 (by omega)]
  show ZdN [nD _,nD _,.dt (kvT [] ties)] s=_
  refine Zio rfl ?_
  exact Zax (Zad rfl (Zad rfl (Zad rfl rfl))) (ZeD ties _ _ s))
 rw [List.length_map] at this
 exact this
theorem Zeu (n:Nat) (ties:List (Nat×Nat)) (ps:List Nat) (hp:ps.length<=1000) (hl:ties.length<=100000) (s:Pn):Zdc [webD n ties,.lst (ps.map nD)] s=some (webD ps.length (anew ties ps),s):=
 ZaN rfl (ZaE (ZaM (Zax (Zad rfl (Zad rfl rfl)) (ZoY n ties ps hp hl s))))
end TQ
namespace TQ
open PySem L2 TF TS
open TP
open TP2
open TP3
end TQ
namespace TQ
open PySem L2 TF TS
open TP
open TP2
open TP3
theorem addN (a b:Nat):dAdd (nD a) (nD b)=some (nD (a+b)):=by
 show some (D.int ((a:Int)+(b:Int)))=_
 rfl
theorem maxN (a b:Nat):ZfF [nD a,nD b]=some (nD (max a b)):=by
 show some (D.int (if (b:Int) > (a:Int) then (b:Int) else (a:Int)))=_
 rw [Zse]
end TQ
namespace TQ
open PySem L2 TF TS
open TP
open TP2
open TP3
end TQ
namespace TQ
open PySem L2 TF TS
open TP
open TP2
open TP3
end TQ
namespace TQ
open PySem L2 TF TS
open TP
open TP2
open TP3
end TQ
namespace TQ
open PySem L2 TF TS
open TP
open TP2
open TP3
end TQ
namespace TQ
open PySem L2 TF TS
open TP
open TP2
open TP3
end TQ
namespace TQ
open PySem L2 TF TS
open TP
open TP2
open TP3
abbrev mkW (n:Nat) (ties:List (Nat×Nat)):D:=.tup [nD n,.dt (kvT [] ties)]
theorem mk0 {n:Nat} {ties:List (Nat×Nat)}:dIx (mkW n ties) (.int 0)=some (nD n):=Zdm _ _
theorem mk1 {n:Nat} {ties:List (Nat×Nat)}:dIx (mkW n ties) (.int 1)=some (.dt (kvT [] ties)):=ZdY _ _ _
theorem Zpo (n:Nat) (ties:List (Nat×Nat)) (p:Nat) (s:Pn) (hn:n<=100000):Zcn [mkW n ties,.int p] s=some (.lst ((ZaV n ties p).map nD),s):=by
 refine ZaN rfl (ZaE (ZaM ?_))
 unfold ZaV
 show _=some (D.lst (((List.range n).filter fun o=>tied ties p o).map fun (i:Nat)=>D.int (i:Int)),s)
 rw [<-Ze0]
 refine Zbc (ds:=ZaH 0 n) (fun d=>[some d,some (mkW n ties),some (.int p)]) (fun d=>tied ties p (nat0 d)) (fun d=>d) (Zbd (Zah (d:=mkW n ties) (e:=.int 0) rfl rfl mk0) hn) (Zeg hn) ?_
 intro d hd
 obtain ⟨i,hi,rfl⟩:=Zct hd
 exact ⟨rfl,ZaC (Zax (Zad (Zah (d:=mkW n ties) (e:=.int 1) rfl rfl mk1) (Zad rfl (Zad rfl rfl))) (ZeD ties p i s)),fun _=>rfl⟩
def gN:Rho->M Out:=(sSeq (sSet 1 (dTup (Zac (dOp dIx (dVar 0) (dC (.int 0))) (Zac (dFn Zbg (Zac (dVar 0) dNil)) dNil))))
 (sSeq (sRet (ZaP [none,some 1] (ZaU (dOp dIx (dVar 0) (dC (.int 0)))) (gOne 0) ZaZ (dFn Zcn (Zac (dVar 1) (Zac (dVar 0) dNil)))))
 Zam))
theorem Zgm (n:Nat) (ties:List (Nat×Nat)) (hn:n<=1000) (hl:ties.length<=100000) (s:Pn):runB 2 1 gN [webD n ties] s=some (ZbP n ties,s):=by
 refine ZaN rfl (Zbh (Zb2 (ZbN (Zad (Zah (d:=webD n ties) (e:=.int 0) rfl rfl web0) (Zad (Zax (Zad rfl rfl) (Zf6 n ties s hl)) rfl)) Zc5)) (ZaE (ZaM ?_)))
 have hc:=Zbc (src:=[none,some 1]) (fi:=ZaU (dOp dIx (dVar 0) (dC (.int 0)))) (τ:=gOne 0) (ft:=ZaZ) (fe:=dFn Zcn (Zac (dVar 1) (Zac (dVar 0) dNil))) (ρ:=[some (webD n ties),some (mkW n ties)]) (s:=s) (ds:=ZaH 0 n) (fun d=>[some d,some (mkW n ties)]) (fun _=>true) (fun d=>.lst ((ZaV n ties (nat0 d)).map nD)) (Zbd (Zah (d:=webD n ties) (e:=.int 0) rfl rfl web0) (by omega)) (Zeg (by omega)) fun d hd=>by
  obtain ⟨i,hi,rfl⟩:=Zct hd
  exact ⟨rfl,rfl,fun _=>Zax (Zad rfl (Zad rfl rfl)) (Zpo n ties i s (by omega))⟩
 rw [ZbQ,ZcB,List.map_map] at hc
 exact hc
end TQ
namespace TQ
open PySem L2 TF TS
open TP
open TP2
open TP3
section
variable (ap:Nat->Nat->Bool)
def one? (ps:List Nat):Option Nat:=ps.find? fun p=>decide (cntA ap ps p<=1)
def bk2:Nat->List Nat->List Nat
 | 0,_=>[]
 | m+1,ps=>if ps=[] then [] else match one? ap ps with
  | some p=>p::bk2 m (Zbk ap ps p)
  | none=>if (bk2 m (ps.filter fun o=>!decide (o=ZaI ap ps))).length<=(ZaI ap ps::bk2 m (Zbk ap ps (ZaI ap ps))).length then ZaI ap ps::bk2 m (Zbk ap ps (ZaI ap ps))
   else bk2 m (ps.filter fun o=>!decide (o=ZaI ap ps))
end
section
variable {ap:Nat->Nat->Bool}
theorem Zfx {ps:List Nat} {p:Nat} (h:one? ap ps=some p):p∈ps/\cntA ap ps p<=1:=⟨List.mem_of_find?_eq_some h,by have:=List.find?_some h;simpa using this⟩
theorem ZfJ (sy:∀a b,ap a b=ap b a):∀(m:Nat) (ps:List Nat),KnA ap ps (bk2 ap m ps)
 | 0,ps=>⟨List.nodup_nil,fun x hx=>by simp [bk2] at hx,fun x hx=>by simp [bk2] at hx⟩
 | m+1,ps=>by
  unfold bk2
  by_cases h0:ps=[]
  ·rw [if_pos h0];exact ⟨List.nodup_nil,fun x hx=>by simp at hx,fun x hx=>by simp at hx⟩
  ·rw [if_neg h0]
   have w:=fun p (hp:p∈ps)=>KnA.with sy hp (ZfJ sy m (Zbk ap ps p))
   split
   ·rename_i p hp
    exact w _ (Zfx hp).1
   ·split
    ·exact w _ (Zdz h0)
    ·exact (ZfJ sy m _).mono fun x hx=>(List.mem_filter.mp hx).1
theorem Zhp (sy:∀a b,ap a b=ap b a) (ir:∀a,ap a a=false):∀(m:Nat) (ps K:List Nat),ps.length<m->KnA ap ps K->K.length<=(bk2 ap m ps).length
 | 0,ps,K,h,_=>by omega
 | m+1,ps,K,hl,h=>by
  unfold bk2
  by_cases h0:ps=[]
  ·rw [if_pos h0]
   cases K with
   | nil=>simp
   | cons a r=>have:=h.sub a (by simp);rw [h0] at this;simp at this
  ·rw [if_neg h0]
   have w:∀p,p∈ps->(p∈K∨cntA ap ps p<=1)->K.length<=(p::bk2 ap m (Zbk ap ps p)).length:=fun p hp hm=>by
    have h1:=Znz ir h hm
    have h2:=Zhp sy ir m (Zbk ap ps p) _ (by have:=Zj6 (ap:=ap) hp;omega) (h.rest (p:=p))
    simp only [List.length_cons];omega
   split
   ·rename_i p hp
    exact w _ (Zfx hp).1 (.inr (Zfx hp).2)
   ·have hb:=Zdz (ap:=ap) h0
    by_cases hk:ZaI ap ps∈K
    ·have:=w _ hb (.inl hk)
     split
     ·exact this
     ·omega
    ·have h3:=Zhp sy ir m (ps.filter fun o=>!decide (o=ZaI ap ps)) K (by have:=Zhq hb;omega) ⟨h.nd,fun x hx=>List.mem_filter.mpr ⟨h.sub x hx,by
      have:x≠ZaI ap ps:=fun z=>hk (z▸hx)
      simpa using this⟩,h.two⟩
     split
     ·omega
     ·exact h3
theorem ZgF (m:Nat):∀(ps:List Nat),(bk2 ap m ps).length<=m:=by
 induction m with
 | zero=>intro ps;simp [bk2]
 | succ m ih=>
  intro ps
  unfold bk2
  split
  ·simp
  ·split
   ·rename_i p hp
    have:=ih (Zbk ap ps p);simp only [List.length_cons];omega
   ·split
    ·have:=ih (Zbk ap ps (ZaI ap ps));simp only [List.length_cons];omega
    ·have:=ih (ps.filter fun o=>!decide (o=ZaI ap ps));omega
end
abbrev Zbl (n:Nat):D:=.tup (List.replicate n (nD 1))
theorem ZlW {n p:Nat} (h:p<n):dIx (Zbl n) (nD p)=some (nD 1):=by
 show atI _ (p:Int)=_
 refine ZbJ ?_
 rw [List.getElem?_replicate,if_pos h]
theorem ZlI:∀k:Nat,(List.replicate k (1:Int)).sum=(k:Int)
 | 0=>rfl
 | k+1=>by rw [List.replicate_succ,List.sum_cons,ZlI k];omega
theorem ZoT (k:Nat):dSum [.lst (List.replicate k (nD 1))]=some (nD k):=by
 have h1:Zau (List.replicate k (nD 1))=some (List.replicate k 1):=by
  rw [show List.replicate k (nD 1)=(List.replicate k (1:Int)).map D.int by rw [List.map_replicate];rfl]
  exact ZdD _
 show (match Zau (List.replicate k (nD 1)) with | some ns=>if ZdA ns=true then some (D.int ns.sum) else none | none=>none)=_
 rw [h1]
 have h2:ZdA (List.replicate k 1)=true:=List.all_eq_true.mpr fun x hx=>by rw [(List.mem_replicate.mp hx).2];rfl
 show (if ZdA (List.replicate k 1)=true then some (D.int (List.replicate k (1:Int)).sum) else none)=_
 rw [if_pos h2,ZlI]
def ZkN:Rho->M Out:=(sSeq (sRet (ZaD dSum (Zac (ZaP [none,some 0] (ZaY (dVar 1)) (gOne 0) ZaZ (dOp dIx (dVar 1) (dVar 0))) dNil)))
 Zam)
theorem Zej {n:Nat} {ps:List Nat} (hp:∀p∈ps,p<n) (hl:ps.length<=1000) (s:Pn):runB 2 2 ZkN [Zbl n,.lst (ps.map nD)] s=some (nD ps.length,s):=by
 have hc:=Zbc (src:=[none,some 0]) (fi:=ZaY (dVar 1)) (τ:=gOne 0) (ft:=ZaZ) (fe:=dOp dIx (dVar 1) (dVar 0)) (ρ:=[some (Zbl n),some (.lst (ps.map nD))]) (s:=s) (ds:=ps.map nD) (fun d=>[some d,some (Zbl n)]) (fun _=>true) (fun _=>nD 1) (Zb1 rfl) (by rw [List.length_map,ZaG];omega) (fun d hd=>by
  obtain ⟨x,hx,rfl⟩:=List.mem_map.mp hd
  exact ⟨rfl,rfl,fun _=>Zah (d:=Zbl n) (e:=nD x) rfl rfl (ZlW (hp x hx))⟩)
 rw [ZbQ,List.map_const',List.length_map] at hc
 exact ZaN rfl (ZaE (ZaM (ZaR (Zad hc rfl) (ZoT _))))
end TQ
namespace TQ
open PySem L2 TF TS
open TP
open TP2
open TP3
def Zsr:Rho->M Out:=(sSeq (sRet (ZaP [none,some 0,some 1] (ZaY (dVar 2)) (gOne 0) (asB (dOp dIn (dVar 0) (dOp dIx (dVar 1) (dVar 2)))) (dVar 0)))
 Zam)
def Zk7:List D->M D:=runB 3 3 Zsr
def Zci:List D->M D:=runB 2 2 ZkN
def gHW (Fs:List D->M D):Rho->M Out:=(sSeq (sSet 4 (ZaP [none,some 2,some 0] (ZaY (dVar 3)) (gOne 0) (bAnd (asB (dOp dNeO (dVar 0) (dVar 1))) (asB (dOp Zda (dVar 0) (dOp dIx (dVar 2) (dVar 1))))) (dVar 0)))
 (sSeq (sRet (dOp dAdd (dLst (Zac (dVar 2) dNil)) (dFn Fs (Zac (dVar 0) (Zac (dVar 1) (Zac (dVar 4) dNil))))))
 Zam))
def FHW (Fs:List D->M D):List D->M D:=runB 5 4 (gHW Fs)
def Zp8 (Fs:List D->M D):Rho->M Out:=(sSeq (sIf (asB (dOp dLe (dFn Zci (Zac (dVar 1) (Zac (dOp dIx (dVar 3) (dVar 4)) dNil))) (dOp dIx (dVar 1) (dOp dIx (dVar 2) (dVar 4)))))
 (sSeq (sRet (dFn (FHW Fs) (Zac (dVar 0) (Zac (dVar 1) (Zac (dOp dIx (dVar 2) (dVar 4)) (Zac (dVar 2) dNil))))))
 Zam)
 Zam)
 Zam)
def gHA (Fs:List D->M D):Rho->M Out:=(sSeq (sIf (asB (dOp dEqO (dVar 2) (dLst dNil)))
 (sSeq (sRet (dLst dNil))
 Zam)
 Zam)
 (sSeq (sSet 3 (ZaP [none,some 0,some 2] (ZaY (dVar 2)) (gOne 0) ZaZ (dFn Zk7 (Zac (dVar 1) (Zac (dVar 0) (Zac (dVar 2) dNil))))))
 (sSeq (sFor (ZaU (ZaD dLen (Zac (dVar 2) dNil))) (gOne 4) (Zp8 Fs))
 (sSeq (sSet 5 (ZaP [none] (ZaY (dVar 3)) (gOne 0) ZaZ (ZaD dLen (Zac (dVar 0) dNil))))
 (sSeq (sSet 6 (dOp dIx (dVar 2) (dOp Zh4 (dVar 5) (ZaD ZjO (Zac (dVar 5) dNil)))))
 (sSeq (sSet 7 (dFn (FHW Fs) (Zac (dVar 0) (Zac (dVar 1) (Zac (dVar 6) (Zac (dVar 2) dNil))))))
 (sSeq (sSet 8 (dFn Fs (Zac (dVar 0) (Zac (dVar 1) (Zac (ZaP [none,some 6] (ZaY (dVar 2)) (gOne 0) (asB (dOp dNeO (dVar 0) (dVar 1))) (dVar 0)) dNil)))))
 (sSeq (sRet (dIf (asB (dOp dGe (dFn Zci (Zac (dVar 1) (Zac (dVar 7) dNil))) (dFn Zci (Zac (dVar 1) (Zac (dVar 8) dNil))))) (dVar 7) (dVar 8)))
 Zam))))))))
def FHA:Nat->List D->M D
 | 0=>fun _=>ZaB
 | n+1=>runB 9 3 (gHA (FHA n))
theorem geN (a b:Nat):dGe (nD a) (nD b)=some (.bl (decide (b<=a))):=by
 show some (D.bl (decide ((b:Int)<=(a:Int))))=_
 rw [show decide ((b:Int)<=(a:Int))=decide (b<=a) from decide_eq_decide.mpr (by omega)]
theorem Zm0 (P:Nat->Bool) (h:Nat->D) (ps:List Nat):(List.range ps.length).findSome? (fun i=>if P (ps.getD i 0)=true then some (h (ps.getD i 0)) else none)=(ps.find? P).map h:=by
 have e:(List.range ps.length).map (fun i=>ps.getD i 0)=ps:=by
  apply List.ext_getElem?
  intro i
  rw [List.getElem?_map]
  by_cases hi:i<ps.length
  ·rw [List.getElem?_range hi]
   show some (ps.getD i 0)=_
   rw [List.getD_eq_getElem?_getD,List.getElem?_eq_getElem hi];rfl
  ·rw [List.getElem?_eq_none (by simp;omega),List.getElem?_eq_none (by omega)];rfl
 have k:∀l:List Nat,l.findSome? (fun x=>if P x=true then some (h x) else none)=(l.find? P).map h:=fun l=>by
  induction l with
  | nil=>rfl
  | cons x l ih=>
   rw [List.findSome?_cons,List.find?_cons]
   cases hx:P x with
   | true=>rfl
   | false=>exact ih
 rw [<-k ps]
 conv=>rhs;rw [<-e]
 rw [List.findSome?_map];rfl
section
variable {n:Nat} {A:Nat->List Nat} {ap:Nat->Nat->Bool}
theorem ZpS (hA:∀p o,ap p o=decide (o∈A p)) {p:Nat} (hp:p<n) (ps:List Nat) (hl:ps.length<=1000) (s:Pn):Zk7 [apsD n A,nD p,.lst (ps.map nD)] s=some (.lst ((ps.filter fun o=>ap p o).map nD),s):=by
 have hc:=Zbc (src:=[none,some 0,some 1]) (fi:=ZaY (dVar 2)) (τ:=gOne 0) (ft:=asB (dOp dIn (dVar 0) (dOp dIx (dVar 1) (dVar 2)))) (fe:=dVar 0) (ρ:=[some (apsD n A),some (nD p),some (.lst (ps.map nD))]) (s:=s) (ds:=ps.map nD) (fun d=>[some d,some (apsD n A),some (nD p)]) (fun d=>ap p (nat0 d)) (fun d=>d) (Zb1 rfl) (by rw [List.length_map,ZaG];omega) (fun d hd=>by
  obtain ⟨x,hx,rfl⟩:=List.mem_map.mp hd
  exact ⟨rfl,ZaC (Zah (d:=nD x) (e:=.dk (kvA (A p))) rfl (Zah (d:=apsD n A) (e:=nD p) rfl rfl (ZoN hp)) (by rw [Zsg,<-hA];rfl)),fun _=>rfl⟩)
 rw [List.filter_map,List.map_map] at hc
 exact ZaN rfl (ZaE (ZaM hc))
theorem Zs8 (hA:∀p o,ap p o=decide (o∈A p)) {Fs:List D->M D} {p:Nat} (hp:p<n) {ps r:List Nat} (hl:ps.length<=1000) (hr:r.length<=1000) {s:Pn} (hF:Fs [apsD n A,Zbl n,.lst ((Zbk ap ps p).map nD)] s=some (.lst (r.map nD),s)):FHW Fs [apsD n A,Zbl n,nD p,.lst (ps.map nD)] s=some (.lst ((p::r).map nD),s):=by
 have hc:=Zbc (src:=[none,some 2,some 0]) (fi:=ZaY (dVar 3)) (τ:=gOne 0) (ft:=bAnd (asB (dOp dNeO (dVar 0) (dVar 1))) (asB (dOp Zda (dVar 0) (dOp dIx (dVar 2) (dVar 1))))) (fe:=dVar 0) (ρ:=[some (apsD n A),some (Zbl n),some (nD p),some (.lst (ps.map nD)),none]) (s:=s) (ds:=ps.map nD) (fun d=>[some d,some (nD p),some (apsD n A)]) (fun d=>!decide (nat0 d=p) && !ap p (nat0 d)) (fun d=>d) (Zb1 rfl) (by rw [List.length_map,ZaG];omega) (fun d hd=>by
  obtain ⟨x,hx,rfl⟩:=List.mem_map.mp hd
  refine ⟨rfl,Zrr (ZaC (Zah (d:=nD x) (e:=nD p) rfl rfl (Zh1 x p))) fun _=>ZaC (Zah (d:=nD x) (e:=.dk (kvA (A p))) rfl (Zah (d:=apsD n A) (e:=nD p) rfl rfl (ZoN hp)) (by rw [Zn7,<-hA];rfl)),fun _=>rfl⟩)
 rw [List.filter_map,List.map_map] at hc
 have e:(ps.filter ((fun d=>!decide (nat0 d=p) && !ap p (nat0 d))∘nD)).map ((fun d=>d)∘nD)=(Zbk ap ps p).map nD:=rfl
 rw [e] at hc
 refine ZaN rfl (Zbh (Zb2 hc) (ZaE (ZaM (Zah (d:=.lst [nD p]) (e:=.lst (r.map nD)) (Zf8 (Zad rfl rfl) (by show 1<=sizeLine;decide)) (Zax (Zad rfl (Zad rfl (Zad rfl rfl))) hF) ?_))))
 rw [Zq4 (by rw [List.length_map];simp;omega)]
 rfl
theorem ZgE:∀(m:Nat) (ps:List Nat),∀x∈bk2 ap m ps,x∈ps
 | 0,ps,x,hx=>by simp [bk2] at hx
 | m+1,ps,x,hx=>by
  unfold bk2 at hx
  by_cases h0:ps=[]
  ·rw [if_pos h0] at hx;cases hx
  ·rw [if_neg h0] at hx
   have w:=fun p (hp:p∈ps) (h:x∈p::bk2 ap m (Zbk ap ps p))=>show x∈ps from by
    rcases List.mem_cons.mp h with e | h
    ·rw [e];exact hp
    ·exact (ZcL x (ZgE m _ x h)).1
   split at hx
   ·rename_i p hp
    exact w _ (Zfx hp).1 hx
   ·split at hx
    ·exact w _ (Zdz h0) hx
    ·exact (List.mem_filter.mp (ZgE m _ x hx)).1
set_option maxHeartbeats 1000000 in
theorem ZeY (hA:∀p o,ap p o=decide (o∈A p)) (s:Pn):∀(m:Nat) (ps:List Nat),ps.length<m->m<=100->(∀p∈ps,p<n)->FHA m [apsD n A,Zbl n,.lst (ps.map nD)] s=some (.lst ((bk2 ap m ps).map nD),s)
 | 0,_,h,_,_=>by omega
 | m+1,ps,hl,hm,hn=>by
  have hpl:ZaS (ps.map nD)=true:=ZhI ps
  have hdp:deps (ps.map nD)<=10:=by rw [Zmb];omega
  have heq:=Zsv (ps.map nD) hpl hdp
  by_cases h0:ps=[]
  ·subst h0
   refine ZaN rfl (ZaE (ZhD (ZaC (Zah (d:=.lst []) (e:=.lst []) rfl (Zf8 rfl (Nat.zero_le _)) heq)) (ZaE (ZaM (d:=.lst []) (Zf8 rfl (Nat.zero_le _))))))
  ·have hf:decide (ps.map nD=[])=false:=by simpa using h0
   rw [hf] at heq
   have hcs:ps.map (cntA ap ps)≠[]:=by simpa using h0
   have hc:=Zbc (src:=[none,some 0,some 2]) (fi:=ZaY (dVar 2)) (τ:=gOne 0) (ft:=ZaZ) (fe:=dFn Zk7 (Zac (dVar 1) (Zac (dVar 0) (Zac (dVar 2) dNil)))) (ρ:=[some (apsD n A),some (Zbl n),some (.lst (ps.map nD)),none,none,none,none,none,none]) (s:=s) (ds:=ps.map nD) (fun d=>[some d,some (apsD n A),some (.lst (ps.map nD))]) (fun _=>true) (fun d=>.lst ((ps.filter fun o=>ap (nat0 d) o).map nD)) (Zb1 rfl) (by rw [List.length_map,ZaG];omega) (fun d hd=>by
    obtain ⟨x,hx,rfl⟩:=List.mem_map.mp hd
    exact ⟨rfl,rfl,fun _=>Zax (Zad rfl (Zad rfl (Zad rfl rfl))) (ZpS hA (hn x hx) ps (by omega) s)⟩)
   rw [ZbQ,List.map_map] at hc
   generalize hR:ps.map ((fun d=>D.lst ((ps.filter fun o=>ap (nat0 d) o).map nD))∘nD)=R at hc
   have kw:∀p,p∈ps->FHW (FHA m) [apsD n A,Zbl n,nD p,.lst (ps.map nD)] s=some (.lst ((p::bk2 ap m (Zbk ap ps p)).map nD),s):=fun p hp=>by
    have hlt:=Zj6 (ap:=ap) hp
    have hb:=ZgF (ap:=ap) m (Zbk ap ps p)
    exact Zs8 hA (hn p hp) (by omega) (by omega) (ZeY hA s m (Zbk ap ps p) (by omega) (by omega) fun x hx=>hn x (ZcL x hx).1)
   have hrow:∀i,i<ps.length->dIx (.lst R) (nD i)=some (.lst ((ps.filter fun o=>ap (ps.getD i 0) o).map nD)):=fun i hi=>by
    refine ZbJ ?_
    rw [<-hR,List.getElem?_map,List.getD_eq_getElem?_getD,List.getElem?_eq_getElem hi];rfl
   have hpl2:∀i,i<ps.length->dIx (.lst (ps.map nD)) (nD i)=some (nD (ps.getD i 0)):=fun i hi=>Zgz hi
   have hgm:∀i,i<ps.length->ps.getD i 0∈ps:=fun i hi=>by
    rw [List.getD_eq_getElem?_getD,List.getElem?_eq_getElem hi];exact List.getElem_mem hi
   have hfind:=Zi9 (τ:=gOne 4) (body:=Zp8 (FHA m)) (s:=s) (fun ρ=>∃o4,ρ=[some (apsD n A),some (Zbl n),some (.lst (ps.map nD)),some (.lst R),o4,none,none,none,none]) (fun i=>if decide (cntA ap ps (ps.getD i 0)<=1)=true then some (.lst ((ps.getD i 0::bk2 ap m (Zbk ap ps (ps.getD i 0))).map nD)) else none) (List.range ps.length) [some (apsD n A),some (Zbl n),some (.lst (ps.map nD)),some (.lst R),none,none,none,none,none] ⟨none,rfl⟩ (fun i hi ρ hρ=>by
    obtain ⟨o4,rfl⟩:=hρ
    have hi:=List.mem_range.mp hi
    refine ⟨_,rfl,?_⟩
    have hcond:asB (dOp dLe (dFn Zci (Zac (dVar 1) (Zac (dOp dIx (dVar 3) (dVar 4)) dNil))) (dOp dIx (dVar 1) (dOp dIx (dVar 2) (dVar 4)))) [some (apsD n A),some (Zbl n),some (.lst (ps.map nD)),some (.lst R),some (nD i),none,none,none,none] s=some (decide (cntA ap ps (ps.getD i 0)<=1),s):=by
     refine ZaC (Zah (Zax (Zad rfl (Zad (Zah (d:=.lst R) (e:=nD i) rfl rfl (hrow i hi)) rfl)) (Zej (fun p hp=>hn p (List.mem_filter.mp hp).1) (by have:=List.length_filter_le (fun o=>ap (ps.getD i 0) o) ps;omega) s)) (Zah (d:=Zbl n) rfl (Zah (d:=.lst (ps.map nD)) (e:=nD i) rfl rfl (hpl2 i hi)) (ZlW (hn _ (hgm i hi)))) ?_)
     show some (D.bl (decide (((ps.filter fun o=>ap (ps.getD i 0) o).length:Int)<=(1:Int))))=_
     congr 2
     exact decide_eq_decide.mpr (by unfold cntA;omega)
    by_cases hq:cntA ap ps (ps.getD i 0)<=1
    ·rw [decide_eq_true hq] at hcond ⊢
     rw [if_pos rfl]
     exact ZaE (ZhD hcond (ZaE (ZaM (Zax (Zad rfl (Zad rfl (Zad (Zah (d:=.lst (ps.map nD)) (e:=nD i) rfl rfl (hpl2 i hi)) (Zad rfl rfl)))) (kw _ (hgm i hi))))))
    ·rw [decide_eq_false hq] at hcond ⊢
     rw [if_neg Bool.false_ne_true]
     exact ⟨_,Zbh (ZhE hcond rfl) rfl,some (nD i),rfl⟩)
   rw [Zm0 (fun p=>decide (cntA ap ps p<=1)) (fun p=>.lst ((p::bk2 ap m (Zbk ap ps p)).map nD)) ps] at hfind
   have hit:ZaU (ZaD dLen (Zac (dVar 2) dNil)) [some (apsD n A),some (Zbl n),some (.lst (ps.map nD)),some (.lst R),none,none,none,none,none] s=some ((List.range ps.length).map nD,s):=by
    have:=Zbd (f:=ZaD dLen (Zac (dVar 2) dNil)) (ρ:=[some (apsD n A),some (Zbl n),some (.lst (ps.map nD)),some (.lst R),none,none,none,none,none]) (s:=s) (n:=ps.length) (ZaR (Zad rfl rfl) (Zn1 ps)) (by omega)
    rw [ZcB] at this
    exact this
   unfold bk2
   rw [if_neg h0]
   refine ZaN rfl (Zbh (ZhE (ZaC (Zah (d:=.lst (ps.map nD)) (e:=.lst []) rfl (Zf8 rfl (Nat.zero_le _)) heq)) rfl) (Zbh (Zb2 hc) ?_))
   show sSeq _ _ [some (apsD n A),some (Zbl n),some (.lst (ps.map nD)),some (.lst R),none,none,none,none,none] s=_
   cases ho:one? ap ps with
   | some p=>
    have ho':ps.find? (fun p=>decide (cntA ap ps p<=1))=some p:=ho
    rw [ho'] at hfind
    exact ZaE (ZlQ hit hfind)
   | none=>
    have ho':ps.find? (fun p=>decide (cntA ap ps p<=1))=none:=ho
    rw [ho'] at hfind
    obtain ⟨ρ2,hf2,o4,rfl⟩:=hfind
    refine Zbh (ZlQ hit hf2) ?_
    have hmax:=Zpu hcs
    have hp1:=Zdz (ap:=ap) h0
    have hix:dIx (.lst (ps.map nD)) (nD ((ps.map (cntA ap ps)).idxOf (mxN (ps.map (cntA ap ps)))))=some (nD (ZaI ap ps)):=Zgz (by
     have:=List.idxOf_lt_length_iff.mpr (Zf4 hcs)
     simpa using this)
    have hcc:=Zbc (src:=[none]) (fi:=ZaY (dVar 3)) (τ:=gOne 0) (ft:=ZaZ) (fe:=ZaD dLen (Zac (dVar 0) dNil)) (ρ:=[some (apsD n A),some (Zbl n),some (.lst (ps.map nD)),some (.lst R),o4,none,none,none,none]) (s:=s) (ds:=R) (fun d=>[some d]) (fun _=>true) (fun d=>match d with | .lst l=>nD l.length | _=>.non) (Zb1 rfl) (by rw [<-hR,List.length_map,ZaG];omega) (fun d hd=>by
     rw [<-hR] at hd
     obtain ⟨x,hx,rfl⟩:=List.mem_map.mp hd
     exact ⟨rfl,rfl,fun _=>ZaR (Zad rfl rfl) rfl⟩)
    rw [ZbQ,<-hR,List.map_map] at hcc
    have e5:ps.map ((fun d=>match d with | .lst l=>nD l.length | _=>D.non)∘((fun d=>D.lst ((ps.filter fun o=>ap (nat0 d) o).map nD))∘nD))=(ps.map (cntA ap ps)).map nD:=by
     rw [List.map_map]
     refine List.map_congr_left fun x _=>?_
     show nD ((ps.filter fun o=>ap x o).map nD).length=nD (cntA ap ps x)
     rw [List.length_map];rfl
    rw [e5,hR] at hcc
    have hwo:=Zhq hp1
    have ih2:=ZeY hA s m (ps.filter fun o=>!decide (o=ZaI ap ps)) (by omega) (by omega) fun x hx=>hn x (List.mem_filter.mp hx).1
    have hc2:=Zbc (src:=[none,some 6]) (fi:=ZaY (dVar 2)) (τ:=gOne 0) (ft:=asB (dOp dNeO (dVar 0) (dVar 1))) (fe:=dVar 0) (ρ:=[some (apsD n A),some (Zbl n),some (.lst (ps.map nD)),some (.lst R),o4,some (.lst ((ps.map (cntA ap ps)).map nD)),some (nD (ZaI ap ps)),some (.lst ((ZaI ap ps::bk2 ap m (Zbk ap ps (ZaI ap ps))).map nD)),none]) (s:=s) (ds:=ps.map nD) (fun d=>[some d,some (nD (ZaI ap ps))]) (fun d=>!decide (nat0 d=ZaI ap ps)) (fun d=>d) (Zb1 rfl) (by rw [List.length_map,ZaG];omega) (fun d hd=>by
     obtain ⟨x,hx,rfl⟩:=List.mem_map.mp hd
     exact ⟨rfl,ZaC (Zah (d:=nD x) (e:=nD (ZaI ap ps)) rfl rfl (Zh1 _ _)),fun _=>rfl⟩)
    have e2:((ps.map nD).filter fun d=>!decide (nat0 d=ZaI ap ps)).map (fun d=>d)=(ps.filter fun o=>!decide (o=ZaI ap ps)).map nD:=by rw [List.filter_map,List.map_map];rfl
    rw [e2] at hc2
    have bl1:=ZgF (ap:=ap) m (Zbk ap ps (ZaI ap ps))
    have bl2:=ZgF (ap:=ap) m (ps.filter fun o=>!decide (o=ZaI ap ps))
    have w1:=Zej (n:=n) (ps:=ZaI ap ps::bk2 ap m (Zbk ap ps (ZaI ap ps))) (fun p hp=>by
     rcases List.mem_cons.mp hp with e | hp
     ·rw [e];exact hn _ hp1
     ·exact hn p (ZcL p (ZgE m _ p hp)).1) (by simp only [List.length_cons];omega) s
    have w2:=Zej (n:=n) (ps:=bk2 ap m (ps.filter fun o=>!decide (o=ZaI ap ps))) (fun p hp=>hn p (List.mem_filter.mp (ZgE m _ p hp)).1) (by omega) s
    refine Zbh (Zb2 hcc) (Zbh (Zb2 (Zah (d:=.lst (ps.map nD)) rfl (Zah (d:=.lst ((ps.map (cntA ap ps)).map nD)) rfl (ZaR (Zad rfl rfl) hmax) (ZmP (Zf4 hcs))) hix)) (Zbh (Zb2 (Zax (Zad rfl (Zad rfl (Zad rfl (Zad rfl rfl)))) (kw _ hp1))) (Zbh (Zb2 (Zax (Zad rfl (Zad rfl (Zad hc2 rfl))) ih2)) (ZaE (ZaM ?_)))))
    have hge:=geN (ZaI ap ps::bk2 ap m (Zbk ap ps (ZaI ap ps))).length (bk2 ap m (ps.filter fun o=>!decide (o=ZaI ap ps))).length
    have ht:=ZaC (Zah (g:=dGe) (ρ:=[some (apsD n A),some (Zbl n),some (.lst (ps.map nD)),some (.lst R),o4,some (.lst ((ps.map (cntA ap ps)).map nD)),some (nD (ZaI ap ps)),some (.lst ((ZaI ap ps::bk2 ap m (Zbk ap ps (ZaI ap ps))).map nD)),some (.lst ((bk2 ap m (ps.filter fun o=>!decide (o=ZaI ap ps))).map nD))]) (s:=s) (Zax (F:=Zci) (fs:=Zac (dVar 1) (Zac (dVar 7) dNil)) (Zad rfl (Zad rfl rfl)) w1) (Zax (F:=Zci) (fs:=Zac (dVar 1) (Zac (dVar 8) dNil)) (Zad rfl (Zad rfl rfl)) w2) hge)
    generalize hX:ZaI ap ps::bk2 ap m (Zbk ap ps (ZaI ap ps))=X at ht ⊢
    generalize hY:bk2 ap m (ps.filter fun o=>!decide (o=ZaI ap ps))=Y at ht ⊢
    have hfin:∀ρ:Rho,(ρ[7]?).bind id=some (.lst (X.map nD))->(ρ[8]?).bind id=some (.lst (Y.map nD))->asB (dOp dGe (dFn Zci (Zac (dVar 1) (Zac (dVar 7) dNil))) (dFn Zci (Zac (dVar 1) (Zac (dVar 8) dNil)))) ρ s=some (decide (Y.length<=X.length),s)->dIf (asB (dOp dGe (dFn Zci (Zac (dVar 1) (Zac (dVar 7) dNil))) (dFn Zci (Zac (dVar 1) (Zac (dVar 8) dNil))))) (dVar 7) (dVar 8) ρ s=some (.lst ((if Y.length<=X.length then X else Y).map nD),s):=fun ρ h7 h8 ht=>by
     unfold dIf Zan
     rw [ht]
     by_cases hq:Y.length<=X.length
     ·simp only [hq,decide_true,if_true]
      unfold dVar mOf;rw [h7]
     ·simp only [hq,decide_false,if_false,Bool.false_eq_true]
      unfold dVar mOf;rw [h8]
    exact hfin _ rfl rfl ht
end
end TQ
namespace TQ
open PySem L2 TF TS
open TP
open TP2
open TP3
def ZbC (n:Nat) (ties:List (Nat×Nat)):List Nat:=Ze7 n (bk2 (tied (Za0 n ties)) 26 (List.range n))
def gHK:Rho->M Out:=(sSeq (sSet 2 (ZaP [none] (ZaY (dFn (runB 2 1 gN) (Zac (dFn Zdr (Zac (dVar 0) dNil)) dNil))) (gOne 0) ZaZ (ZaD Zh6 (Zac (ZaP [none] (ZaY (dVar 0)) (gOne 0) ZaZ (dTup (Zac (dVar 0) (Zac (dC (.bl true)) dNil)))) dNil))))
 (sSeq (sRet (ZaD ZeC (Zac (ZaD ZgC (Zac (dFn (FHA 26) (Zac (dVar 2) (Zac (dVar 1) (Zac (ZbV (dOp dIx (dVar 0) (dC (.int 0)))) dNil)))) dNil)) dNil)))
 Zam))
theorem Zlp {n:Nat} {ties:List (Nat×Nat)} (hw:IsWeb n ties) (hn:n<=24):ZbC n ties∈kn ties n/\∀K∈kn ties n,K.length<=(ZbC n ties).length:=by
 have sy:∀a b,tied (Za0 n ties) a b=tied (Za0 n ties) b a:=ZcI _
 have hk:=ZfJ sy 26 (List.range n)
 have hlt:∀x∈bk2 (tied (Za0 n ties)) 26 (List.range n),x<n:=fun x hx=>List.mem_range.mp (hk.sub x hx)
 have hp:=ZeU hk.nd hlt
 constructor
 ·refine Za1.mpr ⟨ZgV _ _,fun o ho=>hlt o (hp.mem_iff.mp ho),fun a ha b hb ne=>?_⟩
  have ha':=hp.mem_iff.mp ha
  have hb':=hp.mem_iff.mp hb
  have:=hk.two a ha' b hb' ne
  cases h:tied ties a b with
  | true=>rfl
  | false=>
   have:=ZeG.mpr ⟨hlt a ha',hlt b hb',ne,h⟩
   simp_all
 ·intro K hK
  obtain ⟨h1,h2,h3⟩:=Za1.mp hK
  have:=Zhp sy ZoS 26 (List.range n) K (by rw [List.length_range];omega) ⟨ZbK h1,fun x hx=>List.mem_range.mpr (h2 x hx),fun x hx y hy ne=>by
   cases h:tied (Za0 n ties) x y with
   | false=>rfl
   | true=>
    have h4:=(ZeG.mp h).2.2.2
    rw [h3 x hx y hy ne] at h4;cases h4⟩
  have e:=hp.length_eq
  show K.length<=(Ze7 n _).length
  omega
theorem ZpE (n:Nat) (ties:List (Nat×Nat)) (hn:n<=24) (hl:ties.length<=100000) (s:Pn):runB 3 2 gHK [webD n ties,Zbl n] s=some (tupN (ZbC n ties),s):=by
 have sy:∀a b,tied (Za0 n ties) a b=tied (Za0 n ties) b a:=ZcI _
 have hk:=ZfJ sy 26 (List.range n)
 have hlt:∀x∈bk2 (tied (Za0 n ties)) 26 (List.range n),x<n:=fun x hx=>List.mem_range.mp (hk.sub x hx)
 have hp:=ZeU hk.nd hlt
 have htl:=(Zno n ties).len hn
 have hc:=Zbc (src:=[none]) (fi:=ZaY (dFn (runB 2 1 gN) (Zac (dFn Zdr (Zac (dVar 0) dNil)) dNil))) (τ:=gOne 0) (ft:=ZaZ) (fe:=ZaD Zh6 (Zac (ZaP [none] (ZaY (dVar 0)) (gOne 0) ZaZ (dTup (Zac (dVar 0) (Zac (dC (.bl true)) dNil)))) dNil)) (ρ:=[some (webD n ties),some (Zbl n),none]) (s:=s) (ds:=(List.range n).map fun p=>D.lst ((ZaV n (Za0 n ties) p).map nD)) (fun d=>[some d]) (fun _=>true) (fun d=>match d with | .lst ds=>.dk (kvA (ds.map nat0)) | _=>.non)
  (Zb1 (Zax (Zad (Zax (Zad rfl rfl) (Zmw n ties s (by omega) hl)) rfl) (Zgm n (Za0 n ties) (by omega) (by omega) s))) (by rw [List.length_map,List.length_range,ZaG];omega) (fun d hd=>by
  obtain ⟨p,hp,rfl⟩:=List.mem_map.mp hd
  refine ⟨rfl,rfl,fun _=>?_⟩
  have hnl:(ZaV n (Za0 n ties) p).length<=n:=by
   have:=List.length_filter_le (fun o=>tied (Za0 n ties) p o) (List.range n)
   rw [List.length_range] at this;exact this
  have hc2:=Zbc (src:=[none]) (fi:=ZaY (dVar 0)) (τ:=gOne 0) (ft:=ZaZ) (fe:=dTup (Zac (dVar 0) (Zac (dC (.bl true)) dNil))) (ρ:=[some (D.lst ((ZaV n (Za0 n ties) p).map nD))]) (s:=s) (ds:=(ZaV n (Za0 n ties) p).map nD) (fun d=>[some d]) (fun _=>true) (fun d=>D.tup [d,.bl true]) (Zb1 rfl) (by rw [List.length_map,ZaG];omega) (fun d hd=>⟨rfl,rfl,fun _=>ZbN (Zad rfl (Zad rfl rfl)) Zc5⟩)
  rw [ZbQ,List.map_map] at hc2
  refine ZaR (Zad hc2 rfl) ?_
  show (if ((ZaV n (Za0 n ties) p).map ((fun d=>D.tup [d,.bl true])∘nD)).length<=sizeLine then (Zdh [] _).map D.dk else none)=_
  rw [if_pos (by rw [List.length_map,ZaG];omega)]
  have e:=ZnC (ZaV n (Za0 n ties) p) [] (List.nodup_range.sublist List.filter_sublist) fun _ _=>rfl
  show (Zdh [] ((ZaV n (Za0 n ties) p).map fun o=>D.tup [nD o,.bl true])).map D.dk=_
  rw [e]
  show some (D.dk (kvA (ZaV n (Za0 n ties) p)))=some (D.dk (kvA (((ZaV n (Za0 n ties) p).map nD).map nat0)))
  rw [List.map_map]
  have:(ZaV n (Za0 n ties) p).map (nat0∘nD)=ZaV n (Za0 n ties) p:=List.map_id _
  rw [this])
 rw [ZbQ,List.map_map] at hc
 have e1:(List.range n).map ((fun d=>match d with | .lst ds=>D.dk (kvA (ds.map nat0)) | _=>.non)∘fun p=>D.lst ((ZaV n (Za0 n ties) p).map nD))=(List.range n).map fun p=>.dk (kvA (ZaV n (Za0 n ties) p)):=by
  refine List.map_congr_left fun p _=>?_
  show D.dk (kvA (((ZaV n (Za0 n ties) p).map nD).map nat0))=_
  rw [List.map_map]
  have:(ZaV n (Za0 n ties) p).map (nat0∘nD)=ZaV n (Za0 n ties) p:=List.map_id _
  rw [this]
 rw [e1] at hc
 have hb:=ZeY (n:=n) (A:=ZaV n (Za0 n ties)) (ap:=tied (Za0 n ties)) Zjx s 26 (List.range n) (by rw [List.length_range];omega) (by omega) fun p hp=>List.mem_range.mp hp
 have hlr:ZbV (dOp dIx (dVar 0) (dC (.int 0))) [some (webD n ties),some (Zbl n),some (apsD n (ZaV n (Za0 n ties)))] s=some (.lst ((List.range n).map nD),s):=by
  unfold ZbV Zan
  rw [Zah (d:=webD n ties) (e:=.int 0) rfl rfl web0]
  show (if -(2 ^ 62)<=(n:Int)/\(n:Int)<=2 ^ 24 then mret (D.lst (ZaH 0 (n:Int).toNat)) else ZaB) s=_
  rw [if_pos ⟨by omega,by omega⟩,Int.toNat_natCast,ZcB]
  rfl
 have hbl:=ZgF (ap:=tied (Za0 n ties)) 26 (List.range n)
 have hs:=Znu hk.nd hlt (by omega)
 exact ZaN rfl (Zbh (Zb2 hc) (ZaE (ZaM (ZaR (c:=tupN (ZbC n ties)) (Zad (ZaR (Zad (Zax (Zad rfl (Zad rfl (Zad hlr rfl))) hb) rfl) hs) rfl) rfl))))
end TQ
namespace TQ
open PySem L2 TF TS
open TP
open TP2
open TP3
theorem Zi6 (n:Nat) (hn:n<=1000):Zh2 (.tup [nD 1]) (nD n)=some (Zbl n):=by
 show (if (n:Int)=1 then some (D.tup [nD 1]) else if (n:Int)=0/\[nD 1]≠[] then some (.tup []) else ZgD (.tup [nD 1]) (.int (n:Int)))=_
 by_cases h1:n=1
 ·subst h1;rw [if_pos (by omega)];rfl
 ·rw [if_neg (by omega)]
  by_cases h0:n=0
  ·subst h0;rw [if_pos ⟨by omega,by simp⟩];rfl
  ·rw [if_neg (by omega)]
   show (if [nD 1]≠[]/\2<=(n:Int)/\(n:Int)<2 ^ 62/\[nD 1].length*(n:Int).toNat<=sizeLine then some (D.tup (List.replicate (n:Int).toNat [nD 1]).flatten) else none)=_
   rw [if_pos ⟨by simp,by omega,by omega,by simp only [List.length_singleton,Int.toNat_natCast,ZaG];omega⟩,Int.toNat_natCast,List.flatten_replicate_singleton]
theorem ZnX {n:Nat} {ties:List (Nat×Nat)} (hw:IsWeb n ties) (hn:n<=24):(Zgu n ties).length=(ZbC n ties).length:=by
 obtain ⟨a1,a2⟩:=ZdB hw hn
 obtain ⟨b1,b2⟩:=Zlp hw hn
 have:=a2 _ b1
 have:=b2 _ a1
 omega
end TQ
namespace TP3
open PySem L2 TF TP TS
open TP2
abbrev om (n:Nat) (ties:List (Nat×Nat)):Nat:=(Zgu n ties).length
section
variable {n:Nat} {ties:List (Nat×Nat)}
theorem Zp3 (hw:IsWeb n ties) (hn:n<=24) {K:List Nat} (h:K∈kn ties n):K.length<=om n ties:=(ZdB hw hn).2 K h
theorem Zr9 {m:Nat} {f:Nat->Nat} {tm:List (Nat×Nat)} (E:Emb m n f tm ties) (hm:IsWeb m tm) (hw:IsWeb n ties) (h1:m<=24) (hn:n<=24):om m tm<=om n ties:=by
 have:=Zsw E
 rw [Zl2 hm h1,Zl2 hw hn] at this
 exact this
def sel (n:Nat) (p:Nat->Bool):List Nat:=(List.range n).filter p
theorem ZoW (n:Nat) (p:Nat->Bool):(sel n p).Pairwise (· < ·):=(Zcq n).sublist List.filter_sublist
theorem Zeh {p:Nat->Bool} {x:Nat}:x∈sel n p↔x<n/\p x=true:=by unfold sel;rw [List.mem_filter,List.mem_range]
theorem ZqM (hw:IsWeb n ties) (hn:n<=24) {ps:List Nat} (nd:ps.Nodup) (hp:∀o∈ps,o<n) (hl:ps.length<=24):om ps.length (anew ties ps)<=om n ties:=Zr9 (ZkT hw nd hp) (Zb5 ties ps) hw hl hn
theorem Zou {K:List Nat} (hK:K∈kn ties n) {p:Nat} (hp:p∈K):∃K'∈kn ties n,K'.length+1=K.length/\∀x,x∈K'↔x∈K/\x≠p:=by
 obtain ⟨hr,hlt,_⟩:=Za1.mp hK
 have nd:=ZbK hr
 have hm:∀x,x∈K.erase p↔x∈K/\x≠p:=fun x=>by rw [nd.mem_erase_iff];exact And.comm
 refine ⟨K.erase p,ZoU hK (hr.sublist (List.erase_sublist)) fun x hx=>((hm x).mp hx).1,?_,hm⟩
 have:=(List.perm_cons_erase hp).length_eq
 rw [List.length_cons] at this
 exact this.symm
end
end TP3
namespace TQ
open PySem L2 TF TS
open TP
open TP2
open TP3
theorem Zqf (n:Nat) (ties:List (Nat×Nat)) (hn:n<=1000) (hl:ties.length<=100000) (s:Pn):ZbX [webD n ties] s=some (ZbP n ties,s):=Zgm n ties hn hl s
theorem Zp7:∀m,Za9 m=FHA m
 | 0=>rfl
 | m+1=>by
  show runB 9 3 (Zdq (Za9 m))=runB 9 3 (gHA (FHA m))
  rw [Zp7 m]
  rfl
theorem Zs9:ZbT=runB 3 2 gHK:=by
 unfold ZbT ZeN
 rw [Zp7]
 rfl
theorem Zpq (n:Nat) (ties:List (Nat×Nat)) (hn:n<=24) (hl:ties.length<=100000) (s:Pn):ZdK [webD n ties] s=some (.tup [nD (ZbC n ties).length,tupN (ZbC n ties)],s):=by
 have h:=ZpE n ties hn hl s
 rw [<-Zs9] at h
 exact ZaN rfl (Zbh (Zb2 (Zax (Zad rfl (Zad (Zah (ZbN (ds:=[nD 1]) (Zad rfl rfl) (by show 1<=sizeLine;decide)) (Zah (d:=webD n ties) (e:=.int 0) rfl rfl web0) (Zi6 n (by omega))) rfl)) h)) (ZaE (ZaM (ZbN (ds:=[nD (ZbC n ties).length,tupN (ZbC n ties)]) (Zad (ZaR (Zad rfl rfl) (by show some (D.int _)=_;rw [List.length_map])) (Zad rfl rfl)) Zc5))))
theorem Zhg {n:Nat} {ties:List (Nat×Nat)} (hw:IsWeb n ties) (hn:n<=24) (s:Pn):ZdK [webD n ties] s=some (.tup [nD (om n ties),tupN (ZbC n ties)],s):=by
 have hl:=hw.len hn
 have h:=Zpq n ties hn (by omega) s
 rw [<-ZnX hw hn] at h
 exact h
theorem Zqs {n:Nat} {ties:List (Nat×Nat)} {p:Nat} {qs:List Nat} {f:Nat->Nat} (hn:n<=24) (hpn:p<n) (hp:p∉qs) (hq:∀q∈qs,q<n) (hl:qs.length<=1000) (o1:Option D) (s:Pn) :
  (Zft 3 (fun ρ=>(dVar 4) (hide [3] ρ)) (chk true (dFn Zb6 (Zac (ZaP [none,some 3] (ZaY (dOp dIx (dVar 2) (dVar 4))) (gOne 0) (asB (dOp dIn (dVar 0) (dVar 1))) (dOp dIxK (dVar 1) (dVar 0))) dNil)))) [some (webD n ties),o1,some (ZbP n ties),some (.dk (kvF qs f)),some (nD p)] s
   = some (.nx [some (webD n ties),o1,some (ZbP n ties),some (.dk (kvF (qs ++ [p]) fun x=>if x=p then mex ((qs.filter fun o=>tied ties p o).map f) else f x)),some (nD p)],s):=by
 have hc:=Zbc (src:=[none,some 3]) (fi:=ZaY (dOp dIx (dVar 2) (dVar 4))) (τ:=gOne 0) (ft:=asB (dOp dIn (dVar 0) (dVar 1))) (fe:=dOp dIxK (dVar 1) (dVar 0)) (ρ:=[some (webD n ties),o1,some (ZbP n ties),some (.dk (kvF qs f)),some (nD p)]) (s:=s) (ds:=(ZaV n ties p).map nD) (fun d=>[some d,some (.dk (kvF qs f))]) (fun d=>decide (nat0 d∈qs)) (fun d=>nD (f (nat0 d)))
  (Zb1 (Zah (d:=ZbP n ties) (e:=nD p) rfl rfl (Zl0 hpn))) (by
   have:=List.length_filter_le (fun o=>tied ties p o) (List.range n)
   rw [List.length_map,ZaG]
   rw [List.length_range] at this
   show (ZaV n ties p).length<=_
   unfold ZaV;omega) (fun d hd=>by
  obtain ⟨x,hx,rfl⟩:=List.mem_map.mp hd
  exact ⟨rfl,ZaC (Zah (d:=nD x) (e:=.dk (kvF qs f)) rfl rfl (Zsf qs f x)),fun hb=>Zah (d:=.dk (kvF qs f)) (e:=nD x) rfl rfl (Zn5 (of_decide_eq_true hb))⟩)
 have e:(((ZaV n ties p).map nD).filter fun d=>decide (nat0 d∈qs)).map (fun d=>nD (f (nat0 d)))=(((ZaV n ties p).filter fun o=>decide (o∈qs)).map f).map nD:=by
  rw [List.filter_map,List.map_map,List.map_map];rfl
 rw [e] at hc
 have hlen:(((ZaV n ties p).filter fun o=>decide (o∈qs)).map f).length<=1000:=by
  rw [List.length_map]
  have h1:=List.length_filter_le (fun o=>decide (o∈qs)) (ZaV n ties p)
  have h2:=List.length_filter_le (fun o=>tied ties p o) (List.range n)
  rw [List.length_range] at h2
  unfold ZaV at h1;unfold ZaV;omega
 have hm:mex (((ZaV n ties p).filter fun o=>decide (o∈qs)).map f)=mex ((qs.filter fun o=>tied ties p o).map f):=Zi8 fun x=>by
  simp only [ZaV,List.mem_map,List.mem_filter,List.mem_range,decide_eq_true_eq]
  constructor
  ·rintro ⟨a,⟨⟨_,h2⟩,h3⟩,rfl⟩;exact ⟨a,⟨h3,h2⟩,rfl⟩
  ·rintro ⟨a,⟨h3,h2⟩,rfl⟩;exact ⟨a,⟨⟨hq a h3,h2⟩,h3⟩,rfl⟩
 have hf:=ZjA (((ZaV n ties p).filter fun o=>decide (o∈qs)).map f) hlen s
 rw [hm] at hf
 have hv:(chk true (dFn Zb6 (Zac (ZaP [none,some 3] (ZaY (dOp dIx (dVar 2) (dVar 4))) (gOne 0) (asB (dOp dIn (dVar 0) (dVar 1))) (dOp dIxK (dVar 1) (dVar 0))) dNil))) [some (webD n ties),o1,some (ZbP n ties),some (.dk (kvF qs f)),some (nD p)] s=some (nD (mex ((qs.filter fun o=>tied ties p o).map f)),s):=ZoC (Zax (Zad hc rfl) hf) rfl
 rw [ZlS hv (x:=nD p) rfl (kvs:=kvF qs f) rfl rfl rfl (by unfold kvF;rw [List.length_map,ZaG];omega),Zl6 hp]
 rfl
theorem ZpC (n:Nat) (ties:List (Nat×Nat)) (hw:IsWeb n ties) (hn:n<=24) {ps:List Nat} (hp:ps.Perm (List.range n)) (s:Pn):ZcT [webD n ties,.lst (ps.map nD)] s=some (tupN (Zdl n ties ps),s):=by
 have nd:ps.Nodup:=hp.nodup_iff.mpr List.nodup_range
 have hl:ps.length=n:=by rw [hp.length_eq,List.length_range]
 have hlt:∀q∈ps,q<n:=fun q hq=>List.mem_range.mp (hp.mem_iff.mp hq)
 have hlt2:=hw.len hn
 refine Ok.toEq (Ok.runB rfl (Ok.seq (.sset (.eq (Zax (Zad rfl rfl) (Zqf n ties (by omega) (by omega) s)) (Ok.seq (Ok.sown (.eq (a:=.dk []) rfl ⟨rfl,?_⟩)))))))
 refine Ok.seq (.sfor (fun k ρ s'=>s'=s/\k<=ps.length/\∃o3,ρ=[some (webD n ties),some (.lst (ps.map nD)),some (ZbP n ties),some (.dk (kvF (ps.take k) (hr ties (ps.take k).reverse))),o3]) (.eq (a:=ps.map nD) (s':=s) (Zb1 rfl) ⟨⟨rfl,Nat.zero_le _,none,by rw [List.take_zero];rfl⟩,fun k d ρ s' hd hI=>?_,fun ρ' s' hI=>?_⟩))
 ·obtain ⟨rfl,_,o3,rfl⟩:=hI
  rw [List.getElem?_map] at hd
  cases e:ps[k]? with
  | none=>rw [e] at hd;cases hd
  | some p=>
   rw [e] at hd
   cases hd
   refine ⟨_,rfl,Ok.seq (.eq (Zqs (f:=hr ties (ps.take k).reverse) hn (hlt p (List.mem_of_getElem? e)) (Zmr nd e) (fun q hq=>hlt q (List.take_subset _ _ hq)) (by rw [List.length_take];omega) _ s') (.next ⟨_,rfl,rfl,?_,some (nD p),?_⟩))⟩
   ·have:=(List.getElem?_eq_some_iff.mp e).1;omega
   ·rw [Zrg ties e,ZeH e]
 ·obtain ⟨rfl,_,o3,rfl⟩:=hI
  rw [List.length_map,List.take_length]
  have hc:=Zbc (src:=[none,some 3]) (fi:=ZaU (dOp dIx (dVar 0) (dC (.int 0)))) (τ:=gOne 0) (ft:=ZaZ) (fe:=dOp dIxK (dVar 1) (dVar 0)) (ρ:=[some (webD n ties),some (.lst (ps.map nD)),some (ZbP n ties),some (.dk (kvF ps (hr ties ps.reverse))),o3]) (s:=s') (ds:=ZaH 0 n) (fun d=>[some d,some (.dk (kvF ps (hr ties ps.reverse)))]) (fun _=>true) (fun d=>nD (hr ties ps.reverse (nat0 d)))
   (Zbd (Zah (d:=webD n ties) (e:=.int 0) rfl rfl web0) (by omega)) (by rw [Za8,ZaG];omega) (fun d hd=>by
   obtain ⟨i,hi,rfl⟩:=Zct hd
   exact ⟨rfl,rfl,fun _=>Zah (d:=.dk (kvF ps (hr ties ps.reverse))) (e:=nD i) rfl rfl (Zn5 (hp.mem_iff.mpr (List.mem_range.mpr hi)))⟩)
  rw [ZbQ,ZcB,List.map_map] at hc
  refine Ok.seq (.sret (.eq (ZaR (Zad hc rfl) (c:=tupN (Zdl n ties ps)) ?_) ⟨rfl,rfl⟩))
  show some (D.tup _)=some (D.tup _)
  unfold Zdl
  rw [List.map_map];rfl
end TQ
namespace TQ
open PySem L2 TF TS
open TP
open TP2
open TP3
theorem ZiQ {w:Nat->Nat} {x:Nat}:∀{b:List Nat},x∈b->(b.map w).sum=w x+((b.erase x).map w).sum
 | y::r,h=>by
  by_cases e:y=x
  ·subst e;rw [List.erase_cons_head];simp
  ·rw [List.erase_cons_tail (by simpa using e)]
   have hx:x∈r:=by
    rcases List.mem_cons.mp h with z | z
    ·exact absurd z.symm e
    ·exact z
   have:=ZiQ (w:=w) hx
   simp only [List.map_cons,List.sum_cons];omega
theorem Zim {w:Nat->Nat}:∀{a b:List Nat},a.Nodup->(∀x∈a,x∈b)->(a.map w).sum<=(b.map w).sum
 | [],b,_,_=>by simp
 | x::r,b,nd,h=>by
  have nd':=List.nodup_cons.mp nd
  have:=Zim (w:=w) (b:=b.erase x) nd'.2 fun y hy=>(List.mem_erase_of_ne (by rintro rfl;exact nd'.1 hy)).mpr (h y (by simp [hy]))
  rw [ZiQ (w:=w) (h x (by simp))]
  simp only [List.map_cons,List.sum_cons];omega
theorem Zfl {w:Nat->Nat} {a b:List Nat} (h:a.Perm b):(a.map w).sum=(b.map w).sum:=(h.map w).sum_nat
theorem Znq {α:Type} {f g:α->Nat}:∀{l:List α},(∀x∈l,f x<=g x)->(l.map f).sum<=(l.map g).sum
 | [],_=>by simp
 | x::r,h=>by
  have:=Znq (f:=f) (g:=g) (l:=r) fun y hy=>h y (by simp [hy])
  have:=h x (by simp)
  simp only [List.map_cons,List.sum_cons];omega
section
variable {ties:List (Nat×Nat)} {ws:List Wb}
end
end TQ
namespace TQ
open PySem L2 TF TS
open TP
open TP2
open TP3
section
variable {n m:Nat} {t1 t2 T:List (Nat×Nat)}
end
end TQ
namespace TQ
open PySem L2 TF TS
open TP
open TP2
open TP3
section
variable {ties:List (Nat×Nat)}
theorem Zl9 (p:Nat) (b:List Nat):hr ties (p::b) p=mex ((b.filter fun o=>tied ties p o).map (hr ties b)):=by
 show (if p=p then _ else _)=_
 rw [if_pos rfl]
theorem Zgy {p x:Nat} {b:List Nat} (h:x≠p):hr ties (p::b) x=hr ties b x:=by
 show (if x=p then _ else _)=_
 rw [if_neg h]
theorem ZkJ:∀{qs:List Nat},qs.Nodup->∀x∈qs,∀y∈qs,x≠y->tied ties x y=true->hr ties qs x≠hr ties qs y
 | [],_,x,hx,_,_,_,_=>by simp at hx
 | p::b,nd,x,hx,y,hy,ne,ht=>by
  have nd':=List.nodup_cons.mp nd
  have key:∀z∈b,tied ties p z=true->hr ties (p::b) p≠hr ties (p::b) z:=fun z hz hp=>by
   have hzp:z≠p:=fun e=>nd'.1 (e▸hz)
   rw [Zl9,Zgy hzp]
   intro e
   exact (Zfy _).1 (by rw [e];exact List.mem_map.mpr ⟨z,List.mem_filter.mpr ⟨hz,hp⟩,rfl⟩)
  by_cases ex:x=p
  ·subst ex
   have hy':y∈b:=(List.mem_cons.mp hy).resolve_left fun z=>ne z.symm
   exact key y hy' ht
  ·have hx':x∈b:=(List.mem_cons.mp hx).resolve_left ex
   by_cases ey:y=p
   ·subst ey
    exact (key x hx' (by rw [ZcI];exact ht)).symm
   ·have hy':y∈b:=(List.mem_cons.mp hy).resolve_left ey
    rw [Zgy ex,Zgy ey]
    exact ZkJ nd'.2 x hx' y hy' ne ht
theorem Zp6:∀{qs:List Nat},∀x∈qs,hr ties qs x<qs.length
 | [],x,hx=>by simp at hx
 | p::b,x,hx=>by
  by_cases ex:x=p
  ·subst ex
   rw [Zl9]
   have h1:=Zsd ((b.filter fun o=>tied ties x o).map (hr ties b))
   have h2:=List.length_filter_le (fun o=>tied ties x o) b
   rw [List.length_map] at h1
   rw [List.length_cons];omega
  ·have hx':x∈b:=(List.mem_cons.mp hx).resolve_left ex
   rw [Zgy ex,List.length_cons]
   have:=Zp6 x hx'
   omega
variable {n:Nat} {ps:List Nat}
theorem ZeM:(Zdl n ties ps).length=n:=by unfold Zdl;simp
theorem Zge {i:Nat} (h:i<n):(Zdl n ties ps).getD i 0=hr ties ps.reverse i:=by
 unfold Zdl
 rw [List.getD_eq_getElem?_getD,List.getElem?_map,List.getElem?_range h];rfl
theorem ZlR (hp:ps.Perm (List.range n)):ps.reverse.Nodup/\(∀i,i∈ps.reverse↔i<n)/\ps.reverse.length=n:=
 ⟨(List.reverse_perm ps).nodup_iff.mpr (hp.nodup_iff.mpr List.nodup_range),fun i=>by rw [List.mem_reverse,hp.mem_iff,List.mem_range],by rw [List.length_reverse,hp.length_eq,List.length_range]⟩
theorem Zlu (hp:ps.Perm (List.range n)) {a b:Nat} (ha:a<n) (hb:b<n) (ne:a≠b) (ht:tied ties a b=true):(Zdl n ties ps).getD a 0≠(Zdl n ties ps).getD b 0:=by
 obtain ⟨nd,mm,_⟩:=ZlR hp
 rw [Zge ha,Zge hb]
 exact ZkJ nd a ((mm a).mpr ha) b ((mm b).mpr hb) ne ht
theorem ZpD (hp:ps.Perm (List.range n)) {a:Nat} (ha:a<n):(Zdl n ties ps).getD a 0<n:=by
 obtain ⟨nd,mm,ll⟩:=ZlR hp
 rw [Zge ha]
 have:=Zp6 (ties:=ties) a ((mm a).mpr ha)
 omega
structure RightH (n:Nat) (ties:List (Nat×Nat)) (f:List Nat):Prop where
 len:f.length=n
 lt:∀a<n,f.getD a 0<n
 ri:∀a<n,∀b<n,a≠b->tied ties a b=true->f.getD a 0≠f.getD b 0
theorem ZkH (hp:ps.Perm (List.range n)):RightH n ties (Zdl n ties ps):=⟨ZeM,fun a ha=>ZpD hp ha,fun a ha b hb ne ht=>Zlu hp ha hb ne ht⟩
theorem RightH.hueB {f:List Nat} (R:RightH n ties f) (hw:IsWeb n ties):hueB n ties (tupN f)=true:=by
 rw [Zjf hw R.len,Bool.and_eq_true,List.all_eq_true,List.all_eq_true]
 constructor
 ·intro y hy
  obtain ⟨i,hi,rfl⟩:=List.mem_iff_getElem.mp hy
  have:=R.lt i (by rw [<-R.len];exact hi)
  rw [List.getD_eq_getElem?_getD,List.getElem?_eq_getElem hi] at this
  exact decide_eq_true this
 ·intro p hp
  obtain ⟨q1,q2⟩:=hw.mem hp
  have:=R.ri p.1 (by omega) p.2 q2 (by omega) (by rw [ZcH,Nat.min_eq_left (by omega),Nat.max_eq_right (by omega)];exact hp)
  simpa using this
end
def ZaO (f:List Nat):List Nat:=f.foldl (fun a x=>if x∈a then a else a ++ [x]) []
def ZaW (W f:List Nat) (k h:Nat):Nat:=mxN (((List.range k).filter fun p=>decide (f.getD p 0=h)).map fun p=>W.getD p 0)
def whue (W f:List Nat):Nat:=((ZaO f).map (ZaW W f f.length)).sum
theorem ZkI (f:List Nat) (x:Nat):ZaO (f ++ [x])=if x∈ZaO f then ZaO f else ZaO f ++ [x]:=by
 unfold ZaO
 rw [List.foldl_append]
 rfl
theorem keys_fold:∀(f a:List Nat),a.Nodup->(f.foldl (fun a x=>if x∈a then a else a ++ [x]) a).Nodup/\∀x,x∈f.foldl (fun a x=>if x∈a then a else a ++ [x]) a↔x∈a∨x∈f
 | [],a,h=>⟨h,fun x=>by simp⟩
 | y::f,a,h=>by
  rw [List.foldl_cons]
  by_cases hy:y∈a
  ·rw [if_pos hy]
   obtain ⟨h1,h2⟩:=keys_fold f a h
   refine ⟨h1,fun x=>?_⟩
   rw [h2,List.mem_cons]
   constructor
   ·rintro (z | z)
    ·exact .inl z
    ·exact .inr (.inr z)
   ·rintro (z | rfl | z)
    ·exact .inl z
    ·exact .inl hy
    ·exact .inr z
  ·rw [if_neg hy]
   obtain ⟨h1,h2⟩:=keys_fold f (a ++ [y]) (List.nodup_append.mpr ⟨h,by simp,fun u hu v hv=>by rw [List.mem_singleton.mp hv];rintro rfl;exact hy hu⟩)
   refine ⟨h1,fun x=>?_⟩
   rw [h2,List.mem_append,List.mem_singleton,List.mem_cons,or_assoc]
theorem ZdE (f:List Nat):(ZaO f).Nodup/\∀x,x∈ZaO f↔x∈f:=by
 obtain ⟨h1,h2⟩:=keys_fold f [] List.nodup_nil
 exact ⟨h1,fun x=>(h2 x).trans (by simp)⟩
theorem Zlv (W f:List Nat) (k h:Nat):ZaW W f (k+1) h=if f.getD k 0=h then max (ZaW W f k h) (W.getD k 0) else ZaW W f k h:=by
 unfold ZaW
 rw [List.range_succ,List.filter_append]
 by_cases e:f.getD k 0=h
 ·rw [if_pos e,List.filter_cons_of_pos (by simpa using e),List.filter_nil,List.map_append]
  unfold mxN
  rw [List.foldl_append]
  rfl
 ·rw [if_neg e,List.filter_cons_of_neg (by simpa using e),List.filter_nil,List.append_nil]
theorem Zom {W f:List Nat} {k p:Nat} (hp:p<k):W.getD p 0<=ZaW W f k (f.getD p 0):=ZhQ (List.mem_map.mpr ⟨p,List.mem_filter.mpr ⟨List.mem_range.mpr hp,by simp⟩,rfl⟩)
theorem Zn8 {n:Nat} {ties:List (Nat×Nat)} {W f:List Nat} (R:RightH n ties f) {K:List Nat} (hK:K∈kn ties n):(K.map fun p=>W.getD p 0).sum<=whue W f:=by
 obtain ⟨k1,k2,k3⟩:=Za1.mp hK
 have nd:=ZbK k1
 have h1:(K.map fun p=>W.getD p 0).sum<=(K.map fun p=>ZaW W f f.length (f.getD p 0)).sum:=Znq fun p hp=>Zom (by rw [R.len];exact k2 p hp)
 have h2:((K.map fun p=>f.getD p 0).map (ZaW W f f.length)).sum<=whue W f:=by
  refine Zim ?_ fun x hx=>?_
  ·refine List.pairwise_map.mpr ((List.Pairwise.and_mem.mp nd).imp fun {a b} h=>?_)
   exact R.ri a (k2 a h.1) b (k2 b h.2.1) h.2.2 (k3 a h.1 b h.2.1 h.2.2)
  ·obtain ⟨p,hp,rfl⟩:=List.mem_map.mp hx
   refine ((ZdE f).2 _).mpr ?_
   rw [List.getD_eq_getElem?_getD,List.getElem?_eq_getElem (by rw [R.len];exact k2 p hp)]
   exact List.getElem_mem _
 rw [List.map_map] at h2
 exact Nat.le_trans h1 h2
theorem Zq7 {g:Nat->Nat} {x v:Nat} {qs:List Nat} (h:x∈qs):putK (kvF qs g) (Sum.inl (x:Int)) (.int (v:Int))=kvF qs fun y=>if y=x then v else g y:=by
 unfold putK
 rw [if_pos]
 ·unfold kvF
  rw [List.map_map]
  refine List.map_congr_left fun q _=>?_
  show (if (Sum.inl (q:Int):Key)=Sum.inl (x:Int) then (Sum.inl (q:Int),V.int (v:Int)) else (Sum.inl (q:Int),V.int (g q:Int)))=(Sum.inl (q:Int),V.int ((if q=x then v else g q:Nat):Int))
  by_cases e:q=x
  ·subst e;rw [if_pos rfl,if_pos rfl]
  ·rw [if_neg (fun z=>e (by injection z with z;omega)),if_neg e]
 ·rw [List.any_eq_true]
  exact ⟨_,List.mem_map.mpr ⟨x,h,rfl⟩,by simp⟩
theorem Zq8 (qs:List Nat) (g:Nat->Nat):ZeF (kvF qs g)=some (ZbB (qs.map g)):=by
 induction qs with
 | nil=>rfl
 | cons q qs ih=>
  show (ZeF (kvF qs g)).map (((g q:Nat):Int) :: ·)=_
  rw [ih];rfl
theorem Zg3:∀l:List Nat,(ZbB l).sum=((l.sum:Nat):Int)
 | []=>rfl
 | x::r=>by
  show ((x:Nat):Int)+(ZbB r).sum=_
  rw [Zg3 r,List.sum_cons];omega
theorem Zdt {f:List Nat} {i:Nat} (h:i<f.length):dIx (tupN f) (nD i)=some (nD (f.getD i 0)):=by
 refine ZbJ ?_
 rw [List.getElem?_map,List.getElem?_eq_getElem h,List.getD_eq_getElem?_getD,List.getElem?_eq_getElem h];rfl
theorem Zic (W f:List Nat) (hl:W.length=f.length) (hs:f.length<=1000) (s:Pn):Zbj [tupN W,tupN f] s=some (nD (whue W f),s):=by
 refine Ok.toEq (Ok.runB rfl (Ok.seq (Ok.sown (.eq (a:=.dk []) rfl ⟨rfl,?_⟩))))
 refine Ok.seq (.sfor (fun k ρ s'=>s'=s/\k<=f.length/\∃o3,ρ=[some (tupN W),some (tupN f),some (.dk (kvF (ZaO (f.take k)) (ZaW W f k))),o3]) (.eq (a:=ZaH 0 f.length) (s':=s) (Zbd (n:=f.length) (ZaR (Zad rfl rfl) (by show some (D.int _)=_;rw [List.length_map])) (by omega)) ⟨⟨rfl,Nat.zero_le _,none,by rw [List.take_zero];rfl⟩,fun k d ρ s' hd hI=>?_,fun ρ' s' hI=>?_⟩))
 ·obtain ⟨rfl,_,o3,rfl⟩:=hI
  obtain ⟨hk,rfl⟩:=Zc9 hd
  refine ⟨_,rfl,?_⟩
  have hfk:f[k]?=some (f.getD k 0):=by rw [List.getD_eq_getElem?_getD,List.getElem?_eq_getElem hk];rfl
  have hkeys:ZaO (f.take (k+1))=if f.getD k 0∈ZaO (f.take k) then ZaO (f.take k) else ZaO (f.take k) ++ [f.getD k 0]:=by rw [ZeH hfk,ZkI]
  have hlen:(ZaO (f.take k)).length<=1000:=by
   have:=ZcQ (ZdE (f.take k)).1 fun x hx=>((ZdE (f.take k)).2 x).mp hx
   rw [List.length_take] at this;omega
  have hget:Zh5 (dVar 2) (dOp dIx (dVar 1) (dVar 3)) (dC (.int 0)) [some (tupN W),some (tupN f),some (.dk (kvF (ZaO (f.take k)) (ZaW W f k))),some (nD k)] s'=some (nD (if f.getD k 0∈ZaO (f.take k) then ZaW W f k (f.getD k 0) else 0),s'):=by
   unfold Zh5 Zan
   rw [show dVar 2 [some (tupN W),some (tupN f),some (.dk (kvF (ZaO (f.take k)) (ZaW W f k))),some (nD k)] s'=some (.dk (kvF (ZaO (f.take k)) (ZaW W f k)),s') from rfl]
   dsimp only
   rw [Zah (d:=tupN f) (e:=nD k) rfl rfl (Zdt hk)]
   show (match valV (kvF (ZaO (f.take k)) (ZaW W f k)) (Sum.inl ((f.getD k 0:Nat):Int)) with | some v=>mOf (vD v) | none=>mret (D.int 0)) s'=_
   rw [Zfe]
   by_cases h:f.getD k 0∈ZaO (f.take k)
   ·rw [if_pos h,if_pos h];rfl
   ·rw [if_neg h,if_neg h];rfl
  have hnone:f.getD k 0∉ZaO (f.take k)->ZaW W f k (f.getD k 0)=0:=fun h=>by
   have:((List.range k).filter fun p=>decide (f.getD p 0=f.getD k 0))=[]:=List.filter_eq_nil_iff.mpr fun p hp z=>by
    have hp:=List.mem_range.mp hp
    refine h (((ZdE _).2 _).mpr ?_)
    rw [<-of_decide_eq_true z]
    refine List.mem_of_getElem? (i:=p) ?_
    rw [List.getElem?_take,if_pos hp,List.getD_eq_getElem?_getD,List.getElem?_eq_getElem (by omega)];rfl
   unfold ZaW
   rw [this];rfl
  have hval:(if f.getD k 0∈ZaO (f.take k) then ZaW W f k (f.getD k 0) else 0)=ZaW W f k (f.getD k 0):=by
   by_cases h:f.getD k 0∈ZaO (f.take k)
   ·rw [if_pos h]
   ·rw [if_neg h,hnone h]
  rw [hval] at hget
  have hv:(chk true (ZaD ZfF (Zac (dOp dIx (dVar 0) (dVar 3)) (Zac (Zh5 (dVar 2) (dOp dIx (dVar 1) (dVar 3)) (dC (.int 0))) dNil)))) [some (tupN W),some (tupN f),some (.dk (kvF (ZaO (f.take k)) (ZaW W f k))),some (nD k)] s'=some (nD (max (W.getD k 0) (ZaW W f k (f.getD k 0))),s'):=
   ZoC (ZaR (Zad (Zah (d:=tupN W) (e:=nD k) rfl rfl (Zdt (by omega))) (Zad hget rfl)) (maxN _ _)) rfl
  have hx:(fun ρ=>(dOp dIx (dVar 1) (dVar 3)) (hide [2] ρ)) [some (tupN W),some (tupN f),some (.dk (kvF (ZaO (f.take k)) (ZaW W f k))),some (nD k)] s'=some (nD (f.getD k 0),s'):=Zah (d:=tupN f) (e:=nD k) rfl rfl (Zdt hk)
  refine Ok.seq (.eq (ZlS hv hx (kvs:=kvF (ZaO (f.take k)) (ZaW W f k)) rfl rfl rfl (by unfold kvF;rw [List.length_map,ZaG];omega)) (.next ⟨_,rfl,rfl,by omega,some (nD k),?_⟩))
  have hput:putK (kvF (ZaO (f.take k)) (ZaW W f k)) (Sum.inl ((f.getD k 0:Nat):Int)) (.int ((max (W.getD k 0) (ZaW W f k (f.getD k 0)):Nat):Int))=kvF (ZaO (f.take (k+1))) (ZaW W f (k+1)):=by
   have hfun:(fun y=>if y=f.getD k 0 then max (W.getD k 0) (ZaW W f k (f.getD k 0)) else ZaW W f k y)=ZaW W f (k+1):=by
    funext y
    rw [Zlv]
    by_cases e:y=f.getD k 0
    ·rw [if_pos e,if_pos e.symm,e,Nat.max_comm]
    ·rw [if_neg e,if_neg fun z=>e z.symm]
   rw [hkeys]
   by_cases h:f.getD k 0∈ZaO (f.take k)
   ·rw [if_pos h,Zq7 h,hfun]
   ·rw [if_neg h,Zl6 h,hfun]
  rw [<-hput];rfl
 ·obtain ⟨rfl,_,o3,rfl⟩:=hI
  rw [Za8,List.take_length]
  refine Ok.seq (.sret (.eq (a:=nD (whue W f)) ?_ ⟨rfl,rfl⟩))
  unfold Zhl Zan
  rw [show dVar 2 [some (tupN W),some (tupN f),some (.dk (kvF (ZaO f) (ZaW W f f.length))),o3] s'=some (.dk (kvF (ZaO f) (ZaW W f f.length)),s') from rfl]
  show (match ZeF (kvF (ZaO f) (ZaW W f f.length)) with | some ns=>mret (D.int ns.sum) | none=>ZaB) s'=_
  rw [Zq8]
  show some (D.int (ZbB ((ZaO f).map (ZaW W f f.length))).sum,s')=_
  rw [Zg3];rfl
end TQ
namespace TQ
open PySem L2 TF TS
open TP
open TP2
open TP3
inductive Paper where
 | all | hues (f:List Nat) | place (v:Nat) (a b:Paper)
def papD (pl:Str):Paper->D
 | .all=>.tup [.str pl]
 | .hues f=>.tup [.str (Str.ofString "hues"),tupN f]
 | .place v a b=>.tup [.str (Str.ofString "place"),nD v,papD pl a,papD pl b]
abbrev rst (n v:Nat):List Nat:=sel n fun x=>!decide (x=v)
abbrev nrs (n:Nat) (ties:List (Nat×Nat)) (v:Nat):List Nat:=sel n fun x=>tied ties v x
abbrev wAl (W ps:List Nat):List Nat:=ps.map fun p=>W.getD p 0
def wt (W K:List Nat):Nat:=(K.map fun p=>W.getD p 0).sum
def bndP:Paper->Nat->List (Nat×Nat)->List Nat->Int->Bool
 | .all,_,_,W,w=>decide (((W.sum:Nat):Int)<=w)
 | .hues f,n,ties,W,w=>hueB n ties (tupN f)&&decide (((whue W f:Nat):Int)<=w)
 | .place v a b,n,ties,W,w=>decide (v<n)&&(decide (((W.getD v 0:Nat):Int)<=w)&&(bndP a (rst n v).length (anew ties (rst n v)) (wAl W (rst n v)) w&&bndP b (nrs n ties v).length (anew ties (nrs n ties v)) (wAl W (nrs n ties v)) (w-((W.getD v 0:Nat):Int))))
def ZeL:Paper->Prop
 | .all=>True
 | .hues f=>f.length<=1000
 | .place v a b=>v<1000/\ZeL a/\ZeL b
theorem ZoM {w w':Int} (h:w<=w'):∀{P:Paper} {n:Nat} {ties:List (Nat×Nat)} {W:List Nat},bndP P n ties W w=true->bndP P n ties W w'=true:=by
 intro P
 induction P generalizing w w' with
 | all=>intro n ties W hb;unfold bndP at hb ⊢;have:=of_decide_eq_true hb;exact decide_eq_true (by omega)
 | hues f=>
  intro n ties W hb
  unfold bndP at hb ⊢
  rw [Bool.and_eq_true] at hb ⊢
  have:=of_decide_eq_true hb.2
  exact ⟨hb.1,decide_eq_true (by omega)⟩
 | place v a b iha ihb=>
  intro n ties W hb
  unfold bndP at hb ⊢
  simp only [Bool.and_eq_true] at hb ⊢
  obtain ⟨h1,h2,h3,h4⟩:=hb
  have:=of_decide_eq_true h2
  exact ⟨h1,decide_eq_true (by omega),iha h h3,ihb (by omega) h4⟩
theorem Zj4 {n v:Nat} (h:v<n):(rst n v).length<n:=by
 have:=ZeP (ps:=List.range n) (p:=v) (List.mem_range.mpr h) (fun x=>!decide (x=v)) (by simp)
 rw [List.length_range] at this
 exact this
theorem Zkp {n v:Nat} {ties:List (Nat×Nat)} (hw:IsWeb n ties) (h:v<n):(nrs n ties v).length<n:=by
 have:=ZeP (ps:=List.range n) (p:=v) (List.mem_range.mpr h) (fun x=>tied ties v x) (by
  cases e:tied ties v v with
  | false=>rfl
  | true=>
   have:=hw.mem (ZcH.mp e)
   simp at this)
 rw [List.length_range] at this
 exact this
theorem Zcv (n:Nat) (p:Nat->Bool):(sel n p).Nodup/\∀o∈sel n p,o<n:=⟨ZbK (ZoW n p),fun o ho=>(Zeh.mp ho).1⟩
theorem ZlF {W ps:List Nat} {i:Nat} (h:i<ps.length):(wAl W ps).getD i 0=W.getD (ps.getD i 0) 0:=by
 rw [List.getD_eq_getElem?_getD,List.getElem?_map,List.getD_eq_getElem?_getD (l:=ps),List.getElem?_eq_getElem h];rfl
theorem ZhM {n:Nat} {ties:List (Nat×Nat)} {W ps:List Nat} (hw:IsWeb n ties) (nd:ps.Nodup) (hp:∀o∈ps,o<n) {K:List Nat} (hK:K∈kn ties n) (hs:∀x∈K,x∈ps):∃k∈kn (anew ties ps) ps.length,wt (wAl W ps) k=wt W K:=by
 obtain ⟨k1,k2,k3⟩:=Za1.mp hK
 have inj:∀i j,i<ps.length->j<ps.length->ps.getD i 0=ps.getD j 0->i=j:=fun i j hi hj e=>by
  rw [List.getD_eq_getElem?_getD,List.getElem?_eq_getElem hi,List.getD_eq_getElem?_getD,List.getElem?_eq_getElem hj] at e
  exact (List.getElem_inj nd).mp e
 refine ⟨(List.range ps.length).filter fun i=>decide (ps.getD i 0∈K),?_,?_⟩
 ·refine Za1.mpr ⟨(Zcq _).sublist List.filter_sublist,fun o ho=>List.mem_range.mp (List.mem_filter.mp ho).1,fun a ha b hb ne=>?_⟩
  obtain ⟨a1,a2⟩:=List.mem_filter.mp ha
  obtain ⟨b1,b2⟩:=List.mem_filter.mp hb
  have a1:=List.mem_range.mp a1
  have b1:=List.mem_range.mp b1
  rw [Zjp hw a1 b1]
  exact k3 _ (of_decide_eq_true a2) _ (of_decide_eq_true b2) fun z=>ne (inj a b a1 b1 z)
 ·have hperm:(((List.range ps.length).filter fun i=>decide (ps.getD i 0∈K)).map fun i=>ps.getD i 0).Perm K:=by
   refine (List.perm_ext_iff_of_nodup ?_ (ZbK k1)).mpr fun x=>?_
   ·refine List.pairwise_map.mpr ((List.Pairwise.and_mem.mp (List.nodup_range.sublist List.filter_sublist)).imp fun {a b} h=>?_)
    exact fun z=>h.2.2 (inj a b (List.mem_range.mp (List.mem_filter.mp h.1).1) (List.mem_range.mp (List.mem_filter.mp h.2.1).1) z)
   ·rw [List.mem_map]
    constructor
    ·rintro ⟨i,hi,rfl⟩
     exact of_decide_eq_true (List.mem_filter.mp hi).2
    ·intro hx
     obtain ⟨i,hi,e⟩:=List.mem_iff_getElem.mp (hs x hx)
     have eg:ps.getD i 0=x:=by rw [List.getD_eq_getElem?_getD,List.getElem?_eq_getElem hi,<-e];rfl
     exact ⟨i,List.mem_filter.mpr ⟨List.mem_range.mpr hi,decide_eq_true (by rw [eg];exact hx)⟩,eg⟩
  have:=Zfl (w:=fun p=>W.getD p 0) hperm
  rw [List.map_map] at this
  show (((List.range ps.length).filter fun i=>decide (ps.getD i 0∈K)).map fun p=>(wAl W ps).getD p 0).sum=(K.map fun p=>W.getD p 0).sum
  rw [<-this]
  congr 1
  refine List.map_congr_left fun i hi=>?_
  exact ZlF (List.mem_range.mp (List.mem_filter.mp hi).1)
theorem ZhN {n:Nat} {ties:List (Nat×Nat)} {W ps:List Nat} (hw:IsWeb n ties) (nd:ps.Nodup) (hp:∀o∈ps,o<n) {k:List Nat} (hk:k∈kn (anew ties ps) ps.length):∃K∈kn ties n,(∀x∈K,x∈ps)/\wt W K=wt (wAl W ps) k:=by
 have E:=ZkT hw nd hp
 obtain ⟨k1,k2,k3⟩:=Za1.mp hk
 refine ⟨img n (fun i=>ps.getD i 0) k,(Zol E k1 k2).mpr hk,fun x hx=>?_,?_⟩
 ·obtain ⟨_,a,ha,rfl⟩:=ZcY.mp hx
  have:=k2 a ha
  rw [List.getD_eq_getElem?_getD,List.getElem?_eq_getElem this]
  exact List.getElem_mem _
 ·have:=Zfl (w:=fun p=>W.getD p 0) (ZkG E k1 k2)
  rw [List.map_map] at this
  show ((img n (fun i=>ps.getD i 0) k).map fun p=>W.getD p 0).sum=(k.map fun p=>(wAl W ps).getD p 0).sum
  rw [this]
  congr 1
  exact List.map_congr_left fun i hi=>(ZlF (k2 i hi)).symm
theorem Zrt {n:Nat} {W:List Nat} (hl:W.length=n):wt W (List.range n)=W.sum:=by
 show ((List.range n).map fun p=>W.getD p 0).sum=W.sum
 congr 1
 refine List.ext_getElem (by simp [hl]) fun i h1 h2=>?_
 rw [List.getElem_map,List.getElem_range,List.getD_eq_getElem?_getD,List.getElem?_eq_getElem h2];rfl
theorem ZiT {n:Nat} {ties:List (Nat×Nat)} (hw:IsWeb n ties) {f:List Nat} (h:hueB n ties (tupN f)=true):RightH n ties f:=by
 have hl:f.length=n:=by
  have h':(decide ((f.map nD).length=n)&&_)=true:=h
  have:=of_decide_eq_true (Bool.and_eq_true_iff.mp h').1
  rw [List.length_map] at this;exact this
 rw [Zjf hw hl,Bool.and_eq_true,List.all_eq_true,List.all_eq_true] at h
 refine ⟨hl,fun a ha=>?_,fun a ha b hb ne ht=>?_⟩
 ·refine of_decide_eq_true (h.1 _ ?_)
  rw [List.getD_eq_getElem?_getD,List.getElem?_eq_getElem (by omega)];exact List.getElem_mem _
 ·rcases Nat.lt_or_gt_of_ne ne with z | z
  ·have:=h.2 (a,b) (by have:=ZcH.mp ht;rw [Nat.min_eq_left (by omega),Nat.max_eq_right (by omega)] at this;exact this)
   rw [Bool.not_eq_true'] at this
   exact of_decide_eq_false this
  ·have:=h.2 (b,a) (by have:=ZcH.mp ht;rw [Nat.min_eq_right (by omega),Nat.max_eq_left (by omega)] at this;exact this)
   rw [Bool.not_eq_true'] at this
   exact fun e=>of_decide_eq_false this e.symm
theorem Znh:∀{P:Paper} {n:Nat} {ties:List (Nat×Nat)} {W:List Nat} {w:Int},IsWeb n ties->W.length=n->bndP P n ties W w=true->∀K∈kn ties n,((wt W K:Nat):Int)<=w:=by
 intro P
 induction P with
 | all=>
  intro n ties W w hw hl hb K hK
  obtain ⟨k1,k2,k3⟩:=Za1.mp hK
  unfold bndP at hb
  have h1:=of_decide_eq_true hb
  have h2:wt W K<=wt W (List.range n):=Zim (ZbK k1) fun x hx=>List.mem_range.mpr (k2 x hx)
  rw [Zrt hl] at h2
  omega
 | hues f=>
  intro n ties W w hw hl hb K hK
  unfold bndP at hb
  rw [Bool.and_eq_true] at hb
  have h1:=of_decide_eq_true hb.2
  have h2:=Zn8 (W:=W) (ZiT hw hb.1) hK
  have h2:wt W K<=whue W f:=h2
  omega
 | place v a b iha ihb=>
  intro n ties W w hw hl hb K hK
  obtain ⟨k1,k2,k3⟩:=Za1.mp hK
  unfold bndP at hb
  simp only [Bool.and_eq_true] at hb
  obtain ⟨h1,h2,h3,h4⟩:=hb
  have h1:=of_decide_eq_true h1
  by_cases hv:v∈K
  ·-- the others lie near it
   obtain ⟨K',hK',_,hm⟩:=Zou hK hv
   obtain ⟨q1,q2,q3⟩:=Za1.mp hK'
   obtain ⟨k,hk,e⟩:=ZhM (W:=W) hw (Zcv n _).1 (Zcv n _).2 (ps:=nrs n ties v) hK' fun x hx=>by
    obtain ⟨z1,z2⟩:=(hm x).mp hx
    exact Zeh.mpr ⟨k2 x z1,k3 v hv x z1 fun z=>z2 z.symm⟩
   have:=ihb (Zb5 _ _) (by simp) h4 k hk
   rw [e] at this
   have hsum:wt W K=W.getD v 0+wt W K':=by
    have hperm:K.Perm (v::K'):=(List.perm_ext_iff_of_nodup (ZbK k1) (List.nodup_cons.mpr ⟨fun z=>((hm v).mp z).2 rfl,ZbK q1⟩)).mpr fun x=>by
     rw [List.mem_cons,hm]
     constructor
     ·intro hx
      by_cases e:x=v
      ·exact .inl e
      ·exact .inr ⟨hx,e⟩
     ·rintro (rfl | ⟨z,_⟩)
      ·exact hv
      ·exact z
    have:=Zfl (w:=fun p=>W.getD p 0) hperm
    rw [List.map_cons,List.sum_cons] at this
    exact this
   omega
  ·obtain ⟨k,hk,e⟩:=ZhM (W:=W) hw (Zcv n _).1 (Zcv n _).2 (ps:=rst n v) hK fun x hx=>Zeh.mpr ⟨k2 x hx,by simp;rintro rfl;exact hv hx⟩
   have:=iha (Zb5 _ _) (by simp) h3 k hk
   rw [e] at this
   exact this
def keyH (n:Nat) (ties:List (Nat×Nat)) (W:List Nat) (p:Nat):List Int:=[-((W.getD p 0:Nat):Int),-(((ZaV n ties p).length:Nat):Int)]
def ordH (n:Nat) (ties:List (Nat×Nat)) (W:List Nat):List Nat:=ZaT (fun i j=>lexB (((List.range n).map (keyH n ties W)).getD i []) (((List.range n).map (keyH n ties W)).getD j [])) n
theorem Zq5 (nss:List (List Int)):OrdW fun i j=>lexB (nss.getD i []) (nss.getD j []):=by
 refine ⟨fun a b c h1 h2=>?_,fun a b h=>Zhh h⟩
 have t:=Zn2 (nss.getD c []) (nss.getD b []) (nss.getD a []) (by unfold leT;rw [h2];rfl) (by unfold leT;rw [h1];rfl)
 unfold leT at t
 simpa using t
theorem ZfZ (n:Nat) (ties:List (Nat×Nat)) (W:List Nat):(ordH n ties W).Perm (List.range n):=Zc7 (Zq5 _)
abbrev hfst (n:Nat) (ties:List (Nat×Nat)) (W:List Nat):List Nat:=Zdl n ties (ordH n ties W)
def bnd:Nat->Nat->List (Nat×Nat)->List Nat->Int->Paper
 | 0,_,_,_,_=>.all
 | m+1,n,ties,W,w=>if ((W.sum:Nat):Int)<=w then .all else if ((whue W (hfst n ties W):Nat):Int)<=w then .hues (hfst n ties W) else
  .place ((hfst n ties W).idxOf (mxN (hfst n ties W))) (bnd m (rst n ((hfst n ties W).idxOf (mxN (hfst n ties W)))).length (anew ties (rst n ((hfst n ties W).idxOf (mxN (hfst n ties W))))) (wAl W (rst n ((hfst n ties W).idxOf (mxN (hfst n ties W))))) w)
   (bnd m (nrs n ties ((hfst n ties W).idxOf (mxN (hfst n ties W)))).length (anew ties (nrs n ties ((hfst n ties W).idxOf (mxN (hfst n ties W))))) (wAl W (nrs n ties ((hfst n ties W).idxOf (mxN (hfst n ties W))))) (w-((W.getD ((hfst n ties W).idxOf (mxN (hfst n ties W))) 0:Nat):Int)))
theorem ZgX {n:Nat} {ties:List (Nat×Nat)} {W:List Nat} {w:Int} (hw:IsWeb n ties) (hk:∀K∈kn ties n,((wt W K:Nat):Int)<=w) {v:Nat} (hv:v<n) :
  ((W.getD v 0:Nat):Int)<=w/\(∀k∈kn (anew ties (rst n v)) (rst n v).length,((wt (wAl W (rst n v)) k:Nat):Int)<=w)/\∀k∈kn (anew ties (nrs n ties v)) (nrs n ties v).length,((wt (wAl W (nrs n ties v)) k:Nat):Int)<=w-((W.getD v 0:Nat):Int):=by
 refine ⟨?_,fun k hkk=>?_,fun k hkk=>?_⟩
 ·have:=hk [v] (Za1.mpr ⟨List.pairwise_singleton _ _,fun o ho=>by rw [List.mem_singleton.mp ho];exact hv,fun a ha b hb ne=>absurd ((List.mem_singleton.mp ha).trans (List.mem_singleton.mp hb).symm) ne⟩)
  have e:wt W [v]=W.getD v 0:=by
   show ([v].map fun p=>W.getD p 0).sum=_
   rw [List.map_singleton,List.sum_singleton]
  rw [e] at this;exact this
 ·obtain ⟨K,hK,_,e⟩:=ZhN (W:=W) hw (Zcv n _).1 (Zcv n _).2 hkk
  rw [<-e];exact hk K hK
 ·obtain ⟨K,hK,hs,e⟩:=ZhN (W:=W) hw (Zcv n _).1 (Zcv n _).2 hkk
  obtain ⟨q1,q2,q3⟩:=Za1.mp hK
  have hvK:v∉K:=fun z=>by
   have:=(Zeh.mp (hs v z)).2
   have:=hw.mem (ZcH.mp this)
   simp at this
  have hJ:(List.range n).filter (fun x=>decide (x∈v::K))∈kn ties n:=by
   refine Za1.mpr ⟨(Zcq _).sublist List.filter_sublist,fun o ho=>List.mem_range.mp (List.mem_filter.mp ho).1,fun a ha b hb ne=>?_⟩
   rcases List.mem_cons.mp (of_decide_eq_true (List.mem_filter.mp ha).2) with h1 | h1
   ·rcases List.mem_cons.mp (of_decide_eq_true (List.mem_filter.mp hb).2) with h2 | h2
    ·exact absurd (h1.trans h2.symm) ne
    ·rw [h1];exact (Zeh.mp (hs b h2)).2
   ·rcases List.mem_cons.mp (of_decide_eq_true (List.mem_filter.mp hb).2) with h2 | h2
    ·rw [h2,ZcI];exact (Zeh.mp (hs a h1)).2
    ·exact q3 a h1 b h2 ne
  have hperm:((List.range n).filter fun x=>decide (x∈v::K)).Perm (v::K):=(List.perm_ext_iff_of_nodup (List.nodup_range.sublist List.filter_sublist) (List.nodup_cons.mpr ⟨hvK,ZbK q1⟩)).mpr fun x=>by
   rw [List.mem_filter,List.mem_range,decide_eq_true_iff]
   exact ⟨fun h=>h.2,fun h=>⟨(List.mem_cons.mp h).elim (fun z=>z▸hv) (q2 x),h⟩⟩
  have h1:=hk _ hJ
  have h2:=Zfl (w:=fun p=>W.getD p 0) hperm
  rw [List.map_cons,List.sum_cons] at h2
  have h3:wt W ((List.range n).filter fun x=>decide (x∈v::K))=W.getD v 0+wt W K:=h2
  have h5:((W.getD v 0+wt (wAl W (nrs n ties v)) k:Nat):Int)<=w:=by rw [<-e,<-h3];exact h1
  clear h1 h2 h3
  generalize wt (wAl W (nrs n ties v)) k=a at h5 ⊢
  generalize W.getD v 0=b at h5 ⊢
  omega
theorem ZlH {n:Nat} {ties:List (Nat×Nat)} {W:List Nat} (h:0<n):(hfst n ties W).idxOf (mxN (hfst n ties W))<n:=by
 have hl:(hfst n ties W).length=n:=ZeM
 have:=List.idxOf_lt_length_iff.mpr (Zf4 (l:=hfst n ties W) (fun z=>by rw [z] at hl;simp at hl;omega))
 omega
theorem Zme {n:Nat} {ties:List (Nat×Nat)} {W:List Nat} {w:Int} (hl:W.length=n) (hk:∀K∈kn ties n,((wt W K:Nat):Int)<=w) (h:¬((W.sum:Nat):Int)<=w):0<n:=by
 rcases Nat.eq_zero_or_pos n with z | z
 ·subst z
  have hW:W=[]:=List.length_eq_zero_iff.mp hl
  subst hW
  have:=hk [] (Za1.mpr ⟨List.Pairwise.nil,(fun o h=>by cases h),fun a h=>by cases h⟩)
  simp at this h
  omega
 ·exact z
theorem Zk2:∀(m n:Nat) (ties:List (Nat×Nat)) (W:List Nat) (w:Int),IsWeb n ties->n<m->n<=1000->W.length=n->(∀K∈kn ties n,((wt W K:Nat):Int)<=w)->bndP (bnd m n ties W w) n ties W w=true/\ZeL (bnd m n ties W w)
 | 0,n,ties,W,w,_,h,_,_,_=>by omega
 | m+1,n,ties,W,w,hw,hm,hn,hl,hk=>by
  unfold bnd
  by_cases h1:((W.sum:Nat):Int)<=w
  ·rw [if_pos h1]
   exact ⟨decide_eq_true h1,trivial⟩
  ·rw [if_neg h1]
   by_cases h2:((whue W (hfst n ties W):Nat):Int)<=w
   ·rw [if_pos h2]
    refine ⟨?_,by show (hfst n ties W).length<=1000;rw [ZeM];exact hn⟩
    show (hueB n ties (tupN (hfst n ties W))&&decide _)=true
    rw [(ZkH (ZfZ n ties W)).hueB hw,decide_eq_true h2];rfl
   ·rw [if_neg h2]
    have h0:=Zme hl hk h1
    have hv:=ZlH (ties:=ties) (W:=W) h0
    generalize (hfst n ties W).idxOf (mxN (hfst n ties W))=v at hv ⊢
    obtain ⟨p1,p2,p3⟩:=ZgX hw hk hv
    have l1:=Zj4 hv
    have l2:=Zkp hw hv
    obtain ⟨a1,a2⟩:=Zk2 m (rst n v).length (anew ties (rst n v)) (wAl W (rst n v)) w (Zb5 _ _) (by omega) (by omega) (by simp) p2
    obtain ⟨b1,b2⟩:=Zk2 m (nrs n ties v).length (anew ties (nrs n ties v)) (wAl W (nrs n ties v)) (w-((W.getD v 0:Nat):Int)) (Zb5 _ _) (by omega) (by omega) (by simp) p3
    refine ⟨?_,by show v<1000/\_/\_;exact ⟨by omega,a2,b2⟩⟩
    show (decide (v<n)&&(decide _&&(_&&_)))=true
    rw [decide_eq_true hv,decide_eq_true p1,a1,b1];rfl
end TQ
namespace TQ
open PySem L2 TF TS
open TP
open TP2
open TP3
theorem Zpk (n:Nat):Zbl n=tupN (List.replicate n 1):=by
 show D.tup _=D.tup _
 rw [List.map_replicate]
theorem ZlX (n:Nat) (ties:List (Nat×Nat)) (hn:n<=1000) (s:Pn):ZeE [webD n ties] s=some (tupN (List.replicate n 1),s):=by
 rw [<-Zpk]
 exact ZaN rfl (ZaE (ZaM (Zah (ZbN (ds:=[nD 1]) (Zad rfl rfl) (by show 1<=sizeLine;decide)) (Zah (d:=webD n ties) (e:=.int 0) rfl rfl web0) (Zi6 n hn))))
theorem leI (a b:Int):dLe (.int a) (.int b)=some (.bl (decide (a<=b))):=rfl
theorem Zhv (x:Str):dEqO (.str x) (.str x)=some (.bl true):=Zrk rfl (by simp [dep])
theorem Zns (x:Str):dNeO (.str x) (.str x)=some (.bl false):=Zl1 rfl (by simp [dep])
theorem ZlJ (W:List Nat):ZjN [tupN W]=some (nD W.sum):=by
 show (Zau (W.map nD)).map (fun ns=>D.int ns.sum)=_
 rw [Zgd]
 show some (D.int (ZbB W).sum)=_
 rw [Zg3]
theorem Zhr (n:Nat) (ties:List (Nat×Nat)) (v:Nat) (hn:n<=1000) (s:Pn):Zbu [webD n ties,nD v] s=some (.lst ((rst n v).map nD),s):=by
 have hc:=Zbc (src:=[none,some 1]) (fi:=ZaU (dOp dIx (dVar 0) (dC (.int 0)))) (τ:=gOne 0) (ft:=asB (dOp dNeO (dVar 0) (dVar 1))) (fe:=dVar 0) (ρ:=[some (webD n ties),some (nD v)]) (s:=s) (ds:=ZaH 0 n) (fun d=>[some d,some (nD v)]) (fun d=>!decide (nat0 d=v)) (fun d=>d) (Zbd (Zah (d:=webD n ties) (e:=.int 0) rfl rfl web0) (by omega)) (by rw [Za8,ZaG];omega) (fun d hd=>by
  obtain ⟨x,hx,rfl⟩:=Zct hd
  exact ⟨rfl,ZaC (Zah (d:=nD x) (e:=nD v) rfl rfl (Zh1 x v)),fun _=>rfl⟩)
 have e:((ZaH 0 n).filter fun d=>!decide (nat0 d=v)).map (fun d=>d)=(rst n v).map nD:=by
  rw [ZcB,List.filter_map,List.map_map];rfl
 rw [e] at hc
 exact ZaN rfl (ZaE (ZaM hc))
theorem ZnS (n:Nat) (ties:List (Nat×Nat)) (v:Nat) (hn:n<=1000) (s:Pn):Zcn [webD n ties,nD v] s=some (.lst ((nrs n ties v).map nD),s):=Zq0 n ties v s (by omega)
theorem ZfK {n:Nat} {W:List Nat} (hl:W.length=n) {ps:List Nat} (hp:∀p∈ps,p<n) (hpl:ps.length<=1000) (s:Pn):Zby [tupN W,.lst (ps.map nD)] s=some (tupN (wAl W ps),s):=by
 have hc:=Zbc (src:=[none,some 0]) (fi:=ZaY (dVar 1)) (τ:=gOne 0) (ft:=ZaZ) (fe:=dOp dIx (dVar 1) (dVar 0)) (ρ:=[some (tupN W),some (.lst (ps.map nD))]) (s:=s) (ds:=ps.map nD) (fun d=>[some d,some (tupN W)]) (fun _=>true) (fun d=>nD (W.getD (nat0 d) 0)) (Zb1 rfl) (by rw [List.length_map,ZaG];omega) (fun d hd=>by
  obtain ⟨x,hx,rfl⟩:=List.mem_map.mp hd
  exact ⟨rfl,rfl,fun _=>Zah (d:=tupN W) (e:=nD x) rfl rfl (Zdt (by have:=hp x hx;omega))⟩)
 rw [ZbQ,List.map_map] at hc
 refine ZaN rfl (ZaE (ZaM (ZaR (Zad hc rfl) ?_)))
 show some (D.tup _)=some (D.tup _)
 rw [List.map_map];rfl
theorem Ztd (a b c:D) (r:List D):atI (a::b::c::r) 2=some c:=by
 show atI _ ((2:Nat):Int)=_
 exact ZbJ rfl
theorem Ztc (a b c d:D) (r:List D):atI (a::b::c::d::r) 3=some d:=by
 show atI _ ((3:Nat):Int)=_
 exact ZbJ rfl
theorem Zlt (pl:Str):∀(P:Paper) (m n:Nat) (ties:List (Nat×Nat)) (W:List Nat) (w:Int) (s:Pn),IsWeb n ties->n<=24->W.length=n->n<m->ZeL P->Zbi m [.str pl,webD n ties,tupN W,.int w,papD pl P] s=some (.bl (bndP P n ties W w),s):=by
 intro P
 induction P with
 | all=>
  intro m n ties W w s hw hn hl hm _
  obtain ⟨m,rfl⟩:∃k,m=k+1:=⟨m-1,by omega⟩
  have t1:=Zb4 (d:=papD pl .all) rfl 1 s
  refine Ok.toEq (Ok.runB (g:=ZdF (Zbi m)) rfl ?_)
  refine Ok.seq (.sif (.eq (a:=true) (ZaC (Zax (Zad rfl (Zad rfl rfl)) t1)) ?_))
  refine Ok.seq (.sret (.eq (Ze1 (a:=true) (b:=decide (((W.sum:Nat):Int)<=w)) (Zah (d:=.str pl) (e:=.str pl) (Zah (d:=.tup [.str pl]) (e:=.int 0) rfl rfl (Zdm _ _)) rfl (Zhv _)) fun _=>Zah (d:=nD W.sum) (e:=.int w) (ZaR (Zad rfl rfl) (ZlJ W)) rfl (leI _ _)) ⟨?_,rfl⟩))
  rw [Bool.true_and];rfl
 | hues f=>
  intro m n ties W w s hw hn hl hm hok
  obtain ⟨m,rfl⟩:∃k,m=k+1:=⟨m-1,by omega⟩
  have hok:f.length<=1000:=hok
  have t1:=Zb4 (d:=papD pl (.hues f)) rfl 1 s
  have t2:=Zb4 (d:=papD pl (.hues f)) rfl 2 s
  have hh:=ZkD hw hn (t:=tupN f) (Zjb _).1 (Zjb _).2 (fun ds e=>by cases e;rw [List.length_map];omega) s
  refine Ok.toEq (Ok.runB (g:=ZdF (Zbi m)) rfl ?_)
  refine Ok.seq (.sif (.eq (a:=false) (ZaC (Zax (Zad rfl (Zad rfl rfl)) t1)) (.next ?_)))
  refine Ok.seq (.sif (.eq (a:=true) (ZaC (Zax (Zad rfl (Zad rfl rfl)) t2)) ?_))
  have i1:∀ρ:Rho,(ρ[4]?).bind id=some (papD pl (.hues f))->dOp dIx (dVar 4) (dC (.int 1)) ρ s=some (tupN f,s):=fun ρ h=>Zah (d:=.tup [.str (Str.ofString "hues"),tupN f]) (e:=.int 1) (by unfold dVar mOf;rw [h];rfl) rfl (ZdY _ _ _)
  refine Ok.seq (.sret (.eq (Ze1 (a:=true) (b:=hueB n ties (tupN f)&&decide (((whue W f:Nat):Int)<=w)) (Zah (d:=.str (Str.ofString "hues")) (e:=.str (Str.ofString "hues")) (Zah (d:=.tup [.str (Str.ofString "hues"),tupN f]) (e:=.int 0) rfl rfl (Zdm _ _)) rfl (Zhv _)) fun _=>Ze1 (Zax (Zad rfl (Zad (i1 _ rfl) rfl)) hh) fun hb=>?_) ⟨?_,rfl⟩))
  ·have hfl:=(ZiT hw hb).len
   exact Zah (d:=nD (whue W f)) (e:=.int w) (Zax (Zad rfl (Zad (i1 _ rfl) rfl)) (Zic W f (by omega) (by omega) s)) rfl (leI _ _)
  ·rw [Bool.true_and];rfl
 | place v a b iha ihb=>
  intro m n ties W w s hw hn hl hm hok
  obtain ⟨m,rfl⟩:∃k,m=k+1:=⟨m-1,by omega⟩
  obtain ⟨hv0,ha,hb⟩:v<1000/\ZeL a/\ZeL b:=hok
  have htl:=hw.len hn
  have t1:=Zb4 (d:=papD pl (.place v a b)) rfl 1 s
  have t2:=Zb4 (d:=papD pl (.place v a b)) rfl 2 s
  have t4:=Zb4 (d:=papD pl (.place v a b)) rfl 4 s
  refine Ok.toEq (Ok.runB (g:=ZdF (Zbi m)) rfl ?_)
  refine Ok.seq (.sif (.eq (a:=false) (ZaC (Zax (Zad rfl (Zad rfl rfl)) t1)) (.next ?_)))
  refine Ok.seq (.sif (.eq (a:=false) (ZaC (Zax (Zad rfl (Zad rfl rfl)) t2)) (.next ?_)))
  refine Ok.seq (.sif (.eq (a:=false) (Zid (ZdQ (b:=true) (ZaC (Zax (Zad rfl (Zad rfl rfl)) t4))) (ZaC (Zah (d:=.str (Str.ofString "place")) (e:=.str (Str.ofString "place")) (Zah (d:=.tup [.str (Str.ofString "place"),nD v,papD pl a,papD pl b]) (e:=.int 0) rfl rfl (Zdm _ _)) rfl (Zns _)))) (.next ?_)))
  refine Ok.seq (.sset (.eq (Zah (d:=.tup [.str (Str.ofString "place"),nD v,papD pl a,papD pl b]) (e:=.int 1) rfl rfl (ZdY _ _ _)) ?_))
  have hpl:=Zg0 (d:=nD v) rfl (n:Int) s
  have hpb:ZcN (n:Int) (nD v)=decide (v<n):=by
   show (decide ((0:Int)<=(v:Int))&&decide ((v:Int)<(n:Int)))=_
   rw [decide_eq_true (by omega),Bool.true_and]
   exact decide_eq_decide.mpr (by omega)
  rw [hpb] at hpl
  by_cases hv:v<n
  ·have hgt:dGt (nD (W.getD v 0)) (.int w)=some (.bl (!decide (((W.getD v 0:Nat):Int)<=w))):=by
    show some (D.bl (decide (w<((W.getD v 0:Nat):Int))))=_
    congr 2
    rw [<-decide_not]
    exact decide_eq_decide.mpr (by omega)
   rw [decide_eq_true hv] at hpl
   refine Ok.seq (.sif (.eq (a:=!decide (((W.getD v 0:Nat):Int)<=w)) (Zid (ZdQ (b:=true) (ZaC (Zax (Zad (Zah (d:=webD n ties) (e:=.int 0) rfl rfl web0) (Zad rfl rfl)) hpl))) (ZaC (Zah (d:=nD (W.getD v 0)) (e:=.int w) (Zah (d:=tupN W) (e:=nD v) rfl rfl (Zdt (by omega))) rfl hgt))) ?_))
   by_cases hwv:((W.getD v 0:Nat):Int)<=w
   ·rw [decide_eq_true hwv]
    rw [if_neg (by decide)]
    refine .next ?_
    have l1:=Zj4 hv
    have l2:=Zkp hw hv
    have ea:=iha m (rst n v).length (anew ties (rst n v)) (wAl W (rst n v)) w s (Zb5 _ _) (by omega) (by simp) (by omega) ha
    have eb:=ihb m (nrs n ties v).length (anew ties (nrs n ties v)) (wAl W (nrs n ties v)) (w-((W.getD v 0:Nat):Int)) s (Zb5 _ _) (by omega) (by simp) (by omega) hb
    have fa:Zbf (Zbi m) [.str pl,webD n ties,tupN W,.lst ((rst n v).map nD),.int w,papD pl a] s=some (.bl (bndP a (rst n v).length (anew ties (rst n v)) (wAl W (rst n v)) w),s):=
     ZaN rfl (ZaE (ZaM (Zax (Zad rfl (Zad (Zax (Zad rfl (Zad rfl rfl)) (Zeu n ties (rst n v) (Nat.le_trans (Nat.le_of_lt l1) (by omega)) (by omega) s)) (Zad (Zax (Zad rfl (Zad rfl rfl)) (ZfK hl (Zcv n _).2 (Nat.le_trans (Nat.le_of_lt l1) (by omega)) s)) (Zad rfl (Zad rfl rfl))))) ea)))
    have fb:Zbf (Zbi m) [.str pl,webD n ties,tupN W,.lst ((nrs n ties v).map nD),.int (w-((W.getD v 0:Nat):Int)),papD pl b] s=some (.bl (bndP b (nrs n ties v).length (anew ties (nrs n ties v)) (wAl W (nrs n ties v)) (w-((W.getD v 0:Nat):Int))),s):=
     ZaN rfl (ZaE (ZaM (Zax (Zad rfl (Zad (Zax (Zad rfl (Zad rfl rfl)) (Zeu n ties (nrs n ties v) (Nat.le_trans (Nat.le_of_lt l2) (by omega)) (by omega) s)) (Zad (Zax (Zad rfl (Zad rfl rfl)) (ZfK hl (Zcv n _).2 (Nat.le_trans (Nat.le_of_lt l2) (by omega)) s)) (Zad rfl (Zad rfl rfl))))) eb)))
    have hB:bndP (.place v a b) n ties W w=(bndP a (rst n v).length (anew ties (rst n v)) (wAl W (rst n v)) w&&bndP b (nrs n ties v).length (anew ties (nrs n ties v)) (wAl W (nrs n ties v)) (w-((W.getD v 0:Nat):Int))):=by
     show (decide (v<n)&&(decide _&&(_&&_)))=_
     rw [decide_eq_true hv,decide_eq_true hwv];rfl
    refine Ok.seq (.sif (.eq (ZdQ (ZaC (Zax (Zad rfl (Zad rfl (Zad rfl (Zad (Zax (Zad rfl (Zad rfl rfl)) (Zhr n ties v (by omega) s)) (Zad rfl (Zad (Zah (d:=.tup [.str (Str.ofString "place"),nD v,papD pl a,papD pl b]) (e:=.int 2) rfl rfl (Ztd _ _ _ _)) rfl)))))) fa))) ?_))
    cases hba:bndP a (rst n v).length (anew ties (rst n v)) (wAl W (rst n v)) w with
    | false=>
     rw [if_pos (by decide)]
     refine Ok.seq (.sret (.eq (a:=.bl false) rfl ⟨?_,rfl⟩))
     rw [hB,hba];rfl
    | true=>
     rw [if_neg (by decide)]
     refine .next ?_
     refine Ok.seq (.sret (.eq (Zax (Zad rfl (Zad rfl (Zad rfl (Zad (Zax (Zad rfl (Zad rfl rfl)) (ZnS n ties v (by omega) s)) (Zad (Zah (d:=.int w) (e:=nD (W.getD v 0)) (c:=.int (w-((W.getD v 0:Nat):Int))) rfl (Zah (d:=tupN W) (e:=nD v) rfl rfl (Zdt (by omega))) rfl) (Zad (Zah (d:=.tup [.str (Str.ofString "place"),nD v,papD pl a,papD pl b]) (e:=.int 3) rfl rfl (Ztc _ _ _ _ _)) rfl)))))) fb) ⟨?_,rfl⟩))
     rw [hB,hba,Bool.true_and]
   ·rw [decide_eq_false hwv]
    rw [if_pos (by decide)]
    refine Ok.seq (.sret (.eq (a:=.bl false) rfl ⟨?_,rfl⟩))
    show D.bl false=D.bl (decide (v<n)&&(decide _&&_))
    rw [decide_eq_false hwv,Bool.false_and,Bool.and_false]
  ·rw [decide_eq_false hv] at hpl
   refine Ok.seq (.sif (.eq (a:=true) (Ztb (ZdQ (b:=false) (ZaC (Zax (Zad (Zah (d:=webD n ties) (e:=.int 0) rfl rfl web0) (Zad rfl rfl)) hpl)))) ?_))
   refine Ok.seq (.sret (.eq (a:=.bl false) rfl ⟨?_,rfl⟩))
   show D.bl false=D.bl (decide (v<n)&&_)
   rw [decide_eq_false hv,Bool.false_and]
end TQ
namespace TQ
open PySem L2 TF TS
open TP
open TP2
open TP3
theorem Zkx {F:List D->M D} {cds:List D} {s:Pn} (key:Nat->D):∀(ps:List Nat),(∀p∈ps,F (nD p::cds) s=some (key p,s))->ZhS F cds (ps.map fun (i:Nat)=>(i:Int)) s=some (ps.map key,s)
 | [],_=>rfl
 | p::ps,h=>by
  show Zan (F (nD p::cds)) (fun k=>Zan (ZhS F cds (ps.map fun (i:Nat)=>(i:Int))) fun ks=>mret (k::ks)) s=_
  unfold Zan
  rw [h p List.mem_cons_self]
  dsimp only
  rw [Zkx key ps fun q hq=>h q (List.mem_cons_of_mem _ hq)]
  rfl
theorem ZlZ {f:Rho->M D} {ρ:Rho} {s s1:Pn} {i:Int} (h:f ρ s=some (.int i,s1)):dNeg f ρ s=some (.int (-i),s1):=by
 unfold dNeg Zan
 rw [h];rfl
theorem Zlo (n:Nat) (ties:List (Nat×Nat)):Za3 (ZbP n ties)=true:=by
 show Zbe ((List.range n).map _)=true
 refine Zd3 fun d hd=>?_
 obtain ⟨p,_,rfl⟩:=List.mem_map.mp hd
 exact ZeW _
theorem ZmK (l:List Nat):Za3 (tupN l)=true:=ZeW l
theorem ZiD {n:Nat} {ties:List (Nat×Nat)} {W:List Nat} (hw:IsWeb n ties) (hn:n<=24) (hl:W.length=n) (s:Pn):Zcy [webD n ties,tupN W] s=some (tupN (hfst n ties W),s):=by
 have htl:=hw.len hn
 refine ZaN rfl (Zbh (Zb2 (Zax (Zad rfl rfl) (Zqf n ties (by omega) (by omega) s))) (ZaE (ZaM (Zax (Zad rfl (Zad (d:=.lst ((ordH n ties W).map nD)) ?_ rfl)) (ZpC n ties hw hn (ZfZ n ties W) s)))))
 have hk:=Zkx (F:=runE 3 (dTup (Zac (dNeg (dOp dIx (dVar 1) (dVar 0))) (Zac (dNeg (ZaD dLen (Zac (dOp dIx (dVar 2) (dVar 0)) dNil))) dNil)))) (cds:=[tupN W,ZbP n ties]) (s:=s) (fun p=>tupI (keyH n ties W p)) (List.range n) fun p hp=>by
  have hp:=List.mem_range.mp hp
  refine Zio rfl (ZbN (ds:=[.int (-((W.getD p 0:Nat):Int)),.int (-(((ZaV n ties p).length:Nat):Int))]) (Zad (ZlZ (Zah (d:=tupN W) (e:=nD p) rfl rfl (Zdt (by omega)))) (Zad (ZlZ (ZaR (Zad (Zah (d:=ZbP n ties) (e:=nD p) rfl rfl (Zl0 hp)) rfl) ?_)) rfl)) (by show 2<=sizeLine;decide))
  show some (D.int _)=_
  rw [List.length_map]
 have hlt:ltD ((List.range n).map fun p=>tupI (keyH n ties W p))=some (fun i j=>lexB (((List.range n).map (keyH n ties W)).getD i []) (((List.range n).map (keyH n ties W)).getD j []))∨n=0:=by
  rcases Nat.eq_zero_or_pos n with z | z
  ·exact .inr z
  ·left
   have e1:((List.range n).map fun p=>tupI (keyH n ties W p))=((List.range n).map (keyH n ties W)).map tupI:=by rw [List.map_map];rfl
   have e2:Zau ((List.range n).map fun p=>tupI (keyH n ties W p))=none:=by
    obtain ⟨k,rfl⟩:∃k,n=k+1:=⟨n-1,by omega⟩
    rw [List.range_succ_eq_map];rfl
   unfold ltD
   rw [e2,e1,Zhu]
   show (if _ then _ else _)=_
   rw [if_pos (by rw [List.all_eq_true];intro x hx;obtain ⟨p,_,rfl⟩:=List.mem_map.mp hx;rfl)]
 have hso:ZdS (runE 3 (dTup (Zac (dNeg (dOp dIx (dVar 1) (dVar 0))) (Zac (dNeg (ZaD dLen (Zac (dOp dIx (dVar 2) (dVar 0)) dNil))) dNil)))) [tupN W,ZbP n ties] ((List.range n).map fun (i:Nat)=>(i:Int)) s=some (.lst ((ordH n ties W).map nD),s):=by
  unfold ZdS
  rw [if_pos (by
   rw [Bool.and_eq_true]
   refine ⟨decide_eq_true (by rw [List.length_map,List.length_range];omega),?_⟩
   show (Za3 _&&(Za3 _&&true))=true
   rw [ZmK,Zlo];rfl)]
  unfold Zan
  rw [hk]
  have hmap:∀(l:List Nat),(∀i∈l,i<n)->l.map (fun i=>D.int (((List.range n).map fun (i:Nat)=>(i:Int)).getD i 0))=l.map nD:=fun l h=>List.map_congr_left fun i hi=>by
   have:=h i hi
   rw [List.getD_eq_getElem?_getD,List.getElem?_map,List.getElem?_range this];rfl
  rcases hlt with e | rfl
  ·show (match ltD ((List.range n).map fun p=>tupI (keyH n ties W p)) with | some lt=>mret _ | none=>ZaB) s=_
   rw [e]
   show some (D.lst ((ZaT _ ((List.range n).map fun (i:Nat)=>(i:Int)).length).map _),s)=_
   rw [List.length_map,List.length_range]
   exact congrArg (fun z=>some (D.lst z,s)) (hmap (ordH n ties W) fun i hi=>List.mem_range.mp ((ZfZ n ties W).mem_iff.mp hi))
  ·rfl
 show ZeQ _ _ _ [some (webD n ties),some (tupN W),some (ZbP n ties)] s=_
 have e0:dOp dIx (dVar 0) (dC (.int 0)) [some (webD n ties),some (tupN W),some (ZbP n ties)] s=some (nD n,s):=Zah (d:=webD n ties) (e:=.int 0) rfl rfl web0
 unfold ZeQ Zan
 rw [e0]
 show (match (some ([tupN W,ZbP n ties],s):Option (List D×Pn)) with | none=>none | some p=>(if -(2 ^ 62)<=(n:Int)/\(n:Int)<=2 ^ 24 then ZdS (runE 3 _) p.1 ((List.range ((n:Int)).toNat).map fun (i:Nat)=>(i:Int)) else ZaB) p.2)=_
 dsimp only
 rw [if_pos (by omega),Int.toNat_natCast,hso]
theorem Zq2 {f:List Nat} (h:f≠[]):Zm4 [tupN f]=some (nD (mxN f)):=by
 cases f with
 | nil=>exact absurd rfl h
 | cons a r=>
  show (match Zau ((a::r).map nD) with | some (n::r)=>some (D.int (maxI n r)) | _=>none)=_
  rw [Zgd]
  show some (D.int (maxI (a:Int) (r.map fun (i:Nat)=>(i:Int))))=_
  rw [Zkw]
  show _=some (D.int (((a::r).foldl max 0:Nat):Int))
  rw [List.foldl_cons,Nat.zero_max]
theorem ZhV (v:Nat):∀f:List Nat,(ZbB f).idxOf (v:Int)=f.idxOf v
 | []=>rfl
 | a::r=>by
  show ((a:Int)::ZbB r).idxOf (v:Int)=_
  rw [List.idxOf_cons,List.idxOf_cons,ZhV v r]
  have:((a:Int)==(v:Int))=(a==v):=by
   rw [Bool.eq_iff_iff,beq_iff_eq,beq_iff_eq];omega
  rw [this]
theorem Zoj {f:List Nat} {v:Nat} (h:v∈f):ZiF (tupN f) (nD v)=some (nD (f.idxOf v)):=by
 show (Zau (f.map nD)).bind _=_
 rw [Zgd]
 show (if (v:Int)∈ZbB f then some (D.int ((ZbB f).idxOf (v:Int):Nat)) else none)=_
 rw [if_pos (show (v:Int)∈ZbB f from List.mem_map.mpr ⟨v,h,rfl⟩),ZhV]
theorem Zho (pl:Str):∀(m n:Nat) (ties:List (Nat×Nat)) (W:List Nat) (w:Int) (s:Pn),IsWeb n ties->n<=24->W.length=n->n<m->(∀K∈kn ties n,((wt W K:Nat):Int)<=w)->Zco m [.str pl,webD n ties,tupN W,.int w] s=some (papD pl (bnd m n ties W w),s)
 | 0,n,ties,W,w,s,_,_,_,h,_=>by omega
 | m+1,n,ties,W,w,s,hw,hn,hl,hm,hk=>by
  have htl:=hw.len hn
  have hfl:(hfst n ties W).length=n:=ZeM
  refine Ok.toEq (Ok.runB (g:=ZiE (Zco m)) rfl ?_)
  refine Ok.seq (.sif (.eq (a:=decide (((W.sum:Nat):Int)<=w)) (ZaC (Zah (d:=nD W.sum) (e:=.int w) (ZaR (Zad rfl rfl) (ZlJ W)) rfl (leI _ _))) ?_))
  unfold bnd
  by_cases h1:((W.sum:Nat):Int)<=w
  ·rw [decide_eq_true h1,if_pos rfl,if_pos h1]
   exact Ok.seq (.sret (.eq (ZbN (ds:=[.str pl]) (Zad rfl rfl) (by show 1<=sizeLine;decide)) ⟨rfl,rfl⟩))
  ·rw [decide_eq_false h1,if_neg (by decide),if_neg h1]
   refine .next ?_
   refine Ok.seq (.sset (.eq (Zax (Zad rfl (Zad rfl rfl)) (ZiD hw hn hl s)) ?_))
   refine Ok.seq (.sif (.eq (a:=decide (((whue W (hfst n ties W):Nat):Int)<=w)) (ZaC (Zah (d:=nD (whue W (hfst n ties W))) (e:=.int w) (Zax (Zad rfl (Zad rfl rfl)) (Zic W (hfst n ties W) (by omega) (by omega) s)) rfl (leI _ _))) ?_))
   by_cases h2:((whue W (hfst n ties W):Nat):Int)<=w
   ·rw [decide_eq_true h2,if_pos rfl,if_pos h2]
    exact Ok.seq (.sret (.eq (ZbN (ds:=[.str (Str.ofString "hues"),tupN (hfst n ties W)]) (Zad rfl (Zad rfl rfl)) (by show 2<=sizeLine;decide)) ⟨rfl,rfl⟩))
   ·rw [decide_eq_false h2,if_neg (by decide),if_neg h2]
    refine .next ?_
    have h0:=Zme hl hk h1
    have hv:=ZlH (ties:=ties) (W:=W) h0
    have hne:hfst n ties W≠[]:=fun z=>by rw [z] at hfl;simp at hfl;omega
    refine Ok.seq (.sset (.eq (Zah (d:=tupN (hfst n ties W)) (e:=nD (mxN (hfst n ties W))) rfl (ZaR (Zad rfl rfl) (Zq2 hne)) (Zoj (Zf4 hne))) ?_))
    generalize (hfst n ties W).idxOf (mxN (hfst n ties W))=v at hv ⊢
    obtain ⟨p1,p2,p3⟩:=ZgX hw hk hv
    have l1:=Zj4 hv
    have l2:=Zkp hw hv
    have ea:=Zho pl m (rst n v).length (anew ties (rst n v)) (wAl W (rst n v)) w s (Zb5 _ _) (by omega) (by simp) (by omega) p2
    have eb:=Zho pl m (nrs n ties v).length (anew ties (nrs n ties v)) (wAl W (nrs n ties v)) (w-((W.getD v 0:Nat):Int)) s (Zb5 _ _) (by omega) (by simp) (by omega) p3
    have fa:Zbz (Zco m) [.str pl,webD n ties,tupN W,.lst ((rst n v).map nD),.int w] s=some (papD pl (bnd m (rst n v).length (anew ties (rst n v)) (wAl W (rst n v)) w),s):=
     ZaN rfl (ZaE (ZaM (Zax (Zad rfl (Zad (Zax (Zad rfl (Zad rfl rfl)) (Zeu n ties (rst n v) (Nat.le_trans (Nat.le_of_lt l1) (by omega)) (by omega) s)) (Zad (Zax (Zad rfl (Zad rfl rfl)) (ZfK hl (Zcv n _).2 (Nat.le_trans (Nat.le_of_lt l1) (by omega)) s)) (Zad rfl rfl)))) ea)))
    have fb:Zbz (Zco m) [.str pl,webD n ties,tupN W,.lst ((nrs n ties v).map nD),.int (w-((W.getD v 0:Nat):Int))] s=some (papD pl (bnd m (nrs n ties v).length (anew ties (nrs n ties v)) (wAl W (nrs n ties v)) (w-((W.getD v 0:Nat):Int))),s):=
     ZaN rfl (ZaE (ZaM (Zax (Zad rfl (Zad (Zax (Zad rfl (Zad rfl rfl)) (Zeu n ties (nrs n ties v) (Nat.le_trans (Nat.le_of_lt l2) (by omega)) (by omega) s)) (Zad (Zax (Zad rfl (Zad rfl rfl)) (ZfK hl (Zcv n _).2 (Nat.le_trans (Nat.le_of_lt l2) (by omega)) s)) (Zad rfl rfl)))) eb)))
    exact Ok.seq (.sret (.eq (ZbN (ds:=[.str (Str.ofString "place"),nD v,papD pl (bnd m (rst n v).length (anew ties (rst n v)) (wAl W (rst n v)) w),papD pl (bnd m (nrs n ties v).length (anew ties (nrs n ties v)) (wAl W (nrs n ties v)) (w-((W.getD v 0:Nat):Int)))])
     (Zad rfl (Zad rfl (Zad (Zax (Zad rfl (Zad rfl (Zad rfl (Zad (Zax (Zad rfl (Zad rfl rfl)) (Zhr n ties v (by omega) s)) (Zad rfl rfl))))) fa)
     (Zad (Zax (Zad rfl (Zad rfl (Zad rfl (Zad (Zax (Zad rfl (Zad rfl rfl)) (ZnS n ties v (by omega) s)) (Zad (Zah (d:=.int w) (e:=nD (W.getD v 0)) (c:=.int (w-((W.getD v 0:Nat):Int))) rfl (Zah (d:=tupN W) (e:=nD v) rfl rfl (Zdt (by omega))) rfl) rfl))))) fb) rfl)))) (by show 4<=sizeLine;decide)) ⟨rfl,rfl⟩))
end TQ
namespace TQ
open PySem L2 TF TS
open TP
open TP2
open TP3
abbrev on1 (n:Nat):List Nat:=List.replicate n 1
theorem ZjP {n:Nat}:∀{K:List Nat},(∀o∈K,o<n)->wt (on1 n) K=K.length
 | [],_=>rfl
 | a::K,h=>by
  show ((a::K).map fun p=>(on1 n).getD p 0).sum=_
  have ih:(K.map fun p=>(on1 n).getD p 0).sum=K.length:=ZjP fun o ho=>h o (List.mem_cons_of_mem _ ho)
  rw [List.map_cons,List.sum_cons,ih,List.getD_eq_getElem?_getD,List.getElem?_replicate,if_pos (h a List.mem_cons_self),List.length_cons]
  simp only [Option.getD_some]
  omega
theorem Zi2 {n:Nat} {ties:List (Nat×Nat)} (hw:IsWeb n ties) (hn:n<=24) {k:Int} (h:((om n ties:Nat):Int)<=k):∀K∈kn ties n,((wt (on1 n) K:Nat):Int)<=k:=fun K hK=>by
 obtain ⟨_,k2,_⟩:=Za1.mp hK
 rw [ZjP k2]
 have:=Zp3 hw hn hK
 omega
abbrev fewP (n:Nat) (ties:List (Nat×Nat)) (k:Nat):Paper:=bnd 26 n ties (on1 n) ((k:Int)-1)
abbrev fewS:Str:=Str.ofString "few"
theorem Zg1 {P:Paper} {n:Nat} {ties:List (Nat×Nat)} {k:Nat} (hw:IsWeb n ties) (hn:n<=24) (hP:ZeL P) (s:Pn):Zcu [webD n ties,nD k,papD fewS P] s=some (.bl (bndP P n ties (on1 n) ((k:Int)-1)),s):=
 ZaN rfl (ZaE (ZaM (Zax (Zad rfl (Zad rfl (Zad (Zax (Zad rfl rfl) (ZlX n ties (by omega) s)) (Zad (Zah (d:=nD k) (e:=.int 1) (c:=.int ((k:Int)-1)) rfl rfl rfl) (Zad rfl rfl))))) (Zlt fewS P 26 n ties (on1 n) ((k:Int)-1) s hw hn (by simp) (by omega) hP))))
theorem ZjY {n:Nat} {ties:List (Nat×Nat)} {k:Nat} (hw:IsWeb n ties) (hn:n<=24) (hk:k<=om n ties) (s:Pn):ZbR [webD n ties,nD k] s=some (.tup [.str (Str.ofString "knot"),.tup (cutD ((ZbC n ties).map nD) none (some (k:Int)))],s):=by
 have hge:dGe (nD (om n ties)) (nD k)=some (.bl true):=by
  show some (D.bl (decide ((k:Int)<=((om n ties:Nat):Int))))=_
  rw [decide_eq_true (by omega)]
 refine Ok.toEq (Ok.runB (g:=Zgg) rfl ?_)
 refine Ok.seq (.sset (.eq (Zax (Zad rfl rfl) (Zhg hw hn s)) ?_))
 refine Ok.seq (.sif (.eq (a:=true) (ZaC (Zah (d:=nD (om n ties)) (e:=nD k) (Zah (d:=.tup [nD (om n ties),tupN (ZbC n ties)]) (e:=.int 0) rfl rfl (Zdm _ _)) rfl hge)) ?_))
 rw [if_pos rfl]
 exact Ok.seq (.sret (.eq (ZbN (ds:=[.str (Str.ofString "knot"),.tup (cutD ((ZbC n ties).map nD) none (some (k:Int)))]) (Zad rfl (Zad (Zg4 (Zah (d:=.tup [nD (om n ties),tupN (ZbC n ties)]) (e:=.int 1) rfl rfl (ZdY _ _ _)) rfl (Zir rfl)) rfl)) (by show 2<=sizeLine;decide)) ⟨rfl,rfl⟩))
theorem ZfR {n:Nat} {ties:List (Nat×Nat)} {k:Nat} (hw:IsWeb n ties) (hn:n<=24) (hk:om n ties<k) (s:Pn):ZbR [webD n ties,nD k] s=some (.tup [.str (Str.ofString "none"),papD fewS (fewP n ties k)],s):=by
 have hge:dGe (nD (om n ties)) (nD k)=some (.bl false):=by
  show some (D.bl (decide ((k:Int)<=((om n ties:Nat):Int))))=_
  rw [decide_eq_false (by omega)]
 have hag:Zce [webD n ties,nD k] s=some (papD fewS (fewP n ties k),s):=
  ZaN rfl (ZaE (ZaM (Zax (Zad rfl (Zad rfl (Zad (Zax (Zad rfl rfl) (ZlX n ties (by omega) s)) (Zad (Zah (d:=nD k) (e:=.int 1) (c:=.int ((k:Int)-1)) rfl rfl rfl) rfl)))) (Zho fewS 26 n ties (on1 n) ((k:Int)-1) s hw hn (by simp) (by omega) (Zi2 hw hn (by omega))))))
 refine Ok.toEq (Ok.runB (g:=Zgg) rfl ?_)
 refine Ok.seq (.sset (.eq (Zax (Zad rfl rfl) (Zhg hw hn s)) ?_))
 refine Ok.seq (.sif (.eq (a:=false) (ZaC (Zah (d:=nD (om n ties)) (e:=nD k) (Zah (d:=.tup [nD (om n ties),tupN (ZbC n ties)]) (e:=.int 0) rfl rfl (Zdm _ _)) rfl hge)) ?_))
 rw [if_neg (by decide)]
 refine .next ?_
 exact Ok.seq (.sret (.eq (ZbN (ds:=[.str (Str.ofString "none"),papD fewS (fewP n ties k)]) (Zad rfl (Zad (Zax (Zad rfl (Zad rfl rfl)) hag) rfl)) (by show 2<=sizeLine;decide)) ⟨rfl,rfl⟩))
theorem ZkR {n:Nat} {ties:List (Nat×Nat)} {k:Nat} (hw:IsWeb n ties) (hn:n<=24) (hk:om n ties<k):bndP (fewP n ties k) n ties (on1 n) ((k:Int)-1)=true/\ZeL (fewP n ties k):=Zk2 26 n ties (on1 n) _ hw (by omega) (by omega) (by simp) (Zi2 hw hn (by omega))
theorem Zst {n:Nat} {ties:List (Nat×Nat)} {k j:Nat} (hw:IsWeb n ties) (hn:n<=24) (hk:om n ties<k) (hj:k<=j):bndP (fewP n ties k) n ties (on1 n) ((j:Int)-1)=true:=ZoM (by omega) (ZkR hw hn hk).1
theorem Zsu {P:Paper} {n:Nat} {ties:List (Nat×Nat)} {j:Nat} (hw:IsWeb n ties) (hn:n<=24) (hj:j<=om n ties):bndP P n ties (on1 n) ((j:Int)-1)=false:=by
 cases e:bndP P n ties (on1 n) ((j:Int)-1) with
 | false=>rfl
 | true=>
  have m1:=(ZdB hw hn).1
  have:=Znh hw (by simp) e _ m1
  rw [ZjP (Za1.mp m1).2.1] at this
  have hj:j<=(Zgu n ties).length:=hj
  omega
theorem Zr8 {n:Nat} {t ties:List (Nat×Nat)} (hw:IsWeb n ties) (hn:n<=24) (h:t.Sublist ties):om n t<=om n ties:=by
 have ht:IsWeb n t:=h.trans hw
 have m1:=(ZdB ht hn).1
 obtain ⟨k1,k2,k3⟩:=Za1.mp m1
 exact Zp3 hw hn (Za1.mpr ⟨k1,k2,fun a ha b hb ne=>ZcH.mpr (h.subset (ZcH.mp (k3 a ha b hb ne)))⟩)
end TQ
namespace K35
open PySem L2 TF TQ TS
open TP
open TP2
open TP3
theorem ZsB (ds:List D) (k:Nat):cutD ds none (some (k:Int))=ds.take k:=by
 unfold cutD
 rw [HT.sIx_none,HT.sIx_nat,List.drop_zero,Nat.sub_zero]
 by_cases h:k<=ds.length
 ·rw [Nat.min_eq_left h]
 ·rw [Nat.min_eq_right (by omega),List.take_of_length_le (Nat.le_refl _),List.take_of_length_le (by omega)]
theorem ZsC (ds:List D) (k:Nat):cutD ds (some (k:Int)) none=ds.drop k:=by
 unfold cutD
 rw [HT.sIx_none,HT.sIx_nat]
 by_cases h:k<=ds.length
 ·rw [Nat.min_eq_left h,List.take_of_length_le (by rw [List.length_drop];omega)]
 ·rw [Nat.min_eq_right (by omega),List.drop_of_length_le (Nat.le_refl _),List.drop_of_length_le (by omega)];simp
theorem Zrl (ties:List (Nat×Nat)):dEqO (.tup (ties.map Zaw)) (.tup [])=some (.bl ties.isEmpty):=by
 have h1:Zak (.tup (ties.map Zaw))=true:=ZeV ties
 have h2:dep (.tup (ties.map Zaw))<=60:=by have:=ZfE ties;unfold dep;omega
 unfold dEqO okEq
 rw [if_pos (by simp only [h1,Bool.true_and,Bool.and_eq_true,decide_eq_true_eq];exact ⟨⟨rfl,h2⟩,by decide⟩)]
 cases ties <;> rfl
theorem ZpK {n:Nat} {ties:List (Nat×Nat)} (hw:IsWeb n ties) (hn:n<=24) {s:Pn} (ok:okPn s):Ok (ZbA [.pen,webD n ties]) s fun d s'=>okPn s'/\∃t:List (Nat×Nat),d=webD n t/\t.Sublist ties:=by
 have hl:=IsWeb.len hw hn
 refine Ok.runB rfl ?_
 refine Ok.seq (.sif (.eq (a:=ties.isEmpty) (ZaC (Zah (d:=.tup (ties.map Zaw)) (e:=.tup []) (Zah (d:=webD n ties) (e:=.int 1) rfl rfl web1) rfl (Zrl ties))) ?_))
 cases h:ties.isEmpty with
 | true=>
  rw [if_pos rfl]
  exact Ok.seq (.sret (.eq (a:=webD n ties) rfl ⟨ok,ties,rfl,.refl _⟩))
 | false=>
  rw [if_neg (by decide)]
  have h0:0<ties.length:=by
   cases ties with
   | nil=>cases h
   | cons=>simp
  have hlen:dLen [.tup (ties.map Zaw)]=some (nD ties.length):=by show some (D.int _)=_;rw [List.length_map]
  refine .next (Ok.seq (.sset (.draw (m:=ties.length) ok (Zad rfl (Zad (ZaR (Zad (Zah (d:=webD n ties) (e:=.int 1) rfl rfl web1) rfl) hlen) rfl)) h0 (by omega) fun r s1 hr ok1=>?_)))
  have hsub:(ties.take r++ties.drop (r+1)).Sublist ties:=by
   have h1:(ties.take r++ties.drop (r+1)).Sublist (ties.take r++ties.drop r):=(List.Sublist.refl _).append (List.drop_sublist_drop_left ties (by omega))
   rwa [List.take_append_drop] at h1
  have hc1:cutD (ties.map Zaw) none (some (r:Int))=(ties.take r).map Zaw:=by rw [ZsB,List.map_take]
  have hc2:cutD (ties.map Zaw) (some ((r:Int)+1)) none=(ties.drop (r+1)).map Zaw:=by
   rw [show ((r:Int)+1)=((r+1:Nat):Int) by omega,ZsC,List.map_drop]
  refine Ok.seq (.sret (.eq (a:=webD n (ties.take r++ties.drop (r+1))) (ZbN (ds:=[nD n,.tup ((ties.take r++ties.drop (r+1)).map Zaw)]) (Zad (Zah (d:=webD n ties) (e:=.int 0) rfl rfl web0) (Zad (Zah (s1:=s1) (d:=.tup ((ties.take r).map Zaw)) (e:=.tup ((ties.drop (r+1)).map Zaw)) ?_ ?_ ?_) rfl)) (by show 2<=sizeLine;decide)) ⟨ok1,_,rfl,hsub⟩))
  ·rw [<-hc1];exact Zg4 (Zah (d:=webD n ties) (e:=.int 1) rfl rfl web1) rfl (Zir rfl)
  ·rw [<-hc2];exact Zg4 (Zah (d:=webD n ties) (e:=.int 1) rfl rfl web1) (Zir (Zah (d:=nD r) (e:=.int 1) rfl rfl rfl)) rfl
  ·show (if _ then _ else _)=_
   rw [if_pos (by
    have:=hsub.length_le
    rw [List.length_append] at this
    rw [List.length_map,List.length_map,ZaG];omega),<-List.map_append]
theorem Znr {τ:D->Rho->Option Rho} {ft:Rho->M Bool} {fe:Rho->M D} {ρ:Rho}:∀(ds:List D) (s:Pn),okPn s->
  (∀d∈ds,∀s,okPn s->∃ρ1,τ d ρ=some ρ1/\Ok (ft ρ1) s fun b s1=>okPn s1/\(b=true->fe ρ1 s1=some (d,s1)))->
  Ok (ZdV τ ft fe ρ ds) s fun r s'=>r.Sublist ds/\okPn s'
 | [],s,ok,_=>.ret ⟨by simp,ok⟩
 | d::ds,s,ok,h=>by
  obtain ⟨ρ1,e1,ok1⟩:=h d (by simp) s ok
  refine Ok.bind (.of e1 (.bind (ok1.mono fun b s1 q=>?_)))
  have ih:=Znr ds s1 q.1 fun d hd=>h d (by simp [hd])
  cases b with
  | true=>
   rw [if_pos rfl]
   exact .bind (.eq (q.2 rfl) (.bind (ih.mono fun r s' z=>.ret ⟨z.1.cons_cons _,z.2⟩)))
  | false=>
   rw [if_neg (by decide)]
   exact ih.mono fun r s' z=>⟨z.1.cons _,z.2⟩
theorem Zqn {n:Nat} {fi:Rho->M (List D)} {ρ:Rho} {s:Pn} (hp:(ρ[1]?).bind id=some .pen) (hi:fi ρ s=some (ZaH 0 n,s)) (ok:okPn s) (hn:n<=24) :
  Ok (ZaP [none,some 1] fi (gOne 0) (asB (dOp dEqO (dFn ZbL (Zac (dVar 1) (Zac (dC (.int 2)) dNil))) (dC (.int 0)))) (dVar 0) ρ) s fun d s'=>okPn s'/\∃ps:List Nat,d=.lst (ps.map nD)/\ps.Sublist (List.range n):=by
 refine .bind (.eq hi (.ite (Zeg (by omega)) (.bind ((Znr (ZaH 0 n) s ok fun d hd s ok=>?_).mono fun r s' q=>.ret ?_))))
 ·refine ⟨[some d,some .pen],?_,?_⟩
  ·show some ((ZbD [none,some 1] ρ).set 0 (some d))=_
   unfold ZbD
   simp only [List.map_cons,List.map_nil,Option.bind_some,hp]
   rfl
  ·exact .asB (.op (.draw (m:=2) ok (Zad rfl (Zad rfl rfl)) (by omega) (by omega) fun r s1 hr ok1=>.eq (a:=.int 0) rfl ⟨_,eqi _ _,_,rfl,ok1,fun _=>rfl⟩))
 ·refine ⟨q.2,?_⟩
  have q1:=q.1
  rw [ZcB] at q1
  obtain ⟨ps,h1,h2⟩:=List.sublist_map_iff.mp q1
  exact ⟨ps,by rw [h2],h1⟩
def setD (n:Nat) (ties:List (Nat×Nat)) (k:Nat):D:=if k<=om n ties then .tup [.str (Str.ofString "knot"),.tup (cutD ((ZbC n ties).map nD) none (some (k:Int)))] else .tup [.str (Str.ofString "none"),papD fewS (fewP n ties k)]
theorem Zmv {n:Nat} {ties:List (Nat×Nat)} {k:Nat} (hw:IsWeb n ties) (hn:n<=24) (s:Pn):ZbR [webD n ties,nD k] s=some (setD n ties k,s):=by
 unfold setD
 by_cases h:k<=om n ties
 ·rw [if_pos h];exact ZjY hw hn h s
 ·rw [if_neg h];exact ZfR hw hn (by omega) s
theorem leN (a b:Nat):dLe (nD a) (nD b)=some (.bl (decide (a<=b))):=by
 show some (D.bl (decide ((a:Int)<=(b:Int))))=_
 congr 2
 exact decide_eq_decide.mpr (by omega)
theorem geN (a b:Nat):dGe (nD a) (nD b)=some (.bl (decide (b<=a))):=by
 show some (D.bl (decide ((b:Int)<=(a:Int))))=_
 congr 2
 exact decide_eq_decide.mpr (by omega)
theorem ZnT:dEqO (.str (Str.ofString "none")) (.str (Str.ofString "knot"))=some (.bl false):=rfl
theorem Zn9:dEqO (.str (Str.ofString "knot")) (.str (Str.ofString "none"))=some (.bl false):=rfl
theorem neB (a:Bool):dNeO (.bl a) (.bl a)=some (.bl false):=Zl1 rfl (by cases a <;> decide)
theorem Zmg {f:Rho->M Bool} {ρ:Rho} {s:Pn} {b:Bool} (h:f ρ s=some (b,s)):bNot f ρ s=some (!b,s):=ZdQ h
set_option maxHeartbeats 4000000 in
theorem Zpw (ns:List Int) (h:ns.length<=63):∃s',ZmT (none::some .pen::List.replicate 13 none) ([0,0],ns)=some (.rt (.bl true),s'):=by
 have ok0:okPn ([0,0],ns):=⟨0,0,rfl,by omega,by omega⟩
 suffices hh:Ok (ZmT (none::some .pen::List.replicate 13 none)) ([0,0],ns) fun o s'=>o=.rt (.bl true) by
  obtain ⟨o,s',e,rfl⟩:=hh
  exact ⟨s',e⟩
 refine Ok.seq (.sfor (fun i ρ s'=>okPn s'/\∃o2 o3 o4 o5 o6 o7 o8 o9 o10 o11 o12 o13 o14,ρ=[none,some .pen,o2,o3,o4,o5,o6,o7,o8,o9,o10,o11,o12,o13,o14]) (.eq (Zbd (n:=2) rfl (by omega)) ⟨⟨ok0,none,none,none,none,none,none,none,none,none,none,none,none,none,rfl⟩,fun i0 d ρ s' hd hI=>?_,fun ρ' s' hI=>?_⟩))
 ·obtain ⟨ok1,o2,o3,o4,o5,o6,o7,o8,o9,o10,o11,o12,o13,o14,rfl⟩:=hI
  obtain ⟨hi,rfl⟩:=Zc9 hd
  clear hd hi ok0
  refine ⟨_,rfl,?_⟩
  refine Ok.seq (.sset (.fn (Zad rfl (Zad rfl rfl)) ((Zru ok1 8 (by omega)).mono fun d s1 q=>?_)))
  obtain ⟨ok2,n,ties,rfl,hn8,hw⟩:=q
  have hn:n<=24:=by omega
  have hl:=IsWeb.len hw hn
  refine Ok.seq (.sset (.eq (Zah (d:=.tup [nD (om n ties),tupN (ZbC n ties)]) (e:=.int 0) (Zax (Zad rfl rfl) (Zhg hw hn s1)) rfl (Zdm _ _)) ?_))
  have hall:∀ρ:Rho,(ρ[3]?).bind id=some (webD n ties)->ZaP [none,some 3] (ZaU (dC (.int 10))) (gOne 0) ZaZ (dFn ZbR (Zac (dVar 1) (Zac (dVar 0) dNil))) ρ s1=some (.lst ((List.range 10).map (setD n ties)),s1):=fun ρ h3=>by
   have hc:=Zbc (src:=[none,some 3]) (fi:=ZaU (dC (.int 10))) (τ:=gOne 0) (ft:=ZaZ) (fe:=dFn ZbR (Zac (dVar 1) (Zac (dVar 0) dNil))) (ρ:=ρ) (s:=s1) (ds:=ZaH 0 10) (fun d=>[some d,some (webD n ties)]) (fun _=>true) (fun d=>setD n ties (nat0 d)) (Zbd (n:=10) rfl (by omega)) (Zeg (by omega)) (fun d hd=>by
    obtain ⟨x,hx,rfl⟩:=Zct hd
    refine ⟨?_,rfl,fun _=>Zax (Zad rfl (Zad rfl rfl)) (Zmv hw hn s1)⟩
    show some ((ZbD [none,some 3] ρ).set 0 (some _))=_
    unfold ZbD
    simp only [List.map_cons,List.map_nil,Option.bind_some,h3]
    rfl)
   rw [ZbQ,ZcB,List.map_map] at hc
   exact hc
  refine Ok.seq (.sset (.eq (hall _ rfl) ?_))
  clear hall
  refine Ok.seq (.sfor (fun i ρ s'=>s'=s1/\∃o6 o7 o8 o9 o10,ρ=[none,some .pen,some (.int (i0:Int)),some (webD n ties),some (nD (om n ties)),some (.lst ((List.range 10).map (setD n ties))),o6,o7,o8,o9,o10,o11,o12,o13,o14]) (.eq (Zbd (n:=10) rfl (by omega)) ⟨⟨rfl,_,_,_,_,_,rfl⟩,fun k d ρ s' hd hI=>?_,fun ρ' s' hI=>?_⟩))
  ·obtain ⟨rfl,o6,o7,o8,o9,o10,rfl⟩:=hI
   obtain ⟨hk,rfl⟩:=Zc9 hd
   clear hd
   refine ⟨_,rfl,?_⟩
   have hix:dIx (.lst ((List.range 10).map (setD n ties))) (nD k)=some (setD n ties k):=by
    show atI _ (k:Int)=_
    exact ZbJ (by rw [List.getElem?_map,List.getElem?_range hk];rfl)
   have e5:∀ρ:Rho,(ρ[5]?).bind id=some (.lst ((List.range 10).map (setD n ties)))->(ρ[6]?).bind id=some (nD k)->dOp dIx (dVar 5) (dVar 6) ρ s'=some (setD n ties k,s'):=fun ρ h5 h6=>Zah (by unfold dVar mOf;rw [h5]) (by unfold dVar mOf;rw [h6]) hix
   by_cases hko:k<=om n ties
   ·have es:setD n ties k=.tup [.str (Str.ofString "knot"),.tup (cutD ((ZbC n ties).map nD) none (some (k:Int)))]:=by unfold setD;rw [if_pos hko]
    rw [es] at e5
    refine Ok.seq (.sunp (.eq (e5 _ rfl rfl) ⟨_,rfl,?_⟩))
    refine Ok.seq (.sif (.eq (a:=false) (ZaC (Zah (d:=.bl true) (e:=.bl true) (Zah (d:=.str (Str.ofString "knot")) (e:=.str (Str.ofString "knot")) rfl rfl (Zhv _)) (Zah (d:=nD k) (e:=nD (om n ties)) rfl rfl (by rw [leN,decide_eq_true hko])) (neB true))) ?_))
    rw [if_neg (by decide)]
    refine .next (Ok.seq (.sif (.eq (a:=false) (ZaC (Zah (d:=.str (Str.ofString "knot")) (e:=.str (Str.ofString "none")) rfl rfl Zn9)) ?_)))
    rw [if_neg (by decide)]
    exact .next (.next ⟨_,rfl,rfl,_,_,_,_,_,rfl⟩)
   ·have es:setD n ties k=.tup [.str (Str.ofString "none"),papD fewS (fewP n ties k)]:=by unfold setD;rw [if_neg hko]
    rw [es] at e5
    have hom:om n ties<k:=by omega
    obtain ⟨_,pok⟩:=ZkR hw hn hom
    refine Ok.seq (.sunp (.eq (e5 _ rfl rfl) ⟨_,rfl,?_⟩))
    refine Ok.seq (.sif (.eq (a:=false) (ZaC (Zah (d:=.bl false) (e:=.bl false) (Zah (d:=.str (Str.ofString "none")) (e:=.str (Str.ofString "knot")) rfl rfl ZnT) (Zah (d:=nD k) (e:=nD (om n ties)) rfl rfl (by rw [leN,decide_eq_false hko])) (neB false))) ?_))
    rw [if_neg (by decide)]
    refine .next (Ok.seq (.sif (.eq (a:=true) (ZaC (Zah (d:=.str (Str.ofString "none")) (e:=.str (Str.ofString "none")) rfl rfl (Zhv _))) ?_)))
    rw [if_pos rfl]
    refine Ok.seq (.sfor (fun i ρ t=>t=s'/\∃o9 o10,ρ=[none,some .pen,some (.int (i0:Int)),some (webD n ties),some (nD (om n ties)),some (.lst ((List.range 10).map (setD n ties))),some (nD k),some (.str (Str.ofString "none")),some (papD fewS (fewP n ties k)),o9,o10,o11,o12,o13,o14]) (.eq (Zbd (n:=10) rfl (by omega)) ⟨⟨rfl,_,_,rfl⟩,fun j d ρ t hd hI=>?_,fun ρ' t hI=>?_⟩))
    ·obtain ⟨rfl,o9,o10,rfl⟩:=hI
     obtain ⟨hj,rfl⟩:=Zc9 hd
     clear hd
     refine ⟨_,rfl,?_⟩
     refine Ok.seq (.sset (.eq (Zax (Zad rfl (Zad rfl (Zad rfl rfl))) (Zg1 (k:=j) hw hn pok t)) ?_))
     refine Ok.seq (.sif (.eq (a:=false) (s':=t) ?_ ?_))
     ·by_cases hkj:k<=j
      ·have es:=Zst hw hn hom hkj
       rw [es]
       exact Zid (Zk3 (ZaC (Zah (d:=nD j) (e:=nD k) rfl rfl (by rw [geN,decide_eq_true hkj]))) (Zmg (b:=true) (ZaC rfl))) (Zif (ZaC (Zah (d:=nD j) (e:=nD (om n ties)) rfl rfl (by rw [leN,decide_eq_false (by omega)]))))
      ·refine Zid (Zif (ZaC (Zah (d:=nD j) (e:=nD k) rfl rfl (by rw [geN,decide_eq_false hkj])))) ?_
       by_cases hjo:j<=om n ties
       ·rw [Zsu hw hn hjo]
        exact Zk3 (ZaC (Zah (d:=nD j) (e:=nD (om n ties)) rfl rfl (by rw [leN,decide_eq_true hjo]))) (ZaC rfl)
       ·exact Zif (ZaC (Zah (d:=nD j) (e:=nD (om n ties)) rfl rfl (by rw [leN,decide_eq_false hjo])))
     ·rw [if_neg (by decide)]
      exact .next (.next ⟨_,rfl,rfl,_,_,rfl⟩)
    ·obtain ⟨rfl,o9,o10,rfl⟩:=hI
     exact .next (.next ⟨_,rfl,rfl,_,_,_,_,_,rfl⟩)
  ·obtain ⟨rfl,o6,o7,o8,o9,o10,rfl⟩:=hI
   refine Ok.seq (.sset (.eq (a:=nD (om n ties+1)) (Zah (d:=nD (om n ties)) (e:=nD 1) rfl rfl (addN _ _)) ?_))
   refine Ok.seq (.sset (.fn (Zad rfl (Zad rfl rfl)) ((ZpK hw hn ok2).mono fun d s3 q=>?_)))
   obtain ⟨ok3,t,rfl,ht⟩:=q
   refine Ok.seq (.sset ((Zqn (n:=n) rfl (Zbd (Zah (d:=webD n ties) (e:=.int 0) rfl rfl web0) (by omega)) ok3 hn).mono fun d s4 q=>?_))
   obtain ⟨ok4,ps,rfl,hps⟩:=q
   have hpl:ps.length<=24:=by have:=hps.length_le;rw [List.length_range] at this;omega
   have hpn:ps.Nodup:=List.nodup_range.sublist hps
   have hpb:∀o∈ps,o<n:=fun o ho=>List.mem_range.mp (hps.subset ho)
   have hds:∀(i:Nat) (d:D),[webD n t,webD ps.length (anew ties ps)][i]?=some d->∃n' t',d=webD n' t'/\IsWeb n' t'/\n'<=24/\om n' t'<=om n ties:=fun i d hd=>by
    match i,hd with
    | 0,hd=>cases hd;exact ⟨n,t,rfl,ht.trans hw,hn,Zr8 hw hn ht⟩
    | 1,hd=>cases hd;exact ⟨_,_,rfl,Zb5 _ _,hpl,ZqM hw hn hpn hpb hpl⟩
    | i+2,hd=>simp at hd
   refine Ok.seq (.sfor (fun i ρ t'=>t'=s4/\∃o13 o14,ρ=[none,some .pen,some (.int (i0:Int)),some (webD n ties),some (nD (om n ties)),some (.lst ((List.range 10).map (setD n ties))),some (nD (om n ties+1)),o7,o8,o9,o10,some (webD n t),some (.lst (ps.map nD)),o13,o14]) (.eq (Zb1 (Zf8 (Zad rfl (Zad (Zax (Zad rfl (Zad rfl rfl)) (Zeu n ties ps (by omega) (by omega) s4)) rfl)) (by show 2<=sizeLine;decide))) ⟨⟨rfl,_,_,rfl⟩,fun j d ρ t' hd hI=>?_,fun ρ' t' hI=>?_⟩))
   ·obtain ⟨rfl,o13,o14,rfl⟩:=hI
    obtain ⟨n',t2,rfl,hw',hn',hom'⟩:=hds j d hd
    refine ⟨_,rfl,?_⟩
    have hlt:om n' t2<om n ties+1:=by omega
    obtain ⟨p1,p2⟩:=ZkR hw' hn' hlt
    refine Ok.seq (.sset (.eq (Zax (Zad rfl (Zad rfl rfl)) (ZfR hw' hn' hlt t')) ?_))
    refine Ok.seq (.sif (.eq (a:=false) (Zid (ZaC (Zah (d:=.str (Str.ofString "none")) (e:=.str (Str.ofString "none")) (Zah (d:=.tup [.str (Str.ofString "none"),papD fewS (fewP n' t2 (om n ties+1))]) (e:=.int 0) rfl rfl (Zdm _ _)) rfl (Zns _))) (Zmg (b:=true) (ZaC (Zax (Zad rfl (Zad rfl (Zad (Zah (d:=.tup [.str (Str.ofString "none"),papD fewS (fewP n' t2 (om n ties+1))]) (e:=.int 1) rfl rfl (ZdY _ _ _)) rfl))) (by rw [Zg1 (k:=om n ties+1) hw' hn' p2 t',p1]))))) ?_))
    rw [if_neg (by decide)]
    exact .next (.next ⟨_,rfl,rfl,_,_,rfl⟩)
   ·obtain ⟨rfl,o13,o14,rfl⟩:=hI
    exact .next ⟨_,rfl,ok4,_,_,_,_,_,_,_,_,_,_,_,_,_,rfl⟩
 ·obtain ⟨ok1,o2,o3,o4,o5,o6,o7,o8,o9,o10,o11,o12,o13,o14,rfl⟩:=hI
  exact Ok.seq (.sret (.eq (a:=.bl true) rfl rfl))
end K35
namespace K35
open PySem.Spec PyProof.Rows
open PySem L2 TF TQ
open TP
open TP2
open TP3
set_option maxHeartbeats 4000000 in
theorem Zsa {P:Program} {w:World} {K:PySem.W.Frag} {mg:Str->Option Value} {base:Heap} {a_f:Addr} {fd_f:FuncData} {L:List (Addr×Str)} (lo:LOk L) (F:Fun K "law" "law" s_law a_f fd_f) (T:Txt mg) (c__law_fewer_ties:Cal P w K mg base 3 "_law_fewer_ties" 2 false (PenT (PenK K) L) ZbA) (c__law_next:Cal P w K mg base 2 "_law_next" 2 true (PenT (PenK K) L) ZbL) (c__law_web:Cal P w K mg base 3 "_law_web" 2 true (PenT (PenK K) L) Zc2) (c_is_paper:Cal P w K mg base 60 "is_paper" 3 false (Zaz L) Zcu) (c_most:Cal P w K mg base 55 "most" 1 true (Zaz L) ZdK) (c_part:Cal P w K mg base 7 "part" 2 false (Zaz L) Zdc) (c_settled:Cal P w K mg base 61 "settled" 2 true (Zaz L) ZbR) :
  FnOk P w K mg base CX0 62 a_f fd_f ["script"] (Zhw K L):=by
 have nd:=ZjZ.nd
 refine F.ok ZjZ (fun vs H Q E h=>?_) fun cdv A outer s0 H vs Q E hr h=>?_
 ·obtain ⟨a,ns,rfl,_⟩:=h
  rfl
 ·obtain ⟨a,ns,rfl,sq,hl,hTb,hQ⟩:=h
  obtain ⟨s',hs'⟩:=Zpw ns hl
  refine ⟨_,Zcr (Zev (i:=1) nd rfl (Or.inr rfl) (ZqC (Zbb (pv 0) (Zbb Zbn (Zbb Zbn ZbO))))) (ZoZ (GG:=PenT (PenK K) L) fun G hG=>Zrn lo T hr c__law_fewer_ties c__law_next c__law_web c_is_paper c_most c_part c_settled G hG),?_⟩
  refine ⟨_,rfl,(by show 3<=sizeLine;decide),fun p hp hk=>?_⟩
  exact Zpx (n:=13) (N:=["script","_law_pen","_law_turn","_law_told","_law_many","_law_all","_law_k","_law_word","_law_what","_law_other","_law_said","_law_less","_law_some","_law_one","_law_found"]) sq hTb hp hk hQ hs'
set_option maxHeartbeats 4000000 in
theorem all_mk {l:PySem.W.OpenLaw} {w:World} {K:PySem.W.Frag} {h:Heap} {mg:Str->Option Value} {fa:Addr} {tc16 tc28 tc33:Addr} (tP16 tP28 tP33:Addr) (lo:LOk [(tP16,(Str.ofString "numbered_anew.<locals>.<lambda>")),(tP28,(Str.ofString "turned.<locals>.<lambda>")),(tP33,(Str.ofString "heavy_first.<locals>.<lambda>"))]) (X:K.In h) (G:h.Ns mainGlobals mg) (hfa:mg "law" = some (.ref fa))
  (x1:Is K "_law_fill" ZeT)
  (x2:Is K "_law_next" ZeS)
  (x3:Is K "_law_fewer_ties" Zc4)
  (x4:Is K "_law_web" Zeb)
  (x5:Is K "is_whole" Zfo)
  (x6:Is K "is_place" Zfp)
  (x7:Is K "is_tuple_of" Zd5)
  (x8:Is K "is_hueing" Zc8)
  (x9:Is K "are_tied" Zfs)
  (x10:Is K "near" ZhC)
  (x11:Is K "places_without" Zcp)
  (x12:Is K "weighed_by_hues" Zc3)
  (x13:Is K "marked_ties" Zdf)
  (x14:Is K "pairs_of" Zfn)
  (x15:Is K "web_where" ZdU)
  (x16:IsC K "numbered_anew" Zca tc16)
  (x17:Is K "part" Zj1)
  (x18:Is K "weights_along" ZcD)
  (x19:Is K "is_bound_of_part" ZcJ)
  (x20:Is K "is_bound" Zfr)
  (x21:Is K "ones" Zj2)
  (x22:Is K "is_paper" Zfq)
  (x23:Is K "all_near" Zea)
  (x24:Is K "apart_among" Zdg)
  (x25:Is K "weighed" ZeJ)
  (x26:Is K "heaviest_with" ZcE)
  (x27:Is K "heaviest_among" ZbG)
  (x28:IsC K "turned" Zes tc28)
  (x29:Is K "heaviest_knot" ZcF)
  (x30:Is K "most" Zj3)
  (x31:Is K "least_free" Zdw)
  (x32:Is K "hued_along" ZcK)
  (x33:IsC K "heavy_first" Zcw tc33)
  (x34:Is K "bound_of_part" Zdx)
  (x35:Is K "bound" Zin)
  (x36:Is K "paper_against" Zdv)
  (x37:Is K "settled" ZfW)
  (x38:Is K "law" s_law)
  (z1:PySem.W.nsIn K mainGlobals "all" = some none)
  (z2:PySem.W.nsIn K mainGlobals "bool" = some none)
  (z3:PySem.W.nsIn K mainGlobals "dict" = some none)
  (z4:PySem.W.nsIn K mainGlobals "int" = some none)
  (z5:PySem.W.nsIn K mainGlobals "isinstance" = some none)
  (z6:PySem.W.nsIn K mainGlobals "len" = some none)
  (z7:PySem.W.nsIn K mainGlobals "list" = some none)
  (z8:PySem.W.nsIn K mainGlobals "max" = some none)
  (z9:PySem.W.nsIn K mainGlobals "min" = some none)
  (z10:PySem.W.nsIn K mainGlobals "range" = some none)
  (z11:PySem.W.nsIn K mainGlobals "sorted" = some none)
  (z12:PySem.W.nsIn K mainGlobals "sum" = some none)
  (z13:PySem.W.nsIn K mainGlobals "tuple" = some none) :
  ∃fd:FuncData,(∀(s:Shared) (v:Value),BindsTo s fd ⟨[v],[]⟩ [("script",v)])/\∀base:Heap,K.In base->base.Ns mainGlobals mg->PySem.W.CodeHd base tc16 tP16->PySem.W.CodeHd base tc28 tP28->PySem.W.CodeHd base tc33 tP33->BMn mg base->FnOk l.prog w K mg base CX0 62 fa fd ["script"] (Zhw K ([(tP16,(Str.ofString "numbered_anew.<locals>.<lambda>")),(tP28,(Str.ofString "turned.<locals>.<lambda>")),(tP33,(Str.ofString "heavy_first.<locals>.<lambda>"))]:List (Addr×Str))):=by
 have T:Txt mg:=⟨PySem.W.mg_none_of X G z1,PySem.W.mg_none_of X G z2,PySem.W.mg_none_of X G z3,PySem.W.mg_none_of X G z4,PySem.W.mg_none_of X G z5,PySem.W.mg_none_of X G z6,PySem.W.mg_none_of X G z7,PySem.W.mg_none_of X G z8,PySem.W.mg_none_of X G z9,PySem.W.mg_none_of X G z10,PySem.W.mg_none_of X G z11,PySem.W.mg_none_of X G z12,PySem.W.mg_none_of X G z13⟩
 obtain ⟨_,f1,_,a1,F1,_⟩:=x1
 have b1:=F1.binds (ps:=["_law_cell","_law_at"]) fun _ _ _ _ _ _ us hl=>by obtain ⟨_,_,rfl⟩:=ux2 us hl;rfl
 obtain ⟨_,f2,_,a2,F2,_⟩:=x2
 have b2:=F2.binds (ps:=["_law_pen","_law_many"]) fun _ _ _ _ _ _ us hl=>by obtain ⟨_,_,rfl⟩:=ux2 us hl;rfl
 obtain ⟨_,f3,_,a3,F3,_⟩:=x3
 have b3:=F3.binds (ps:=["_law_pen","_law_told"]) fun _ _ _ _ _ _ us hl=>by obtain ⟨_,_,rfl⟩:=ux2 us hl;rfl
 obtain ⟨_,f4,_,a4,F4,_⟩:=x4
 have b4:=F4.binds (ps:=["_law_pen","_law_most"]) fun _ _ _ _ _ _ us hl=>by obtain ⟨_,_,rfl⟩:=ux2 us hl;rfl
 obtain ⟨_,f5,_,a5,F5,_⟩:=x5
 have b5:=F5.binds (ps:=["thing"]) fun _ _ _ _ _ _ us hl=>by obtain ⟨_,rfl⟩:=ux1 us hl;rfl
 obtain ⟨_,f6,_,a6,F6,_⟩:=x6
 have b6:=F6.binds (ps:=["n","thing"]) fun _ _ _ _ _ _ us hl=>by obtain ⟨_,_,rfl⟩:=ux2 us hl;rfl
 obtain ⟨_,f7,_,a7,F7,_⟩:=x7
 have b7:=F7.binds (ps:=["thing","length"]) fun _ _ _ _ _ _ us hl=>by obtain ⟨_,_,rfl⟩:=ux2 us hl;rfl
 obtain ⟨_,f8,_,a8,F8,_⟩:=x8
 have b8:=F8.binds (ps:=["web","thing"]) fun _ _ _ _ _ _ us hl=>by obtain ⟨_,_,rfl⟩:=ux2 us hl;rfl
 obtain ⟨_,f9,_,a9,F9,_⟩:=x9
 have b9:=F9.binds (ps:=["ties","a","b"]) fun _ _ _ _ _ _ us hl=>by obtain ⟨_,_,_,rfl⟩:=ux3 us hl;rfl
 obtain ⟨_,f10,_,a10,F10,_⟩:=x10
 have b10:=F10.binds (ps:=["web","place"]) fun _ _ _ _ _ _ us hl=>by obtain ⟨_,_,rfl⟩:=ux2 us hl;rfl
 obtain ⟨_,f11,_,a11,F11,_⟩:=x11
 have b11:=F11.binds (ps:=["web","v"]) fun _ _ _ _ _ _ us hl=>by obtain ⟨_,_,rfl⟩:=ux2 us hl;rfl
 obtain ⟨_,f12,_,a12,F12,_⟩:=x12
 have b12:=F12.binds (ps:=["weights","hueing"]) fun _ _ _ _ _ _ us hl=>by obtain ⟨_,_,rfl⟩:=ux2 us hl;rfl
 obtain ⟨_,f13,_,a13,F13,_⟩:=x13
 have b13:=F13.binds (ps:=["web"]) fun _ _ _ _ _ _ us hl=>by obtain ⟨_,rfl⟩:=ux1 us hl;rfl
 obtain ⟨_,f14,_,a14,F14,_⟩:=x14
 have b14:=F14.binds (ps:=["row"]) fun _ _ _ _ _ _ us hl=>by obtain ⟨_,rfl⟩:=ux1 us hl;rfl
 obtain ⟨_,f15,_,a15,F15,_⟩:=x15
 have b15:=F15.binds (ps:=["row","tied"]) fun _ _ _ _ _ _ us hl=>by obtain ⟨_,_,rfl⟩:=ux2 us hl;rfl
 obtain ⟨f16,_,a16,F16,e16⟩:=x16
 have b16:=F16.binds (ps:=["web","places"]) fun _ _ _ _ _ _ us hl=>by obtain ⟨_,_,rfl⟩:=ux2 us hl;rfl
 obtain ⟨_,f17,_,a17,F17,_⟩:=x17
 have b17:=F17.binds (ps:=["web","places"]) fun _ _ _ _ _ _ us hl=>by obtain ⟨_,_,rfl⟩:=ux2 us hl;rfl
 obtain ⟨_,f18,_,a18,F18,_⟩:=x18
 have b18:=F18.binds (ps:=["weights","places"]) fun _ _ _ _ _ _ us hl=>by obtain ⟨_,_,rfl⟩:=ux2 us hl;rfl
 obtain ⟨_,f19,_,a19,F19,_⟩:=x19
 have b19:=F19.binds (ps:=["plainest","web","weights","places","w","thing"]) fun _ _ _ _ _ _ us hl=>by obtain ⟨_,_,_,_,_,_,rfl⟩:=ux6 us hl;rfl
 obtain ⟨_,f20,_,a20,F20,_⟩:=x20
 have b20:=F20.binds (ps:=["plainest","web","weights","w","thing"]) fun _ _ _ _ _ _ us hl=>by obtain ⟨_,_,_,_,_,rfl⟩:=ux5 us hl;rfl
 obtain ⟨_,f21,_,a21,F21,_⟩:=x21
 have b21:=F21.binds (ps:=["web"]) fun _ _ _ _ _ _ us hl=>by obtain ⟨_,rfl⟩:=ux1 us hl;rfl
 obtain ⟨_,f22,_,a22,F22,_⟩:=x22
 have b22:=F22.binds (ps:=["web","k","thing"]) fun _ _ _ _ _ _ us hl=>by obtain ⟨_,_,_,rfl⟩:=ux3 us hl;rfl
 obtain ⟨_,f23,_,a23,F23,_⟩:=x23
 have b23:=F23.binds (ps:=["web"]) fun _ _ _ _ _ _ us hl=>by obtain ⟨_,rfl⟩:=ux1 us hl;rfl
 obtain ⟨_,f24,_,a24,F24,_⟩:=x24
 have b24:=F24.binds (ps:=["aparts","place","places"]) fun _ _ _ _ _ _ us hl=>by obtain ⟨_,_,_,rfl⟩:=ux3 us hl;rfl
 obtain ⟨_,f25,_,a25,F25,_⟩:=x25
 have b25:=F25.binds (ps:=["weights","places"]) fun _ _ _ _ _ _ us hl=>by obtain ⟨_,_,rfl⟩:=ux2 us hl;rfl
 obtain ⟨_,f26,_,a26,F26,_⟩:=x26
 have b26:=F26.binds (ps:=["aparts","weights","place","places"]) fun _ _ _ _ _ _ us hl=>by obtain ⟨_,_,_,_,rfl⟩:=ux4 us hl;rfl
 obtain ⟨_,f27,_,a27,F27,_⟩:=x27
 have b27:=F27.binds (ps:=["aparts","weights","places"]) fun _ _ _ _ _ _ us hl=>by obtain ⟨_,_,_,rfl⟩:=ux3 us hl;rfl
 obtain ⟨f28,_,a28,F28,e28⟩:=x28
 have b28:=F28.binds (ps:=["web"]) fun _ _ _ _ _ _ us hl=>by obtain ⟨_,rfl⟩:=ux1 us hl;rfl
 obtain ⟨_,f29,_,a29,F29,_⟩:=x29
 have b29:=F29.binds (ps:=["web","weights"]) fun _ _ _ _ _ _ us hl=>by obtain ⟨_,_,rfl⟩:=ux2 us hl;rfl
 obtain ⟨_,f30,_,a30,F30,_⟩:=x30
 have b30:=F30.binds (ps:=["web"]) fun _ _ _ _ _ _ us hl=>by obtain ⟨_,rfl⟩:=ux1 us hl;rfl
 obtain ⟨_,f31,_,a31,F31,_⟩:=x31
 have b31:=F31.binds (ps:=["taken"]) fun _ _ _ _ _ _ us hl=>by obtain ⟨_,rfl⟩:=ux1 us hl;rfl
 obtain ⟨_,f32,_,a32,F32,_⟩:=x32
 have b32:=F32.binds (ps:=["web","order"]) fun _ _ _ _ _ _ us hl=>by obtain ⟨_,_,rfl⟩:=ux2 us hl;rfl
 obtain ⟨f33,_,a33,F33,e33⟩:=x33
 have b33:=F33.binds (ps:=["web","weights"]) fun _ _ _ _ _ _ us hl=>by obtain ⟨_,_,rfl⟩:=ux2 us hl;rfl
 obtain ⟨_,f34,_,a34,F34,_⟩:=x34
 have b34:=F34.binds (ps:=["plainest","web","weights","places","w"]) fun _ _ _ _ _ _ us hl=>by obtain ⟨_,_,_,_,_,rfl⟩:=ux5 us hl;rfl
 obtain ⟨_,f35,_,a35,F35,_⟩:=x35
 have b35:=F35.binds (ps:=["plainest","web","weights","w"]) fun _ _ _ _ _ _ us hl=>by obtain ⟨_,_,_,_,rfl⟩:=ux4 us hl;rfl
 obtain ⟨_,f36,_,a36,F36,_⟩:=x36
 have b36:=F36.binds (ps:=["web","k"]) fun _ _ _ _ _ _ us hl=>by obtain ⟨_,_,rfl⟩:=ux2 us hl;rfl
 obtain ⟨_,f37,_,a37,F37,_⟩:=x37
 have b37:=F37.binds (ps:=["web","k"]) fun _ _ _ _ _ _ us hl=>by obtain ⟨_,_,rfl⟩:=ux2 us hl;rfl
 obtain ⟨_,f38,_,a38,F38,_⟩:=x38
 cases hfa.symm.trans (PySem.W.mg_of X G a38)
 have ca_are_tied:∀base,Cal l.prog w K mg base 1 "are_tied" 3 false AnyG Za5:=fun base=>⟨f9,_,_,Zll F9 T,PySem.W.mg_of X G a9,F9.kp,b9⟩
 have ca_pairs_of:∀base,Cal l.prog w K mg base 1 "pairs_of" 1 true AnyG Zc0:=fun base=>⟨f14,_,_,Zlg F14 T,PySem.W.mg_of X G a14,F14.kp,b14⟩
 have ca_web_where:∀base,Cal l.prog w K mg base 5 "web_where" 2 false (CloG l.prog w K mg 4 2 Tl base) ZbZ:=fun base=>⟨f15,_,_,Zf1 F15 T (ca_pairs_of base),PySem.W.mg_of X G a15,F15.kp,b15⟩
 have cA_web_where:CalA l.prog w K mg 5 "web_where" 2 false (CloG l.prog w K mg 4 2 Tl) ZbZ:=⟨f15,_,_,fun base=>Zf1 F15 T (ca_pairs_of base),PySem.W.mg_of X G a15,F15.kp,b15⟩
 obtain ⟨oc,od,kV,doc,pm,an,cdv,ct,osl,rfl,lk,hcd⟩:=F38.ex
 refine ⟨PySem.W.fnOf "law" "law" (ZcA s_law) (Zb9 s_law) (Zal s_law) .none kV doc pm an cdv ct,fun s v=>.of_eq rfl,fun base _ _ hC16 hC28 hC33 hBm=>?_⟩
 have c__law_fill:Cal l.prog w K mg base 1 "_law_fill" 2 false AnyG Zb0:=⟨f1,_,_,Zko F1 T,PySem.W.mg_of X G a1,F1.kp,b1⟩
 have cp__law_next:Cal l.prog w K mg base 2 "_law_next" 2 true (PenK K) ZbL:=⟨f2,_,_,Zkn F2 T c__law_fill ZmQ,PySem.W.mg_of X G a2,F2.kp,b2⟩
 have c__law_next:Cal l.prog w K mg base 2 "_law_next" 2 true (PenT (PenK K) ([(tP16,(Str.ofString "numbered_anew.<locals>.<lambda>")),(tP28,(Str.ofString "turned.<locals>.<lambda>")),(tP33,(Str.ofString "heavy_first.<locals>.<lambda>"))]:List (Addr×Str))) ZbL:=ZpR cp__law_next Zpn
 have c__law_fewer_ties:Cal l.prog w K mg base 3 "_law_fewer_ties" 2 false (PenT (PenK K) ([(tP16,(Str.ofString "numbered_anew.<locals>.<lambda>")),(tP28,(Str.ofString "turned.<locals>.<lambda>")),(tP33,(Str.ofString "heavy_first.<locals>.<lambda>"))]:List (Addr×Str))) ZbA:=⟨f3,_,_,Zf2 F3 T lo c__law_next,PySem.W.mg_of X G a3,F3.kp,b3⟩
 have c__law_web:Cal l.prog w K mg base 3 "_law_web" 2 true (PenT (PenK K) ([(tP16,(Str.ofString "numbered_anew.<locals>.<lambda>")),(tP28,(Str.ofString "turned.<locals>.<lambda>")),(tP33,(Str.ofString "heavy_first.<locals>.<lambda>"))]:List (Addr×Str))) Zc2:=⟨f4,_,_,Zln F4 T lo c__law_next,PySem.W.mg_of X G a4,F4.kp,b4⟩
 have c_is_whole:Cal l.prog w K mg base 1 "is_whole" 1 false AnyG Zc1:=⟨f5,_,_,Zlh F5 T,PySem.W.mg_of X G a5,F5.kp,b5⟩
 have c_is_place:Cal l.prog w K mg base 2 "is_place" 2 false AnyG ZbW:=⟨f6,_,_,Zli F6 T c_is_whole,PySem.W.mg_of X G a6,F6.kp,b6⟩
 have c_is_tuple_of:Cal l.prog w K mg base 1 "is_tuple_of" 2 false AnyG Zba:=⟨f7,_,_,Zit F7 T,PySem.W.mg_of X G a7,F7.kp,b7⟩
 have c_is_hueing:Cal l.prog w K mg base 3 "is_hueing" 2 false AnyG Zdd:=⟨f8,_,_,Zkm F8 T c_is_place c_is_tuple_of,PySem.W.mg_of X G a8,F8.kp,b8⟩
 have c_are_tied:=ca_are_tied base
 have c_near:Cal l.prog w K mg base 2 "near" 2 true AnyG Zcn:=⟨f10,_,_,ZqV F10 T c_are_tied,PySem.W.mg_of X G a10,F10.kp,b10⟩
 have c_places_without:Cal l.prog w K mg base 1 "places_without" 2 true AnyG Zbu:=⟨f11,_,_,ZgG F11 T,PySem.W.mg_of X G a11,F11.kp,b11⟩
 have c_weighed_by_hues:Cal l.prog w K mg base 1 "weighed_by_hues" 2 false AnyG Zbj:=⟨f12,_,_,Zf0 F12 T,PySem.W.mg_of X G a12,F12.kp,b12⟩
 have c_marked_ties:Cal l.prog w K mg base 1 "marked_ties" 1 true AnyG Zbg:=⟨f13,_,_,Zis F13 T,PySem.W.mg_of X G a13,F13.kp,b13⟩
 have c_pairs_of:=ca_pairs_of base
 have c_web_where:=cA_web_where
 have c_numbered_anew:Cal l.prog w K mg base 6 "numbered_anew" 2 false (Zaz ([(tP16,(Str.ofString "numbered_anew.<locals>.<lambda>")),(tP28,(Str.ofString "turned.<locals>.<lambda>")),(tP33,(Str.ofString "heavy_first.<locals>.<lambda>"))]:List (Addr×Str))) Zcf:=⟨f16,_,_,Zhc F16 T lo c_marked_ties c_web_where ca_are_tied (tc:=tc16) (tP:=tP16) e16 hC16 hBm (by simp),PySem.W.mg_of X G a16,F16.kp,b16⟩
 have c_part:Cal l.prog w K mg base 7 "part" 2 false (Zaz ([(tP16,(Str.ofString "numbered_anew.<locals>.<lambda>")),(tP28,(Str.ofString "turned.<locals>.<lambda>")),(tP33,(Str.ofString "heavy_first.<locals>.<lambda>"))]:List (Addr×Str))) Zdc:=⟨f17,_,_,ZqT F17 T lo c_numbered_anew,PySem.W.mg_of X G a17,F17.kp,b17⟩
 have c_weights_along:Cal l.prog w K mg base 1 "weights_along" 2 true AnyG Zby:=⟨f18,_,_,Zha F18 T,PySem.W.mg_of X G a18,F18.kp,b18⟩
 have rr:∀j:Nat,Cal l.prog w K mg base (7+2*j) "is_bound" 5 false (Zaz ([(tP16,(Str.ofString "numbered_anew.<locals>.<lambda>")),(tP28,(Str.ofString "turned.<locals>.<lambda>")),(tP33,(Str.ofString "heavy_first.<locals>.<lambda>"))]:List (Addr×Str))) (Zbi j):=by
  intro j
  induction j with
  | zero=>exact Cal.none (PySem.W.mg_of X G a20) F20.kp b20
  | succ j ih=>
   have c_is_bound_of_part:Cal l.prog w K mg base (7+2*j+1) "is_bound_of_part" 6 false (Zaz ([(tP16,(Str.ofString "numbered_anew.<locals>.<lambda>")),(tP28,(Str.ofString "turned.<locals>.<lambda>")),(tP33,(Str.ofString "heavy_first.<locals>.<lambda>"))]:List (Addr×Str))) (Zbf (Zbi j)):=⟨f19,_,_,ZfN F19 T lo (by omega) ih c_part c_weights_along,PySem.W.mg_of X G a19,F19.kp,b19⟩
   have z:Cal l.prog w K mg base (7+2*j+2) "is_bound" 5 false (Zaz ([(tP16,(Str.ofString "numbered_anew.<locals>.<lambda>")),(tP28,(Str.ofString "turned.<locals>.<lambda>")),(tP33,(Str.ofString "heavy_first.<locals>.<lambda>"))]:List (Addr×Str))) (Zbi (j+1)):=⟨f20,_,_,Zlk F20 T lo (by omega) c_is_bound_of_part c_is_hueing c_is_place c_is_tuple_of c_near c_places_without c_weighed_by_hues,PySem.W.mg_of X G a20,F20.kp,b20⟩
   exact z.mono (h:=by omega)
 have c_is_bound:Cal l.prog w K mg base 59 "is_bound" 5 false (Zaz ([(tP16,(Str.ofString "numbered_anew.<locals>.<lambda>")),(tP28,(Str.ofString "turned.<locals>.<lambda>")),(tP33,(Str.ofString "heavy_first.<locals>.<lambda>"))]:List (Addr×Str))) (Zbi 26):=(rr 26).mono
 have c_ones:Cal l.prog w K mg base 1 "ones" 1 false AnyG ZeE:=⟨f21,_,_,ZqU F21 T,PySem.W.mg_of X G a21,F21.kp,b21⟩
 have c_is_paper:Cal l.prog w K mg base 60 "is_paper" 3 false (Zaz ([(tP16,(Str.ofString "numbered_anew.<locals>.<lambda>")),(tP28,(Str.ofString "turned.<locals>.<lambda>")),(tP33,(Str.ofString "heavy_first.<locals>.<lambda>"))]:List (Addr×Str))) Zcu:=⟨f22,_,_,Zlj F22 T lo c_is_bound c_ones,PySem.W.mg_of X G a22,F22.kp,b22⟩
 have c_all_near:Cal l.prog w K mg base 3 "all_near" 1 true AnyG ZbX:=⟨f23,_,_,Zlm F23 T c_marked_ties c_near,PySem.W.mg_of X G a23,F23.kp,b23⟩
 have c_apart_among:Cal l.prog w K mg base 1 "apart_among" 3 true AnyG Zdn:=⟨f24,_,_,Ziv F24 T,PySem.W.mg_of X G a24,F24.kp,b24⟩
 have c_weighed:Cal l.prog w K mg base 1 "weighed" 2 false AnyG Zdu:=⟨f25,_,_,ZmH F25 T,PySem.W.mg_of X G a25,F25.kp,b25⟩
 have rr:∀j:Nat,Cal l.prog w K mg base (1+2*j) "heaviest_among" 3 false AnyG (Za9 j):=by
  intro j
  induction j with
  | zero=>exact Cal.none (PySem.W.mg_of X G a27) F27.kp b27
  | succ j ih=>
   have c_heaviest_with:Cal l.prog w K mg base (1+2*j+1) "heaviest_with" 4 false AnyG (Zcg (Za9 j)):=⟨f26,_,_,Zhd F26 T (by omega) ih,PySem.W.mg_of X G a26,F26.kp,b26⟩
   have z:Cal l.prog w K mg base (1+2*j+2) "heaviest_among" 3 false AnyG (Za9 (j+1)):=⟨f27,_,_,ZgH F27 T (by omega) c_apart_among ih c_heaviest_with c_weighed,PySem.W.mg_of X G a27,F27.kp,b27⟩
   exact z.mono (h:=by omega)
 have c_heaviest_among:Cal l.prog w K mg base 53 "heaviest_among" 3 false AnyG (Za9 26):=(rr 26).mono
 have c_turned:Cal l.prog w K mg base 6 "turned" 1 false (Zaz ([(tP16,(Str.ofString "numbered_anew.<locals>.<lambda>")),(tP28,(Str.ofString "turned.<locals>.<lambda>")),(tP33,(Str.ofString "heavy_first.<locals>.<lambda>"))]:List (Addr×Str))) Zdr:=⟨f28,_,_,ZnP F28 T lo c_marked_ties c_web_where ca_are_tied (tc:=tc28) (tP:=tP28) e28 hC28 hBm (by simp),PySem.W.mg_of X G a28,F28.kp,b28⟩
 have c_heaviest_knot:Cal l.prog w K mg base 54 "heaviest_knot" 2 true (Zaz ([(tP16,(Str.ofString "numbered_anew.<locals>.<lambda>")),(tP28,(Str.ofString "turned.<locals>.<lambda>")),(tP33,(Str.ofString "heavy_first.<locals>.<lambda>"))]:List (Addr×Str))) ZbT:=⟨f29,_,_,Zhe F29 T lo c_all_near c_heaviest_among c_turned,PySem.W.mg_of X G a29,F29.kp,b29⟩
 have c_most:Cal l.prog w K mg base 55 "most" 1 true (Zaz ([(tP16,(Str.ofString "numbered_anew.<locals>.<lambda>")),(tP28,(Str.ofString "turned.<locals>.<lambda>")),(tP33,(Str.ofString "heavy_first.<locals>.<lambda>"))]:List (Addr×Str))) ZdK:=⟨f30,_,_,ZqW F30 T lo c_heaviest_knot,PySem.W.mg_of X G a30,F30.kp,b30⟩
 have c_least_free:Cal l.prog w K mg base 1 "least_free" 1 true AnyG Zb6:=⟨f31,_,_,Zjv F31 T,PySem.W.mg_of X G a31,F31.kp,b31⟩
 have c_hued_along:Cal l.prog w K mg base 4 "hued_along" 2 true AnyG ZcT:=⟨f32,_,_,Zjw F32 T c_all_near c_least_free,PySem.W.mg_of X G a32,F32.kp,b32⟩
 have c_heavy_first:Cal l.prog w K mg base 7 "heavy_first" 2 false (Zaz ([(tP16,(Str.ofString "numbered_anew.<locals>.<lambda>")),(tP28,(Str.ofString "turned.<locals>.<lambda>")),(tP33,(Str.ofString "heavy_first.<locals>.<lambda>"))]:List (Addr×Str))) Zcy:=⟨f33,_,_,Ziu F33 T lo c_all_near c_hued_along (tc:=tc33) (tP:=tP33) e33 hC33 hBm (by simp),PySem.W.mg_of X G a33,F33.kp,b33⟩
 have rr:∀j:Nat,Cal l.prog w K mg base (7+2*j) "bound" 4 true (Zaz ([(tP16,(Str.ofString "numbered_anew.<locals>.<lambda>")),(tP28,(Str.ofString "turned.<locals>.<lambda>")),(tP33,(Str.ofString "heavy_first.<locals>.<lambda>"))]:List (Addr×Str))) (Zco j):=by
  intro j
  induction j with
  | zero=>exact Cal.none (PySem.W.mg_of X G a35) F35.kp b35
  | succ j ih=>
   have c_bound_of_part:Cal l.prog w K mg base (7+2*j+1) "bound_of_part" 5 true (Zaz ([(tP16,(Str.ofString "numbered_anew.<locals>.<lambda>")),(tP28,(Str.ofString "turned.<locals>.<lambda>")),(tP33,(Str.ofString "heavy_first.<locals>.<lambda>"))]:List (Addr×Str))) (Zbz (Zco j)):=⟨f34,_,_,Zhf F34 T lo (by omega) ih c_part c_weights_along,PySem.W.mg_of X G a34,F34.kp,b34⟩
   have z:Cal l.prog w K mg base (7+2*j+2) "bound" 4 true (Zaz ([(tP16,(Str.ofString "numbered_anew.<locals>.<lambda>")),(tP28,(Str.ofString "turned.<locals>.<lambda>")),(tP33,(Str.ofString "heavy_first.<locals>.<lambda>"))]:List (Addr×Str))) (Zco (j+1)):=⟨f35,_,_,Zpl F35 T lo (by omega) c_bound_of_part c_heavy_first c_near c_places_without c_weighed_by_hues,PySem.W.mg_of X G a35,F35.kp,b35⟩
   exact z.mono (h:=by omega)
 have c_bound:Cal l.prog w K mg base 59 "bound" 4 true (Zaz ([(tP16,(Str.ofString "numbered_anew.<locals>.<lambda>")),(tP28,(Str.ofString "turned.<locals>.<lambda>")),(tP33,(Str.ofString "heavy_first.<locals>.<lambda>"))]:List (Addr×Str))) (Zco 26):=(rr 26).mono
 have c_paper_against:Cal l.prog w K mg base 60 "paper_against" 2 true (Zaz ([(tP16,(Str.ofString "numbered_anew.<locals>.<lambda>")),(tP28,(Str.ofString "turned.<locals>.<lambda>")),(tP33,(Str.ofString "heavy_first.<locals>.<lambda>"))]:List (Addr×Str))) Zce:=⟨f36,_,_,Zhb F36 T lo c_bound c_ones,PySem.W.mg_of X G a36,F36.kp,b36⟩
 have c_settled:Cal l.prog w K mg base 61 "settled" 2 true (Zaz ([(tP16,(Str.ofString "numbered_anew.<locals>.<lambda>")),(tP28,(Str.ofString "turned.<locals>.<lambda>")),(tP33,(Str.ofString "heavy_first.<locals>.<lambda>"))]:List (Addr×Str))) ZbR:=⟨f37,_,_,ZmI F37 T lo c_most c_paper_against,PySem.W.mg_of X G a37,F37.kp,b37⟩
 exact Zsa lo F38 T c__law_fewer_ties c__law_next c__law_web c_is_paper c_most c_part c_settled
def tb:List (Str×Addr×Addr):=[("numbered_anew",84,80),("turned",70,66),("heavy_first",216,212)]
theorem Zrx:∀P q,(P,q)∈([(80,(Str.ofString "numbered_anew.<locals>.<lambda>")),(66,(Str.ofString "turned.<locals>.<lambda>")),(212,(Str.ofString "heavy_first.<locals>.<lambda>"))]:List (Addr×Str))->∃x c,(x,c,P)∈tb:=by
 intro P q h
 simp only [List.mem_cons,Prod.mk.injEq,List.not_mem_nil,or_false] at h
 rcases h with ⟨rfl,_⟩ | ⟨rfl,_⟩ | ⟨rfl,_⟩
 ·exact ⟨"numbered_anew",84,by simp [tb]⟩
 ·exact ⟨"turned",70,by simp [tb]⟩
 ·exact ⟨"heavy_first",216,by simp [tb]⟩
theorem walk {l:PySem.W.OpenLaw} {q:Program} {loose:List Str} {XP:(Str->Option Value)->Heap->Prop} {YP:World->Heap->Prop} {d:DefRec} {K:Params->PySem.W.Frag} (hn:l.most=some 63) (hdf:d.params.defaults=[])
  (hY:∀(w:World) (h:Heap),YP w h->(K w.params).In h)
  (hrec:∀e∈tb,∃d,(recsOf q).find? (fun r=>r.name==e.1)=some d) (htab:∀w:World,∀e∈tb,PySem.W.tabIn (K w.params) e.1=some e.2) (hno:∀w:World,PySem.W.noTabs (K w.params)=true)
  (F:∀(w:World) (mg:Str->Option Value) (fa:Addr) (h:Heap),(K w.params).In h->h.Ns mainGlobals mg->mg d.name=some (.ref fa)->
   ∃fd:FuncData,(∀(s:Shared) (u:Value),BindsTo s fd ⟨[u],[]⟩ [("script",u)])/\∀base:Heap,(K w.params).In base->base.Ns mainGlobals mg->PySem.W.CodeHd base 84 80->PySem.W.CodeHd base 70 66->PySem.W.CodeHd base 216 212->BMn mg base->FnOk l.prog w (K w.params) mg base CX0 62 fa fd ["script"] (Zhw (K w.params) ([(80,(Str.ofString "numbered_anew.<locals>.<lambda>")),(66,(Str.ofString "turned.<locals>.<lambda>")),(212,(Str.ofString "heavy_first.<locals>.<lambda>"))]:List (Addr×Str)))) :
  PySem.W.WalkO q loose XP YP l.row.toRowW d [] (fun f vs=>PySem.call f vs):=
 ZoQ (tb:=tb) (n:=63) (k:=62) (x:="script") (CX:=fun _=>CX0) (sp:=fun w=>Zhw (K w.params) ([(80,(Str.ofString "numbered_anew.<locals>.<lambda>")),(66,(Str.ofString "turned.<locals>.<lambda>")),(212,(Str.ofString "heavy_first.<locals>.<lambda>"))]:List (Addr×Str))) hn (by decide) hdf ⟨rfl,by decide,by decide,rfl⟩ hY hrec htab hno
  (fun w mg fa h h1 h2 h3=>let ⟨fd,hb,hF⟩:=F w mg fa h h1 h2 h3;⟨fd,hb,fun base g1 g2 g3 g4=>hF base g1 g2 (g3 ("numbered_anew",84,80) (by simp [tb])) (g3 ("turned",70,66) (by simp [tb])) (g3 ("heavy_first",216,212) (by simp [tb])) g4⟩)
  (fun _ _ a ns hl hS hTb=>⟨a,ns,rfl,hS,hl,Zmt (tb:=tb) Zrx hTb,fun _=>rfl⟩) fun _ _ _ _ _ z=>z
def ZsT:List DRow:=[dR "is_whole" 1 189 2 1 15 193 true "tiefold.things" 187,
 dR "is_tuple_of" 2 196 4 2 22 201 true "tiefold.things" 187,
 dR "pairs_of" 3 204 6 1 29 211 true "tiefold.things" 187,
 dR "is_place" 5 216 13 2 36 221 true "tiefold.webs" 214,
 dR "near" 6 224 15 2 43 227 false "tiefold.webs" 214,
 dR "all_near" 7 230 17 1 48 233 false "tiefold.webs" 214,
 dR "are_tied" 8 236 20 3 53 242 true "tiefold.webs" 214,
 dR "marked_ties" 9 245 22 1 60 248 false "tiefold.webs" 214,
 dR "turned" 10 251 24 1 65 256 true "tiefold.webs" 214,
 dR "part" 11 259 27 2 72 264 true "tiefold.webs" 214,
 dR "numbered_anew" 12 267 29 2 79 273 true "tiefold.webs" 214,
 dR "web_where" 13 276 32 2 86 279 false "tiefold.webs" 214,
 dR "most" 15 284 36 1 91 289 true "tiefold.most" 282,
 dR "heaviest_knot" 16 292 39 2 98 295 false "tiefold.most" 282,
 dR "heaviest_among" 17 298 42 3 103 301 false "tiefold.most" 282,
 dR "apart_among" 18 304 54 3 108 307 false "tiefold.most" 282,
 dR "heaviest_with" 19 310 56 4 113 313 false "tiefold.most" 282,
 dR "weighed" 20 316 59 2 118 319 false "tiefold.most" 282,
 dR "is_hueing" 22 324 62 2 123 327 false "tiefold.hues" 322,
 dR "hued_along" 23 330 68 2 128 333 false "tiefold.hues" 322,
 dR "least_free" 24 336 74 1 133 339 false "tiefold.hues" 322,
 dR "is_paper" 26 344 77 3 138 350 true "tiefold.papers" 342,
 dR "settled" 27 353 79 2 145 359 true "tiefold.papers" 342,
 dR "paper_against" 28 362 84 2 152 367 true "tiefold.papers" 342,
 dR "ones" 29 370 86 1 159 374 true "tiefold.papers" 342,
 dR "is_bound" 30 377 88 5 166 386 true "tiefold.papers" 342,
 dR "is_bound_of_part" 31 389 101 6 173 398 true "tiefold.papers" 342,
 dR "weighed_by_hues" 32 401 103 2 180 408 true "tiefold.papers" 342,
 dR "places_without" 33 411 108 2 187 414 false "tiefold.papers" 342,
 dR "weights_along" 34 417 110 2 192 420 false "tiefold.papers" 342,
 dR "bound" 35 423 112 4 197 432 true "tiefold.papers" 342,
 dR "bound_of_part" 36 435 120 5 204 443 true "tiefold.papers" 342,
 dR "heavy_first" 37 446 122 2 211 453 true "tiefold.papers" 342,
 dR "_law_fill" 39 458 126 2 218 464 true "law_tiefold_k35_whole_either_a_knot_or_a_pap" 456,
 dR "_law_next" 40 467 132 2 225 475 true "law_tiefold_k35_whole_either_a_knot_or_a_pap" 456,
 dR "_law_web" 41 478 145 2 232 481 false "law_tiefold_k35_whole_either_a_knot_or_a_pap" 456,
 dR "_law_tied" 42 484 160 3 237 490 true "law_tiefold_k35_whole_either_a_knot_or_a_pap" 456,
 dR "_law_knots" 44 503 168 1 251 506 false "law_tiefold_k35_whole_either_a_knot_or_a_pap" 456,
 dR "_law_most" 45 509 180 1 256 512 false "law_tiefold_k35_whole_either_a_knot_or_a_pap" 456,
 dR "_law_fewer_ties" 46 515 182 2 261 521 true "law_tiefold_k35_whole_either_a_knot_or_a_pap" 456,
 dR "law" 47 524 187 1 268 527 false "law_tiefold_k35_whole_either_a_knot_or_a_pap" 456]
def KF (P:Params):PySem.W.Frag:=Zta top 181 ([dE P "__name__" 165 (.str "law_tiefold_k35_whole_either_a_knot_or_a_pap" 456)] ++ [dE P "__doc__" 166 (.none)] ++ [dE P "__package__" 167 (.none)] ++ [dE P "__loader__" 168 (.builtin "__main__.__loader__#opaque")] ++ [dE P "__spec__" 169 (.none)]++dRs P [nE "__annotations__" 170 6,nE "__builtins__" 171 4] ++ [dE P "__file__" 173 (.str "/claim/cut.py" 172)] ++ [dE P "__cached__" 174 (.none)]++dRs P [nE "is_whole" 195 21,nE "is_tuple_of" 203 28,nE "pairs_of" 213 35,nE "is_place" 223 42,nE "near" 229 47,nE "all_near" 235 52,nE "are_tied" 244 59,nE "marked_ties" 250 64,nE "turned" 258 71,nE "part" 266 78,nE "numbered_anew" 275 85,nE "web_where" 281 90,nE "most" 291 97,nE "heaviest_knot" 297 102,nE "heaviest_among" 303 107,nE "apart_among" 309 112,nE "heaviest_with" 315 117,nE "weighed" 321 122,nE "is_hueing" 329 127,nE "hued_along" 335 132,nE "least_free" 341 137,nE "is_paper" 352 144,nE "settled" 361 151,nE "paper_against" 369 158,nE "ones" 376 165,nE "is_bound" 388 172,nE "is_bound_of_part" 400 179,nE "weighed_by_hues" 410 186,nE "places_without" 416 191,nE "weights_along" 422 196,nE "bound" 434 203,nE "bound_of_part" 445 210,nE "heavy_first" 455 217,nE "_law_fill" 466 224,nE "_law_next" 477 231,nE "_law_web" 483 236,nE "_law_tied" 492 243,nE "_law_is_knot" 502 250,nE "_law_knots" 508 255,nE "_law_most" 514 260,nE "_law_fewer_ties" 523 267,nE "law" 529 272]) 51 ZsT
def asF:List Addr:=[3,20,21,27,28,34,35,41,42,46,47,51,52,58,59,63,64,70,71,77,78,84,85,89,90,96,97,101,102,106,107,111,112,116,117,121,122,126,127,131,132,136,137,143,144,150,151,157,158,164,165,171,172,178,179,185,186,190,191,195,196,202,203,209,210,216,217,223,224,230,231,235,236,242,243,254,255,259,260,266,267,271,272]
theorem eF:∀P,asF=(KF P).map (·.1):=fun _=>by kernel_rfl
def qF:Program:=PySem.W.view PySem.Challenge.pw_tiefold_k35_whole_either_a_knot_or_a_pap [1,2,3,5,6,7,8,9,10,11,12,13,15,16,17,18,19,20,22,23,24,26,27,28,29,30,31,32,33,34,35,36,37,39,40,41,42,43,44,45,46,47]
theorem left:PySem.W.LeftO PySem.Challenge.rw_tiefold_k35_whole_either_a_knot_or_a_pap.prog qF [] (fun s=>PySem.W.xlAt qF [] s&&PySem.W.recOk PySem.Challenge.rw_tiefold_k35_whole_either_a_knot_or_a_pap.row.records s) (PySem.W.kHook KF asF eF).obs (PySem.W.kHook KF asF eF).val 2672:=fun w=>by kernel_rfl
theorem said:PySem.Challenge.rw_tiefold_k35_whole_either_a_knot_or_a_pap.wellSaid=true:=by kernel_rfl
end K35
open PySem PySem.W PyProof.Rows
set_option maxRecDepth 100000 in
set_option maxHeartbeats 0 in
theorem PySem.Challenge.cw_tiefold_k35_whole_either_a_knot_or_a_pap_holds : PySem.Challenge.rw_tiefold_k35_whole_either_a_knot_or_a_pap.Holds := by
 refine TF.head_of (q:=K35.qF) (K:=K35.KF) (st:=K35.s_law) K35.said K35.left (by kernel_rfl) (by kernel_rfl) (by kernel_rfl) (by decide +kernel) ⟨rfl,rfl,rfl,rfl,rfl,by decide +kernel⟩ ?hw rfl (K35.walk (l:=PySem.Challenge.rw_tiefold_k35_whole_either_a_knot_or_a_pap) rfl rfl (fun w h Y=>kIn_of Y) ?R ?B ?O ?F)
 case hw=>w_witness2
 case R=>exact List.forall_mem_cons.mpr ⟨Option.isSome_iff_exists.mp (by kernel_rfl),List.forall_mem_cons.mpr ⟨Option.isSome_iff_exists.mp (by kernel_rfl),List.forall_mem_cons.mpr ⟨Option.isSome_iff_exists.mp (by kernel_rfl),(fun _ h=>nomatch h)⟩⟩⟩
 case B=>intro w;exact List.forall_mem_cons.mpr ⟨by kernel_rfl,List.forall_mem_cons.mpr ⟨by kernel_rfl,List.forall_mem_cons.mpr ⟨by kernel_rfl,(fun _ h=>nomatch h)⟩⟩⟩
 case O=>intro w;kernel_rfl
 case F=>
  intro w mg fa h KX G hmg
  exact K35.all_mk 80 66 212 (TF.lok_nd (by decide)) KX G hmg
   (TF.is_mkx (f:=224) (c:=223) (pm:=.str "law_tiefold_k35_whole_either_a_knot_or_a_pap" 456) (by kernel_rfl) (by kernel_rfl) (by kernel_rfl))
   (TF.is_mkx (f:=231) (c:=230) (pm:=.str "law_tiefold_k35_whole_either_a_knot_or_a_pap" 456) (by kernel_rfl) (by kernel_rfl) (by kernel_rfl))
   (TF.is_mkx (f:=267) (c:=266) (pm:=.str "law_tiefold_k35_whole_either_a_knot_or_a_pap" 456) (by kernel_rfl) (by kernel_rfl) (by kernel_rfl))
   (TF.is_mkx (f:=236) (c:=235) (pm:=.str "law_tiefold_k35_whole_either_a_knot_or_a_pap" 456) (by kernel_rfl) (by kernel_rfl) (by kernel_rfl))
   (TF.is_mkx (f:=21) (c:=20) (pm:=.str "tiefold.things" 187) (by kernel_rfl) (by kernel_rfl) (by kernel_rfl))
   (TF.is_mkx (f:=42) (c:=41) (pm:=.str "tiefold.webs" 214) (by kernel_rfl) (by kernel_rfl) (by kernel_rfl))
   (TF.is_mkx (f:=28) (c:=27) (pm:=.str "tiefold.things" 187) (by kernel_rfl) (by kernel_rfl) (by kernel_rfl))
   (TF.is_mkx (f:=127) (c:=126) (pm:=.str "tiefold.hues" 322) (by kernel_rfl) (by kernel_rfl) (by kernel_rfl))
   (TF.is_mkx (f:=59) (c:=58) (pm:=.str "tiefold.webs" 214) (by kernel_rfl) (by kernel_rfl) (by kernel_rfl))
   (TF.is_mkx (f:=47) (c:=46) (pm:=.str "tiefold.webs" 214) (by kernel_rfl) (by kernel_rfl) (by kernel_rfl))
   (TF.is_mkx (f:=191) (c:=190) (pm:=.str "tiefold.papers" 342) (by kernel_rfl) (by kernel_rfl) (by kernel_rfl))
   (TF.is_mkx (f:=186) (c:=185) (pm:=.str "tiefold.papers" 342) (by kernel_rfl) (by kernel_rfl) (by kernel_rfl))
   (TF.is_mkx (f:=64) (c:=63) (pm:=.str "tiefold.webs" 214) (by kernel_rfl) (by kernel_rfl) (by kernel_rfl))
   (TF.is_mkx (f:=35) (c:=34) (pm:=.str "tiefold.things" 187) (by kernel_rfl) (by kernel_rfl) (by kernel_rfl))
   (TF.is_mkx (f:=90) (c:=89) (pm:=.str "tiefold.webs" 214) (by kernel_rfl) (by kernel_rfl) (by kernel_rfl))
   (TF.is_mk (f:=85) (c:=84) (pm:=.str "tiefold.webs" 214) (by kernel_rfl) (by kernel_rfl) (by kernel_rfl))
   (TF.is_mkx (f:=78) (c:=77) (pm:=.str "tiefold.webs" 214) (by kernel_rfl) (by kernel_rfl) (by kernel_rfl))
   (TF.is_mkx (f:=196) (c:=195) (pm:=.str "tiefold.papers" 342) (by kernel_rfl) (by kernel_rfl) (by kernel_rfl))
   (TF.is_mkx (f:=179) (c:=178) (pm:=.str "tiefold.papers" 342) (by kernel_rfl) (by kernel_rfl) (by kernel_rfl))
   (TF.is_mkx (f:=172) (c:=171) (pm:=.str "tiefold.papers" 342) (by kernel_rfl) (by kernel_rfl) (by kernel_rfl))
   (TF.is_mkx (f:=165) (c:=164) (pm:=.str "tiefold.papers" 342) (by kernel_rfl) (by kernel_rfl) (by kernel_rfl))
   (TF.is_mkx (f:=144) (c:=143) (pm:=.str "tiefold.papers" 342) (by kernel_rfl) (by kernel_rfl) (by kernel_rfl))
   (TF.is_mkx (f:=52) (c:=51) (pm:=.str "tiefold.webs" 214) (by kernel_rfl) (by kernel_rfl) (by kernel_rfl))
   (TF.is_mkx (f:=112) (c:=111) (pm:=.str "tiefold.most" 282) (by kernel_rfl) (by kernel_rfl) (by kernel_rfl))
   (TF.is_mkx (f:=122) (c:=121) (pm:=.str "tiefold.most" 282) (by kernel_rfl) (by kernel_rfl) (by kernel_rfl))
   (TF.is_mkx (f:=117) (c:=116) (pm:=.str "tiefold.most" 282) (by kernel_rfl) (by kernel_rfl) (by kernel_rfl))
   (TF.is_mkx (f:=107) (c:=106) (pm:=.str "tiefold.most" 282) (by kernel_rfl) (by kernel_rfl) (by kernel_rfl))
   (TF.is_mk (f:=71) (c:=70) (pm:=.str "tiefold.webs" 214) (by kernel_rfl) (by kernel_rfl) (by kernel_rfl))
   (TF.is_mkx (f:=102) (c:=101) (pm:=.str "tiefold.most" 282) (by kernel_rfl) (by kernel_rfl) (by kernel_rfl))
   (TF.is_mkx (f:=97) (c:=96) (pm:=.str "tiefold.most" 282) (by kernel_rfl) (by kernel_rfl) (by kernel_rfl))
   (TF.is_mkx (f:=137) (c:=136) (pm:=.str "tiefold.hues" 322) (by kernel_rfl) (by kernel_rfl) (by kernel_rfl))
   (TF.is_mkx (f:=132) (c:=131) (pm:=.str "tiefold.hues" 322) (by kernel_rfl) (by kernel_rfl) (by kernel_rfl))
   (TF.is_mk (f:=217) (c:=216) (pm:=.str "tiefold.papers" 342) (by kernel_rfl) (by kernel_rfl) (by kernel_rfl))
   (TF.is_mkx (f:=210) (c:=209) (pm:=.str "tiefold.papers" 342) (by kernel_rfl) (by kernel_rfl) (by kernel_rfl))
   (TF.is_mkx (f:=203) (c:=202) (pm:=.str "tiefold.papers" 342) (by kernel_rfl) (by kernel_rfl) (by kernel_rfl))
   (TF.is_mkx (f:=158) (c:=157) (pm:=.str "tiefold.papers" 342) (by kernel_rfl) (by kernel_rfl) (by kernel_rfl))
   (TF.is_mkx (f:=151) (c:=150) (pm:=.str "tiefold.papers" 342) (by kernel_rfl) (by kernel_rfl) (by kernel_rfl))
   (TF.is_mkx (f:=272) (c:=271) (pm:=.str "law_tiefold_k35_whole_either_a_knot_or_a_pap" 456) (by kernel_rfl) (by kernel_rfl) (by kernel_rfl))
   (by kernel_rfl)
   (by kernel_rfl)
   (by kernel_rfl)
   (by kernel_rfl)
   (by kernel_rfl)
   (by kernel_rfl)
   (by kernel_rfl)
   (by kernel_rfl)
   (by kernel_rfl)
   (by kernel_rfl)
   (by kernel_rfl)
   (by kernel_rfl)
   (by kernel_rfl)
