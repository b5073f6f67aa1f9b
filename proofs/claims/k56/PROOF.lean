import PyProof.Rows.All
import Wide.All
import OpenK.AllK
import Wide.FinOn
import Lean
import PyProof.EqAt
import PyProof.EqKinds
import PyProof.TupleCall
import KE.KLam
import PyProof.ZipIter
import PyProof.WalksEnum
import PyProof.WalkInts
import PyProof.SeqI3
import PyProof.Rows.SeqMore
import PyProof.Rows.SortWalk
import PyProof.Draws
import PyProof.EnumMake
import PyProof.DictIter
import KE.KSortTup
import PyProof.Rows.SeqMore2
import PyProof.Rows.RuleIs
import PyProof.Rows.SetFrom
import PyProof.WalksMore
import PyProof.MinMaxWalk
import OpenK.KMore
import PyProof.Rows.SortRuns
import PyProof.Rows.SortRunsK
import KE.KMinKey
import KE.KDictSum
import PySem.Challenge.RW_tiefold_k56_whole_pieces_as_orders
-- CHANGE: your row's module here,as the last of these rows
open PySem.Heap renaming get?_push_of_some->qd,get?_push_size->qy,lt_size->qz,get?_update_ne->zH,SameBut->yR,size_push->y4,get?_update_other->qbf,get?_update_self->qbk
open PySem.W renaming Frag->qf,kla_fn->za,CodeHd->zB,envX->zO,keepIn->zR,fnOf->zW,kHook->yB,codeIn->yZ,tabObj->y6,methodObj->qaM,nsIn->qa4,cellsFrom_some->qbd,hideAll_size->qbr,hideAll_none->qbs,WalkO->qbz,hideAll_get->qbA
open List renaming length_map->qj,mem_append_right->qk,range->qm,size_toArray->qq,mem_cons->qt,replicate->qu,getElem?_map->qA,getElem?_eq_some_iff->qB,mem_filter->qC,map_map->qD,getElem?_eq_getElem->qE,toArray->qG,getD_eq_getElem?_getD->qH,length_append->qJ,mem_map->qK,getElem?_set_ne->qO,mem_cons_of_mem->qQ,mem_range->qS,length_cons->qT,mem_append_left->qU,mem_append->qV,length_range->qW,lookup_cons->qX,getElem?_set_self->zb,not_mem_nil->ze,mem_singleton->zf,map_cons->zi,append_nil->zm,length_filter_le->zq,pairwise_iff_getElem->zt,map_congr_left->zu,filter_sublist->zv,length_singleton->zy,mem_of_getElem?->zF,replicate_succ->zG,nodup_cons->zI,getElem?_append_left->zJ,length_nil->zK,mem_cons_self->zM,pairwise_cons->zP,Pairwise->zQ,length_take->zU,all_eq_true->zV,map_append->zY,forall_mem_cons->z0,getElem?_replicate->z7,length_eq_zero_iff->z8,getElem?_range->z9,filter_eq_self->ya,find?_cons->ye,filter_map->yf,getElem?_append_right->yh,flatten_cons->yj,mem_iff_getElem->yn,filterMap_cons->yt,mem_map_of_mem->yu,getElem_map->yI,pairwise_append->yJ,any_cons->yK,drop_eq_getElem_cons->yN,forIn_cons->yP,getElem?_zip_eq_some->yQ,mem_filterMap->yS,idxOf_lt_length_iff->yY,filter_cons_of_neg->qad,pairwise_map->qah,range_succ_eq_map->qaj,take_of_length_le->qal,length_drop->qam,getElem_mem->qap,take_length->qaq,nodup_range->qar,of_mem_zip->qas,foldl->qat,eq_nil_iff_forall_not_mem->qay,length_zipWith->qaz,toList_toArray->qaA,getD->qaF,take_sublist->qaN,append_assoc->qaO,getElem?_take_of_lt->qaX,map_nil->qaY,cons_append->qaZ,mem_flatMap->qa1,filter_cons_of_pos->qa7,pairwise_mergeSort->qa8,nil_append->qba,range_succ->qbb,length->qbe,map_id->qbi,drop_of_length_le->qbj,nodup_nil->qbl,getElem?_zipWith->qbm,forIn_nil->qbn,take_zero->qbp,getElem?_eq_none->qbq,drop_eq_nil_iff->qbw,mem_of_mem_take->qby,flatMap_append->qbC,mergeSort_perm->qbE,getElem_of_mem->qbG,findSome?_cons->qbH,lookup->qbP
open Nat renaming le_refl->qp,lt_of_lt_of_le->qN,ne_of_lt->qP,le_trans->qZ,zero_le->zj,lt_irrefl->z6,mul_le_mul->y8,le_succ_of_le->qag,zero_add->qav,lt_succ_of_lt->qaR,lt_trichotomy->qaS,ne_of_gt->qaW,le_succ->qbg,le_of_lt->qbJ,succ_mul->qbK,mul_comm->qbL,lt_trans->qbM,le_of_eq->qbN
open PySem.Str renaming ofString->qw,ofString->qaH
open PySem.Value renaming ref->qI,none->qL,bool->zE,type->yC,notImplemented->qbu,int->qbI
open Or renaming inl->qM,inr->yk
open PySem.Obj renaming mapSeq->qR
open Option.some renaming inj->qY,injEq->qaQ
open Bool renaming and_eq_true->zd,false_ne_true->zD,and_eq_true_iff->zS,false_eq_true->yd,eq_iff_iff->yg,or_eq_true->yO,not_eq_true'->qaT,or_eq_true_iff->qbB
open Array renaming length_toList->zg,getD->qaU,toList_append->qbD
open Sum renaming inl->zh,inr->yb
open PySem.Builtin.SmallTypes renaming nextOf->zk,ownedTupleIsFree->zT,ownedTupleHandOut->yX
open Ne renaming symm->zl
open PySem.PassesOwn renaming never->zo
open PySem renaming mem_of_lookup->zp,call->qbv,Fin->qbO
open PyProof.Rows renaming slot_tuple_getitem->zr,callWith_type1->zC
open False renaming elim->zw
open PySem.NameKind renaming free->zx,cell->yL
open Option renaming map_some->zL,isSome_iff_exists->zN,bind_eq_some_iff->yz,isSome_map->qaP,map_eq_some_iff->qbh
open PySem.F renaming slot_int_rmul->zX,slot_tuple_mul->yc,slot_tuple_iterator_next->yi,plainAttrs_list->yy,args_tuple_add_2->yT,slot_list_getattribute->yU,args_tuple_mul_2->yV,entry_tuple_add->y9,entry_tuple_mul->qac,args_int_rmul_2->qae,slot_tuple_add->qai,slot_int_index->qan,entry_int_rmul->qao,fills_int_mul->qau,slot_zip_next->qax,args_tuple_iterator_next_1->qaC,entry_tuple_iterator_next->qaG,slot_tuple_rmul->qa6,slot_list_index->qa9
open List.Pairwise renaming imp_of_mem->zZ,nil->qaf
open Int renaming toNat_natCast->z5,emod_lt_of_pos->yW,emod_nonneg->qaw,le_refl->qaD
open PySem.Builtin.Slice renaming slicePlaces->ym,sliceAdjust->yM,sliceApplied->qaJ
open Iff renaming rfl->yo
open PySem.AutoSeq1 renaming sub_tuple_tuple->yp,sub_tuple_list->qaa,sub_list_tuple->qab,sub_list_list->qak,idx_int->qa2
open PySem.Builtin.Tuple renaming tupleExact->yq,tupleItemsOf->qaK,tupleTooMany->qaL
open PySem.Builtin.List renaming listTooLong->yr,listExtendWith->yE
open PySem.Builtin.Range renaming rangeSize->yw
open PySem.Paired renaming length->yA
open ForInStep renaming yield->yD
open PySem.SeqAt renaming EqAt->yF,RcNeAt->qa0,RcAt->qbx
open True renaming intro->yG
open PySem.Around renaming under_plainId->yH,frames_deeper->qbt
open PySem.Value.type renaming inj->qaB
open PyProof.Rows.IsTup renaming new->qaE
open PySem.Calls renaming Name_function_global->qaI
open Classical renaming byContradiction->qaV
open Nat.succ renaming inj->qa3
open PySem.Builtin.Dict renaming updateFrom->qa5
open Sum.inl renaming inj->qbc
open PySem.Keeper renaming machine->qbo
open PySem.Heap.SameBut renaming update->qbF
open PySem PySem.Spec PyProof.Rows
set_option genSizeOfSpec false
set_option bootstrap.genMatcherCode false
set_option Elab.async false
set_option linter.all false
set_option maxRecDepth 100000
namespace L2
noncomputable abbrev Zr:=Sum Int Str
noncomputable def U0:Zr->Value->Bool
 | .inl k,v=>Value.isInt k v
 | .inr x,v=>Value.isStrOf x v
noncomputable def keyH (w:World):Zr->Int
 | .inl k=>hashInt k
 | .inr x=>hashStr w x
theorem Vv:∀{k:Zr} {v:Value},U0 k v=true->(∃i t,k=zh i/\v=qbI i t)∨(∃x t,k=yb x/\v=Value.str x t)
 | .inl i,v,h=>by
  obtain⟨t,e⟩:=Value.isInt_shape (k:=i) (v:=v) h;exact .inl ⟨i,t,rfl,e⟩
 | .inr x,v,h=>by
  obtain⟨t,e⟩:=Value.isStrOf_shape (x:=x) (v:=v) h;exact .inr ⟨x,t,rfl,e⟩
theorem ZgH (i:Int)(t:Tok):U0 (.inl i) (.int i t)=true:=by simp[U0,Value.isInt]
theorem ZgI (x:Str)(t:Tok):U0 (.inr x) (.str x t)=true:=by simp[U0,Value.isStrOf]
theorem ZlA (a b:Int):decide ((zh a:Zr)=zh b)=(a==b):=by
 by_cases e:a=b
 ·subst e;simp
 ·have h:¬(zh a:Zr)=zh b:=fun q=>e (qbc q)
  rw[decide_eq_false h];exact(beq_eq_false_iff_ne.mpr e).symm
theorem ZlB (a b:Str):decide ((yb a:Zr)=yb b)=decide (a=b):=by
 by_cases e:a=b
 ·subst e;simp
 ·have h:¬(yb a:Zr)=yb b:=fun q=>e (yb.inj q)
  rw[decide_eq_false h,decide_eq_false e]
theorem ZlC (a:Int)(b:Str):decide ((zh a:Zr)=yb b)=false:=decide_eq_false (fun q=>nomatch q)
theorem ZlD (a:Str)(b:Int):decide ((yb a:Zr)=zh b)=false:=decide_eq_false (fun q=>nomatch q)
noncomputable def XO (prog:Program)(w:World):PySem.KeyKind prog w Zr where
 is:=U0
 hash:=keyH w
 inj:=fun v a b ha hb=>by
  rcases Vv ha with⟨i,t,rfl,rfl⟩ | ⟨x,t,rfl,rfl⟩
  ·rcases Vv hb with⟨j,u,rfl,e⟩ | ⟨y,u,rfl,e⟩
   ·injection e with e1 _;rw[e1]
   ·exact nomatch e
  ·rcases Vv hb with⟨j,u,rfl,e⟩ | ⟨y,u,rfl,e⟩
   ·exact nomatch e
   ·injection e with e1 _;rw[e1]
 byValue:=fun k v h=>by
  rcases Vv h with⟨i,t,rfl,rfl⟩ | ⟨x,t,rfl,rfl⟩ <;> rfl
 pyHash:=fun hv h=>by
  rcases Vv hv with⟨i,t,rfl,rfl⟩ | ⟨x,t,rfl,rfl⟩
  ·exact wpAny_pyHash_int h
  ·exact wpAny_pyHash_str h
 eqBool:=fun hu hv h=>by
  rcases Vv hu with⟨i,t,rfl,rfl⟩ | ⟨x,t,rfl,rfl⟩
  ·rcases Vv hv with⟨j,u,rfl,rfl⟩ | ⟨y,u,rfl,rfl⟩
   ·rw[ZlA] at h;exact wpAny_eqBool_int h
   ·rw[ZlC] at h;exact yF.int_str i t y u _ _ _ _ h
  ·rcases Vv hv with⟨j,u,rfl,rfl⟩ | ⟨y,u,rfl,rfl⟩
   ·rw[ZlD] at h;exact yF.str_int x t j u _ _ _ _ h
   ·rw[ZlB] at h;exact wpAny_eqBool_str h
 «strs»:=fun k x t v h=>by
  rcases Vv h with⟨i,u,rfl,e⟩ | ⟨y,u,rfl,e⟩
  ·exact nomatch e
  ·injection e with e1 _
   subst e1
   cases v <;> rfl
theorem Zd4 (prog:Program)(w:World)(i:Int)(t:Tok):(XO prog w).is (.inl i) (.int i t)=true:=ZgH i t
theorem Zd5 (prog:Program)(w:World)(x:Str)(t:Tok):(XO prog w).is (.inr x) (.str x t)=true:=ZgI x t
end L2
namespace L2
inductive V where
 | non | bl (b:Bool) | int (i:Int) | str (x:Str) | byt (b:Array UInt8) | flt (b:UInt64) | ref (a:Addr) | ty (n:String)
 deriving DecidableEq
noncomputable def ZA:V->Value->Prop
 | .non,u=>u=qL
 | .bl b,u=>u=zE b
 | .int i,u=>∃t,u=qbI i t
 | .str x,u=>∃t,u=Value.str x t
 | .byt b,u=>∃t,u=Value.bytes b t
 | .flt b,u=>∃t,u=Value.float b t
 | .ref a,u=>u=qI a
 | .ty n,u=>u=yC n
noncomputable abbrev Zs:List V->List Value->Prop:=Paired ZA
theorem Zs.length {xs:List V}{us:List Value}(r:Zs xs us):xs.length=us.length:=yA r
theorem Zs.get:∀{xs:List V} {us:List Value} {i:Nat} {x:V},Zs xs us->xs[i]?=some x->∃u,us[i]?=some u/\ZA x u
 | _,_,_,_,.nil,e=>by simp at e
 | _,_,0,_,.cons r _,e=>by simp at e;subst e;exact⟨_,rfl,r⟩
 | _,_,i+1,x,.cons _ t,e=>by
  obtain⟨u,h1,h2⟩:=Zs.get (i:=i) (x:=x) t (by simpa using e);exact⟨u,by simpa using h1,h2⟩
theorem Zs.set {x:V}{u:Value}(r:ZA x u):∀{xs:List V} {us:List Value} (i:Nat),Zs xs us->Zs (xs.set i x) (us.set i u)
 | _,_,_,.nil=>.nil
 | _,_,0,.cons _ t=>.cons r t
 | _,_,i+1,.cons q t=>.cons q (Zs.set r i t)
theorem Zs.append:∀{xs ys:List V} {us ws:List Value},Zs xs us->Zs ys ws->Zs (xs++ys) (us++ws)
 | _,_,_,_,.nil,s=>s
 | _,_,_,_,.cons r t,s=>.cons r (Zs.append t s)
theorem Zs.take:∀{xs:List V} {us:List Value} (n:Nat),Zs xs us->Zs (xs.take n) (us.take n)
 | _,_,0,_=>.nil
 | _,_,_+1,.nil=>.nil
 | _,_,n+1,.cons r t=>.cons r (Zs.take n t)
theorem Zs.drop:∀{xs:List V} {us:List Value} (n:Nat),Zs xs us->Zs (xs.drop n) (us.drop n)
 | _,_,0,r=>r
 | _,_,_+1,.nil=>.nil
 | _,_,n+1,.cons _ t=>Zs.drop n t
noncomputable def Uw:Option V->Option Value->Prop
 | some v,some u=>ZA v u
 | none,none=>True
 | _,_=>False
noncomputable def KV {κ:Type}:List (κ×V)->List (κ×Value)->Prop:=Paired fun(p:κ×V) (q:κ×Value)=>p.1=q.1/\ZA p.2 q.2
noncomputable def kV:Zr->V
 | .inl i=>.int i
 | .inr x=>.str x
inductive HO where
 | lst (xs:List V)
 | tup (xs:List V)
 | dK (kvs:List (Zr×V)) | dT (kvs:List (List Zr×V))
 | set (S:Int->Bool) (n:Nat)
 | ins (C dx:Addr) (fs:List (Str×V))
 | own (x:Addr)
 | xd (fs:List (Str×V))
 | met (f x:Addr)
 | rng (lo hi:Int)
 | frz (o:Obj) (u:HO)
 | tbl (ps:Array Value)
 | ext (φ:Heap->Prop)
noncomputable abbrev Hp:=Addr->Option HO
noncomputable def Zk (H:Hp)(a:Addr)(o:HO):Hp:=fun b=>if b=a then some o else H b
theorem ZI {H:Hp}{a:Addr}{o:HO}:Zk H a o a=some o:=by unfold Zk;rw[if_pos rfl]
theorem Zo {H:Hp}{a b:Addr}{o:HO}(h:b≠a):Zk H a o b=H b:=by unfold Zk;rw[if_neg h]
theorem ZdB {H:Hp}{a:Addr}{o u:HO}:Zk (Zk H a o) a u=Zk H a u:=by
 funext b;unfold Zk;split <;> rfl
theorem Zk2 {H:Hp}{a b:Addr}{o u:HO}(h:H a=some o)(h':H b=some u)(d:o≠u):a≠b:=by
 intro e;subst e;rw[h] at h';exact d (qY h')
theorem ZP {H:Hp}{a b:Addr}{o:HO}(h:H a=some o)(h':H b=none):a≠b:=by
 intro e;subst e;rw[h] at h';cases h'
section
variable (P:Program)(w:World)
noncomputable def YA (H:Hp)(h:Heap)(a:Addr):HO->Prop
 | .lst xs=>xs.length<=sizeLine/\∃(jL:List Value) (n:Nat),Zs xs jL/\h.get? a=some { cls:=.type "list",data:=.seq jL.toArray n }
 | .tup xs=>xs.length<=sizeLine/\∃jL:List Value,Zs xs jL/\IsTup h a jL.toArray
 | .dK kvs=>kvs.length<=sizeLine/\(a==sysModules)=false/\∃vs,KV kvs vs/\h.DictOf (XO P w) a vs
 | .dT kvs=>kvs.length<=sizeLine/\(a==sysModules)=false/\∃xs:List (List Zr×Addr×Value),
   Paired (fun(p:List Zr×V) (q:List Zr×Addr×Value)=>p.1=q.1/\H q.2.1=some (.tup (p.1.map kV))/\ZA p.2 q.2.2) kvs xs/\
   ∃o es ep,h.get? a=some o/\o.ExactDict/\o.data=.dict es ep/\es.toList=xs.map (entryOfKey (tupleKind (XO P w)))/\(xs.map (·.1)).Nodup
 | .set S n=>h.SetOf (intKind P w) a S n
 | .ins C dx fs=>H dx=some (.own a)/\fs.length<=1000/\dx≠a/\h.get? a=some (PySem.W.instObj C dx)/\
   ∃mA,h.Ns1 dx mA/\(∀f,Uw (fs.lookup f) (mA f))/\PySem.Within mA (fs.map (·.1))
 | .own _=>∃o,h.get? a=some o
 | .xd fs=>∃mA,h.Ns1 a mA/\∀f,Uw (fs.lookup f) (mA f)
 | .rng lo hi=>∃t u v,h.get? a=some { cls:=.type "range",data:=.fields #[.int lo t,.int hi u,.int 1 v] }
 | .frz o u=>h.get? a=some o/\YA H h a u
 | .tbl ps=>h.get? a=some { cls:=.none,data:=.fields ps }
 | .met f x=>h.get? a=some (qaM (.ref f) (.ref x))
 | .ext φ=>φ h/\(∃o,h.get? a=some o)/\∀h1 h2:Heap,φ h1->(∀o,h1.get? a=some o->h2.get? a=some o)->φ h2
noncomputable def Ym (H:Hp)(h:Heap):Prop:=∀a o,H a=some o->YA P w H h a o
end
section
variable {P:Program}{w:World}{H H':Hp}{h h':Heap}{a:Addr}{o:HO}
theorem YA.lt (x:YA P w H h a o):a<h.objs.size:=by
 cases o with
 | lst xs=>obtain⟨_,_,_,_,e⟩:=x;exact qz e
 | tup xs=>obtain⟨_,_,_,p⟩:=x;exact p.lt
 | dK kvs=>obtain⟨_,_,_,_,o,_,_,e,_⟩:=x;exact qz e
 | dT kvs=>obtain⟨_,_,_,_,o,_,_,e,_⟩:=x;exact qz e
 | set S n=>obtain⟨o,_,_,_,e,_⟩:=x;exact qz e
 | ins C dx fs=>obtain⟨_,_,_,e,_⟩:=x;exact qz e
 | own y=>obtain⟨_,e⟩:=x;exact qz e
 | xd fs=>obtain⟨_,⟨_,_,_,e,_⟩,_⟩:=x;exact qz e
 | rng lo hi=>obtain⟨_,_,_,e⟩:=x;exact qz e
 | frz ob u=>obtain⟨e,_⟩:=x;exact qz e
 | tbl ps=>exact qz (show h.get? a=some _ from x)
 | met f y=>exact qz (show h.get? a=some _ from x)
 | ext φ=>obtain⟨_,⟨_,e⟩,_⟩:=x;exact qz e
theorem Paired.mapP {α β:Type}{F G:α->β->Prop}:∀{l₁:List α} {l₂:List β},Paired F l₁ l₂->(∀a b,F a b->G a b)->Paired G l₁ l₂
 | _,_,.nil,_=>.nil
 | _,_,.cons r t,f=>.cons (f _ _ r) (Paired.mapP t f)
theorem YA.stay (x:YA P w H h a o)(k:∀b u,(b=a∨H b=some (.own a))->h.get? b=some u->h'.get? b=some u)
  (ho:∀b,H b=some (.own a)->H' b=some (.own a)) (ht:∀b xs,H b=some (.tup xs)->H' b=some (.tup xs)):YA P w H' h' a o:=by
 induction o with
 | lst xs=>obtain⟨z,jL,n,r,e⟩:=x;exact⟨z,jL,n,r,k _ _ (.inl rfl) e⟩
 | tup xs=>obtain⟨z,jL,r,ob,e,c⟩:=x;exact⟨z,jL,r,ob,k _ _ (.inl rfl) e,c⟩
 | dK kvs=>obtain⟨z,y,vs,r,ob,es,ep,e,c⟩:=x;exact⟨z,y,vs,r,ob,es,ep,k _ _ (.inl rfl) e,c⟩
 | dT kvs=>
  obtain⟨z,y,xs,r,ob,es,ep,e,c⟩:=x;exact⟨z,y,xs,Paired.mapP r fun p q z=>⟨z.1,ht _ _ z.2.1,z.2.2⟩,ob,es,ep,k _ _ (.inl rfl) e,c⟩
 | set S n=>obtain⟨ob,es,ep,t,e,c⟩:=x;exact⟨ob,es,ep,t,k _ _ (.inl rfl) e,c⟩
 | ins C dx fs=>
  obtain⟨d,z,ne,e,mA,⟨od,es,ep,e2,c⟩,r⟩:=x;exact⟨ho _ d,z,ne,k _ _ (.inl rfl) e,mA,⟨od,es,ep,k _ _ (.inr d) e2,c⟩,r⟩
 | own y=>obtain⟨ob,e⟩:=x;exact⟨ob,k _ _ (.inl rfl) e⟩
 | xd fs=>obtain⟨mA,⟨od,es,ep,e,c⟩,r⟩:=x;exact⟨mA,⟨od,es,ep,k _ _ (.inl rfl) e,c⟩,r⟩
 | rng lo hi=>obtain⟨t,u,v,e⟩:=x;exact⟨t,u,v,k _ _ (.inl rfl) e⟩
 | frz ob u ih=>obtain⟨e,q⟩:=x;exact⟨k _ _ (.inl rfl) e,ih q⟩
 | tbl ps=>
  have e:h.get? a=some { cls:=.none,data:=.fields ps }:=x;show h'.get? a=some { cls:=.none,data:=.fields ps };exact k a _ (.inl rfl) e
 | met f y=>
  have e:h.get? a=some (qaM (.ref f) (.ref y)):=x;show h'.get? a=some (qaM (.ref f) (.ref y));exact k a _ (.inl rfl) e
 | ext φ=>obtain⟨p,⟨o,e⟩,st⟩:=x;exact⟨st _ _ p fun o q=>k _ _ (.inl rfl) q,⟨o,k _ _ (.inl rfl) e⟩,st⟩
theorem Ym.lt (x:Ym P w H h)(e:H a=some o):a<h.objs.size:=(x a o e).lt
theorem Ym.fresh (x:Ym P w H h)(e:h.objs.size<=a):H a=none:=by
 cases q:H a with
 | none=>rfl
 | some u=>exact absurd (qN (x.lt q) e) (z6 _)
theorem Ym.kept (x:Ym P w H h)(k:∀b u,h.get? b=some u->h'.get? b=some u):Ym P w H h':=fun a o e=>
 (x a o e).stay (fun b u _ q=>k b u q) (fun _ q=>q) fun _ _ q=>q
theorem Ym.laid (x:Ym P w H h)(k:∀b u,h.get? b=some u->h'.get? b=some u)(hp:h.objs.size<=a)(new:YA P w (Zk H a o) h' a o):Ym P w (Zk H a o) h':=fun b u e=>by
 have hn:=x.fresh hp;by_cases hb:b=a
 ·subst hb;rw[ZI] at e;cases e;exact new
 ·rw[Zo hb] at e
  exact(x b u e).stay (fun c v _ q=>k c v q) (fun c q=>by rw[Zo (ZP q hn)];exact q) fun c xs q=>by rw[Zo (ZP q hn)];exact q
end
noncomputable def Rd (H:Hp)(a:Addr)(u:HO):Prop:=H a=some u∨∃o,H a=some (.frz o u)
theorem Rd.ok {P:Program}{w:World}{H:Hp}{h:Heap}{a:Addr}{u:HO}(r:Rd H a u)(x:Ym P w H h):YA P w H h a u:=by
 rcases r with r | ⟨o,r⟩
 ·exact x a u r
 ·obtain⟨_,q⟩:=x a _ r
  exact q
noncomputable def Bc:Option HO->Prop
 | some (.lst _)=>True
 | some (.dK _)=>True
 | some (.dT _)=>True
 | some (.set _ _)=>True
 | some (.ins _ _ _)=>True
 | some (.ext _)=>True
 | _=>False
section
variable {P:Program}{w:World}{H:Hp}{h h':Heap}{x e:Addr}{o':HO}
theorem Ym.write (ok:Ym P w H h)(mu:Bc (H x))(he:e=x∨H e=some (.own x))(k:∀b u,b≠e->h.get? b=some u->h'.get? b=some u)(heo:∃u,h'.get? e=some u)
  (new:YA P w (Zk H x o') h' x o'):Ym P w (Zk H x o') h':=fun b u q=>by
 have nown:∀c y,H c=some (.own y)->c≠x:=fun c y r z=>by subst z;rw[r] at mu;exact mu
 have ntup:∀c xs,H c=some (.tup xs)->c≠x:=fun c xs r z=>by subst z;rw[r] at mu;exact mu
 by_cases hb:b=x
 ·subst hb;rw[ZI] at q;cases q;exact new
 ·rw[Zo hb] at q
  by_cases hbe:b=e
  ·have q':H b=some (.own x):=by
    rcases he with z | z
    ·exact absurd (hbe.trans z) hb
    ·rw[hbe];exact z
   rw[q] at q';cases q';obtain⟨v,hv⟩:=heo;exact⟨v,by rw[hbe];exact hv⟩
  ·refine(ok b u q).stay (fun c v hc r=>k c v ?_ r) (fun c r=>by rw[Zo (nown c b r)];exact r) fun c xs r=>by rw[Zo (ntup c xs r)];exact r
   rcases hc with rfl | hc
   ·exact hbe
   ·rintro rfl
    rcases he with z | z
    ·exact nown c b hc z
    ·rw[hc] at z;cases z;exact hb rfl
end
structure Un (fs ex:List Addr)(H H':Hp)(h h':Heap):Prop where
 keep:∀b o,h.get? b=some o->H b=none->b∉fs->b∉ex->h'.get? b=some o
 slot:∀b o,h.get? b=some o->H b=none->b∈fs->b∉ex->∃sl,h'.get? b=some { o with slots:=sl }
 free:∀b o,h.get? b=some o->H b=none->b∉ex->H' b=none
 there:∀b o,h.get? b=some o->b∉ex->∃o',h'.get? b=some o'
 tups:∀b xs,H b=some (.tup xs)->H' b=some (.tup xs)
 frzs:∀b o u,H b=some (.frz o u)->H' b=some (.frz o u)
 tbls:∀b ps,H b=some (.tbl ps)->∃more,H' b=some (.tbl (ps++more))
section
variable {fs fs' ex ex':List Addr}{H H1 H2:Hp}{h h1 h2 h':Heap}{a x e:Addr}{o:HO}
theorem Un.any (u:Un fs ex H H1 h h1){b:Addr}{ob:Obj}(q:h.get? b=some ob)(n:H b=none)(hx:b∉ex):∃sl,h1.get? b=some { ob with slots:=sl }:=by
 by_cases hb:b∈fs
 ·exact u.slot b ob q n hb hx
 ·exact⟨ob.slots,u.keep b ob q n hb hx⟩
theorem Un.kept (k:∀b u,h.get? b=some u->h'.get? b=some u):Un fs ex H H h h':=
 ⟨fun b ob q _ _ _=>k b ob q,fun b ob q _ _ _=>⟨ob.slots,k b ob q⟩,fun _ _ _ n _=>n,fun b ob q _=>⟨ob,k b ob q⟩,fun _ _ q=>q,fun _ _ _ q=>q,fun _ ps q=>⟨#[],by rw[q];simp⟩⟩
theorem Un.refl:Un fs ex H H h h:=Un.kept fun _ _ q=>q
theorem Un.laid (k:∀b u,h.get? b=some u->h'.get? b=some u)(hp:h.objs.size<=a)(hn:H a=none):Un fs ex H (Zk H a o) h h' where
 keep:=fun b u q _ _ _=>k b u q
 slot:=fun b u q _ _ _=>⟨u.slots,k b u q⟩
 free:=fun b u q n _=>by rw[Zo (qP (qN (qz q) hp))];exact n
 there:=fun b u q _=>⟨u,k b u q⟩
 tups:=fun b xs q=>by rw[Zo (ZP q hn)];exact q
 frzs:=fun b u xs q=>by rw[Zo (ZP q hn)];exact q
 tbls:=fun b ps q=>⟨#[],by rw[Zo (ZP q hn),q];simp⟩
theorem Un.write (mu:Bc (H x))(he:e=x∨H e=some (.own x))(k:∀b u,b≠e->h.get? b=some u->h'.get? b=some u)(heo:∃u,h'.get? e=some u):Un fs ex H (Zk H x o) h h':=by
 have hx:∀b,H b=none->b≠x:=fun b n z=>by subst z;rw[n] at mu;exact mu
 have hb:∀b,H b=none->b≠e:=fun b n z=>by
  subst z;rcases he with r | r
  ·exact hx b n r
  ·rw[n] at r;cases r
 have hm:∀b u,H b=some u->¬Bc (some u)->b≠x:=fun b u q nm z=>by subst z;rw[q] at mu;exact nm mu
 refine⟨fun b u q n _ _=>k b u (hb b n) q,fun b u q n _ _=>⟨u.slots,k b u (hb b n) q⟩,fun b u q n _=>by rw[Zo (hx b n)];exact n,fun b u q _=>?_,
  fun b xs q=>by rw[Zo (hm b _ q fun z=>z)];exact q,fun b u xs q=>by rw[Zo (hm b _ q fun z=>z)];exact q,fun b ps q=>⟨#[],by rw[Zo (hm b _ q fun z=>z),q];simp⟩⟩
 by_cases hbe:b=e
 ·subst hbe;exact heo
 ·exact⟨u,k b u hbe q⟩
end
noncomputable def trk (h:Heap)(H:Hp):List Addr:=(qm h.objs.size).filter fun a=>(H a).isSome
noncomputable def W2 (h:Heap)(H:Hp):Heap:=PySem.W.hideAll h (trk h H)
theorem ZgJ (h:Heap)(H:Hp):(W2 h H).objs.size=h.objs.size:=qbr _ _
theorem ZhT {h:Heap}{H:Hp}{b:Addr}{o:Obj}(e:h.get? b=some o)(n:H b=none):(W2 h H).get? b=some o:=
 qbA _ e fun hm=>by
  have q:(H b).isSome=true:=(qC.mp hm).2;rw[n] at q;simp at q
theorem ZjT {h:Heap}{H:Hp}{b:Addr}{o:Obj}(e:(W2 h H).get? b=some o):h.get? b=some o/\H b=none:=by
 have e':h.get? b=some o:=PySem.W.of_hideAll (trk h H) e;refine⟨e',?_⟩
 cases q:H b with
 | none=>rfl
 | some x=>
  have hm:b∈trk h H:=qC.mpr ⟨qS.mpr (qz e'),by simp[q]⟩;have z:(W2 h H).get? b=none:=qbs (trk h H) hm;rw[z] at e;cases e
end L2
namespace L2
structure Mod (K:qf)(mg:Str->Option Value)(base:Heap):Prop where
 kin:K.In base
 glob:base.Ns mainGlobals mg
 blt:∃mb,base.Ns builtinsNs mb/\∀x:Str,x≠"__name__"->mb x=bootBuiltins x
 nolimit:base.NoLimit
structure Cx where
 prog:Program
 w:World
 K:qf
 mg:Str->Option Value
 base:Heap
 A:Around
 N:List Str
 s₀:Shared
 H₀:Hp
 env:Env
 outer:List Env
 stack:List Env
 ex:List Addr
 fn:Str->Bool
 calm:Bool
 pn:List (Addr×Obj)
 xe:Value->Shared->Prop
noncomputable def XF (l:List Env):List Addr:=l.filterMap (·.frame)
noncomputable abbrev Cx.fs (X:Cx):List Addr:=XF X.outer
noncomputable def Bd (sc:Scope)(x:Str):Prop:=sc.names.lookup x=some .local∨sc.names.lookup x=some .cell∨sc.names.lookup x=some .free
noncomputable def W8 (sc:Scope)(x:Str):Prop:=sc.names.lookup x=some .local∨sc.names.lookup x=some .cell
noncomputable def Look (env:Env)(h:Heap)(m:Str->Option Value)(x:Str)(u:Value):Prop:=
 (env.kindOf x=some .local/\m x=some u)∨((env.kindOf x=some .cell∨env.kindOf x=some .free)/\∃c,env.cells.lookup x=some c/\h.IsCell c (some u))
structure Cx.Ok (X:Cx):Prop where
 mod:Mod X.K X.mg X.base
 kind:X.env.scope.kind=.function
 glob:X.env.globals=mainGlobals
 blt:X.env.builtins=builtinsNs
 above:X.s₀.heap.objs.size<=X.env.locals
 inj:∀x y c,X.env.cells.lookup x=some c->X.env.cells.lookup y=some c->x=y
 has:∀x,(X.env.kindOf x=some .cell∨X.env.kindOf x=some .free)->∃c,X.env.cells.lookup x=some c
 cab:∀x c,X.fn x=true->X.env.cells.lookup x=some c->X.s₀.heap.objs.size<=c
 hd:X.calm=true->X.A.handled=none
 frames:X.A.frames=some X.stack
 stk:X.stack=X.outer∨(X.stack=X.env::X.outer/\X.env.frame=some X.env.locals)
 exf:∀b∈X.ex,b≠X.env.locals/\∀x c,X.env.cells.lookup x=some c->c≠b
 bs:∀b o,X.base.get? b=some o->X.s₀.heap.get? b=some o/\X.H₀ b=none
 bsz:X.base.objs.size<=X.s₀.heap.objs.size
 noex:∀b o,X.base.get? b=some o->b∉X.ex
 exfs:∀b∈X.ex,b∉X.fs
 funs:X.s₀.heap.FunFrames X.base X.outer
 frf:∀b∈X.fs,X.H₀ b=none
structure Inv (X:Cx)(jJ:List (Addr×Obj))(σ:List (Option V))(H:Hp)(s:Shared):Prop where
 ok:X.Ok
 os:s.os=X.s₀.os
 bare:AllBare s.gens
 base:Un X.fs X.ex X.H₀ H X.s₀.heap s.heap
 loc:∃m,s.heap.Ns X.env.locals m/\∀(i:Nat) (x:Str) (v:V),X.N[i]?=some x->σ[i]?=some (some v)->Bd X.env.scope x->∃u,ZA v u/\Look X.env s.heap m x u
 cell:∀x c,X.env.cells.lookup x=some c->∃v,s.heap.IsCell c v
 free:H X.env.locals=none
 freeC:∀x c,X.env.cells.lookup x=some c->H c=none
 pin:∀p∈X.pn++jJ,s.heap.get? p.1=some p.2/\H p.1=none/\p.1≠X.env.locals/\p.1∉X.fs/\∀v,p.2.data≠.cell v
 hok:Ym X.prog X.w H s.heap
 len:σ.length=X.N.length
section
variable {X:Cx}{jJ:List (Addr×Obj)}{σ:List (Option V)}{H H':Hp}{s:Shared}{h':Heap}
theorem Cx.Ok.nofr (ok:X.Ok){b:Addr}{o:Obj}(e:X.base.get? b=some o):b∉X.fs:=fun hb=>by
 have:=(ok.funs.mem hb).1;rw[e] at this;cases this
theorem Inv.bs (I:Inv X jJ σ H s):∀b o,X.base.get? b=some o->s.heap.get? b=some o/\H b=none:=fun b o e=>
 ⟨I.base.keep b o (I.ok.bs b o e).1 (I.ok.bs b o e).2 (I.ok.nofr e) (I.ok.noex b o e),I.base.free b o (I.ok.bs b o e).1 (I.ok.bs b o e).2 (I.ok.noex b o e)⟩
theorem Inv.bk (I:Inv X jJ σ H s):∀b o,X.base.get? b=some o->s.heap.get? b=some o:=fun b o e=>(I.bs b o e).1
theorem Inv.mod (I:Inv X jJ σ H s):Mod X.K X.mg X.base:=I.ok.mod
theorem Inv.kIn (I:Inv X jJ σ H s):X.K.In s.heap:=I.ok.mod.kin.keeps I.bk
theorem Inv.lt (I:Inv X jJ σ H s):X.env.locals<s.heap.objs.size:=let ⟨_,hn,_⟩:=I.loc;hn.lt
theorem Inv.sz (I:Inv X jJ σ H s):X.s₀.heap.objs.size<=s.heap.objs.size:=qZ I.ok.above (qbJ I.lt)
theorem Inv.nofs (I:Inv X jJ σ H s){a:Addr}(h:s.heap.objs.size<=a):a∉X.fs:=fun hb=>by
 obtain⟨_,o,ho,_⟩:=I.ok.funs.mem hb;exact absurd (qN (qz ho) (qZ I.sz h)) (z6 _)
theorem Inv.cne (I:Inv X jJ σ H s):∀x c,X.env.cells.lookup x=some c->c≠X.env.locals:=fun x c e z=>by
 obtain⟨v,o,ho,hd⟩:=I.cell x c e;obtain⟨m,⟨o',es,ep,ho',hd',_⟩,_⟩:=I.loc;rw[z,ho'] at ho;cases ho;rw[hd'] at hd;cases hd
theorem Inv.funs (I:Inv X jJ σ H s):s.heap.FunFrames X.base X.outer:=by
 have all:∀(l:List Env),(∀b∈XF l,b∈X.fs)->X.s₀.heap.FunFrames X.base l->s.heap.FunFrames X.base l:=by
  intro l
  induction l with
  | nil=>intro _ _;trivial
  | cons env r ih=>
   intro hs hl;obtain⟨hk,⟨L,o,hf,hn,ho,hd⟩,hr⟩:=hl;have hL:L∈X.fs:=hs L (by unfold XF;rw[yt,hf];exact zM);obtain⟨sl,e⟩:=I.base.slot L o ho (I.ok.frf L hL) hL fun z=>I.ok.exfs L z hL;exact⟨hk,⟨L,_,hf,hn,e,hd⟩,ih (fun b hb=>hs b (by unfold XF;rw[yt,hf];exact qQ _ hb)) hr⟩
 exact all X.outer (fun _ hb=>hb) I.ok.funs
theorem Inv.stack (I:Inv X jJ σ H s):s.heap.FunFrames X.base X.stack:=by
 rcases I.ok.stk with e | ⟨e,hf⟩
 ·rw[e];exact I.funs
 ·rw[e]
  obtain⟨m,hn,_⟩:=I.loc;refine .cons (by rw[I.ok.kind];decide) hf hn ?_ I.funs;exact Heap.get?_none_of_le (qZ I.ok.bsz I.ok.above)
theorem Inv.stkSub (I:Inv X jJ σ H s):∀b∈XF X.stack,b∈X.env.locals::X.fs:=fun b hb=>by
 rcases I.ok.stk with e | ⟨e,hf⟩
 ·rw[e] at hb;exact qQ _ hb
 ·rw[e] at hb
  unfold XF at hb;rw[yt,hf] at hb;exact hb
theorem Inv.stkFree (I:Inv X jJ σ H s):∀b∈XF X.stack,H b=none:=fun b hb=>by
 rcases qt.mp (I.stkSub b hb) with e | hb
 ·rw[e];exact I.free
 ·obtain⟨_,o,ho,_⟩:=I.ok.funs.mem hb
  exact I.base.free b o ho (I.ok.frf b hb) fun z=>I.ok.exfs b z hb
theorem Inv.step {g':Array GenState}{t':Nat}{d':Drawn}{ch:List Addr}(I:Inv X jJ σ H s)
  (hch:∀b∈ch,(b∈X.ex∨X.s₀.heap.objs.size<=b)/\b≠X.env.locals/\(∀x c,X.env.cells.lookup x=some c->c≠b)/\∀p∈X.pn++jJ,p.1≠b)
  (keep:∀b o,b≠X.env.locals->b∉X.fs->b∉ch->s.heap.get? b=some o->H b=none->h'.get? b=some o)
  (slot:∀b o,b≠X.env.locals->b∈X.fs->b∉ch->s.heap.get? b=some o->H b=none->∃sl,h'.get? b=some { o with slots:=sl }) (free:∀b o,b∉ch->s.heap.get? b=some o->H b=none->H' b=none)
  (there:∀b o,b∉ch->s.heap.get? b=some o->∃o',h'.get? b=some o')
  (tups:∀b xs,H b=some (.tup xs)->H' b=some (.tup xs)) (frzs:∀b o u,H b=some (.frz o u)->H' b=some (.frz o u)) (tbls:∀b ps,H b=some (.tbl ps)->∃more,H' b=some (.tbl (ps++more)))
  (ns:∀m,s.heap.Ns X.env.locals m->h'.Ns X.env.locals m) (hok:Ym X.prog X.w H' h') (hg:AllBare g') :
  Inv X jJ σ H' { s with heap:=h',gens:=g',drawn:=d',toks:=t' }:=by
 have neL:∀b o,X.s₀.heap.get? b=some o->b≠X.env.locals:=fun b o e=>qP (qN (qz e) I.ok.above);have neC:∀b o,X.s₀.heap.get? b=some o->b∉X.ex->b∉ch:=fun b o e hx hb=>by
  rcases (hch b hb).1 with z | z
  ·exact hx z
  ·exact absurd (qN (qz e) z) (z6 _)
 have cellK:∀x c,X.env.cells.lookup x=some c->∀v,s.heap.IsCell c v->h'.IsCell c v:=fun x c e v ⟨o,ho,hd⟩=>by
  have nch:c∉ch:=fun z=>(hch c z).2.2.1 x c e rfl;by_cases hc:c∈X.fs
  ·obtain⟨sl,q⟩:=slot c o (I.cne x c e) hc nch ho (I.freeC x c e)
   exact⟨_,q,hd⟩
  ·exact⟨o,keep c o (I.cne x c e) hc nch ho (I.freeC x c e),hd⟩
 refine⟨I.ok,I.os,hg,⟨fun b o e n hb hx=>?_,fun b o e n hb hx=>?_,fun b o e n hx=>?_,fun b o e hx=>?_,fun b xs e=>tups b xs (I.base.tups b xs e),fun b o xs e=>frzs b o xs (I.base.frzs b o xs e),fun b ps e=>?_⟩,?_,fun x c e=>?_,?_,fun x c e=>?_,fun p hp=>?_,hok,I.len⟩
 ·exact keep b o (neL b o e) hb (neC b o e hx) (I.base.keep b o e n hb hx) (I.base.free b o e n hx)
 ·obtain⟨sl,e1⟩:=I.base.slot b o e n hb hx
  obtain⟨sl',e2⟩:=slot b _ (neL b o e) hb (neC b o e hx) e1 (I.base.free b o e n hx);exact⟨sl',e2⟩
 ·obtain⟨o',e1⟩:=I.base.there b o e hx
  exact free b o' (neC b o e hx) e1 (I.base.free b o e n hx)
 ·obtain⟨o',e1⟩:=I.base.there b o e hx
  exact there b o' (neC b o e hx) e1
 ·obtain⟨m1,e1⟩:=I.base.tbls b ps e
  obtain⟨m2,e2⟩:=tbls b _ e1;exact⟨m1++m2,by rw[e2,Array.append_assoc]⟩
 ·obtain⟨m,hn,hl⟩:=I.loc
  refine⟨m,ns m hn,fun i x v e1 e2 e3=>?_⟩;obtain⟨u,r,l⟩:=hl i x v e1 e2 e3;refine⟨u,r,?_⟩;rcases l with l | ⟨k,c,e,z⟩
  ·exact .inl l
  ·exact .inr ⟨k,c,e,cellK x c e _ z⟩
 ·obtain⟨v,z⟩:=I.cell x c e
  exact⟨v,cellK x c e v z⟩
 ·obtain⟨m,⟨o,_,_,ho,_⟩,_⟩:=I.loc
  exact free _ o (fun z=>(hch _ z).2.1 rfl) ho I.free
 ·obtain⟨v,o,ho,hd⟩:=I.cell x c e
  exact free c o (fun z=>(hch c z).2.2.1 x c e rfl) ho (I.freeC x c e)
 ·obtain⟨e,n,ne,nf,d⟩:=I.pin p hp
  have nch:p.1∉ch:=fun z=>(hch p.1 z).2.2.2 p hp rfl;exact⟨keep p.1 p.2 ne nf nch e n,free p.1 p.2 nch e n,ne,nf,d⟩
theorem Inv.un {t':Nat}(I:Inv X jJ σ H s)(u:Un X.fs [] H H' s.heap h')(hok:Ym X.prog X.w H' h'):Inv X jJ σ H' { s with heap:=h',toks:=t' }:=by
 obtain⟨m,⟨o,es,ep,ho,r⟩,_⟩:=id I.loc;obtain⟨sl,hL⟩:=u.any ho I.free (by simp);exact I.step (g':=s.gens) (d':=s.drawn) (ch:=[]) (fun _ z=>nomatch z) (fun b o _ hb _ e n=>u.keep b o e n hb (by simp)) (fun b o _ hb _ e n=>u.slot b o e n hb (by simp)) (fun b o _ e n=>u.free b o e n (by simp)) (fun b o _ e=>u.there b o e (by simp)) u.tups u.frzs u.tbls (fun m' hm=>by
  obtain⟨o',es',ep',ho',r'⟩:=hm;rw[ho] at ho';cases ho';exact⟨_,es',ep',hL,r'⟩) hok I.bare
theorem Inv.call {g':Array GenState}{t':Nat}{d':Drawn}{ch:List Addr}(I:Inv X jJ σ H s)(u:Un (XF X.stack) ch H H' s.heap h')(hok:Ym X.prog X.w H' h')(hg:AllBare g')
  (hch:∀b∈ch,(b∈X.ex∨X.s₀.heap.objs.size<=b)/\b≠X.env.locals/\(∀x c,X.env.cells.lookup x=some c->c≠b)/\∀p∈X.pn++jJ,p.1≠b) :
  Inv X jJ σ H' { s with heap:=h',gens:=g',drawn:=d',toks:=t' }:=by
 obtain⟨m,⟨o,es,ep,ho,r⟩,_⟩:=id I.loc;obtain⟨sl,hL⟩:=u.any ho I.free fun z=>(hch _ z).2.1 rfl;exact I.step (ch:=ch) hch (fun b o hL hb hc e n=>u.keep b o e n (fun z=>(qt.mp (I.stkSub b z)).elim hL hb) hc) (fun b o _ _ hc e n=>u.any e n hc) (fun b o hc e n=>u.free b o e n hc) (fun b o hc e=>u.there b o e hc) u.tups u.frzs u.tbls (fun m' hm=>by
  obtain⟨o',es',ep',ho',r'⟩:=hm;rw[ho] at ho';cases ho';exact⟨_,es',ep',hL,r'⟩) hok hg
theorem Inv.turned {t':Nat}{it:Addr}(I:Inv X jJ σ H s)(k:∀b o,b≠it->s.heap.get? b=some o->h'.get? b=some o)(hn:H it=none)(hL:it≠X.env.locals)
  (h1:it∈X.ex∨X.s₀.heap.objs.size<=it) (h2:∀x c,X.env.cells.lookup x=some c->c≠it) (h3:∀p∈X.pn++jJ,p.1≠it):Inv X jJ σ H { s with heap:=h',toks:=t' }:=by
 have nit:∀b u,H b=some u->b≠it:=fun b u e z=>by rw[z,hn] at e;cases e
 refine I.step (g':=s.gens) (d':=s.drawn) (ch:=[it]) (fun b hb=>?_) (fun b o _ _ hc e _=>k b o (fun z=>hc (by simp[z])) e) (fun b o _ _ hc e _=>⟨o.slots,k b o (fun z=>hc (by simp[z])) e⟩) (fun _ _ _ _ n=>n)
  (fun b o hc e=>⟨o,k b o (fun z=>hc (by simp[z])) e⟩) (fun _ _ e=>e) (fun _ _ _ e=>e) (fun b ps e=>⟨#[],by rw[e];simp⟩) (fun m hm=>?_) (fun b u e=>?_) I.bare
 ·have e:b=it:=by simpa using hb
  subst e;exact⟨h1,hL,h2,h3⟩
 ·obtain⟨o,es,ep,ho,r⟩:=hm
  exact⟨o,es,ep,k _ o (zl hL) ho,r⟩
 ·refine(I.hok b u e).stay (fun c v hc q=>k c v ?_ q) (fun _ q=>q) fun _ _ q=>q
  rcases hc with z | z
  ·rw[z];exact nit b u e
  ·exact nit c _ z
theorem Inv.tok (I:Inv X jJ σ H s)(t:Nat):Inv X jJ σ H { s with toks:=t }:=I.un (h':=s.heap) (t':=t) Un.refl I.hok
theorem Inv.kept {t':Nat}(I:Inv X jJ σ H s)(k:∀b u,s.heap.get? b=some u->h'.get? b=some u):Inv X jJ σ H { s with heap:=h',toks:=t' }:=I.un (Un.kept k) (I.hok.kept k)
theorem Inv.laid {a:Addr}{o:HO}{t':Nat}(I:Inv X jJ σ H s)(k:∀b u,s.heap.get? b=some u->h'.get? b=some u)(hp:s.heap.objs.size<=a)(new:YA X.prog X.w (Zk H a o) h' a o) :
  Inv X jJ σ (Zk H a o) { s with heap:=h',toks:=t' }:=I.un (Un.laid k hp (I.hok.fresh hp)) (I.hok.laid k hp new)
theorem Inv.write {x e:Addr}{o:HO}{t':Nat}(I:Inv X jJ σ H s)(mu:Bc (H x))(he:e=x∨H e=some (.own x))(k:∀b u,b≠e->s.heap.get? b=some u->h'.get? b=some u)(heo:∃u,h'.get? e=some u)
  (new:YA X.prog X.w (Zk H x o) h' x o):Inv X jJ σ (Zk H x o) { s with heap:=h',toks:=t' }:=I.un (Un.write mu he k heo) (I.hok.write mu he k heo new)
theorem Inv.pins_of {pins':List (Addr×Obj)}(I:Inv X jJ σ H s)(h:∀p∈pins',s.heap.get? p.1=some p.2/\H p.1=none/\p.1≠X.env.locals/\p.1∉X.fs/\∀v,p.2.data≠.cell v):Inv X pins' σ H s:=
 ⟨I.ok,I.os,I.bare,I.base,I.loc,I.cell,I.free,I.freeC,fun p hp=>(qV.mp hp).elim (fun z=>I.pin p (qU _ z)) (h p),I.hok,I.len⟩
theorem Zd6 {N:List Str}(hN:N.Nodup){i j:Nat}{x:Str}(a:N[i]?=some x)(b:N[j]?=some x):i=j:=by
 obtain⟨h1,e1⟩:=qB.mp a;obtain⟨h2,e2⟩:=qB.mp b;exact(List.getElem_inj hN).mp (e1.trans e2.symm)
theorem ZgK {M:Model}{A:Around}{E:Value->Shared->Prop}{i:Nat}{x:Str}{v:V}{u:Value}{Q:Unit->Shared->Prop}(I:Inv X jJ σ H s)(hN:X.N.Nodup)(hi:X.N[i]?=some x)(hx:W8 X.env.scope x)(r:ZA v u)
  (h:∀s',Inv X jJ (σ.set i (some v)) H s'->(∃a,yR a s.heap s'.heap/\(a=X.env.locals∨X.env.cells.lookup x=some a))->Q () s') (hf:X.fn x=true∨X.env.scope.names.lookup x=some .local:=by first | exact .inl rfl | exact .inr rfl | assumption):wpAny M A (storeName X.env x u) Q E s:=by
 obtain⟨m,hn,hl⟩:=id I.loc;have hcls:(X.env.scope.kind == .class||(X.env.scope.kind == .module&&X.env.locals != X.env.globals))=false:=by rw[I.ok.kind];rfl
 have hiσ:i < σ.length:=by rw[I.len];exact(qB.mp hi).1
 have cne:=I.cne;have tracked:∀{a:Addr} {h':Heap},(∃o,s.heap.get? a=some o/\H a=none)->yR a s.heap h'->Ym X.prog X.w H h':=fun {a h'} ha hs b ob e=>by
  obtain⟨_,_,hfree⟩:=ha;refine(I.hok b ob e).stay (fun c w' hc q=>(hs.2 c ?_).trans q) (fun _ q=>q) fun _ _ q=>q;rintro rfl;rcases hc with rfl | hc
  ·rw[hfree] at e;cases e
  ·rw[hfree] at hc;cases hc
 rcases hx with hk | hk
 ·refine wpAny_storeName_local hk hn (fun h' hn' hs=>?_) hcls
  obtain⟨oL,_,_,hoL,_⟩:=id hn;refine h _ ⟨I.ok,I.os,I.bare,⟨fun b o e n hb hx=>?_,fun b o e n hb hx=>?_,I.base.free,fun b o e hx=>?_,I.base.tups,I.base.frzs,I.base.tbls⟩,⟨_,hn',fun j y v' e1 e2 e3=>?_⟩,fun y c e=>?_,I.free,I.freeC,fun p hp=>?_,tracked ⟨oL,hoL,I.free⟩ hs,by simpa using I.len⟩ ⟨_,hs,.inl rfl⟩
  ·exact(hs.2 b (qP (qN (qz e) I.ok.above))).trans (I.base.keep b o e n hb hx)
  ·obtain⟨sl,e1⟩:=I.base.slot b o e n hb hx
   exact⟨sl,(hs.2 b (qP (qN (qz e) I.ok.above))).trans e1⟩
  ·obtain⟨o',e1⟩:=I.base.there b o e hx
   exact⟨o',(hs.2 b (qP (qN (qz e) I.ok.above))).trans e1⟩
  ·by_cases hj:j=i
   ·subst hj
    rw[hi] at e1;cases e1;rw[zb hiσ] at e2
    cases e2
    exact⟨u,r,.inl ⟨hk,by simp⟩⟩
   ·rw[qO (zl hj)] at e2
    obtain⟨u',r',q⟩:=hl j y v' e1 e2 e3;refine⟨u',r',?_⟩;rcases q with⟨k,e⟩ | ⟨k,c,e,z⟩
    ·refine .inl ⟨k,?_⟩
     have:y≠x:=fun e=>hj (Zd6 hN e1 (e▸hi));simp[this,e]
    ·exact .inr ⟨k,c,e,z.sameBut hs (cne y c e)⟩
  ·obtain⟨w',z⟩:=I.cell y c e
   exact⟨w',z.sameBut hs (cne y c e)⟩
  ·obtain⟨e,n,ne,nf,d⟩:=I.pin p hp
   exact⟨(hs.2 p.1 ne).trans e,n,ne,nf,d⟩
 ·have hfn:X.fn x=true:=by
   rcases hf with z | z
   ·exact z
   ·rw[z] at hk;cases hk
  obtain⟨c,hc⟩:=I.ok.has x (.inl hk);obtain⟨w',z⟩:=I.cell x c hc;refine wpAny_storeName_cell I.ok.kind hk hc z (fun h' hc' hs=>?_);obtain⟨oc,hoc,hocd⟩:=id z;refine h { s with heap:=h' } ⟨I.ok,I.os,I.bare,⟨fun b o e n hb hx=>?_,fun b o e n hb hx=>?_,I.base.free,fun b o e hx=>?_,I.base.tups,I.base.frzs,I.base.tbls⟩,⟨m,hn.sameBut hs (zl (cne x c hc)),fun j y v' e1 e2 e3=>?_⟩,fun y c' e=>?_,I.free,I.freeC,fun p hp=>?_,tracked ⟨oc,hoc,I.freeC x c hc⟩ hs,by simpa using I.len⟩ ⟨c,hs,.inr hc⟩
  ·exact(hs.2 b (qP (qN (qz e) (I.ok.cab x c hfn hc)))).trans (I.base.keep b o e n hb hx)
  ·obtain⟨sl,e1⟩:=I.base.slot b o e n hb hx
   exact⟨sl,(hs.2 b (qP (qN (qz e) (I.ok.cab x c hfn hc)))).trans e1⟩
  ·obtain⟨o',e1⟩:=I.base.there b o e hx
   exact⟨o',(hs.2 b (qP (qN (qz e) (I.ok.cab x c hfn hc)))).trans e1⟩
  ·by_cases hj:j=i
   ·subst hj
    rw[hi] at e1;cases e1;rw[zb hiσ] at e2
    cases e2
    exact⟨u,r,.inr ⟨.inl hk,c,hc,hc'⟩⟩
   ·rw[qO (zl hj)] at e2
    obtain⟨u',r',q⟩:=hl j y v' e1 e2 e3;refine⟨u',r',?_⟩;rcases q with q | ⟨k,c',e,z'⟩
    ·exact .inl q
    ·refine .inr ⟨k,c',e,z'.sameBut hs ?_⟩
     rintro rfl;exact hj (Zd6 hN e1 (I.ok.inj _ _ _ e hc▸hi))
  ·by_cases hcc:c'=c
   ·subst hcc;exact⟨_,hc'⟩
   ·obtain⟨w2,z2⟩:=I.cell y c' e
    exact⟨w2,z2.sameBut hs hcc⟩
  ·obtain⟨e,n,ne,nf,d⟩:=I.pin p hp
   refine⟨(hs.2 p.1 ?_).trans e,n,ne,nf,d⟩;intro q;rw[q,hoc] at e;have q':oc=p.2:=qY e;exact d w' (by rw[<-q'];exact hocd)
theorem BB {M:Model}{A:Around}{E:Value->Shared->Prop}{i:Nat}{x:Str}{v:V}{u:Value}{Q:Unit->Shared->Prop}(I:Inv X jJ σ H s)(hN:X.N.Nodup)(hi:X.N[i]?=some x)(hx:W8 X.env.scope x)(r:ZA v u)
  (h:∀s',Inv X jJ (σ.set i (some v)) H s'->Q () s') (hf:X.fn x=true∨X.env.scope.names.lookup x=some .local:=by first | exact .inl rfl | exact .inr rfl | assumption):wpAny M A (storeName X.env x u) Q E s:=
 ZgK I hN hi hx r (fun s' I' _=>h s' I') hf
theorem Inv.call' {s':Shared}{ch:List Addr}(I:Inv X jJ σ H s)(ho:s'.os=s.os)(u:Un (XF X.stack) ch H H' s.heap s'.heap)(hok:Ym X.prog X.w H' s'.heap)(hg:AllBare s'.gens)
  (hch:∀b∈ch,(b∈X.ex∨X.s₀.heap.objs.size<=b)/\b≠X.env.locals/\(∀x c,X.env.cells.lookup x=some c->c≠b)/\∀p∈X.pn++jJ,p.1≠b):Inv X jJ σ H' s':=by
 obtain⟨h',g',d',t',o'⟩:=s';have e:o'=s.os:=ho;subst e;exact I.call (g':=g') (t':=t') (d':=d') u hok hg hch
end
noncomputable abbrev XK:=Value->Option Addr->Hp->Prop
noncomputable abbrev St:=List (Option V)
noncomputable abbrev VK:=V->Hp->Prop
noncomputable abbrev TE:=St->Hp->VK->Prop
noncomputable abbrev TT:=St->Hp->(Bool->Hp->Prop)->Prop
noncomputable abbrev TA:=St->Hp->(List V->Hp->Prop)->Prop
structure Ends where
 nx:St->Hp->Prop
 rt:VK
 bk:St->Hp->Prop:=fun _ _=>False
 ct:St->Hp->Prop:=fun _ _=>False
noncomputable abbrev TS:=Ends->St->Hp->Prop
noncomputable def EP (X:Cx)(jJ:List (Addr×Obj))(σ:St)(Q:VK)(u:Value)(s':Shared):Prop:=∃v H',Inv X jJ σ H' s'/\ZA v u/\Q v H'
noncomputable def TP (X:Cx)(jJ:List (Addr×Obj))(σ:St)(Q:Bool->Hp->Prop)(b:Bool)(s':Shared):Prop:=∃H',Inv X jJ σ H' s'/\Q b H'
noncomputable def AP (X:Cx)(jJ:List (Addr×Obj))(σ:St)(Q:List V->Hp->Prop)(us:List Value)(s':Shared):Prop:=∃vs H',Inv X jJ σ H' s'/\Zs vs us/\Q vs H'
noncomputable def SP (X:Cx)(jJ:List (Addr×Obj))(D:Ends)(f:Flow)(s':Shared):Prop:=
 match f with
 | .next=>∃σ' H',Inv X jJ σ' H' s'/\D.nx σ' H'
 | .brk=>∃σ' H',Inv X jJ σ' H' s'/\D.bk σ' H'
 | .cont=>∃σ' H',Inv X jJ σ' H' s'/\D.ct σ' H'
 | .ret u=>∃v σ' H',Inv X jJ σ' H' s'/\ZA v u/\D.rt v H'
noncomputable def PE (X:Cx)(e:Expr)(t:TE):Prop:=
 ∀(jJ:List (Addr×Obj)) (s:Shared) (σ:St) (H:Hp) (Q:VK),Inv X jJ σ H s->t σ H Q->wpAny (model X.prog X.w) X.A (eval e X.env) (EP X jJ σ Q) X.xe s
noncomputable def PT (X:Cx)(e:Expr)(t:TT):Prop:=
 ∀(jJ:List (Addr×Obj)) (s:Shared) (σ:St) (H:Hp) (Q:Bool->Hp->Prop),Inv X jJ σ H s->t σ H Q->wpAny (model X.prog X.w) X.A (isTrue e X.env (eval e X.env)) (TP X jJ σ Q) X.xe s
noncomputable def PW (X:Cx)(e:Expr)(t:TT):Prop:=
 ∀(whole:Sem Value) (jJ:List (Addr×Obj)) (s:Shared) (σ:St) (H:Hp) (Q:Bool->Hp->Prop),Inv X jJ σ H s->t σ H Q->wpAny (model X.prog X.w) X.A (isTrue e X.env whole) (TP X jJ σ Q) X.xe s
theorem PW.pt {X:Cx}{e:Expr}{t:TT}(h:PW X e t):PT X e t:=h _
noncomputable def PA (X:Cx)(es:List Expr)(t:TA):Prop:=
 ∀(pos:Pos) (jJ:List (Addr×Obj)) (s:Shared) (σ:St) (H:Hp) (Q:List V->Hp->Prop),Inv X jJ σ H s->t σ H Q->wpAny (model X.prog X.w) X.A (spliced (backTo pos (starEach es X.env))) (AP X jJ σ Q) X.xe s
noncomputable def PS (X:Cx)(st:Stmt)(t:TS):Prop:=
 ∀(jJ:List (Addr×Obj)) (s:Shared) (σ:St) (H:Hp) (D:Ends),Inv X jJ σ H s->t D σ H->wpAny (model X.prog X.w) X.A (exec st X.env) (SP X jJ D) X.xe s
noncomputable def Wj (X:Cx)(st:List Stmt)(t:TS):Prop:=
 ∀(jJ:List (Addr×Obj)) (s:Shared) (σ:St) (H:Hp) (D:Ends),Inv X jJ σ H s->t D σ H->wpAny (model X.prog X.w) X.A (execs st X.env) (SP X jJ D) X.xe s
theorem ZC {α:Type}{t:Sem α}{Q Q':α->Shared->Prop}{M:Model}{A:Around}{E:Value->Shared->Prop}{s:Shared}(h:wpAny M A t Q E s)(hQ:∀a s,Q a s->Q' a s):wpAny M A t Q' E s:=wpAny_mono h hQ fun _ _ x=>x
end L2
namespace L2
section
variable {X:Cx}
noncomputable def Z7 (i:Nat):TE:=fun σ H Q=>∃v,σ[i]?=some (some v)/\Q v H
noncomputable def tC (v:V):TE:=fun _ H Q=>Q v H
theorem ZlE {i:Nat}{x:Str}{pos:Pos}(hN:X.N[i]?=some x)(hv:Bd X.env.scope x)(hd:(x==("__debug__" : Str))=false:=by decide)(hcd:(x==("__classdict__" : Str))=false:=by decide):PE X (.Name x pos) (Z7 i):=by
 intro jJ s σ H Q I h;obtain⟨v,e,h⟩:=h;obtain⟨m,hn,hl⟩:=I.loc;obtain⟨u,r,l⟩:=hl i x v hN e hv;have fin:EP X jJ σ Q u s:=⟨v,H,I,r,h⟩;rcases l with⟨hk,hm⟩ | ⟨hk,c,hc,hcell⟩
 ·exact wpAny_Name (wpAny_loadName_local I.ok.kind hk hn hm fin) hd
 ·rcases hk with hk | hk
  ·exact wpAny_Name (wpAny_loadName_cell I.ok.kind hk hc hcell fin) hd
  ·exact wpAny_Name (wpAny_loadName_free I.ok.kind hk hc hcell fin hcd) hd
theorem YK {i j pos}:PE X (.Constant (.int i) j pos) (tC (.int i)):=fun _ _ _ H _ I h=>wpAny_Constant_int ⟨.int i,H,I.tok _,⟨_,rfl⟩,h⟩
theorem ZmM {b j pos}:PE X (.Constant (.bool b) j pos) (tC (.bl b)):=fun _ _ _ H _ I h=>Constant_bool ⟨.bl b,H,I,rfl,h⟩
theorem ZlF {j pos}:PE X (.Constant .none j pos) (tC .non):=fun _ _ _ H _ I h=>Constant_none ⟨.non,H,I,rfl,h⟩
theorem XQ {x j pos}:PE X (.Constant (.str x) j pos) (tC (.str x)):=fun _ _ _ H _ I h=>Calls.Constant_str ⟨.str x,H,I.tok _,⟨_,rfl⟩,h⟩
noncomputable def Gl (X:Cx)(x:Str):Prop:=X.env.kindOf x=some .globalImplicit
theorem ZdC {E:Value->Shared->Prop}{jJ:List (Addr×Obj)}{s:Shared}{σ:St}{H:Hp}{x:Str}{u:Value}{pos:Pos}{Q:Value->Shared->Prop}(I:Inv X jJ σ H s)(hg:Gl X x)(hm:X.mg x=some u)(h:Q u s)
  (hd:(x==("__debug__" : Str))=false:=by decide):wpAny (model X.prog X.w) X.A (eval (.Name x pos) X.env) Q E s:=
 qaI I.ok.kind hg (Calls.loadGlobal_global (by rw[I.ok.glob];exact I.mod.glob.keeps I.bk) hm h) hd
theorem VN {E:Value->Shared->Prop}{jJ:List (Addr×Obj)}{s:Shared}{σ:St}{H:Hp}{x:Str}{u:Value}{pos:Pos}{Q:Value->Shared->Prop}(I:Inv X jJ σ H s)(hg:Gl X x)(hm:X.mg x=none)(hv:bootBuiltins x=some u)(h:Q u s)
  (hn:x≠"__name__":=by decide) (hd:(x==("__debug__" : Str))=false:=by decide):wpAny (model X.prog X.w) X.A (eval (.Name x pos) X.env) Q E s:=by
 obtain⟨mb,h1,h2⟩:=I.mod.blt;exact qaI I.ok.kind hg (Calls.loadGlobal_builtin (by rw[I.ok.glob];exact I.mod.glob.keeps I.bk) hm (by rw[I.ok.blt];exact h1.keeps I.bk) ((h2 x hn).trans hv) h) hd
theorem ZjU {x:Str}{v:V}{u:Value}{pos:Pos}(hg:Gl X x)(hm:X.mg x=some u)(r:ZA v u)(hd:(x==("__debug__" : Str))=false:=by decide):PE X (.Name x pos) (tC v):=
 fun _ _ _ H _ I h=>ZdC I hg hm ⟨v,H,I,r,h⟩ hd
variable {a b:Expr}{ta tb:TE}{pos:Pos}
noncomputable def tB (t:TE):TT:=fun σ H Q=>t σ H fun x H1=>∃c,x=.bl c/\Q c H1
theorem ZlG {e:Expr}{t:TE}(h:PE X e t)(he:∀whole,isTrue e X.env whole=(do let v<-whole;standAt e.pos;holding [v] (truthy v)):=by intro _;rfl):PT X e (tB t):=by
 intro jJ s σ H Q I hw;refine isTrue_plain (ZC (h jJ s σ H _ I hw) fun v s1 ⟨x,H1,I1,r1,q1⟩=>?_) (he _);obtain⟨d,rfl,q⟩:=q1
 cases r1
 exact wpAny_truthy_bool ⟨H1,I1,q⟩
variable {tA tB':TT}{rest:List Expr}
noncomputable def tAnd (t u:TT):TT:=fun σ H Q=>t σ H fun c H1=>if c=true then u σ H1 Q else Q false H1
noncomputable def tOr (t u:TT):TT:=fun σ H Q=>t σ H fun c H1=>if c=true then Q true H1 else u σ H1 Q
theorem Zf4 (ha:PT X a tA):PW X (.BoolOp .And [a] pos) tA:=by
 intro wh jJ s σ H Q I h;refine isTrue_and (ZC (ha jJ s σ H Q I h) fun c s1 e=>?_)
 cases c with
 | true=>exact isTrue_and_nil e
 | false=>exact e
theorem ZlH (ha:PT X a tA):PW X (.BoolOp .Or [a] pos) tA:=by
 intro wh jJ s σ H Q I h;refine isTrue_or (ZC (ha jJ s σ H Q I h) fun c s1 e=>?_)
 cases c with
 | false=>exact isTrue_or_nil e
 | true=>exact e
theorem ZhU (ha:PT X a tA)(hb:PW X (.BoolOp .And (b::rest) pos) tB'):PW X (.BoolOp .And (a::b::rest) pos) (tAnd tA tB'):=by
 intro wh jJ s σ H Q I h;refine isTrue_and (ZC (ha jJ s σ H _ I h) fun c s1 ⟨H1,I1,q1⟩=>?_)
 cases c with
 | true=>exact hb wh jJ s1 σ H1 Q I1 q1
 | false=>exact⟨H1,I1,q1⟩
theorem ZmN (ha:PT X a tA)(hb:PW X (.BoolOp .Or (b::rest) pos) tB'):PW X (.BoolOp .Or (a::b::rest) pos) (tOr tA tB'):=by
 intro wh jJ s σ H Q I h;refine isTrue_or (ZC (ha jJ s σ H _ I h) fun c s1 ⟨H1,I1,q1⟩=>?_)
 cases c with
 | true=>exact⟨H1,I1,q1⟩
 | false=>exact hb wh jJ s1 σ H1 Q I1 q1
noncomputable def ZmO (ta tb:TE):TE:=fun σ H Q=>ta σ H fun x H1=>∃c,x=.bl c/\if c=true then tb σ H1 Q else Q (.bl false) H1
noncomputable def tOrV (ta tb:TE):TE:=fun σ H Q=>ta σ H fun x H1=>∃c,x=.bl c/\if c=true then Q (.bl true) H1 else tb σ H1 Q
noncomputable def ZmP (ta:TE):TE:=fun σ H Q=>ta σ H fun x H1=>∃c,x=.bl c/\Q (.bl (!c)) H1
theorem ZlI {op}{t:TE}(h:PE X a t):PE X (.BoolOp op [a] pos) t:=fun jJ s σ H Q I hw=>BoolOp_one (h jJ s σ H Q I hw)
theorem ZlJ (ha:PE X a ta)(hb:PE X (.BoolOp .And (b::rest) pos) tb):PE X (.BoolOp .And (a::b::rest) pos) (ZmO ta tb):=by
 intro jJ s σ H Q I h;refine BoolOp_and (ZC (ha jJ s σ H _ I h) fun v s1 ⟨x,H1,I1,r1,q1⟩=>?_);obtain⟨c,rfl,q1⟩:=q1
 cases r1
 refine wpAny_truthy_bool ?_
 cases c with
 | true=>exact hb jJ s1 σ H1 Q I1 q1
 | false=>exact⟨.bl false,H1,I1,rfl,q1⟩
theorem ZmQ (ha:PE X a ta)(hb:PE X (.BoolOp .Or (b::rest) pos) tb):PE X (.BoolOp .Or (a::b::rest) pos) (tOrV ta tb):=by
 intro jJ s σ H Q I h;refine BoolOp_or (ZC (ha jJ s σ H _ I h) fun v s1 ⟨x,H1,I1,r1,q1⟩=>?_);obtain⟨c,rfl,q1⟩:=q1
 cases r1
 refine wpAny_truthy_bool ?_
 cases c with
 | false=>exact hb jJ s1 σ H1 Q I1 q1
 | true=>exact⟨.bl true,H1,I1,rfl,q1⟩
theorem ZlK (ha:PE X a ta):PE X (.UnaryOp .Not a pos) (ZmP ta):=by
 intro jJ s σ H Q I h;refine UnaryOp_ (ZC (ha jJ s σ H _ I h) fun v s1 ⟨x,H1,I1,r1,q1⟩=>?_);obtain⟨c,rfl,q1⟩:=q1
 cases r1
 exact not_of (wpAny_truthy_bool ⟨.bl (!c),H1,I1,rfl,q1⟩)
noncomputable def tIf (t:TT)(ta tb:TE):TE:=fun σ H Q=>t σ H fun c H1=>if c=true then ta σ H1 Q else tb σ H1 Q
theorem ZhV {c:Expr}(hc:PT X c tA)(ha:PE X a ta)(hb:PE X b tb):PE X (.IfExp c a b pos) (tIf tA ta tb):=by
 intro jJ s σ H Q I h;refine wpAny_IfExp (ZC (hc jJ s σ H _ I h) fun d s1 ⟨H1,I1,q1⟩=>?_)
 cases d with
 | true=>exact ha jJ s1 σ H1 Q I1 q1
 | false=>exact hb jJ s1 σ H1 Q I1 q1
end
end L2
namespace L2
noncomputable def Zu (K:qf)(H:Hp)(a:Addr)(xs:List V):Prop:=
 Rd H a (.lst xs)∨
  ∃(o:Obj) (jL:Array Value) (n:Nat),K.lookup a=some o/\o.cls=.type "list"/\o.dict=none/\o.data=.seq jL n/\jL.size<=sizeLine/\Zs xs jL.toList
noncomputable def ZF (K:qf)(H:Hp)(a:Addr)(xs:List V):Prop:=
 Rd H a (.tup xs)∨
  ∃(o:Obj) (jL:Array Value) (n:Nat),K.lookup a=some o/\o.cls=.type "tuple"/\o.data=.seq jL n/\jL.size<=sizeLine/\Zs xs jL.toList
noncomputable def absV:Value->Option V
 | .none=>some .non
 | .bool b=>some (.bl b)
 | .int i _=>some (.int i)
 | .str x _=>some (.str x)
 | .bytes b _=>some (.byt b)
 | .float b _=>some (.flt b)
 | .ref a=>some (.ref a)
 | .type n=>some (.ty n)
 | _=>none
theorem ZA.abs {x:V}{u:Value}(r:ZA x u):absV u=some x:=by
 cases x with
 | non=>cases r;rfl
 | bl _=>cases r;rfl
 | int _=>obtain⟨t,rfl⟩:=r;rfl
 | str _=>obtain⟨t,rfl⟩:=r;rfl
 | byt _=>obtain⟨t,rfl⟩:=r;rfl
 | flt _=>obtain⟨t,rfl⟩:=r;rfl
 | ref _=>cases r;rfl
 | ty _=>cases r;rfl
theorem ZA.inj {x y:V}{u:Value}(r:ZA x u)(q:ZA y u):x=y:=qY (r.abs.symm.trans q.abs)
theorem Zs.inj:∀{xs ys:List V} {us:List Value},Zs xs us->Zs ys us->xs=ys
 | _,_,_,.nil,.nil=>rfl
 | _,_,_,.cons r t,.cons r' t'=>by rw[r.inj r',Zs.inj t t']
section
variable {X:Cx}{jJ:List (Addr×Obj)}{σ:St}{H:Hp}{s:Shared}{a:Addr}{xs ys:List V}
theorem Zu.of {K:qf}(h:H a=some (.lst xs)):Zu K H a xs:=.inl (.inl h)
theorem ZF.of {K:qf}(h:H a=some (.tup xs)):ZF K H a xs:=.inl (.inl h)
theorem Inv.list (I:Inv X jJ σ H s)(h:Zu X.K H a xs):∃jL:List Value,Zs xs jL/\PlainL s.heap a jL.toArray/\xs.length<=sizeLine:=by
 rcases h with h | ⟨o,jL,n,hk,hc,hd,hs,hz,r⟩
 ·obtain⟨z,jL,n,r,e⟩:=h.ok I.hok
  exact⟨jL,r,⟨_,n,e,rfl,rfl,rfl⟩,z⟩
 ·refine⟨jL.toList,r,⟨o,n,I.kIn a o hk,hc,hd,by simpa using hs⟩,?_⟩
  have e:=r.length;simp only[zg] at e;omega
theorem Inv.tuple (I:Inv X jJ σ H s)(h:ZF X.K H a xs):∃jL:List Value,Zs xs jL/\IsTup s.heap a jL.toArray/\xs.length<=sizeLine:=by
 rcases h with h | ⟨o,jL,n,hk,hc,hs,hz,r⟩
 ·obtain⟨z,jL,r,p⟩:=h.ok I.hok
  exact⟨jL,r,p,z⟩
 ·refine⟨jL.toList,r,⟨o,I.kIn a o hk,hc,n,by simpa using hs⟩,?_⟩
  have e:=r.length;simp only[zg] at e;omega
theorem Inv.list_inj (I:Inv X jJ σ H s)(h:Zu X.K H a xs)(h':Zu X.K H a ys):xs=ys:=by
 obtain⟨jL,r,⟨o,n,e,_,_,d⟩,_⟩:=I.list h;obtain⟨its',r',⟨o',n',e',_,_,d'⟩,_⟩:=I.list h';rw[e] at e';cases e';rw[d] at d';injection d' with d1 _;have:jL=its':=by simpa using congrArg Array.toList d1
 subst this;exact r.inj r'
theorem Inv.tuple_inj (I:Inv X jJ σ H s)(h:ZF X.K H a xs)(h':ZF X.K H a ys):xs=ys:=by
 obtain⟨jL,r,⟨o,e,_,n,d⟩,_⟩:=I.tuple h;obtain⟨its',r',⟨o',e',_,n',d'⟩,_⟩:=I.tuple h';rw[e] at e';cases e';rw[d] at d';injection d' with d1 _;have:jL=its':=by simpa using congrArg Array.toList d1
 subst this;exact r.inj r'
end
noncomputable abbrev Cx.wish (X:Cx)(E:Value->Shared->Prop):Cx:={ X with xe:=E }
noncomputable abbrev Cx.nox (X:Cx):Cx:=X.wish fun _ _=>False
theorem Cx.Ok.wish {X:Cx}(ok:X.Ok)(E:Value->Shared->Prop):(X.wish E).Ok:=
 ⟨ok.mod,ok.kind,ok.glob,ok.blt,ok.above,ok.inj,ok.has,ok.cab,ok.hd,ok.frames,ok.stk,ok.exf,ok.bs,ok.bsz,ok.noex,ok.exfs,ok.funs,ok.frf⟩
theorem Cx.Ok.unwish {X:Cx}{E:Value->Shared->Prop}(ok:(X.wish E).Ok):X.Ok:=
 ⟨ok.mod,ok.kind,ok.glob,ok.blt,ok.above,ok.inj,ok.has,ok.cab,ok.hd,ok.frames,ok.stk,ok.exf,ok.bs,ok.bsz,ok.noex,ok.exfs,ok.funs,ok.frf⟩
section
variable {X:Cx}{jJ:List (Addr×Obj)}{σ:St}{H:Hp}{s:Shared}{E:Value->Shared->Prop}
theorem Inv.wish (I:Inv X jJ σ H s)(E:Value->Shared->Prop):Inv (X.wish E) jJ σ H s:=⟨I.ok.wish E,I.os,I.bare,I.base,I.loc,I.cell,I.free,I.freeC,I.pin,I.hok,I.len⟩
theorem Inv.unwish (I:Inv (X.wish E) jJ σ H s):Inv X jJ σ H s:=⟨I.ok.unwish,I.os,I.bare,I.base,I.loc,I.cell,I.free,I.freeC,I.pin,I.hok,I.len⟩
theorem SP.unwish {D:Ends}{f:Flow}{s':Shared}(h:SP (X.wish E) jJ D f s'):SP X jJ D f s':=by
 cases f with
 | next=>obtain⟨σ',H',I,q⟩:=h;exact⟨σ',H',I.unwish,q⟩
 | brk=>obtain⟨σ',H',I,q⟩:=h;exact⟨σ',H',I.unwish,q⟩
 | cont=>obtain⟨σ',H',I,q⟩:=h;exact⟨σ',H',I.unwish,q⟩
 | ret u=>obtain⟨v,σ',H',I,r,q⟩:=h;exact⟨v,σ',H',I.unwish,r,q⟩
theorem PE.nox {e:Expr}{t:TE}(h:PE X.nox e t):PE X e t:=fun jJ s σ H Q I hw=>
 wpAny_mono (h jJ s σ H Q (I.wish _) hw) (fun _ _ ⟨v,H',I',r,q⟩=>⟨v,H',I'.unwish,r,q⟩) fun _ _ z=>zw z
theorem Wj.nox {st:List Stmt}{t:TS}(h:Wj X.nox st t):Wj X st t:=fun jJ s σ H D I hw=>
 wpAny_mono (h jJ s σ H D (I.wish _) hw) (fun _ _ q=>q.unwish) fun _ _ z=>zw z
end
section
variable {X:Cx}{st:Stmt}{rest:List Stmt}{t u:TS}{e:Expr}{te:TE}{pos:Pos}
noncomputable def ZhW:TS:=fun D σ H=>D.nx σ H
noncomputable def Vl (t u:TS):TS:=fun D σ H=>t { D with nx:=u D } σ H
theorem ZdD:Wj X [] ZhW:=fun _ _ σ H _ I h=>wpAny_execs_nil ⟨σ,H,I,h⟩
theorem WS (h1:PS X st t)(h2:Wj X rest u):Wj X (st::rest) (Vl t u):=by
 intro jJ s σ H D I h;refine wpAny_execs_cons (ZC (h1 jJ s σ H { D with nx:=u D } I h) fun f s1 q=>?_)
 cases f with
 | next=>
  obtain⟨σ',H',I',q⟩:=q;exact h2 jJ s1 σ' H' D I' q
 | ret v=>exact q
 | brk=>exact q
 | cont=>exact q
theorem JI (h1:PS X st t):Wj X [st] t:=by
 intro jJ s σ H D I h;refine wpAny_execs_cons (ZC (h1 jJ s σ H D I h) fun f s1 q=>?_)
 cases f with
 | next=>exact wpAny_execs_nil q
 | ret v=>exact q
 | brk=>exact q
 | cont=>exact q
theorem Inv.quiet {jJ:List (Addr×Obj)}{σ:St}{H:Hp}{s:Shared}(I:Inv X jJ σ H s):interactive X.env=false:=by simp[interactive,I.ok.kind]
noncomputable def VR (te:TE):TS:=fun D σ H=>te σ H fun _ H1=>D.nx σ H1
theorem ZdE (he:PE X e te)(hs:swapsWith e none pos.line X.env=pure false:=by rfl):PS X (.Expr e pos) (VR te):=by
 intro jJ s σ H D I h;exact wpAny_Expr_any (ZC (he jJ s σ H _ I h) fun v s1 ⟨x,H1,I1,r1,q1⟩=>⟨σ,H1,I1,q1⟩) I.quiet hs
noncomputable def tRet (te:TE):TS:=fun D σ H=>te σ H D.rt
theorem JO (he:PE X e te):PS X (.Return (some e) pos) (tRet te):=by
 intro jJ s σ H D I h;exact wpAny_Return_some (ZC (he jJ s σ H _ I h) fun v s1 ⟨x,H1,I1,r1,q1⟩=>⟨x,σ,H1,I1,r1,q1⟩)
noncomputable def tIfS (c:TT)(t u:TS):TS:=fun D σ H=>c σ H fun b H1=>if b=true then t D σ H1 else u D σ H1
theorem ZhX {c:Expr}{a b:List Stmt}{tc:TT}(hc:PT X c tc)(ha:Wj X a t)(hb:Wj X b u):PS X (.If c a b pos) (tIfS tc t u):=by
 intro jJ s σ H D I h;refine wpAny_If (ZC (hc jJ s σ H _ I h) fun d s1 ⟨H1,I1,q1⟩=>?_)
 cases d with
 | true=>exact ha jJ s1 σ H1 D I1 q1
 | false=>exact hb jJ s1 σ H1 D I1 q1
end
noncomputable abbrev TG:=V->St->Hp->(St->Hp->Prop)->Prop
noncomputable abbrev UC:=List V->St->Hp->(St->Hp->Prop)->Prop
noncomputable def PG (X:Cx)(target:Expr)(t:TG):Prop:=
 ∀(jJ:List (Addr×Obj)) (s:Shared) (σ:St) (H:Hp) (v:V) (u:Value) (Q:St->Hp->Prop),Inv X jJ σ H s->ZA v u->t v σ H Q->
  wpAny (model X.prog X.w) X.A (assign target X.env u) (fun _ s'=>∃σ' H',Inv X jJ σ' H' s'/\Q σ' H') X.xe s
noncomputable def Jg (X:Cx)(ts:List Expr)(t:UC):Prop:=
 ∀(jJ:List (Addr×Obj)) (s:Shared) (σ:St) (H:Hp) (vs:List V) (us:List Value) (Q:St->Hp->Prop),Inv X jJ σ H s->Zs vs us->t vs σ H Q->
  wpAny (model X.prog X.w) X.A (assignInOrder ((assignEach ts X.env).map (·.2)) us) (fun _ s'=>∃σ' H',Inv X jJ σ' H' s'/\Q σ' H') X.xe s
noncomputable abbrev TSet:=V->V->V->Hp->(Hp->Prop)->Prop
noncomputable def PSet (X:Cx)(t:TSet):Prop:=
 ∀(jJ:List (Addr×Obj)) (s:Shared) (σ:St) (H:Hp) (o i v:V) (ov iv u:Value) (Q:Hp->Prop),Inv X jJ σ H s->ZA o ov->ZA i iv->ZA v u->t o i v H Q->
  wpAny (model X.prog X.w) X.A (setItem ov iv u) (fun _ s'=>∃H',Inv X jJ σ H' s'/\Q H') X.xe s
section
variable {X:Cx}{pos:Pos}
noncomputable def Wd (i:Nat):TG:=fun v σ H Q=>Q (σ.set i (some v)) H
theorem X1 {i:Nat}{x:Str}(hN:X.N.Nodup)(hi:X.N[i]?=some x)(hx:W8 X.env.scope x)(hf:X.fn x=true∨X.env.scope.names.lookup x=some .local:=by first | exact .inl rfl | exact .inr rfl | assumption):PG X (.Name x pos) (Wd i):=by
 intro jJ s σ H v u Q I r h;exact wpAny_assign_Name (BB I hN hi hx r (fun s' I'=>⟨_,H,I',h⟩) hf)
noncomputable def gNil:UC:=fun vs σ H Q=>vs=[]/\Q σ H
noncomputable def U1 (t:TG)(u:UC):UC:=fun vs σ H Q=>∃v r,vs=v::r/\t v σ H fun σ' H'=>u r σ' H' Q
theorem JJ:Jg X [] gNil:=by
 intro jJ s σ H vs us Q I r h;obtain⟨e,h⟩:=h;subst e
 cases r
 exact assignInOrder_nil ⟨σ,H,I,h⟩
theorem WT {e:Expr}{es:List Expr}{t:TG}{u:UC}(h1:PG X e t)(h2:Jg X es u)
  (hs:(assignEach (e::es) X.env).map (·.2)=assign e X.env::(assignEach es X.env).map (·.2):=by rfl):Jg X (e::es) (U1 t u):=by
 intro jJ s σ H vs us Q I r h;obtain⟨v,vr,e1,h⟩:=h;subst e1
 cases r with
 | cons r rr=>
  rw[hs];refine assignInOrder_cons (ZC (h1 jJ s σ H _ _ _ I r h) fun _ s1 ⟨σ1,H1,I1,q1⟩=>?_);exact h2 jJ s1 σ1 H1 _ _ Q I1 rr q1
noncomputable def gTup (K:qf)(n:Nat)(t:UC):TG:=fun v σ H Q=>∃a xs,v=.ref a/\ZF K H a xs/\xs.length=n/\t xs σ H Q
theorem ZhY {es:List Expr}{k:Nat}{t:UC}{n:Nat}(hc:X.calm=true)(h:Jg X es t)
  (hn:(assignEach es X.env).length=n:=by rfl) (hst:(assignEach es X.env).findIdx? (·.1)=none:=by rfl):PG X (.Tuple es k pos) (gTup X.K n t):=by
 intro jJ s σ H v u Q I r hw;obtain⟨a,xs,e1,hq,hl,hw⟩:=hw;subst e1
 cases r
 obtain⟨jL,rv,ht,hz⟩:=I.tuple hq;refine assign_Tuple_tuple (I.ok.hd hc) ht (by simp[hn,<-hl,rv.length]) hst fun h' hx=>?_;have I1:Inv X jJ σ H { s with heap:=h' }:=I.kept (t':=s.toks) fun b o e=>hx b o (qP (qz e)) e;exact h jJ _ σ H xs _ Q I1 (by simpa using rv) hw
noncomputable def gSub (to ti:TE)(t:TSet):TG:=fun v σ H Q=>to σ H fun o H1=>ti σ H1 fun i H2=>t o i v H2 fun H3=>Q σ H3
theorem ZhZ {o i:Expr}{to ti:TE}{t:TSet}(ho:PE X o to)(hi:PE X i ti)(hs:PSet X t)
  (ha:∀v,assign (.Subscript o i pos) X.env v=(do
   let ov<-holding [v] (eval o X.env)
   let iv<-holding [v,ov] (eval i X.env)
   standAt pos
   holding [v,ov,iv] (setItem ov iv v)
   release [v,ov,iv] []):=by intro _;rfl):PG X (.Subscript o i pos) (gSub to ti t):=by
 intro jJ s σ H v u Q I r h;rw[ha];refine wpAny_bind (wpAny_holding (ZC (ho jJ s σ H _ I h) fun ov s1 ⟨x,H1,I1,r1,q1⟩=>?_));refine wpAny_bind (wpAny_holding (ZC (hi jJ s1 σ H1 _ I1 q1) fun iv s2 ⟨y,H2,I2,r2,q2⟩=>?_));refine wpAny_bind (wpAny_standAt (wpAny_bind (wpAny_holding (ZC (hs jJ s2 σ H2 x y v ov iv u _ I2 r1 r2 r q2) fun _ s3 ⟨H3,I3,q3⟩=>?_))));exact wpAny_release ⟨σ,H3,I3,q3⟩
noncomputable def VY (te:TE)(g:TG):TS:=fun D σ H=>te σ H fun x H1=>g x σ H1 D.nx
theorem Ze6 {tg e:Expr}{te:TE}{g:TG}(he:PE X e te)(hg:PG X tg g)(hs:swapsWithSole [tg] e pos.line X.env=pure false:=by rfl)(hw:swappedStores [tg] e X.env=pure none:=by rfl)
  (h1:(assignEach [tg] X.env).map (·.2)=[assign tg X.env]:=by rfl):PS X (.Assign [tg] e pos) (VY te g):=by
 intro jJ s σ H D I h;refine wpAny_Assign_stores (ZC (he jJ s σ H _ I h) fun v s1 ⟨x,H1,I1,r1,q1⟩=>?_) hs hw;rw[h1];exact ZC (hg jJ s1 σ H1 x v _ I1 r1 q1) fun _ s2 q=>q
theorem Um {i:Nat}{x:Str}{e:Expr}{te:TE}{pos':Pos}(hN:X.N.Nodup)(hi:X.N[i]?=some x)(hx:W8 X.env.scope x)(he:PE X e te)(hs:swapsWith e (some (.Name x pos')) pos.line X.env=pure false:=by rfl)(hf:X.fn x=true∨X.env.scope.names.lookup x=some .local:=by first | exact .inl rfl | exact .inr rfl | assumption) :
  PS X (.Assign [.Name x pos'] e pos) (VY te (Wd i)):=by
 intro jJ s σ H D I h;refine wpAny_Assign_Name (ZC (he jJ s σ H _ I h) fun v s1 ⟨y,H1,I1,r1,q1⟩=>?_) hs;exact BB I1 hN hi hx r1 (fun s2 I2=>⟨_,H1,I2,q1⟩) hf
noncomputable def tPar (i j:Nat)(ta:TA):TS:=fun D σ H=>ta σ H fun vs H1=>∃v w,vs=[v,w]/\D.nx ((σ.set i (some v)).set j (some w)) H1
theorem ZlL {i j:Nat}{x y:Str}{a b:Expr}{ta:TA}{px py pt:Pos}{kt k2 pt2}(hc:X.calm=true)(hN:X.N.Nodup)(hi:X.N[i]?=some x)(hj:X.N[j]?=some y)(hij:i≠j)
  (hx:X.env.scope.names.lookup x=some .local) (hy:X.env.scope.names.lookup y=some .local) (ha:PA X [a,b] ta)
  (hw:swappedStores [.Tuple [.Name x px,.Name y py] kt pt] (.Tuple [a,b] k2 pt2) X.env=pure (some [x,y]))
  (hs:swapsWithSole [.Tuple [.Name x px,.Name y py] kt pt] (.Tuple [a,b] k2 pt2) pos.line X.env=pure false:=by rfl) :
  PS X (.Assign [.Tuple [.Name x px,.Name y py] kt pt] (.Tuple [a,b] k2 pt2) pos) (tPar i j ta):=by
 intro jJ s σ H D I h;rw[exec_Assign_arm];refine wpAny_bind (wpAny_standAt ?_);rw[hs];refine wpAny_bind (wpAny_pure ?_);rw[if_neg (by decide)];refine wpAny_bind (Tuple_ (ZC (ha _ jJ s σ H _ I h) fun us s1 ⟨vs,H1,I1,r1,q1⟩=>?_));obtain⟨v,w,e1,q1⟩:=q1;subst e1;obtain⟨u1,u2,rfl,rv,rw'⟩:∃u1 u2,us=[u1,u2]/\ZA v u1/\ZA w u2:=by
  cases r1 with
  | cons p q=>
   cases q with
   | cons p' q'=>
    cases q'
    exact⟨_,_,rfl,p,p'⟩
 refine wpAny_newObj_type ?_ (by show 2<=sizeLine;decide);have I2:Inv X jJ σ H1 { s1 with heap:=s1.heap.push { cls:=.type "tuple",data:=.seq [u1,u2].toArray } }:=I1.kept (t':=s1.toks) fun b o e=>qd _ e;rw[hw];refine wpAny_bind (wpAny_pure ?_);show wpAny (model X.prog X.w) X.A (do rule "assign.swapped-stores";let items<-unpackItems (.ref s1.heap.objs.size) 2 none;assignInOrder [fun v=>bindName X.env y v,fun v=>bindName X.env x v] items.reverse;pure Flow.next) _ _ _;refine wpAny_bind (wpAny_rule (wpAny_bind (unpackItems_tuple (items:=#[u1,u2]) (I.ok.hd hc) (qaE s1.heap _) fun h' hx'=>?_)));have I3:=I2.kept (h':=h') (t':=s1.toks) fun b o e=>hx' b o (qP (qz e)) e;show wpAny _ _ (assignInOrder [fun v=>bindName X.env y v,fun v=>bindName X.env x v] [u2,u1] >>= fun _=>pure Flow.next) _ _ _;refine wpAny_bind (assignInOrder_cons (wpAny_bindName (BB I3 hN hj (.inl hy) rw' (fun s2 I4=>?_) (.inr hy))));refine assignInOrder_cons (wpAny_bindName (BB I4 hN hi (.inl hx) rv (fun s3 I5=>assignInOrder_nil (wpAny_pure ?_)) (.inr hx)));rw[List.set_comm _ _ (zl hij)] at I5;exact⟨_,H1,I5,q1⟩
end
section
variable {X:Cx}{pos:Pos}
end
structure It where
 go:Nat->Hp->Prop
 yld:Nat->Hp->V->Hp->Prop
 stop:Nat->Hp->Prop
noncomputable def X4 (X:Cx)(jJ:List (Addr×Obj))(H:Hp)(b:Addr):Prop:=
 H b=none/\b≠X.env.locals/\b∉X.fs/\(b∈X.ex∨X.s₀.heap.objs.size<=b)/\(∀x c,X.env.cells.lookup x=some c->c≠b)/\∀p∈X.pn++jJ,p.1≠b
theorem Inv.fpOk {X:Cx}{jJ:List (Addr×Obj)}{σ:St}{H H':Hp}{s:Shared}{b:Addr}(I:Inv X jJ σ H s)(hb:s.heap.objs.size<=b)(hn:H' b=none):X4 X jJ H' b:=by
 refine⟨hn,qaW (qN I.lt hb),I.nofs hb,.inr (qZ I.sz hb),fun x c e z=>?_,fun p hp z=>?_⟩
 ·obtain⟨v,q⟩:=I.cell x c e
  exact absurd (qN q.lt (by rw[z];exact hb)) (z6 _)
 ·exact absurd (qN (qz (I.pin p hp).1) (by rw[z];exact hb)) (z6 _)
structure Turn (P:Program)(w:World)(K:qf)(tg:Expr)(J:It)(fp:List Addr)(it:Addr)(tn:Nat->Heap->Prop):Prop where
 mem:it∈fp
 obj:∀i h,tn i h->∀b∈fp,∃o,h.get? b=some o/\∀v,o.data≠.cell v
 keep:∀i h h',tn i h->(∀b∈fp,∀o,h.get? b=some o->h'.get? b=some o)->tn i h'
 item:∀(X:Cx),X.prog=P->X.w=w->X.K=K->X.calm=true->∀(i:Nat) (jJ:List (Addr×Obj)) (s:Shared) (σ:St) (H:Hp) (E:Value->Shared->Prop),Inv X jJ σ H s->(∀b∈fp,X4 X jJ H b)->tn i s.heap->J.go i H->
  wpAny (model P w) X.A (pyNext (.ref it)) (fun r s1=>∃u,r=some u/\
   wpAny (model P w) X.A (letOwnedTupleGo tg (.ref it) u) (fun _ s2=>∃x H',Inv X jJ σ H' s2/\ZA x u/\J.yld i H x H'/\tn (i+1) s2.heap/\∀b∈fp,H' b=none) E s1) E s
 done:∀(X:Cx),X.prog=P->X.w=w->X.K=K->X.calm=true->∀(i:Nat) (jJ:List (Addr×Obj)) (s:Shared) (σ:St) (H:Hp) (E:Value->Shared->Prop),Inv X jJ σ H s->(∀b∈fp,X4 X jJ H b)->tn i s.heap->J.stop i H->
  wpAny (model P w) X.A (pyNext (.ref it)) (fun r s1=>r=none/\Inv X jJ σ H s1) E s
 self:∀(A:Around) (i:Nat) (s:Shared) (Q:Value->Shared->Prop) (E:Value->Shared->Prop),tn i s.heap->Q (.ref it) s->wpAny (model P w) A (pyIter (.ref it)) Q E s
noncomputable abbrev TI:=St->Hp->(It->Hp->Prop)->Prop
noncomputable def PIE (X:Cx)(jJ:List (Addr×Obj))(σ:St)(tg:Expr)(R:It->Hp->Prop)(itv:Value)(s2:Shared):Prop:=
 ∃(it:Addr) (fp:List Addr) (tn:Nat->Heap->Prop) (J:It) (H':Hp),itv=.ref it/\Inv X jJ σ H' s2/\Turn X.prog X.w X.K tg J fp it tn/\tn 0 s2.heap/\(∀b∈fp,X4 X jJ H' b)/\R J H'
noncomputable def PI (X:Cx)(tg iter:Expr)(wi:TI):Prop:=
 ∀(jJ:List (Addr×Obj)) (s:Shared) (σ:St) (H:Hp) (R:It->Hp->Prop),Inv X jJ σ H s->wi σ H R->
  wpAny (model X.prog X.w) X.A (eval iter X.env) (fun v s1=>wpAny (model X.prog X.w) X.A (pyIter v) (PIE X jJ σ tg R) X.xe s1) X.xe s
theorem Zh0 {M : Model}{A : Around}{E : Value -> Shared -> Prop}{s : Shared}{tg : Expr}{it : Addr}{u : Value}{o : Obj}{n : String}{vs : Array Value}{Q : Unit -> Shared -> Prop}(ho : s.heap.get? it = some o)(hc : o.cls = .type n)(hd : o.data = .fields vs)
    (hn : ["enumerate", "zip", "dict_itemiterator", "dict_reverseitemiterator", "odict_iterator", "itertools.zip_longest", "itertools.pairwise"].contains n = false) (hQ : Q () s) : wpAny M A (letOwnedTupleGo tg (.ref it) u) Q E s := by
  unfold letOwnedTupleGo
  cases tg <;> first
    | exact wpAny_pure hQ
    | (cases u <;> first
        | exact wpAny_pure hQ
        | (refine wpAny_bind (wpAny_load ho ?_)
           rw[hc, hd];show wpAny M A (if (["enumerate", "zip", "dict_itemiterator", "dict_reverseitemiterator", "odict_iterator", "itertools.zip_longest", "itertools.pairwise"].contains n && vs[0]? == some (rawInt _)) = true then _ else _) Q E s;rw[if_neg (by intro h; rw[hn, Bool.false_and] at h; cases h)];exact wpAny_pure hQ))
noncomputable def Itl (K:qf)(a:Addr):It:=
 ⟨fun i H=>∃xs x,Zu K H a xs/\xs[i]?=some x,fun i H x H'=>H'=H/\∀xs,Zu K H a xs->xs[i]?=some x,fun i H=>∃xs,Zu K H a xs/\xs.length<=i⟩
noncomputable def Itt (K:qf)(a:Addr):It:=
 ⟨fun i H=>∃xs x,ZF K H a xs/\xs[i]?=some x,fun i H x H'=>H'=H/\∀xs,ZF K H a xs->xs[i]?=some x,fun i H=>∃xs,ZF K H a xs/\xs.length<=i⟩
noncomputable def Be (lo:Int)(n:Nat):It:=⟨fun i _=>i<n,fun i H x H'=>H'=H/\x=.int (lo+i),fun i _=>n<=i⟩
theorem ZgL {P:Program}{w:World}{K:qf}{tg:Expr}(a it:Addr):Turn P w K tg (Itl K a) [it] it (fun i h=>h.IsListIter it a i) where
 mem:=by simp
 obj:=fun i h st b hb=>by
  have e:b=it:=by simpa using hb
  subst e;obtain⟨o,e,c,d⟩:=st;exact⟨o,e,fun v z=>by rw[d] at z;cases z⟩
 keep:=fun i h h' st k=>st.at fun o e=>k it (by simp) o e
 item:=by
  intro X hP hw hK hc i jJ s σ H E I hf st hg;subst hP hw hK;obtain⟨xs,x,hq,hx⟩:=hg;obtain⟨jL,rv,p,hz⟩:=I.list hq;obtain⟨u,hu,ru⟩:=rv.get hx;obtain⟨f0,f1,f2,f3,f4,f5⟩:=hf it (by simp);refine wpAny_pyNext_list_item st p.isList (x:=u) (by simpa using hu) fun h' st' sb=>?_;have I1:Inv X jJ σ H { s with heap:=h' }:=I.turned (t':=s.toks) (fun b o hb e=>(sb.2 b hb).trans e) f0 f1 f3 f4 f5;obtain⟨o,e,c,d⟩:=id st';exact⟨u,rfl,Zh0 (s:={ s with heap:=h' }) e c d (by decide) ⟨x,H,I1,ru,⟨rfl,fun ys hy=>by rw[I.list_inj hy hq];exact hx⟩,st',fun b hb=>(hf b hb).1⟩⟩
 done:=by
  intro X hP hw hK hc i jJ s σ H E I hf st hg;subst hP hw hK;obtain⟨xs,hq,hx⟩:=hg;obtain⟨jL,rv,p,hz⟩:=I.list hq;obtain⟨f0,f1,f2,f3,f4,f5⟩:=hf it (by simp);have hl:=rv.length;exact wpAny_pyNext_list_end (I.ok.hd hc) st p.isList (by simp;omega) fun h' eb=>⟨rfl,I.turned (t':=s.toks) (fun b o hb e=>eb b o hb e) f0 f1 f3 f4 f5⟩
 self:=fun _ _ _ _ _ st h=>wpAny_pyIter_listiter st h
theorem Ze7 {P:Program}{w:World}{K:qf}{tg:Expr}(a it:Addr):Turn P w K tg (Itt K a) [it] it (fun i h=>h.IsTupleIter it a i) where
 mem:=by simp
 obj:=fun i h st b hb=>by
  have e:b=it:=by simpa using hb
  subst e;obtain⟨o,e,c,d⟩:=st;exact⟨o,e,fun v z=>by rw[d] at z;cases z⟩
 keep:=fun i h h' st k=>st.at fun o e=>k it (by simp) o e
 item:=by
  intro X hP hw hK hc i jJ s σ H E I hf st hg;subst hP hw hK;obtain⟨xs,x,hq,hx⟩:=hg;obtain⟨jL,rv,p,hz⟩:=I.tuple hq;obtain⟨u,hu,ru⟩:=rv.get hx;obtain⟨f0,f1,f2,f3,f4,f5⟩:=hf it (by simp);refine wpAny_pyNext_tuple_item st (show s.heap.IsTuple a jL.toArray from p) (x:=u) (by simpa using hu) fun h' st' sb=>?_;have I1:Inv X jJ σ H { s with heap:=h' }:=I.turned (t':=s.toks) (fun b o hb e=>(sb.2 b hb).trans e) f0 f1 f3 f4 f5;obtain⟨o,e,c,d⟩:=id st';exact⟨u,rfl,Zh0 (s:={ s with heap:=h' }) e c d (by decide) ⟨x,H,I1,ru,⟨rfl,fun ys hy=>by rw[I.tuple_inj hy hq];exact hx⟩,st',fun b hb=>(hf b hb).1⟩⟩
 done:=by
  intro X hP hw hK hc i jJ s σ H E I hf st hg;subst hP hw hK;obtain⟨xs,hq,hx⟩:=hg;obtain⟨jL,rv,p,hz⟩:=I.tuple hq;obtain⟨f0,f1,f2,f3,f4,f5⟩:=hf it (by simp);have hl:=rv.length;exact wpAny_pyNext_tuple_end (I.ok.hd hc) st (show s.heap.IsTuple a jL.toArray from p) (by simp;omega) fun h' eb=>⟨rfl,I.turned (t':=s.toks) (fun b o hb e=>eb b o hb e) f0 f1 f3 f4 f5⟩
 self:=fun _ _ _ _ _ st h=>wpAny_pyIter_tupleiter st h
theorem Ze8 {P:Program}{w:World}{K:qf}{tg:Expr}(it:Addr)(lo:Int)(n:Nat):Turn P w K tg (Be lo n) [it] it (fun i h=>IsRangeIter h it (lo+(i:Nat)*1) ((n:Int)-(i:Nat)) 1) where
 mem:=by simp
 obj:=fun i h st b hb=>by
  have e:b=it:=by simpa using hb
  subst e;exact⟨_,st,fun v z=>by
   have z':Data.fields _=Data.cell v:=z
   cases z'⟩
 keep:=fun i h h' st k=>k it (by simp) _ st
 item:=by
  intro X hP hw hK hc i jJ s σ H E I hf st hg;subst hP hw hK;obtain⟨f0,f1,f2,f3,f4,f5⟩:=hf it (by simp);have W:=Walks.range (prog:=X.prog) (w:=X.w) (I.ok.hd hc) it lo 1 n;refine W.item i s _ _ hg st fun v h' tk hv st' kk=>?_;obtain⟨t,rfl⟩:=hv;have I1:Inv X jJ σ H { s with heap:=h',toks:=tk }:=I.turned (fun b o hb e=>kk b o (by simpa using hb) e) f0 f1 f3 f4 f5;refine⟨_,rfl,Zh0 (s:={ s with heap:=h',toks:=tk }) (n:="range_iterator") st' rfl rfl (by decide) ⟨.int (lo+i),H,I1,⟨t,?_⟩,⟨rfl,rfl⟩,st',fun b hb=>(hf b hb).1⟩⟩;rw[Int.mul_one]
 done:=by
  intro X hP hw hK hc i jJ s σ H E I hf st hg;subst hP hw hK;obtain⟨f0,f1,f2,f3,f4,f5⟩:=hf it (by simp);exact wpAny_pyNext_range_end (I.ok.hd hc) st (by have:n<=i:=hg;omega) fun h' eb=>⟨rfl,I.turned (t':=s.toks) (fun b o hb e=>eb b o hb e) f0 f1 f3 f4 f5⟩
 self:=fun _ _ _ _ _ st h=>wpAny_pyIter_rangeiter st h
end L2
namespace L2
section
variable {X:Cx}{tg:Expr}
noncomputable def Zh1 (K:qf)(tl:TE):TI:=fun σ H R=>tl σ H fun x H1=>∃a,x=.ref a/\(∃xs,Zu K H1 a xs)/\R (Itl K a) H1
noncomputable def iTup (K:qf)(tl:TE):TI:=fun σ H R=>tl σ H fun x H1=>∃a,x=.ref a/\(∃xs,ZF K H1 a xs)/\R (Itt K a) H1
theorem ZdF {l:Expr}{tl:TE}(hl:PE X l tl):PI X tg l (Zh1 X.K tl):=by
 intro jJ s σ H R I h;refine ZC (hl jJ s σ H _ I h) fun v s1 ⟨x,H1,I1,r1,q1⟩=>?_;obtain⟨a,e,⟨xs,hq⟩,q⟩:=q1;subst e
 cases r1
 obtain⟨jL,rv,p,hz⟩:=I1.list hq;refine wpAny_pyIter_list p.isList ?_;refine⟨s1.heap.objs.size,[s1.heap.objs.size],_,_,H1,rfl,I1.kept (t':=s1.toks) fun b o e=>qd _ e,ZgL a _,⟨_,qy _ rfl,rfl,rfl⟩,fun b hb=>?_,q⟩;have e:b=s1.heap.objs.size:=by simpa using hb
 subst e;exact I1.fpOk (qp _) (I1.hok.fresh (qp _))
theorem ZlM {l:Expr}{tl:TE}(hl:PE X l tl):PI X tg l (iTup X.K tl):=by
 intro jJ s σ H R I h;refine ZC (hl jJ s σ H _ I h) fun v s1 ⟨x,H1,I1,r1,q1⟩=>?_;obtain⟨a,e,⟨xs,hq⟩,q⟩:=q1;subst e
 cases r1
 obtain⟨jL,rv,p,hz⟩:=I1.tuple hq;refine wpAny_pyIter_tuple (show s1.heap.IsTuple a jL.toArray from p) ?_;refine⟨s1.heap.objs.size,[s1.heap.objs.size],_,_,H1,rfl,I1.kept (t':=s1.toks) fun b o e=>qd _ e,Ze7 a _,⟨_,qy _ rfl,rfl,rfl⟩,fun b hb=>?_,q⟩;have e:b=s1.heap.objs.size:=by simpa using hb
 subst e;exact I1.fpOk (qp _) (I1.hok.fresh (qp _))
theorem Zd7 {jJ:List (Addr×Obj)}{σ:St}{H:Hp}{s:Shared}{R:It->Hp->Prop}{E:Value->Shared->Prop}{lo hi:Int}{t u v:Tok}{tk:Nat}(I:Inv X jJ σ H s)(h1:-(2 ^ 62)<=lo)(h2:lo<2 ^ 62)(h3:-(2 ^ 62)<=hi)(h4:hi<2 ^ 62)
  (q:R (Be lo (hi-lo).toNat) H):wpAny (model X.prog X.w) X.A (pyIter (.ref s.heap.objs.size)) (PIE X jJ σ tg R) E { s with heap:=s.heap.push { cls:=.type "range",data:=.fields #[.int lo t,.int hi u,.int 1 v] },toks:=tk }:=by
 refine wpAny_pyIter_range (IsRange.new ..) (small_one h1 h2 h3 h4) ?_;have I1:Inv X jJ σ H { s with heap:=s.heap.push { cls:=.type "range",data:=.fields #[.int lo t,.int hi u,.int 1 v] },toks:=tk }:=I.kept fun b o e=>qd _ e;refine⟨(s.heap.push { cls:=.type "range",data:=.fields #[.int lo t,.int hi u,.int 1 v] }).objs.size,[(s.heap.push { cls:=.type "range",data:=.fields #[.int lo t,.int hi u,.int 1 v] }).objs.size],_,_,H,rfl,
  I1.kept (t':=tk) fun b o e=>qd _ e,Ze8 _ lo (hi-lo).toNat,?_,fun b hb=>?_,q⟩
 ·have e1:lo+((0:Nat):Int)*1=lo:=by simp
  have e2:(((hi-lo).toNat:Nat):Int)-((0:Nat):Int)=yw lo hi 1:=by rw[rangeSize_one];split <;> omega
  show IsRangeIter _ _ (lo+((0:Nat):Int)*1) ((((hi-lo).toNat:Nat):Int)-((0:Nat):Int)) 1;rw[e1,e2];exact qy _ rfl
 ·have e:b=(s.heap.push { cls:=.type "range",data:=.fields #[.int lo t,.int hi u,.int 1 v] }).objs.size:=by simpa using hb
  subst e;exact I1.fpOk (qp _) (I1.hok.fresh (qp _))
noncomputable def ZmR (ta:TA):TI:=fun σ H R=>ta σ H fun vs H1=>∃j:Int,vs=[.int j]/\-(2 ^ 62)<=j/\j<2 ^ 62/\R (Be 0 j.toNat) H1
noncomputable def ZmS (ta:TA):TI:=fun σ H R=>ta σ H fun vs H1=>∃i j:Int,vs=[.int i,.int j]/\(-(2 ^ 62)<=i/\i<2 ^ 62/\-(2 ^ 62)<=j/\j<2 ^ 62)/\R (Be i (j-i).toNat) H1
theorem Zc0 {a:Expr}{ta:TA}{p pos:Pos}(hg:Gl X "range")(hm:X.mg "range" = none)(ha:PA X [a] ta)(hs:starEach [a] X.env=[(false,eval a X.env)]:=by rfl):PI X tg (.Call (.Name "range" p) [a] [] pos) (ZmR ta):=by
 intro jJ s σ H R I h;refine Call_ (VN I hg hm boot_range (zC (ZC (ha pos jJ s σ H _ I h) fun us s1 ⟨vs,H1,I1,r1,q1⟩=>?_) hs rfl));obtain⟨j,e,q1,q2,q⟩:=q1;subst e
 cases r1 with
 | cons r rr=>
  cases rr
  obtain⟨t,rfl⟩:=r;exact call_range_1 (Zd7 I1 (by omega) (by omega) q1 q2 (by simpa using q))
theorem ZgM {a b:Expr}{ta:TA}{p pos:Pos}(hg:Gl X "range")(hm:X.mg "range" = none)(ha:PA X [a,b] ta)(hs:starEach [a,b] X.env=[(false,eval a X.env),(false,eval b X.env)]:=by rfl)(hs2:starEach [b] X.env=[(false,eval b X.env)]:=by rfl) :
  PI X tg (.Call (.Name "range" p) [a,b] [] pos) (ZmS ta):=by
 intro jJ s σ H R I h;refine Call_ (VN I hg hm boot_range (zC (ZC (ha pos jJ s σ H _ I h) fun us s1 ⟨vs,H1,I1,r1,q1⟩=>?_) (by rw[hs,hs2]) (by rw[hs2];rfl)));obtain⟨i,j,e,⟨q1,q2,q3,q4⟩,q⟩:=q1;subst e
 cases r1 with
 | cons r rr=>
  cases rr with
  | cons r' rr=>
   cases rr
   obtain⟨t,rfl⟩:=r;obtain⟨t',rfl⟩:=r';exact call_range_2 (Zd7 I1 q1 q2 q3 q4 q)
noncomputable def tFor (wi:TI)(g:TG)(tb:TS):TS:=fun D σ H=>wi σ H fun J H1=>∃W:Nat->Nat->St->Hp->Prop,(∃m,W 0 m σ H1)/\∀i m σ H,W i m σ H->
 (J.stop i H/\D.nx σ H)∨(J.go i H/\∃N:St->Hp->Prop,(∀σ' H',N σ' H'->∃m',m'<m/\W (i+1) m' σ' H')/\∀x H',J.yld i H x H'->g x σ H' fun σ2 H2=>tb { D with nx:=N,ct:=N,bk:=D.nx } σ2 H2)
noncomputable def JP (fp:List Addr)(h:Heap):List (Addr×Obj):=fp.filterMap fun b=>(h.get? b).map fun o=>(b,o)
theorem UJ {fp:List Addr}{h:Heap}{b:Addr}{o:Obj}(hb:b∈fp)(e:h.get? b=some o):(b,o)∈JP fp h:=yS.mpr ⟨b,hb,by rw[e];rfl⟩
theorem ZgN {fp:List Addr}{h:Heap}{p:Addr×Obj}(hp:p∈JP fp h):p.1∈fp/\h.get? p.1=some p.2:=by
 obtain⟨b,hb,e⟩:=yS.mp hp
 cases q:h.get? b with
 | none=>rw[q] at e;cases e
 | some o=>
  rw[q] at e;have e':(b,o)=p:=qY e;subst e';exact⟨hb,q⟩
theorem Inv.pinned {jJ:List (Addr×Obj)}{σ:St}{H:Hp}{s:Shared}{fp:List Addr}(I:Inv X jJ σ H s)(hf:∀b∈fp,X4 X jJ H b)(ho:∀b∈fp,∃o,s.heap.get? b=some o/\∀v,o.data≠.cell v):Inv X (jJ++JP fp s.heap) σ H s:=
 I.pins_of fun p hp=>(qV.mp hp).elim (fun z=>I.pin p (qk _ z)) fun z=>by
  obtain⟨hb,e⟩:=ZgN z;obtain⟨f0,f1,f2,_⟩:=hf p.1 hb;obtain⟨o,e',d⟩:=ho p.1 hb;rw[e] at e';cases e';exact⟨e,f0,f1,f2,d⟩
theorem Inv.unpinned {jJ pl:List (Addr×Obj)}{σ:St}{H:Hp}{s:Shared}(I:Inv X (jJ++pl) σ H s):Inv X jJ σ H s:=I.pins_of fun p hp=>I.pin p (qk _ (qU _ hp))
theorem Zh2 {iter:Expr}{body:List Stmt}{wi:TI}{g:TG}{tb:TS}{pos:Pos}(hp:PassesOwn (model X.prog X.w) X.A X.env X.xe)(hc:X.calm=true)(hi:PI X tg iter wi)(hg:PG X tg g)(hb:Wj X body tb)
  (hs:∀x,foldedSetIterable iter X.env x=pure x:=by intro _;rfl):PS X (.For tg iter body [] pos) (tFor wi g tb):=by
 intro jJ s σ H D I h;refine wpAny_For (ZC (hi jJ s σ H _ I h) fun v s1 h1=>ZC h1 fun itv s2 h2=>?_) hs;obtain⟨it,fp,tn,J,H2,e,I2,T,j7,f2,W,⟨m0,w0⟩,turn⟩:=h2;subst e
 -- what stays true of the iterator's objects through the loop
 have stat:∀{H':Hp},(∀b∈fp,H' b=none)->∀b∈fp,X4 X jJ H' b:=fun hn b hb=>⟨hn b hb,(f2 b hb).2⟩;refine codeAny_forLoop_any (fun n s'=>∃i σ' H',Inv X jJ σ' H' s'/\tn i s'.heap/\(∀b∈fp,H' b=none)/\W i n σ' H') ?_ m0 ⟨0,σ,H2,I2,j7,fun b hb=>(f2 b hb).1,w0⟩;rintro n s3 ⟨i,σ3,H3,I3,st3,fr3,w3⟩;rcases turn i n σ3 H3 w3 with⟨stop,qn⟩ | ⟨go,N,hN,step⟩
 ·refine wpAny_passesOwn hp (ZC (T.done X rfl rfl rfl hc i jJ s3 σ3 H3 X.xe I3 (stat fr3) st3 stop) fun r s4 ⟨hr,I4⟩=>?_)
  subst hr;exact wpAny_execs_nil ⟨σ3,H3,I4,qn⟩
 ·refine wpAny_passesOwn hp (ZC (T.item X rfl rfl rfl hc i jJ s3 σ3 H3 X.xe I3 (stat fr3) st3 go) fun r s4 ⟨u,hr,h4⟩=>?_)
  subst hr;refine wpAny_passesOwn hp (ZC h4 fun _ s5 ⟨x,H5,I5,r5,y5,st5,fr5⟩=>?_);have I5':=I5.pinned (stat fr5) (T.obj _ _ st5);refine wpAny_passesOwn hp (ZC (hg _ s5 σ3 H5 x u _ I5' r5 (step x H5 y5)) fun _ s6 ⟨σ6,H6,I6,q6⟩=>?_);refine wpAny_passesOwn hp (ZC (hb _ s6 σ6 H6 _ I6 q6) fun f s7 q7=>?_);have again:∀{σ7:St} {H7:Hp},Inv X (jJ++JP fp s5.heap) σ7 H7 s7->N σ7 H7->∃m,m<n/\∃i σ' H',Inv X jJ σ' H' s7/\tn i s7.heap/\(∀b∈fp,H' b=none)/\W i m σ' H':=fun {σ7 H7} I7 n7=>by
   obtain⟨m',hm,w7⟩:=hN σ7 H7 n7;refine⟨m',hm,i+1,σ7,H7,I7.unpinned,T.keep _ _ _ st5 fun b hb o e=>(I7.pin (b,o) (qk _ (qk _ (UJ hb e)))).1,fun b hb=>?_,w7⟩;obtain⟨o,e,d⟩:=T.obj _ _ st5 b hb;exact(I7.pin (b,o) (qk _ (qk _ (UJ hb e)))).2.1
  cases f with
  | next=>obtain⟨σ7,H7,I7,n7⟩:=q7;exact again I7 n7
  | cont=>obtain⟨σ7,H7,I7,n7⟩:=q7;exact again I7 n7
  | brk=>obtain⟨σ7,H7,I7,q7⟩:=q7;exact⟨σ7,H7,I7.unpinned,q7⟩
  | ret v=>obtain⟨x7,σ7,H7,I7,r7,q7⟩:=q7;exact⟨x7,σ7,H7,I7.unpinned,r7,q7⟩
end
end L2
namespace L2
noncomputable abbrev R2:=V->V->Hp->VK->Prop
noncomputable def Yi (X:Cx)(f:Value->Value->Sem Value)(r:R2):Prop:=
 ∀(jJ:List (Addr×Obj)) (s:Shared) (σ:St) (H:Hp) (x y:V) (v u:Value) (Q:VK),Inv X jJ σ H s->ZA x v->ZA y u->r x y H Q->
  wpAny (model X.prog X.w) X.A (f v u) (EP X jJ σ Q) X.xe s
noncomputable def UnR (X:Cx)(f:Value->Sem Value)(r:V->Hp->VK->Prop):Prop:=
 ∀(jJ:List (Addr×Obj)) (s:Shared) (σ:St) (H:Hp) (x:V) (v:Value) (Q:VK),Inv X jJ σ H s->ZA x v->r x H Q->
  wpAny (model X.prog X.w) X.A (f v) (EP X jJ σ Q) X.xe s
noncomputable def Xy (X:Cx)(f:Value)(r:List V->Hp->VK->Prop):Prop:=
 ∀(jJ:List (Addr×Obj)) (s:Shared) (σ:St) (H:Hp) (xs:List V) (us:List Value) (Q:VK),Inv X jJ σ H s->Zs xs us->r xs H Q->
  wpAny (model X.prog X.w) X.A (call f us) (EP X jJ σ Q) X.xe s
noncomputable def Yp (r:R2)(ta tb:TE):TE:=fun σ H Q=>ta σ H fun x H1=>tb σ H1 fun y H2=>r x y H2 Q
noncomputable def tUn (r:V->Hp->VK->Prop)(ta:TE):TE:=fun σ H Q=>ta σ H fun x H1=>r x H1 Q
noncomputable def rI (C:Int->Int->Prop)(g:Int->Int->V):R2:=fun x y H Q=>∃i j,x=.int i/\y=.int j/\C i j/\Q (g i j) H
noncomputable def Xn (g:Int->Int->V):R2:=fun x y H Q=>∃i j,x=.int i/\y=.int j/\Q (g i j) H
noncomputable def rU (g:Int->V):V->Hp->VK->Prop:=fun x H Q=>∃i,x=.int i/\Q (g i) H
section
variable {X:Cx}{a b c:Expr}{ta tb tc:TE}{pos:Pos}
theorem binT (ha:PE X a ta)(hb:PE X b tb){jJ:List (Addr×Obj)}{s:Shared}{σ:St}{H:Hp}{R:V->V->Hp->Prop}(I:Inv X jJ σ H s)
  (h:ta σ H fun x H1=>tb σ H1 fun y H2=>R x y H2) {Q:Value->Shared->Prop} {f:Value->Value->Sem Value}
  (hf:∀v u s2 x y H2,Inv X jJ σ H2 s2->ZA x v->ZA y u->R x y H2->wpAny (model X.prog X.w) X.A (f v u) Q X.xe s2) :
  wpAny (model X.prog X.w) X.A (eval a X.env) (fun v s₁=>wpAny (model X.prog X.w) X.A (eval b X.env) (fun u s₂=>wpAny (model X.prog X.w) X.A (f v u) Q X.xe s₂) X.xe s₁) X.xe s:=by
 refine ZC (ha jJ s σ H _ I h) fun v s1 ⟨x,H1,I1,r1,q1⟩=>?_;refine ZC (hb jJ s1 σ H1 _ I1 q1) fun u s2 ⟨y,H2,I2,r2,q2⟩=>?_;exact hf v u s2 x y H2 I2 r1 r2 q2
theorem YR {op:Operator}{r:R2}(ho:Yi X (binaryOp op) r)(ha:PE X a ta)(hb:PE X b tb):PE X (.BinOp a op b pos) (Yp r ta tb):=by
 intro jJ s σ H Q I h;exact wpAny_BinOp (binT ha hb I h fun v u s2 x y H2 I2 rx ry q=>ho jJ s2 σ H2 x y v u Q I2 rx ry q)
theorem Zk3 {op:UnaryOp}{r:V->Hp->VK->Prop}(ho:UnR X (unaryOp op) r)(ha:PE X a ta):PE X (.UnaryOp op a pos) (tUn r ta):=by
 intro jJ s σ H Q I h;exact UnaryOp_ (ZC (ha jJ s σ H _ I h) fun v s1 ⟨x,H1,I1,r1,q1⟩=>ho jJ s1 σ H1 x v Q I1 r1 q1)
theorem opI {f:Value->Value->Sem Value}{C:Int->Int->Prop}{g:Int->Int->Int}
  (rule:∀(i j:Int) (t u:Tok) (s:Shared) (Q:Value->Shared->Prop) (E:Value->Shared->Prop),C i j->Q (.int (g i j) s.toks) { s with toks:=s.toks+1 }->wpAny (model X.prog X.w) X.A (f (.int i t) (.int j u)) Q E s) :
  Yi X f (rI C fun i j=>.int (g i j)):=by
 intro jJ s σ H x y v u Q I rx ry h;obtain⟨i,j,rfl,rfl,hc,q⟩:=h;obtain⟨t,rfl⟩:=rx;obtain⟨t',rfl⟩:=ry;exact rule i j t t' s _ _ hc ⟨.int (g i j),H,I.tok _,⟨_,rfl⟩,q⟩
theorem opI0 {f:Value->Value->Sem Value}{g:Int->Int->Int}
  (rule:∀(i j:Int) (t u:Tok) (s:Shared) (Q:Value->Shared->Prop) (E:Value->Shared->Prop),Q (.int (g i j) s.toks) { s with toks:=s.toks+1 }->wpAny (model X.prog X.w) X.A (f (.int i t) (.int j u)) Q E s) :
  Yi X f (Xn fun i j=>.int (g i j)):=by
 intro jJ s σ H x y v u Q I rx ry h;obtain⟨i,j,rfl,rfl,q⟩:=h;obtain⟨t,rfl⟩:=rx;obtain⟨t',rfl⟩:=ry;exact rule i j t t' s _ _ ⟨.int (g i j),H,I.tok _,⟨_,rfl⟩,q⟩
theorem opB0 {f:Value->Value->Sem Value}{g:Int->Int->Bool}
  (rule:∀(i j:Int) (t u:Tok) (s:Shared) (Q:Value->Shared->Prop) (E:Value->Shared->Prop),Q (.bool (g i j)) s->wpAny (model X.prog X.w) X.A (f (.int i t) (.int j u)) Q E s) :
  Yi X f (Xn fun i j=>.bl (g i j)):=by
 intro jJ s σ H x y v u Q I rx ry h;obtain⟨i,j,rfl,rfl,q⟩:=h;obtain⟨t,rfl⟩:=rx;obtain⟨t',rfl⟩:=ry;exact rule i j t t' s _ _ ⟨.bl (g i j),H,I,rfl,q⟩
noncomputable def CDiv (i j:Int):Prop:=0<j/\j<1073741824
noncomputable def CPow (i j:Int):Prop:=0<=j/\j<=1000000/\i.natAbs<2 ^ 64
noncomputable def VD (i j:Int):Prop:=(-(2 ^ 64)<i/\i<2 ^ 64)∨(-(2 ^ 64)<j/\j<2 ^ 64)
theorem VD.ok {i j:Int}(h:VD i j):IntMulOk i j:=by
 rcases h with⟨h1,h2⟩ | ⟨h1,h2⟩
 ·exact .of_left (intBits_le_64 h1 h2)
 ·exact .of_right (intBits_le_64 h1 h2)
theorem VO:Yi X (binaryOp .Add) (Xn fun i j=>.int (i+j)):=opI0 fun _ _ _ _ _ _ _ q=>add_int q
theorem Uo:Yi X (binaryOp .Mult) (rI VD fun i j=>.int (i*j)):=opI fun _ _ _ _ _ _ _ hc q=>mul_int q hc.ok
theorem Zf5:Yi X (binaryOp .FloorDiv) (rI CDiv fun i j=>.int (i / j)):=opI fun i j _ _ _ _ _ hc q=>by
 have h1:(0:Int)<j:=hc.1;have h2:j<1073741824:=hc.2;exact floordiv_int (by omega) (by rw[Int.fdiv_eq_ediv_of_nonneg i (by omega)];exact q) (.inl (PyProof.noPylong_small (by omega)))
theorem Up:Yi X (binaryOp .Mod) (rI (fun _ j=>0<j) fun i j=>.int (i % j)):=opI fun i j _ _ _ _ _ hc q=>by
 have h1:(0:Int)<j:=hc;exact mod_int' (by omega) (by rw[Int.fmod_eq_emod_of_nonneg i (by omega)];exact q)
theorem Zh3:Yi X (binaryOp .Pow) (rI CPow fun i j=>.int (i ^ j.toNat)):=opI fun _ _ _ _ _ _ _ hc q=>pow_int_small hc.1 hc.2.1 hc.2.2 q
theorem unI {f:Value->Sem Value}{g:Int->Int}
  (rule:∀(i:Int) (t:Tok) (s:Shared) (Q:Value->Shared->Prop) (E:Value->Shared->Prop),Q (.int (g i) s.toks) { s with toks:=s.toks+1 }->wpAny (model X.prog X.w) X.A (f (.int i t)) Q E s) :
  UnR X f (rU fun i=>.int (g i)):=by
 intro jJ s σ H x v Q I rx h;obtain⟨i,rfl,q⟩:=h;obtain⟨t,rfl⟩:=rx;exact rule i t s _ _ ⟨.int (g i),H,I.tok _,⟨_,rfl⟩,q⟩
theorem Zh4:UnR X (unaryOp .USub) (rU fun i=>.int (-i)):=unI fun _ _ _ _ _ q=>neg_int q
end
section
variable {X:Cx}{a b c:Expr}{ta tb tc:TE}{pos:Pos}
theorem ZlN {jJ:List (Addr×Obj)}{σ:St}{H:Hp}{s:Shared}{Q:VK}{k k':Bool}(I:Inv X jJ σ H s)(q:Q (.bl k) H)(e:k=k'):EP X jJ σ Q (.bool k') s:=by
 subst e;exact⟨.bl k,H,I,rfl,q⟩
theorem Zk4:Yi X (compareOp .Lt) (Xn fun i j=>.bl (decide (i<j))):=opB0 fun _ _ _ _ _ _ _ q=>lt_int q
theorem ZmT:Yi X (compareOp .LtE) (Xn fun i j=>.bl (decide (i<=j))):=opB0 fun _ _ _ _ _ _ _ q=>le_int q
theorem Zh5:Yi X (compareOp .Gt) (Xn fun i j=>.bl (decide (j<i))):=opB0 fun _ _ _ _ _ _ _ q=>gt_int q
theorem Zk5:Yi X (compareOp .GtE) (Xn fun i j=>.bl (decide (j<=i))):=opB0 fun _ _ _ _ _ _ _ q=>ge_int q
theorem ZlO:Yi X (compareOp .Is) (fun x y H Q=>y=.non/\Q (.bl (decide (x=.non))) H):=by
 intro jJ s σ H x y v u Q I rx ry h;obtain⟨rfl,q⟩:=h
 cases ry
 refine is_none_gen (ZlN I q ?_)
 cases x <;> first
  | (cases rx;rfl)
  | (obtain⟨t,rfl⟩:=rx;rfl)
theorem Yi.or {f:Value->Value->Sem Value}{r r':R2}(h:Yi X f r)(h':Yi X f r'):Yi X f (fun x y H Q=>r x y H Q∨r' x y H Q):=by
 intro jJ s σ H x y v u Q I rx ry q;rcases q with q | q
 ·exact h jJ s σ H x y v u Q I rx ry q
 ·exact h' jJ s σ H x y v u Q I rx ry q
theorem US (b:Expr){op:CmpOp}(h:op≠.In:=by decide)(h2:op≠.NotIn:=by decide):behindInMarks op b=false:=by
 have e1:(op==CmpOp.In)=false:=by cases op <;> first | rfl | exact absurd rfl h
 have e2:(op==CmpOp.NotIn)=false:=by cases op <;> first | rfl | exact absurd rfl h2
 cases b <;> simp[behindInMarks,e1,e2]
theorem ZjV {op:CmpOp}{r:R2}(ho:Yi X (compareOp op) r)(ha:PE X a ta)(hb:PE X b tb)(hm:behindInMarks op b=false):PE X (.Compare a [op] [b] pos) (Yp r ta tb):=by
 intro jJ s σ H Q I h;exact wpAny_Compare1 (binT ha hb I h fun v u s2 x y H2 I2 rx ry q=>ho jJ s2 σ H2 x y v u Q I2 rx ry q) hm
noncomputable def JV (t:TE):TT:=fun σ H Q=>t σ H fun x H'=>∃k,x=.bl k/\Q k H'
theorem JK {op:CmpOp}{r:R2}(ho:Yi X (compareOp op) r)(ha:PE X a ta)(hb:PE X b tb)(hm:behindInMarks op b=false):PT X (.Compare a [op] [b] pos) (JV (Yp r ta tb)):=by
 intro jJ s σ H Q I h;refine wpAny_isTrue_Compare1 (ZC (ha jJ s σ H _ I h) fun v s1 ⟨x,H1,I1,r1,q1⟩=>ZC (hb jJ s1 σ H1 _ I1 q1) fun u s2 ⟨y,H2,I2,r2,q2⟩=>
  ZC (ho jJ s2 σ H2 x y v u _ I2 r1 r2 q2) fun c s3 ⟨z,H3,I3,r3,k,e,q3⟩=>?_) hm
 subst e
 cases r3
 exact wpAny_truthy_bool ⟨H3,I3,q3⟩
theorem JQ:(sizeLine:Nat)<2 ^ 63:=by rw[sizeLine_eq];decide
theorem X2 {x:V}{us:List Value}(r:Zs [x] us):∃u,us=[u]/\ZA x u:=by
 cases r with
 | cons r1 r2=>cases r2;exact⟨_,rfl,r1⟩
theorem Zk6 {x y:V}{us:List Value}(r:Zs [x,y] us):∃u w',us=[u,w']/\ZA x u/\ZA y w':=by
 cases r with
 | cons r1 r2=>
  cases r2 with
  | cons r3 r4=>cases r4;exact⟨_,_,rfl,r1,r3⟩
theorem ZgO (hc:X.calm=true):Xy X (.builtin "max") (fun xs H Q=>∃i j,xs=[.int i,.int j]/\Q (.int (if j > i then j else i)) H):=by
 intro jJ s σ H xs us Q I r h;obtain⟨i,j,rfl,q⟩:=h;obtain⟨u,w',rfl,⟨t,rfl⟩,⟨t',rfl⟩⟩:=Zk6 r;refine max_two_ints (I.ok.hd hc) fun h' tk k=>⟨_,H,I.kept k,?_,q⟩;by_cases hj:j > i
 ·rw[if_pos hj,if_pos hj];exact⟨_,rfl⟩
 ·rw[if_neg hj,if_neg hj];exact⟨_,rfl⟩
theorem ZgP (hc:X.calm=true):Xy X (.builtin "min") (fun xs H Q=>∃i j,xs=[.int i,.int j]/\Q (.int (if j<i then j else i)) H):=by
 intro jJ s σ H xs us Q I r h;obtain⟨i,j,rfl,q⟩:=h;obtain⟨u,w',rfl,⟨t,rfl⟩,⟨t',rfl⟩⟩:=Zk6 r;refine min_two_ints (I.ok.hd hc) fun h' tk k=>⟨_,H,I.kept k,?_,q⟩;by_cases hj:j<i
 ·rw[if_pos hj,if_pos hj];exact⟨_,rfl⟩
 ·rw[if_neg hj,if_neg hj];exact⟨_,rfl⟩
theorem ZgQ:Xy X (.type "int") (fun xs H Q=>(∃i,xs=[.int i]/\Q (.int i) H)∨∃k,xs=[.bl k]/\Q (.int (if k then 1 else 0)) H):=by
 intro jJ s σ H xs us Q I r h;rcases h with⟨i,rfl,q⟩ | ⟨k,rfl,q⟩
 ·obtain⟨u,rfl,t,rfl⟩:=X2 r
  exact call_int_int ⟨.int i,H,I,⟨_,rfl⟩,q⟩
 ·obtain⟨u,rfl,r1⟩:=X2 r
  cases r1
  exact call_int_bool ⟨.int (if k then 1 else 0),H,I.tok _,⟨_,rfl⟩,q⟩
end
end L2
namespace L2
section
variable {prog:Program}{w:World}{A:Around}{E:Value->Shared->Prop}{s:Shared}{K:qf}{x dx C f:Addr}{mA:Str->Option Value}{name:Str}{v:Value}
end
theorem jx {v:V}{o:Option Value}(r:Uw (some v) o):∃u,o=some u/\ZA v u:=by
 cases o with
 | none=>exact(show False from r).elim
 | some u=>exact⟨u,rfl,r⟩
section
variable {P:Program}{w:World}{H H':Hp}{h h':Heap}{a C dx:Addr}{fs fs':List (Str×V)}
end
section
variable {X:Cx}{jJ:List (Addr×Obj)}{σ:St}{H:Hp}{s:Shared}{a C dx:Addr}{fs:List (Str×V)}{f:Str}{v:V}{A:Around}{E:Value->Shared->Prop}
end
section
variable {X:Cx}{o e value:Expr}{f:Str}{pos pos' tpos:Pos}{ta tv:TE}
end
section
variable {X:Cx}{jJ:List (Addr×Obj)}{σ:St}{H:Hp}{s:Shared}{A:Around}{E:Value->Shared->Prop}{Q:Value->Shared->Prop}{c:Value}{b:Bool}
end
end L2
namespace L2
structure Room (k:Nat)(A:Around):Prop where
 hd:A.handled=none
 dp:A.depth+3*k+5<recursionLimit
 un:A.units+16*k+200<cLine
 gd:A.guards=some []
theorem Room.mono {j k:Nat}{A:Around}(r:Room k A)(h:j<=k):Room j A:=⟨r.hd,by have:=r.dp;omega,by have:=r.un;omega,r.gd⟩
theorem Room.deeper {k:Nat}{A:Around}(r:Room (k+1) A)(env:Env):Room k (A.deeper env):=
 ⟨r.hd,by have:=r.dp;show A.depth+1+3*k+5<_;omega,by have:=r.un;show A.units+3+16*k+200<_;omega,r.gd⟩
theorem Room.in1 {k:Nat}{A:Around}(r:Room (k+1) A):Room k A.in1:=
 ⟨r.hd,by have:=r.dp;show A.depth+3*k+5<_;omega,by have:=r.un;show A.units+1+16*k+200<_;omega,r.gd⟩
theorem Room.depth {k:Nat}{A:Around}(r:Room k A):A.depth<recursionLimit:=by have:=r.dp;omega
theorem Room.units {k:Nat}{A:Around}(r:Room k A):A.units+64<cLine:=by have:=r.un;omega
theorem Room.units0 {k:Nat}{A:Around}(r:Room k A):A.units<cLine:=by have:=r.un;omega
noncomputable def Wf:TA:=fun _ H Q=>Q [] H
noncomputable def We (ta:TE)(tr:TA):TA:=fun σ H Q=>ta σ H fun x H1=>tr σ H1 fun xs H2=>Q (x::xs) H2
section
variable {X:Cx}{e:Expr}{es:List Expr}{te:TE}{t:TA}{pos:Pos}
theorem Xs:PA X [] Wf:=fun _ _ _ _ H Q I h=>Calls.spliced_nil ⟨[],H,I,.nil,h⟩
theorem Y4 (ha:PE X e te)(hr:PA X es t)(hs:starEach (e::es) X.env=(false,eval e X.env)::starEach es X.env:=by rfl):PA X (e::es) (We te t):=by
 intro pos jJ s σ H Q I h;rw[hs];show wpAny _ _ (spliced ((false,eval e X.env)::backTo pos (starEach es X.env))) _ _ s;refine Calls.spliced_cons (ZC (ha jJ s σ H _ I h) fun u s1 ⟨x,H1,I1,r1,q1⟩=>?_);exact ZC (hr pos jJ s1 σ H1 _ I1 q1) fun us s2 ⟨xs,H2,I2,r2,q2⟩=>⟨x::xs,H2,I2,.cons r1 r2,q2⟩
noncomputable def tTup (t:TA):TE:=fun σ H Q=>t σ H fun xs H1=>xs.length<=sizeLine/\∀p,H1 p=none->Q (.ref p) (Zk H1 p (.tup xs))
noncomputable def tLst (t:TA):TE:=fun σ H Q=>t σ H fun xs H1=>xs.length<=sizeLine/\∀p,H1 p=none->Q (.ref p) (Zk H1 p (.lst xs))
theorem ZlP {x1}(h:PA X es t):PE X (.Tuple es x1 pos) (tTup t):=by
 intro jJ s σ H Q I hq;refine wpAny_Tuple_spliced (ZC (h pos jJ s σ H _ I hq) fun us s1 ⟨xs,H1,I1,r,z,q⟩=>⟨by rw[<-r.length];exact z,?_⟩);have hf:H1 s1.heap.objs.size=none:=I1.hok.fresh (qp _);refine⟨.ref s1.heap.objs.size,Zk H1 s1.heap.objs.size (.tup xs),I1.laid (t':=s1.toks) (fun b u e=>qd _ e) (qp _) ?_,rfl,q _ hf⟩;exact⟨z,us,r,⟨_,qy _ rfl,rfl,_,rfl⟩⟩
theorem ZlQ (h:PA X es t):PE X (.List es pos) (tLst t):=by
 intro jJ s σ H Q I hq;refine wpAny_List_spliced (ZC (h pos jJ s σ H _ I hq) fun us s1 ⟨xs,H1,I1,r,z,q⟩=>⟨by rw[<-r.length];exact z,?_⟩);have hf:H1 s1.heap.objs.size=none:=I1.hok.fresh (qp _);refine⟨.ref s1.heap.objs.size,Zk H1 s1.heap.objs.size (.lst xs),I1.laid (t':=s1.toks) (fun b u e=>qd _ e) (qp _) ?_,rfl,q _ hf⟩;exact⟨z,us,0,r,qy _ rfl⟩
end
noncomputable abbrev Sp:=List V->Hp->VK->XK->Prop
noncomputable abbrev XG:=List Env->Hp->Shared->XK->Value->Shared->Prop
structure Env0 (P:Program)(w:World)(K:qf)(mg:Str->Option Value)(base:Heap)(A:Around)(outer:List Env)(s:Shared)(H:Hp):Prop where
 frames:A.frames=some outer
 mod:Mod K mg base
 bs:∀b o,base.get? b=some o->s.heap.get? b=some o/\H b=none
 bsz:base.objs.size<=s.heap.objs.size
 funs:s.heap.FunFrames base outer
 frf:∀b∈XF outer,H b=none
 hok:Ym P w H s.heap
 bare:AllBare s.gens
noncomputable def CE (outer:List Env)(P:Program)(w:World)(H:Hp)(s:Shared)(Q:VK)(u:Value)(s':Shared):Prop:=
 ∃v H',s'.os=s.os/\AllBare s'.gens/\Un (XF outer) [] H H' s.heap s'.heap/\Ym P w H' s'.heap/\ZA v u/\Q v H'
noncomputable def CR (CX:XG)(outer:List Env)(P:Program)(w:World)(H:Hp)(s:Shared)(Q:VK)(E:XK)(r:Result)(s':Shared):Prop:=
 match r with
 | .ok (.ret u)=>CE outer P w H s Q u s'
 | .ok _=>False
 | .error e=>CX outer H s E e s'
structure FnOk (P:Program)(w:World)(K:qf)(mg:Str->Option Value)(base:Heap)(CX:XG)(k:Nat)(f:Addr)(fd:FuncData)(ps:List Str)(sp:Sp):Prop where
 len:∀vs H Q E,sp vs H Q E->vs.length=ps.length
 run:∀(A:Around) (outer:List Env) (s:Shared) (H:Hp) (args:Args) (us:List Value) (vs:List V) (Q:VK) (E:XK),Room k A->Env0 P w K mg base A outer s H->BindsTo s fd args (ps.zip us)->Zs vs us->sp vs H Q E->
  codeAny (model P w) A (.call (.ref f) args) (CR CX outer P w H s Q E) s
theorem FnOk.mono {P:Program}{w:World}{K:qf}{mg:Str->Option Value}{base:Heap}{CX:XG}{j k:Nat}{f:Addr}{fd:FuncData}{ps:List Str}{sp:Sp}(F:FnOk P w K mg base CX j f fd ps sp)(h:j<=k) :
  FnOk P w K mg base CX k f fd ps sp:=⟨F.len,fun A outer s H args us vs Q E hr=>F.run A outer s H args us vs Q E (hr.mono h)⟩
theorem FnOk.imp {P:Program}{w:World}{K:qf}{mg:Str->Option Value}{base:Heap}{CX:XG}{k:Nat}{f:Addr}{fd:FuncData}{ps:List Str}{sp sp':Sp}(F:FnOk P w K mg base CX k f fd ps sp)
  (h:∀vs H Q E,sp' vs H Q E->sp vs H Q E):FnOk P w K mg base CX k f fd ps sp':=
 ⟨fun vs H Q E q=>F.len vs H Q E (h _ _ _ _ q),fun A outer s H args us vs Q E hr he hb hv hs=>F.run A outer s H args us vs Q E hr he hb hv (h _ _ _ _ hs)⟩
theorem Env0.in1 {P:Program}{w:World}{K:qf}{mg:Str->Option Value}{base:Heap}{A:Around}{outer:List Env}{s:Shared}{H:Hp}(e:Env0 P w K mg base A outer s H) :
  Env0 P w K mg base A.in1 outer s H:=⟨e.frames,e.mod,e.bs,e.bsz,e.funs,e.frf,e.hok,e.bare⟩
section
variable {X:Cx}{jJ:List (Addr×Obj)}{σ:St}{H:Hp}{s s':Shared}
theorem Inv.env0 (I:Inv X jJ σ H s):Env0 X.prog X.w X.K X.mg X.base X.A X.stack s H:=
 ⟨I.ok.frames,I.ok.mod,I.bs,qZ I.ok.bsz I.sz,I.stack,I.stkFree,I.hok,I.bare⟩
theorem Inv.after {Q:VK}{u:Value}(I:Inv X jJ σ H s)(h:CE X.stack X.prog X.w H s Q u s'):EP X jJ σ Q u s':=by
 obtain⟨v,H',os,bare,un,hok,r,q⟩:=h;obtain⟨hh,g,d,t,os'⟩:=s';obtain rfl:os'=s.os:=os;exact⟨v,H',I.call (h':=hh) (g':=g) (d':=d) (t':=t) (ch:=[]) un hok bare (fun b z=>absurd z (by simp)),r,q⟩
end
noncomputable def ZmU (sp:Sp)(dvs:List V)(E:XK)(t:TA):TE:=fun σ H Q=>t σ H fun vs H1=>sp (vs++dvs) H1 Q E
noncomputable def Xz (K:qf)(fd:FuncData)(ps:List Str)(ds:List Value):Prop:=
 ∀(s:Shared) (us:List Value),K.In s.heap->(us++ds).length=ps.length->BindsTo s fd ⟨us,[]⟩ (ps.zip (us++ds))
theorem Xz.all {K:qf}{fd:FuncData}{ps:List Str}(h:∀us:List Value,us.length=ps.length->bindArgs fd ⟨us,[]⟩=pure (ps.zip us)):Xz K fd ps []:=fun s us _ hl=>by
 rw[zm] at hl⊢;exact .of_eq (h us hl)
noncomputable def BU (CX:XG)(X:Cx)(E:XK):Prop:=∀(jJ:List (Addr×Obj)) (σ:St) (H:Hp) (s:Shared) (e:Value) (s':Shared),Inv X jJ σ H s->CX X.stack H s E e s'->X.xe e s'
section
variable {X:Cx}{CX:XG}{k:Nat}{f C:Addr}{fd:FuncData}{ps:List Str}{sp:Sp}{dvs:List V}{ds:List Value}{E:XK}{x m:Str}{p pos apos:Pos}{e o:Expr}{es:List Expr}{ta:TE}{t:TA}
theorem Zh6 {jJ:List (Addr×Obj)}{σ:St}{H:Hp}{s:Shared}{Q:VK}{us:List Value}{vs:List V}(F:FnOk X.prog X.w X.K X.mg X.base CX k f fd ps sp)(hr:Room k X.A)(hb:Xz X.K fd ps ds)(hd:Zs dvs ds)(hx:BU CX X E)
  (I:Inv X jJ σ H s) (r:Zs vs us) (h:sp (vs++dvs) H Q E):wpAny (model X.prog X.w) X.A (call (.ref f) us) (EP X jJ σ Q) X.xe s:=by
 have r2:Zs (vs++dvs) (us++ds):=r.append hd;have hl:(us++ds).length=ps.length:=by rw[<-r2.length];exact F.len _ _ _ _ h
 refine wpAny_call (codeAny_mono (F.run X.A X.stack s H ⟨us,[]⟩ (us++ds) (vs++dvs) Q E hr I.env0 (hb s us I.kIn hl) r2 h) fun r s' hq=>?_)
 cases r with
 | error e=>exact hx jJ σ H s e s' I hq
 | ok fl=>
  cases fl with
  | ret u=>exact I.after hq
  | next=>exact zw hq
  | brk=>exact zw hq
  | cont=>exact zw hq
theorem Zf6 (F:FnOk X.prog X.w X.K X.mg X.base CX k f fd ps sp)(hr:Room k X.A)(hg:Gl X x)(hm:X.mg x=some (.ref f))(hk:zR X.K (.ref f)=true)(hb:Xz X.K fd ps ds)(hd:Zs dvs ds)(hx:BU CX X E)
  (ha:PA X (e::es) t) (hdb:(x==("__debug__" : Str))=false:=by decide) (he:starEach (e::es) X.env=(false,eval e X.env)::starEach es X.env:=by rfl) (hpl:(backTo pos (starEach es X.env)).any (·.1)=false:=by rfl) :
  PE X (.Call (.Name x p) (e::es) [] pos) (ZmU sp dvs E t):=by
 intro jJ s σ H Q I h;refine wpAny_Call_Name_kw (ZdC I hg hm ?_ hdb);refine PySem.W.callWith_K (h₀:=X.base) I.ok.mod.kin hk (ZC (ha pos jJ s σ H _ I h) fun us s1 ⟨vs,H1,I1,r,q⟩=>⟨I1.kIn,?_⟩) he hpl;exact Zh6 F hr hb hd hx I1 r q
end
noncomputable def PK (X:Cx)(kws:List Keyword)(t:TA):Prop:=
 ∀(pos:Pos) (jJ:List (Addr×Obj)) (s:Shared) (σ:St) (H:Hp) (Q:List V->Hp->Prop),Inv X jJ σ H s->t σ H Q->wpAny (model X.prog X.w) X.A (evalAll ((backToKw pos (keywordEach kws X.env)).map (·.2))) (AP X jJ σ Q) X.xe s
section
variable {X:Cx}{CX:XG}{k:Nat}{f C:Addr}{fd:FuncData}{ps ks:List Str}{sp:Sp}{E:XK}{x m:Str}{p pos apos kpos:Pos}{e o:Expr}{es:List Expr}{kws:List Keyword}{te ta:TE}{t tk:TA}{nm:Option Str}
theorem ZlR:PK X [] Wf:=fun _ _ _ _ H Q I h=>wpAny_evalAll_nil ⟨[],H,I,.nil,h⟩
theorem ZjW (ha:PE X e te)(hr:PK X kws t):PK X (⟨nm,e,kpos⟩::kws) (We te t):=by
 intro pos jJ s σ H Q I h;show wpAny _ _ (evalAll ((do let v<-eval e X.env;standAt pos;pure v)::(backToKw pos (keywordEach kws X.env)).map (·.2))) _ _ s;refine wpAny_evalAll_cons (wpAny_bind (ZC (ha jJ s σ H _ I h) fun u s1 ⟨x,H1,I1,r1,q1⟩=>wpAny_bind (wpAny_standAt (wpAny_pure ?_))));exact ZC (hr pos jJ s1 σ H1 _ I1 q1) fun us s2 ⟨xs,H2,I2,r2,q2⟩=>⟨x::xs,H2,I2,.cons r1 r2,q2⟩
variable {g:List Value->List Value->List Value}{gV:List V->List V->List V}
end
structure FnScope (N P:List Str)(sc:Scope):Prop where
 kind:sc.kind=.function
 co:sc.isCoroutine=false
 gen:sc.isGenerator=false
 nd:N.Nodup
 pre:N.take P.length=P
 par:∀x∈P,sc.names.lookup x=some .local∨sc.names.lookup x=some .cell
 nofree:∀y∈sc.names,y.2≠.free
theorem Zc1 {kindOf:Str->Option NameKind}{x:Str}:∀{binds:List (Str×Value)} {m:Str->Option Value},(∀v,(x,v)∉binds)->bindL kindOf binds m x=m x
 | [],_,_=>rfl
 | (n,v)::r,m,h=>by
  unfold bindL;rw[Zc1 fun w hw=>h w (qQ _ hw)];split
  ·have:x≠n:=by rintro rfl;exact h v zM
   simp[this]
  ·rfl
theorem Zc2 {kindOf:Str->Option NameKind}{x:Str}:∀{binds:List (Str×Value)} {m:Str->Option Value},(∀v,(x,v)∉binds)->bindC kindOf binds m x=m x
 | [],_,_=>rfl
 | (n,v)::r,m,h=>by
  unfold bindC;rw[Zc2 fun w hw=>h w (qQ _ hw)];split
  ·rfl
  ·have:x≠n:=by rintro rfl;exact h v zM
   simp[this]
theorem Zc3 {kindOf:Str->Option NameKind}{x:Str}{v:Value}:∀{P:List Str} {vs:List Value} {i:Nat} {m:Str->Option Value},P.Nodup->P[i]?=some x->vs[i]?=some v->kindOf x=some .local->
  bindL kindOf (P.zip vs) m x=some v
 | [],_,_,_,_,h,_,_=>by simp at h
 | _::_,[],_,_,_,_,h,_=>by simp at h
 | p::P,w::vs,0,m,nd,h1,h2,hk=>by
  simp at h1 h2;subst h1;subst h2;show bindL kindOf ((p,w)::P.zip vs) m p=_;unfold bindL;rw[Zc1 fun v hv=>(zI.mp nd).1 (qas hv).1,if_pos hk];simp
 | p::P,w::vs,i+1,m,nd,h1,h2,hk=>by
  show bindL kindOf ((p,w)::P.zip vs) m x=_;unfold bindL;exact Zc3 (i:=i) (zI.mp nd).2 (by simpa using h1) (by simpa using h2) hk
theorem Zc4 {kindOf:Str->Option NameKind}{x:Str}{v:Value}:∀{P:List Str} {vs:List Value} {i:Nat} {m:Str->Option Value},P.Nodup->P[i]?=some x->vs[i]?=some v->kindOf x≠some .local->
  bindC kindOf (P.zip vs) m x=some v
 | [],_,_,_,_,h,_,_=>by simp at h
 | _::_,[],_,_,_,_,h,_=>by simp at h
 | p::P,w::vs,0,m,nd,h1,h2,hk=>by
  simp at h1 h2;subst h1;subst h2;show bindC kindOf ((p,w)::P.zip vs) m p=_;unfold bindC;rw[Zc2 fun v hv=>(zI.mp nd).1 (qas hv).1,if_neg hk];simp
 | p::P,w::vs,i+1,m,nd,h1,h2,hk=>by
  show bindC kindOf ((p,w)::P.zip vs) m x=_;unfold bindC;exact Zc4 (i:=i) (zI.mp nd).2 (by simpa using h1) (by simpa using h2) hk
noncomputable def start (N:List Str)(vs:List V):St:=vs.map some++qu (N.length-vs.length) none
noncomputable def WI (CX:XG)(P:Program)(w:World)(K:qf)(mg:Str->Option Value)(base:Heap)(N:List Str)(qual:Str)(scope:Scope)(f:Addr)(cd:Value)(A:Around)(outer:List Env)(s:Shared)(H:Hp)(E:XK):Cx where
 prog:=P
 w:=w
 K:=K
 mg:=mg
 base:=base
 A:=A.deeper (envOfC qual scope s.heap.objs.size f cd)
 N:=N
 s₀:=s
 H₀:=H
 env:=envOfC qual scope s.heap.objs.size f cd
 outer:=outer
 stack:=envOfC qual scope s.heap.objs.size f cd::outer
 ex:=[]
 calm:=true
 fn:=fun _=>true
 pn:=[]
 xe:=fun e s'=>wpAny (model P w) (A.deeper (envOfC qual scope s.heap.objs.size f cd)) (leaving (envOfC qual scope s.heap.objs.size f cd) e) (fun _ s''=>CX outer H s E e s'') (fun e' s''=>CX outer H s E e' s'') s'
theorem Zd8 {sc:Scope}{n:Nat}{x:Str}(h:sc.names.lookup x=some .cell):∃c,(cellsFrom n sc.names []).lookup x=some c:=by
 have q:=qbd sc.names n [] (.inl h);exact zN.mp q
theorem ZgR {CX:XG}{P:Program}{w:World}{K:qf}{mg:Str->Option Value}{base:Heap}{N ps:List Str}{qual:Str}{scope:Scope}{f:Addr}{cd:Value}{A:Around}{outer:List Env}{s s1:Shared}{H:Hp}{E:XK}{us:List Value}{vs:List V}
  (S:FnScope N ps scope) (hd:A.handled=none) (e0:Env0 P w K mg base A outer s H) (hl:vs.length=ps.length) (r:Zs vs us)
  (x:InCallC s s.heap.objs.size (bindL (envOfC qual scope s.heap.objs.size f cd).kindOf (ps.zip us) fun _=>none) (cellsFrom (s.heap.objs.size+1) scope.names []) (bindC (envOfC qual scope s.heap.objs.size f cd).kindOf (ps.zip us) fun _=>none) s1) :
  Inv (WI CX P w K mg base N qual scope f cd A outer s H E) [] (start N vs) H s1:=by
 have hpl:ps.length<=N.length:=by have:=congrArg qbe S.pre;rw[zU] at this;omega
 obtain⟨h1,tk,rfl,hk⟩:=x.done;have noA:∀b:Addr,b∉(WI CX P w K mg base N qual scope f cd A outer s H E).ex:=fun b z=>absurd (show b∈([]:List Addr) from z) (by simp);refine⟨⟨e0.mod,S.kind,rfl,rfl,qp _,fun y z c h1 h2=>?_,fun y hy=>?_,fun y c _ h=>?_,fun _=>hd,qbt e0.frames,.inr ⟨rfl,rfl⟩,fun b z=>absurd z (noA b),e0.bs,e0.bsz,fun b _ _=>noA b,fun b z=>absurd z (noA b),e0.funs,e0.frf⟩,
  rfl,e0.bare,Un.kept hk,⟨_,x.toInCall.ns,fun i y v h1 h2 h3=>?_⟩,fun y c h=>⟨_,x.cell y c h⟩,e0.hok.fresh (qp _),fun y c h=>?_,fun p hp=>absurd (show p∈([]:List (Addr×Obj)) from hp) (by simp),e0.hok.kept hk,?_⟩
 ·exact name_of_addr x.apart (zp h1) (zp h2)
 ·have hy:scope.names.lookup y=some .cell∨scope.names.lookup y=some .free:=hy
  rcases hy with hy | hy
  ·exact Zd8 hy
  ·exact absurd rfl (S.nofree _ (zp hy))
 ·exact qbJ (x.above y c (zp h))
 ·have hi:i<vs.length:=by
   unfold start at h2;by_cases hi:i<vs.length
   ·exact hi
   ·rw[yh (by simpa using hi)] at h2
    rw[z7] at h2;split at h2 <;> cases h2
  have ha:vs[i]?=some v:=by
   unfold start at h2;rw[zJ (by simpa using hi),qA] at h2
   cases e:vs[i]? with
   | none=>rw[e] at h2;cases h2
   | some a=>rw[e] at h2;cases h2;rfl
  obtain⟨u,hu,rv⟩:=r.get ha;have hp:ps[i]?=some y:=by
   rw[<-S.pre,qaX (by omega)];exact h1
  have ndP:ps.Nodup:=by rw[<-S.pre];exact S.nd.sublist (qaN _ _)
  refine⟨u,rv,?_⟩;rcases S.par y (zF hp) with k | k
  ·exact .inl ⟨k,Zc3 ndP hp hu k⟩
  ·obtain⟨c,e⟩:=Zd8 (n:=s.heap.objs.size+1) k
   refine .inr ⟨.inl k,c,e,?_⟩;have q:=x.cell y c e;rw[Zc4 ndP hp hu (by show scope.names.lookup y≠_;rw[k];decide)] at q;exact q
 ·exact e0.hok.fresh (qbJ (x.above y c (zp h)))
 ·unfold start
  show _=N.length;rw[qJ,qj,List.length_replicate];omega
theorem Zk7 {CX:XG}{P:Program}{w:World}{K:qf}{mg:Str->Option Value}{base:Heap}{k:Nat}{f:Addr}{name qual:Str}{params:Arguments}{body:List Stmt}{scope:Scope}{dV kV doc pm cdv ct oc:Value}{an od:Option Addr}
  {osl:Array (Option Value)} {N ps:List Str} {sp:Sp} (lk:K.lookup f=some ⟨oc,od,.func (zW name qual params body scope dV kV doc pm an cdv ct),osl⟩) (hcd:yZ K cdv qual=true) (S:FnScope N ps scope)
  (len:∀vs H Q E,sp vs H Q E->vs.length=ps.length)
  (hbody:∀(A:Around) (outer:List Env) (s:Shared) (H:Hp) (vs:List V) (Q:VK) (E:XK),Room k (A.deeper (envOfC qual scope s.heap.objs.size f cdv))->sp vs H Q E->
   ∃t,Wj (WI CX P w K mg base N qual scope f cdv A outer s H E) body t/\t { nx:=fun _ H'=>Q .non H',rt:=Q } (start N vs) H) :
  FnOk P w K mg base CX (k+1) f (zW name qual params body scope dV kV doc pm an cdv ct) ps sp:=by
 refine⟨len,fun A outer s H args us vs Q E hr e0 hb r hsp=>?_⟩;have hl:=len _ _ _ _ hsp;have KX:K.In s.heap:=e0.mod.kin.keeps fun b o e=>(e0.bs b o e).1;have lim:s.heap.NoLimit:=e0.mod.nolimit.keeps fun b o e=>(e0.bs b o e).1;have hkind:∀y∈ps.zip us,scope.names.lookup y.1=some .local∨(scope.names.lookup y.1=some .cell/\((cellsFrom (s.heap.objs.size+1) scope.names []).lookup y.1).isSome=true):=fun⟨n,v⟩ hy=>by
  rcases S.par n (qas hy).1 with q | q
  ·exact .inl q
  ·exact .inr ⟨q,qbd _ _ _ (.inl q)⟩
 refine codeAny_call_function hr.depth (KX _ _ lk) rfl S.co S.gen rfl (PySem.W.codeRec_of KX hcd) (hb _ _ _ _ ?_);refine wpAny_newFunctionEnv_cells S.kind hkind fun env he s1 x=>?_;subst he;refine⟨lim.keeps x.toInCall.keep,codeAny_func ?_⟩;obtain⟨t,ht,hq⟩:=hbody A outer s H vs Q E (hr.deeper _) hsp;have I:Inv (WI CX P w K mg base N qual scope f cdv A outer s H E) [] (start N vs) H s1:=ZgR S hr.hd e0 hl r x;refine wpAny_mono (ht [] s1 (start N vs) H _ I hq) (fun fl s' hs=>?_) fun e s' hs=>hs;have fin:∀{σ':St} {H':Hp} {v:V} {u:Value},Inv (WI CX P w K mg base N qual scope f cdv A outer s H E) [] σ' H' s'->ZA v u->Q v H'->CE outer P w H s Q u s':=
  fun {σ' H' v u} J rv q=>⟨v,H',J.os,J.bare,J.base,J.hok,rv,q⟩
 cases fl with
 | ret u=>
  obtain⟨v,σ',H',J,rv,q⟩:=hs;exact fin J rv q
 | next=>
  obtain⟨σ',H',J,q⟩:=hs;exact fin (v:=V.non) (u:=qL) J rfl q
 | brk=>
  obtain⟨_,_,_,q⟩:=hs;exact zw q
 | cont=>
  obtain⟨_,_,_,q⟩:=hs;exact zw q
end L2
namespace L2
section
variable {X:Cx}{x:Str}{p pos:Pos}{e:Expr}{es:List Expr}{t:TA}{id T:String}{r:List V->Hp->VK->Prop}
noncomputable def tCB (r:List V->Hp->VK->Prop)(t:TA):TE:=fun σ H Q=>t σ H fun vs H1=>r vs H1 Q
theorem ZbT (hc:Xy X (.builtin id) r)(hg:Gl X x)(hm:X.mg x=none)(hv:bootBuiltins x=some (.builtin id))(ha:PA X (e::es) t)(hn:x≠"__name__":=by decide)(hdb:(x==("__debug__" : Str))=false:=by decide)
  (he:starEach (e::es) X.env=(false,eval e X.env)::starEach es X.env:=by rfl) (hpl:(backTo pos (starEach es X.env)).any (·.1)=false:=by rfl):PE X (.Call (.Name x p) (e::es) [] pos) (tCB r t):=by
 intro jJ s σ H Q I h;refine wpAny_Call_Name_kw (VN I hg hm hv ?_ hn hdb);exact PyProof.Rows.callWith_builtin1 (ZC (ha pos jJ s σ H _ I h) fun us s1 ⟨vs,H1,I1,r1,q1⟩=>hc jJ s1 σ H1 vs us Q I1 r1 q1) he hpl
theorem Zc5 (hc:Xy X (.type T) r)(hg:Gl X x)(hm:X.mg x=none)(hv:bootBuiltins x=some (.type T))(ha:PA X (e::es) t)(hn:x≠"__name__":=by decide)(hdb:(x==("__debug__" : Str))=false:=by decide)
  (he:starEach (e::es) X.env=(false,eval e X.env)::starEach es X.env:=by rfl) (hpl:(backTo pos (starEach es X.env)).any (·.1)=false:=by rfl):PE X (.Call (.Name x p) (e::es) [] pos) (tCB r t):=by
 intro jJ s σ H Q I h;refine wpAny_Call_Name_kw (VN I hg hm hv ?_ hn hdb);exact zC (ZC (ha pos jJ s σ H _ I h) fun us s1 ⟨vs,H1,I1,r1,q1⟩=>hc jJ s1 σ H1 vs us Q I1 r1 q1) he hpl
end
end L2
namespace HT
noncomputable def lexLt:List Int->List Int->Bool
 | [],[]=>false
 | [],_::_=>true
 | _::_,[]=>false
 | x::xs,y::ys=>if x=y then lexLt xs ys else decide (x<y)
theorem Ze9 (x y:Int)(xs ys:List Int):lexLt (x::xs) (y::ys)=if x=y then lexLt xs ys else decide (x<y):=rfl
theorem ZcJ:lexLt [] []=false:=rfl
theorem ZbU (y:Int)(ys:List Int):lexLt [] (y::ys)=true:=rfl
theorem ZbV (x:Int)(xs:List Int):lexLt (x::xs) []=false:=rfl
theorem Zh7 (A:Around)(s:Shared)(a:Int)(t:Tok)(c:Int)(u:Tok):∃e,yF A s (.int a t) (.int c u) e/\(e=true↔a=c):=
 ⟨(a==c),yF.int_int a t c u,by simp⟩
theorem Zh8 (A:Around)(s:Shared)(a:Int)(t:Tok)(c:Int)(u:Tok)(prog:Program)(w:World)(E:Value->Shared->Prop)(Q:Value->Shared->Prop)(h:Q (.bool (decide (a<c))) s) :
  wpAny (model prog w) A (richCompare .Lt (.int a t) (.int c u)) Q E s:=
 (PyProof.Rows.lt_int h:wpAny (model prog w) A (compareOp .Lt (.int a t) (.int c u)) Q E s)
section
open PySem.SeqAt
open PySem.AutoSeq1 (wpAny_loadPart')
open PySem.MeetsSeq PySem.MeetsSeq2 PySem.MeetsSeq3
theorem ZcK (l b:Addr)(items items2:Array Value)(n n2:Nat)(dd dd2:Option Addr)(sl sl2:Array (Option Value))(ns ms:List Int)(hi:IntsAre items.toList ns)(hj:IntsAre items2.toList ms) :
  Meets (Builtin.«tuple.__lt__» ⟨[.ref l,.ref b],[]⟩)
   (fun _ R s=>s.heap.get? l=some { cls:=.type "tuple",dict:=dd,data:=.seq items n,slots:=sl }/\s.heap.get? b=some { cls:=.type "tuple",dict:=dd2,data:=.seq items2 n2,slots:=sl2 }/\
    R (.ok (.ret (.bool (lexLt ns ms)))) s):=
 .of_wp fun prog w A R s h=>by
  obtain⟨hp,g,d,tk,os⟩:=s;obtain⟨hl,hb,h⟩:=h;have f2:=yp;have z1:items.size=ns.length:=by rw[<-hi.length];simp
  have z2:items2.size=ms.length:=by rw[<-hj.length];simp
  wp_walk using wpAny_loadPart' hl,wpAny_loadPart' hb,wpAny_forIn_list _ (fun rest b s'=>b.1=none/\s'=⟨hp,g,d,tk,os⟩/\∃(vs ws:List Value) (ns' ms':List Int),rest=vs.zip ws/\
   IntsAre vs ns'/\IntsAre ws ms'/\ns'.length+items2.size=ms'.length+items.size/\R (.ok (.ret (.bool (lexLt ns' ms')))) ⟨hp,g,d,tk,os⟩) _
  case turn=>
   rintro⟨y,x⟩ rest b s' ⟨hb',rfl,vs,ws,ns',ms',hz,hvi,hwi,jV,hR⟩
   cases hvi with
   | nil=>rw[List.zip_nil_left] at hz;cases hz
   | cons a t hvi'=>
    cases hwi with
    | nil=>rw[List.zip_nil_right] at hz;cases hz
    | cons c u hwi'=>
     rw[List.zip_cons_cons] at hz;injection hz with hyx hrest;injection hyx with hy hx;subst hy hx;rw[Ze9] at hR;simp only[qT] at jV;obtain⟨e,he,hiff⟩:=Zh7 A.in1 ⟨hp,g,d,tk,os⟩ a t c u;refine wpAny_bind (he prog w _ _ ?_)
     cases e with
     | true=>
      rw[if_pos (hiff.mp rfl)] at hR
      wp_walk
      exact⟨rfl,rfl,_,_,_,_,hrest,hvi',hwi',by omega,hR⟩
     | false=>
      rw[if_neg (fun q=>absurd (hiff.mpr q) zD)] at hR;have hri:=Zh8 A.in1 ⟨hp,g,d,tk,os⟩ a t c u prog w
      wp_walk using hri
      exact⟨_,rfl,by simpa using hR⟩
  case fin=>
   rintro⟨b1,b2⟩ s' ⟨hb',rfl,vs,ws,ns',ms',hz,hvi,hwi,jV,hR⟩;simp only at hb';subst hb';have hv:lexLt ns' ms'=decide (items.size<items2.size):=by
    cases hvi with
    | nil=>
     cases hwi with
     | nil=>
      simp only[zK] at jV;rw[ZcJ];exact(decide_eq_false (by omega)).symm
     | cons c u hw=>
      simp only[zK,qT] at jV;rw[ZbU];exact(decide_eq_true (by omega)).symm
    | cons a t hv=>
     cases hwi with
     | nil=>
      simp only[zK,qT] at jV;rw[ZbV];exact(decide_eq_false (by omega)).symm
     | cons c u hw=>
      rw[List.zip_cons_cons] at hz
      cases hz
   rw[hv] at hR
   wp_walk
   exact⟨_,rfl,by simpa[Builtin.Tuple.tupleCompareSizes] using hR⟩
  case h=>
   exact⟨rfl,rfl,items.toList,items2.toList,ns,ms,rfl,hi,hj,by omega,h⟩
end
section
variable {prog:Program}{w:World}{A:Around}{E:Value->Shared->Prop}{s:Shared}
theorem lt_tupInts {l b:Addr}{items items2:Array Value}{ns ms:List Int}{Q:Value->Shared->Prop}(hl:IsTup s.heap l items)(hb:IsTup s.heap b items2)(hi:IntsAre items.toList ns)(hj:IntsAre items2.toList ms)
  (hu:A.units<cLine) (h:Q (.bool (lexLt ns ms)) s):wpAny (model prog w) A (compareOp .Lt (.ref l) (.ref b)) Q E s:=by
 obtain⟨⟨cls,dd,data,sl⟩,ho,hc,n,hd⟩:=id hl;obtain⟨⟨cls2,dd2,data2,sl2⟩,ho2,hc2,n2,hd2⟩:=id hb;simp only at hc hd hc2 hd2;subst hc hd hc2 hd2;exact richCompare_meets_room (op:=.Lt) ⟨_,ho,rfl⟩ ⟨_,ho2,rfl⟩ PySem.F.slot_tuple_lt PySem.F.entry_tuple_lt (PySem.F.args_tuple_lt_2 _ _) (ZcK l b items items2 n n2 dd dd2 sl sl2 ns ms hi hj)
  ⟨ho,ho2,show zE (lexLt ns ms)≠qbu/\Q (.bool (lexLt ns ms)) s from⟨(fun x=>nomatch x),h⟩⟩ hu
theorem cat_tup {t b:Addr}{vs ws:List Value}{Q:Value->Shared->Prop}(ht:IsTup s.heap t vs.toArray)(hb:IsTup s.heap b ws.toArray)(hv:vs≠[])
  (h1:ws=[]->Q (.ref t) s) (h2:ws≠[]->Q (.ref s.heap.objs.size) { s with heap:=s.heap.push { cls:=.type "tuple",data:=.seq (vs++ws).toArray } })
  (hsz:vs.length+ws.length<=sizeLine):wpAny (model prog w) A (binaryOp .Add (.ref t) (.ref b)) Q E s:=by
 obtain⟨⟨cls,dd,data,sl⟩,ho,hc,n,hd⟩:=id ht;obtain⟨⟨cls2,dd2,data2,sl2⟩,ho2,hc2,n2,hd2⟩:=id hb;simp only at hc hd hc2 hd2;subst hc hd hc2 hd2;have e:vs.toArray++ws.toArray=(vs++ws).toArray:=by simp
 by_cases hw:ws=[]
 ·exact concat_meets ⟨_,ho,rfl⟩ ⟨_,ho2,rfl⟩ noFill_tuple_add seq_tuple_add qai y9 (yT _ _)
   (tuple_addW1 t b vs.toArray ws.toArray n n2 dd dd2 sl sl2 (by simpa using hv) (by simp[hw])) ⟨ho,ho2,h1 hw⟩
 ·refine concat_meets ⟨_,ho,rfl⟩ ⟨_,ho2,rfl⟩ noFill_tuple_add seq_tuple_add qai y9 (yT _ _)
   (tuple_addW2 t b vs.toArray ws.toArray n n2 dd dd2 sl sl2 (by simpa using hv) (by simpa using hw) (by rw[qq,qq];exact hsz)) ⟨ho,ho2,?_⟩
  rw[e];exact h2 hw
noncomputable def sIx (n d:Nat):Option Int->Nat
 | none=>d
 | some v=>if v<0 then (v+(n:Int)).toNat else min v.toNat n
theorem sIx_none (n d:Nat):sIx n d none=d:=rfl
theorem sIx_nat (n d k:Nat):sIx n d (some (k:Int))=min k n:=by
 show(if (k:Int)<0 then ((k:Int)+(n:Int)).toNat else min (k:Int).toNat n)=min k n;rw[if_neg (by omega),z5]
theorem ZlS (n d:Nat)(hd:d<=n)(o:Option Int):sIx n d o<=n:=by
 cases o with
 | none=>exact hd
 | some v=>
  show(if v<0 then (v+(n:Int)).toNat else min v.toNat n)<=n;by_cases hv:v<0
  ·rw[if_pos hv];omega
  ·rw[if_neg hv];exact Nat.min_le_right _ _
theorem Zf7 (v:Int)(n d:Nat):(if v<0 then max (v+(n:Int)) 0 else min v (n:Int))=((sIx n d (some v):Nat):Int):=by
 show(if v<0 then max (v+(n:Int)) 0 else min v (n:Int))=(((if v<0 then (v+(n:Int)).toNat else min v.toNat n):Nat):Int);by_cases hv:v<0
 ·simp only[if_pos hv];omega
 ·simp only[if_neg hv];omega
theorem Zfa (lo hi:Option Int)(n:Nat):yM lo hi 1 (n:Int)=(((sIx n 0 lo:Nat):Int),((sIx n n hi:Nat):Int)):=by
 have h1:¬((1:Int)<0):=by omega
 unfold yM;simp only[h1,if_false];refine Prod.ext ?_ ?_
 ·cases lo with
  | none=>rfl
  | some v=>exact Zf7 v n 0
 ·cases hi with
  | none=>rfl
  | some v=>exact Zf7 v n n
theorem Zfb (i j:Nat):ym (i:Int) (j:Int) 1=j-i:=by
 unfold ym;have h1:(1:Int) > 0:=by omega
 simp only[h1,if_true,Int.ediv_one];split <;> omega
theorem ZbW {v:Value}{o:Option Int}{Q:Option Int->Shared->Prop}(p:IsPart v o)(h:Q o s):wpAny (model prog w) A (Builtin.Slice.slicePartIndex v) Q E s:=by
 cases p with
 | none=>exact slicePart_none h
 | int i t=>exact slicePart_int h
theorem Zar {sl:Addr}{vl vu:Value}{lo hi:Option Int}{n:Nat}{Q:Int×Int×Nat->Shared->Prop}(hs:s.heap.IsSliceOf sl vl vu .none)(pl:IsPart vl lo)(pu:IsPart vu hi)
  (h:Q (((sIx n 0 lo:Nat):Int),1,sIx n n hi-sIx n 0 lo) s):wpAny (model prog w) A (qaJ (.ref sl) (pure (n:Int))) Q E s:=by
 obtain⟨os,hos,hcs,hds⟩:=id hs;unfold qaJ Builtin.Slice.sliceFields;refine wpAny_bind (wpAny_bind (wpAny_field hos hds (x:=vl) rfl (wpAny_bind (wpAny_field hos hds (x:=vu) rfl (wpAny_bind (wpAny_field hos hds (x:=.none) rfl (wpAny_pure ?_)))))));refine wpAny_bind (slicePart_none ?_);show wpAny _ _ (if ((1:Int)==0)=true then _ else _) _ _ s;rw[if_neg (by decide)];refine wpAny_bind (ZbW pl (wpAny_bind (ZbW pu (wpAny_bind (wpAny_pure ?_)))));show wpAny _ _ (match yM lo hi 1 (n:Int) with | (lo,hi)=>pure (lo,(1:Int),ym lo hi 1)) _ _ s;rw[Zfa lo hi n];show wpAny _ _ (pure (((sIx n 0 lo:Nat):Int),(1:Int),ym ((sIx n 0 lo:Nat):Int) ((sIx n n hi:Nat):Int) 1)) _ _ s;rw[Zfb];exact wpAny_pure h
theorem Zh9 (xs:Array Value)(i k:Nat):((qm k).filterMap fun(m:Nat)=>xs[((i:Int)+(m:Int)*1).toNat]?).toArray=((xs.toList.drop i).take k).toArray:=by
 have e:(fun(m:Nat)=>xs[((i:Int)+(m:Int)*1).toNat]?)=fun m=>xs[i+m]?:=by
  funext m;have:((i:Int)+(m:Int)*1).toNat=i+m:=by omega
  rw[this]
 rw[e];have:=pick_run xs i k;rw[List.filterMap_map] at this;have e2:((fun x=>xs[x]?)∘fun x=>i+x)=fun m=>xs[i+m]?:=rfl;rw[e2] at this;rw[this]
theorem getItem_tuple_cut {t sl:Addr}{items:Array Value}{vl vu:Value}{lo hi:Option Int}{Q:Value->Shared->Prop}(ht:IsTup s.heap t items)(hs:s.heap.IsSliceOf sl vl vu .none)(pl:IsPart vl lo)(pu:IsPart vu hi)
  (hw:¬(sIx items.size 0 lo=0/\sIx items.size items.size hi=items.size))
  (h:Q (.ref s.heap.objs.size) { s with heap:=s.heap.push { cls:=.type "tuple",data:=.seq ((items.toList.drop (sIx items.size 0 lo)).take (sIx items.size items.size hi-sIx items.size 0 lo)).toArray } })
  (hsz:items.size<=sizeLine):wpAny (model prog w) A (getItem (.ref t) (.ref sl)) Q E s:=by
 have htake:sizeOk (.seq ((items.toList.drop (sIx items.size 0 lo)).take (sIx items.size items.size hi-sIx items.size 0 lo)).toArray):=by
  show((items.toList.drop (sIx items.size 0 lo)).take (sIx items.size items.size hi-sIx items.size 0 lo)).toArray.size<=sizeLine;rw[qq,zU,qam,zg];omega
 have hj:sIx items.size items.size hi<=items.size:=ZlS _ _ (qp _) hi;obtain⟨os,hos,hcs,hds⟩:=id hs;have hTs:s.TypeIs (.ref sl) "slice":=⟨os,hos,hcs⟩;unfold getItem
 try with_reducible refine wpAny_holding ?_
 first | refine wpAny_bind (wpAny_pure ?_) | skip
 refine wpAny_bind (wpAny_sequenceKey ht.typeIs (by decide) ?_);refine wpAny_bind (wpAny_callSpecial?_slot (name:=qw "__getitem__") ht.typeIs zr
  (wpAny_call_entry zr ht.typeIs entry_tuple_getitem ?_ (args_tuple_getitem _ _)))
 show wpAny _ _ (qaK (.ref t) >>= _) _ _ s;refine wpAny_bind (tupleItemsOf_ ht ?_);refine wpAny_bind (wpAny_typeOf hTs ?_);rw[if_pos (by decide)];refine wpAny_bind (Zar hs pl pu ?_);have hno:¬((((sIx items.size 0 lo:Nat):Int)==0&&(1:Int)==1&&(sIx items.size items.size hi-sIx items.size 0 lo)==items.size)=true):=by
  intro q;rw[zd,zd] at q;have q1:((sIx items.size 0 lo:Nat):Int)=0:=eq_of_beq q.1.1;have q2:sIx items.size items.size hi-sIx items.size 0 lo=items.size:=eq_of_beq q.2;exact hw ⟨by omega,by omega⟩
 show wpAny _ _ (if (((sIx items.size 0 lo:Nat):Int)==0&&(1:Int)==1&&(sIx items.size items.size hi-sIx items.size 0 lo)==items.size)=true then _ else _) _ _ s;rw[if_neg hno,Zh9]
 first
  | exact wpAny_bind (m:=yq _) (wpAny_newObj_type (wpAny_pure ⟨_,rfl,wpAny_pure h⟩) htake)
  | exact wpAny_bind (m:=yq _) (wpAny_newObj_type (wpAny_bind (wpAny_pure (wpAny_pure ⟨_,rfl,wpAny_pure h⟩))) htake)
  | exact wpAny_bind (wpAny_bind (m:=yq _) (wpAny_newObj_type (wpAny_pure (wpAny_pure ⟨_,rfl,wpAny_pure h⟩)) htake))
  | exact wpAny_bind (wpAny_bind (m:=yq _) (wpAny_newObj_type (wpAny_pure ⟨_,rfl,wpAny_pure h⟩) htake))
end
end HT
namespace L2
noncomputable abbrev TO:=St->Hp->(Option Int->Hp->Prop)->Prop
noncomputable def PO (X:Cx)(e:Option Expr)(t:TO):Prop:=
 ∀(jJ:List (Addr×Obj)) (s:Shared) (σ:St) (H:Hp) (Q:Option Int->Hp->Prop),Inv X jJ σ H s->t σ H Q->
  wpAny (model X.prog X.w) X.A (evalPart e X.env) (fun u s'=>∃o H',Inv X jJ σ H' s'/\IsPart u o/\Q o H') X.xe s
noncomputable def ZjX:TO:=fun _ H Q=>Q none H
noncomputable def ZmV (t:TE):TO:=fun σ H Q=>t σ H fun x H1=>∃i,x=.int i/\Q (some i) H1
theorem Vw {ns:List Int}:∀{us:List Value},Zs (ns.map V.int) us->IntsAre us ns:=by
 induction ns with
 | nil=>intro us r;rw[qaY] at r;cases r;exact .nil
 | cons n ns ih=>
  intro us r;rw[zi] at r
  cases r with
  | cons r1 r2=>
   obtain⟨t,e⟩:=r1;subst e;exact .cons n t (ih r2)
section
variable {X:Cx}{e:Expr}{te:TE}{lo hi:Option Expr}{tl th:TO}{pos p2:Pos}
theorem ZjY:PO X none ZjX:=by
 intro jJ s σ H Q I h;rw[evalPart_none];exact wpAny_pure ⟨none,H,I,.none,h⟩
theorem ZjZ (h:PE X e te):PO X (some e) (ZmV te):=by
 intro jJ s σ H Q I hw;rw[evalPart_some];refine ZC (h jJ s σ H _ I hw) fun u s1 ⟨x,H1,I1,r1,q1⟩=>?_;obtain⟨i,rfl,q⟩:=q1;obtain⟨t,rfl⟩:=r1;exact⟨some i,H1,I1,.int i t,q⟩
noncomputable def V2 (X:Cx)(r:V->Option Int->Option Int->Hp->VK->Prop):Prop:=
 ∀(jJ:List (Addr×Obj)) (s:Shared) (σ:St) (H:Hp) (x:V) (v vl vu:Value) (lo hi:Option Int) (sl:Addr) (Q:VK),Inv X jJ σ H s->ZA x v->s.heap.IsSliceOf sl vl vu .none->IsPart vl lo->IsPart vu hi->r x lo hi H Q->
  ∃T id,typeLookup (.type T) "__getitem__" = pure (some (.builtin id))/\s.TypeIs v T/\wpAny (model X.prog X.w) X.A (getItem v (.ref sl)) (EP X jJ σ Q) X.xe s
theorem V2.or {r r':V->Option Int->Option Int->Hp->VK->Prop}(h:V2 X r)(h':V2 X r'):V2 X (fun x lo hi H Q=>r x lo hi H Q∨r' x lo hi H Q):=by
 intro jJ s σ H x v vl vu lo hi sl Q I rx hs pl pu q;rcases q with q | q
 ·exact h jJ s σ H x v vl vu lo hi sl Q I rx hs pl pu q
 ·exact h' jJ s σ H x v vl vu lo hi sl Q I rx hs pl pu q
noncomputable def tSl (r:V->Option Int->Option Int->Hp->VK->Prop)(te:TE)(tl th:TO):TE:=fun σ H Q=>te σ H fun x H1=>tl σ H1 fun l H2=>th σ H2 fun u H3=>r x l u H3 Q
theorem Zia {r:V->Option Int->Option Int->Hp->VK->Prop}(hr:V2 X r)(he:PE X e te)(hl:PO X lo tl)(hu:PO X hi th):PE X (.Subscript e (.Slice lo hi none p2) pos) (tSl r te tl th):=by
 intro jJ s σ H Q I h;refine Subscript_ (ZC (he jJ s σ H _ I h) fun v s1 ⟨x,H1,I1,r1,q1⟩=>?_);refine wpAny_Slice (ZC (hl jJ s1 σ H1 _ I1 q1) fun vl s2 ⟨l,H2,I2,pl,q2⟩=>ZC (hu jJ s2 σ H2 _ I2 q2) fun vu s3 ⟨u,H3,I3,pu,q3⟩=>?_);rw[evalPart_none];refine wpAny_pure ?_;have I4:Inv X jJ σ H3 { s3 with heap:=s3.heap.push { cls:=.type "slice",data:=.fields #[vl,vu,.none] } }:=I3.kept (t':=s3.toks) fun b ob q=>qd _ q;obtain⟨T,id,hT,ht,hg⟩:=hr jJ { s3 with heap:=s3.heap.push { cls:=.type "slice",data:=.fields #[vl,vu,.none] } } σ H3 x v vl vu l u s3.heap.objs.size Q I4 r1 (Heap.IsSliceOf.new ..) pl pu q3;show wpAny (model X.prog X.w) X.A (subscriptTail e (.Slice lo hi none p2) v (.ref s3.heap.objs.size)) (EP X jJ σ Q) X.xe { s3 with heap:=s3.heap.push { cls:=.type "slice",data:=.fields #[vl,vu,.none] } };exact tail_any (ops:=[.ref s3.heap.objs.size,v]) ht hT hg (by with_unfolding_all rfl)
noncomputable def Vm (xs:List V)(lo hi:Option Int):List V:=(xs.drop (HT.sIx xs.length 0 lo)).take (HT.sIx xs.length xs.length hi-HT.sIx xs.length 0 lo)
theorem ZbF (xs:List V)(lo hi:Option Int):(Vm xs lo hi).length<=xs.length:=by
 unfold Vm;rw[zU,qam];omega
noncomputable def rSlT (K:qf):V->Option Int->Option Int->Hp->VK->Prop:=fun x lo hi H Q=>∃a xs,x=.ref a/\ZF K H a xs/\
 ¬(HT.sIx xs.length 0 lo=0/\HT.sIx xs.length xs.length hi=xs.length)/\∀p,H p=none->Q (.ref p) (Zk H p (.tup (Vm xs lo hi)))
theorem ZlT:V2 X (rSlT X.K):=by
 intro jJ s σ H x v vl vu lo hi sl Q I rx hs pl pu h;obtain⟨a,xs,rfl,hx,hw,q⟩:=h
 cases rx
 obtain⟨jL,r,ht,hz⟩:=I.tuple hx;have jV:jL.toArray.size=xs.length:=by rw[qq];exact r.length.symm
 refine⟨"tuple",_,zr.lookup,ht.typeIs,?_⟩;refine HT.getItem_tuple_cut ht hs pl pu (by rw[jV];exact hw) ?_ (by rw[jV];exact hz);rw[jV];refine⟨.ref s.heap.objs.size,_,I.laid (t':=s.toks) (o:=.tup (Vm xs lo hi)) (fun b ob q=>qd _ q) (qp _) ?_,rfl,q _ (I.hok.fresh (qp _))⟩;exact⟨qZ (ZbF xs lo hi) hz,_,(r.drop (HT.sIx xs.length 0 lo)).take (HT.sIx xs.length xs.length hi-HT.sIx xs.length 0 lo),qaE _ _⟩
noncomputable def rLtT (K:qf):R2:=fun x y H Q=>∃a b ns ms,x=.ref a/\y=.ref b/\ZF K H a (ns.map V.int)/\ZF K H b (ms.map V.int)/\Q (.bl (HT.lexLt ns ms)) H
theorem ZlU (hu:X.A.units<cLine):Yi X (compareOp .Lt) (rLtT X.K):=by
 intro jJ s σ H x y v u Q I rx ry h;obtain⟨a,b,ns,ms,rfl,rfl,ha,hb,q⟩:=h
 cases rx
 cases ry
 obtain⟨jL,r1,p1,_⟩:=I.tuple ha;obtain⟨jS,r2,p2,_⟩:=I.tuple hb;have i1:IntsAre jL.toArray.toList ns:=Vw r1;have i2:IntsAre jS.toArray.toList ms:=Vw r2;exact HT.lt_tupInts p1 p2 i1 i2 hu ⟨.bl (HT.lexLt ns ms),H,I,rfl,q⟩
noncomputable def ZmW (K:qf):R2:=fun x y H Q=>∃a b xs ys,x=.ref a/\y=.ref b/\ZF K H a xs/\ZF K H b ys/\xs≠[]/\xs.length+ys.length<=sizeLine/\
 (ys=[]->Q (.ref a) H)/\(ys≠[]->∀p,H p=none->Q (.ref p) (Zk H p (.tup (xs++ys))))
theorem Zs.nil_iff {xs:List V}{us:List Value}(r:Zs xs us):us=[]↔xs=[]:=by
 cases r with
 | nil=>simp
 | cons _ _=>simp
theorem Zj0:Yi X (binaryOp .Add) (ZmW X.K):=by
 intro jJ s σ H x y v u Q I rx ry h;obtain⟨a,b,xs,ys,rfl,rfl,ha,hb,hx,hz,q1,q2⟩:=h
 cases rx
 cases ry
 obtain⟨jL,r1,p1,_⟩:=I.tuple ha;obtain⟨jS,r2,p2,_⟩:=I.tuple hb;refine HT.cat_tup p1 p2 (fun z=>hx (r1.nil_iff.mp z)) (fun z=>⟨.ref a,H,I,rfl,q1 (r2.nil_iff.mp z)⟩) (fun z=>?_) (by rw[<-r1.length,<-r2.length];exact hz);refine⟨.ref s.heap.objs.size,_,I.laid (t':=s.toks) (o:=.tup (xs++ys)) (fun b ob q=>qd _ q) (qp _) ?_,rfl,q2 (fun w=>z (r2.nil_iff.mpr w)) _ (I.hok.fresh (qp _))⟩;exact⟨by rw[qJ];exact hz,_,r1.append r2,qaE _ _⟩
end
end L2
namespace L2
noncomputable def XX (n:Nat)(i:Int):Option Nat:=if 0<=i then (if i<n then some i.toNat else none) else if -(n:Int)<=i then some (i+n).toNat else none
noncomputable def Xo {α:Type}(xs:List α)(i:Int):Option α:=(XX xs.length i).bind fun j=>xs[j]?
theorem Zf8 {n:Nat}{i:Int}{j:Nat}(h:XX n i=some j):seqIndex? i n=some j/\j<n/\-(n:Int)<=i/\i<n:=by
 unfold XX at h;by_cases h0:0<=i
 ·rw[if_pos h0] at h
  by_cases h1:i<n
  ·rw[if_pos h1] at h
   have e:i.toNat=j:=qY h;exact⟨by rw[seqIndex_of h0 h1,e],by omega,by omega,h1⟩
  ·rw[if_neg h1] at h;cases h
 ·rw[if_neg h0] at h
  by_cases h1:-(n:Int)<=i
  ·rw[if_pos h1] at h
   have e:(i+n).toNat=j:=qY h;exact⟨by rw[seqIndex_neg (by omega) h1,e],by omega,h1,by omega⟩
  ·rw[if_neg h1] at h;cases h
theorem Zf9 {α:Type}{xs:List α}{i:Int}{v:α}(h:Xo xs i=some v):∃j,seqIndex? i xs.length=some j/\xs[j]?=some v/\j<xs.length/\-(xs.length:Int)<=i/\i<xs.length:=by
 unfold Xo at h
 cases e:XX xs.length i with
 | none=>rw[e] at h;cases h
 | some j=>
  rw[e] at h;obtain⟨h1,h2,h3,h4⟩:=Zf8 e;exact⟨j,h1,h,h2,h3,h4⟩
theorem Wl {α:Type}{xs:List α}{j:Nat}{v:α}(h:xs[j]?=some v):Xo xs (j:Int)=some v:=by
 have hj:j<xs.length:=(qB.mp h).1;have e:XX xs.length (j:Int)=some j:=by
  unfold XX;rw[if_pos (by omega),if_pos (by omega)];simp
 unfold Xo;rw[e];exact h
noncomputable def Zga (b:Expr):Prop:=∀o i,subscripted b false o i=operate [o,i] (getItem o i)
noncomputable def V3 (X:Cx)(r:R2):Prop:=
 ∀(value slice:Expr) (jJ:List (Addr×Obj)) (s:Shared) (σ:St) (H:Hp) (x y:V) (v u:Value) (Q:VK),Inv X jJ σ H s->ZA x v->ZA y u->r x y H Q->
  subscripted slice false v u=operate [v,u] (getItem v u)->wpAny (model X.prog X.w) X.A (subscriptTail value slice v u) (EP X jJ σ Q) X.xe s
noncomputable def MtR (X:Cx)(id:String)(r:V->List V->Hp->VK->Prop):Prop:=
 ∀(jJ:List (Addr×Obj)) (s:Shared) (σ:St) (H:Hp) (x:V) (xs:List V) (v:Value) (us:List Value) (Q:VK),Inv X jJ σ H s->ZA x v->Zs xs us->r x xs H Q->
  wpAny (model X.prog X.w) X.A (call (.builtin id) (v::us)) (EP X jJ σ Q) X.xe s
section
variable {X:Cx}{a b:Expr}{ta tb:TE}{pos:Pos}
theorem V3.or {r r':R2}(h:V3 X r)(h':V3 X r'):V3 X (fun x y H Q=>r x y H Q∨r' x y H Q):=by
 intro value slice jJ s σ H x y v u Q I rx ry q hs;rcases q with q | q
 ·exact h value slice jJ s σ H x y v u Q I rx ry q hs
 ·exact h' value slice jJ s σ H x y v u Q I rx ry q hs
theorem B1 {r:R2}(hr:V3 X r)(ha:PE X a ta)(hb:PE X b tb)(hs:Zga b):PE X (.Subscript a b pos) (Yp r ta tb):=by
 intro jJ s σ H Q I h;exact Subscript_ (binT ha hb I h fun v u s2 x y H2 I2 rx ry q=>hr a b jJ s2 σ H2 x y v u Q I2 rx ry q (hs _ _))
noncomputable def rIxL (K:qf):R2:=fun x y H Q=>∃p xs i v,x=.ref p/\y=.int i/\Zu K H p xs/\Xo xs i=some v/\Q v H
noncomputable def rIxT (K:qf):R2:=fun x y H Q=>∃p xs i v,x=.ref p/\y=.int i/\ZF K H p xs/\Xo xs i=some v/\Q v H
theorem BI:V3 X (rIxL X.K):=by
 intro value slice jJ s σ H x y v u Q I rx ry h hs;obtain⟨p,xs,i,z,rfl,rfl,hq,he,q⟩:=h
 cases rx
 obtain⟨t,rfl⟩:=ry;obtain⟨jL,r,pl,hz⟩:=I.list hq;obtain⟨j,h1,h2,h3,h4,h5⟩:=Zf9 he;obtain⟨w,ew,rw'⟩:=r.get h2;have hl:=r.length;have hn:=JQ;have fin:EP X jJ σ Q w s:=⟨z,H,I,rw',q⟩;by_cases h0:0<=i
 ·have hj:i.toNat=j:=by
   rw[seqIndex_of h0 h5] at h1;exact qY h1
  exact item_listR pl.isList h0 (by omega) (by rw[hj];simpa using ew) fin hs
 ·have hj:(i+(jL.toArray.size:Int)).toNat=j:=by
   rw[seqIndex_neg (by omega) h4] at h1;rw[qq,<-hl];exact qY h1
  exact subscriptTail_builtinR (x:=w) pl.isList.typeIs slot_list_getitem.lookup
   (wpAny_getItem_list_neg (Q:=fun r s'=>r=w/\EP X jJ σ Q r s') pl.isList (by omega) (by rw[qq] <;> omega) (by omega) (by rw[hj];simpa using ew) ⟨rfl,fin⟩) hs
theorem ZlV:V3 X (rIxT X.K):=by
 intro value slice jJ s σ H x y v u Q I rx ry h hs;obtain⟨p,xs,i,z,rfl,rfl,hq,he,q⟩:=h
 cases rx
 obtain⟨t,rfl⟩:=ry;obtain⟨jL,r,pl,hz⟩:=I.tuple hq;obtain⟨j,h1,h2,h3,h4,h5⟩:=Zf9 he;obtain⟨w,ew,rw'⟩:=r.get h2;have hl:=r.length;have hn:=JQ;have fin:EP X jJ σ Q w s:=⟨z,H,I,rw',q⟩;exact subscriptTail_builtinR (x:=w) pl.typeIs slot_tuple_getitem.lookup
  (getItem_tuple (j:=j) (Q:=fun r s'=>r=w/\EP X jJ σ Q r s') pl (by omega) (by omega) (by rw[qq,<-hl];exact h1) (by simpa using ew) ⟨rfl,fin⟩) hs
theorem Zfc (jL:List Value)(n j:Nat)(u:Value):qR (·.setIfInBounds j u) { cls:=.type "list",data:=.seq jL.toArray n } = { cls:=.type "list",data:=.seq (jL.set j u).toArray n }:=by
 simp[qR]
theorem Inv.lst {jJ:List (Addr×Obj)}{σ:St}{H:Hp}{s:Shared}{p:Addr}{xs:List V}(I:Inv X jJ σ H s)(h:H p=some (.lst xs)) :
  ∃(jL:List Value) (n:Nat),Zs xs jL/\s.heap.get? p=some { cls:=.type "list",data:=.seq jL.toArray n }/\xs.length<=sizeLine:=by
 obtain⟨z,jL,n,r,e⟩:=I.hok p _ h;exact⟨jL,n,r,e,z⟩
theorem Inv.lstUpd {jJ:List (Addr×Obj)}{σ:St}{H:Hp}{s:Shared}{p:Addr}{xs ys:List V}{jL its':List Value}{n n':Nat}{f:Obj->Obj}(I:Inv X jJ σ H s)(h:H p=some (.lst xs))
  (ho:s.heap.get? p=some { cls:=.type "list",data:=.seq jL.toArray n }) (hf:f { cls:=.type "list",data:=.seq jL.toArray n } = { cls:=.type "list",data:=.seq its'.toArray n' }) (r:Zs ys its') (hz:ys.length<=sizeLine) (t:Nat) :
  Inv X jJ σ (Zk H p (.lst ys)) { s with heap:=s.heap.update p f,toks:=t }:=by
 have e:(s.heap.update p f).get? p=some { cls:=.type "list",data:=.seq its'.toArray n' }:=by
  rw[qbk f ho (by rw[hf] <;> rfl),hf]
 refine I.write (x:=p) (e:=p) (by rw[h];trivial) (.inl rfl) (fun b u hb q=>(qbf _ _ (zl hb)).trans q) ⟨_,e⟩ ?_;exact⟨hz,its',n',r,e⟩
noncomputable def Zk8:V->V->V->Hp->(Hp->Prop)->Prop:=fun o i v H Q=>∃p xs k j,o=.ref p/\i=.int k/\H p=some (.lst xs)/\XX xs.length k=some j/\Q (Zk H p (.lst (xs.set j v)))
theorem Zd9:PSet X Zk8:=by
 intro jJ s σ H o i v ov iv u Q I ro ri rv h;obtain⟨p,xs,k,j,rfl,rfl,hp,hj,q⟩:=h
 cases ro
 obtain⟨t,rfl⟩:=ri;obtain⟨jL,n,r,ho,hz⟩:=I.lst hp;obtain⟨h1,h2,h3,h4⟩:=Zf8 hj;have hl:=r.length;have hn:=JQ;have I':Inv X jJ σ (Zk H p (.lst (xs.set j v))) { s with heap:=s.heap.update p (qR (·.setIfInBounds j u)) }:=
  I.lstUpd hp ho (Zfc jL n j u) (r.set rv j) (by rw[List.length_set];exact hz) s.toks
 by_cases h0:0<=k
 ·have hk:k.toNat=j:=by
   rw[seqIndex_of h0 h4] at h1;exact qY h1
  exact PySem.W.ki_setAt ho h0 (by omega) (by rw[qq,<-hl];exact h4) (by rw[hk];exact⟨_,I',q⟩)
 ·have hk:(k+(jL.toArray.size:Int)).toNat=j:=by
   rw[seqIndex_neg (by omega) h3] at h1;rw[qq,<-hl];exact qY h1
  exact PySem.W.ki_setBack ho (by omega) (by rw[qq,<-hl];exact h3) (by omega) (by rw[hk];exact⟨_,I',q⟩)
theorem ZdG (lo hi:Option Int)(n:Nat):(sliceBounds lo hi none n).1=((HT.sIx n 0 lo:Nat):Int)/\(sliceBounds lo hi none n).2.1=((HT.sIx n n hi:Nat):Int)/\(sliceBounds lo hi none n).2.2=1:=by
 refine⟨?_,?_,rfl⟩
 ·cases lo with
  | none=>simp[sliceBounds,HT.sIx]
  | some i=>
   simp only[sliceBounds,HT.sIx,Option.getD_none,show(1:Int) > 0 by decide,if_true];by_cases h:i<0
   ·simp only[h,if_true] <;> omega
   ·simp only[h,if_false] <;> omega
 ·cases hi with
  | none=>simp[sliceBounds,HT.sIx]
  | some i=>
   simp only[sliceBounds,HT.sIx,Option.getD_none,show(1:Int) > 0 by decide,if_true];by_cases h:i<0
   ·simp only[h,if_true] <;> omega
   ·simp only[h,if_false] <;> omega
theorem ZcL (jL:List Value)(lo hi:Option Int):slicePick jL.toArray lo hi none=((jL.drop (HT.sIx jL.length 0 lo)).take (HT.sIx jL.length jL.length hi-HT.sIx jL.length 0 lo)).toArray:=by
 obtain⟨h1,h2,h3⟩:=ZdG lo hi jL.toArray.size;unfold slicePick;rw[h1,h2,h3];simp only[sliceRange_one,pick_run,qq] <;> rfl
noncomputable def rSlL (K:qf):V->Option Int->Option Int->Hp->VK->Prop:=fun x lo hi H Q=>∃a xs,x=.ref a/\Zu K H a xs/\∀p,H p=none->Q (.ref p) (Zk H p (.lst (Vm xs lo hi)))
theorem Zj1:V2 X (rSlL X.K):=by
 intro jJ s σ H x v vl vu lo hi sl Q I rx hs pl pu h;obtain⟨a,xs,rfl,hx,q⟩:=h
 cases rx
 obtain⟨jL,r,ht,hz⟩:=I.list hx;have jV:=r.length;refine⟨"list",_,slot_list_getitem.lookup,ht.isList.typeIs,?_⟩;refine wpAny_getItem_list_slice ht.isList hs pl pu .none (by simp) ?_ (by rw[qq] <;> omega);rw[ZcL,<-jV];refine⟨.ref s.heap.objs.size,_,I.laid (t':=s.toks) (o:=.lst (Vm xs lo hi)) (fun b ob q=>qd _ q) (qp _) ?_,rfl,q _ (I.hok.fresh (qp _))⟩;exact⟨qZ (ZbF xs lo hi) hz,_,0,(r.drop (HT.sIx xs.length 0 lo)).take (HT.sIx xs.length xs.length hi-HT.sIx xs.length 0 lo),qy _ rfl⟩
theorem Zav:Xy X (.builtin "len") (fun xs H Q=>∃p ys,xs=[.ref p]/\(Zu X.K H p ys∨ZF X.K H p ys)/\Q (.int ys.length) H):=by
 intro jJ s σ H xs us Q I r h;obtain⟨p,ys,rfl,hq,q⟩:=h;obtain⟨u,rfl,rx⟩:=X2 r
 cases rx
 have hn:=JQ;rcases hq with hq | hq
 ·obtain⟨jL,r',pl,hz⟩:=I.list hq
  have jV:=r'.length;exact Calls.call_len_list pl.isList (by simp only[qq] <;> omega) ⟨.int ys.length,H,I.tok _,⟨s.toks+1,by rw[qq,jV]⟩,q⟩
 ·obtain⟨jL,r',pl,hz⟩:=I.tuple hq
  have jV:=r'.length;exact len_tuple pl (by simp only[qq] <;> omega) ⟨.int ys.length,H,I.tok _,⟨s.toks+1,by rw[qq,jV]⟩,q⟩
theorem ZcM:Xy X (.type "tuple") (fun xs H Q=>∃p ys,xs=[.ref p]/\((Zu X.K H p ys/\∀l,H l=none->Q (.ref l) (Zk H l (.tup ys)))∨(ZF X.K H p ys/\Q (.ref p) H))):=by
 intro jJ s σ H xs us Q I r h;obtain⟨p,ys,rfl,h⟩:=h;obtain⟨u,rfl,rx⟩:=X2 r
 cases rx
 rcases h with⟨hq,q⟩ | ⟨hq,q⟩
 ·obtain⟨jL,r',pl,hz⟩:=I.list hq
  have jV:=r'.length;refine call_tuple_list pl.isList (fun h' kp=>?_) (by simp only[qq] <;> omega);have I1:Inv X jJ σ H { s with heap:=h' }:=I.kept (t':=s.toks) kp;have I2:Inv X jJ σ (Zk H h'.objs.size (.tup ys)) { s with heap:=h'.push { cls:=.type "tuple",data:=.seq jL.toArray } }:=
   I1.laid (t':=s.toks) (fun b o e=>qd _ e) (qp _) (show YA X.prog X.w _ _ _ (.tup ys) from⟨hz,jL,r',qaE _ _⟩)
  exact⟨.ref h'.objs.size,_,I2,rfl,q _ (I1.hok.fresh (qp _))⟩
 ·obtain⟨jL,r',pl,hz⟩:=I.tuple hq
  exact call_tuple_same pl ⟨.ref p,H,I,rfl,q⟩
noncomputable def tyV (K:qf)(T:String)(x:V)(H:Hp):Prop:=match x with
 | .str _=>T = "str"
 | .int _=>T = "int"
 | .ref p=>(T = "list"/\∃xs,Zu K H p xs)∨(T = "tuple"/\∃o,K.lookup p=some o/\o.cls=.type "tuple"/\o.dict=none)∨
   (T = "dict"/\((∃kvs,H p=some (.dK kvs))∨∃kvs,H p=some (.dT kvs)))∨(T = "set"/\∃S n,H p=some (.set S n))
 | _=>False
theorem ZlW {jJ:List (Addr×Obj)}{σ:St}{H:Hp}{s:Shared}{T:String}{x:V}{v:Value}(I:Inv X jJ σ H s)(r:ZA x v)(ty:tyV X.K T x H) :
  s.TypeIs v T/\∀a,v=.ref a->∃ob,s.heap.get? a=some ob/\ob.dict=none:=by
 cases x with
 | str z=>
  obtain⟨t,rfl⟩:=r
  cases (show T = "str" from ty)
  exact⟨typeIs_str s z t,fun _ e=>nomatch e⟩
 | int i=>
  obtain⟨t,rfl⟩:=r
  cases (show T = "int" from ty)
  exact⟨typeIs_int s i t,fun _ e=>nomatch e⟩
 | ref p=>
  cases r
  rcases ty with⟨rfl,xs,hq⟩ | ⟨rfl,o,hk,hc,hd⟩ | ⟨rfl,hk⟩ | ⟨rfl,S,n,hk⟩
  ·obtain⟨jL,_,pl,_⟩:=I.list hq
   refine⟨pl.isList.typeIs,fun a e=>?_⟩
   cases e
   obtain⟨o,n,e,c,hd,_⟩:=pl;exact⟨o,e,hd⟩
  ·refine⟨⟨o,I.kIn p o hk,hc⟩,fun a e=>?_⟩
   cases e
   exact⟨o,I.kIn _ o hk,hd⟩
  ·have z:∃o,s.heap.get? p=some o/\o.ExactDict:=by
    rcases hk with⟨kvs,hk⟩ | ⟨kvs,hk⟩
    ·obtain⟨_,_,_,_,o,_,_,e,ex,_⟩:=I.hok p _ hk
     exact⟨o,e,ex⟩
    ·obtain⟨_,_,_,_,o,_,_,e,ex,_⟩:=I.hok p _ hk
     exact⟨o,e,ex⟩
   obtain⟨o,e,ex⟩:=z;refine⟨⟨o,e,ex.1⟩,fun a e2=>?_⟩
   cases e2
   exact⟨o,e,ex.2.1⟩
  ·obtain⟨o,_,_,_,e,ex,_⟩:=I.hok p _ hk
   refine⟨⟨o,e,ex.1⟩,fun a e2=>?_⟩
   cases e2
   exact⟨o,e,ex.2.1⟩
 | _=>exact zw ty
noncomputable def V4 (K:qf)(T:String)(r:V->List V->Hp->VK->Prop)(to:TE)(t:TA):TE:=fun σ H Q=>to σ H fun x H1=>tyV K T x H1/\t σ H1 fun xs H2=>r x xs H2 Q
variable {o e:Expr}{es:List Expr}{to:TE}{t:TA}{name:Str}{apos cpos:Pos}{T id:String}{r:V->List V->Hp->VK->Prop}
theorem B2 (pa:PlainAttrs T)(slot:Slot T name id)(hty:typeOf (.builtin id)=pure (.type "method_descriptor"))(hm:MtR X id r)(ho:PE X o to)(ha:PA X (e::es) t)
  (hbase:attributeBase o name X.env (eval o X.env)=eval o X.env:=by rfl)
  (hfew:((backTo cpos (starEach (e::es) X.env)).all (fun x=>!x.1)&&(backToKw cpos (keywordEach [] X.env)).all (fun x=>x.1.isSome)
   && decide ((e::es).length+([]:List Keyword).length+(if ([]:List Keyword).isEmpty then 0 else 1)<30))=true:=by rfl)
  (hline:(apos.endLine==cpos.line)=true:=by rfl) (hs:starEach (e::es) X.env=(false,eval e X.env)::starEach es X.env:=by rfl) (hplain:(backTo cpos (starEach es X.env)).any (·.1)=false:=by rfl) :
  PE X (.Call (.Attribute o name apos) (e::es) [] cpos) (V4 X.K T r to t):=by
 intro jJ s σ H Q I h;refine wpAny_Call_method_late hbase hfew hline rfl (ZC (ho jJ s σ H _ I h) fun v s1 ⟨x,H1,I1,r1,ty,q1⟩=>?_);obtain⟨h1,h2⟩:=ZlW I1 r1 ty;refine⟨T,id,pa,slot,hty,h1,h2,?_⟩;have hA:=ha cpos jJ s1 σ H1 _ I1 q1;rw[hs] at hA⊢;refine Calls.callWith_builtin (by show(false||(backTo cpos (starEach es X.env)).any (·.1))=false;rw[hplain] <;> rfl) (Calls.evalArgs_plain ?_);exact ZC hA fun us s2 ⟨vs,H2,I2,r2,q2⟩=>hm jJ s2 σ H2 x vs v us Q I2 r1 r2 q2
end
end L2
namespace L2
noncomputable def MtM (X:Cx)(id:String)(r:V->List V->Hp->VK->Prop):Prop:=
 ∀(jJ:List (Addr×Obj)) (s:Shared) (σ:St) (H:Hp) (x:V) (xs:List V) (v:Value) (us:List Value) (Q:VK),Inv X jJ σ H s->ZA x v->Zs xs us->r x xs H Q->
  wpAny (model X.prog X.w) X.A (call (.builtin id) (v::us)) (EP X jJ σ Q) X.xe s
theorem Zs.one:∀{x:V} {us:List Value},Zs [x] us->∃u,us=[u]/\ZA x u
 | _,_,.cons r .nil=>⟨_,rfl,r⟩
theorem Zs.two:∀{x y:V} {us:List Value},Zs [x,y] us->∃u v,us=[u,v]/\ZA x u/\ZA y v
 | _,_,_,.cons r (.cons q .nil)=>⟨_,_,rfl,r,q⟩
theorem Zs.eraseIdx:∀{xs:List V} {us:List Value} (i:Nat),Zs xs us->Zs (xs.eraseIdx i) (us.eraseIdx i)
 | _,_,_,.nil=>.nil
 | _,_,0,.cons _ t=>t
 | _,_,i+1,.cons r t=>.cons r (Zs.eraseIdx i t)
theorem Zs.rep {xs:List V}{us:List Value}(h:Zs xs us):∀k:Nat,Zs (qu k xs).flatten (qu k us).flatten
 | 0=>.nil
 | k+1=>by
  rw[zG,zG,yj,yj];exact Zs.append h (Zs.rep h k)
theorem Zc6 {α:Type}:∀(l:List α) (i:Nat),(l.eraseIdx i).length<=l.length
 | [],_=>qp _
 | _::_,0=>qbg _
 | _::r,i+1=>Nat.succ_le_succ (Zc6 r i)
theorem Zbr (jL:List Value):∀(k:Nat) (jQ:List Value),
  qat (fun x1 x2=>x1++x2) jQ.toArray (qu k jL.toArray)=(jQ++(qu k jL).flatten).toArray
 | 0,jQ=>by simp
 | k+1,jQ=>by
  have e:jQ.toArray++jL.toArray=(jQ++jL).toArray:=by simp
  have e2:(jQ++jL)++(qu k jL).flatten=jQ++(qu (k+1) jL).flatten:=by
   rw[zG,yj,qaO]
  rw[<-e2,<-Zbr jL k (jQ++jL),<-e,zG,List.foldl_cons]
section
variable {X:Cx}{jJ:List (Addr×Obj)}{σ:St}{H:Hp}{s:Shared}{l b:Addr}{xs ys zs:List V}
theorem Inv.lset {jL its':List Value}{n:Nat}{f:Array Value->Array Value}{t':Nat}(I:Inv X jJ σ H s)(hH:H l=some (.lst xs))
  (e:s.heap.get? l=some { cls:=.type "list",data:=.seq jL.toArray n }) (hf:f jL.toArray=its'.toArray) (hv:Zs ys its') (hz:ys.length<=sizeLine) :
  Inv X jJ σ (Zk H l (.lst ys)) { s with heap:=s.heap.update l (qR f),toks:=t' }:=by
 have q:=PySem.IsL.update e f;rw[hf] at q;refine I.write (x:=l) (e:=l) (by rw[hH];exact trivial) (.inl rfl) (fun b' u hb hu=>(qbf s.heap (qR f) (zl hb)).trans hu) ⟨_,q⟩ ?_;exact⟨hz,its',_,hv,q⟩
theorem Inv.lnew {jL:List Value}{t':Nat}(I:Inv X jJ σ H s)(hv:Zs ys jL)(hz:ys.length<=sizeLine) :
  Inv X jJ σ (Zk H s.heap.objs.size (.lst ys)) { s with heap:=s.heap.push { cls:=.type "list",data:=.seq jL.toArray },toks:=t' }:=
 I.laid (fun _ _ q=>qd _ q) (qp _) ⟨hz,jL,0,hv,qy _ rfl⟩
theorem Inv.fresh (I:Inv X jJ σ H s):H s.heap.objs.size=none:=I.hok.fresh (qp _)
theorem Inv.lstM (I:Inv X jJ σ H s)(hH:H l=some (.lst xs)):xs.length<=sizeLine/\∃(jL:List Value) (n:Nat),Zs xs jL/\xs.length=jL.length/\s.heap.get? l=some { cls:=.type "list",data:=.seq jL.toArray n }:=by
 obtain⟨z,jL,n,r,e⟩:=I.hok l _ hH;exact⟨z,jL,n,r,r.length,e⟩
theorem Zea {n:Nat}(h:n<=sizeLine):yr n=false:=by
 unfold yr;exact decide_eq_false (by omega)
end
section
variable {X:Cx}
noncomputable def BJ:V->List V->Hp->VK->Prop:=fun x vs H Q=>∃l xs y,x=.ref l/\vs=[y]/\H l=some (.lst xs)/\xs.length<sizeLine/\Q .non (Zk H l (.lst (xs ++ [y])))
theorem Zc7:MtM X "list.append" BJ:=by
 intro jJ s σ H x vs v us Q I rx rv h;obtain⟨l,xs,y,rfl,rfl,hH,hz,q⟩:=h
 cases rx
 obtain⟨u,rfl,ru⟩:=rv.one;obtain⟨z,jL,n,r,hl,e⟩:=I.lstM hH;refine call_meets F.slot_list_append ⟨_,e,rfl⟩ F.entry_list_append (F.args_list_append_2 _ _) (PySem.list_append l jL.toArray n u (by rw[qq];omega)) ⟨e,?_⟩;refine⟨.non,_,I.lset (its':=jL ++ [u]) hH e (by simp) (r.append (.cons ru .nil)) ?_,rfl,q⟩;rw[qJ,zy];omega
noncomputable def BK:V->List V->Hp->VK->Prop:=fun x vs H Q=>∃l b xs zs,x=.ref l/\vs=[.ref b]/\H l=some (.lst xs)/\H b=some (.lst zs)/\xs.length+zs.length<=sizeLine/\Q .non (Zk H l (.lst (xs++zs)))
theorem ZgS:MtM X "list.extend" BK:=by
 intro jJ s σ H x vs v us Q I rx rv h;obtain⟨l,b,xs,zs,rfl,rfl,hH,hB,hz,q⟩:=h
 cases rx
 obtain⟨u,rfl,ru⟩:=rv.one
 cases ru
 obtain⟨z,jL,n,r,hl,e⟩:=I.lstM hH;obtain⟨z2,jS,n2,r2,hl2,e2⟩:=I.lstM hB;have hsz:jL.toArray.size+jS.toArray.size<=sizeLine:=by rw[qq,qq];omega
 have hlong:¬(!jL.toArray.isEmpty&&yr (jL.toArray.size+jS.toArray.size))=true:=by
  rw[Zea hsz,Bool.and_false];exact zD
 refine call_meets F.slot_list_extend ⟨_,e,rfl⟩ F.entry_list_extend (F.args_list_extend_2 _ _)
  (AutoSeq1.list_extend_list_list_0 l jL.toArray n b jS.toArray n2 hlong (by rw[qq];omega) (by omega)) ⟨e,e2,?_⟩
 refine⟨.non,_,I.lset (its':=jL++jS) hH e (by simp) (r.append r2) ?_,rfl,q⟩;rw[qJ];omega
noncomputable def Zib:V->List V->Hp->VK->Prop:=fun x vs H Q=>∃l xs i k y,x=.ref l/\vs=[.int i]/\H l=some (.lst xs)/\-(2 ^ 63)<=i/\i<2 ^ 63/\seqIndex? i xs.length=some k/\xs[k]?=some y/\Q y (Zk H l (.lst (xs.eraseIdx k)))
theorem Zic:MtM X "list.pop" Zib:=by
 intro jJ s σ H x vs v us Q I rx rv h;obtain⟨l,xs,i,k,y,rfl,rfl,hH,h1,h2,hk,hy,q⟩:=h
 cases rx
 obtain⟨u,rfl,ru⟩:=rv.one;obtain⟨t,rfl⟩:=ru;obtain⟨z,jL,n,r,hl,e⟩:=I.lstM hH;obtain⟨w,hw,rw'⟩:=r.get hy;refine call_meets F.slot_list_pop ⟨_,e,rfl⟩ F.entry_list_pop (F.args_list_pop_2 _ _)
  (MeetsSeq.list_pop_at l jL.toArray n i t k w (fitsIndex_both h1 h2) (by rw[qq,<-hl];exact hk) (by rw[<-Array.getElem?_toList];exact hw) (by rw[qq];omega)) ⟨e,?_⟩
 refine⟨y,_,I.lset (its':=jL.eraseIdx k) hH e ?_ (r.eraseIdx k) ?_,rw',q⟩
 ·show jL.toArray.eraseIdxIfInBounds k=(jL.eraseIdx k).toArray
  rw[List.eraseIdxIfInBounds_toArray]
 ·have:=Zc6 xs k
  omega
noncomputable def rCat:R2:=fun x y H Q=>∃l b xs zs,x=.ref l/\y=.ref b/\H l=some (.lst xs)/\H b=some (.lst zs)/\xs.length+zs.length<=sizeLine/\∀p,H p=none->Q (.ref p) (Zk H p (.lst (xs++zs)))
theorem ZlX:Yi X (binaryOp .Add) rCat:=by
 intro jJ s σ H x y v u Q I rx ry h;obtain⟨l,b,xs,zs,rfl,rfl,hH,hB,hz,q⟩:=h
 cases rx
 cases ry
 obtain⟨z,jL,n,r,hl,e⟩:=I.lstM hH;obtain⟨z2,jS,n2,r2,hl2,e2⟩:=I.lstM hB;refine PySem.P.add_list e e2 ?_ (by rw[qq,qq];omega);have ea:jL.toArray++jS.toArray=(jL++jS).toArray:=by simp
 rw[ea];exact⟨.ref _,_,I.lnew (t':=s.toks) (r.append r2) (by rw[qJ];omega),rfl,q _ I.fresh⟩
noncomputable def rRep:R2:=fun x y H Q=>∃l k xs,x=.ref l/\y=.int k/\H l=some (.lst xs)/\-(2 ^ 63)<=k/\k<2 ^ 63/\xs.length*k.toNat<=sizeLine/\
 ∀p,H p=none->Q (.ref p) (Zk H p (.lst (qu k.toNat xs).flatten))
theorem ZdH {α:Type}(xs:List α)(k:Nat):(qu k xs).flatten.length=k*xs.length:=by
 induction k with
 | zero=>simp
 | succ k ih=>rw[zG,yj,qJ,ih,qbK,Nat.add_comm]
theorem ZlY:Yi X (binaryOp .Mult) rRep:=by
 intro jJ s σ H x y v u Q I rx ry h;obtain⟨l,k,xs,rfl,rfl,hH,h1,h2,hz,q⟩:=h
 cases rx
 obtain⟨t,rfl⟩:=ry;obtain⟨z,jL,n,r,hl,e⟩:=I.lstM hH;have jV:jL.toArray.size*k.toNat<=sizeLine:=by rw[qq,<-hl];exact hz
 have hcap:¬jL.toArray.size*k.toNat > (2 ^ 63-1) / 8:=by
  have:(sizeLine:Nat)<=(2 ^ 63-1) / 8:=by decide
  omega
 have hfit:¬(!Builtin.List.listFitsIndex k)=true:=by
  rw[fitsIndex_both h1 h2];exact zD
 have hlong:¬yr (jL.toArray.size*k.toNat)=true:=by
  rw[Zea jV];exact zD
 have hnew:qat (fun x1 x2=>x1++x2) #[] (qu (if jL.toArray.isEmpty=true then 0 else k.toNat) jL.toArray)=(qu k.toNat jL).flatten.toArray:=by
  have f0:∀m:Nat,qat (fun x1 x2=>x1++x2) #[] (qu m jL.toArray)=(qu m jL).flatten.toArray:=fun m=>by
   have:=Zbr jL m [];rw[qba] at this;exact this
  rw[f0]
  cases jL with
  | nil=>simp
  | cons a r'=>rw[if_neg (by simp)]
 refine wpAny_binaryOp_repeat_ref (T:="list") (U:="int") (by decide) ⟨_,e,rfl⟩ (fun s'=>typeIs_int s' k t) noFill_list_mul qau zX repeat_list qan.lookup
  (call_meets zX (typeIs_int s k t) qao (qae _ _) (int___rmul___int_list k t l jL.toArray n)
   ⟨e,rfl,⟨_,e,rfl⟩,call_meets F.slot_list_mul ⟨_,e,rfl⟩ F.entry_list_mul (F.args_list_mul_2 _ _) (AutoListH.list___mul___list_int_3 l jL.toArray n k t hfit hcap hlong) ⟨e,?_⟩⟩)
 rw[hnew];exact⟨.ref _,_,I.lnew (t':=s.toks) (r.rep k.toNat) (by rw[ZdH,qbL];exact hz),rfl,q _ I.fresh⟩
end
section
variable {prog:Program}{w:World}{A:Around}{E:Value->Shared->Prop}{s:Shared}
end
section
variable {X:Cx}
end
end L2
namespace L2
section
variable {κ:Type}[DecidableEq κ]
noncomputable def ZQ (kvs:List (κ×V))(k:κ):Option V:=(kvs.find? fun kv=>decide (kv.1=k)).map (·.2)
noncomputable def Z1 (kvs:List (κ×V))(k:κ)(v:V):List (κ×V):=
 if (kvs.any fun kv=>decide (kv.1=k))=true then kvs.map (fun kv=>if kv.1=k then (kv.1,v) else kv) else kvs ++ [(k,v)]
theorem XJ {p:κ×V}{r:List (κ×V)}{k:κ}(e:p.1=k):ZQ (p::r) k=some p.2:=by simp[ZQ,ye,e]
theorem XM {p:κ×V}{r:List (κ×V)}{k:κ}(e:¬p.1=k):ZQ (p::r) k=ZQ r k:=by simp[ZQ,ye,e]
theorem JF (k:κ):∀kvs:List (κ×V),(kvs.any fun kv=>decide (kv.1=k))=(ZQ kvs k).isSome
 | []=>rfl
 | p::r=>by
  rw[yK];by_cases e:p.1=k
  ·simp only[XJ e,decide_eq_true e,Bool.true_or,Option.isSome_some]
  ·rw[XM e,decide_eq_false e,Bool.false_or];exact JF k r
theorem Zeb (k j:κ)(y:V):∀kvs:List (κ×V),ZQ (kvs.map fun kv=>if kv.1=k then (kv.1,y) else kv) j=(ZQ kvs j).map fun x=>if j=k then y else x
 | []=>rfl
 | p::r=>by
  have ih:=Zeb k j y r;rw[zi];by_cases h:p.1=k
  ·rw[if_pos h]
   by_cases e:p.1=j
   ·rw[XJ (p:=(p.1,y)) e,XJ e,zL,if_pos (e.symm.trans h)]
   ·rw[XM (p:=(p.1,y)) e,XM e,ih]
  ·rw[if_neg h]
   by_cases e:p.1=j
   ·rw[XJ (p:=p) e,XJ e,zL,if_neg (fun z=>h (e.trans z))]
   ·rw[XM (p:=p) e,XM e,ih]
theorem Zc8 (k j:κ)(y:V):∀kvs:List (κ×V),ZQ kvs k=none->ZQ (kvs ++ [(k,y)]) j=if j=k then some y else ZQ kvs j
 | [],_=>by
  by_cases e:k=j
  ·rw[if_pos e.symm];exact XJ (p:=(k,y)) e
  ·rw[if_neg (fun z=>e z.symm)];exact XM (p:=(k,y)) e
 | p::r,hn=>by
  rw[qaZ];have hk:¬p.1=k:=fun z=>by rw[XJ z] at hn;cases hn
  rw[XM hk] at hn;have ih:=Zc8 k j y r hn;by_cases e:p.1=j
  ·rw[XJ e,XJ e,if_neg (fun z=>hk (e.trans z))]
  ·rw[XM e,XM e,ih]
theorem Zec (kvs:List (κ×V))(k j:κ)(y:V):ZQ (Z1 kvs k y) j=if j=k then some y else ZQ kvs j:=by
 unfold Z1;by_cases a:(kvs.any fun kv=>decide (kv.1=k))=true
 ·rw[if_pos a,Zeb]
  rw[JF] at a;by_cases e:j=k
  ·obtain⟨x,hx⟩:=zN.mp a
   rw[if_pos e,e,hx,zL,if_pos rfl]
  ·rw[if_neg e]
   cases ZQ kvs j with
   | none=>rfl
   | some x=>rw[zL,if_neg e]
 ·rw[if_neg a]
  refine Zc8 k j y kvs ?_;rw[JF] at a
  cases q:ZQ kvs k with
  | none=>rfl
  | some x=>rw[q] at a;exact(a rfl).elim
theorem VI (kvs:List (κ×V))(k:κ)(v:V):(Z1 kvs k v).length<=kvs.length+1:=by
 unfold Z1;split
 ·rw[qj];omega
 ·rw[qJ,qT,zK];omega
theorem Zed {kvs:List (κ×V)}{k:κ}(v:V)(h:ZQ kvs k=none):Z1 kvs k v=kvs ++ [(k,v)]:=by
 unfold Z1;rw[JF,h];exact if_neg (by decide)
theorem Uw.isSome_eq {o:Option V}{u:Option Value}(r:Uw o u):o.isSome=u.isSome:=by
 cases o with
 | none=>cases u with
  | none=>rfl
  | some _=>exact(show False from r).elim
 | some _=>cases u with
  | none=>exact(show False from r).elim
  | some _=>rfl
theorem KV.val {kvs:List (κ×V)}{vs:List (κ×Value)}(r:KV kvs vs)(k:κ):Uw (ZQ kvs k) (valueAt vs k):=by
 unfold KV at r
 induction r with
 | nil=>exact yG
 | @cons p q ps qs h t ih=>
  obtain⟨h1,h2⟩:=h;by_cases e:p.1=k
  ·have e':q.1=k:=h1.symm.trans e
   have b:valueAt (q::qs) k=some q.2:=by simp[valueAt,ye,e']
   rw[XJ e,b];exact h2
  ·have e':¬q.1=k:=fun z=>e (h1.trans z)
   have b:valueAt (q::qs) k=valueAt qs k:=by simp[valueAt,ye,e']
   rw[XM e,b];exact ih
theorem KV.any {kvs:List (κ×V)}{vs:List (κ×Value)}(r:KV kvs vs)(k:κ):(kvs.any fun kv=>decide (kv.1=k))=vs.any fun kv=>decide (kv.1=k):=by
 unfold KV at r
 induction r with
 | nil=>rfl
 | cons h t ih=>rw[yK,yK,ih,h.1]
theorem KV.repl {kvs:List (κ×V)}{vs:List (κ×Value)}(r:KV kvs vs)(k:κ){y:V}{u:Value}(ry:ZA y u) :
  KV (kvs.map fun kv=>if kv.1=k then (kv.1,y) else kv) (vs.map fun kv=>if kv.1=k then (kv.1,u) else kv):=by
 unfold KV at r⊢
 induction r with
 | nil=>exact .nil
 | @cons p q ps qs h t ih=>
  rw[zi,zi];refine .cons ?_ ih;obtain⟨h1,h2⟩:=h;by_cases e:p.1=k
  ·rw[if_pos e,if_pos (h1.symm.trans e)];exact⟨h1,ry⟩
  ·rw[if_neg e,if_neg (fun z=>e (h1.trans z))];exact⟨h1,h2⟩
theorem KV.put {kvs:List (κ×V)}{vs:List (κ×Value)}(r:KV kvs vs)(k:κ){y:V}{u:Value}(ry:ZA y u):KV (Z1 kvs k y) (stored vs k u):=by
 unfold Z1 stored;rw[r.any k];by_cases e:(vs.any fun kv=>decide (kv.1=k))=true
 ·rw[if_pos e,if_pos e];exact r.repl k ry
 ·rw[if_neg e,if_neg e];exact Paired.snoc r ⟨rfl,ry⟩
theorem KV.length {kvs:List (κ×V)}{vs:List (κ×Value)}(r:KV kvs vs):kvs.length=vs.length:=yA r
end
theorem Us {P:Program}{w:World}{k:Zr}{u:Value}(r:ZA (kV k) u):(XO P w).is k u=true:=by
 cases k with
 | inl i=>obtain⟨t,e⟩:=(show ∃t,u=qbI i t from r);subst e;exact Zd4 P w i t
 | inr x=>obtain⟨t,e⟩:=(show ∃t,u=Value.str x t from r);subst e;exact Zd5 P w x t
theorem Zc9 {P:Program}{w:World}:∀{ks:List Zr} {us:List Value},Zs (ks.map kV) us->ItemsAre (XO P w) ks us
 | [],_,r=>by rw[qaY] at r;cases r;exact .nil
 | k::ks,_,r=>by
  rw[zi] at r
  cases r with
  | cons h t=>exact .cons (Us h) (Zc9 t)
noncomputable abbrev KT (H:Hp):List (List Zr×V)->List (List Zr×Addr×Value)->Prop:=Paired fun p q=>p.1=q.1/\H q.2.1=some (.tup (p.1.map kV))/\ZA p.2 q.2.2
theorem KT.val {H:Hp}{kvs:List (List Zr×V)}{xs:List (List Zr×Addr×Value)}(r:KT H kvs xs)(k:List Zr):Uw (ZQ kvs k) ((atKey xs k).map (·.2)):=by
 induction r with
 | nil=>exact yG
 | @cons p q ps qs h t ih=>
  obtain⟨h1,_,h2⟩:=h;by_cases e:p.1=k
  ·have e':q.1=k:=h1.symm.trans e
   have b:atKey (q::qs) k=some q.2:=by simp[atKey,ye,e']
   rw[XJ e,b];exact h2
  ·have e':¬q.1=k:=fun z=>e (h1.trans z)
   have b:atKey (q::qs) k=atKey qs k:=by simp[atKey,ye,e']
   rw[XM e,b];exact ih
theorem KT.repl {H:Hp}{kvs:List (List Zr×V)}{xs:List (List Zr×Addr×Value)}(r:KT H kvs xs)(k:List Zr){y:V}{u:Value}(ry:ZA y u) :
  KT H (kvs.map fun kv=>if kv.1=k then (kv.1,y) else kv) (xs.map (putAt k u)):=by
 induction r with
 | nil=>exact .nil
 | @cons p q ps qs h t ih=>
  rw[zi,zi];refine .cons ?_ ih;obtain⟨h1,h2,h3⟩:=h;unfold putAt;by_cases e:p.1=k
  ·rw[if_pos e,if_pos (h1.symm.trans e)];exact⟨h1,h2,ry⟩
  ·rw[if_neg e,if_neg (fun z=>e (h1.trans z))];exact⟨h1,h2,h3⟩
theorem KT.put {H:Hp}{kvs:List (List Zr×V)}{xs:List (List Zr×Addr×Value)}(r:KT H kvs xs)(k:List Zr){b:Addr}{y:V}{u:Value}(hb:H b=some (.tup (k.map kV)))(ry:ZA y u) :
  KT H (Z1 kvs k y) (storedH xs k b u):=by
 have e:(kvs.any fun kv=>decide (kv.1=k))=(atKey xs k).isSome:=by
  rw[JF,(r.val k).isSome_eq,qaP]
 unfold Z1 storedH;rw[e];by_cases q:(atKey xs k).isSome=true
 ·rw[if_pos q,if_pos q];exact r.repl k ry
 ·rw[if_neg q,if_neg q];exact Paired.snoc r ⟨rfl,hb,ry⟩
theorem KT.keeps {H H':Hp}{kvs:List (List Zr×V)}{xs:List (List Zr×Addr×Value)}(r:KT H kvs xs)(ht:∀b ys,H b=some (.tup ys)->H' b=some (.tup ys)):KT H' kvs xs:=
 Paired.mapP r fun _ _ z=>⟨z.1,ht _ _ z.2.1,z.2.2⟩
section
variable {P:Program}{w:World}{H:Hp}{h:Heap}{a:Addr}
theorem Zk9 {u:HO}(ok:Ym P w H h)(e:Rd H a u):YA P w H h a u:=e.ok ok
theorem JW {kvs:List (Zr×V)}(ok:Ym P w H h)(e:Rd H a (.dK kvs)):kvs.length<=sizeLine/\(a==sysModules)=false/\∃vs,KV kvs vs/\h.DictOf (XO P w) a vs:=
 show YA P w H h a (.dK kvs) from Zk9 ok e
theorem Zid {kvs:List (Zr×V)}(ok:Ym P w H h)(e:H a=some (.dK kvs)):kvs.length<=sizeLine/\(a==sysModules)=false/\∃vs,KV kvs vs/\h.DictOf (XO P w) a vs:=JW ok (.inl e)
theorem UT {ks:List Zr}(ok:Ym P w H h)(e:H a=some (.tup (ks.map kV))):(tupleKind (XO P w)).is h ks a:=by
 obtain⟨_,jL,r,o,h1,h2,n,h3⟩:=(show YA P w H h a (.tup (ks.map kV)) from ok a _ e);exact⟨o,jL.toArray,n,h1,h2,h3,by simpa using Zc9 r⟩
theorem JX {kvs:List (List Zr×V)}(ok:Ym P w H h)(e:Rd H a (.dT kvs)):kvs.length<=sizeLine/\(a==sysModules)=false/\
  ∃xs,KT H kvs xs/\h.DictOfH (tupleKind (XO P w)) a xs:=by
 obtain⟨z,y,xs,r,o,es,ep,h1,h2,h3,h4,h5⟩:=(show YA P w H h a (.dT kvs) from Zk9 ok e);refine⟨z,y,xs,r,o,es,ep,h1,h2,h3,h4,fun x hx=>?_,h5⟩;have all:∀{l:List (List Zr×V)} {m:List (List Zr×Addr×Value)},KT H l m->∀x∈m,(tupleKind (XO P w)).is h x.1 x.2.1:=by
  intro l m q
  induction q with
  | nil=>intro x hx;exact nomatch hx
  | @cons p q ps qs hq t ih=>
   intro x hx;rcases qt.mp hx with e | hx
   ·subst e
    exact UT ok (by rw[<-hq.1];exact hq.2.1)
   ·exact ih x hx
 exact all r x hx
theorem Zla {kvs:List (List Zr×V)}(ok:Ym P w H h)(e:H a=some (.dT kvs)):kvs.length<=sizeLine/\(a==sysModules)=false/\
  ∃xs,KT H kvs xs/\h.DictOfH (tupleKind (XO P w)) a xs:=JX ok (.inl e)
end
noncomputable def Y9 (H:Hp)(a:Addr)(y:V)(r:Option V):Prop:=
 (∃kvs k,Rd H a (.dK kvs)/\y=kV k/\r=ZQ kvs k)∨∃kvs k b,Rd H a (.dT kvs)/\y=.ref b/\H b=some (.tup (k.map kV))/\r=ZQ kvs k
noncomputable def X5 (H:Hp)(a:Addr)(y v:V)(H':Hp):Prop:=
 (∃kvs k,H a=some (.dK kvs)/\y=kV k/\kvs.length<sizeLine/\H'=Zk H a (.dK (Z1 kvs k v)))∨
 ∃kvs k b,H a=some (.dT kvs)/\y=.ref b/\H b=some (.tup (k.map kV))/\kvs.length<sizeLine/\H'=Zk H a (.dT (Z1 kvs k v))
theorem Y9.k {H:Hp}{a:Addr}{kvs:List (Zr×V)}{k:Zr}(e:H a=some (.dK kvs)):Y9 H a (kV k) (ZQ kvs k):=.inl ⟨kvs,k,.inl e,rfl,rfl⟩
theorem Y9.t {H:Hp}{a b:Addr}{kvs:List (List Zr×V)}{k:List Zr}(e:H a=some (.dT kvs))(eb:H b=some (.tup (k.map kV))):Y9 H a (.ref b) (ZQ kvs k):=.inr ⟨kvs,k,b,.inl e,rfl,eb,rfl⟩
theorem X5.k {H:Hp}{a:Addr}{kvs:List (Zr×V)}{k:Zr}{v:V}(e:H a=some (.dK kvs))(hl:kvs.length<sizeLine):X5 H a (kV k) v (Zk H a (.dK (Z1 kvs k v))):=.inl ⟨kvs,k,e,rfl,hl,rfl⟩
theorem X5.t {H:Hp}{a b:Addr}{kvs:List (List Zr×V)}{k:List Zr}{v:V}(e:H a=some (.dT kvs))(eb:H b=some (.tup (k.map kV)))(hl:kvs.length<sizeLine) :
  X5 H a (.ref b) v (Zk H a (.dT (Z1 kvs k v))):=.inr ⟨kvs,k,b,e,rfl,eb,hl,rfl⟩
section
variable {X:Cx}{jJ:List (Addr×Obj)}{σ:St}{H:Hp}{s:Shared}{a:Addr}{y v:V}{u r:Value}{o:Option V}{A:Around}{E:Value->Shared->Prop}
theorem Inv.big (I:Inv X jJ σ H s):sysModules<s.heap.objs.size:=by
 have h:mainGlobals<s.heap.objs.size:=(I.mod.glob.keeps I.bk).lt;exact qbM (by decide) h
theorem ZgT {Q:Value->Shared->Prop}(hu:A.units+1<cLine)(I:Inv X jJ σ H s)(g:Y9 H a y (some v))(ry:ZA y u)(h:∀w' s',Inv X jJ σ H s'->ZA v w'->Q w' s') :
  wpAny (model X.prog X.w) A (getItem (.ref a) u) Q E s:=by
 rcases g with⟨kvs,k,e,ey,l⟩ | ⟨kvs,k,b,e,ey,eb,l⟩
 ·subst ey
  obtain⟨z,hd,vs,rel,dd⟩:=JW I.hok e;obtain⟨w',hw,rw'⟩:=jx (v:=v) (o:=valueAt vs k) (by rw[l];exact rel.val k);exact wpAny_getItem_of (Us ry) dd.mapOf hw (h w' _ (I.tok _) rw')
 ·subst ey
  cases (show u=qI b from ry)
  obtain⟨z,hd,xs,rel,dd⟩:=JX I.hok e;obtain⟨w',hw,rw'⟩:=jx (v:=v) (o:=(atKey xs k).map (·.2)) (by rw[l];exact rel.val k);obtain⟨p,hp,hp2⟩:=qbh.mp hw;refine wpAny_getItem_heap (tupleKind_room_in1 hu) (UT I.hok eb) dd hp ?_;rw[hp2];exact h w' _ (I.tok _) rw'
theorem d_in {Q:Value->Shared->Prop}(hu:A.units+1<cLine)(I:Inv X jJ σ H s)(g:Y9 H a y o)(ry:ZA y u)(h:∀s',Inv X jJ σ H s'->Q (.bool o.isSome) s') :
  wpAny (model X.prog X.w) A (compareOp .In u (.ref a)) Q E s:=by
 rcases g with⟨kvs,k,e,ey,l⟩ | ⟨kvs,k,b,e,ey,eb,l⟩
 ·subst ey
  obtain⟨z,hd,vs,rel,dd⟩:=JW I.hok e;refine wpAny_in_of (Us ry) hd dd.mapOf ?_;rw[<-(rel.val k).isSome_eq,<-l];exact h _ (I.tok _)
 ·subst ey
  cases (show u=qI b from ry)
  obtain⟨z,hd,xs,rel,dd⟩:=JX I.hok e;refine wpAny_in_heap (tupleKind_room_in1 hu) (UT I.hok eb) hd dd ?_;have q:=(rel.val k).isSome_eq;rw[qaP] at q;rw[<-q,<-l];exact h _ (I.tok _)
theorem Zj2 {Q:Value->Shared->Prop}(hu:A.units+1<cLine)(I:Inv X jJ σ H s)(g:Y9 H a y o)(ry:ZA y u)(h:∀s',Inv X jJ σ H s'->Q (.bool (!o.isSome)) s') :
  wpAny (model X.prog X.w) A (compareOp .NotIn u (.ref a)) Q E s:=by
 rcases g with⟨kvs,k,e,ey,l⟩ | ⟨kvs,k,b,e,ey,eb,l⟩
 ·subst ey
  obtain⟨z,hd,vs,rel,dd⟩:=JW I.hok e;refine wpAny_notIn_of (Us ry) hd dd.mapOf ?_;rw[<-(rel.val k).isSome_eq,<-l];exact h _ (I.tok _)
 ·subst ey
  cases (show u=qI b from ry)
  obtain⟨z,hd,xs,rel,dd⟩:=JX I.hok e;refine wpAny_notIn_heap (tupleKind_room_in1 hu) (UT I.hok eb) hd dd ?_;have q:=(rel.val k).isSome_eq;rw[qaP] at q;rw[<-q,<-l];exact h _ (I.tok _)
theorem JL {h':Heap}{t':Nat}{ob:HO}(I:Inv X jJ σ H s)(mu:Bc (H a))(hs:yR a s.heap h')(he:∃q,h'.get? a=some q)(new:YA X.prog X.w (Zk H a ob) h' a ob) :
  Inv X jJ σ (Zk H a ob) { s with heap:=h',toks:=t' }:=
 I.write (x:=a) (e:=a) mu (.inl rfl) (fun b q hb z=>(hs.2 b hb).trans z) he new
theorem Zfd {P:Program}{w:World}{H':Hp}{h':Heap}{kvs:List (Zr×V)}{vs:List (Zr×Value)}(z:kvs.length<=sizeLine)(hd:(a==sysModules)=false)(rel:KV kvs vs)(dd:h'.DictOf (XO P w) a vs) :
  YA P w H' h' a (.dK kvs):=⟨z,hd,vs,rel,dd⟩
theorem ZgU {H':Hp}{Q:Unit->Shared->Prop}(hu:A.units+1<cLine)(I:Inv X jJ σ H s)(g:X5 H a y v H')(ry:ZA y u)(rv:ZA v r)(h:∀s',Inv X jJ σ H' s'->Q () s') :
  wpAny (model X.prog X.w) A (setItem (.ref a) u r) Q E s:=by
 rcases g with⟨kvs,k,e,ey,l,eH⟩ | ⟨kvs,k,b,e,ey,eb,l,eH⟩
 ·subst ey eH
  obtain⟨z,hd,vs,rel,dd⟩:=Zid I.hok e;have hz:vs.length<=sizeLine:=by rw[<-rel.length];exact z
  have hl:(Z1 kvs k v).length<=sizeLine:=by have:=VI kvs k v;omega
  refine wpAny_setItem_pairs (hsz:=hz) (Us ry) dd fun h' dd' hs=>h _ ?_;have he:∃q,h'.get? a=some q:=let ⟨q,_,_,hq,_⟩:=dd';⟨q,hq⟩;exact JL I (by rw[e];exact yG) hs he (Zfd hl hd (rel.put k rv) dd')
 ·subst ey eH
  cases (show u=qI b from ry)
  obtain⟨z,hd,xs,rel,dd⟩:=Zla I.hok e;have hz:xs.length<=sizeLine:=by rw[<-yA rel];exact z
  have hl:(Z1 kvs k v).length<=sizeLine:=by have:=VI kvs k v;omega
  refine wpAny_setItem_heap (hsz:=hz) (tupleKind_room_in1 hu) (UT I.hok eb) dd fun h' dd' hs=>h _ ?_;obtain⟨q,es,ep,hq,h2,h3,h4,_,h5⟩:=dd';refine JL I (by rw[e];exact yG) hs ⟨q,hq⟩ ⟨hl,hd,_,(rel.put k eb rv).keeps fun c ys ec=>?_,q,es,ep,hq,h2,h3,h4,h5⟩;rw[Zo (Zk2 ec e (fun z=>nomatch z))];exact ec
end
section
variable {X:Cx}{jJ:List (Addr×Obj)}{σ:St}{H:Hp}{s:Shared}{a:Addr}{kvs:List (Zr×V)}{k:Zr}{u:Value}{A:Around}{E:Value->Shared->Prop}
end
noncomputable def NoSl (i:Expr):Prop:=∀ov iv,subscripted i false ov iv=operate [ov,iv] (getItem ov iv)
theorem Zj3 {prog:Program}{w:World}{A:Around}{E:Value->Shared->Prop}{s:Shared}{env:Env}{value slice:Expr}{pos:Pos}{T id:String}{Q:Value->Shared->Prop}
  (hl:typeLookup (.type T) "__getitem__" = pure (some (.builtin id))) (hs:NoSl slice)
  (h:wpAny (model prog w) A (eval value env) (fun o s₁=>wpAny (model prog w) A (eval slice env) (fun i s₂=>s₂.TypeIs o T/\wpAny (model prog w) A (getItem o i) Q E s₂) E s₁) E s) :
  wpAny (model prog w) A (eval (.Subscript value slice pos) env) Q E s:=by
 refine Subscript_ (wpAny_mono h (fun o s₁ h₁=>wpAny_mono h₁ (fun i s₂ h₂=>?_) fun _ _ x=>x) fun _ _ x=>x);obtain⟨hT,h₂⟩:=h₂;unfold subscriptTail;refine wpAny_bind ?_;rw[getitemInPython_of_ne hT.not_modules];refine wpAny_bind (wpAny_specialOf hT hl ?_);have fin:wpAny (model prog w) A (subscripted slice false o i) (fun r s₃=>wpAny (model prog w) A (letTemporaryGo value o r >>= fun _=>pure r) Q E s₃) E s₂:=by
  rw[hs o i];exact wpAny_operating (wpAny_mono h₂ (fun r s₃ h₃=>wpAny_bind (wpAny_letTemporaryGo (wpAny_pure h₃))) fun _ _ x=>x)
 first
  | exact wpAny_pure (wpAny_bind fin)
  | exact wpAny_bind (wpAny_pure (wpAny_bind fin))
  | exact wpAny_bind fin
theorem Zee {X:Cx}{jJ:List (Addr×Obj)}{σ:St}{H:Hp}{s:Shared}{a:Addr}{y:V}{o:Option V}(I:Inv X jJ σ H s)(g:Y9 H a y o):s.TypeIs (.ref a) "dict":=by
 rcases g with⟨kvs,k,e,_,_⟩ | ⟨kvs,k,b,e,_,_,_⟩
 ·obtain⟨_,_,vs,_,dd⟩:=JW I.hok e
  exact dd.typeIs
 ·obtain⟨_,_,xs,_,dd⟩:=JX I.hok e
  exact dd.typeIs
noncomputable def B3 (td ty:TE):TE:=fun σ H Q=>td σ H fun x H1=>ty σ H1 fun y H2=>∃a v,x=.ref a/\Y9 H2 a y (some v)/\Q v H2
noncomputable def Zlb (td ty tv:TE):TS:=fun D σ H=>tv σ H fun v H1=>td σ H1 fun x H2=>ty σ H2 fun y H3=>∃a H4,x=.ref a/\X5 H3 a y v H4/\D.nx σ H4
section
variable {X:Cx}{o i e value:Expr}{pos pos' tpos:Pos}{td ty tv:TE}
theorem Wm (hu:X.A.units+1<cLine)(ho:PE X o td)(hi:PE X i ty)(hs:NoSl i):PE X (.Subscript o i pos) (B3 td ty):=by
 intro jJ s σ H Q I h;refine Zj3 PySem.F.slot_dict_getitem.lookup hs (ZC (ho jJ s σ H _ I h) fun u s1 ⟨x,H1,I1,rx,q1⟩=>ZC (hi jJ s1 σ H1 _ I1 q1) fun iv s2 ⟨y,H2,I2,ry,a,v,ex,g,q2⟩=>?_);subst ex;obtain rfl:u=qI a:=rx;exact⟨Zee I2 g,ZgT hu I2 g ry fun w' s3 I3 rw'=>⟨v,H2,I3,rw',q2⟩⟩
theorem ZdI (hu:X.A.units+1<cLine)(ho:PE X o td)(hi:PE X i ty)(hv:PE X value tv)(hs:swapsWith value (some (.Subscript o i pos')) pos.line X.env=pure false) :
  PS X (.Assign [.Subscript o i pos'] value pos) (Zlb td ty tv):=by
 intro jJ s σ H D I h;refine wpAny_Assign_Subscript (ZC (hv jJ s σ H _ I h) fun r s1 ⟨v,H1,I1,rv,q1⟩=>ZC (ho jJ s1 σ H1 _ I1 q1) fun u s2 ⟨x,H2,I2,rx,q2⟩=>ZC (hi jJ s2 σ H2 _ I2 q2) fun iv s3 ⟨y,H3,I3,ry,a,H4,ex,g,q3⟩=>?_) hs;subst ex;obtain rfl:u=qI a:=rx;exact ZgU hu I3 g ry rv fun s4 I4=>⟨σ,H4,I4,q3⟩
end
theorem ZbX {P:Program}{w:World}{H:Hp}(h:Heap)(hb:sysModules<h.objs.size):YA P w H (h.push { cls:=.type "dict",data:=.dict #[] }) h.objs.size (.dK []):=
 ⟨zj _,beq_eq_false_iff_ne.mpr (zl (qP hb)),[],.nil,Heap.DictOf.new h⟩
theorem Zie {P:Program}{w:World}{H:Hp}(h:Heap)(hb:sysModules<h.objs.size):YA P w H (h.push { cls:=.type "dict",data:=.dict #[] }) h.objs.size (.dT []):=
 ⟨zj _,beq_eq_false_iff_ne.mpr (zl (qP hb)),[],.nil,_,#[],0,qy _ rfl,⟨rfl,rfl,rfl⟩,rfl,rfl,qbl⟩
noncomputable def ZlZ:TE:=fun _ H Q=>∀p,H p=none->Q (.ref p) (Zk H p (.dK []))
section
variable {X:Cx}{pos:Pos}
theorem Zif:PE X (.Dict [] [] pos) ZlZ:=fun jJ s σ H Q I h=>
 wpAny_Dict_empty ⟨.ref s.heap.objs.size,_,I.laid (a:=s.heap.objs.size) (o:=.dK []) (t':=s.toks) (fun _ _ q=>qd _ q) (qp _) (ZbX s.heap I.big),rfl,h _ (I.hok.fresh (qp _))⟩
end
noncomputable def Zfe:List (TE×TE)->St->Hp->(List (V×V)->Hp->Prop)->Prop
 | [],_,H,Q=>Q [] H
 | (tk,tv)::r,σ,H,Q=>tk σ H fun x H1=>tv σ H1 fun y H2=>Zfe r σ H2 fun ps H3=>Q ((x,y)::ps) H3
noncomputable abbrev VV:List (V×V)->List (Value×Value)->Prop:=Paired fun p q=>ZA p.1 q.1/\ZA p.2 q.2
noncomputable def PPs (X:Cx)(pos:Pos)(keys:List (Option Expr))(values:List Expr)(trs:List (TE×TE)):Prop:=
 ∀(jJ:List (Addr×Obj)) (s:Shared) (σ:St) (H:Hp) (Q:List (V×V)->Hp->Prop),Inv X jJ σ H s->Zfe trs σ H Q->
  wpAny (model X.prog X.w) X.A (evalPairs (pairTrees keys values X.env pos)) (fun vs s'=>∃ps H',Inv X jJ σ H' s'/\VV ps vs/\Q ps H') X.xe s
theorem Zj4 {X:Cx}{pos:Pos}:PPs X pos [] [] []:=fun jJ s σ H Q I h=>pairTrees_nil_walk ⟨[],H,I,.nil,h⟩
theorem ZbY {X:Cx}{pos:Pos}{k v:Expr}{ks:List (Option Expr)}{vs:List Expr}{tk tv:TE}{trs:List (TE×TE)}(hk:PE X k tk)(hv:PE X v tv)(hr:PPs X pos ks vs trs) :
  PPs X pos (some k::ks) (v::vs) ((tk,tv)::trs):=fun jJ s σ H Q I h=>
 pairTrees_cons_walk (ZC (hk jJ s σ H _ I h) fun u s1 ⟨x,H1,I1,rx,q1⟩=>ZC (hv jJ s1 σ H1 _ I1 q1) fun w2 s2 ⟨y,H2,I2,ry,q2⟩=>
  ZC (hr jJ s2 σ H2 _ I2 q2) fun ws s3 ⟨ps,H3,I3,rel,q3⟩=>⟨(x,y)::ps,H3,I3,.cons ⟨rx,ry⟩ rel,q3⟩)
noncomputable def VP (kvs more:List (Zr×V)):List (Zr×V):=more.foldl (fun jQ kv=>Z1 jQ kv.1 kv.2) kvs
theorem KV.merge:∀{more:List (Zr×V)} {rs:List (Zr×Value)} {kvs:List (Zr×V)} {vs:List (Zr×Value)},KV more rs->KV kvs vs->KV (VP kvs more) (merged vs rs):=by
 intro more rs kvs vs r;unfold KV at r
 induction r generalizing kvs vs with
 | nil=>intro q;exact q
 | @cons p q ps qs h t ih=>
  intro r0;have e:KV (Z1 kvs p.1 p.2) (stored vs q.1 q.2):=by
   have:=r0.put p.1 h.2;rw[<-h.1];exact this
  exact ih e
theorem ZaX:∀(more kvs:List (Zr×V)),(VP kvs more).length<=kvs.length+more.length
 | [],kvs=>by show kvs.length<=kvs.length+0;omega
 | p::r,kvs=>by
  have h1:=ZaX r (Z1 kvs p.1 p.2);have h2:=VI kvs p.1 p.2;show(VP (Z1 kvs p.1 p.2) r).length<=_;rw[qT];omega
theorem ZbZ {P:Program}{w:World}:∀{kvs:List (Zr×V)} {ws:List (Value×Value)},VV (kvs.map fun kv=>(kV kv.1,kv.2)) ws->∃rs,Carries (XO P w) ws rs/\KV kvs rs
 | [],_,r=>by rw[qaY] at r;cases r;exact⟨[],yG,.nil⟩
 | p::kvs,_,r=>by
  rw[zi] at r
  cases r with
  | @cons a b as bs h t=>
   obtain⟨rs,c,q⟩:=ZbZ (P:=P) (w:=w) t;obtain⟨b1,b2⟩:=b;exact⟨(p.1,b2)::rs,⟨Us h.1,rfl,c⟩,.cons ⟨rfl,h.2⟩ q⟩
noncomputable def Zlc (trs:List (TE×TE)):TE:=fun σ H Q=>∀p,H p=none->Zfe trs σ (Zk H p (.dK [])) fun ps H2=>H2 p=some (.dK [])/\∃kvs:List (Zr×V),ps=kvs.map (fun kv=>(kV kv.1,kv.2))/\kvs.length<=15/\Q (.ref p) (Zk H2 p (.dK (VP [] kvs)))
theorem Zj5 {X:Cx}{pos:Pos}{keys:List (Option Expr)}{values:List Expr}{trs:List (TE×TE)}(h:PPs X pos keys values trs)(hall:keys.all (·.isSome)=true)(hl:keys.length=values.length)(h0:keys≠[])
  (h15:keys.length<=15):PE X (.Dict keys values pos) (Zlc trs):=by
 intro jJ s σ H Q I q;have hn:=I.hok.fresh (qp s.heap.objs.size);have I1:=I.laid (a:=s.heap.objs.size) (o:=.dK []) (h':=s.heap.push { cls:=.type "dict",data:=.dict #[] }) (t':=s.toks) (fun _ _ q=>qd _ q) (qp _) (ZbX s.heap I.big);refine wpAny_Dict_walk (knd:=XO X.prog X.w) hall hl h0 h15 (ZC (h jJ _ σ _ _ I1 (q _ hn)) fun ws s2 ⟨ps,H2,I2,rel,e,kvs,ep,lk,q2⟩=>?_);subst ep;obtain⟨rs,c,rk⟩:=ZbZ (P:=X.prog) (w:=X.w) rel;obtain⟨z,hd,vs0,r0,dd⟩:=Zid I2.hok e
 cases r0
 refine⟨rs,c,dd,fun h' dd' hs=>⟨.ref s.heap.objs.size,_,?_,rfl,q2⟩⟩;have hz:(VP [] kvs).length<=sizeLine:=by
  have h1:=ZaX kvs [];rw[zK] at h1;rw[sizeLine_eq];omega
 have he:∃q,h'.get? s.heap.objs.size=some q:=let ⟨q,_,_,hq,_⟩:=dd';⟨q,hq⟩;exact JL I2 (by rw[e];exact yG) hs he (Zfd hz hd (rk.merge .nil) dd')
section
variable {X:Cx}{jJ:List (Addr×Obj)}{σ:St}{H:Hp}{s:Shared}{a:Addr}{y d:V}{u r:Value}{o:Option V}{A:Around}{E:Value->Shared->Prop}
end
section
variable {X:Cx}{o e f:Expr}{apos cpos:Pos}{td ty tx:TE}
end
section
variable {X:Cx}{jJ:List (Addr×Obj)}{σ:St}{H:Hp}{s:Shared}{a:Addr}{kvs:List (Zr×V)}{A:Around}{E:Value->Shared->Prop}
end
section
variable {X:Cx}{jJ:List (Addr×Obj)}{σ:St}{H:Hp}{s:Shared}{a:Addr}{y:V}{u:Value}{A:Around}{E:Value->Shared->Prop}
end
end L2
namespace Att
open PySem.W PySem.Calls
theorem ZbN {P:Params}{h:Heap}:∀(ns:List Int) (vs:List Value),WellAll P h vs (ns.map WData.int)->IntsAre vs ns:=by
 intro ns
 induction ns with
 | nil=>
  intro vs w;rw[qaY] at w
  cases w
  exact .nil
 | cons n ns ih=>
  intro vs w;rw[zi] at w
  cases w with
  | cons a b=>
   cases a
   exact .cons _ _ (ih _ b)
theorem ZgV {l:OpenLaw}{n:Nat}(hn:l.most=some n){P:Params}{h:Heap}{args:List WData}{vals:List Value}
  (hpre:l.row.toRowW.claim.pre args=true) (hwl:WellAll P h vals args) :
  ∃a vs ns,vals=[qI a]/\args=[WData.list (ns.map WData.int)]/\h.get? a=some { cls:=.type "list",data:=.seq vs.toArray }/\IntsAre vs ns/\ns.length<=n:=by
 have hsh:WShape.hasAll [] args [.list .int]=true:=(pre_splitW hpre).1;have hc:l.pre.holds [] { args:=args }=true:=(pre_splitW hpre).2;obtain⟨d,r,rfl,h1,h2⟩:=hasAllW_cons hsh;obtain rfl:=hasAllW_nil h2;obtain⟨xs,rfl,h3⟩:=hasW_list h1;obtain⟨ns,rfl⟩:=items_int h3;have jV:ns.length<=n:=by
  unfold OpenLaw.pre at hc;have h4:(WTm.not (.lt (.lit (.int (n:Int))) (.len (.arg 0)))).holds [] { args:=[.list (ns.map .int)] }=true:=by
   have h4:=(holds_andW hc).1;rw[hn] at h4;exact h4
  have h5:=condW_of h4 (w_not (w_lt w_lit (w_len_list (w_arg rfl))));rw[qj] at h5;refine Nat.le_of_not_lt fun q=>?_;have q':(n:Int)<((ns.length:Nat):Int):=by omega
  first
   | (rw[decide_eq_true q'] at h5;exact absurd h5 (by decide))
   | (simp at h5;omega)
 cases hwl with
 | cons w1 w2=>
  cases w2
  cases w1 with
  | list ho hall=>exact⟨_,_,ns,rfl,rfl,ho,ZbN ns _ hall,jV⟩
theorem ZgW (l:OpenLaw)(args:List WData):l.row.toRowW.claim.post args (.bool true) args=true:=
 postW_of (r:=l.row.toRowW) (X:=(true==true))
  (show WShape.has [] (.bool true) .bool=true by first | rfl | decide | simp[WShape.has,WShape.arms,WShape.armsAll])
  (show(WTm.eq .res (.lit (.bool true))).value [] { args:=args,res:=some (.bool true),after:=args }=some (.bool (true==true)) from w_eq_bool (w_res rfl) w_lit) rfl
theorem attach_call {l:OpenLaw}{n:Nat}{q:Program}{loose:List Str}{XP:(Str->Option Value)->Heap->Prop}{YP:World->Heap->Prop}{d:DefRec}
  (hn:l.most=some n) (hdf:d.params.defaults=[])
  (call:∀(w:World) (s₀ s₁:Shared) (mg mb:Str->Option Value) (fa:Addr) (o:Obj) (pm cd doc:Value) (a:Addr) (vs:List Value) (ns:List Int),
   Ground q loose [] XP w s₀ mg mb s₁.heap->YP w s₁.heap->
   s₁.heap.get? fa=some o->o.data=.func (docDef d.name d.params d.body d.scope pm cd doc)->s₁.heap.CodeRec cd d.name->mg d.name=some (.ref fa)->
   s₁.heap.get? a=some { cls:=.type "list",data:=.seq vs.toArray }->IntsAre vs ns->ns.length<=n->s₁.gens = #[]->
   codeAny (model l.prog w) callerA (.call (.ref fa) ⟨[.ref a],[]⟩) (fun r s'=>r=.ok (.ret (.bool true))/\OldK s₁.heap s'.heap/\s'.os=s₁.os/\AllBare s'.gens) s₁) :
  WalkO q loose XP YP l.row.toRowW d [] (fun f vs=>qbv f vs):=by
 intro w s₀ s₁ mg mb G Y fa o pm cd doc dV kV ho hd hcd hD hmg hg args vals as hpre hlay hrd hwl hlo;obtain rfl:dV=.none:=Dflts.none hD hdf;obtain rfl:kV=.none:=Dflts.noKw hD;obtain⟨a,vs,ns,rfl,rfl,hobj,hints,jV⟩:=ZgV hn hpre hwl;refine enter_call (codeAny_mono (call w s₀ s₁ mg mb fa o pm cd doc a vs ns G Y ho (fd_plain hd) hcd hmg hobj hints jV hg) fun r s' hq=>?_);obtain⟨rfl,h2,h3,h4⟩:=hq;exact⟨.inl ⟨.bool true,.bool true,[],rfl,fun _=>rfl,.bool true,ZgW l _,fun _=>⟨qaf,fun _ hm=>(nomatch hm)⟩⟩,h2,h3,h4⟩
section
variable {prog:Program}{w:World}{A:Around}{E:Value->Shared->Prop}{s:Shared}{K:Frag}
end
end Att
namespace L2
theorem Zda:∀{vs:List Value} {ns:List Int},IntsAre vs ns->Zs (ns.map V.int) vs
 | _,_,.nil=>.nil
 | _,_,.cons n t h=>.cons ⟨t,rfl⟩ (Zda h)
end L2
namespace L2
end L2
namespace L2
noncomputable def Wx (s:Stmt):Arguments:=match s with
 | .FunctionDef _ a _ _ _ _ _ _ _ _=>a
 | _=>{ posonlyargs:=[],args:=[],vararg:=none,kwonlyargs:=[],kw_defaults:=[],kwarg:=none,defaults:=[] }
noncomputable def X8 (s:Stmt):List Stmt:=match s with
 | .FunctionDef _ _ b _ _ _ _ _ _ _=>b
 | _=>[]
noncomputable def Zx (s:Stmt):Scope:=match s with
 | .FunctionDef _ _ _ _ _ _ sc _ _ _=>sc
 | _=>{ kind:=.function,names:=[],isGenerator:=false,isCoroutine:=false }
noncomputable abbrev ZO:XG:=fun _ _ _ _ _ _=>False
noncomputable abbrev E0:XK:=fun _ _ _=>False
theorem Zig {X:Cx}:BU ZO X E0:=fun _ _ _ _ _ _ _ h=>h.elim
structure Fun (K:qf)(x qual:Str)(st:Stmt)(f:Addr)(fd:FuncData):Prop where
 ex:∃(oc:Value) (od:Option Addr) (kV doc pm:Value) (an:Option Addr) (cdv ct:Value) (osl:Array (Option Value)),
  fd=zW x qual (Wx st) (X8 st) (Zx st) .none kV doc pm an cdv ct/\K.lookup f=some ⟨oc,od,.func fd,osl⟩/\yZ K cdv qual=true
 kp:zR K (.ref f)=true
section
variable {P:Program}{w:World}{K:qf}{mg:Str->Option Value}{base:Heap}
theorem Fun.ok {x qual:Str}{st:Stmt}{f:Addr}{fd:FuncData}{N ps:List Str}{k:Nat}{sp:Sp}(F:Fun K x qual st f fd)(S:FnScope N ps (Zx st))(len:∀vs H Q E,sp vs H Q E->vs.length=ps.length)
  (hbody:∀(cdv:Value) (A:Around) (outer:List Env) (s:Shared) (H:Hp) (vs:List V) (Q:VK) (E:XK),Room k (A.deeper (envOfC qual (Zx st) s.heap.objs.size f cdv))->sp vs H Q E->
   ∃t,Wj (WI ZO P w K mg base N qual (Zx st) f cdv A outer s H E).nox (X8 st) t/\t { nx:=fun _ H'=>Q .non H',rt:=Q } (start N vs) H):FnOk P w K mg base ZO (k+1) f fd ps sp:=by
 obtain⟨oc,od,kV,doc,pm,an,cdv,ct,osl,rfl,lk,hcd⟩:=F.ex;refine Zk7 lk hcd S len fun A outer s H vs Q E hr hsp=>?_;obtain⟨t,h,q⟩:=hbody cdv A outer s H vs Q E hr hsp;exact⟨t,h.nox,q⟩
theorem Fun.binds {x qual:Str}{st:Stmt}{f:Addr}{fd:FuncData}{ps:List Str}(F:Fun K x qual st f fd)
  (h:∀(kV doc pm:Value) (an:Option Addr) (cdv ct:Value) (us:List Value),us.length=ps.length->bindArgs (zW x qual (Wx st) (X8 st) (Zx st) .none kV doc pm an cdv ct) ⟨us,[]⟩=pure (ps.zip us)):Xz K fd ps []:=by
 obtain⟨oc,od,kV,doc,pm,an,cdv,ct,osl,rfl,lk,hcd⟩:=F.ex;exact .all (h kV doc pm an cdv ct)
theorem Zl0 {x qual:Str}{st:Stmt}{f:Addr}{oc:Value}{od an:Option Addr}{osl:Array (Option Value)}{kV doc pm cdv ct:Value}(l:K.lookup f=some ⟨oc,od,.func (zW x qual (Wx st) (X8 st) (Zx st) .none kV doc pm an cdv ct),osl⟩)
  (c:yZ K cdv qual=true) (k:zR K (.ref f)=true):Fun K x qual st f (zW x qual (Wx st) (X8 st) (Zx st) .none kV doc pm an cdv ct):=⟨⟨oc,od,kV,doc,pm,an,cdv,ct,osl,rfl,l,c⟩,k⟩
end
theorem hu_of {A:Around}{k:Nat}(hr:Room k A):A.units+1<cLine:=Nat.lt_of_le_of_lt (Nat.add_le_add_left (by decide:1<=64) _) hr.units
section
variable {X:Cx}
theorem pv (i:Nat){x:Str}{pos:Pos}(hN:X.N[i]?=some x:=by rfl)(hv:Bd X.env.scope x:=by first | exact qM rfl | exact yk (qM rfl) | exact yk (yk rfl))(hd:(x==("__debug__" : Str))=false:=by decide)
  (hcd:(x==("__classdict__" : Str))=false:=by decide):PE X (.Name x pos) (Z7 i):=ZlE hN hv hd hcd
end
theorem Vn {A B:Prop}(h:B):if false=true then A else B:=by
 rw[if_neg zD];exact h
theorem VE {A B:Prop}(h:A):if true=true then A else B:=by
 rw[if_pos rfl];exact h
section
variable {X:Cx}
end
section
variable {κ:Type}[DecidableEq κ]
end
end L2
namespace L2
theorem Zef {prog:Program}{w:World}{A:Around}{R:Result->Shared->Prop}{s:Shared}{elt target iter:Expr}{ifs:List Expr}{scope:Scope}{pos:Pos}{it jQ:Value}{env:Env}(I:Nat->Shared->Prop)
  (turn:∀n s,I n s->wpAny (model prog w) A (pyNext it) (fun r s₁=>match r with
   | none=>R (.ok .next) s₁
   | some v=>wpAny (model prog w) A (letOwnedTupleGo target it v) (fun _ s₁'=>wpAny (model prog w) A (assign target env v) (fun _ s₂=>
     wpAny (model prog w) A (forIn ifs true fun c r=>if r=true then do let ok<-isTrue c env (eval c env);pure (yD ok) else pure (yD r)) (fun ok s₃=>
      if ok=true then wpAny (model prog w) A (eval elt env) (fun x s₄=>
       wpAny (model prog w) A (call (.builtin "list.append") [jQ,x]) (fun _ s₅=>∃m,m<n/\I m s₅) (notedBy (model prog w) A env fun e s'=>R (.error e) s') s₄) (notedBy (model prog w) A env fun e s'=>R (.error e) s') s₃
      else ∃m,m<n/\I m s₃) (notedBy (model prog w) A env fun e s'=>R (.error e) s') s₂) (notedBy (model prog w) A env fun e s'=>R (.error e) s') s₁') (notedBy (model prog w) A env fun e s'=>R (.error e) s') s₁) (notedBy (model prog w) A env fun e s'=>R (.error e) s') s)
  (n:Nat) (h:I n s) :
  codeAny (model prog w) A (.compLoop (.ListComp elt [⟨target,iter,ifs,0⟩] scope pos) 0 it jQ env) R s:=by
 refine codeAny_loop rfl I (fun n s hI=>?_) n h;show wpAny _ A ((compTurn (.ListComp elt [⟨target,iter,ifs,0⟩] scope pos) 0 it jQ env).onRaise (fun x=>do noteFrame x env;theTreesLotGoes x)) _ _ s;refine wpAny_noted ?_;rw[compTurn_list];refine wpAny_bind (wpAny_standAt (wpAny_bind (wpAny_mono (turn n s hI) (fun r s₁ h₁=>?_) fun _ _ h'=>h')))
 cases r with
 | none=>exact wpAny_pure h₁
 | some v=>
  refine wpAny_bind (wpAny_mono h₁ (fun _ s₁' h₁'=>?_) fun _ _ h'=>h');refine wpAny_bind (wpAny_mono h₁' (fun _ s₂ h₂=>wpAny_bind (wpAny_mono h₂ (fun ok s₃ h₃=>?_) fun _ _ h'=>h')) fun _ _ h'=>h')
  cases ok with
  | false=>exact wpAny_pure ⟨rfl,h₃⟩
  | true=>
   exact wpAny_bind (wpAny_bind (wpAny_mono h₃ (fun x s₄ h₄=>wpAny_bind (wpAny_mono h₄ (fun _ s₅ h₅=>wpAny_pure (wpAny_pure ⟨rfl,h₅⟩)) fun _ _ h'=>h')) fun _ _ h'=>h'))
noncomputable def blk (X:Cx)(jJ:List (Addr×Obj))(N':List Str)(scope:Scope)(cl:List (Str×Addr))(C:Addr)(s:Shared)(H:Hp)(fp:List Addr):Cx where
 prog:=X.prog
 w:=X.w
 K:=X.K
 mg:=X.mg
 base:=X.base
 A:=X.A
 N:=N'
 s₀:=s
 H₀:=H
 env:=compEnvC scope cl C X.env
 outer:=X.stack
 stack:=X.stack
 ex:=fp
 fn:=fun _=>false
 calm:=X.calm
 pn:=X.pn++jJ
 xe:=fun _ _=>False
noncomputable def W3 (X:Cx)(ifs:List Expr)(t:TT):Prop:=
 ∀(jJ:List (Addr×Obj)) (s:Shared) (σ:St) (H:Hp) (Q:Bool->Hp->Prop),Inv X jJ σ H s->t σ H Q->
  wpAny (model X.prog X.w) X.A (forIn ifs true fun c r=>if r=true then do let ok<-isTrue c X.env (eval c X.env);pure (yD ok) else pure (yD r)) (TP X jJ σ Q) X.xe s
noncomputable def ZmX:TT:=fun _ H Q=>Q true H
theorem Zih {X:Cx}:W3 X [] ZmX:=fun _ _ _ H _ I h=>wpAny_pure ⟨H,I,h⟩
theorem Zeg {X:Cx}{c:Expr}{t:TT}(h:PT X c t):W3 X [c] t:=fun jJ s σ H Q I hq=>wpAny_tests_one (h jJ s σ H Q I hq)
structure BlkOk (X:Cx)(N':List Str)(src:List (Option Nat))(scope:Scope)(cl:List (Str×Addr)):Prop where
 clos:closureFor scope X.env=pure cl
 nocell:∀y∈scope.names,y.2≠.cell
 kind:scope.kind=.function
 names:∀y∈scope.names,y.2=.local->scope.names.lookup y.1=some .local
 len:src.length=N'.length
 cells:∀x c,cl.lookup x=some c->X.env.cells.lookup x=some c
 has:∀x,((relabel scope X.env).names.lookup x=some .cell∨(relabel scope X.env).names.lookup x=some .free)->∃c,cl.lookup x=some c
 from_:∀(i j:Nat) x,src[i]?=some (some j)->N'[i]?=some x->X.N[j]?=some x/\(X.env.kindOf x=some .cell∨X.env.kindOf x=some .free)/\((relabel scope X.env).names.lookup x=some .cell∨(relabel scope X.env).names.lookup x=some .free)
noncomputable def Vj (src:List (Option Nat))(σ:St):St:=src.map fun o=>o.bind fun j=>(σ[j]?).bind id
theorem Zj6 {X:Cx}{jJ:List (Addr×Obj)}{σ:St}{H:Hp}{s s1:Shared}{N':List Str}{src:List (Option Nat)}{scope:Scope}{cl:List (Str×Addr)}{C:Addr}{fp:List Addr}{m:Str->Option Value}
  (B:BlkOk X N' src scope cl) (I:Inv X jJ σ H s) (hf:∀b∈fp,X4 X jJ H b) (hC:s.heap.objs.size<=C) (hCf:∀b∈fp,b≠C)
  (hs:s1.os=s.os) (hg:s1.gens=s.gens) (hk:∀b o,s.heap.get? b=some o->s1.heap.get? b=some o) (hn:s1.heap.Ns C m):Inv (blk X jJ N' scope cl C s H fp) [] (Vj src σ) H s1:=by
 have noC:∀b o,s.heap.get? b=some o->b≠C:=fun b o e=>qP (qN (qz e) hC);refine⟨⟨I.ok.mod,B.kind,I.ok.glob,I.ok.blt,hC,fun x y c h1 h2=>I.ok.inj x y c (B.cells _ _ h1) (B.cells _ _ h2),fun x hx=>B.has x hx,fun x c hf _=>(by cases hf),I.ok.hd,I.ok.frames,.inl rfl,fun b hb=>?_,I.bs,qZ I.ok.bsz I.sz,fun b o e hb=>?_,fun b hb z=>?_,I.stack,I.stkFree⟩,
  hs,by rw[hg];exact I.bare,Un.kept hk,⟨m,hn,fun i x v h1 h2 h3=>?_⟩,fun x c e=>?_,I.hok.fresh hC,fun x c e=>I.freeC x c (B.cells _ _ e),fun p hp=>?_,I.hok.kept hk,?_⟩
 ·obtain⟨f0,f1,f2,f3,f4,f5⟩:=hf b hb
  exact⟨hCf b hb,fun x c e=>f4 x c (B.cells _ _ e)⟩
 ·obtain⟨f0,f1,f2,f3,f4,f5⟩:=hf b hb
  rcases f3 with z | z
  ·exact I.ok.noex b o e z
  ·exact absurd (qN (qz (I.ok.bs b o e).1) z) (z6 _)
 ·obtain⟨f0,f1,f2,f3,f4,f5⟩:=hf b hb
  rcases qt.mp (I.stkSub b z) with e | e
  ·exact f1 e
  ·exact f2 e
 ·have h2':(Vj src σ)[i]?=some (some v):=h2
  unfold Vj at h2';rw[qA] at h2'
  cases e:src[i]? with
  | none=>rw[e] at h2';cases h2'
  | some o=>
   rw[e] at h2'
   cases o with
   | none=>simp at h2'
   | some j=>
    obtain⟨q1,q2,q3⟩:=B.from_ i j x e h1;have hj:σ[j]?=some (some v):=by
     simp only[zL,Option.bind_some,qaQ] at h2'
     cases e2:σ[j]? with
     | none=>rw[e2] at h2';cases h2'
     | some o2=>rw[e2] at h2';simp at h2';rw[h2']
    obtain⟨mm,hnn,hl⟩:=I.loc;have vis:Bd X.env.scope x:=by
     rcases q2 with z | z
     ·exact .inr (.inl z)
     ·exact .inr (.inr z)
    obtain⟨u,r,l⟩:=hl j x v q1 hj vis;refine⟨u,r,?_⟩;rcases l with⟨k,_⟩ | ⟨_,c,ec,z⟩
    ·rcases q2 with z | z <;> rw[z] at k <;> cases k
    ·obtain⟨c',ec'⟩:=B.has x q3
     have ee:c'=c:=by
      have:=B.cells _ _ ec';rw[ec] at this;exact(qY this).symm
     subst ee;obtain⟨o,ho,hd⟩:=z;exact .inr ⟨q3,c',ec',o,hk _ _ ho,hd⟩
 ·obtain⟨v,o,ho,hd⟩:=I.cell x c (B.cells _ _ e)
  exact⟨v,o,hk _ _ ho,hd⟩
 ·have hp':p∈X.pn++jJ:=by simpa[blk] using hp
  obtain⟨e,n,ne,nf,d⟩:=I.pin p hp';refine⟨hk _ _ e,n,noC _ _ e,fun z=>?_,d⟩;rcases qt.mp (I.stkSub p.1 z) with q | q
  ·exact ne q
  ·exact nf q
 ·show(Vj src σ).length=N'.length
  unfold Vj;rw[qj,B.len]
noncomputable def JY (src:List (Option Nat))(wi:TI)(g:TG)(tt:TT)(te:TE):TE:=fun σ H Q=>wi σ H fun J H1=>∀p,H1 p=none->
 ∃W:Nat->Nat->St->Hp->Prop,(∃m,W 0 m (Vj src σ) (Zk H1 p (.lst [])))/\∀i m σ2 H2,W i m σ2 H2->
  (J.stop i H2/\Q (.ref p) H2)∨(J.go i H2/\∀x H3,J.yld i H2 x H3->g x σ2 H3 fun σ4 H4=>tt σ4 H4 fun ok H5=>
   if ok=true then te σ4 H5 fun y H6=>∃xs,H6 p=some (.lst xs)/\xs.length<sizeLine/\∃m',m'<m/\W (i+1) m' σ4 (Zk H6 p (.lst (xs ++ [y])))
   else ∃m',m'<m/\W (i+1) m' σ4 H5)
theorem Zdb {X:Cx}{elt tg iter:Expr}{ifs:List Expr}{scope:Scope}{pos:Pos}{N':List Str}{src:List (Option Nat)}{cl:List (Str×Addr)}{g:TG}{tt:TT}{te:TE}
  {jJ:List (Addr×Obj)} {σ:St} {H2:Hp} {s₂:Shared} {it:Addr} {fp:List Addr} {tn:Nat->Heap->Prop} {J:It} {Qp:Addr->Hp->Prop} {RR:Value->Addr->Result->Shared->Prop} {E:Value->Shared->Prop}
  (hc:X.calm=true) (B:BlkOk X N' src scope cl)
  (hg:∀jJ C s H fp,PG (blk X jJ N' scope cl C s H fp) tg g) (ht:∀jJ C s H fp,W3 (blk X jJ N' scope cl C s H fp) ifs tt) (he:∀jJ C s H fp,PE (blk X jJ N' scope cl C s H fp) elt te)
  (I2:Inv X jJ σ H2 s₂) (T:Turn X.prog X.w X.K tg J fp it tn) (j7:tn 0 s₂.heap) (f2:∀b∈fp,X4 X jJ H2 b)
  (q2:∀p,H2 p=none->∃W:Nat->Nat->St->Hp->Prop,(∃m,W 0 m (Vj src σ) (Zk H2 p (.lst [])))/\∀i m σ2 H2,W i m σ2 H2->
   (J.stop i H2/\Qp p H2)∨(J.go i H2/\∀x H3,J.yld i H2 x H3->g x σ2 H3 fun σ4 H4=>tt σ4 H4 fun ok H5=>
    if ok=true then te σ4 H5 fun y H6=>∃xs,H6 p=some (.lst xs)/\xs.length<sizeLine/\∃m',m'<m/\W (i+1) m' σ4 (Zk H6 p (.lst (xs ++ [y])))
    else ∃m',m'<m/\W (i+1) m' σ4 H5))
  (hfin:∀p C s6 H5 mm,Inv X jJ σ H5 s6->s6.heap.Ns C mm->X4 X jJ H5 C->Qp p H5->RR (.ref p) C (.ok .next) s6) :
  wpAny (model X.prog X.w) X.A (newList []) (fun jQ s₃=>wpAny (model X.prog X.w) X.A (newFunctionEnv scope X.env.globals cl [] X.env.qual none .none (some X.env)) (fun cenv s₄=>
   codeAny (model X.prog X.w) X.A (.compStart (.ListComp elt [⟨tg,iter,ifs,0⟩] scope pos) 0 (.ref it) jQ { cenv with scope:=relabel scope X.env }) (RR jQ cenv.locals) s₄) E s₃) E s₂:=by
 have fpold:∀b∈fp,b<s₂.heap.objs.size:=fun b hb=>by
  obtain⟨o,e,_⟩:=T.obj _ _ j7 b hb;exact qz e
 have q2:=q2 s₂.heap.objs.size (I2.hok.fresh (qp _));obtain⟨W,⟨m0,w0⟩,turn⟩:=q2
 -- the new list
 refine wpAny_newObj_type ?_;have I3:Inv X jJ σ (Zk H2 s₂.heap.objs.size (.lst [])) { s₂ with heap:=s₂.heap.push { cls:=.type "list",dict:=none,data:=.seq ([]:List Value).toArray } }:=
  I2.lnew (t':=s₂.toks) (ys:=[]) .nil (zj _)
 have st3:tn 0 (s₂.heap.push { cls:=.type "list",dict:=none,data:=.seq ([]:List Value).toArray }):=T.keep _ _ _ j7 fun b _ o e=>qd _ e;have f3:∀b∈fp,X4 X jJ (Zk H2 s₂.heap.objs.size (.lst [])) b:=fun b hb=>by
  obtain⟨f0,f1⟩:=f2 b hb;exact⟨by rw[Zo (qP (fpold b hb))];exact f0,f1⟩
 generalize hs3:({ s₂ with heap:=s₂.heap.push { cls:=.type "list",dict:=none,data:=.seq ([]:List Value).toArray } }:Shared)=s₃ at I3;have st3':tn 0 s₃.heap:=by rw[<-hs3];exact st3
 have lt3:s₂.heap.objs.size<s₃.heap.objs.size:=by rw[<-hs3];show _<(Heap.push _ _).objs.size;rw[y4];exact Nat.lt_succ_self _
 refine wpAny_newFunctionEnv B.nocell (by intro y hy;simp at hy) (fun h₁ hns₁ hsb₁=>?_) B.kind;have kp1:∀b o,s₃.heap.get? b=some o->h₁.get? b=some o:=fun b o e=>hsb₁.extBut b o (qP (qz e)) (qd _ e);have I4:=Zj6 (s1:={ s₃ with heap:=h₁,toks:=s₃.toks+([]:List (Str×Value)).length }) (C:=s₃.heap.objs.size) B I3 f3 (qp _) (fun b hb=>qP (qbM (fpold b hb) lt3)) rfl rfl kp1 hns₁;have st4:tn 0 h₁:=T.keep _ _ _ st3' fun b _ o e=>kp1 b o e;show codeAny (model X.prog X.w) X.A (.compStart (.ListComp elt [⟨tg,iter,ifs,0⟩] scope pos) 0 (.ref it) (.ref s₂.heap.objs.size) (compEnvC scope cl s₃.heap.objs.size X.env)) (RR (.ref s₂.heap.objs.size) s₃.heap.objs.size) _;generalize hs4:({ s₃ with heap:=h₁,toks:=s₃.toks+([]:List (Str×Value)).length }:Shared)=s₄ at I4;have st4':tn 0 s₄.heap:=by rw[<-hs4];exact st4
 have blkX:∀{b:Addr} {H':Hp},b∈fp->H' b=none->X4 (blk X jJ N' scope cl s₃.heap.objs.size s₃ (Zk H2 s₂.heap.objs.size (.lst [])) fp) [] H' b:=fun {b H'} hb hn=>by
  obtain⟨f0,f1,f2',f3',f4',f5'⟩:=f3 b hb;refine⟨hn,qP (qbM (fpold b hb) lt3),fun z=>?_,.inl hb,fun x c e=>f4' x c (B.cells _ _ e),fun p hp=>?_⟩
  ·rcases qt.mp (I3.stkSub b z) with e | e
   ·exact f1 e
   ·exact f2' e
  ·exact f5' p (by simpa[blk] using hp)
 have loop:codeAny (model X.prog X.w) X.A (.compLoop (.ListComp elt [⟨tg,iter,ifs,0⟩] scope pos) 0 (.ref it) (.ref s₂.heap.objs.size) (compEnvC scope cl s₃.heap.objs.size X.env)) (RR (.ref s₂.heap.objs.size) s₃.heap.objs.size) s₄:=by
  refine Zef (fun n s'=>∃i σ' H',Inv (blk X jJ N' scope cl s₃.heap.objs.size s₃ (Zk H2 s₂.heap.objs.size (.lst [])) fp) [] σ' H' s'/\tn i s'.heap/\(∀b∈fp,H' b=none)/\W i n σ' H') ?_ m0 ⟨0,_,_,I4,st4',fun b hb=>(f3 b hb).1,w0⟩;rintro n s5 ⟨i,σ5,H5,I5,st5,fr5,w5⟩;rcases turn i n σ5 H5 w5 with⟨stop,qn⟩ | ⟨go,step⟩
  ·refine wpAny_mono (T.done (blk X jJ N' scope cl s₃.heap.objs.size s₃ (Zk H2 s₂.heap.objs.size (.lst [])) fp) rfl rfl rfl hc i [] s5 σ5 H5 (fun _ _=>False) I5 (fun b hb=>blkX hb (fr5 b hb)) st5 stop) (fun r s6 ⟨hr,I6⟩=>?_) fun _ _ f=>f.elim
   subst hr;obtain⟨mm,hnn,_⟩:=id I6.loc;have nC:H5 s₃.heap.objs.size=none:=I6.free;have J1:Inv X jJ σ H5 s6:=by
    refine I3.call' (ch:=fp) I6.os I6.base I6.hok I6.bare fun b hb=>?_;obtain⟨f0,f1,f2',f3',f4',f5'⟩:=f3 b hb;exact⟨f3',f1,f4',f5'⟩
   exact hfin _ _ s6 H5 mm J1 hnn (I3.fpOk (qp _) nC) qn
  ·refine wpAny_mono (T.item (blk X jJ N' scope cl s₃.heap.objs.size s₃ (Zk H2 s₂.heap.objs.size (.lst [])) fp) rfl rfl rfl hc i [] s5 σ5 H5 (fun _ _=>False) I5 (fun b hb=>blkX hb (fr5 b hb)) st5 go) (fun r s6 ⟨u,hr,h6⟩=>?_) fun _ _ f=>f.elim
   subst hr;refine wpAny_mono h6 (fun _ s7 ⟨x,H7,I7,r7,y7,st7,fr7⟩=>?_) fun _ _ f=>f.elim;have I7':=I7.pinned (fun b hb=>blkX hb (fr7 b hb)) (T.obj _ _ st7);refine wpAny_mono (hg _ _ _ _ _ _ s7 σ5 H7 x u _ I7' r7 (step x H7 y7)) (fun _ s8 ⟨σ8,H8,I8,q8⟩=>?_) fun _ _ f=>f.elim;refine wpAny_mono (ht _ _ _ _ _ _ s8 σ8 H8 _ I8 q8) (fun ok s9 ⟨H9,I9,q9⟩=>?_) fun _ _ f=>f.elim;have again:∀{σ7:St} {H7:Hp} {sz:Shared},Inv (blk X jJ N' scope cl s₃.heap.objs.size s₃ (Zk H2 s₂.heap.objs.size (.lst [])) fp) ([]++JP fp s7.heap) σ7 H7 sz->(∃m',m'<n/\W (i+1) m' σ7 H7)->
     ∃m,m<n/\∃i σ' H',Inv (blk X jJ N' scope cl s₃.heap.objs.size s₃ (Zk H2 s₂.heap.objs.size (.lst [])) fp) [] σ' H' sz/\tn i sz.heap/\(∀b∈fp,H' b=none)/\W i m σ' H':=fun {σ7 H7 sz} Iz ⟨m',hm,wz⟩=>by
    refine⟨m',hm,i+1,σ7,H7,Iz.unpinned,T.keep _ _ _ st7 fun b hb o e=>(Iz.pin (b,o) (qk _ (qk _ (UJ hb e)))).1,fun b hb=>?_,wz⟩;obtain⟨o,e,d⟩:=T.obj _ _ st7 b hb;exact(Iz.pin (b,o) (qk _ (qk _ (UJ hb e)))).2.1
   cases ok with
   | false=>
    show ∃m,m<n/\_;exact again I9 (by simpa using q9)
   | true=>
    have q9':te σ8 H9 fun y H6=>∃xs,H6 s₂.heap.objs.size=some (.lst xs)/\xs.length<sizeLine/\∃m',m'<n/\W (i+1) m' σ8 (Zk H6 s₂.heap.objs.size (.lst (xs ++ [y]))):=by simpa using q9
    show wpAny _ _ _ _ _ _;refine wpAny_mono (he _ _ _ _ _ _ s9 σ8 H9 _ I9 q9') (fun y sA ⟨yv,HA,IA,rA,xs,eA,zA,mA⟩=>?_) fun _ _ f=>f.elim;refine wpAny_mono (Zc7 (X:=blk X jJ N' scope cl s₃.heap.objs.size s₃ (Zk H2 s₂.heap.objs.size (.lst [])) fp) _ sA σ8 HA (.ref s₂.heap.objs.size) [yv] (.ref s₂.heap.objs.size) [y] (fun _ HB=>HB=Zk HA s₂.heap.objs.size (.lst (xs ++ [yv]))) IA rfl (.cons rA .nil) ⟨_,xs,yv,rfl,rfl,eA,zA,rfl⟩) (fun _ sB ⟨_,HB,IB,_,eB⟩=>?_) fun _ _ f=>f.elim;subst eB;exact again IB mA
 exact codeAny_compStart_list loop (T.self _ 0 _ _ _ st4' loop)
theorem Zgb {X:Cx}{elt tg iter:Expr}{ifs:List Expr}{scope:Scope}{pos:Pos}{N':List Str}{src:List (Option Nat)}{cl:List (Str×Addr)}{wi:TI}{g:TG}{tt:TT}{te:TE}
  (hc:X.calm=true) (B:BlkOk X N' src scope cl) (hi:PI X tg iter wi)
  (hg:∀jJ C s H fp,PG (blk X jJ N' scope cl C s H fp) tg g) (ht:∀jJ C s H fp,W3 (blk X jJ N' scope cl C s H fp) ifs tt) (he:∀jJ C s H fp,PE (blk X jJ N' scope cl C s H fp) elt te)
  (hs:∀x,foldedSetIterable iter X.env x=pure x:=by intro _;rfl):PE X (.ListComp elt [⟨tg,iter,ifs,0⟩] scope pos) (JY src wi g tt te):=by
 intro jJ s σ H Q I h;rw[eval_ListComp];refine wpAny_comprehension_free (use:=none) rfl hs B.clos B.kind B.names (wpAny_mono (hi jJ s σ H _ I h) (fun xv s₁ h₁=>wpAny_mono h₁ (fun it s₂ h₂=>?_) fun _ _ e=>e) fun _ _ e=>e);obtain⟨it,fp,tn,J,H2,e,I2,T,j7,f2,q2⟩:=h₂;subst e;refine Zdb (RR:=fun jQ C=>compPost (model X.prog X.w) X.A X.xe none (EP X jJ σ Q) jQ C) (Qp:=fun p H=>Q (.ref p) H) hc B hg ht he I2 T j7 f2 q2 ?_;intro p C s6 H5 mm J1 hnn fC qn;refine⟨mm,hnn,fun h' sb=>?_⟩;obtain⟨c0,c1,c2,c3,c4,c5⟩:=fC;exact⟨.ref p,H5,J1.turned (t':=s6.toks) (it:=C) (fun b o hb e=>(sb.2 b hb).trans e) c0 c1 c3 c4 c5,rfl,qn⟩
theorem Zj7 {X:Cx}{elt tg iter:Expr}{ifs:List Expr}{scope:Scope}{pos pos' spos:Pos}{N':List Str}{src:List (Option Nat)}{cl:List (Str×Addr)}{wi:TI}{g:TG}{tt:TT}{te:TE}{i:Nat}{x:Str}
  (hN:X.N.Nodup) (hi':X.N[i]?=some x) (hx:W8 X.env.scope x)
  (hc:X.calm=true) (B:BlkOk X N' src scope cl) (hi:PI X tg iter wi)
  (hg:∀jJ C s H fp,PG (blk X jJ N' scope cl C s H fp) tg g) (ht:∀jJ C s H fp,W3 (blk X jJ N' scope cl C s H fp) ifs tt) (he:∀jJ C s H fp,PE (blk X jJ N' scope cl C s H fp) elt te)
  (hsw:swapsWith (.ListComp elt [⟨tg,iter,ifs,0⟩] scope pos) (some (.Name x pos')) spos.line X.env=pure true:=by rfl)
  (hs:∀x,foldedSetIterable iter X.env x=pure x:=by intro _;rfl)
  (hf:X.fn x=true∨X.env.scope.names.lookup x=some .local:=by first | exact .inl rfl | exact .inr rfl | assumption) :
  PS X (.Assign [.Name x pos'] (.ListComp elt [⟨tg,iter,ifs,0⟩] scope pos) spos) (fun D σ H=>JY src wi g tt te σ H fun y H1=>D.nx (σ.set i (some y)) H1):=by
 intro jJ s σ H D I h;rw[exec_Assign_Name_used _ _ _ _ hsw];refine wpAny_bind (wpAny_standAt (wpAny_bind ?_));show wpAny _ _ (do let _<-comprehension (.ListComp elt [⟨tg,iter,ifs,0⟩] scope pos) scope X.env _ (newList []) false (eval iter X.env) (some (assign (.Name x pos') X.env))) _ _ s;refine wpAny_bind (wpAny_mono (wpAny_comprehension_free (use:=some (assign (.Name x pos') X.env)) (Q:=fun _ s'=>SP X jJ D .next s') rfl hs B.clos B.kind B.names
  (wpAny_mono (hi jJ s σ H _ I h) (fun xv s₁ h₁=>wpAny_mono h₁ (fun it s₂ h₂=>?_) fun _ _ e=>e) fun _ _ e=>e)) (fun _ s' hq=>wpAny_pure (wpAny_pure hq)) fun _ _ e=>e)
 obtain⟨it,fp,tn,J,H2,e,I2,T,j7,f2,q2⟩:=h₂;subst e;refine Zdb (RR:=fun jQ C=>compPost (model X.prog X.w) X.A X.xe (some (assign (.Name x pos') X.env)) (fun _ s'=>SP X jJ D .next s') jQ C) (Qp:=fun p H=>D.nx (σ.set i (some (.ref p))) H) hc B hg ht he I2 T j7 f2 q2 ?_;intro p C s6 H5 mm J1 hnn fC qn;obtain⟨oC,es,ep,hoC,hdC,hrC⟩:=id hnn;have fC':∀b∈[C],X4 X jJ H5 b:=by
  intro b hb;have e:b=C:=by simpa using hb
  rw[e];exact fC
 have oC':∀b∈[C],∃o,s6.heap.get? b=some o/\∀v,o.data≠.cell v:=by
  intro b hb;have e:b=C:=by simpa using hb
  rw[e];exact⟨oC,hoC,fun v z=>by rw[hdC] at z;cases z⟩
 have J2:=J1.pinned (fp:=[C]) fC' oC';show wpAny _ _ (assign (.Name x pos') X.env (.ref p)) _ _ _;refine wpAny_mono (X1 (X:=X) (pos:=pos') hN hi' hx hf _ s6 σ H5 (.ref p) (.ref p) (fun σ' H'=>σ'=σ.set i (some (.ref p))/\H'=H5) J2 rfl ⟨rfl,rfl⟩) (fun _ s7 ⟨σ7,H7,I7,e7,e7'⟩=>?_) fun _ _ e=>e;subst e7 e7';have pC:=I7.pin (C,oC) (qk _ (qk _ (UJ (by simp) hoC)));refine⟨mm,⟨oC,es,ep,pC.1,hdC,hrC⟩,fun h' sb=>?_⟩;obtain⟨c0,c1,c2,c3,c4,c5⟩:=fC;exact⟨_,_,(I7.unpinned).turned (t':=s7.toks) (it:=C) (fun b o hb e=>(sb.2 b hb).trans e) c0 c1 c3 c4 c5,qn⟩
end L2
namespace TF
open L2
inductive D where
 | non | bl (b:Bool) | int (i:Int) | str (x:Str) | tup (xs:List D) | lst (xs:List D)
 | dk (kvs:List (Zr×V)) | dt (kvs:List (List Zr×V)) | du (kvs:List (List Zr×V)) | df (kvs:List (Zr×V)) | pen | ty (n:String) | clo (t:Nat) (caps:List D)
noncomputable abbrev St:=L2.St
noncomputable abbrev Pn:=List Int×List Int
noncomputable abbrev M (α:Type):=Pn->Option (α×Pn)
noncomputable abbrev Zb:=List (Option D)
noncomputable def ZD {α:Type}(a:α):M α:=fun s=>some (a,s)
noncomputable def Zm {α β:Type}(m:M α)(k:α->M β):M β:=fun s=>match m s with | none=>none | some p=>k p.1 p.2
noncomputable def Zz {α:Type}:M α:=fun _=>none
noncomputable def YN {α:Type}(o:Option α):M α:=fun s=>match o with | none=>none | some a=>some (a,s)
theorem Zv {α β:Type}{m:M α}{k:α->M β}{s s':Pn}{b:β}(h:Zm m k s=some (b,s')):∃a s1,m s=some (a,s1)/\k a s1=some (b,s'):=by
 unfold Zm at h
 cases e:m s with
 | none=>rw[e] at h;cases h
 | some p=>rw[e] at h;exact⟨p.1,p.2,rfl,h⟩
theorem ZL {α:Type}{a b:α}{s s':Pn}(h:ZD a s=some (b,s')):b=a/\s'=s:=by
 unfold ZD at h
 cases h
 exact⟨rfl,rfl⟩
theorem X0 {α:Type}{o:Option α}{b:α}{s s':Pn}(h:YN o s=some (b,s')):o=some b/\s'=s:=by
 unfold YN at h
 cases e:o with
 | none=>rw[e] at h;cases h
 | some a=>rw[e] at h;cases h;exact⟨rfl,rfl⟩
structure Gh where
 fp:Addr->Prop
 rd:Addr->Prop
 pen:V
 st:Pn->Hp->Prop
 mono:∀s H H',st s H->(∀b o,rd b->H b=some o->H' b=some o)->(∀b φ,H b=some (.ext φ)->H' b=some (.ext φ))->st s H'
 sub:∀b,fp b->rd b
 dom:∀s H b,st s H->rd b->∃o,H b=some o
 ntp:∀s H b vs,st s H->fp b->H b≠some (.tup vs)
 clo:Nat->V->List V->Prop:=fun _ _ _=>False
mutual
noncomputable def Zj (G:Gh)(H:Hp):D->V->Prop
 | .non,v=>v=.non
 | .bl b,v=>v=.bl b
 | .int i,v=>v=.int i
 | .str x,v=>v=.str x
 | .tup ds,v=>∃a vs,v=.ref a/\¬G.fp a/\H a=some (.tup vs)/\Zg G H ds vs
 | .lst ds,v=>∃a vs,v=.ref a/\¬G.fp a/\H a=some (.lst vs)/\Zg G H ds vs
 | .dk kvs,v=>∃a,v=.ref a/\¬G.fp a/\H a=some (.dK kvs)
 | .dt kvs,v=>∃a o,v=.ref a/\¬G.fp a/\H a=some (.frz o (.dT kvs))
 | .du kvs,v=>∃a,v=.ref a/\¬G.fp a/\H a=some (.dT kvs)
 | .df kvs,v=>∃a o,v=.ref a/\¬G.fp a/\H a=some (.frz o (.dK kvs))
 | .pen,v=>v=G.pen
 | .ty n,v=>v=.ty n
 | .clo t ds,v=>∃vs,G.clo t v vs/\Zg G H ds vs
noncomputable def Zg (G:Gh)(H:Hp):List D->List V->Prop
 | [],vs=>vs=[]
 | d::ds,vs=>∃v r,vs=v::r/\Zj G H d v/\Zg G H ds r
end
noncomputable def Zw (G:Gh)(H H':Hp):Prop:=∀b o,¬G.fp b->H b=some o->H' b=some o
theorem Zw.refl (G:Gh)(H:Hp):Zw G H H:=fun _ _ _ e=>e
theorem Zw.trans {G:Gh}{H H1 H2:Hp}(a:Zw G H H1)(b:Zw G H1 H2):Zw G H H2:=fun c o n e=>b c o n (a c o n e)
mutual
theorem Zj.ext {G:Gh}{H H':Hp}(e:Zw G H H'):∀{d:D} {v:V},Zj G H d v->Zj G H' d v
 | .non,_,h=>h
 | .bl _,_,h=>h
 | .int _,_,h=>h
 | .str _,_,h=>h
 | .tup ds,v,h=>by
  unfold Zj at h⊢;obtain⟨a,vs,e1,n,e2,r⟩:=h;exact⟨a,vs,e1,n,e _ _ n e2,Zg.ext e r⟩
 | .lst ds,v,h=>by
  unfold Zj at h⊢;obtain⟨a,vs,e1,n,e2,r⟩:=h;exact⟨a,vs,e1,n,e _ _ n e2,Zg.ext e r⟩
 | .dk kvs,v,h=>by
  unfold Zj at h⊢;obtain⟨a,e1,n,e2⟩:=h;exact⟨a,e1,n,e _ _ n e2⟩
 | .dt kvs,v,h=>by
  unfold Zj at h⊢;obtain⟨a,o,e1,n,e2⟩:=h;exact⟨a,o,e1,n,e _ _ n e2⟩
 | .df kvs,v,h=>by
  unfold Zj at h⊢;obtain⟨a,o,e1,n,e2⟩:=h;exact⟨a,o,e1,n,e _ _ n e2⟩
 | .du kvs,v,h=>by
  unfold Zj at h⊢;obtain⟨a,e1,n,e2⟩:=h;exact⟨a,e1,n,e _ _ n e2⟩
 | .pen,_,h=>h
 | .ty _,_,h=>h
 | .clo t ds,v,h=>by
  unfold Zj at h⊢;obtain⟨vs,c,r⟩:=h;exact⟨vs,c,Zg.ext e r⟩
theorem Zg.ext {G:Gh}{H H':Hp}(e:Zw G H H'):∀{ds:List D} {vs:List V},Zg G H ds vs->Zg G H' ds vs
 | [],_,h=>h
 | d::ds,vs,h=>by
  unfold Zg at h⊢;obtain⟨v,r,e1,r1,r2⟩:=h;exact⟨v,r,e1,Zj.ext e r1,Zg.ext e r2⟩
end
section
variable {G:Gh}{H:Hp}
theorem jb {ds:List D}{v:V}:Zj G H (.tup ds) v↔∃a vs,v=.ref a/\¬G.fp a/\H a=some (.tup vs)/\Zg G H ds vs:=by unfold Zj;exact yo
theorem jc {ds:List D}{v:V}:Zj G H (.lst ds) v↔∃a vs,v=.ref a/\¬G.fp a/\H a=some (.lst vs)/\Zg G H ds vs:=by unfold Zj;exact yo
theorem jk {kvs:List (Zr×V)}{v:V}:Zj G H (.dk kvs) v↔∃a,v=.ref a/\¬G.fp a/\H a=some (.dK kvs):=by unfold Zj;exact yo
theorem jl {kvs:List (List Zr×V)}{v:V}:Zj G H (.dt kvs) v↔∃a o,v=.ref a/\¬G.fp a/\H a=some (.frz o (.dT kvs)):=by unfold Zj;exact yo
theorem jm {kvs:List (List Zr×V)}{v:V}:Zj G H (.du kvs) v↔∃a,v=.ref a/\¬G.fp a/\H a=some (.dT kvs):=by unfold Zj;exact yo
theorem js {kvs:List (Zr×V)}{v:V}:Zj G H (.df kvs) v↔∃a o,v=.ref a/\¬G.fp a/\H a=some (.frz o (.dK kvs)):=by unfold Zj;exact yo
theorem ja {i:Int}{v:V}:Zj G H (.int i) v↔v=.int i:=by unfold Zj;exact yo
theorem je {b:Bool}{v:V}:Zj G H (.bl b) v↔v=.bl b:=by unfold Zj;exact yo
theorem ji {b:Str}{v:V}:Zj G H (.str b) v↔v=.str b:=by unfold Zj;exact yo
theorem jg {v:V}:Zj G H .non v↔v=.non:=by unfold Zj;exact yo
theorem jp {v:V}:Zj G H .pen v↔v=G.pen:=by unfold Zj;exact yo
theorem jt {n:String}{v:V}:Zj G H (.ty n) v↔v=.ty n:=by unfold Zj;exact yo
theorem jw {t:Nat}{ds:List D}{v:V}:Zj G H (.clo t ds) v↔∃vs,G.clo t v vs/\Zg G H ds vs:=by unfold Zj;exact yo
theorem Zg.nil_iff {vs:List V}:Zg G H [] vs↔vs=[]:=by unfold Zg;exact yo
theorem jd {d:D}{ds:List D}{vs:List V}:Zg G H (d::ds) vs↔∃v r,vs=v::r/\Zj G H d v/\Zg G H ds r:=by
 constructor
 ·intro h;unfold Zg at h;exact h
 ·intro h;unfold Zg;exact h
theorem Zg.length:∀{ds:List D} {vs:List V},Zg G H ds vs->ds.length=vs.length
 | [],vs,h=>by rw[Zg.nil_iff.mp h];rfl
 | d::ds,vs,h=>by
  obtain⟨v,r,rfl,_,h2⟩:=jd.mp h;simp[Zg.length h2]
theorem Zg.get:∀{ds:List D} {vs:List V} {i:Nat} {d:D},Zg G H ds vs->ds[i]?=some d->∃v,vs[i]?=some v/\Zj G H d v
 | [],_,_,_,_,e=>by simp at e
 | d::ds,vs,0,d',h,e=>by
  obtain⟨v,r,rfl,h1,_⟩:=jd.mp h;simp at e;subst e;exact⟨v,rfl,h1⟩
 | d::ds,vs,i+1,d',h,e=>by
  obtain⟨v,r,rfl,_,h2⟩:=jd.mp h;obtain⟨u,e1,e2⟩:=Zg.get h2 (i:=i) (d:=d') (by simpa using e);exact⟨u,by simpa using e1,e2⟩
theorem Zg.append:∀{ds es:List D} {vs us:List V},Zg G H ds vs->Zg G H es us->Zg G H (ds++es) (vs++us)
 | [],es,vs,us,h,h'=>by rw[Zg.nil_iff.mp h];exact h'
 | d::ds,es,vs,us,h,h'=>by
  obtain⟨v,r,rfl,h1,h2⟩:=jd.mp h;exact jd.mpr ⟨v,r++us,rfl,h1,Zg.append h2 h'⟩
theorem Zg.one {d:D}{v:V}(h:Zj G H d v):Zg G H [d] [v]:=jd.mpr ⟨v,[],rfl,h,Zg.nil_iff.mpr rfl⟩
theorem Zg.cons {d:D}{v:V}{ds:List D}{vs:List V}(h:Zj G H d v)(h2:Zg G H ds vs):Zg G H (d::ds) (v::vs):=jd.mpr ⟨v,vs,rfl,h,h2⟩
theorem Zg.set:∀{ds:List D} {vs:List V} {d:D} {v:V} (i:Nat),Zg G H ds vs->Zj G H d v->Zg G H (ds.set i d) (vs.set i v)
 | [],vs,d,v,i,h,_=>by rw[Zg.nil_iff.mp h];exact Zg.nil_iff.mpr (by simp)
 | e::ds,vs,d,v,0,h,h'=>by
  obtain⟨u,r,rfl,h1,h2⟩:=jd.mp h;exact Zg.cons h' h2
 | e::ds,vs,d,v,i+1,h,h'=>by
  obtain⟨u,r,rfl,h1,h2⟩:=jd.mp h;exact Zg.cons h1 (Zg.set i h2 h')
theorem Zg.take:∀{ds:List D} {vs:List V} (n:Nat),Zg G H ds vs->Zg G H (ds.take n) (vs.take n)
 | _,_,0,_=>Zg.nil_iff.mpr (by simp)
 | [],vs,n+1,h=>by rw[Zg.nil_iff.mp h];exact Zg.nil_iff.mpr (by simp)
 | d::ds,vs,n+1,h=>by
  obtain⟨u,r,rfl,h1,h2⟩:=jd.mp h;exact Zg.cons h1 (Zg.take n h2)
theorem Zg.drop:∀{ds:List D} {vs:List V} (n:Nat),Zg G H ds vs->Zg G H (ds.drop n) (vs.drop n)
 | _,_,0,h=>h
 | [],vs,n+1,h=>by rw[Zg.nil_iff.mp h];exact Zg.nil_iff.mpr (by simp)
 | d::ds,vs,n+1,h=>by
  obtain⟨u,r,rfl,h1,h2⟩:=jd.mp h;exact Zg.drop n h2
end
noncomputable def Nt (o:Option HO):Prop:=∃u,o=some u/\∀vs,u≠.tup vs
theorem Nt.no {o:Option HO}(h:Nt o)(e:o=none):False:=by
 obtain⟨u,q,_⟩:=h;rw[e] at q;cases q
structure Gr (G:Gh)(Hf H Hf' H':Hp):Prop where
 hh:Zw G H H'
 ff:Zw G Hf Hf'
 fh:Zw G Hf' H'
 nw:∀b,¬G.fp b->Hf b=none->Nt (H b)->Hf' b=none
theorem Gr.refl {G:Gh}{Hf H:Hp}(e:Zw G Hf H):Gr G Hf H Hf H:=⟨.refl _ _,.refl _ _,e,fun _ _ h _=>h⟩
theorem Gr.trans {G:Gh}{Hf H jU H1 jY H2:Hp}(a:Gr G Hf H jU H1)(b:Gr G jU H1 jY H2):Gr G Hf H jY H2:=
 ⟨a.hh.trans b.hh,a.ff.trans b.ff,b.fh,fun c n h1 h2=>b.nw c n (a.nw c n h1 h2) (let ⟨u,e,nt⟩:=h2;⟨u,a.hh c u n e,nt⟩)⟩
theorem Gr.new {G:Gh}{Hf H:Hp}{p:Addr}{o:HO}(e:Zw G Hf H)(hp:H p=none)(nf:¬G.fp p):Gr G Hf H (Zk Hf p o) (Zk H p o) where
 hh:=fun b u n q=>by rw[Zo (ZP q hp)];exact q
 ff:=fun b u n q=>by rw[Zo (ZP (e b u n q) hp)];exact q
 fh:=fun b u n q=>by
  by_cases hb:b=p
  ·subst hb;rw[ZI] at q⊢;exact q
  ·rw[Zo hb] at q⊢;exact e b u n q
 nw:=fun b n h1 h2=>by
  by_cases hb:b=p
  ·subst hb;exact(h2.no hp).elim
  ·rw[Zo hb];exact h1
theorem Gh.nofp {G:Gh}{s:Pn}{H:Hp}{p:Addr}(h:G.st s H)(hp:H p=none):¬G.fp p:=fun f=>by
 obtain⟨o,e⟩:=G.dom s H p h (G.sub p f);rw[hp] at e;cases e
theorem jC {G:Gh}{s:Pn}{H:Hp}{p:Addr}(h:G.st s H)(hp:H p=none):¬G.rd p:=fun f=>by
 obtain⟨o,e⟩:=G.dom s H p h f;rw[hp] at e;cases e
theorem Gh.grow {G:Gh}{s:Pn}{H:Hp}{p:Addr}{o:HO}(h:G.st s H)(hp:H p=none):G.st s (Zk H p o):=G.mono s H _ h (fun b u _ q=>by
 rw[Zo (ZP q hp)];exact q) fun b φ q=>by
 rw[Zo (ZP q hp)];exact q
noncomputable def Ut:D->Prop
 | .lst _=>True
 | .dk _=>True
 | .dt _=>True
 | .du _=>True
 | _=>False
noncomputable def Yo (G:Gh)(H Hf':Hp)(d:D)(v:V):Prop:=∀a,v=.ref a->Ut d->H a=none/\∀ds,d=.lst ds->∃vs Hm,Hf' a=some (.lst vs)/\Hm a=none/\Zw G Hm Hf'/\Zg G Hm ds vs
theorem jo {G:Gh}{H H' Hf':Hp}{d:D}{v:V}(e:Zw G H H')(r:∀a,v=.ref a->Ut d->¬G.fp a)(h:Yo G H' Hf' d v):Yo G H Hf' d v:=fun a ea m=>by
 refine⟨?_,(h a ea m).2⟩
 cases q:H a with
 | none=>rfl
 | some o=>
  have:=e a o (r a ea m) q;rw[(h a ea m).1] at this;cases this
theorem Zj.nofp {G:Gh}{H:Hp}{d:D}{v:V}(r:Zj G H d v):∀a,v=.ref a->Ut d->¬G.fp a:=fun a e m=>by
 cases d with
 | lst ds=>obtain⟨b,vs,e1,n,_⟩:=jc.mp r;rw[e] at e1;cases e1;exact n
 | dk ds=>obtain⟨b,e1,n,_⟩:=jk.mp r;rw[e] at e1;cases e1;exact n
 | dt ds=>obtain⟨b,_,e1,n,_⟩:=jl.mp r;rw[e] at e1;cases e1;exact n
 | du ds=>obtain⟨b,e1,n,_⟩:=jm.mp r;rw[e] at e1;cases e1;exact n
 | _=>exact m.elim
noncomputable def Yw (G:Gh)(H:Hp)(σ:St)(ρ:Zb):Prop:=∀(i:Nat) (d:D),ρ[i]?=some (some d)->∃v,σ[i]?=some (some v)/\Zj G H d v
theorem Yw.ext {G:Gh}{H H':Hp}{σ:St}{ρ:Zb}(h:Yw G H σ ρ)(e:Zw G H H'):Yw G H' σ ρ:=fun i d q=>let ⟨v,a,b⟩:=h i d q;⟨v,a,b.ext e⟩
noncomputable def PD (X:Cx)(G:Gh)(fr:Bool)(e:Expr)(f:Zb->M D):Prop:=
 ∃t,PE X e t/\∀(σ:St) (Hf H:Hp) (ρ:Zb) (s:Pn) (d:D) (s':Pn) (Q:VK),Zw G Hf H->Yw G Hf σ ρ->G.st s H->f ρ s=some (d,s')->
  (∀v Hf' H',Gr G Hf H Hf' H'->G.st s' H'->Zj G Hf' d v->(fr=true->Yo G H Hf' d v)->Q v H')->t σ H Q
noncomputable def Wr (X:Cx)(G:Gh)(e:Expr)(f:Zb->M Bool):Prop:=
 ∃t,PT X e t/\∀(σ:St) (Hf H:Hp) (ρ:Zb) (s:Pn) (b:Bool) (s':Pn) (Q:Bool->Hp->Prop),Zw G Hf H->Yw G Hf σ ρ->G.st s H->f ρ s=some (b,s')->
  (∀Hf' H',Gr G Hf H Hf' H'->G.st s' H'->Q b H')->t σ H Q
noncomputable def Ws (X:Cx)(G:Gh)(es:List Expr)(f:Zb->M (List D)):Prop:=
 ∃t,PA X es t/\∀(σ:St) (Hf H:Hp) (ρ:Zb) (s:Pn) (ds:List D) (s':Pn) (Q:List V->Hp->Prop),Zw G Hf H->Yw G Hf σ ρ->G.st s H->f ρ s=some (ds,s')->
  (∀vs Hf' H',Gr G Hf H Hf' H'->G.st s' H'->Zg G Hf' ds vs->Q vs H')->t σ H Q
section
variable {X:Cx}{G:Gh}
theorem PD.weak {e:Expr}{f:Zb->M D}{fr:Bool}(h:PD X G fr e f):PD X G false e f:=by
 obtain⟨t,p,q⟩:=h;exact⟨t,p,fun σ Hf H ρ s d s' Q e1 e2 e3 e4 k=>q σ Hf H ρ s d s' Q e1 e2 e3 e4 fun v Hf' H' g1 g2 g3 _=>k v Hf' H' g1 g2 g3 (fun z=>by cases z)⟩
noncomputable def Za (i:Nat):Zb->M D:=fun ρ=>YN ((ρ[i]?).bind id)
noncomputable def dC (d:D):Zb->M D:=fun _=>ZD d
theorem Zl1 (i:Nat){x:Str}{pos:Pos}(h:PE X (.Name x pos) (Z7 i)):PD X G false (.Name x pos) (Za i):=by
 refine⟨_,h,fun σ Hf H ρ s d s' Q e1 e2 e3 e4 k=>?_⟩;obtain⟨e,rfl⟩:=X0 e4;have e':ρ[i]?=some (some d):=by
  cases q:ρ[i]? with
  | none=>rw[q] at e;cases e
  | some o=>rw[q] at e;simp at e;rw[e]
 obtain⟨v,h1,h2⟩:=e2 i d e';exact⟨v,h1,k v Hf H (.refl e1) e3 h2 (fun z=>by cases z)⟩
theorem Yo.scal {H Hf':Hp}{d:D}{v:V}(h:Ut d->False):Yo G H Hf' d v:=fun _ _ m=>(h m).elim
theorem ZM {i:Int}{j pos}:PD X G true (.Constant (.int i) j pos) (dC (.int i)):=by
 refine⟨_,YK,fun σ Hf H ρ s d s' Q e1 e2 e3 e4 k=>?_⟩;obtain⟨rfl,rfl⟩:=ZL e4;exact k _ Hf H (.refl e1) e3 (ja.mpr rfl) fun _=>.scal fun z=>z
theorem VS {b:Bool}{j pos}:PD X G true (.Constant (.bool b) j pos) (dC (.bl b)):=by
 refine⟨_,ZmM,fun σ Hf H ρ s d s' Q e1 e2 e3 e4 k=>?_⟩;obtain⟨rfl,rfl⟩:=ZL e4;exact k _ Hf H (.refl e1) e3 (je.mpr rfl) fun _=>.scal fun z=>z
theorem Zii {j pos}:PD X G true (.Constant .none j pos) (dC .non):=by
 refine⟨_,ZlF,fun σ Hf H ρ s d s' Q e1 e2 e3 e4 k=>?_⟩;obtain⟨rfl,rfl⟩:=ZL e4;exact k _ Hf H (.refl e1) e3 (jg.mpr rfl) fun _=>.scal fun z=>z
noncomputable def Ze:Zb->M (List D):=fun _=>ZD []
noncomputable def Zc (f:Zb->M D)(g:Zb->M (List D)):Zb->M (List D):=fun ρ=>Zm (f ρ) fun d=>Zm (g ρ) fun ds=>ZD (d::ds)
theorem Zp:Ws X G [] Ze:=by
 refine⟨_,Xs,fun σ Hf H ρ s d s' Q e1 e2 e3 e4 k=>?_⟩;obtain⟨rfl,rfl⟩:=ZL e4;exact k _ Hf H (.refl e1) e3 (Zg.nil_iff.mpr rfl)
theorem Zf {e:Expr}{es:List Expr}{f:Zb->M D}{g:Zb->M (List D)}{fr:Bool}(h:PD X G fr e f)(hr:Ws X G es g)(hs:starEach (e::es) X.env=(false,eval e X.env)::starEach es X.env:=by rfl):Ws X G (e::es) (Zc f g):=by
 obtain⟨t,p,q⟩:=h;obtain⟨u,p2,q2⟩:=hr;refine⟨_,Y4 p p2 hs,fun σ Hf H ρ s ds s' Q e1 e2 e3 e4 k=>?_⟩;obtain⟨d,s1,a1,a2⟩:=Zv e4;obtain⟨r,s2,a3,a4⟩:=Zv a2;obtain⟨rfl,rfl⟩:=ZL a4;refine q σ Hf H ρ s d s1 _ e1 e2 e3 a1 fun v jU H1 g1 j9 r1 _=>?_;refine q2 σ jU H1 ρ s1 r _ _ g1.fh (e2.ext g1.ff) j9 a3 fun vs jY H2 g2 j7 r2=>?_;exact k _ jY H2 (g1.trans g2) j7 (Zg.cons (r1.ext g2.ff) r2)
noncomputable def ZV (f:Zb->M (List D)):Zb->M D:=fun ρ=>Zm (f ρ) fun ds=>if ds.length<=sizeLine then ZD (.tup ds) else Zz
noncomputable def YH (f:Zb->M (List D)):Zb->M D:=fun ρ=>Zm (f ρ) fun ds=>if ds.length<=sizeLine then ZD (.lst ds) else Zz
theorem YV {α:Type}{c:Prop}[Decidable c]{a:M α}{s s':Pn}{b:α}(h:(if c then a else Zz) s=some (b,s')):c/\a s=some (b,s'):=by
 split at h
 ·rename_i hc;exact⟨hc,h⟩
 ·cases h
theorem Yo.mk {Hf H:Hp}{p:Addr}{vs:List V}{ds:List D}(e:Zw G Hf H)(hp:H p=none)(nf:¬G.fp p)(r:Zg G Hf ds vs):Yo G H (Zk Hf p (.lst vs)) (.lst ds) (.ref p):=fun a ea _=>by
 cases ea
 refine⟨hp,fun ds' ed=>?_⟩
 cases ed
 have hf:Hf p=none:=by
  cases q:Hf p with
  | none=>rfl
  | some o=>rw[e p o nf q] at hp;cases hp
 exact⟨vs,Hf,ZI,hf,fun b o n q=>by rw[Zo (ZP q hf)];exact q,r⟩
theorem Y7 {es:List Expr}{f:Zb->M (List D)}{x1:Nat}{pos:Pos}(h:Ws X G es f):PD X G true (.Tuple es x1 pos) (ZV f):=by
 obtain⟨t,p,q⟩:=h;refine⟨_,ZlP p,fun σ Hf H ρ s d s' Q e1 e2 e3 e4 k=>?_⟩;obtain⟨ds,s1,a1,a2⟩:=Zv e4;obtain⟨hl,a3⟩:=YV a2;obtain⟨rfl,rfl⟩:=ZL a3;refine q σ Hf H ρ s ds s' _ e1 e2 e3 a1 fun vs jU H1 g1 j9 r1=>⟨by rw[<-r1.length];exact hl,fun p hp=>?_⟩;have nf:=Gh.nofp j9 hp;have g2:=Gr.new (o:=.tup vs) g1.fh hp nf;exact k (.ref p) _ _ (g1.trans g2) (Gh.grow j9 hp) (jb.mpr ⟨p,vs,rfl,nf,ZI,r1.ext g2.ff⟩) fun _=>.scal fun z=>z
theorem WX {es:List Expr}{f:Zb->M (List D)}{pos:Pos}(h:Ws X G es f):PD X G true (.List es pos) (YH f):=by
 obtain⟨t,p,q⟩:=h;refine⟨_,ZlQ p,fun σ Hf H ρ s d s' Q e1 e2 e3 e4 k=>?_⟩;obtain⟨ds,s1,a1,a2⟩:=Zv e4;obtain⟨hl,a3⟩:=YV a2;obtain⟨rfl,rfl⟩:=ZL a3;refine q σ Hf H ρ s ds s' _ e1 e2 e3 a1 fun vs jU H1 g1 j9 r1=>⟨by rw[<-r1.length];exact hl,fun p hp=>?_⟩;have nf:=Gh.nofp j9 hp;have g2:=Gr.new (o:=.lst vs) g1.fh hp nf;refine k (.ref p) _ _ (g1.trans g2) (Gh.grow j9 hp) (jc.mpr ⟨p,vs,rfl,nf,ZI,r1.ext g2.ff⟩) fun _=>jo g1.hh (fun a ea _=>by cases ea;exact nf) (Yo.mk g1.fh hp nf r1)
noncomputable def Xp (X:Cx)(G:Gh)(f:Value->Value->Sem Value)(g:D->D->Option D):Prop:=
 ∃r,Yi X f r/\∀(Hf H:Hp) (s:Pn) (x y:V) (d e c:D) (Q:VK),Zw G Hf H->G.st s H->Zj G Hf d x->Zj G Hf e y->g d e=some c->
  (∀v Hf' H',Gr G Hf H Hf' H'->G.st s H'->Zj G Hf' c v->Yo G H Hf' c v->Q v H')->r x y H Q
noncomputable def Zd (g:D->D->Option D)(a b:Zb->M D):Zb->M D:=fun ρ=>Zm (a ρ) fun d=>Zm (b ρ) fun e=>YN (g d e)
theorem op2D {fa fb:Zb->M D}{g:D->D->Option D}{ta tb:TE}{r:R2}
  (qa:∀(σ:St) (Hf H:Hp) (ρ:Zb) (s:Pn) (d:D) (s':Pn) (Q:VK),Zw G Hf H->Yw G Hf σ ρ->G.st s H->fa ρ s=some (d,s')->(∀v Hf' H',Gr G Hf H Hf' H'->G.st s' H'->Zj G Hf' d v->Q v H')->ta σ H Q)
  (qb:∀(σ:St) (Hf H:Hp) (ρ:Zb) (s:Pn) (d:D) (s':Pn) (Q:VK),Zw G Hf H->Yw G Hf σ ρ->G.st s H->fb ρ s=some (d,s')->(∀v Hf' H',Gr G Hf H Hf' H'->G.st s' H'->Zj G Hf' d v->Q v H')->tb σ H Q)
  (qo:∀(Hf H:Hp) (s:Pn) (x y:V) (d e c:D) (Q:VK),Zw G Hf H->G.st s H->Zj G Hf d x->Zj G Hf e y->g d e=some c->(∀v Hf' H',Gr G Hf H Hf' H'->G.st s H'->Zj G Hf' c v->Yo G H Hf' c v->Q v H')->r x y H Q)
  (σ:St) (Hf H:Hp) (ρ:Zb) (s:Pn) (d:D) (s':Pn) (Q:VK) (e1:Zw G Hf H) (e2:Yw G Hf σ ρ) (e3:G.st s H) (e4:Zd g fa fb ρ s=some (d,s'))
  (k:∀v Hf' H',Gr G Hf H Hf' H'->G.st s' H'->Zj G Hf' d v->Yo G H Hf' d v->Q v H'):Yp r ta tb σ H Q:=by
 obtain⟨da,s1,a1,a2⟩:=Zv e4;obtain⟨db,s2,a3,a4⟩:=Zv a2;obtain⟨a5,rfl⟩:=X0 a4;refine qa σ Hf H ρ s da s1 _ e1 e2 e3 a1 fun x jU H1 g1 j9 r1=>?_;refine qb σ jU H1 ρ s1 db _ _ g1.fh (e2.ext g1.ff) j9 a3 fun y jY H2 g2 j7 r2=>?_;refine qo jY H2 _ x y da db d Q g2.fh j7 (r1.ext g2.ff) r2 a5 fun v Hf3 H3 g3 st3 r3 fz=>?_;exact k v Hf3 H3 ((g1.trans g2).trans g3) st3 r3 (jo (g1.hh.trans g2.hh) r3.nofp fz)
theorem PD.drop {e:Expr}{f:Zb->M D}{fr:Bool}(h:PD X G fr e f):∃t,PE X e t/\∀(σ:St) (Hf H:Hp) (ρ:Zb) (s:Pn) (d:D) (s':Pn) (Q:VK),Zw G Hf H->Yw G Hf σ ρ->G.st s H->f ρ s=some (d,s')->
  (∀v Hf' H',Gr G Hf H Hf' H'->G.st s' H'->Zj G Hf' d v->Q v H')->t σ H Q:=by
 obtain⟨t,p,q⟩:=h;exact⟨t,p,fun σ Hf H ρ s d s' Q a b c d' k=>q σ Hf H ρ s d s' Q a b c d' fun v Hf' H' g1 g2 g3 _=>k v Hf' H' g1 g2 g3⟩
theorem Xt {a b:Expr}{op:Operator}{pos:Pos}{fa fb:Zb->M D}{g:D->D->Option D}{r1 r2:Bool}(ho:Xp X G (binaryOp op) g)(ha:PD X G r1 a fa)(hb:PD X G r2 b fb):PD X G true (.BinOp a op b pos) (Zd g fa fb):=by
 obtain⟨r,po,qo⟩:=ho;obtain⟨ta,pa,qa⟩:=ha.drop;obtain⟨tb,pb,qb⟩:=hb.drop;exact⟨_,YR po pa pb,fun σ Hf H ρ s d s' Q e1 e2 e3 e4 k=>op2D qa qb qo σ Hf H ρ s d s' Q e1 e2 e3 e4 fun v Hf' H' g1 g2 g3 fz=>k v Hf' H' g1 g2 g3 fun _=>fz⟩
theorem Uq {a b:Expr}{op:CmpOp}{pos:Pos}{fa fb:Zb->M D}{g:D->D->Option D}{r1 r2:Bool}(ho:Xp X G (compareOp op) g)(ha:PD X G r1 a fa)(hb:PD X G r2 b fb)
  (hm:behindInMarks op b=false:=by first | exact US _ | with_unfolding_all rfl):PD X G true (.Compare a [op] [b] pos) (Zd g fa fb):=by
 obtain⟨r,po,qo⟩:=ho;obtain⟨ta,pa,qa⟩:=ha.drop;obtain⟨tb,pb,qb⟩:=hb.drop;exact⟨_,ZjV po pa pb hm,fun σ Hf H ρ s d s' Q e1 e2 e3 e4 k=>op2D qa qb qo σ Hf H ρ s d s' Q e1 e2 e3 e4 fun v Hf' H' g1 g2 g3 fz=>k v Hf' H' g1 g2 g3 fun _=>fz⟩
noncomputable def asB (f:Zb->M D):Zb->M Bool:=fun ρ=>Zm (f ρ) fun d=>match d with | .bl b=>ZD b | _=>Zz
theorem Zeh {f:Zb->M D}{ρ:Zb}{s s':Pn}{b:Bool}(h:asB f ρ s=some (b,s')):f ρ s=some (.bl b,s'):=by
 obtain⟨d,s1,a1,a2⟩:=Zv h
 cases d with
 | bl c=>obtain⟨rfl,rfl⟩:=ZL a2;exact a1
 | _=>cases a2
theorem Xg {a b:Expr}{op:CmpOp}{pos:Pos}{fa fb:Zb->M D}{g:D->D->Option D}{r1 r2:Bool}(ho:Xp X G (compareOp op) g)(ha:PD X G r1 a fa)(hb:PD X G r2 b fb)
  (hm:behindInMarks op b=false:=by first | exact US _ | with_unfolding_all rfl):Wr X G (.Compare a [op] [b] pos) (asB (Zd g fa fb)):=by
 obtain⟨r,po,qo⟩:=ho;obtain⟨ta,pa,qa⟩:=ha.drop;obtain⟨tb,pb,qb⟩:=hb.drop;refine⟨_,JK po pa pb hm,fun σ Hf H ρ s c s' Q e1 e2 e3 e4 k=>?_⟩;exact op2D qa qb qo σ Hf H ρ s (.bl c) s' _ e1 e2 e3 (Zeh e4) fun v Hf' H' g1 g2 g3 fz=>⟨c,je.mp g3,k Hf' H' g1 g2⟩
theorem ZdJ {e:Expr}{f:Zb->M D}{fr:Bool}(h:PD X G fr e f)(he:∀whole,isTrue e X.env whole=(do let v<-whole;standAt e.pos;holding [v] (truthy v)):=by intro _;rfl):Wr X G e (asB f):=by
 obtain⟨t,p,q⟩:=h;refine⟨_,ZlG p he,fun σ Hf H ρ s c s' Q e1 e2 e3 e4 k=>?_⟩;exact q σ Hf H ρ s (.bl c) s' _ e1 e2 e3 (Zeh e4) fun v Hf' H' g1 g2 g3 fz=>⟨c,je.mp g3,k Hf' H' g1 g2⟩
noncomputable def WJ (f g:Zb->M Bool):Zb->M Bool:=fun ρ=>Zm (f ρ) fun b=>if b=true then g ρ else ZD false
noncomputable def VH (f g:Zb->M Bool):Zb->M Bool:=fun ρ=>Zm (f ρ) fun b=>if b=true then ZD true else g ρ
noncomputable def WM (X:Cx)(G:Gh)(e:Expr)(f:Zb->M Bool):Prop:=
 ∃t,PW X e t/\∀(σ:St) (Hf H:Hp) (ρ:Zb) (s:Pn) (b:Bool) (s':Pn) (Q:Bool->Hp->Prop),Zw G Hf H->Yw G Hf σ ρ->G.st s H->f ρ s=some (b,s')->
  (∀Hf' H',Gr G Hf H Hf' H'->G.st s' H'->Q b H')->t σ H Q
theorem WM.pt {e:Expr}{f:Zb->M Bool}(h:WM X G e f):Wr X G e f:=by
 obtain⟨t,p,q⟩:=h;exact⟨t,p.pt,q⟩
theorem Zei {a:Expr}{pos:Pos}{f:Zb->M Bool}(h:Wr X G a f):WM X G (.BoolOp .And [a] pos) f:=by
 obtain⟨t,p,q⟩:=h;exact⟨t,Zf4 p,q⟩
theorem Zgc {a:Expr}{pos:Pos}{f:Zb->M Bool}(h:Wr X G a f):WM X G (.BoolOp .Or [a] pos) f:=by
 obtain⟨t,p,q⟩:=h;exact⟨t,ZlH p,q⟩
theorem Zgd {a b:Expr}{rest:List Expr}{pos:Pos}{f g:Zb->M Bool}(h:Wr X G a f)(h2:WM X G (.BoolOp .And (b::rest) pos) g):WM X G (.BoolOp .And (a::b::rest) pos) (WJ f g):=by
 obtain⟨t,p,q⟩:=h;obtain⟨u,p2,q2⟩:=h2;refine⟨_,ZhU p p2,fun σ Hf H ρ s c s' Q e1 e2 e3 e4 k=>?_⟩;obtain⟨b,s1,a1,a2⟩:=Zv e4;refine q σ Hf H ρ s b s1 _ e1 e2 e3 a1 fun jU H1 g1 j9=>?_
 cases b with
 | true=>exact q2 σ jU H1 ρ s1 c s' _ g1.fh (e2.ext g1.ff) j9 a2 fun jY H2 g2 j7=>k jY H2 (g1.trans g2) j7
 | false=>obtain⟨rfl,rfl⟩:=ZL a2;exact k jU H1 g1 j9
theorem Zij {a b:Expr}{rest:List Expr}{pos:Pos}{f g:Zb->M Bool}(h:Wr X G a f)(h2:WM X G (.BoolOp .Or (b::rest) pos) g):WM X G (.BoolOp .Or (a::b::rest) pos) (VH f g):=by
 obtain⟨t,p,q⟩:=h;obtain⟨u,p2,q2⟩:=h2;refine⟨_,ZmN p p2,fun σ Hf H ρ s c s' Q e1 e2 e3 e4 k=>?_⟩;obtain⟨b,s1,a1,a2⟩:=Zv e4;refine q σ Hf H ρ s b s1 _ e1 e2 e3 a1 fun jU H1 g1 j9=>?_
 cases b with
 | true=>obtain⟨rfl,rfl⟩:=ZL a2;exact k jU H1 g1 j9
 | false=>exact q2 σ jU H1 ρ s1 c s' _ g1.fh (e2.ext g1.ff) j9 a2 fun jY H2 g2 j7=>k jY H2 (g1.trans g2) j7
noncomputable def Vo (f g:Zb->M D):Zb->M D:=fun ρ=>Zm (f ρ) fun d=>match d with | .bl true=>g ρ | .bl false=>ZD (.bl false) | _=>Zz
noncomputable def Jh (f g:Zb->M D):Zb->M D:=fun ρ=>Zm (f ρ) fun d=>match d with | .bl true=>ZD (.bl true) | .bl false=>g ρ | _=>Zz
noncomputable def J6 (f:Zb->M D):Zb->M D:=fun ρ=>Zm (f ρ) fun d=>match d with | .bl b=>ZD (.bl (!b)) | _=>Zz
theorem Zik {op}{a:Expr}{pos:Pos}{fr:Bool}{f:Zb->M D}(h:PD X G fr a f):PD X G false (.BoolOp op [a] pos) f:=by
 obtain⟨t,p,q⟩:=h.weak;exact⟨t,ZlI p,q⟩
theorem Zl2 {a b:Expr}{rest:List Expr}{pos:Pos}{r1 r2:Bool}{f g:Zb->M D}(h:PD X G r1 a f)(h2:PD X G r2 (.BoolOp .And (b::rest) pos) g):PD X G false (.BoolOp .And (a::b::rest) pos) (Vo f g):=by
 obtain⟨t,p,q⟩:=h.drop;obtain⟨u,p2,q2⟩:=h2.drop;refine⟨_,ZlJ p p2,fun σ Hf H ρ s c s' Q e1 e2 e3 e4 k=>?_⟩;obtain⟨d,s1,a1,a2⟩:=Zv e4;refine q σ Hf H ρ s d s1 _ e1 e2 e3 a1 fun v jU H1 g1 j9 r1=>?_
 cases d with
 | bl b=>
  cases b with
  | true=>exact⟨true,je.mp r1,VE (q2 σ jU H1 ρ s1 c s' _ g1.fh (e2.ext g1.ff) j9 a2 fun v jY H2 g2 j7 r2=>k v jY H2 (g1.trans g2) j7 r2 (fun z=>by cases z))⟩
  | false=>obtain⟨rfl,rfl⟩:=ZL a2;exact⟨false,je.mp r1,Vn (k _ jU H1 g1 j9 (je.mpr rfl) (fun z=>by cases z))⟩
 | _=>cases a2
theorem ZmY {a b:Expr}{rest:List Expr}{pos:Pos}{r1 r2:Bool}{f g:Zb->M D}(h:PD X G r1 a f)(h2:PD X G r2 (.BoolOp .Or (b::rest) pos) g):PD X G false (.BoolOp .Or (a::b::rest) pos) (Jh f g):=by
 obtain⟨t,p,q⟩:=h.drop;obtain⟨u,p2,q2⟩:=h2.drop;refine⟨_,ZmQ p p2,fun σ Hf H ρ s c s' Q e1 e2 e3 e4 k=>?_⟩;obtain⟨d,s1,a1,a2⟩:=Zv e4;refine q σ Hf H ρ s d s1 _ e1 e2 e3 a1 fun v jU H1 g1 j9 r1=>?_
 cases d with
 | bl b=>
  cases b with
  | false=>exact⟨false,je.mp r1,Vn (q2 σ jU H1 ρ s1 c s' _ g1.fh (e2.ext g1.ff) j9 a2 fun v jY H2 g2 j7 r2=>k v jY H2 (g1.trans g2) j7 r2 (fun z=>by cases z))⟩
  | true=>obtain⟨rfl,rfl⟩:=ZL a2;exact⟨true,je.mp r1,VE (k _ jU H1 g1 j9 (je.mpr rfl) (fun z=>by cases z))⟩
 | _=>cases a2
theorem Zl3 {a:Expr}{pos:Pos}{r1:Bool}{f:Zb->M D}(h:PD X G r1 a f):PD X G true (.UnaryOp .Not a pos) (J6 f):=by
 obtain⟨t,p,q⟩:=h.drop;refine⟨_,ZlK p,fun σ Hf H ρ s c s' Q e1 e2 e3 e4 k=>?_⟩;obtain⟨d,s1,a1,a2⟩:=Zv e4;refine q σ Hf H ρ s d s1 _ e1 e2 e3 a1 fun v jU H1 g1 j9 r1=>?_
 cases d with
 | bl b=>obtain⟨rfl,rfl⟩:=ZL a2;exact⟨b,je.mp r1,k _ jU H1 g1 j9 (je.mpr rfl) fun _=>.scal fun z=>z⟩
 | _=>cases a2
noncomputable def Bf (c:Zb->M Bool)(f g:Zb->M D):Zb->M D:=fun ρ=>Zm (c ρ) fun b=>if b=true then f ρ else g ρ
theorem ZmZ {c a b:Expr}{pos:Pos}{r1 r2:Bool}{fc:Zb->M Bool}{f g:Zb->M D}(hc:Wr X G c fc)(ha:PD X G r1 a f)(hb:PD X G r2 b g):PD X G false (.IfExp c a b pos) (Bf fc f g):=by
 obtain⟨tc,pc,qc⟩:=hc;obtain⟨ta,pa,qa⟩:=ha.drop;obtain⟨tb,pb,qb⟩:=hb.drop;refine⟨_,ZhV pc pa pb,fun σ Hf H ρ s d s' Q e1 e2 e3 e4 k=>?_⟩;obtain⟨b,s1,a1,a2⟩:=Zv e4;refine qc σ Hf H ρ s b s1 _ e1 e2 e3 a1 fun jU H1 g1 j9=>?_
 cases b with
 | true=>exact VE (qa σ jU H1 ρ s1 d s' _ g1.fh (e2.ext g1.ff) j9 a2 fun v jY H2 g2 j7 r2=>k v jY H2 (g1.trans g2) j7 r2 (fun z=>by cases z))
 | false=>exact Vn (qb σ jU H1 ρ s1 d s' _ g1.fh (e2.ext g1.ff) j9 a2 fun v jY H2 g2 j7 r2=>k v jY H2 (g1.trans g2) j7 r2 (fun z=>by cases z))
noncomputable def XS (X:Cx)(G:Gh)(f:Value)(g:List D->Option D):Prop:=
 ∃r,Xy X f r/\∀(Hf H:Hp) (s:Pn) (xs:List V) (ds:List D) (c:D) (Q:VK),Zw G Hf H->G.st s H->Zg G Hf ds xs->g ds=some c->
  (∀v Hf' H',Gr G Hf H Hf' H'->G.st s H'->Zj G Hf' c v->Yo G H Hf' c v->Q v H')->r xs H Q
noncomputable def ZN (g:List D->Option D)(fs:Zb->M (List D)):Zb->M D:=fun ρ=>Zm (fs ρ) fun ds=>YN (g ds)
theorem Vx {id:String}{x:Str}{p pos:Pos}{e:Expr}{es:List Expr}{g:List D->Option D}{fs:Zb->M (List D)}(hc:XS X G (.builtin id) g)(hg:Gl X x)(hm:X.mg x=none)(hv:bootBuiltins x=some (.builtin id))(ha:Ws X G (e::es) fs)
  (hn:x≠"__name__":=by decide) (hdb:(x==("__debug__" : Str))=false:=by decide)
  (he:starEach (e::es) X.env=(false,eval e X.env)::starEach es X.env:=by rfl) (hpl:(backTo pos (starEach es X.env)).any (·.1)=false:=by rfl):PD X G true (.Call (.Name x p) (e::es) [] pos) (ZN g fs):=by
 obtain⟨r,pr,qr⟩:=hc;obtain⟨t,pa,qa⟩:=ha;refine⟨_,ZbT pr hg hm hv pa hn hdb he hpl,fun σ Hf H ρ s d s' Q e1 e2 e3 e4 k=>?_⟩;obtain⟨ds,s1,a1,a2⟩:=Zv e4;obtain⟨a3,rfl⟩:=X0 a2;refine qa σ Hf H ρ s ds _ _ e1 e2 e3 a1 fun vs jU H1 g1 j9 r1=>?_;exact qr jU H1 _ vs ds d Q g1.fh j9 r1 a3 fun v jY H2 g2 j7 r2 fz=>k v jY H2 (g1.trans g2) j7 r2 fun _=>jo g1.hh r2.nofp fz
theorem Ue {T:String}{x:Str}{p pos:Pos}{e:Expr}{es:List Expr}{g:List D->Option D}{fs:Zb->M (List D)}(hc:XS X G (.type T) g)(hg:Gl X x)(hm:X.mg x=none)(hv:bootBuiltins x=some (.type T))(ha:Ws X G (e::es) fs)
  (hn:x≠"__name__":=by decide) (hdb:(x==("__debug__" : Str))=false:=by decide)
  (he:starEach (e::es) X.env=(false,eval e X.env)::starEach es X.env:=by rfl) (hpl:(backTo pos (starEach es X.env)).any (·.1)=false:=by rfl):PD X G true (.Call (.Name x p) (e::es) [] pos) (ZN g fs):=by
 obtain⟨r,pr,qr⟩:=hc;obtain⟨t,pa,qa⟩:=ha;refine⟨_,Zc5 pr hg hm hv pa hn hdb he hpl,fun σ Hf H ρ s d s' Q e1 e2 e3 e4 k=>?_⟩;obtain⟨ds,s1,a1,a2⟩:=Zv e4;obtain⟨a3,rfl⟩:=X0 a2;refine qa σ Hf H ρ s ds _ _ e1 e2 e3 a1 fun vs jU H1 g1 j9 r1=>?_;exact qr jU H1 _ vs ds d Q g1.fh j9 r1 a3 fun v jY H2 g2 j7 r2 fz=>k v jY H2 (g1.trans g2) j7 r2 fun _=>jo g1.hh r2.nofp fz
noncomputable def IxD (X:Cx)(G:Gh)(g:D->D->Option D):Prop:=
 ∃r,V3 X r/\∀(Hf H:Hp) (s:Pn) (x y:V) (d e c:D) (Q:VK),Zw G Hf H->G.st s H->Zj G Hf d x->Zj G Hf e y->g d e=some c->
  (∀v,Zj G Hf c v->Q v H)->r x y H Q
theorem ZY {a b:Expr}{pos:Pos}{fa fb:Zb->M D}{g:D->D->Option D}{r1 r2:Bool}(ho:IxD X G g)(ha:PD X G r1 a fa)(hb:PD X G r2 b fb)(hs:Zga b:=by intro _ _;rfl):PD X G false (.Subscript a b pos) (Zd g fa fb):=by
 obtain⟨r,po,qo⟩:=ho;obtain⟨ta,pa,qa⟩:=ha.drop;obtain⟨tb,pb,qb⟩:=hb.drop;refine⟨_,B1 po pa pb hs,fun σ Hf H ρ s d s' Q e1 e2 e3 e4 k=>?_⟩;obtain⟨da,s1,a1,a2⟩:=Zv e4;obtain⟨db,s2,a3,a4⟩:=Zv a2;obtain⟨a5,rfl⟩:=X0 a4;refine qa σ Hf H ρ s da s1 _ e1 e2 e3 a1 fun x jU H1 g1 j9 r1=>?_;refine qb σ jU H1 ρ s1 db _ _ g1.fh (e2.ext g1.ff) j9 a3 fun y jY H2 g2 j7 r2=>?_;exact qo jY H2 _ x y da db d Q g2.fh j7 (r1.ext g2.ff) r2 a5 fun v r3=>k v jY H2 (g1.trans g2) j7 r3 (fun z=>by cases z)
noncomputable def Yn (n:Nat)(fr:Bool)(GG:Gh->Prop)(F:List D->M D):Sp:=fun vs H Q _=>∃(G:Gh) (Hf:Hp) (ds:List D) (s:Pn) (d:D) (s':Pn),GG G/\vs.length=n/\Zw G Hf H/\Zg G Hf ds vs/\G.st s H/\F ds s=some (d,s')/\
 ∀v Hf' H',Gr G Hf H Hf' H'->G.st s' H'->Zj G Hf' d v->(fr=true->Yo G H Hf' d v)->Q v H'
noncomputable def Zq (F:List D->M D)(fs:Zb->M (List D)):Zb->M D:=fun ρ=>Zm (fs ρ) F
theorem Zj8 {CX:XG}{k:Nat}{f:Addr}{fd:FuncData}{ps:List Str}{n:Nat}{fr:Bool}{GG:Gh->Prop}{F:List D->M D}{E:XK}{x:Str}{p pos:Pos}{e:Expr}{es:List Expr}{fs:Zb->M (List D)}
  (FN:FnOk X.prog X.w X.K X.mg X.base CX k f fd ps (Yn n fr GG F)) (hG:GG G) (hr:Room k X.A) (hg:Gl X x) (hm:X.mg x=some (.ref f)) (hk:zR X.K (.ref f)=true) (hb:Xz X.K fd ps []) (hx:BU CX X E)
  (ha:Ws X G (e::es) fs) (jV:(e::es).length=n:=by rfl) (hal:∀ρ s ds s',fs ρ s=some (ds,s')->ds.length=(e::es).length)
  (hdb:(x==("__debug__" : Str))=false:=by decide) (he:starEach (e::es) X.env=(false,eval e X.env)::starEach es X.env:=by rfl) (hpl:(backTo pos (starEach es X.env)).any (·.1)=false:=by rfl) :
  PD X G fr (.Call (.Name x p) (e::es) [] pos) (Zq F fs):=by
 obtain⟨t,pa,qa⟩:=ha;refine⟨_,Zf6 FN hr hg hm hk hb .nil hx pa hdb he hpl,fun σ Hf H ρ s d s' Q e1 e2 e3 e4 k=>?_⟩;obtain⟨ds,s1,a1,a2⟩:=Zv e4;refine qa σ Hf H ρ s ds _ _ e1 e2 e3 a1 fun vs jU H1 g1 j9 r1=>?_;refine⟨G,jU,ds,s1,d,s',hG,by rw[zm,<-r1.length,hal _ _ _ _ a1];exact jV,g1.fh,by rw[zm];exact r1,j9,a2,fun v jY H2 g2 j7 r2 fz=>?_⟩;exact k v jY H2 (g1.trans g2) j7 r2 fun z=>jo g1.hh r2.nofp (fz z)
theorem YU {f:Zb->M D}{g:Zb->M (List D)}{n:Nat}(h:∀ρ s ds s',g ρ s=some (ds,s')->ds.length=n):∀ρ s ds s',Zc f g ρ s=some (ds,s')->ds.length=n+1:=fun ρ s ds s' q=>by
 obtain⟨d,s1,a1,a2⟩:=Zv q;obtain⟨r,s2,a3,a4⟩:=Zv a2;obtain⟨rfl,rfl⟩:=ZL a4;simp[h _ _ _ _ a3]
theorem Ui:∀ρ s ds s',Ze ρ s=some (ds,s')->ds.length=0:=fun ρ s ds s' q=>by
 obtain⟨rfl,rfl⟩:=ZL q;rfl
end
mutual
noncomputable def Xb:D->Bool
 | .tup ds=>UU ds
 | .lst _=>false
 | .dk _=>false
 | .dt _=>false
 | .du _=>false
 | .df _=>false
 | .clo _ _=>false
 | _=>true
noncomputable def UU:List D->Bool
 | []=>true
 | d::ds=>Xb d&&UU ds
end
mutual
theorem Zj.only {G:Gh}{H H':Hp}(e:∀b vs,¬G.fp b->H b=some (.tup vs)->H' b=some (.tup vs)):∀{d:D} {v:V},Xb d=true->Zj G H d v->Zj G H' d v
 | .non,_,_,h=>h
 | .bl _,_,_,h=>h
 | .int _,_,_,h=>h
 | .str _,_,_,h=>h
 | .tup ds,v,n,h=>by
  obtain⟨a,vs,e1,nf,e2,r⟩:=jb.mp h;exact jb.mpr ⟨a,vs,e1,nf,e _ _ nf e2,Zg.only e (by simpa[Xb] using n) r⟩
 | .lst ds,v,n,h=>by simp[Xb] at n
 | .dk kvs,v,n,h=>by simp[Xb] at n
 | .dt kvs,v,n,h=>by simp[Xb] at n
 | .du kvs,v,n,h=>by simp[Xb] at n
 | .df kvs,v,n,h=>by simp[Xb] at n
 | .pen,_,_,h=>h
 | .ty _,_,_,h=>h
 | .clo _ _,v,n,h=>by simp[Xb] at n
theorem Zg.only {G:Gh}{H H':Hp}(e:∀b vs,¬G.fp b->H b=some (.tup vs)->H' b=some (.tup vs)):∀{ds:List D} {vs:List V},UU ds=true->Zg G H ds vs->Zg G H' ds vs
 | [],_,_,h=>h
 | d::ds,vs,n,h=>by
  obtain⟨v,r,e1,r1,r2⟩:=jd.mp h;have n':Xb d=true/\UU ds=true:=by simpa[UU] using n
  exact jd.mpr ⟨v,r,e1,Zj.only e n'.1 r1,Zg.only e n'.2 r2⟩
end
noncomputable def Vz (G:Gh)(Hf H:Hp)(a:Addr):D->Prop
 | .lst ds=>∃vs,H a=some (.lst vs)/\Zg G Hf ds vs
 | .dk kvs=>H a=some (.dK kvs)
 | .dt kvs=>∃o,H a=some (.frz o (.dT kvs))
 | .du kvs=>H a=some (.dT kvs)
 | _=>False
theorem Vz.there {G:Gh}{Hf H:Hp}{a:Addr}{d:D}(h:Vz G Hf H a d):∃o,H a=some o/\∀vs,o≠.tup vs:=by
 cases d with
 | lst ds=>obtain⟨vs,e,_⟩:=h;exact⟨_,e,fun _ z=>by cases z⟩
 | dk kvs=>exact⟨_,h,fun _ z=>by cases z⟩
 | dt kvs=>obtain⟨o,h⟩:=h;exact⟨_,h,fun _ z=>by cases z⟩
 | du kvs=>exact⟨_,h,fun _ z=>by cases z⟩
 | _=>exact h.elim
theorem Vz.keep {G:Gh}{Hf H Hf' H':Hp}{a:Addr}{d:D}(h:Vz G Hf H a d)(e:Zw G Hf Hf')(ha:∀o,H a=some o->H' a=some o):Vz G Hf' H' a d:=by
 cases d with
 | lst ds=>obtain⟨vs,q,r⟩:=h;exact⟨vs,ha _ q,r.ext e⟩
 | dk kvs=>exact ha _ h
 | dt kvs=>obtain⟨o,h⟩:=h;exact⟨o,ha _ h⟩
 | du kvs=>exact ha _ h
 | _=>exact h.elim
theorem Vz.rep {G:Gh}{Hf H Hf':Hp}{a:Addr}{d:D}(h:Vz G Hf H a d)(nf:¬G.fp a)(e:Zw G Hf Hf')(ha:∀o,H a=some o->Hf' a=some o):Zj G Hf' d (.ref a):=by
 cases d with
 | lst ds=>obtain⟨vs,q,r⟩:=h;exact jc.mpr ⟨a,vs,rfl,nf,ha _ q,r.ext e⟩
 | dk kvs=>exact jk.mpr ⟨a,rfl,nf,ha _ h⟩
 | dt kvs=>obtain⟨o,h⟩:=h;exact jl.mpr ⟨a,o,rfl,nf,ha _ h⟩
 | du kvs=>exact jm.mpr ⟨a,rfl,nf,ha _ h⟩
 | _=>exact h.elim
structure Jf (G:Gh)(own:List Nat)(kn jT H0:Hp)(σ:St)(Hf H:Hp)(ρ:Zb):Prop where
 len:σ.length=ρ.length
 kn:Zw G kn Hf
 gr:Gr G jT H0 Hf H
 fz:∀(i:Nat) (d:D),i∉own->ρ[i]?=some (some d)->∃v,σ[i]?=some (some v)/\Zj G Hf d v
 ow:∀(i:Nat) (d:D),i∈own->ρ[i]?=some (some d)->∃a,σ[i]?=some (some (.ref a))/\¬G.rd a/\Hf a=none/\H0 a=none/\Vz G Hf H a d
 ne:∀(i j:Nat) (a:Addr) (di dj:D),i∈own->j∈own->i≠j->ρ[i]?=some (some di)->ρ[j]?=some (some dj)->σ[i]?=some (some (.ref a))->σ[j]?=some (some (.ref a))->False
noncomputable def J (G:Gh)(own:List Nat)(kn jT H0:Hp)(σ:St)(H:Hp)(ρ:Zb):Prop:=∃Hf,Jf G own kn jT H0 σ Hf H ρ
noncomputable def Z8 (own:List Nat)(ρ:Zb):Zb:=ρ.mapIdx fun i o=>if i∈own then none else o
theorem Zb0 (ρ:Zb):Z8 [] ρ=ρ:=by
 unfold Z8;apply List.ext_getElem?;intro i;simp
theorem Zil {own:List Nat}{ρ:Zb}{i:Nat}{d:D}(h:(Z8 own ρ)[i]?=some (some d)):i∉own/\ρ[i]?=some (some d):=by
 unfold Z8 at h;rw[List.getElem?_mapIdx] at h
 cases e:ρ[i]? with
 | none=>rw[e] at h;cases h
 | some o=>
  rw[e] at h;simp only[zL,qaQ] at h;split at h
  ·cases h
  ·rename_i hn;exact⟨hn,by rw[h]⟩
section
variable {X:Cx}{G:Gh}{own:List Nat}{kn jT H0 Hf H:Hp}{σ:St}{ρ:Zb}
theorem Jf.envA (j:Jf G own kn jT H0 σ Hf H ρ):Yw G Hf σ (Z8 own ρ):=fun i d e=>by
 obtain⟨n,q⟩:=Zil e;exact j.fz i d n q
theorem ju {G:Gh}{a:Addr}(h:¬G.rd a):¬G.fp a:=fun z=>h (G.sub a z)
theorem Jf.grow {Hf' H':Hp}(j:Jf G own kn jT H0 σ Hf H ρ)(g:Gr G Hf H Hf' H'):Jf G own kn jT H0 σ Hf' H' ρ where
 len:=j.len
 kn:=j.kn.trans g.ff
 gr:=j.gr.trans g
 fz:=fun i d n e=>let ⟨v,a,b⟩:=j.fz i d n e;⟨v,a,b.ext g.ff⟩
 ow:=fun i d m e=>by
  obtain⟨a,h1,h2,h3,h4,h5⟩:=j.ow i d m e;have nf:=ju h2;refine⟨a,h1,h2,?_,h4,h5.keep g.ff fun o q=>g.hh a o nf q⟩;exact g.nw a nf h3 h5.there
 ne:=j.ne
noncomputable def wide (jT H0 H:Hp):Hp:=fun b=>open Classical in if jT b=none/\Nt (H0 b) then none else H b
theorem Uj {jT H0 H:Hp}:Zw G (wide jT H0 H) H:=fun b o _ e=>by
 unfold wide at e;split at e
 ·cases e
 ·exact e
theorem Jf.wideF (j:Jf G own kn jT H0 σ Hf H ρ):Zw G Hf (wide jT H0 H):=fun b o n e=>by
 unfold wide;split
 ·rename_i h
  rw[j.gr.nw b n h.1 h.2] at e;cases e
 ·exact j.gr.fh b o n e
theorem Jf.envB (j:Jf G own kn jT H0 σ Hf H ρ):Yw G (wide jT H0 H) σ ρ:=fun i d e=>by
 by_cases m:i∈own
 ·obtain⟨a,h1,h2,h3,h4,h5⟩:=j.ow i d m e
  refine⟨_,h1,h5.rep (ju h2) j.wideF fun o q=>?_⟩;unfold wide;rw[if_neg (fun z=>z.2.no h4)];exact q
 ·obtain⟨v,h1,h2⟩:=j.fz i d m e
  exact⟨v,h1,h2.ext j.wideF⟩
theorem Jf.grW {Hf' H':Hp}(j:Jf G own kn jT H0 σ Hf H ρ)(g:Gr G (wide jT H0 H) H Hf' H'):Gr G jT H0 Hf' H' where
 hh:=j.gr.hh.trans g.hh
 ff:=fun b o n e=>g.ff b o n (j.wideF b o n (j.gr.ff b o n e))
 fh:=g.fh
 nw:=fun b n h1 h2=>g.nw b n (by unfold wide;rw[if_pos ⟨h1,h2⟩]) (let ⟨u,e,nt⟩:=h2;⟨u,j.gr.hh b u n e,nt⟩)
noncomputable def Ji:D->Bool
 | .lst ds=>UU ds
 | .dk _=>true
 | .dt _=>true
 | .du _=>true
 | _=>false
theorem Zj9 {d:D}(h:Ji d=true):Ut d:=by
 cases d <;> first | trivial | (simp[Ji] at h)
theorem Jf.growB {Hf' H':Hp}(j:Jf G own kn jT H0 σ Hf H ρ)(g:Gr G (wide jT H0 H) H Hf' H') :
  ∃Hf'',Jf G own kn jT H0 σ Hf'' H' ρ/\Zw G Hf Hf''/\(∀d v,Xb d=true->Zj G Hf' d v->Zj G Hf'' d v)/\∀d v,Ji d=true->Yo G H Hf' d v->Zj G Hf' d v->Zj G Hf'' d v/\Yo G H Hf'' d v:=by
 classical
 -- the owned addresses are left out again
 let OA:Addr->Prop:=fun b=>∃i d,i∈own/\ρ[i]?=some (some d)/\σ[i]?=some (some (.ref b))
 have oaH:∀b,OA b->Hf b=none/\¬G.rd b/\∃o,H b=some o/\∀vs,o≠.tup vs:=fun b ⟨i,d,m,e,q⟩=>by
  obtain⟨a,h1,h2,h3,h4,h5⟩:=j.ow i d m e;rw[q] at h1;cases h1;exact⟨h3,h2,h5.there⟩
 have W:=j.grW g;refine⟨fun b=>if OA b then none else Hf' b,?_⟩;have fF:Zw G Hf (fun b=>if OA b then none else Hf' b):=fun b o n e=>by
  have:¬OA b:=fun z=>by rw[(oaH b z).1] at e;cases e
  show(if OA b then none else Hf' b)=_;rw[if_neg this];exact g.ff b o n (j.wideF b o n e)
 have Fh:Zw G (fun b=>if OA b then none else Hf' b) H':=fun b o n e=>by
  have e':(if OA b then none else Hf' b)=some o:=e;split at e'
  ·cases e'
  ·exact g.fh b o n e'
 have tupK:∀b vs,¬G.fp b->Hf' b=some (.tup vs)->(if OA b then none else Hf' b)=some (.tup vs):=fun b vs nf e=>by
  have:¬OA b:=fun z=>by
   obtain⟨_,_,o,q,nt⟩:=oaH b z;have q1:=g.hh b o nf q;have q2:=g.fh b _ nf e;rw[q1] at q2;exact nt vs (qY q2)
  rw[if_neg this];exact e
 have frK:∀a,H a=none->¬OA a:=fun a e z=>by
  obtain⟨_,_,o,q,nt⟩:=oaH a z;rw[e] at q;cases q
 refine⟨⟨j.len,j.kn.trans fF,⟨W.hh,j.gr.ff.trans fF,Fh,fun b n h1 h2=>?_⟩,fun i d n e=>?_,fun i d m e=>?_,j.ne⟩,fF,fun d v n r=>Zj.only tupK n r,fun d v ok fr r=>?_⟩
 ·show(if OA b then none else Hf' b)=none
  split
  ·rfl
  ·exact W.nw b n h1 h2
 ·obtain⟨v,a,b⟩:=j.fz i d n e
  exact⟨v,a,b.ext fF⟩
 ·obtain⟨a,h1,h2,h3,h4,h5⟩:=j.ow i d m e
  refine⟨a,h1,h2,?_,h4,h5.keep fF fun o q=>g.hh a o (ju h2) q⟩;show(if OA a then none else Hf' a)=none;rw[if_pos ⟨i,d,m,e,h1⟩]
 ·cases d with
  | lst ds=>
   obtain⟨a,vs,e,n,q,r'⟩:=jc.mp r;have na:=frK a (fr a e trivial).1;have ea:(if OA a then none else Hf' a)=some (.lst vs):=by rw[if_neg na];exact q
   refine⟨jc.mpr ⟨a,vs,e,n,ea,Zg.only tupK ok r'⟩,fun b eb m=>?_⟩;rw[e] at eb;cases eb;refine⟨(fr a e trivial).1,fun ds' ed=>?_⟩
   cases ed
   refine⟨vs,fun b=>if b=a then none else if OA b then none else Hf' b,ea,if_pos rfl,fun b o nb eb=>?_,?_⟩
   ·have eb':(if b=a then none else if OA b then none else Hf' b)=some o:=eb
    split at eb'
    ·cases eb'
    ·exact eb'
   ·refine Zg.only (fun b ws nb eb=>?_) ok r'
    have hba:b≠a:=fun z=>by rw[z,q] at eb;cases eb
    show(if b=a then none else if OA b then none else Hf' b)=_;rw[if_neg hba];exact tupK b ws nb eb
  | dk ds=>
   obtain⟨a,e,n,q⟩:=jk.mp r;have na:=frK a (fr a e trivial).1;refine⟨jk.mpr ⟨a,e,n,?_⟩,fun b eb m=>⟨(fr b eb m).1,fun ds' ed=>by cases ed⟩⟩;show(if OA a then none else Hf' a)=_;rw[if_neg na];exact q
  | dt ds=>
   obtain⟨a,o,e,n,q⟩:=jl.mp r;have na:=frK a (fr a e trivial).1;refine⟨jl.mpr ⟨a,o,e,n,?_⟩,fun b eb m=>⟨(fr b eb m).1,fun ds' ed=>by cases ed⟩⟩;show(if OA a then none else Hf' a)=_;rw[if_neg na];exact q
  | du ds=>
   obtain⟨a,e,n,q⟩:=jm.mp r;have na:=frK a (fr a e trivial).1;refine⟨jm.mpr ⟨a,e,n,?_⟩,fun b eb m=>⟨(fr b eb m).1,fun ds' ed=>by cases ed⟩⟩;show(if OA a then none else Hf' a)=_;rw[if_neg na];exact q
  | _=>exact absurd (Zj9 ok) (fun z=>z)
theorem Jf.set {i:Nat}{d:D}{v:V}{own':List Nat}(j:Jf G own kn jT H0 σ Hf H ρ)(ho:∀k,k∈own'->k≠i/\k∈own)(hk:∀k,k∈own->k≠i->k∈own')(r:Zj G Hf d v):Jf G own' kn jT H0 (σ.set i (some v)) Hf H (ρ.set i (some d)) where
 len:=by simp[j.len]
 kn:=j.kn
 gr:=j.gr
 fz:=fun k c n e=>by
  by_cases h:i=k
  ·subst h
   have hl:i < ρ.length:=by
    have:=(qB.mp e).1;simpa using this
   rw[zb hl] at e
   cases e
   exact⟨v,zb (by rw[j.len];exact hl),r⟩
  ·rw[qO h] at e⊢
   exact j.fz k c (fun z=>n (hk k z (zl h))) e
 ow:=fun k c m e=>by
  have h:i≠k:=zl (ho k m).1;rw[qO h] at e⊢;exact j.ow k c (ho k m).2 e
 ne:=fun k l a dk dl mk ml n ek el sk sl=>by
  have h:i≠k:=zl (ho k mk).1;have h':i≠l:=zl (ho l ml).1;rw[qO h] at ek sk;rw[qO h'] at el sl;exact j.ne k l a dk dl (ho k mk).2 (ho l ml).2 n ek el sk sl
noncomputable def JR:D->Bool
 | .lst _=>true
 | .dk _=>true
 | .dt _=>true
 | .du _=>true
 | _=>false
theorem Zff {d:D}(h:JR d=true):Ut d:=by
 cases d <;> first | trivial | (simp[JR] at h)
theorem Jf.setOwn {i:Nat}{d:D}{v:V}{Hb Hq:Hp}{s:Pn}{own':List Nat}(j0:Jf G own kn jT H0 σ Hq Hb ρ)(j:Jf G own kn jT H0 σ Hf H ρ)(ho:∀k,k∈own'↔k=i∨k∈own)(st:G.st s Hb)(hb:Zw G Hb H)(hq:Zw G Hq Hf)
  (r:Zj G Hf d v) (fr:Yo G Hb Hf d v) (ok:JR d=true):∃Hf',Jf G own' kn jT H0 (σ.set i (some v)) Hf' H (ρ.set i (some d)):=by
 classical
 have mu:=Zff ok;obtain⟨a,ea,nfa⟩:∃a,v=.ref a/\¬G.fp a:=by
  cases d with
  | lst ds=>obtain⟨a,vs,e,n,_⟩:=jc.mp r;exact⟨a,e,n⟩
  | dk ds=>obtain⟨a,e,n,_⟩:=jk.mp r;exact⟨a,e,n⟩
  | dt ds=>obtain⟨a,_,e,n,_⟩:=jl.mp r;exact⟨a,e,n⟩
  | du ds=>obtain⟨a,e,n,_⟩:=jm.mp r;exact⟨a,e,n⟩
  | _=>exact mu.elim
 subst ea;have fra:Hb a=none:=(fr a rfl mu).1;have hqa:Hq a=none:=by
  cases e:Hq a with
  | none=>rfl
  | some o=>rw[j0.gr.fh a o nfa e] at fra;cases fra
 have h0a:H0 a=none:=by
  cases e:H0 a with
  | none=>rfl
  | some o=>rw[j0.gr.hh a o nfa e] at fra;cases fra
 have qF:Zw G Hq (fun b=>if b=a then none else Hf b):=fun b o n e=>by
  have:b≠a:=fun z=>by rw[z,hqa] at e;cases e
  show(if b=a then none else Hf b)=_;rw[if_neg this];exact hq b o n e
 have oldA:∀k c,k∈own->ρ[k]?=some (some c)->σ[k]?≠some (some (.ref a)):=fun k c m e z=>by
  obtain⟨b,h1,_,_,_,h5⟩:=j0.ow k c m e;rw[z] at h1;cases h1;obtain⟨o,q,_⟩:=h5.there;rw[fra] at q;cases q
 refine⟨fun b=>if b=a then none else Hf b,by simp[j.len],j0.kn.trans qF,⟨j.gr.hh,j0.gr.ff.trans qF,fun b o n e=>?_,fun b n h1 h2=>?_⟩,fun k c n e=>?_,fun k c m e=>?_,fun k l b dk dl mk ml n ek el sk sl=>?_⟩
 ·have e':(if b=a then none else Hf b)=some o:=e
  split at e'
  ·cases e'
  ·exact j.gr.fh b o n e'
 ·show(if b=a then none else Hf b)=none
  split
  ·rfl
  ·exact j.gr.nw b n h1 h2
 ·have h:i≠k:=fun z=>n ((ho k).mpr (.inl z.symm))
  rw[qO h] at e⊢;obtain⟨v,q1,q2⟩:=j0.fz k c (fun z=>n ((ho k).mpr (.inr z))) e;exact⟨v,q1,q2.ext qF⟩
 ·by_cases h:i=k
  ·subst h
   have hl:i < ρ.length:=by
    have:=(qB.mp e).1;simpa using this
   rw[zb hl] at e
   cases e
   refine⟨a,zb (by rw[j.len];exact hl),jC st fra,by show(if a=a then none else Hf a)=none;rw[if_pos rfl],h0a,?_⟩
   cases d with
   | lst ds=>
    obtain⟨a',vs,e',n',q',r'⟩:=jc.mp r
    cases e'
    obtain⟨ws,Hm,f1,f2,f3,f4⟩:=(fr a rfl mu).2 ds rfl;rw[q'] at f1;cases f1;refine⟨vs,j.gr.fh a _ n' q',f4.ext fun b o nb eb=>?_⟩;have:b≠a:=fun z=>by rw[z,f2] at eb;cases eb
    show(if b=a then none else Hf b)=_;rw[if_neg this];exact f3 b o nb eb
   | dk ds=>obtain⟨a',e',n',q'⟩:=jk.mp r;cases e';exact j.gr.fh a _ n' q'
   | dt ds=>obtain⟨a',o',e',n',q'⟩:=jl.mp r;cases e';exact⟨o',j.gr.fh a _ n' q'⟩
   | du ds=>obtain⟨a',e',n',q'⟩:=jm.mp r;cases e';exact j.gr.fh a _ n' q'
   | _=>exact mu.elim
  ·have m':k∈own:=((ho k).mp m).resolve_left (zl h)
   rw[qO h] at e⊢;obtain⟨b,h1,h2,h3,h4,h5⟩:=j0.ow k c m' e;obtain⟨b',g1,g2,g3,g4,g5⟩:=j.ow k c m' e;rw[h1] at g1;cases g1;refine⟨b,h1,h2,?_,h4,h5.keep qF fun o q=>hb b o (ju h2) q⟩;show(if b=a then none else Hf b)=none;split
   ·rfl
   ·exact g3
 ·by_cases hk:i=k
  ·subst hk
   have h':i≠l:=n;have hl:i < σ.length:=by
    have:=(qB.mp sk).1;simpa using this
   rw[zb hl] at sk
   cases sk
   rw[qO h'] at el sl;exact oldA l dl (((ho l).mp ml).resolve_left (zl h')) el sl
  ·by_cases hl':i=l
   ·subst hl'
    have hl:i < σ.length:=by
     have:=(qB.mp sl).1;simpa using this
    rw[zb hl] at sl
    cases sl
    rw[qO hk] at ek sk;exact oldA k dk (((ho k).mp mk).resolve_left (zl hk)) ek sk
   ·rw[qO hk] at ek sk
    rw[qO hl'] at el sl;exact j.ne k l b dk dl (((ho k).mp mk).resolve_left (zl hk)) (((ho l).mp ml).resolve_left (zl hl')) n ek el sk sl
theorem Jf.freeze {own':List Nat}(j:Jf G own kn jT H0 σ Hf H ρ)(ho:∀k,k∈own'->k∈own):∃Hf',Jf G own' kn jT H0 σ Hf' H ρ:=by
 classical
 let OA:Addr->Prop:=fun b=>∃i d,i∈own/\i∉own'/\ρ[i]?=some (some d)/\σ[i]?=some (some (.ref b))
 have oaH:∀b,OA b->Hf b=none/\H0 b=none:=fun b ⟨i,d,m,_,e,q⟩=>by
  obtain⟨a,h1,h2,h3,h4,h5⟩:=j.ow i d m e;rw[q] at h1;cases h1;exact⟨h3,h4⟩
 have fF:Zw G Hf (fun b=>if OA b then H b else Hf b):=fun b o n e=>by
  have:¬OA b:=fun z=>by rw[(oaH b z).1] at e;cases e
  show(if OA b then H b else Hf b)=_;rw[if_neg this];exact e
 refine⟨fun b=>if OA b then H b else Hf b,j.len,j.kn.trans fF,⟨j.gr.hh,j.gr.ff.trans fF,fun b o n e=>?_,fun b n h1 h2=>?_⟩,fun k c n e=>?_,fun k c m e=>?_,fun k l b dk dl mk ml=>j.ne k l b dk dl (ho k mk) (ho l ml)⟩
 ·have e':(if OA b then H b else Hf b)=some o:=e
  split at e'
  ·exact e'
  ·exact j.gr.fh b o n e'
 ·have:¬OA b:=fun z=>h2.no (oaH b z).2
  show(if OA b then H b else Hf b)=none;rw[if_neg this];exact j.gr.nw b n h1 h2
 ·by_cases m:k∈own
  ·obtain⟨a,h1,h2,h3,h4,h5⟩:=j.ow k c m e
   refine⟨_,h1,h5.rep (ju h2) fF fun o q=>?_⟩;show(if OA a then H a else Hf a)=_;rw[if_pos ⟨k,c,m,n,e,h1⟩];exact q
  ·obtain⟨v,h1,h2⟩:=j.fz k c m e
   exact⟨v,h1,h2.ext fF⟩
 ·obtain⟨a,h1,h2,h3,h4,h5⟩:=j.ow k c (ho k m) e
  refine⟨a,h1,h2,?_,h4,h5.keep fF fun o q=>q⟩;have:¬OA a:=fun⟨i,d,mi,ni,ei,qi⟩=>j.ne i k a d c mi (ho k m) (fun z=>ni (z▸m)) ei e qi h1;show(if OA a then H a else Hf a)=none;rw[if_neg this];exact h3
end
theorem Jf.setF {G:Gh}{own:List Nat}{kn jT H0 Hf H:Hp}{σ:St}{ρ:Zb}{i:Nat}{d:D}{v:V}(j:Jf G own kn jT H0 σ Hf H ρ)(hi:i∉own)(r:Zj G Hf d v):Jf G own kn jT H0 (σ.set i (some v)) Hf H (ρ.set i (some d)):=
 j.set (own':=own) (fun k m=>⟨fun z=>hi (by rw[<-z];exact m),m⟩) (fun k m _=>m) r
noncomputable def XH (G:Gh)(fr:Bool)(t:TE)(f:Zb->M D):Prop:=
 ∀(σ:St) (Hf H:Hp) (ρ:Zb) (s:Pn) (d:D) (s':Pn) (Q:VK),Zw G Hf H->Yw G Hf σ ρ->G.st s H->f ρ s=some (d,s')->
  (∀v Hf' H',Gr G Hf H Hf' H'->G.st s' H'->Zj G Hf' d v->(fr=true->Yo G H Hf' d v)->Q v H')->t σ H Q
noncomputable def W4 (G:Gh)(own:List Nat)(fr:Bool)(t:TE)(f:Zb->M D):Prop:=
 ∀(kn jT H0:Hp) (σ:St) (Hf H:Hp) (ρ:Zb) (s:Pn) (d:D) (s':Pn) (Q:VK),Jf G own kn jT H0 σ Hf H ρ->G.st s H->f ρ s=some (d,s')->
  (∀v Hf' H',Jf G own kn jT H0 σ Hf' H' ρ->Zw G Hf Hf'->Zw G H H'->G.st s' H'->Zj G Hf' d v->(fr=true->Yo G H Hf' d v)->Q v H')->t σ H Q
section
variable {X:Cx}{G:Gh}{own:List Nat}{fr:Bool}{t:TE}{f:Zb->M D}
theorem XH.a (h:XH G fr t f):W4 G own fr t (fun ρ=>f (Z8 own ρ)):=fun kn jT H0 σ Hf H ρ s d s' Q j st e k=>
 h σ Hf H (Z8 own ρ) s d s' Q j.gr.fh j.envA st e fun v Hf' H' g st' r fz=>k v Hf' H' (j.grow g) g.ff g.hh st' r fz
theorem XH.n (h:XH G fr t f):W4 G [] fr t f:=fun kn jT H0 σ Hf H ρ s d s' Q j st e k=>
 h.a kn jT H0 σ Hf H ρ s d s' Q j st (by show f (Z8 [] ρ) s=_;rw[Zb0];exact e) k
theorem ZgX {d:D}(h:Xb d=true):¬Ut d:=by
 cases d <;> first | exact(fun z=>z) | (simp[Xb] at h)
noncomputable def W9 (fr:Bool)(f:Zb->M D):Zb->M D:=fun ρ=>Zm (f ρ) fun d=>if (Xb d||(fr&&Ji d))=true then ZD d else Zz
theorem Zl4 {fr:Bool}{f:Zb->M D}{ρ:Zb}{s s':Pn}{d:D}(h:f ρ s=some (d,s'))(c:(Xb d||(fr&&Ji d))=true):W9 fr f ρ s=some (d,s'):=by
 unfold W9 Zm;rw[h];show(if (Xb d||(fr&&Ji d))=true then ZD d else Zz) s'=_;rw[if_pos c];rfl
theorem XH.b (h:XH G fr t f):W4 G own fr t (W9 fr f):=fun kn jT H0 σ Hf H ρ s d s' Q j st e k=>by
 obtain⟨d1,s1,a1,a2⟩:=Zv e;obtain⟨c,a3⟩:=YV a2;obtain⟨rfl,rfl⟩:=ZL a3;refine h σ _ H ρ s d s' Q Uj j.envB st a1 fun v Hf' H' g st' r fz=>?_;obtain⟨F,j',fF,q1,q2⟩:=j.growB g;rcases qbB.mp c with c | c
 ·exact k v F H' j' fF g.hh st' (q1 d v c r) fun z a ea m=>absurd m (ZgX c)
 ·obtain⟨c1,c2⟩:=zS.mp c
  obtain⟨x1,x2⟩:=q2 d v c2 (fz c1) r;exact k v F H' j' fF g.hh st' x1 fun _=>x2
inductive Out where
 | nx (ρ:Zb) | rt (d:D) | bk (ρ:Zb) | ct (ρ:Zb)
noncomputable def Post (G:Gh)(ob own':List Nat)(kn jT H0:Hp)(fr:Bool)(out:Out)(s':Pn)(E:Ends):Prop:=match out with
 | .nx ρ=>∀σ H,J G own' kn jT H0 σ H ρ->G.st s' H->E.nx σ H
 | .bk ρ=>∀σ H,J G ob kn jT H0 σ H ρ->G.st s' H->E.bk σ H
 | .ct ρ=>∀σ H,J G ob kn jT H0 σ H ρ->G.st s' H->E.ct σ H
 | .rt d=>∀v Hf' H',Gr G jT H0 Hf' H'->G.st s' H'->Zj G Hf' d v->(fr=true->Yo G H0 Hf' d v)->E.rt v H'
noncomputable def Bg (G:Gh)(ob own own':List Nat)(fr:Bool)(t:TS)(g:Zb->M Out):Prop:=
 ∀(kn jT H0:Hp) (σ:St) (H:Hp) (ρ:Zb) (s:Pn) (out:Out) (s':Pn) (E:Ends),J G own kn jT H0 σ H ρ->G.st s H->g ρ s=some (out,s')->Post G ob own' kn jT H0 fr out s' E->t E σ H
noncomputable def Yx (X:Cx)(G:Gh)(ob own own':List Nat)(fr:Bool)(st:Stmt)(g:Zb->M Out):Prop:=∃t,PS X st t/\Bg G ob own own' fr t g
noncomputable def XV (X:Cx)(G:Gh)(ob own own':List Nat)(fr:Bool)(sts:List Stmt)(g:Zb->M Out):Prop:=∃t,Wj X sts t/\Bg G ob own own' fr t g
variable {ob own' own2:List Nat}
theorem Yx.frz {st:Stmt}{g:Zb->M Out}(h:Yx X G ob own2 own' fr st g)(hs:∀k,k∈own2->k∈own:=by decide):Yx X G ob own own' fr st g:=by
 obtain⟨t,p,q⟩:=h;exact⟨t,p,fun kn jT H0 σ H ρ s out s' E ⟨Hf,j⟩ st e po=>q kn jT H0 σ H ρ s out s' E (j.freeze hs) st e po⟩
noncomputable def Zt:Zb->M Out:=fun ρ=>ZD (.nx ρ)
noncomputable def Zi (g1 g2:Zb->M Out):Zb->M Out:=fun ρ=>Zm (g1 ρ) fun o=>match o with | .nx ρ'=>g2 ρ' | .rt d=>ZD (.rt d) | .bk ρ'=>ZD (.bk ρ') | .ct ρ'=>ZD (.ct ρ')
theorem YW (hs:∀k,k∈own'->k∈own:=by decide):XV X G ob own own' fr [] Zt:=⟨_,ZdD,fun kn jT H0 σ H ρ s out s' E ⟨Hf,j⟩ st e p=>by
 obtain⟨rfl,rfl⟩:=ZL e;exact p σ H (j.freeze hs) st⟩
theorem Yy {st:Stmt}{sts:List Stmt}{g1 g2:Zb->M Out}(h:Yx X G ob own own2 fr st g1)(h2:XV X G ob own2 own' fr sts g2):XV X G ob own own' fr (st::sts) (Zi g1 g2):=by
 obtain⟨t,p,q⟩:=h;obtain⟨u,p2,q2⟩:=h2;refine⟨_,WS p p2,fun kn jT H0 σ H ρ s out s' E j st e po=>?_⟩;obtain⟨o,s1,a1,a2⟩:=Zv e;refine q kn jT H0 σ H ρ s o s1 _ j st a1 ?_
 cases o with
 | nx ρ1=>exact fun σ1 H1 j1 j9=>q2 kn jT H0 σ1 H1 ρ1 s1 out s' E j1 j9 a2 po
 | rt d=>obtain⟨rfl,rfl⟩:=ZL a2;exact po
 | bk ρ1=>obtain⟨rfl,rfl⟩:=ZL a2;exact po
 | ct ρ1=>obtain⟨rfl,rfl⟩:=ZL a2;exact po
noncomputable def ZR (f:Zb->M D):Zb->M Out:=fun ρ=>Zm (f ρ) fun d=>ZD (.rt d)
theorem Yz {e:Expr}{pos:Pos}(h:PD X G fr e f):Yx X G ob own own' fr (.Return (some e) pos) (ZR f):=by
 obtain⟨t,p,q⟩:=h;refine⟨_,JO p,fun kn jT H0 σ H ρ s out s' E ⟨Hf,j⟩ st e po=>?_⟩;obtain⟨d,s1,a1,a2⟩:=Zv e;obtain⟨rfl,rfl⟩:=ZL a2;exact q σ _ H ρ s d s' _ Uj j.envB st a1 fun v Hf' H' g st' r fz=>po v Hf' H' (j.grW g) st' r fun z=>jo j.gr.hh r.nofp (fz z)
theorem Zb1 {i:Nat}{x:Str}{pos pos':Pos}(hi:i∈own)(h:PE X (.Name x pos') (Z7 i)):Yx X G ob own own' true (.Return (some (.Name x pos')) pos) (ZR (Za i)):=by
 refine⟨_,JO h,fun kn jT H0 σ H ρ s out s' E ⟨Hf,j⟩ st e po=>?_⟩;obtain⟨d,s1,a1,a2⟩:=Zv e;obtain⟨rfl,rfl⟩:=ZL a2;obtain⟨e1,rfl⟩:=X0 a1;have e':ρ[i]?=some (some d):=by
  cases q:ρ[i]? with
  | none=>rw[q] at e1;cases e1
  | some o=>rw[q] at e1;simp at e1;rw[e1]
 obtain⟨v,h1,h2⟩:=j.envB i d e';obtain⟨a,g1,g2,g3,g4,g5⟩:=j.ow i d hi e';rw[g1] at h1;cases h1;refine⟨_,g1,po (.ref a) _ H (j.grW (.refl Uj)) st h2 fun _ b eb _=>?_⟩
 cases eb
 refine⟨g4,fun ds ed=>?_⟩;subst ed;obtain⟨vs,q1,q2⟩:=g5;refine⟨vs,Hf,?_,g3,j.wideF,q2⟩;unfold wide;rw[if_neg (fun z=>z.2.no g4)];exact q1
noncomputable def Y1 (c:Zb->M Bool)(g1 g2:Zb->M Out):Zb->M Out:=fun ρ=>Zm (c ρ) fun b=>if b=true then g1 ρ else g2 ρ
theorem Zfg {c:Expr}{a b:List Stmt}{pos:Pos}{fc:Zb->M Bool}{g1 g2:Zb->M Out}(hc:Wr X G c fc)(ha:XV X G ob own own' fr a g1)(hb:XV X G ob own own' fr b g2):Yx X G ob own own' fr (.If c a b pos) (Y1 fc g1 g2):=by
 obtain⟨tc,pc,qc⟩:=hc;obtain⟨ta,pa,qa⟩:=ha;obtain⟨tb,pb,qb⟩:=hb;refine⟨_,ZhX pc pa pb,fun kn jT H0 σ H ρ s out s' E ⟨Hf,j⟩ st e po=>?_⟩;obtain⟨b,s1,a1,a2⟩:=Zv e;refine qc σ _ H ρ s b s1 _ Uj j.envB st a1 fun Hf' H' g st'=>?_;obtain⟨F,j',fF,q1,q2⟩:=j.growB g
 cases b with
 | true=>exact VE (qa kn jT H0 σ H' ρ s1 out s' E ⟨F,j'⟩ st' a2 po)
 | false=>exact Vn (qb kn jT H0 σ H' ρ s1 out s' E ⟨F,j'⟩ st' a2 po)
noncomputable def U8 (X:Cx)(G:Gh)(fr:Bool)(i:Nat)(st:Stmt)(f:Zb->M D):Prop:=∃te,PS X st (fun E σ H=>te σ H fun y H1=>E.nx (σ.set i (some y)) H1)/\XH G fr te f
theorem YF {i:Nat}{x:Str}{e:Expr}{pos pos':Pos}(hN:X.N.Nodup)(hi:X.N[i]?=some x)(hx:W8 X.env.scope x)(he:PD X G fr e f)(hs:swapsWith e (some (.Name x pos')) pos.line X.env=pure false:=by rfl)
  (hf:X.fn x=true∨X.env.scope.names.lookup x=some .local:=by first | exact .inl rfl | exact .inr rfl | assumption):U8 X G fr i (.Assign [.Name x pos'] e pos) f:=by
 obtain⟨t,p,q⟩:=he;exact⟨t,Um hN hi hx p hs hf,q⟩
noncomputable def ZW (i:Nat)(f:Zb->M D):Zb->M Out:=fun ρ=>Zm (f ρ) fun d=>ZD (.nx (ρ.set i (some d)))
theorem Zb2 {i:Nat}{st:Stmt}{te:TE}(hp:PS X st (fun E σ H=>te σ H fun y H1=>E.nx (σ.set i (some y)) H1))(hy:W4 G own fr te f)(hi:i∉own){fr':Bool}:Yx X G ob own own fr' st (ZW i f):=
 ⟨_,hp,fun kn jT H0 σ H ρ s out s' E ⟨Hf,j⟩ st e po=>by
  obtain⟨d,s1,a1,a2⟩:=Zv e;obtain⟨rfl,rfl⟩:=ZL a2;exact hy kn jT H0 σ Hf H ρ s d s' _ j st a1 fun v Hf' H' j' e1 e2 st' r fz=>po _ H' ⟨Hf',j'.setF hi r⟩ st'⟩
theorem Y3 {i:Nat}{st:Stmt}{fr':Bool}(h:U8 X G fr i st f):Yx X G ob [] [] fr' st (ZW i f):=let ⟨_,p,q⟩:=h;Zb2 p q.n (by simp)
theorem Zej {i:Nat}{st:Stmt}{fr':Bool}(h:U8 X G fr i st f)(hi:i∉own:=by decide):Yx X G ob own own fr' st (ZW i (fun ρ=>f (Z8 own ρ))):=let ⟨_,p,q⟩:=h;Zb2 p q.a hi
theorem Zim {i:Nat}{st:Stmt}{fr':Bool}(h:U8 X G fr i st f)(hi:i∉own:=by decide):Yx X G ob own own fr' st (ZW i (W9 fr f)):=let ⟨_,p,q⟩:=h;Zb2 p q.b hi
noncomputable def Vp (i:Nat)(f:Zb->M D):Zb->M Out:=fun ρ=>Zm (f ρ) fun d=>if JR d=true then ZD (.nx (ρ.set i (some d))) else Zz
theorem Zin {i:Nat}{st:Stmt}{te:TE}(hp:PS X st (fun E σ H=>te σ H fun y H1=>E.nx (σ.set i (some y)) H1))(hy:W4 G own true te f)(ho:∀k,k∈own'↔k=i∨k∈own){fr':Bool}:Yx X G ob own own' fr' st (Vp i f):=
 ⟨_,hp,fun kn jT H0 σ H ρ s out s' E ⟨Hf,j⟩ st e po=>by
  obtain⟨d,s1,a1,a2⟩:=Zv e;obtain⟨ok,a3⟩:=YV a2;obtain⟨rfl,rfl⟩:=ZL a3;exact hy kn jT H0 σ Hf H ρ s d s' _ j st a1 fun v Hf' H' j' e1 e2 st' r fz=>po _ H' (j.setOwn j' ho st e2 e1 r (fz rfl) ok) st'⟩
theorem JG {i:Nat}{st:Stmt}{fr':Bool}(h:U8 X G true i st f):Yx X G ob [] [i] fr' st (Vp i f):=let ⟨_,p,q⟩:=h;Zin p q.n (by intro k;simp)
noncomputable def sPar (i j:Nat)(fs:Zb->M (List D)):Zb->M Out:=fun ρ=>Zm (fs ρ) fun ds=>match ds with | [a,b]=>if (Xb a&&Xb b)=true then ZD (.nx ((ρ.set i (some a)).set j (some b))) else Zz | _=>Zz
theorem Zka {i j:Nat}{x y:Str}{a b:Expr}{fs:Zb->M (List D)}{px py pt pos:Pos}{kt k2 pt2}(hc:X.calm=true)(hN:X.N.Nodup)(hi:X.N[i]?=some x)(hj:X.N[j]?=some y)(hij:i≠j)(oi:i∉own)(oj:j∉own)
  (hx:X.env.scope.names.lookup x=some .local) (hy:X.env.scope.names.lookup y=some .local) (ha:Ws X G [a,b] fs)
  (hw:swappedStores [.Tuple [.Name x px,.Name y py] kt pt] (.Tuple [a,b] k2 pt2) X.env=pure (some [x,y]))
  (hs:swapsWithSole [.Tuple [.Name x px,.Name y py] kt pt] (.Tuple [a,b] k2 pt2) pos.line X.env=pure false:=by rfl) :
  Yx X G ob own own fr (.Assign [.Tuple [.Name x px,.Name y py] kt pt] (.Tuple [a,b] k2 pt2) pos) (sPar i j fs):=by
 obtain⟨t,p,q⟩:=ha;refine⟨_,ZlL hc hN hi hj hij hx hy p hw hs,fun kn jT H0 σ H ρ s out s' E ⟨Hf,j'⟩ st e po=>?_⟩;obtain⟨ds,s1,a1,a2⟩:=Zv e;refine q σ _ H ρ s ds s1 _ Uj j'.envB st a1 fun vs Hf' H' g st' r=>?_
 match ds,a2,r with
 | [d1,d2],a2,r=>
  obtain⟨c,a3⟩:=YV a2;obtain⟨rfl,rfl⟩:=ZL a3;obtain⟨c1,c2⟩:=zS.mp c;obtain⟨v1,r1,rfl,q1,q2⟩:=jd.mp r;obtain⟨v2,r2,rfl,q3,q4⟩:=jd.mp q2;rw[Zg.nil_iff.mp q4];obtain⟨F,jF,fF,f1,f2⟩:=j'.growB g;exact⟨v1,v2,rfl,po _ H' ⟨F,(jF.setF oi (f1 _ _ c1 q1)).setF oj (f1 _ _ c2 q3)⟩ st'⟩
 | [],a2,_=>cases a2
 | [_],a2,_=>cases a2
 | _::_::_::_,a2,_=>cases a2
inductive Sets (G:Gh)(Hf:Hp)(ok:Nat->Prop):St->Zb->St->Zb->Prop
 | nil {σ ρ}:Sets G Hf ok σ ρ σ ρ
 | cons {σ ρ σ' ρ'} {i:Nat} {d:D} {v:V}:ok i->Zj G Hf d v->Sets G Hf ok (σ.set i (some v)) (ρ.set i (some d)) σ' ρ'->Sets G Hf ok σ ρ σ' ρ'
noncomputable def WN (X:Cx)(G:Gh)(tg:Expr)(ok:Nat->Prop)(τ:D->Zb->Option Zb):Prop:=
 ∃g,PG X tg g/\∀(x:V) (σ:St) (Hf H:Hp) (d:D) (ρ ρ':Zb) (Q:St->Hp->Prop),Zw G Hf H->Zj G Hf d x->τ d ρ=some ρ'->(∀σ',Sets G Hf ok σ ρ σ' ρ'->Q σ' H)->g x σ H Q
noncomputable def Zy (i:Nat):D->Zb->Option Zb:=fun d ρ=>some (ρ.set i (some d))
theorem WU {i:Nat}{x:Str}{pos:Pos}{ok:Nat->Prop}(hN:X.N.Nodup)(hi:X.N[i]?=some x)(hx:W8 X.env.scope x)(oi:ok i)(hf:X.fn x=true∨X.env.scope.names.lookup x=some .local:=by first | exact .inl rfl | exact .inr rfl | assumption):WN X G (.Name x pos) ok (Zy i):=
 ⟨_,X1 hN hi hx hf,fun x σ Hf H d ρ ρ' Q e r q k=>by
  cases q
  exact k _ (.cons oi r .nil)⟩
noncomputable def VT (i j:Nat):D->Zb->Option Zb:=fun d ρ=>match d with | .tup [a,b]=>some ((ρ.set i (some a)).set j (some b)) | _=>none
theorem BC {i j:Nat}{x y:Str}{pos px py:Pos}{k:Nat}{ok:Nat->Prop}(hc:X.calm=true)(hN:X.N.Nodup)(hi:X.N[i]?=some x)(hj:X.N[j]?=some y)(hx:W8 X.env.scope x)(hy:W8 X.env.scope y)(oi:ok i)(oj:ok j)
  (hfx:X.fn x=true∨X.env.scope.names.lookup x=some .local:=by first | exact .inl rfl | exact .inr rfl | assumption) (hfy:X.fn y=true∨X.env.scope.names.lookup y=some .local:=by first | exact .inl rfl | exact .inr rfl | assumption)
  (hn:(assignEach [.Name x px,.Name y py] X.env).length=2:=by rfl) (hst:(assignEach [.Name x px,.Name y py] X.env).findIdx? (·.1)=none:=by rfl)
  (hp:Jg X [.Name x px,.Name y py] (U1 (Wd i) (U1 (Wd j) gNil))):WN X G (.Tuple [.Name x px,.Name y py] k pos) ok (VT i j):=
 ⟨_,ZhY hc hp hn hst,fun x σ Hf H d ρ ρ' Q e r q k=>by
  match d,q,r with
  | .tup [a,b],q,r=>
   cases q
   obtain⟨ad,vs,rfl,n,h,rl⟩:=jb.mp r;obtain⟨v1,r1,rfl,q1,q2⟩:=jd.mp rl;obtain⟨v2,r2,rfl,q3,q4⟩:=jd.mp q2;have:=Zg.nil_iff.mp q4;subst this;exact⟨ad,_,rfl,ZF.of (e _ _ n h),rfl,v1,_,rfl,v2,_,rfl,rfl,k _ (.cons oi q1 (.cons oj q3 .nil))⟩⟩
theorem Sets.jf {kn jT H0 Hf H:Hp}{σ σ':St}{ρ ρ':Zb}(h:Sets G Hf (fun i=>i∉own) σ ρ σ' ρ'):Jf G own kn jT H0 σ Hf H ρ->Jf G own kn jT H0 σ' Hf H ρ':=by
 induction h with
 | nil=>exact fun j=>j
 | cons o r _ ih=>exact fun j=>ih (j.setF o r)
noncomputable def Wp (G:Gh)(J:It)(Hf':Hp)(ds:List D):Prop:=
 ∀(i:Nat) (jY H2:Hp) (s:Pn),Zw G Hf' jY->Zw G jY H2->G.st s H2->
  (∀d,ds[i]?=some d->J.go i H2/\∀x H3,J.yld i H2 x H3->∃Hf3,Gr G jY H2 Hf3 H3/\G.st s H3/\Zj G Hf3 d x)/\(i=ds.length->J.stop i H2)
noncomputable def Wk (X:Cx)(G:Gh)(tg iter:Expr)(f:Zb->M (List D)):Prop:=
 ∃wi,PI X tg iter wi/\∀(σ:St) (Hf H:Hp) (ρ:Zb) (s:Pn) (ds:List D) (s':Pn) (R:It->Hp->Prop),Zw G Hf H->Yw G Hf σ ρ->G.st s H->f ρ s=some (ds,s')->
  (∀J Hf' H',Gr G Hf H Hf' H'->G.st s' H'->Wp G J Hf' ds->R J H')->wi σ H R
theorem Wp.range {lo:Int}{n:Nat}{Hf:Hp}{ds:List D}(e:ds=(qm n).map fun(i:Nat)=>D.int (lo+i)):Wp G (Be lo n) Hf ds:=fun i jY H2 s e1 e2 st=>by
 subst e;refine⟨fun d q=>?_,fun q=>by show n<=i;rw[q];simp⟩;have hi:i<n:=by
  have:=(qB.mp q).1;simpa using this
 have hd:d=.int (lo+i):=by
  rw[qA,z9 hi] at q;simp at q;exact q.symm
 subst hd;refine⟨hi,fun x H3 y=>?_⟩;obtain⟨y1,y2⟩:=y;subst y1 y2;exact⟨jY,.refl e2,st,ja.mpr rfl⟩
theorem Wp.list {K:qf}{a:Addr}{vs:List V}{Hf:Hp}{ds:List D}(nf:¬G.fp a)(h:Hf a=some (.lst vs))(r:Zg G Hf ds vs):Wp G (Itl K a) Hf ds:=fun i jY H2 s e1 e2 st=>by
 have h2:Zu K H2 a vs:=Zu.of (e2 _ _ nf (e1 _ _ nf h));refine⟨fun d q=>?_,fun q=>⟨vs,h2,by rw[q,r.length];exact qp _⟩⟩;obtain⟨v,q1,q2⟩:=r.get q;refine⟨⟨vs,v,h2,q1⟩,fun x H3 ⟨y1,y2⟩=>?_⟩;subst y1;have e:=y2 vs h2;rw[q1] at e;cases e;exact⟨jY,.refl e2,st,q2.ext e1⟩
theorem Wp.tup {K:qf}{a:Addr}{vs:List V}{Hf:Hp}{ds:List D}(nf:¬G.fp a)(h:Hf a=some (.tup vs))(r:Zg G Hf ds vs):Wp G (Itt K a) Hf ds:=fun i jY H2 s e1 e2 st=>by
 have h2:ZF K H2 a vs:=ZF.of (e2 _ _ nf (e1 _ _ nf h));refine⟨fun d q=>?_,fun q=>⟨vs,h2,by rw[q,r.length];exact qp _⟩⟩;obtain⟨v,q1,q2⟩:=r.get q;refine⟨⟨vs,v,h2,q1⟩,fun x H3 ⟨y1,y2⟩=>?_⟩;subst y1;have e:=y2 vs h2;rw[q1] at e;cases e;exact⟨jY,.refl e2,st,q2.ext e1⟩
noncomputable def Z3 (lo:Int)(n:Nat):List D:=(qm n).map fun(i:Nat)=>D.int (lo+i)
noncomputable def Yb (f:Zb->M D):Zb->M (List D):=fun ρ=>Zm (f ρ) fun d=>match d with | .int j=>if -(2 ^ 62)<=j/\j<2 ^ 62 then ZD (Z3 0 j.toNat) else Zz | _=>Zz
theorem VL {tg a:Expr}{p pos:Pos}{r1:Bool}(hg:Gl X "range")(hm:X.mg "range" = none)(ha:PD X G r1 a f)(hs:starEach [a] X.env=[(false,eval a X.env)]:=by rfl):Wk X G tg (.Call (.Name "range" p) [a] [] pos) (Yb f):=by
 obtain⟨t,pa,qa⟩:=ha.drop;refine⟨_,Zc0 hg hm (Y4 pa Xs (by rw[hs];rfl)) hs,fun σ Hf H ρ s ds s' R e1 e2 e3 e4 k=>?_⟩;obtain⟨d,s1,a1,a2⟩:=Zv e4
 cases d with
 | int j=>
  obtain⟨c,a3⟩:=YV a2;obtain⟨rfl,rfl⟩:=ZL a3;refine qa σ Hf H ρ s _ _ _ e1 e2 e3 a1 fun v jU H1 g st r=>?_;rw[ja.mp r];exact⟨j,rfl,c.1,c.2,k _ jU H1 g st (.range rfl)⟩
 | _=>cases a2
noncomputable def BL (f g:Zb->M D):Zb->M (List D):=fun ρ=>Zm (f ρ) fun d=>Zm (g ρ) fun e=>match d,e with | .int i,.int j=>if -(2 ^ 62)<=i/\i<2 ^ 62/\-(2 ^ 62)<=j/\j<2 ^ 62 then ZD (Z3 i (j-i).toNat) else Zz | _,_=>Zz
noncomputable def Z4 (f:Zb->M D):Zb->M (List D):=fun ρ=>Zm (f ρ) fun d=>match d with | .lst ds=>ZD ds | _=>Zz
noncomputable def JZ (f:Zb->M D):Zb->M (List D):=fun ρ=>Zm (f ρ) fun d=>match d with | .tup ds=>ZD ds | _=>Zz
theorem X7 {tg l:Expr}{r1:Bool}(hl:PD X G r1 l f):Wk X G tg l (Z4 f):=by
 obtain⟨t,pa,qa⟩:=hl.drop;refine⟨_,ZdF pa,fun σ Hf H ρ s ds s' R e1 e2 e3 e4 k=>?_⟩;obtain⟨d,s1,a1,a2⟩:=Zv e4
 cases d with
 | lst es=>
  obtain⟨rfl,rfl⟩:=ZL a2;refine qa σ Hf H ρ s _ _ _ e1 e2 e3 a1 fun v jU H1 g st r=>?_;obtain⟨a,vs,rfl,nf,h,rl⟩:=jc.mp r;exact⟨a,rfl,⟨vs,Zu.of (g.fh _ _ nf h)⟩,k _ jU H1 g st (.list nf h rl)⟩
 | _=>cases a2
theorem Zkb {tg l:Expr}{r1:Bool}(hl:PD X G r1 l f):Wk X G tg l (JZ f):=by
 obtain⟨t,pa,qa⟩:=hl.drop;refine⟨_,ZlM pa,fun σ Hf H ρ s ds s' R e1 e2 e3 e4 k=>?_⟩;obtain⟨d,s1,a1,a2⟩:=Zv e4
 cases d with
 | tup es=>
  obtain⟨rfl,rfl⟩:=ZL a2;refine qa σ Hf H ρ s _ _ _ e1 e2 e3 a1 fun v jU H1 g st r=>?_;obtain⟨a,vs,rfl,nf,h,rl⟩:=jb.mp r;exact⟨a,rfl,⟨vs,ZF.of (g.fh _ _ nf h)⟩,k _ jU H1 g st (.tup nf h rl)⟩
 | _=>cases a2
noncomputable def Wg (τ:D->Zb->Option Zb)(body:Zb->M Out):List D->Zb->M Out
 | [],ρ=>ZD (.nx ρ)
 | d::ds,ρ=>Zm (YN (τ d ρ)) fun ρ1=>Zm (body ρ1) fun o=>match o with | .nx ρ2=>Wg τ body ds ρ2 | .ct ρ2=>Wg τ body ds ρ2 | .bk ρ2=>ZD (.nx ρ2) | .rt d=>ZD (.rt d)
noncomputable def Xc (fi:Zb->M (List D))(τ:D->Zb->Option Zb)(body:Zb->M Out):Zb->M Out:=fun ρ=>Zm (fi ρ) fun ds=>Wg τ body ds ρ
noncomputable def J7 (X:Cx)(G:Gh)(own:List Nat)(tg iter:Expr)(f:Zb->M (List D)):Prop:=
 ∃wi,PI X tg iter wi/\∀(kn jT H0:Hp) (σ:St) (Hf H:Hp) (ρ:Zb) (s:Pn) (ds:List D) (s':Pn) (R:It->Hp->Prop),Jf G own kn jT H0 σ Hf H ρ->G.st s H->f ρ s=some (ds,s')->
  (∀J Hf' H',Jf G own kn jT H0 σ Hf' H' ρ->Zw G Hf Hf'->G.st s' H'->Wp G J Hf' ds->R J H')->wi σ H R
theorem Wk.a {tg iter:Expr}{fi:Zb->M (List D)}(h:Wk X G tg iter fi):J7 X G own tg iter (fun ρ=>fi (Z8 own ρ)):=by
 obtain⟨wi,p,q⟩:=h;exact⟨wi,p,fun kn jT H0 σ Hf H ρ s ds s' R j st e k=>q σ Hf H _ s ds s' R j.gr.fh j.envA st e fun J Hf' H' g st' it=>k J Hf' H' (j.grow g) g.ff st' it⟩
theorem Wk.n {tg iter:Expr}{fi:Zb->M (List D)}(h:Wk X G tg iter fi):J7 X G [] tg iter fi:=by
 obtain⟨wi,p,q⟩:=h.a (own:=[]);exact⟨wi,p,fun kn jT H0 σ Hf H ρ s ds s' R j st e k=>q kn jT H0 σ Hf H ρ s ds s' R j st (by show fi (Z8 [] ρ) s=_;rw[Zb0];exact e) k⟩
theorem VJ {tg a:Expr}{p pos:Pos}{r1:Bool}(hg:Gl X "range")(hm:X.mg "range" = none)(ha:PD X G r1 a f)(hs:starEach [a] X.env=[(false,eval a X.env)]:=by rfl):J7 X G own tg (.Call (.Name "range" p) [a] [] pos) (Yb f):=by
 obtain⟨t,pa,qa⟩:=ha.drop;refine⟨_,Zc0 hg hm (Y4 pa Xs (by rw[hs];rfl)) hs,fun kn jT H0 σ Hf H ρ s ds s' R j st e4 k=>?_⟩;obtain⟨d,s1,a1,a2⟩:=Zv e4
 cases d with
 | int i=>
  obtain⟨c,a3⟩:=YV a2;obtain⟨rfl,rfl⟩:=ZL a3;refine qa σ _ H ρ s _ _ _ Uj j.envB st a1 fun v jU H1 g st r=>?_;obtain⟨F,j',fF,q1,q2⟩:=j.growB g;rw[ja.mp r];exact⟨i,rfl,c.1,c.2,k _ F H1 j' fF st (.range rfl)⟩
 | _=>cases a2
theorem Zek {tg a b:Expr}{p pos:Pos}{r1 r2:Bool}{f2:Zb->M D}(hg:Gl X "range")(hm:X.mg "range" = none)(ha:PD X G r1 a f)(hb:PD X G r2 b f2)
  (hs:starEach [a,b] X.env=[(false,eval a X.env),(false,eval b X.env)]:=by rfl) (hs2:starEach [b] X.env=[(false,eval b X.env)]:=by rfl):J7 X G own tg (.Call (.Name "range" p) [a,b] [] pos) (BL f f2):=by
 obtain⟨t,pa,qa⟩:=ha.drop;obtain⟨u,pb,qb⟩:=hb.drop;refine⟨_,ZgM hg hm (Y4 pa (Y4 pb Xs (by rw[hs2];rfl)) (by rw[hs,hs2])) hs hs2,fun kn jT H0 σ Hf H ρ s ds s' R j st e4 k=>?_⟩;obtain⟨d,s1,a1,a2⟩:=Zv e4;obtain⟨d2,s2,a3,a4⟩:=Zv a2
 match d,d2,a4,a1,a3 with
 | .int i,.int l,a4,a1,a3=>
  obtain⟨c,a5⟩:=YV a4;obtain⟨rfl,rfl⟩:=ZL a5;refine qa σ _ H ρ s _ _ _ Uj j.envB st a1 fun v jU H1 g st r=>?_;refine qb σ jU H1 ρ s1 _ _ _ g.fh (j.envB.ext g.ff) st a3 fun v2 jY H2 g2 j7 r2=>?_;obtain⟨F,j',fF,q1,q2⟩:=j.growB (g.trans g2);rw[ja.mp r,ja.mp r2];exact⟨i,l,rfl,c,k _ F H2 j' fF j7 (.range rfl)⟩
theorem Jf.weak {kn kn' jT H0 Hf H:Hp}{σ:St}{ρ:Zb}(j:Jf G own kn' jT H0 σ Hf H ρ)(e:Zw G kn kn'):Jf G own kn jT H0 σ Hf H ρ:=⟨j.len,e.trans j.kn,j.gr,j.fz,j.ow,j.ne⟩
theorem Wy {tg iter:Expr}{body:List Stmt}{pos:Pos}{fi:Zb->M (List D)}{τ:D->Zb->Option Zb}{g:Zb->M Out}(hp:PassesOwn (model X.prog X.w) X.A X.env X.xe)(hc:X.calm=true)(hi:J7 X G own tg iter fi)(hg:WN X G tg (fun i=>i∉own) τ)(hb:XV X G own own own fr body g)
  (hs:∀x,foldedSetIterable iter X.env x=pure x:=by intro _;rfl):Yx X G ob own own fr (.For tg iter body [] pos) (Xc fi τ g):=by
 obtain⟨wi,pi,qi⟩:=hi;obtain⟨gt,pg,qg⟩:=hg;obtain⟨tb,pb,qb⟩:=hb;refine⟨_,Zh2 hp hc pi pg pb hs,fun kn jT H0 σ H ρ s out s' E ⟨Hf,j⟩ st e po=>?_⟩;obtain⟨ds,s1,a1,a2⟩:=Zv e;refine qi kn jT H0 σ Hf H ρ s ds s1 _ j st a1 fun Jt jU H1 j1 e1 j9 it=>?_;refine⟨fun i m σ2 H2=>∃ρ2 s2,J G own jU jT H0 σ2 H2 ρ2/\G.st s2 H2/\Wg τ g (ds.drop i) ρ2 s2=some (out,s')/\i<=ds.length/\m=ds.length-i,⟨_,ρ,s1,⟨jU,⟨j1.len,.refl _ _,j1.gr,j1.fz,j1.ow,j1.ne⟩⟩,j9,a2,zj _,rfl⟩,?_⟩;rintro i m σ2 H2 ⟨ρ2,s2,⟨jY,j2⟩,j7,eq2,hle,rfl⟩;obtain⟨i1,i2⟩:=it i jY H2 s2 j2.kn j2.gr.fh j7;by_cases hlt:i<ds.length
 ·have hd:ds.drop i=ds[i]::ds.drop (i+1):=yN hlt
  rw[hd] at eq2;obtain⟨ρ3,s3,b1,b2⟩:=Zv eq2;obtain⟨b1',e3⟩:=X0 b1;subst e3;obtain⟨o,s4,b3,b4⟩:=Zv b2;obtain⟨go,yl⟩:=i1 ds[i] (by simp[hlt]);refine .inr ⟨go,fun σ' H'=>∃ρ5 s5,J G own jU jT H0 σ' H' ρ5/\G.st s5 H'/\Wg τ g (ds.drop (i+1)) ρ5 s5=some (out,s'),fun σ' H' ⟨ρ5,s5,j5,st5,q5⟩=>⟨_,by omega,ρ5,s5,j5,st5,q5,hlt,rfl⟩,fun x H3 y3=>?_⟩;obtain⟨Hf3,g3,st3,r3⟩:=yl x H3 y3;have j3:=j2.grow g3;refine qg x σ2 Hf3 H3 ds[i] ρ2 ρ3 _ g3.fh r3 b1' fun σ3 sets=>?_;have j4:=sets.jf j3;refine qb jU jT H0 σ3 H3 ρ3 s3 o s4 _ ⟨Hf3,j4⟩ st3 b3 ?_
  cases o with
  | nx ρ5=>exact fun σ5 H5 j5 st5=>⟨ρ5,s4,j5,st5,b4⟩
  | ct ρ5=>exact fun σ5 H5 j5 st5=>⟨ρ5,s4,j5,st5,b4⟩
  | bk ρ5=>
   obtain⟨rfl,rfl⟩:=ZL b4;exact fun σ5 H5 ⟨Hf5,j5⟩ st5=>po σ5 H5 ⟨Hf5,j5.weak (j.kn.trans e1)⟩ st5
  | rt d=>
   obtain⟨rfl,rfl⟩:=ZL b4;exact po
 ·have hd:ds.drop i=[]:=qbw.mpr (by omega)
  rw[hd] at eq2;obtain⟨rfl,rfl⟩:=ZL eq2;exact .inl ⟨i2 (by omega),po σ2 H2 ⟨jY,j2.weak (j.kn.trans e1)⟩ j7⟩
end
noncomputable def runB (n k:Nat)(g:Zb->M Out):List D->M D:=fun ds=>if ds.length=k then Zm (g (ds.map some++qu (n-k) none)) fun o=>match o with | .rt d=>ZD d | .nx _=>ZD .non | _=>Zz else Zz
theorem Xe {P:Program}{w:World}{K:qf}{mg:Str->Option Value}{base:Heap}{x qual:Str}{st:Stmt}{f:Addr}{fd:FuncData}{N ps:List Str}{k:Nat}{own:List Nat}{fr:Bool}{GG:Gh->Prop}{g:Zb->M Out}
  (F:Fun K x qual st f fd) (S:FnScope N ps (Zx st))
  (hb:∀(cdv:Value) (A:Around) (outer:List Env) (s:Shared) (H:Hp) (E:XK),Room k (A.deeper (envOfC qual (Zx st) s.heap.objs.size f cdv))->∀G,GG G->XV (WI ZO P w K mg base N qual (Zx st) f cdv A outer s H E).nox G [] [] own fr (X8 st) g) :
  FnOk P w K mg base ZO (k+1) f fd ps (Yn ps.length fr GG (runB N.length ps.length g)):=by
 refine F.ok S (fun vs H Q E h=>?_) fun cdv A outer s H vs Q E hr h=>?_
 ·obtain⟨G,Hf,ds,pn,d,pn',_,e,_⟩:=h
  exact e
 ·obtain⟨G,Hf,ds,pn,d,pn',hG,el,e1,r,st',eF,k'⟩:=h
  obtain⟨t,p,q⟩:=hb cdv A outer s H E hr G hG;refine⟨t,p,?_⟩;obtain⟨hl,a0⟩:=YV eF;obtain⟨o,s1,a1,a2⟩:=Zv a0;have hpl:ps.length<=N.length:=by have:=congrArg qbe S.pre;rw[zU] at this;omega
  have j0:Jf G [] Hf Hf H (L2.start N vs) Hf H (ds.map some++qu (N.length-ps.length) none):=by
   refine⟨?_,.refl _ _,.refl e1,fun i d n e=>?_,fun i d m e=>?_,fun i j a di dj mi mj n e=>?_⟩
   ·unfold L2.start;simp;omega
   ·have hi:i<ds.length:=by
     by_cases hi:i<ds.length
     ·exact hi
     ·rw[yh (by simpa using hi),z7] at e
      split at e <;> cases e
    have e':ds[i]?=some d:=by
     rw[zJ (by simpa using hi),qA] at e
     cases q:ds[i]? with
     | none=>rw[q] at e;cases e
     | some c=>rw[q] at e;simp at e;rw[e]
    obtain⟨v,h1,h2⟩:=r.get e';refine⟨v,?_,h2⟩;unfold L2.start;rw[zJ (by simp;rw[<-r.length];exact hi),qA,h1];rfl
   ·exact absurd m (by simp)
   ·exact absurd mi (by simp)
  refine q Hf Hf H (L2.start N vs) H _ pn o s1 _ ⟨Hf,j0⟩ st' a1 ?_
  cases o with
  | rt c=>
   obtain⟨rfl,rfl⟩:=ZL a2;exact fun v Hf' H' g' j7 r2 fz=>k' v Hf' H' g' j7 r2 fz
  | nx ρ'=>
   obtain⟨rfl,rfl⟩:=ZL a2;exact fun σ' H' ⟨Hf',j'⟩ j7=>k' .non Hf' H' j'.gr j7 (jg.mpr rfl) fun _=>.scal fun z=>z
  | bk ρ'=>cases a2
  | ct ρ'=>cases a2
noncomputable def tOf (G:Gh)(fr:Bool)(f:Zb->M D):TE:=fun σ H Q=>∃(Hf:Hp) (ρ:Zb) (s:Pn) (d:D) (s':Pn),Zw G Hf H/\Yw G Hf σ ρ/\G.st s H/\f ρ s=some (d,s')/\
 ∀v Hf' H',Gr G Hf H Hf' H'->G.st s' H'->Zj G Hf' d v->(fr=true->Yo G H Hf' d v)->Q v H'
noncomputable def Ux (G:Gh)(f:Zb->M Bool):TT:=fun σ H Q=>∃(Hf:Hp) (ρ:Zb) (s:Pn) (b:Bool) (s':Pn),Zw G Hf H/\Yw G Hf σ ρ/\G.st s H/\f ρ s=some (b,s')/\
 ∀Hf' H',Gr G Hf H Hf' H'->G.st s' H'->Q b H'
noncomputable def gOf (G:Gh)(ok:Nat->Prop)(τ:D->Zb->Option Zb):TG:=fun x σ H Q=>∃(Hf:Hp) (d:D) (ρ ρ':Zb),Zw G Hf H/\Zj G Hf d x/\τ d ρ=some ρ'/\∀σ',Sets G Hf ok σ ρ σ' ρ'->Q σ' H
section
variable {X:Cx}{G:Gh}{own:List Nat}{fr:Bool}{f:Zb->M D}
theorem PD.canon {e:Expr}(h:PD X G fr e f):PE X e (tOf G fr f):=by
 obtain⟨t,p,q⟩:=h;exact fun jJ s σ H Q I ⟨Hf,ρ,pn,d,pn',a1,a2,a3,a4,k⟩=>p jJ s σ H Q I (q σ Hf H ρ pn d pn' Q a1 a2 a3 a4 k)
theorem Wr.canon {e:Expr}{f:Zb->M Bool}(h:Wr X G e f):PT X e (Ux G f):=by
 obtain⟨t,p,q⟩:=h;exact fun jJ s σ H Q I ⟨Hf,ρ,pn,d,pn',a1,a2,a3,a4,k⟩=>p jJ s σ H Q I (q σ Hf H ρ pn d pn' Q a1 a2 a3 a4 k)
theorem WN.canon {tg:Expr}{ok:Nat->Prop}{τ:D->Zb->Option Zb}(h:WN X G tg ok τ):PG X tg (gOf G ok τ):=by
 obtain⟨t,p,q⟩:=h;exact fun jJ s σ H v u Q I r ⟨Hf,d,ρ,ρ',a1,a2,a3,k⟩=>p jJ s σ H v u Q I r (q v σ Hf H d ρ ρ' Q a1 a2 a3 k)
noncomputable def Wn (src:List (Option Nat))(ρ:Zb):Zb:=src.map fun o=>o.bind fun j=>(ρ[j]?).bind id
theorem Zfh {Hf:Hp}{σ:St}{ρ:Zb}{src:List (Option Nat)}(h:Yw G Hf σ ρ):Yw G Hf (Vj src σ) (Wn src ρ):=fun i d e=>by
 unfold Wn at e;rw[qA] at e
 cases q:src[i]? with
 | none=>rw[q] at e;cases e
 | some o=>
  rw[q] at e
  cases o with
  | none=>simp at e
  | some j=>
   simp only[zL,Option.bind_some,qaQ] at e;have hj:ρ[j]?=some (some d):=by
    cases e2:ρ[j]? with
    | none=>rw[e2] at e;cases e
    | some o2=>rw[e2] at e;simp at e;rw[e]
   obtain⟨v,h1,h2⟩:=h j d hj;refine⟨v,?_,h2⟩;unfold Vj;rw[qA,q];simp[h1]
theorem Sets.len {Hf:Hp}{ok:Nat->Prop}{σ σ':St}{ρ ρ':Zb}(h:Sets G Hf ok σ ρ σ' ρ'):(σ.length=ρ.length->σ'.length=ρ'.length)/\σ'.length=σ.length:=by
 induction h with
 | nil=>exact⟨fun e=>e,rfl⟩
 | cons _ _ _ ih=>exact⟨fun e=>ih.1 (by simp[e]),ih.2.trans (by simp)⟩
theorem Sets.env {Hf:Hp}{ok:Nat->Prop}{σ σ':St}{ρ ρ':Zb}(h:Sets G Hf ok σ ρ σ' ρ'):σ.length=ρ.length->Yw G Hf σ ρ->Yw G Hf σ' ρ':=by
 induction h with
 | nil=>exact fun _ e=>e
 | @cons σ ρ σ' ρ' i d v o r _ ih=>
  intro hl he;refine ih (by simp[hl]) fun k c e=>?_;by_cases h:i=k
  ·subst h
   have hk:i < ρ.length:=by
    have:=(qB.mp e).1;simpa using this
   rw[zb hk] at e
   cases e
   exact⟨v,zb (by rw[hl];exact hk),r⟩
  ·rw[qO h] at e⊢
   exact he k c e
theorem Sets.envOld {Hf:Hp}{ok:Nat->Prop}{σ σ':St}{ρ ρ' ρ0:Zb}(h:Sets G Hf ok σ ρ σ' ρ')(h0:∀i d,ok i->ρ0[i]?≠some (some d)):Yw G Hf σ ρ0->Yw G Hf σ' ρ0:=by
 induction h with
 | nil=>exact fun e=>e
 | @cons σ ρ σ' ρ' i d v o r _ ih=>
  intro he;refine ih fun k c e=>?_;have hne:i≠k:=fun z=>h0 k c (z▸o) e;rw[qO hne];exact he k c e
noncomputable def Uu (τ:D->Zb->Option Zb)(ft:Zb->M Bool)(fe:Zb->M D)(ρ:Zb):List D->M (List D)
 | []=>ZD []
 | d::ds=>Zm (YN (τ d ρ)) fun ρ1=>Zm (ft ρ1) fun b=>if b=true then Zm (fe ρ1) fun c=>Zm (Uu τ ft fe ρ ds) fun r=>ZD (c::r) else Uu τ ft fe ρ ds
noncomputable def Z0 (src:List (Option Nat))(fi:Zb->M (List D))(τ:D->Zb->Option Zb)(ft:Zb->M Bool)(fe:Zb->M D):Zb->M D:=fun ρ=>
 Zm (fi ρ) fun ds=>if ds.length<=sizeLine then Zm (Uu τ ft fe (Wn src ρ) ds) fun r=>ZD (.lst r) else Zz
noncomputable def Ya:Zb->M Bool:=fun _=>ZD true
theorem Zel {src:List (Option Nat)}{wi:TI}{fi:Zb->M (List D)}{τ:D->Zb->Option Zb}{ft:Zb->M Bool}{fe:Zb->M D}{r1:Bool}
  (qi:∀(σ:St) (Hf H:Hp) (ρ:Zb) (s:Pn) (ds:List D) (s':Pn) (R:It->Hp->Prop),Zw G Hf H->Yw G Hf σ ρ->G.st s H->fi ρ s=some (ds,s')->
   (∀J Hf' H',Gr G Hf H Hf' H'->G.st s' H'->Wp G J Hf' ds->R J H')->wi σ H R) :
  XH G true (JY src wi (gOf G (fun i=>src[i]?=some none) τ) (Ux G ft) (tOf G r1 fe)) (Z0 src fi τ ft fe):=by
 intro σ Hf H ρ s d s' Q e1 e2 e3 e4 k;obtain⟨ds,s1,a1,a2⟩:=Zv e4;obtain⟨hz,a3⟩:=YV a2;obtain⟨r,s2,a4,a5⟩:=Zv a3;obtain⟨rfl,rfl⟩:=ZL a5;refine qi σ Hf H ρ s ds s1 _ e1 e2 e3 a1 fun Jt jU H1 g1 j9 it=>?_;intro p hp;have nrp:=jC j9 hp;have nfp:=ju nrp;have hf1p:jU p=none:=by
  cases e:jU p with
  | none=>rfl
  | some o=>rw[g1.fh p o nfp e] at hp;cases hp
 have h0:∀(i:Nat) (d:D),src[i]?=some none->(Wn src ρ)[i]?≠some (some d):=fun i d e q=>by
  unfold Wn at q;rw[qA,e] at q;simp at q
 refine⟨fun i m σ2 H2=>∃(jY:Hp) (s2:Pn) (vs:List V) (jQ rest:List D),i<=ds.length/\m=ds.length-i/\Gr G jU H1 jY H2/\Yw G jY σ2 (Wn src ρ)/\σ2.length=(Wn src ρ).length/\G.st s2 H2/\jY p=none/\H2 p=some (.lst vs)/\Zg G jY jQ vs/\jQ.length<=i/\
  Uu τ ft fe (Wn src ρ) (ds.drop i) s2=some (rest,s')/\jQ++rest=r,⟨_,jU,s1,[],[],r,zj _,rfl,?_,?_,?_,Gh.grow j9 hp,hf1p,ZI,Zg.nil_iff.mpr rfl,qp _,a4,rfl⟩,?_⟩
 ·refine⟨fun b o n e=>?_,.refl _ _,fun b o n e=>?_,fun b n h1 h2=>h1⟩
  ·rw[Zo (ZP e hp)];exact e
  ·rw[Zo (ZP e hf1p)];exact g1.fh b o n e
 ·exact Zfh (e2.ext g1.ff)
 ·unfold Vj Wn;simp
 ·rintro i m σ2 H2 ⟨jY,sz,vs,jQ,rest,hle,rfl,g2,env2,len2,j7,hfp2,hp2,racc,hacc,eq2,hr⟩
  obtain⟨i1,i2⟩:=it i jY H2 sz g2.ff g2.fh j7;by_cases hlt:i<ds.length
  ·have hd:ds.drop i=ds[i]::ds.drop (i+1):=yN hlt
   rw[hd] at eq2;obtain⟨ρ3,s3,b1,b2⟩:=Zv eq2;obtain⟨b1',e3'⟩:=X0 b1;subst e3';obtain⟨bo,s4,b3,b4⟩:=Zv b2;obtain⟨go,yl⟩:=i1 ds[i] (by simp[hlt]);refine .inr ⟨go,fun x H3 y3=>?_⟩;obtain⟨Hf3,g3,st3,r3⟩:=yl x H3 y3;refine⟨Hf3,ds[i],Wn src ρ,ρ3,g3.fh,r3,b1',fun σ4 sets=>?_⟩;have env2':=env2.ext g3.ff;have env4:=sets.env len2 env2';have env4':=sets.envOld h0 env2';refine⟨Hf3,ρ3,s3,bo,s4,g3.fh,env4,st3,b3,fun Hf5 H5 g5 st5=>?_⟩;have g25:=g3.trans g5;have hfp5:Hf5 p=none:=g25.nw p nfp hfp2 ⟨_,hp2,fun _ z=>by cases z⟩;have hp5:H5 p=some (.lst vs):=g25.hh p _ nfp hp2
   cases bo with
   | false=>
    refine Vn ⟨ds.length-(i+1),by omega,Hf5,s4,vs,jQ,rest,hlt,rfl,g2.trans g25,env4'.ext g5.ff,by rw[<-len2];exact sets.len.2,st5,hfp5,hp5,racc.ext g25.ff,by omega,?_,hr⟩;exact b4
   | true=>
    have b4':Zm (fe ρ3) (fun c=>Zm (Uu τ ft fe (Wn src ρ) (ds.drop (i+1))) fun r=>ZD (c::r)) s4=some (rest,s'):=b4;obtain⟨c,s6,b5,b6⟩:=Zv b4';obtain⟨rr,s7,b7,b8⟩:=Zv b6;obtain⟨rfl,rfl⟩:=ZL b8;refine VE ⟨Hf5,ρ3,s4,c,s6,g5.fh,env4.ext g5.ff,st5,b5,fun v Hf6 H6 g6 st6 r6 _=>?_⟩;have hfp6:Hf6 p=none:=g6.nw p nfp hfp5 ⟨_,hp5,fun _ z=>by cases z⟩;have hp6:H6 p=some (.lst vs):=g6.hh p _ nfp hp5;have hl:vs.length<sizeLine:=by rw[<-racc.length];omega
    refine⟨vs,hp6,hl,ds.length-(i+1),by omega,Hf6,s6,vs ++ [v],jQ ++ [c],rr,hlt,rfl,?_,(env4'.ext g5.ff).ext g6.ff,by rw[<-len2];exact sets.len.2,?_,hfp6,ZI,(racc.ext (g25.ff.trans g6.ff)).append (.one r6),by simp;omega,b7,by rw[<-hr];simp⟩
    ·have gg:=(g2.trans g25).trans g6
     refine⟨fun b o n e=>?_,gg.ff,fun b o n e=>?_,gg.nw⟩
     ·rw[Zo (ZP e hp)];exact gg.hh b o n e
     ·rw[Zo (ZP e hfp6)];exact gg.fh b o n e
    ·refine G.mono _ _ _ st6 (fun b o rb e=>?_) fun b φ e=>?_
     ·have:b≠p:=fun z=>nrp (z▸rb)
      rw[Zo this];exact e
     ·have:b≠p:=fun z=>by rw[z,hp6] at e;cases e
      rw[Zo this];exact e
  ·have hd:ds.drop i=[]:=qbw.mpr (by omega)
   rw[hd] at eq2;obtain⟨rfl,rfl⟩:=ZL eq2;refine .inl ⟨i2 (by omega),?_⟩;rw[zm] at hr;subst hr;refine k (.ref p) (Zk jY p (.lst vs)) H2 (g1.trans ⟨g2.hh,fun b o n e=>?_,fun b o n e=>?_,fun b n h1 h2=>?_⟩) j7 (jc.mpr ⟨p,vs,rfl,nfp,ZI,racc.ext fun b o n e=>?_⟩) fun _ a ea _=>?_
   ·rw[Zo (ZP (g2.ff b o n e) hfp2)];exact g2.ff b o n e
   ·by_cases hb:b=p
    ·subst hb;rw[ZI] at e;rw[hp2];exact e
    ·rw[Zo hb] at e;exact g2.fh b o n e
   ·have:b≠p:=fun z=>h2.no (z▸hp)
    rw[Zo this];exact g2.nw b n h1 h2
   ·rw[Zo (ZP e hfp2)];exact e
   ·cases ea
    refine⟨?_,fun ds' ed=>?_⟩
    ·cases q:H p with
     | none=>rfl
     | some o=>rw[g1.hh p o nfp q] at hp;cases hp
    ·cases ed
     exact⟨vs,jY,ZI,hfp2,fun b o n e=>by rw[Zo (ZP e hfp2)];exact e,racc⟩
theorem WD:W3 X [] (Ux G Ya):=fun jJ s σ H Q I ⟨Hf,ρ,pn,b,pn',a1,a2,a3,a4,k⟩=>by
 obtain⟨rfl,rfl⟩:=ZL a4;exact Zih jJ s σ H Q I (k Hf H (.refl a1) a3)
theorem VC {c:Expr}{ft:Zb->M Bool}(h:Wr X G c ft):W3 X [c] (Ux G ft):=Zeg h.canon
theorem Jf.put {kn jT H0 Hf H:Hp}{σ:St}{ρ:Zb}{i:Nat}{a:Addr}{d d':D}{o':HO}(j:Jf G own kn jT H0 σ Hf H ρ)(hi:i∈own)(e:ρ[i]?=some (some d))(sa:σ[i]?=some (some (.ref a)))
  (new:Vz G Hf (Zk H a o') a d'):Jf G own kn jT H0 σ Hf (Zk H a o') (ρ.set i (some d')):=by
 obtain⟨a',h1,h2,h3,h4,h5⟩:=j.ow i d hi e;rw[sa] at h1;cases h1;have il:i < ρ.length:=(qB.mp e).1;refine⟨by simp[j.len],j.kn,⟨fun b o n q=>?_,j.gr.ff,fun b o n q=>?_,j.gr.nw⟩,fun k c n q=>?_,fun k c m q=>?_,fun k l b dk dl mk ml n ek el sk sl=>?_⟩
 ·rw[Zo (ZP q h4)];exact j.gr.hh b o n q
 ·rw[Zo (ZP q h3)];exact j.gr.fh b o n q
 ·have hne:i≠k:=fun z=>n (z▸hi)
  rw[qO hne] at q;exact j.fz k c n q
 ·by_cases hk:i=k
  ·subst hk
   rw[zb il] at q
   cases q
   exact⟨a,sa,h2,h3,h4,new⟩
  ·rw[qO hk] at q
   obtain⟨b,g1,g2,g3,g4,g5⟩:=j.ow k c m q;have hab:b≠a:=fun z=>j.ne i k a d c hi m hk e q sa (z▸g1);exact⟨b,g1,g2,g3,g4,g5.keep (.refl _ _) fun o z=>by rw[Zo hab];exact z⟩
 ·have ek':∃d,ρ[k]?=some (some d):=by
   by_cases hk:i=k
   ·exact⟨d,hk▸e⟩
   ·rw[qO hk] at ek;exact⟨_,ek⟩
  have el':∃d,ρ[l]?=some (some d):=by
   by_cases hl:i=l
   ·exact⟨d,hl▸e⟩
   ·rw[qO hl] at el;exact⟨_,el⟩
  obtain⟨_,ek'⟩:=ek';obtain⟨_,el'⟩:=el';exact j.ne k l b _ _ mk ml n ek' el' sk sl
theorem UO {kn jT H0 Hf H:Hp}{σ:St}{ρ:Zb}{i:Nat}{ds:List D}(j:Jf G own kn jT H0 σ Hf H ρ)(hi:i∈own)(e:ρ[i]?=some (some (.lst ds))) :
  ∃a vs,σ[i]?=some (some (.ref a))/\¬G.rd a/\H a=some (.lst vs)/\Zg G Hf ds vs:=by
 obtain⟨a,h1,h2,h3,h4,vs,h5,h6⟩:=j.ow i _ hi e;exact⟨a,vs,h1,h2,h5,h6⟩
theorem JM {ρ:Zb}{i:Nat}{d:D}(h:(ρ[i]?).bind id=some d):ρ[i]?=some (some d):=by
 cases q:ρ[i]? with
 | none=>rw[q] at h;cases h
 | some o=>rw[q] at h;simp at h;rw[h]
theorem jv {s:Pn}{H:Hp}{a:Addr}{o:HO}(st:G.st s H)(h:¬G.rd a)
  (hx:∀φ,H a≠some (.ext φ):=by intro φ z;first | (have z2:=z.symm.trans (by assumption:_=some (L2.HO.lst _));cases z2) | (have z2:=z.symm.trans (by assumption:_=some (L2.HO.dK _));cases z2) | (have z2:=z.symm.trans (by assumption:_=some (L2.HO.dT _));cases z2)):G.st s (Zk H a o):=G.mono _ _ _ st (fun b u rb e=>by
 have:b≠a:=fun z=>h (z▸rb);rw[Zo this];exact e) fun b φ e=>by
 have:b≠a:=fun z=>hx φ (z▸e);rw[Zo this];exact e
noncomputable def U9 (i:Nat)(f:Zb->M D):Zb->M Out:=fun ρ=>Zm (f ρ) fun d=>match (ρ[i]?).bind id with
 | some (.lst ds)=>if ds.length<sizeLine then ZD (.nx (ρ.set i (some (.lst (ds ++ [d]))))) else Zz
 | _=>Zz
theorem Zkc {i:Nat}{ob:List Nat}{te:TE}{r1:Bool}(hi:i∈own)(hy:W4 G own r1 te f) :
  Bg G ob own own fr (VR (V4 X.K "list" BJ (Z7 i) (We te Wf))) (U9 i f):=fun kn jT H0 σ H ρ s out s' E ⟨Hf,j⟩ st e po=>by
 obtain⟨d,s1,a1,a2⟩:=Zv e
 cases hb:(ρ[i]?).bind id with
 | none=>rw[hb] at a2;cases a2
 | some c=>
  rw[hb] at a2
  cases c with
  | lst ds=>
   have a2':(if ds.length<sizeLine then ZD (.nx (ρ.set i (some (.lst (ds ++ [d]))))) else Zz) s1=some (out,s'):=a2;obtain⟨c2,a3⟩:=YV a2';obtain⟨rfl,rfl⟩:=ZL a3;have ei:=JM hb;obtain⟨a,vs,h1,h2,h3,h4⟩:=UO j hi ei;refine⟨_,h1,.inl ⟨rfl,vs,Zu.of h3⟩,?_⟩;refine hy kn jT H0 σ Hf H ρ s d s' _ j st a1 fun v Hf' H' j' e1 e2 st' r fz=>?_;obtain⟨a',vs',h1',h2',h3',h4'⟩:=UO j' hi ei;rw[h1] at h1';cases h1';refine⟨a,vs',v,rfl,rfl,h3',by rw[<-h4'.length];exact c2,?_⟩;exact po σ _ ⟨Hf',j'.put hi ei h1 ⟨vs' ++ [v],ZI,h4'.append (.one r)⟩⟩ (jv st' h2)
  | _=>cases a2
theorem Zdc {i:Nat}{x:Str}{e:Expr}{pos p1 p2 p3:Pos}{te:TE}(hv:PE X (.Name x p1) (Z7 i))(p:PE X e te)
  (hbase:attributeBase (.Name x p1) "append" X.env (eval (.Name x p1) X.env)=eval (.Name x p1) X.env:=by rfl)
  (hfew:((backTo p3 (starEach [e] X.env)).all (fun x=>!x.1)&&(backToKw p3 (keywordEach [] X.env)).all (fun x=>x.1.isSome)
   && decide ([e].length+([]:List Keyword).length+(if ([]:List Keyword).isEmpty then 0 else 1)<30))=true:=by rfl)
  (hline:(p2.endLine==p3.line)=true:=by rfl) (hs:starEach [e] X.env=(false,eval e X.env)::starEach [] X.env:=by rfl)
  (hsw:swapsWith (.Call (.Attribute (.Name x p1) "append" p2) [e] [] p3) none pos.line X.env=pure false:=by rfl) :
  PS X (.Expr (.Call (.Attribute (.Name x p1) "append" p2) [e] [] p3) pos) (VR (V4 X.K "list" BJ (Z7 i) (We te Wf))):=
 ZdE (B2 yy PySem.F.slot_list_append PySem.F.type_list_append Zc7 hv (Y4 p Xs hs) hbase hfew hline hs rfl) hsw
section
variable {i:Nat}{x:Str}{e:Expr}{pos p1 p2 p3:Pos}{r1:Bool}{ob:List Nat}{st:Stmt}
theorem Zem (hi:i∈own)(he:PD X G r1 e f)(hp:∀te,PE X e te->PS X st (VR (V4 X.K "list" BJ (Z7 i) (We te Wf)))):Yx X G ob own own fr st (U9 i (fun ρ=>f (Z8 own ρ))):=by
 obtain⟨t,p,q⟩:=he;exact⟨_,hp t p,Zkc hi (XH.a q)⟩
end
end
section
variable {X:Cx}{G:Gh}
noncomputable def dI (C:Int->Int->Bool)(g:Int->Int->D):D->D->Option D
 | .int i,.int j=>if C i j=true then some (g i j) else none
 | _,_=>none
theorem Zge {C:Int->Int->Bool}{g:Int->Int->D}{d e c:D}(h:dI C g d e=some c):∃i j,d=.int i/\e=.int j/\C i j=true/\c=g i j:=by
 match d,e,h with
 | .int i,.int j,h=>
  have h':(if C i j=true then some (g i j) else none)=some c:=h;split at h'
  ·rename_i hc;cases h';exact⟨i,j,rfl,rfl,hc,rfl⟩
  ·cases h'
theorem Zld {f:Value->Value->Sem Value}{C:Int->Int->Prop}{Cb:Int->Int->Bool}{g:Int->Int->Int}(h:Yi X f (rI C fun i j=>.int (g i j)))(hc:∀i j,Cb i j=true->C i j):Xp X G f (dI Cb fun i j=>.int (g i j)):=
 ⟨_,h,fun Hf H s x y d e c Q e1 st rx ry q k=>by
  obtain⟨i,j,rfl,rfl,hcb,rfl⟩:=Zge q;exact⟨i,j,ja.mp rx,ja.mp ry,hc i j hcb,k _ Hf H (.refl e1) st (ja.mpr rfl) (.scal fun z=>z)⟩⟩
theorem Zfi {f:Value->Value->Sem Value}{g:Int->Int->Bool}(h:Yi X f (Xn fun i j=>.bl (g i j))):Xp X G f (dI (fun _ _=>true) fun i j=>.bl (g i j)):=
 ⟨_,h,fun Hf H s x y d e c Q e1 st rx ry q k=>by
  obtain⟨i,j,rfl,rfl,hcb,rfl⟩:=Zge q;exact⟨i,j,ja.mp rx,ja.mp ry,k _ Hf H (.refl e1) st (je.mpr rfl) (.scal fun z=>z)⟩⟩
noncomputable def dSub:=dI (fun _ _=>true) fun i j=>.int (i-j)
noncomputable def J0 (i j:Int):Bool:=(decide (-(2 ^ 64)<i)&&decide (i<2 ^ 64))||(decide (-(2 ^ 64)<j)&&decide (j<2 ^ 64))
noncomputable def Uy:=dI J0 fun i j=>.int (i*j)
noncomputable def dMod:=dI (fun _ j=>decide (0<j)) fun i j=>.int (i % j)
noncomputable def WK:=dI (fun i j=>decide (0<=j)&&decide (j<=1000000)&&decide (i.natAbs<2 ^ 64)) fun i j=>.int (i ^ j.toNat)
theorem ZdK:Xp X G (binaryOp .Mult) Uy:=Zld Uo fun i j h=>by
 simp only[J0,yO,zd,decide_eq_true_eq] at h;exact h
theorem JN:Xp X G (binaryOp .Pow) WK:=Zld Zh3 fun i j h=>by
 simp only[zd,decide_eq_true_eq] at h;exact⟨h.1.1,h.1.2,h.2⟩
noncomputable def Jj:=dI (fun _ _=>true) fun i j=>.bl (decide (i<=j))
noncomputable def dGt:=dI (fun _ _=>true) fun i j=>.bl (decide (j<i))
noncomputable def V5:=dI (fun _ _=>true) fun i j=>.bl (decide (j<=i))
theorem Zio:Xp X G (compareOp .LtE) Jj:=Zfi ZmT
theorem Zl5:Xp X G (compareOp .Gt) dGt:=Zfi Zh5
theorem Zip:Xp X G (compareOp .GtE) V5:=Zfi Zk5
noncomputable def ZH:List D->Option (List Int)
 | []=>some []
 | .int i::ds=>(ZH ds).map (i :: ·)
 | _::_=>none
theorem Wv:∀{ds:List D} {ns:List Int},ZH ds=some ns->ds=ns.map D.int
 | [],ns,h=>by simp[ZH] at h;subst h;rfl
 | .int i::ds,ns,h=>by
  cases e:ZH ds with
  | none=>simp[ZH,e] at h
  | some ms=>simp[ZH,e] at h;subst h;simp[Wv e]
 | .non::_,_,h=>by simp[ZH] at h
 | .bl _::_,_,h=>by simp[ZH] at h
 | .str _::_,_,h=>by simp[ZH] at h
 | .tup _::_,_,h=>by simp[ZH] at h
 | .lst _::_,_,h=>by simp[ZH] at h
 | .dk _::_,_,h=>by simp[ZH] at h
 | .dt _::_,_,h=>by simp[ZH] at h
 | .du _::_,_,h=>by simp[ZH] at h
 | .df _::_,_,h=>by simp[ZH] at h
 | .pen::_,_,h=>by simp[ZH] at h
 | .ty _::_,_,h=>by simp[ZH] at h
theorem Jx (ns:List Int):ZH (ns.map D.int)=some ns:=by
 induction ns with
 | nil=>rfl
 | cons n ns ih=>simp[ZH,ih]
theorem jn {H:Hp}:∀{ns:List Int} {vs:List V},Zg G H (ns.map D.int) vs->vs=ns.map V.int
 | [],vs,h=>Zg.nil_iff.mp h
 | n::ns,vs,h=>by
  obtain⟨v,r,rfl,h1,h2⟩:=jd.mp h;rw[ja.mp h1,jn h2];rfl
noncomputable def dLt:D->D->Option D
 | .int i,.int j=>some (.bl (decide (i<j)))
 | .tup a,.tup b=>match ZH a,ZH b with | some ns,some ms=>some (.bl (HT.lexLt ns ms)) | _,_=>none
 | _,_=>none
theorem Ziq (hu:X.A.units<cLine):Xp X G (compareOp .Lt) dLt:=
 ⟨_,Zk4.or (ZlU hu),fun Hf H s x y d e c Q e1 st rx ry q k=>by
  match d,e,q,rx,ry with
  | .int i,.int j,q,rx,ry=>
   cases q
   exact .inl ⟨i,j,ja.mp rx,ja.mp ry,k _ Hf H (.refl e1) st (je.mpr rfl) (.scal fun z=>z)⟩
  | .tup a,.tup b,q,rx,ry=>
   have q:(match ZH a,ZH b with | some ns,some ms=>some (D.bl (HT.lexLt ns ms)) | _,_=>none)=some c:=q
   cases ea:ZH a with
   | none=>rw[ea] at q;simp at q
   | some ns=>
    cases eb:ZH b with
    | none=>rw[ea,eb] at q;simp at q
    | some ms=>
     rw[ea,eb] at q
     cases q
     rw[Wv ea] at rx;rw[Wv eb] at ry;obtain⟨p,vs,rfl,np,hp,rp⟩:=jb.mp rx;obtain⟨p2,vs2,rfl,np2,hp2,rp2⟩:=jb.mp ry;rw[jn rp] at hp;rw[jn rp2] at hp2;exact .inr ⟨p,p2,ns,ms,rfl,rfl,ZF.of (e1 _ _ np hp),ZF.of (e1 _ _ np2 hp2),k _ Hf H (.refl e1) st (je.mpr rfl) (.scal fun z=>z)⟩⟩
theorem Zkd:Yi X (binaryOp .Add) (fun x y H Q=>∃a b ys,x=.ref a/\y=.ref b/\ZF X.K H a []/\ZF X.K H b ys/\Q (.ref b) H):=by
 intro jJ s σ H x y v u Q I rx ry h;obtain⟨a,b,ys,rfl,rfl,ha,hb,q⟩:=h
 cases rx
 cases ry
 obtain⟨jL,r1,p1,_⟩:=I.tuple ha;obtain⟨jS,r2,p2,_⟩:=I.tuple hb;have e0:jL=[]:=by cases r1;rfl
 subst e0;obtain⟨⟨cls,dd,data,sl⟩,ho,hc,n,hd⟩:=id p1;obtain⟨⟨cls2,dd2,data2,sl2⟩,ho2,hc2,n2,hd2⟩:=id p2;simp only at hc hd hc2 hd2;subst hc hd hc2 hd2;exact concat_meets ⟨_,ho,rfl⟩ ⟨_,ho2,rfl⟩ noFill_tuple_add seq_tuple_add qai y9 (yT _ _)
   (tuple_addW0 a b ([]:List Value).toArray jS.toArray n n2 dd dd2 sl sl2 rfl) ⟨ho,ho2,⟨.ref b,H,I,rfl,q⟩⟩
noncomputable def YZ:D->D->Option D
 | .int i,.int j=>some (.int (i+j))
 | .tup a,.tup b=>if a.length+b.length<=sizeLine then some (.tup (a++b)) else none
 | .lst a,.lst b=>if a.length+b.length<=sizeLine then some (.lst (a++b)) else none
 | _,_=>none
theorem Ve:Xp X G (binaryOp .Add) YZ:=
 ⟨_,VO.or (ZlX.or (Zj0.or Zkd)),fun Hf H s x y d e c Q e1 st rx ry q k=>by
  match d,e,q,rx,ry with
  | .int i,.int j,q,rx,ry=>
   cases q
   exact .inl ⟨i,j,ja.mp rx,ja.mp ry,k _ Hf H (.refl e1) st (ja.mpr rfl) (.scal fun z=>z)⟩
  | .lst a,.lst b,q,rx,ry=>
   have q:(if a.length+b.length<=sizeLine then some (D.lst (a++b)) else none)=some c:=q;split at q
   ·rename_i hz
    cases q
    obtain⟨p,vs,rfl,np,hp,rp⟩:=jc.mp rx;obtain⟨p2,vs2,rfl,np2,hp2,rp2⟩:=jc.mp ry;refine .inr (.inl ⟨p,p2,vs,vs2,rfl,rfl,e1 _ _ np hp,e1 _ _ np2 hp2,by rw[<-rp.length,<-rp2.length];exact hz,fun l hl=>?_⟩);have nf:=Gh.nofp st hl;have g2:=Gr.new (o:=.lst (vs++vs2)) e1 hl nf;have rr:=rp.append rp2;exact k (.ref l) _ _ g2 (Gh.grow st hl) (jc.mpr ⟨l,_,rfl,nf,ZI,rr.ext g2.ff⟩) (Yo.mk e1 hl nf rr)
   ·cases q
  | .tup a,.tup b,q,rx,ry=>
   have q:(if a.length+b.length<=sizeLine then some (D.tup (a++b)) else none)=some c:=q;split at q
   ·rename_i hz
    cases q
    obtain⟨p,vs,rfl,np,hp,rp⟩:=jb.mp rx;obtain⟨p2,vs2,rfl,np2,hp2,rp2⟩:=jb.mp ry;by_cases hv:vs=[]
    ·subst hv
     have ea:a=[]:=z8.mp (by rw[rp.length];rfl);subst ea;exact .inr (.inr (.inr ⟨p,p2,vs2,rfl,rfl,ZF.of (e1 _ _ np hp),ZF.of (e1 _ _ np2 hp2),k _ Hf H (.refl e1) st ry (.scal fun z=>z)⟩))
    ·refine .inr (.inr (.inl ⟨p,p2,vs,vs2,rfl,rfl,ZF.of (e1 _ _ np hp),ZF.of (e1 _ _ np2 hp2),hv,by rw[<-rp.length,<-rp2.length];exact hz,fun z=>?_,fun _ l hl=>?_⟩))
     ·subst z
      have eb:b=[]:=z8.mp (by rw[rp2.length];rfl);subst eb;rw[zm] at k;exact k _ Hf H (.refl e1) st rx (.scal fun z=>z)
     ·have nf:=Gh.nofp st hl
      have g2:=Gr.new (o:=.tup (vs++vs2)) e1 hl nf;exact k (.ref l) _ _ g2 (Gh.grow st hl) (jb.mpr ⟨l,_,rfl,nf,ZI,(rp.append rp2).ext g2.ff⟩) (.scal fun z=>z)
   ·cases q⟩
noncomputable def Zl:D->D->Option D
 | .lst ds,.int i=>Xo ds i
 | .tup ds,.int i=>Xo ds i
 | _,_=>none
theorem Zgf {Hf:Hp}{ds:List D}{vs:List V}{i:Int}{c:D}(r:Zg G Hf ds vs)(h:Xo ds i=some c):∃v,Xo vs i=some v/\Zj G Hf c v:=by
 unfold Xo at h⊢;rw[<-r.length]
 cases e:XX ds.length i with
 | none=>rw[e] at h;cases h
 | some j=>
  rw[e] at h;obtain⟨v,h1,h2⟩:=r.get (i:=j) (d:=c) h;exact⟨v,h1,h2⟩
theorem ZZ:IxD X G Zl:=
 ⟨_,BI.or ZlV,fun Hf H s x y d e c Q e1 st rx ry q k=>by
  match d,e,q,rx,ry with
  | .lst ds,.int i,q,rx,ry=>
   obtain⟨p,vs,rfl,np,hp,rp⟩:=jc.mp rx;obtain⟨v,h1,h2⟩:=Zgf rp q;exact .inl ⟨p,vs,i,v,rfl,ja.mp ry,Zu.of (e1 _ _ np hp),h1,k v h2⟩
  | .tup ds,.int i,q,rx,ry=>
   obtain⟨p,vs,rfl,np,hp,rp⟩:=jb.mp rx;obtain⟨v,h1,h2⟩:=Zgf rp q;exact .inr ⟨p,vs,i,v,rfl,ja.mp ry,ZF.of (e1 _ _ np hp),h1,k v h2⟩⟩
theorem jh {H:Hp}{d:D}{xs:List V}(h:Zg G H [d] xs):∃v,xs=[v]/\Zj G H d v:=by
 obtain⟨v,r,rfl,h1,h2⟩:=jd.mp h;rw[Zg.nil_iff.mp h2];exact⟨v,rfl,h1⟩
theorem jr {H:Hp}{d e:D}{xs:List V}(h:Zg G H [d,e] xs):∃v w,xs=[v,w]/\Zj G H d v/\Zj G H e w:=by
 obtain⟨v,r,rfl,h1,h2⟩:=jd.mp h;obtain⟨w,rfl,h3⟩:=jh h2;exact⟨v,w,rfl,h1,h3⟩
noncomputable def YC:List D->Option D
 | [.lst ds]=>some (.int ds.length)
 | [.tup ds]=>some (.int ds.length)
 | _=>none
theorem Zfj:XS X G (.builtin "len") YC:=
 ⟨_,Zav,fun Hf H s xs ds c Q e1 st r q k=>by
  match ds,q,r with
  | [.lst es],q,r=>
   cases q
   obtain⟨v,rfl,rv⟩:=jh r;obtain⟨p,vs,rfl,np,hp,rp⟩:=jc.mp rv;exact⟨p,vs,rfl,.inl (Zu.of (e1 _ _ np hp)),k _ Hf H (.refl e1) st (ja.mpr (by rw[rp.length])) (.scal fun z=>z)⟩
  | [.tup es],q,r=>
   cases q
   obtain⟨v,rfl,rv⟩:=jh r;obtain⟨p,vs,rfl,np,hp,rp⟩:=jb.mp rv;exact⟨p,vs,rfl,.inr (ZF.of (e1 _ _ np hp)),k _ Hf H (.refl e1) st (ja.mpr (by rw[rp.length])) (.scal fun z=>z)⟩⟩
noncomputable def JS:List D->Option D
 | [.lst ds]=>some (.tup ds)
 | [.tup ds]=>some (.tup ds)
 | _=>none
theorem Zaw:XS X G (.type "tuple") JS:=
 ⟨_,ZcM,fun Hf H s xs ds c Q e1 st r q k=>by
  match ds,q,r with
  | [.lst es],q,r=>
   cases q
   obtain⟨v,rfl,rv⟩:=jh r;obtain⟨p,vs,rfl,np,hp,rp⟩:=jc.mp rv;refine⟨p,vs,rfl,.inl ⟨Zu.of (e1 _ _ np hp),fun l hl=>?_⟩⟩;have nf:=Gh.nofp st hl;have g2:=Gr.new (o:=.tup vs) e1 hl nf;exact k (.ref l) _ _ g2 (Gh.grow st hl) (jb.mpr ⟨l,_,rfl,nf,ZI,rp.ext g2.ff⟩) (.scal fun z=>z)
  | [.tup es],q,r=>
   cases q
   obtain⟨v,rfl,rv⟩:=jh r;obtain⟨p,vs,rfl,np,hp,rp⟩:=jb.mp rv;exact⟨p,vs,rfl,.inr ⟨ZF.of (e1 _ _ np hp),k _ Hf H (.refl e1) st rv (.scal fun z=>z)⟩⟩⟩
noncomputable def Zir:List D->Option D
 | [.int i,.int j]=>some (.int (if j > i then j else i))
 | _=>none
noncomputable def B4:List D->Option D
 | [.int i,.int j]=>some (.int (if j<i then j else i))
 | _=>none
theorem Zfk (hc:X.calm=true):XS X G (.builtin "max") Zir:=
 ⟨_,ZgO hc,fun Hf H s xs ds c Q e1 st r q k=>by
  match ds,q,r with
  | [.int i,.int j],q,r=>
   cases q
   obtain⟨v,w,rfl,rv,rw'⟩:=jr r;rw[ja.mp rv,ja.mp rw'];exact⟨i,j,rfl,k _ Hf H (.refl e1) st (ja.mpr rfl) (.scal fun z=>z)⟩⟩
theorem Zfl (hc:X.calm=true):XS X G (.builtin "min") B4:=
 ⟨_,ZgP hc,fun Hf H s xs ds c Q e1 st r q k=>by
  match ds,q,r with
  | [.int i,.int j],q,r=>
   cases q
   obtain⟨v,w,rfl,rv,rw'⟩:=jr r;rw[ja.mp rv,ja.mp rw'];exact⟨i,j,rfl,k _ Hf H (.refl e1) st (ja.mpr rfl) (.scal fun z=>z)⟩⟩
noncomputable def Zis:List D->Option D
 | [.int i]=>some (.int i)
 | [.bl b]=>some (.int (if b then 1 else 0))
 | _=>none
theorem Zfm:XS X G (.type "int") Zis:=
 ⟨_,ZgQ,fun Hf H s xs ds c Q e1 st r q k=>by
  match ds,q,r with
  | [.int i],q,r=>
   cases q
   obtain⟨v,rfl,rv⟩:=jh r;rw[ja.mp rv];exact .inl ⟨i,rfl,k _ Hf H (.refl e1) st (ja.mpr rfl) (.scal fun z=>z)⟩
  | [.bl i],q,r=>
   cases q
   obtain⟨v,rfl,rv⟩:=jh r;rw[je.mp rv];exact .inr ⟨i,rfl,k _ Hf H (.refl e1) st (ja.mpr rfl) (.scal fun z=>z)⟩⟩
noncomputable def Y5:List D->Option (List Bool)
 | []=>some []
 | .bl b::ds=>(Y5 ds).map (b :: ·)
 | _::_=>none
theorem Zb3:∀{ds:List D} {ns:List Bool},Y5 ds=some ns->ds=ns.map D.bl
 | [],ns,h=>by simp[Y5] at h;subst h;rfl
 | .bl i::ds,ns,h=>by
  cases e:Y5 ds with
  | none=>simp[Y5,e] at h
  | some ms=>simp[Y5,e] at h;subst h;simp[Zb3 e]
 | .non::_,_,h=>by simp[Y5] at h
 | .int _::_,_,h=>by simp[Y5] at h
 | .str _::_,_,h=>by simp[Y5] at h
 | .tup _::_,_,h=>by simp[Y5] at h
 | .lst _::_,_,h=>by simp[Y5] at h
 | .dk _::_,_,h=>by simp[Y5] at h
 | .dt _::_,_,h=>by simp[Y5] at h
 | .du _::_,_,h=>by simp[Y5] at h
 | .df _::_,_,h=>by simp[Y5] at h
 | .pen::_,_,h=>by simp[Y5] at h
 | .ty _::_,_,h=>by simp[Y5] at h
theorem Zen (ns:List Bool):Y5 (ns.map D.bl)=some ns:=by
 induction ns with
 | nil=>rfl
 | cons n ns ih=>simp[Y5,ih]
theorem jy {H:Hp}:∀{ns:List Bool} {vs:List V},Zg G H (ns.map D.bl) vs->vs=ns.map V.bl
 | [],vs,h=>Zg.nil_iff.mp h
 | n::ns,vs,h=>by
  obtain⟨v,r,rfl,h1,h2⟩:=jd.mp h;rw[je.mp h1,jy h2];rfl
theorem Zb4:∀{bs:List Bool} {us:List Value},Zs (bs.map V.bl) us->us=bs.map zE
 | [],_,.nil=>rfl
 | b::bs,_,.cons r t=>by
  cases (show _=zE b from r)
  rw[Zb4 t];rfl
theorem Zfn {hc:X.calm=true}{jJ:List (Addr×Obj)}{s:Shared}{σ:St}{H:Hp}{p:Addr}{bs:List Bool}{Q:Value->Shared->Prop}{E:Value->Shared->Prop}(fin:Bool)(I:Inv X jJ σ H s)(h:H p=some (.lst (bs.map V.bl)))
  (fn:(Nat->Bool)->List Nat->Bool) (hq:∀s',Inv X jJ σ H s'->Q (.bool (fn (fun i=>bs.getD i false) (qm bs.length))) s') :
  wpAny (model X.prog X.w) X.A.in1 (pyIter (.ref p)) (fun it s₂=>∃I fp wr n P St tr,it=.ref I/\Walks X.prog X.w X.A.in1 I fp wr n P St/\St 0 s₂.heap/\TruthOf X.prog X.w X.A.in1 P tr/\
   ∀h' tk,(∀b o,b∉wr->s₂.heap.get? b=some o->h'.get? b=some o)->Q (.bool (fn tr (qm n))) { s₂ with heap:=h',toks:=tk }) E s:=by
 obtain⟨jL,rv,pl,hz⟩:=I.list (Zu.of h);have eu:=Zb4 rv;subst eu;refine wpAny_pyIter_list pl.isList ?_;have hne:p≠s.heap.objs.size:=qP (by
  obtain⟨o,ho,_⟩:=pl.isList;exact qz ho)
 refine⟨s.heap.objs.size,_,_,_,_,_,fun i=>bs.getD i false,rfl,Walks.list (A:=X.A.in1) (I.ok.hd hc) s.heap.objs.size p hne _,⟨⟨_,qy _ rfl,rfl,rfl⟩,pl.isList.at fun o e=>qd _ e⟩,?_,?_⟩
 ·intro i v s' Q' E' hP hQ'
  have hv:v=.bool (bs.getD i false):=by
   have e:(bs.map zE).toArray[i]?=some v:=hP;rw[List.getElem?_toArray,qA] at e
   cases q:bs[i]? with
   | none=>rw[q] at e;cases e
   | some b=>rw[q] at e;cases e;simp[qaF,q]
  subst hv;exact wpAny_truthy_bool hQ'
 ·intro h' tk hk
  have:(List.map zE bs).toArray.size=bs.length:=by simp
  rw[this];have I1:Inv X jJ σ H { s with heap:=s.heap.push { cls:=.type "list_iterator",data:=.fields #[.ref p,.int 0 0] } }:=I.kept (t':=s.toks) fun b o e=>qd _ e;refine hq _ (I.kept (t':=tk) fun b o e=>hk b o ?_ (qd _ e));have:=qP (qz e);simpa using this
theorem Zit (bs:List Bool):(qm bs.length).any (fun i=>bs.getD i false)=bs.any id:=by
 induction bs with
 | nil=>rfl
 | cons b bs ih=>
  rw[qT,qaj,yK,List.any_map];show(b||(qm bs.length).any fun i=>bs.getD i false)=_;rw[ih];rfl
theorem ZgY (hc:X.calm=true):Xy X (.builtin "any") (fun xs H Q=>∃(p:Addr) (bs:List Bool),xs=[.ref p]/\H p=some (.lst (bs.map V.bl))/\Q (.bl (bs.any id)) H):=by
 intro jJ s σ H xs us Q I r h;obtain⟨p,bs,rfl,hp,q⟩:=h;obtain⟨u,rfl,ru⟩:=X2 r
 cases ru
 refine call_any_walk (Zfn (hc:=hc) true I hp (fun t l=>l.any t) fun s' I'=>⟨.bl (bs.any id),H,I',?_,q⟩);show zE _=_;rw[Zit]
noncomputable def Ja:List D->Option D
 | [.lst ds]=>(Y5 ds).map fun bs=>.bl (bs.any id)
 | _=>none
theorem ZgZ (hc:X.calm=true):XS X G (.builtin "any") Ja:=
 ⟨_,ZgY hc,fun Hf H s xs ds c Q e1 st r q k=>by
  match ds,q,r with
  | [.lst es],q,r=>
   obtain⟨v,rfl,rv⟩:=jh r;obtain⟨p,vs,rfl,np,hp,rp⟩:=jc.mp rv
   cases e:Y5 es with
   | none=>simp[Ja,e] at q
   | some bs=>
    simp[Ja,e] at q;subst q;rw[Zb3 e] at rp;rw[jy rp] at hp;exact⟨p,bs,rfl,e1 _ _ np hp,k _ Hf H (.refl e1) st (je.mpr rfl) (.scal fun z=>z)⟩⟩
end
mutual
noncomputable def Zn:D->Bool
 | .non=>true
 | .bl _=>true
 | .int _=>true
 | .str _=>true
 | .tup ds=>Yv ds
 | .lst ds=>Yv ds
 | _=>false
noncomputable def Yv:List D->Bool
 | []=>true
 | d::ds=>Zn d&&Yv ds
end
mutual
noncomputable def Yc:D->Nat
 | .tup ds=>Xv ds+1
 | .lst ds=>Xv ds+1
 | _=>0
noncomputable def Xv:List D->Nat
 | []=>0
 | d::ds=>max (Yc d) (Xv ds)
end
theorem UP:∀{ds:List D} {d:D},d∈ds->Yc d<=Xv ds
 | e::ds,d,h=>by
  rcases qt.mp h with rfl | h
  ·simp only[Xv];omega
  ·have:=UP h
   simp only[Xv];omega
theorem Uf:∀{ds:List D} {d:D},Yv ds=true->d∈ds->Zn d=true
 | e::ds,d,n,h=>by
  have n':Zn e=true/\Yv ds=true:=by simpa[Yv] using n
  rcases qt.mp h with rfl | h
  ·exact n'.1
  ·exact Uf n'.2 h
mutual
noncomputable def ZE:D->D->Bool
 | .non,.non=>true
 | .bl a,.bl b=>a==b
 | .bl a,.int i=>(if a then 1 else 0)==i
 | .int i,.bl b=>i==(if b then 1 else 0)
 | .int i,.int j=>i==j
 | .str x,.str y=>x==y
 | .tup a,.tup b=>Xj a b
 | .lst a,.lst b=>Xj a b
 | _,_=>false
noncomputable def Xj:List D->List D->Bool
 | [],[]=>true
 | a::as,b::bs=>ZE a b&&Xj as bs
 | _,_=>false
end
mutual
theorem Zb5:∀d:D,Zn d=true->ZE d d=true
 | .non,_=>by simp[ZE]
 | .bl _,_=>by simp[ZE]
 | .int _,_=>by simp[ZE]
 | .str _,_=>by simp[ZE]
 | .tup ds,h=>by simp only[ZE];exact Zbs ds (by simpa[Zn] using h)
 | .lst ds,h=>by simp only[ZE];exact Zbs ds (by simpa[Zn] using h)
 | .dk _,h=>by simp[Zn] at h
 | .dt _,h=>by simp[Zn] at h
 | .du _,h=>by simp[Zn] at h
 | .df _,h=>by simp[Zn] at h
 | .pen,h=>by simp[Zn] at h
 | .ty _,h=>by simp[Zn] at h
 | .clo _ _,h=>by simp[Zn] at h
theorem Zbs:∀ds:List D,Yv ds=true->Xj ds ds=true
 | [],_=>by simp[Xj]
 | d::ds,h=>by
  have n':Zn d=true/\Yv ds=true:=by simpa[Yv] using h
  simp only[Xj,Zb5 d n'.1,Zbs ds n'.2,Bool.and_self]
end
theorem Zb6:∀{a b:List D},Xj a b=true->a.length=b.length
 | [],[],_=>rfl
 | a::as,b::bs,h=>by
  have:ZE a b=true/\Xj as bs=true:=by simpa[Xj] using h
  simp[Zb6 this.2]
 | [],_::_,h=>by simp[Xj] at h
 | _::_,[],h=>by simp[Xj] at h
theorem Za2:∀(a b:List D),a.length=b.length->(qm a.length).all (fun j=>ZE (a.getD j .non) (b.getD j .non))=Xj a b
 | [],[],_=>rfl
 | a::as,b::bs,h=>by
  have h':as.length=bs.length:=by simpa using h
  rw[qT,qaj,List.all_cons,List.all_map,Xj,<-Za2 as bs h'];rfl
 | [],_::_,h=>by simp at h
 | _::_,[],h=>by simp at h
theorem Zeo:∀(a b:List D),((qm (min a.length b.length)).all (fun j=>ZE (a.getD j .non) (b.getD j .non))&&a.length==b.length)=Xj a b:=fun a b=>by
 by_cases h:a.length=b.length
 ·rw[<-Za2 a b h,h];simp
 ·have:Xj a b=false:=by
   cases e:Xj a b with
   | false=>rfl
   | true=>exact absurd (Zb6 e) h
  rw[this];simp[h]
mutual
theorem Zj.inj {G:Gh}{H:Hp}:∀{d e:D} {v:V},Zn d=true->Zn e=true->Zj G H d v->Zj G H e v->d=e
 | .non,e,v,_,pe,h,h'=>by
  rw[jg.mp h] at h'
  cases e <;> first | rfl | (simp[Zn] at pe;done) | (simp[Zj] at h')
 | .bl b,e,v,_,pe,h,h'=>by
  rw[je.mp h] at h'
  cases e <;> first | (simp[Zn] at pe;done) | (simp[Zj] at h';rw[h']) | (simp[Zj] at h')
 | .int b,e,v,_,pe,h,h'=>by
  rw[ja.mp h] at h'
  cases e <;> first | (simp[Zn] at pe;done) | (simp[Zj] at h';rw[h']) | (simp[Zj] at h')
 | .str b,e,v,_,pe,h,h'=>by
  rw[ji.mp h] at h'
  cases e <;> first | (simp[Zn] at pe;done) | (simp[Zj] at h';rw[h']) | (simp[Zj] at h')
 | .tup ds,e,v,pd,pe,h,h'=>by
  obtain⟨a,vs,rfl,n,q,r⟩:=jb.mp h
  cases e with
  | tup es=>
   obtain⟨a',vs',e',n',q',r'⟩:=jb.mp h'
   cases e'
   rw[q] at q';cases q';rw[Zg.inj (by simpa[Zn] using pd) (by simpa[Zn] using pe) r r']
  | lst es=>
   obtain⟨a',vs',e',n',q',r'⟩:=jc.mp h'
   cases e'
   rw[q] at q';cases q'
  | _=>first | (simp[Zj] at h';done) | (simp[Zn] at pe;done)
 | .lst ds,e,v,pd,pe,h,h'=>by
  obtain⟨a,vs,rfl,n,q,r⟩:=jc.mp h
  cases e with
  | lst es=>
   obtain⟨a',vs',e',n',q',r'⟩:=jc.mp h'
   cases e'
   rw[q] at q';cases q';rw[Zg.inj (by simpa[Zn] using pd) (by simpa[Zn] using pe) r r']
  | tup es=>
   obtain⟨a',vs',e',n',q',r'⟩:=jb.mp h'
   cases e'
   rw[q] at q';cases q'
  | _=>first | (simp[Zj] at h';done) | (simp[Zn] at pe;done)
 | .dk _,_,_,pd,_,_,_=>by simp[Zn] at pd
 | .dt _,_,_,pd,_,_,_=>by simp[Zn] at pd
 | .du _,_,_,pd,_,_,_=>by simp[Zn] at pd
 | .df _,_,_,pd,_,_,_=>by simp[Zn] at pd
 | .pen,_,_,pd,_,_,_=>by simp[Zn] at pd
 | .ty _,_,_,pd,_,_,_=>by simp[Zn] at pd
 | .clo _ _,_,_,pd,_,_,_=>by simp[Zn] at pd
theorem Zg.inj {G:Gh}{H:Hp}:∀{ds es:List D} {vs:List V},Yv ds=true->Yv es=true->Zg G H ds vs->Zg G H es vs->ds=es
 | [],es,vs,_,pe,h,h'=>by
  rw[Zg.nil_iff.mp h] at h'
  cases es with
  | nil=>rfl
  | cons e es=>obtain⟨v,r,e1,_⟩:=jd.mp h';cases e1
 | d::ds,es,vs,pd,pe,h,h'=>by
  obtain⟨v,r,rfl,r1,r2⟩:=jd.mp h;have pd':Zn d=true/\Yv ds=true:=by simpa[Yv] using pd
  cases es with
  | nil=>have:=Zg.nil_iff.mp h';cases this
  | cons e es=>
   obtain⟨v',r',e1,r1',r2'⟩:=jd.mp h'
   cases e1
   have pe':Zn e=true/\Yv es=true:=by simpa[Yv] using pe
   rw[Zj.inj pd'.1 pe'.1 r1 r1',Zg.inj pd'.2 pe'.2 r2 r2']
end
section
variable {X:Cx}{G:Gh}{jJ:List (Addr×Obj)}{σ:St}{Hf H:Hp}{s:Shared}
theorem Jz (A:Around):A.in1.units=A.units+1:=rfl
theorem BM {ds:List D}{vs:List V}{us:List Value}(r:Zg G Hf ds vs)(rv:Zs vs us){j:Nat}(h:j<us.toArray.size):∃v,Zj G Hf (ds.getD j .non) v/\ZA v us.toArray[j]/\ds.getD j .non∈ds:=by
 have hl:j<ds.length:=by rw[r.length,rv.length];simpa using h
 have e:ds[j]?=some (ds.getD j .non):=by simp[qaF,hl]
 obtain⟨v,h1,h2⟩:=r.get e;obtain⟨u,h3,h4⟩:=rv.get h1;refine⟨v,h2,?_,?_⟩
 ·have:us.toArray[j]=u:=by
   have h':j<us.length:=by simpa using h
   have q:us[j]?=some us[j]:=by simp[h']
   rw[h3] at q;simpa using(qY q).symm
  rw[this];exact h4
 ·simp[qaF,hl]
theorem Ziu (I:Inv X jJ σ H s)(e1:Zw G Hf H):∀(n:Nat) (A:Around) (d e:D) (x y:V) (u v:Value),Yc d<=n->Yc e<=n->A.units+n+1<cLine->Zn d=true->Zn e=true->Zj G Hf d x->Zj G Hf e y->ZA x u->ZA y v->
  yF A s u v (ZE d e)/\qbx A s u v (ZE d e)/\qa0 A s u v (!ZE d e):=by
 intro n
 induction n with
 | zero=>
  intro A d e x y u v hd he hu pd pe rd re ru rv;have hu':A.units<cLine:=by omega
  cases d with
  | tup ds=>simp[Yc] at hd
  | lst ds=>simp[Yc] at hd
  | dk _=>simp[Zn] at pd
  | dt _=>simp[Zn] at pd
  | du _=>simp[Zn] at pd
  | df _=>simp[Zn] at pd
  | pen=>simp[Zn] at pd
  | ty _=>simp[Zn] at pd
  | clo _ _=>simp[Zn] at pd
  | non=>
   rw[jg.mp rd] at ru
   cases (show u=qL from ru)
   cases e with
   | tup ds=>simp[Yc] at he
   | lst ds=>simp[Yc] at he
   | dk _=>simp[Zn] at pe
   | dt _=>simp[Zn] at pe
   | du _=>simp[Zn] at pe
   | df _=>simp[Zn] at pe
   | pen=>simp[Zn] at pe
   | ty _=>simp[Zn] at pe
   | clo _ _=>simp[Zn] at pe
   | non=>rw[jg.mp re] at rv;cases (show v=qL from rv);simp only[ZE];exact⟨.same _,.none_none,.none_none⟩
   | bl b=>rw[je.mp re] at rv;cases (show v=zE b from rv);simp only[ZE];exact⟨.none_bool b,.none_bool b,.none_bool b⟩
   | int b=>rw[ja.mp re] at rv;obtain⟨t,rfl⟩:=rv;simp only[ZE];exact⟨.none_int b t,.none_int b t,.none_int b t⟩
   | str b=>rw[ji.mp re] at rv;obtain⟨t,rfl⟩:=rv;simp only[ZE];exact⟨.none_str b t,.none_str b t,.none_str b t⟩
  | bl a=>
   rw[je.mp rd] at ru
   cases (show u=zE a from ru)
   cases e with
   | tup ds=>simp[Yc] at he
   | lst ds=>simp[Yc] at he
   | dk _=>simp[Zn] at pe
   | dt _=>simp[Zn] at pe
   | du _=>simp[Zn] at pe
   | df _=>simp[Zn] at pe
   | pen=>simp[Zn] at pe
   | ty _=>simp[Zn] at pe
   | clo _ _=>simp[Zn] at pe
   | non=>rw[jg.mp re] at rv;cases (show v=qL from rv);simp only[ZE];exact⟨.bool_none a,.bool_none a,.bool_none a⟩
   | bl b=>rw[je.mp re] at rv;cases (show v=zE b from rv);simp only[ZE];exact⟨.bool_bool a b,.bool_bool a b,.bool_bool a b⟩
   | int b=>rw[ja.mp re] at rv;obtain⟨t,rfl⟩:=rv;simp only[ZE];exact⟨.bool_int a b t,.bool_int a b t,.bool_int a b t⟩
   | str b=>rw[ji.mp re] at rv;obtain⟨t,rfl⟩:=rv;simp only[ZE];exact⟨.bool_str a b t,.bool_str a b t,.bool_str a b t⟩
  | int a=>
   rw[ja.mp rd] at ru;obtain⟨ta,rfl⟩:=ru
   cases e with
   | tup ds=>simp[Yc] at he
   | lst ds=>simp[Yc] at he
   | dk _=>simp[Zn] at pe
   | dt _=>simp[Zn] at pe
   | du _=>simp[Zn] at pe
   | df _=>simp[Zn] at pe
   | pen=>simp[Zn] at pe
   | ty _=>simp[Zn] at pe
   | clo _ _=>simp[Zn] at pe
   | non=>rw[jg.mp re] at rv;cases (show v=qL from rv);simp only[ZE];exact⟨.int_none a ta,.int_none a ta,.int_none a ta⟩
   | bl b=>rw[je.mp re] at rv;cases (show v=zE b from rv);simp only[ZE];exact⟨.int_bool a ta b,.int_bool a ta b,.int_bool a ta b⟩
   | int b=>rw[ja.mp re] at rv;obtain⟨t,rfl⟩:=rv;simp only[ZE];exact⟨.int_int a ta b t,.int_int a ta b t,.int_int a ta b t⟩
   | str b=>rw[ji.mp re] at rv;obtain⟨t,rfl⟩:=rv;simp only[ZE];exact⟨.int_str a ta b t,.int_str a ta b t,.int_str a ta b t⟩
  | str a=>
   rw[ji.mp rd] at ru;obtain⟨ta,rfl⟩:=ru
   cases e with
   | tup ds=>simp[Yc] at he
   | lst ds=>simp[Yc] at he
   | dk _=>simp[Zn] at pe
   | dt _=>simp[Zn] at pe
   | du _=>simp[Zn] at pe
   | df _=>simp[Zn] at pe
   | pen=>simp[Zn] at pe
   | ty _=>simp[Zn] at pe
   | clo _ _=>simp[Zn] at pe
   | non=>rw[jg.mp re] at rv;cases (show v=qL from rv);simp only[ZE];exact⟨.str_none a ta,.str_none a ta,.str_none a ta⟩
   | bl b=>rw[je.mp re] at rv;cases (show v=zE b from rv);simp only[ZE];exact⟨.str_bool a ta b,.str_bool a ta b,.str_bool a ta b⟩
   | int b=>rw[ja.mp re] at rv;obtain⟨t,rfl⟩:=rv;simp only[ZE];exact⟨.str_int a ta b t,.str_int a ta b t,.str_int a ta b t⟩
   | str b=>rw[ji.mp re] at rv;obtain⟨t,rfl⟩:=rv;simp only[ZE];exact⟨.str_str a ta b t,.str_str a ta b t,.str_str a ta b t⟩
 | succ n ih=>
  intro A d e x y u v hd he hu pd pe rd re ru rv;have hu':A.units<cLine:=by omega
  by_cases hs:Yc d<=n/\Yc e<=n
  ·exact ih A d e x y u v hs.1 hs.2 (by omega) pd pe rd re ru rv
  -- two refs
  have same:∀{l b:Addr},x=.ref l->y=.ref b->l=b->ZE d e=true:=fun ex ey el=>by
   subst ex ey el;have:=Zj.inj pd pe rd re;subst this;exact Zb5 d pd
  cases d with
  | dk _=>simp[Zn] at pd
  | dt _=>simp[Zn] at pd
  | du _=>simp[Zn] at pd
  | df _=>simp[Zn] at pd
  | pen=>simp[Zn] at pd
  | ty _=>simp[Zn] at pd
  | clo _ _=>simp[Zn] at pd
  | tup ds=>
   obtain⟨l,vs,rfl,nl,hl,rl⟩:=jb.mp rd
   cases (show u=qI l from ru)
   obtain⟨jL,rits,pits,_⟩:=I.tuple (ZF.of (K:=X.K) (e1 _ _ nl hl));have il:s.heap.IsTuple l jL.toArray:=pits
   cases e with
   | dk _=>simp[Zn] at pe
   | dt _=>simp[Zn] at pe
   | du _=>simp[Zn] at pe
   | df _=>simp[Zn] at pe
   | pen=>simp[Zn] at pe
   | ty _=>simp[Zn] at pe
   | clo _ _=>simp[Zn] at pe
   | non=>rw[jg.mp re] at rv;cases (show v=qL from rv);simp only[ZE];exact⟨.tuple_none il hu',.tuple_none il hu',.tuple_none il hu'⟩
   | bl b=>rw[je.mp re] at rv;cases (show v=zE b from rv);simp only[ZE];exact⟨.tuple_bool b il hu',.tuple_bool b il hu',.tuple_bool b il hu'⟩
   | int b=>rw[ja.mp re] at rv;obtain⟨t,rfl⟩:=rv;simp only[ZE];exact⟨.tuple_int b t il hu',.tuple_int b t il hu',.tuple_int b t il hu'⟩
   | str b=>rw[ji.mp re] at rv;obtain⟨t,rfl⟩:=rv;simp only[ZE];exact⟨.tuple_str b t il hu',.tuple_str b t il hu',.tuple_str b t il hu'⟩
   | lst es=>
    obtain⟨b,ws,rfl,nb,hb,rb⟩:=jc.mp re
    cases (show v=qI b from rv)
    obtain⟨jS,km,jZ,_⟩:=I.list (Zu.of (K:=X.K) (e1 _ _ nb hb));simp only[ZE];exact⟨.tuple_list il jZ.isList hu',.tuple_list il jZ.isList hu',.tuple_list il jZ.isList hu'⟩
   | tup es=>
    obtain⟨b,ws,rfl,nb,hb,rb⟩:=jb.mp re
    cases (show v=qI b from rv)
    obtain⟨jS,km,jZ,_⟩:=I.tuple (ZF.of (K:=X.K) (e1 _ _ nb hb));have ib:s.heap.IsTuple b jS.toArray:=jZ;have hit:∀j (h1:j<jL.toArray.size) (h2:j<jS.toArray.size),yF A.in1 s jL.toArray[j] jS.toArray[j] ((fun j=>ZE (ds.getD j .non) (es.getD j .non)) j):=fun j h1 h2=>by
     obtain⟨v1,a1,a2,a3⟩:=BM rl rits h1;obtain⟨v2,b1,b2,b3⟩:=BM rb km h2;exact(ih A.in1 _ _ v1 v2 _ _ (qZ (UP a3) (by simp[Yc] at hd;omega)) (qZ (UP b3) (by simp[Yc] at he;omega)) (by rw[Jz];omega)
      (Uf (by simpa[Zn] using pd) a3) (Uf (by simpa[Zn] using pe) b3) a1 b1 a2 b2).1
    have sz1:jL.toArray.size=ds.length:=by rw[rl.length,rits.length];simp
    have sz2:jS.toArray.size=es.length:=by rw[rb.length,km.length];simp
    have rc:=qbx.tuples (e:=fun j=>ZE (ds.getD j .non) (es.getD j .non)) il ib hu' hit;have rn:=qa0.tuples (e:=fun j=>ZE (ds.getD j .non) (es.getD j .non)) il ib hu' hit;rw[sz1,sz2,Zeo] at rc rn;simp only[ZE];refine⟨?_,rc,rn⟩;by_cases hlb:l=b
    ·have q:=same rfl rfl hlb
     simp only[ZE] at q;subst hlb;rw[q];exact .same _
    ·exact .of_refs hlb rc
  | lst ds=>
   obtain⟨l,vs,rfl,nl,hl,rl⟩:=jc.mp rd
   cases (show u=qI l from ru)
   obtain⟨jL,rits,pits,_⟩:=I.list (Zu.of (K:=X.K) (e1 _ _ nl hl));have il:=pits.isList
   cases e with
   | dk _=>simp[Zn] at pe
   | dt _=>simp[Zn] at pe
   | du _=>simp[Zn] at pe
   | df _=>simp[Zn] at pe
   | pen=>simp[Zn] at pe
   | ty _=>simp[Zn] at pe
   | clo _ _=>simp[Zn] at pe
   | non=>rw[jg.mp re] at rv;cases (show v=qL from rv);simp only[ZE];exact⟨.list_none il hu',.list_none il hu',.list_none il hu'⟩
   | bl b=>rw[je.mp re] at rv;cases (show v=zE b from rv);simp only[ZE];exact⟨.list_bool b il hu',.list_bool b il hu',.list_bool b il hu'⟩
   | int b=>rw[ja.mp re] at rv;obtain⟨t,rfl⟩:=rv;simp only[ZE];exact⟨.list_int b t il hu',.list_int b t il hu',.list_int b t il hu'⟩
   | str b=>rw[ji.mp re] at rv;obtain⟨t,rfl⟩:=rv;simp only[ZE];exact⟨.list_str b t il hu',.list_str b t il hu',.list_str b t il hu'⟩
   | tup es=>
    obtain⟨b,ws,rfl,nb,hb,rb⟩:=jb.mp re
    cases (show v=qI b from rv)
    obtain⟨jS,km,jZ,_⟩:=I.tuple (ZF.of (K:=X.K) (e1 _ _ nb hb));have ib:s.heap.IsTuple b jS.toArray:=jZ;simp only[ZE];exact⟨.list_tuple il ib hu',.list_tuple il ib hu',.list_tuple il ib hu'⟩
   | lst es=>
    obtain⟨b,ws,rfl,nb,hb,rb⟩:=jc.mp re
    cases (show v=qI b from rv)
    obtain⟨jS,km,jZ,_⟩:=I.list (Zu.of (K:=X.K) (e1 _ _ nb hb));have ib:=jZ.isList;have hit:∀j (h1:j<jL.toArray.size) (h2:j<jS.toArray.size),yF A.in1 s jL.toArray[j] jS.toArray[j] ((fun j=>ZE (ds.getD j .non) (es.getD j .non)) j):=fun j h1 h2=>by
     obtain⟨v1,a1,a2,a3⟩:=BM rl rits h1;obtain⟨v2,b1,b2,b3⟩:=BM rb km h2;exact(ih A.in1 _ _ v1 v2 _ _ (qZ (UP a3) (by simp[Yc] at hd;omega)) (qZ (UP b3) (by simp[Yc] at he;omega)) (by rw[Jz];omega)
      (Uf (by simpa[Zn] using pd) a3) (Uf (by simpa[Zn] using pe) b3) a1 b1 a2 b2).1
    have sz1:jL.toArray.size=ds.length:=by rw[rl.length,rits.length];simp
    have sz2:jS.toArray.size=es.length:=by rw[rb.length,km.length];simp
    have key:qbx A s (.ref l) (.ref b) (Xj ds es)/\qa0 A s (.ref l) (.ref b) (!Xj ds es):=by
     by_cases hsz:ds.length=es.length
     ·have rc:=qbx.lists (e:=fun j=>ZE (ds.getD j .non) (es.getD j .non)) il ib (by rw[sz1,sz2];exact hsz) hu' hit
      have rn:=qa0.lists (e:=fun j=>ZE (ds.getD j .non) (es.getD j .non)) il ib (by rw[sz1,sz2];exact hsz) hu' hit;rw[sz1,Za2 ds es hsz] at rc rn;exact⟨rc,rn⟩
     ·have hne:(jL.toArray.size != jS.toArray.size)=true:=by rw[sz1,sz2];simpa using hsz
      have hf:Xj ds es=false:=by
       cases e:Xj ds es with
       | false=>rfl
       | true=>exact absurd (Zb6 e) hsz
      rw[hf];exact⟨.lists_lengths il ib hne hu',.lists_lengths il ib hne hu'⟩
    simp only[ZE];refine⟨?_,key.1,key.2⟩;by_cases hlb:l=b
    ·have q:=same rfl rfl hlb
     simp only[ZE] at q;subst hlb;rw[q];exact .same _
    ·exact .of_refs hlb key.1
  | non=>
   rw[jg.mp rd] at ru
   cases (show u=qL from ru)
   cases e with
   | tup es=>
    obtain⟨b,ws,rfl,nb,hb,rb⟩:=jb.mp re
    cases (show v=qI b from rv)
    obtain⟨jS,km,jZ,_⟩:=I.tuple (ZF.of (K:=X.K) (e1 _ _ nb hb));have ib:s.heap.IsTuple b jS.toArray:=jZ;simp only[ZE];exact⟨.none_tuple ib hu',.none_tuple ib hu',.none_tuple ib hu'⟩
   | lst es=>
    obtain⟨b,ws,rfl,nb,hb,rb⟩:=jc.mp re
    cases (show v=qI b from rv)
    obtain⟨jS,km,jZ,_⟩:=I.list (Zu.of (K:=X.K) (e1 _ _ nb hb));have ib:=jZ.isList;simp only[ZE];exact⟨.none_list ib hu',.none_list ib hu',.none_list ib hu'⟩
   | _=>simp[Yc] at hs
  | bl a=>
   rw[je.mp rd] at ru
   cases (show u=zE a from ru)
   cases e with
   | tup es=>
    obtain⟨b,ws,rfl,nb,hb,rb⟩:=jb.mp re
    cases (show v=qI b from rv)
    obtain⟨jS,km,jZ,_⟩:=I.tuple (ZF.of (K:=X.K) (e1 _ _ nb hb));have ib:s.heap.IsTuple b jS.toArray:=jZ;simp only[ZE];exact⟨.bool_tuple a ib hu',.bool_tuple a ib hu',.bool_tuple a ib hu'⟩
   | lst es=>
    obtain⟨b,ws,rfl,nb,hb,rb⟩:=jc.mp re
    cases (show v=qI b from rv)
    obtain⟨jS,km,jZ,_⟩:=I.list (Zu.of (K:=X.K) (e1 _ _ nb hb));have ib:=jZ.isList;simp only[ZE];exact⟨.bool_list a ib hu',.bool_list a ib hu',.bool_list a ib hu'⟩
   | _=>simp[Yc] at hs
  | int a=>
   rw[ja.mp rd] at ru;obtain⟨ta,rfl⟩:=ru
   cases e with
   | tup es=>
    obtain⟨b,ws,rfl,nb,hb,rb⟩:=jb.mp re
    cases (show v=qI b from rv)
    obtain⟨jS,km,jZ,_⟩:=I.tuple (ZF.of (K:=X.K) (e1 _ _ nb hb));have ib:s.heap.IsTuple b jS.toArray:=jZ;simp only[ZE];exact⟨.int_tuple a ta ib hu',.int_tuple a ta ib hu',.int_tuple a ta ib hu'⟩
   | lst es=>
    obtain⟨b,ws,rfl,nb,hb,rb⟩:=jc.mp re
    cases (show v=qI b from rv)
    obtain⟨jS,km,jZ,_⟩:=I.list (Zu.of (K:=X.K) (e1 _ _ nb hb));have ib:=jZ.isList;simp only[ZE];exact⟨.int_list a ta ib hu',.int_list a ta ib hu',.int_list a ta ib hu'⟩
   | _=>simp[Yc] at hs
  | str a=>
   rw[ji.mp rd] at ru;obtain⟨ta,rfl⟩:=ru
   cases e with
   | tup es=>
    obtain⟨b,ws,rfl,nb,hb,rb⟩:=jb.mp re
    cases (show v=qI b from rv)
    obtain⟨jS,km,jZ,_⟩:=I.tuple (ZF.of (K:=X.K) (e1 _ _ nb hb));have ib:s.heap.IsTuple b jS.toArray:=jZ;simp only[ZE];exact⟨.str_tuple a ta ib hu',.str_tuple a ta ib hu',.str_tuple a ta ib hu'⟩
   | lst es=>
    obtain⟨b,ws,rfl,nb,hb,rb⟩:=jc.mp re
    cases (show v=qI b from rv)
    obtain⟨jS,km,jZ,_⟩:=I.list (Zu.of (K:=X.K) (e1 _ _ nb hb));have ib:=jZ.isList;simp only[ZE];exact⟨.str_list a ta ib hu',.str_list a ta ib hu',.str_list a ta ib hu'⟩
   | _=>simp[Yc] at hs
end
section
variable {X:Cx}{G:Gh}
noncomputable def Vq (d e:D):Bool:=Zn d&&Zn e&&decide (Yc d<=60)&&decide (Yc e<=60)
theorem Zdd {d e:D}(h:Vq d e=true):Zn d=true/\Zn e=true/\Yc d<=60/\Yc e<=60:=by
 simp only[Vq,zd,decide_eq_true_eq] at h;exact⟨h.1.1.1,h.1.1.2,h.1.2,h.2⟩
noncomputable def Wh (d e:D):Option D:=if Vq d e=true then some (.bl (ZE d e)) else none
noncomputable def XB (d e:D):Option D:=if Vq d e=true then some (.bl (!ZE d e)) else none
noncomputable def rEqD (G:Gh)(neg:Bool):R2:=fun x y H Q=>∃Hf d e,Zw G Hf H/\Vq d e=true/\Zj G Hf d x/\Zj G Hf e y/\Q (.bl (if neg then !ZE d e else ZE d e)) H
theorem Zl6 (hu:X.A.units+64<cLine):Yi X (compareOp .Eq) (rEqD G false):=by
 intro jJ s σ H x y v u Q I rx ry h;obtain⟨Hf,d,e,e1,ok,rd,re,q⟩:=h;obtain⟨o1,o2,o3,o4⟩:=Zdd ok;exact(Ziu I e1 60 X.A d e x y v u o3 o4 (by omega) o1 o2 rd re rx ry).2.1 _ _ _ _ ⟨.bl (ZE d e),H,I,rfl,q⟩
theorem Zl7 (hu:X.A.units+64<cLine):Yi X (compareOp .NotEq) (rEqD G true):=by
 intro jJ s σ H x y v u Q I rx ry h;obtain⟨Hf,d,e,e1,ok,rd,re,q⟩:=h;obtain⟨o1,o2,o3,o4⟩:=Zdd ok;exact(Ziu I e1 60 X.A d e x y v u o3 o4 (by omega) o1 o2 rd re rx ry).2.2 _ _ _ _ ⟨.bl (!ZE d e),H,I,rfl,q⟩
theorem Zfo (hu:X.A.units+64<cLine):Xp X G (compareOp .Eq) Wh:=
 ⟨_,Zl6 (G:=G) hu,fun Hf H s x y d e c Q e1 st rx ry q k=>by
  unfold Wh at q;split at q
  ·rename_i ok
   cases q
   exact⟨Hf,d,e,e1,ok,rx,ry,k _ Hf H (.refl e1) st (je.mpr rfl) (.scal fun z=>z)⟩
  ·cases q⟩
theorem JT (hu:X.A.units+64<cLine):Xp X G (compareOp .NotEq) XB:=
 ⟨_,Zl7 (G:=G) hu,fun Hf H s x y d e c Q e1 st rx ry q k=>by
  unfold XB at q;split at q
  ·rename_i ok
   cases q
   exact⟨Hf,d,e,e1,ok,rx,ry,k _ Hf H (.refl e1) st (je.mpr rfl) (.scal fun z=>z)⟩
  ·cases q⟩
noncomputable def W5 (x:D)(ds:List D):Bool:=Zn x&&Yv ds&&decide (Yc x<=60)&&decide (Xv ds<=60)
noncomputable def Va (x:D)(ds:List D):Bool:=ds.any fun d=>ZE d x
theorem Zg0 {x:D}{ds:List D}(h:W5 x ds=true):Zn x=true/\Yv ds=true/\Yc x<=60/\Xv ds<=60:=by
 simp only[W5,zd,decide_eq_true_eq] at h;exact⟨h.1.1.1,h.1.1.2,h.1.2,h.2⟩
open Classical in
noncomputable def Uz (G:Gh)(Hf:Hp)(x:D)(u:Value):Bool:=if h:∃d v,Zn d=true/\Zj G Hf d v/\ZA v u then ZE h.choose x else false
theorem Zgg {Hf:Hp}{x d:D}{v:V}{u:Value}(pd:Zn d=true)(r:Zj G Hf d v)(ru:ZA v u):Uz G Hf x u=ZE d x:=by
 have h:∃d v,Zn d=true/\Zj G Hf d v/\ZA v u:=⟨d,v,pd,r,ru⟩;unfold Uz;rw[dif_pos h];obtain⟨v',p',r',ru'⟩:=h.choose_spec;have ev:v'=v:=ZA.inj ru' ru;subst ev;rw[Zj.inj p' pd r' r]
theorem Zep {Hf:Hp}{x:D}:∀{ds:List D} {vs:List V} {us:List Value},Yv ds=true->Zg G Hf ds vs->Zs vs us->us.any (Uz G Hf x)=Va x ds
 | [],vs,us,_,r,rv=>by
  rw[Zg.nil_iff.mp r] at rv
  cases rv
  rfl
 | d::ds,vs,us,p,r,rv=>by
  obtain⟨v,rr,rfl,r1,r2⟩:=jd.mp r;have p':Zn d=true/\Yv ds=true:=by simpa[Yv] using p
  cases rv with
  | cons a b=>
   rw[yK,Zgg p'.1 r1 a,Zep p'.2 r2 b];rfl
theorem Zeq {Hf:Hp}:∀{ds:List D} {vs:List V} {us:List Value} {u:Value},Zg G Hf ds vs->Zs vs us->u∈us->∃d v,d∈ds/\Zj G Hf d v/\ZA v u
 | [],vs,us,u,r,rv,m=>by
  rw[Zg.nil_iff.mp r] at rv
  cases rv
  simp at m
 | d::ds,vs,us,u,r,rv,m=>by
  obtain⟨v,rr,rfl,r1,r2⟩:=jd.mp r
  cases rv with
  | cons a b=>
   rcases qt.mp m with e | m
   ·subst e;exact⟨d,v,by simp,r1,a⟩
   ·obtain⟨d',v',m',h1,h2⟩:=Zeq r2 b m
    exact⟨d',v',by simp[m'],h1,h2⟩
noncomputable def rInD (G:Gh)(neg:Bool):R2:=fun x y H Q=>∃Hf d ds,Zw G Hf H/\W5 d ds=true/\Zj G Hf d x/\(Zj G Hf (.lst ds) y∨Zj G Hf (.tup ds) y)/\Q (.bl (if neg then !Va d ds else Va d ds)) H
theorem BN {jJ:List (Addr×Obj)}{s:Shared}{σ:St}{Hf H:Hp}{d:D}{ds:List D}{x:V}{v:Value}{vs:List V}{jL:List Value}(hu:X.A.units+64<cLine)(I:Inv X jJ σ H s)(e1:Zw G Hf H)(ok:W5 d ds=true)(rd:Zj G Hf d x)(rx:ZA x v)
  (rl:Zg G Hf ds vs) (rv:Zs vs jL):(∀y,y∈jL.toArray->yF X.A.in1 s y v (Uz G Hf d y))/\jL.toArray.any (Uz G Hf d)=Va d ds:=by
 obtain⟨o1,o2,o3,o4⟩:=Zg0 ok;refine⟨fun y hy=>?_,?_⟩
 ·obtain⟨c,w,m,h1,h2⟩:=Zeq rl rv (by simpa using hy)
  rw[Zgg (Uf o2 m) h1 h2];exact(Ziu I e1 60 X.A.in1 c d w x y v (qZ (UP m) o4) o3 (by rw[Jz];omega) (Uf o2 m) o1 h1 rd h2 rx).1
 ·rw[show jL.toArray.any (Uz G Hf d)=jL.any (Uz G Hf d) by simp,Zep o2 rl rv]
theorem Zl8 (hu:X.A.units+64<cLine):Yi X (compareOp .In) (rInD G false):=by
 intro jJ s σ H x y v u Q I rx ry h;obtain⟨Hf,d,ds,e1,ok,rd,hl,q⟩:=h;rcases hl with hl | hl
 ·obtain⟨p,vs,rfl,np,hp,rp⟩:=jc.mp hl
  cases (show u=qI p from ry)
  obtain⟨jL,rv,pl,hz⟩:=I.list (Zu.of (K:=X.K) (e1 _ _ np hp));obtain⟨c1,c2⟩:=BN hu I e1 ok rd rx rp rv;refine SeqAt.in_listAt _ pl.isList c1 ⟨.bl _,H,I,rfl,?_⟩;rw[c2];exact q
 ·obtain⟨p,vs,rfl,np,hp,rp⟩:=jb.mp hl
  cases (show u=qI p from ry)
  obtain⟨jL,rv,pl,hz⟩:=I.tuple (ZF.of (K:=X.K) (e1 _ _ np hp));obtain⟨c1,c2⟩:=BN hu I e1 ok rd rx rp rv;refine SeqAt.in_tupleAt _ pl c1 ⟨.bl _,H,I,rfl,?_⟩;rw[c2];exact q
theorem Zg1 (hu:X.A.units+64<cLine):Yi X (compareOp .NotIn) (rInD G true):=by
 intro jJ s σ H x y v u Q I rx ry h;obtain⟨Hf,d,ds,e1,ok,rd,hl,q⟩:=h;rcases hl with hl | hl
 ·obtain⟨p,vs,rfl,np,hp,rp⟩:=jc.mp hl
  cases (show u=qI p from ry)
  obtain⟨jL,rv,pl,hz⟩:=I.list (Zu.of (K:=X.K) (e1 _ _ np hp));obtain⟨c1,c2⟩:=BN hu I e1 ok rd rx rp rv;refine SeqAt.notIn_listAt _ pl.isList c1 ⟨.bl _,H,I,rfl,?_⟩;rw[c2];exact q
 ·obtain⟨p,vs,rfl,np,hp,rp⟩:=jb.mp hl
  cases (show u=qI p from ry)
  obtain⟨jL,rv,pl,hz⟩:=I.tuple (ZF.of (K:=X.K) (e1 _ _ np hp));obtain⟨c1,c2⟩:=BN hu I e1 ok rd rx rp rv;refine SeqAt.notIn_tupleAt _ pl c1 ⟨.bl _,H,I,rfl,?_⟩;rw[c2];exact q
end
theorem Zg2:typeLookup (.type "list") "keys" = pure none:=by rw[typeLookup_type,builtinLookup_eq_fast];kernel_rfl
theorem Zai:entryFor table "dict.update.loop" = some Builtin.«dict.update.loop»:=entryFor_of_tree (by kernel_rfl)
theorem Bk:plainId "dict.update.loop" = true:=by decide +kernel
set_option maxHeartbeats 4000000 in
theorem Za3 {prog:Program}{w:World}{A:Around}{E:Value->Shared->Prop}{s:Shared}{a:Addr}{o:Obj}{xs:Array Value}{k:Nat}{Q:Option Value->Shared->Prop}
  (hx:s.heap.get? a=some o) (hc:o.cls=.type "list") (hdat:o.data=.seq xs k) (hd:o.dict=none) (hA:A.handled=none)
  (h:∀h' tk,(∀b o,s.heap.get? b=some o->h'.get? b=some o)->Q none { s with heap:=h',toks:=tk }) :
  wpAny (model prog w) A (getAttr? (.ref a) "keys") Q E s:=by
 have hmiss:=Zg2;have hname:(["__module__","__name__","__qualname__","__doc__","__annotations__"]:List Str).contains ("keys" : Str)=false:=by decide +kernel
 have hsz:("keys" : Str).length+100<=sizeLine:=by decide +kernel
 obtain⟨c,dct,dat,sl⟩:=o;simp only at hc hdat hd;subst hc hdat hd;obtain⟨hp,g,d,tk,os⟩:=s;have hT:∀tk',(⟨hp,g,d,tk',os⟩:Shared).TypeIs (.ref a) "list":=fun _=>⟨_,hx,rfl⟩;have f1:=sub_AttributeError;have f3:=yU.lookup;have f4:=yU.bind (.ref a);have f5:=am_list_getattr_none;unfold getAttr? getAttrBy?;refine wpAny_bind ?_;refine wpAny_mkText ?_;refine wpAny_bind (wpAny_attempt ?_);unfold getAttrBy
 repeat (any_goals (first | assumption | exact hT _ | ((with_reducible show wpAny _ _ (call (Value.builtin "list.__getattribute__") _ _) _ _ _);refine call_meets yU (hT _) am_entry_list_getattribute (F.args_list_getattribute_2 _ _) (meets_getattribute_miss_list a xs k sl "keys" _ hmiss hname hsz) ⟨hx,hA,fun h' tk' e hx'=>?_⟩) | wp_step))
 obtain⟨t',u',he⟩:=hx'.there;have hTe:∀tk',(⟨h',g,d,tk',os⟩:Shared).TypeIs (.ref e) "AttributeError":=fun _=>⟨_,he,rfl⟩;have fin:∀tk',wpAny (model prog w) A (do
   let b<-isInstance (.ref e) (.type "AttributeError")
   if b=true then pure none else throw (.ref e)) Q E ⟨h',g,d,tk',os⟩:=fun tk'=>by
  refine wpAny_bind (wpAny_isInstance (hTe _) f1 ?_);simp only[if_true];exact wpAny_pure (h h' tk' hx'.of.keeps)
 show wpAny _ _ (getattributeRaised _ _ _ _ _ _ _) _ _ _;unfold getattributeRaised
 repeat (any_goals (first | assumption | exact fin _ | wp_step))
section
variable {X:Cx}{jJ:List (Addr×Obj)}{σ:St}{H:Hp}{s:Shared}{A:Around}{E:Value->Shared->Prop}{a:Addr}{y v:V}{u r:Value}
theorem Zg3 {H':Hp}{Q:Unit->Shared->Prop}(hu:A.units<cLine)(I:Inv X jJ σ H s)(g:X5 H a y v H')(ry:ZA y u)(rv:ZA v r)(h:∀s',Inv X jJ σ H' s'->Q () s') :
  wpAny (model X.prog X.w) A (dictSet a u r) Q E s:=by
 rcases g with⟨kvs,k,e,ey,l,eH⟩ | ⟨kvs,k,b,e,ey,eb,l,eH⟩
 ·subst ey eH
  obtain⟨z,hd,vs,rel,dd⟩:=Zid I.hok e;have hz:vs.length<=sizeLine:=by rw[<-rel.length];exact z
  have hl:(Z1 kvs k v).length<=sizeLine:=by have:=VI kvs k v;omega
  refine wpAny_dictSet_pairs (hsz:=hz) (Us ry) dd fun h' dd' hs=>h _ ?_;have he:∃q,h'.get? a=some q:=let ⟨q,_,_,hq,_⟩:=dd';⟨q,hq⟩;exact JL I (by rw[e];exact yG) hs he (Zfd hl hd (rel.put k rv) dd')
 ·subst ey eH
  cases (show u=qI b from ry)
  obtain⟨z,hd,xs,rel,dd⟩:=Zla I.hok e;have hz:xs.length<=sizeLine:=by rw[<-yA rel];exact z
  have hl:(Z1 kvs k v).length<=sizeLine:=by have:=VI kvs k v;omega
  refine wpAny_dictSet_heap (hsz:=hz) (knd:=tupleKind (XO X.prog X.w)) hu (UT I.hok eb) dd fun h' dd' hs=>h _ ?_;obtain⟨q,es,ep,hq,h2,h3,h4,_,h5⟩:=dd';refine JL I (by rw[e];exact yG) hs ⟨q,hq⟩ ⟨hl,hd,_,(rel.put k eb rv).keeps fun c ys ec=>?_,q,es,ep,hq,h2,h3,h4,h5⟩;rw[Zo (Zk2 ec e (fun z=>nomatch z))];exact ec
end
section
variable {X:Cx}{jJ:List (Addr×Obj)}{σ:St}
inductive Puts (d:Addr):Hp->List V->Hp->Prop
 | nil {H:Hp}:Puts d H [] H
 | cons {H H1 H2:Hp} {b:Addr} {k v:V} {r:List V}:H b=some (.tup [k,v])->X5 H d k v H1->Puts d H1 r H2->Puts d H (.ref b::r) H2
theorem Ziv {d l it:Addr}{vs:List V}{E:Value->Shared->Prop}{Q:Shared->Prop}{H':Hp}{A:Around}(hA:A.handled=none)(hu:A.units+1<cLine)
  (hQ:∀s',Inv X jJ σ H' s'->Q s') (hfp:∀Hx:Hp,Hx it=none->X4 X jJ Hx it) :
  ∀(k i:Nat) (s:Shared) (H:Hp),vs.length-i=k->i<=vs.length->Inv X jJ σ H s->H it=none->s.heap.IsListIter it l i->H l=some (.lst vs)->l≠d->(∀Hx Hy y v,X5 Hx d y v Hy->Hx l=some (.lst vs)->Hy l=some (.lst vs))->Puts d H (vs.drop i) H'->
   codeAny (model X.prog X.w) A (.builtin "dict.update.loop" ⟨[.ref d,.ref it,rawInt i,.none],[]⟩) (wants (fun r s₂=>r=.none/\Q s₂) E) s:=by
 intro k
 induction k with
 | zero=>
  intro i s H hk hi I hit st hl hne hkeep hp;have hil:i=vs.length:=by omega
  obtain⟨jL,rv,pl,hz⟩:=I.list (Zu.of (K:=X.K) hl);refine codeAny_builtin Zai ?_;rw[yH Bk _];show wpAny _ A.in1 (pyNext (.ref it) >>= _) _ _ s;obtain⟨f0,f1,f2,f3,f4,f5⟩:=hfp H hit;have jV:=rv.length;refine wpAny_bind (wpAny_pyNext_list_end (A:=A.in1) hA st pl.isList (by simp;omega) fun h' eb=>?_);have I2:Inv X jJ σ H { s with heap:=h' }:=I.turned (t':=s.toks) (fun b o hb e=>eb b o hb e) f0 f1 f3 f4 f5;have e0:vs.drop i=[]:=by rw[hil];simp
  rw[e0] at hp
  cases hp
  show wpAny _ _ (Builtin.Dict.addKeywords d [] >>= _) _ _ _;refine wpAny_bind (wpAny_pure ?_);exact wpAny_pure ⟨rfl,hQ _ I2⟩
 | succ k ih=>
  intro i s H hk hi I hit st hl hne hkeep hp;have hlt:i<vs.length:=by omega
  obtain⟨jL,rv,pl,hz⟩:=I.list (Zu.of (K:=X.K) hl);have jV:=rv.length;refine codeAny_builtin Zai ?_;rw[yH Bk _];show wpAny _ A.in1 (pyNext (.ref it) >>= _) _ _ s;obtain⟨f0,f1,f2,f3,f4,f5⟩:=hfp H hit;have hd:vs.drop i=vs[i]::vs.drop (i+1):=yN hlt;rw[hd] at hp;generalize hvi:vs[i]=x at hp;generalize hrest:vs.drop (i+1)=rest at hp
  cases hp with
  | @cons _ H1 _ b k0 v0 _ hb hput hrec=>
   have gx:vs[i]?=some (.ref b):=by rw[qE hlt,hvi]
   obtain⟨u,hu1,ru⟩:=rv.get gx
   cases (show u=qI b from ru)
   refine wpAny_bind (wpAny_pyNext_list_item (A:=A.in1) st pl.isList (x:=.ref b) (by simpa using hu1) fun h' st' sb=>?_);have I1:Inv X jJ σ H { s with heap:=h' }:=I.turned (t':=s.toks) (fun c o hc e=>(sb.2 c hc).trans e) f0 f1 f3 f4 f5;obtain⟨jS,rv2,pt,_⟩:=I1.tuple (ZF.of (K:=X.K) hb);obtain⟨ku,vu,e2,rk,rvv⟩:=rv2.two;subst e2;obtain⟨o,ho,hoc,n,hod⟩:=id pt;show wpAny _ _ (holding [qI b] _ >>= _) _ _ _;refine wpAny_bind (wpAny_holding ?_);refine wpAny_bind (wpAny_tryCatch ?_);unfold Builtin.Dict.pairItems;refine wpAny_bind (wpAny_typeOf (T:="tuple") ⟨o,ho,hoc⟩ ?_);rw[if_pos (by decide)];refine wpAny_bind (wpAny_seqItems ho hod ?_);refine wpAny_pure ?_;show wpAny _ _ (holding [ku,vu] (dictSet d ku vu)) _ _ _;refine wpAny_holding ?_;obtain⟨oi,hoi,ci,di⟩:=id st';have Ip:=I1.pinned (fp:=[it]) (fun c hc=>by
    have e:c=it:=by simpa using hc
    subst e;exact hfp H hit) (fun c hc=>by
    have e:c=it:=by simpa using hc
    subst e;exact⟨oi,hoi,fun w z=>by rw[di] at z;cases z⟩)
   refine Zg3 (by rw[Jz];exact hu) Ip hput rk rvv fun s2 I2=>?_;have pit:=I2.pin (it,oi) (qk _ (qk _ (UJ (by simp) hoi)));have ec:((i:Int)+1)=((i+1:Nat):Int):=by push_cast;rfl
   show wpAny _ _ (again (.builtin "dict.update.loop" ⟨[.ref d,.ref it,rawInt ((i:Int)+1),.none],[]⟩)) _ _ _;rw[ec];refine wpAny_pure ⟨plainId_quiet Bk _,?_⟩;refine ih (i+1) s2 H1 (by omega) hlt I2.unpinned pit.2.1 ⟨oi,pit.1,ci,di⟩ (hkeep _ _ _ _ hput hl) hne hkeep ?_;rw[hrest];exact hrec
theorem Za4 (hc:X.calm=true)(hu:X.A.units+64<cLine)(tk:Bool):Xy X (.type "dict") (fun xs H Q=>∃l vs,xs=[.ref l]/\H l=some (.lst vs)/\∀p,H p=none->∃H',Puts p (Zk H p (if tk then .dT [] else .dK [])) vs H'/\Q (.ref p) H'):=by
 intro jJ s σ H xs us Q I r h;obtain⟨l,vs,rfl,hl,q⟩:=h;obtain⟨u,rfl,ru⟩:=X2 r
 cases (show u=qI l from ru)
 obtain⟨H',puts,q'⟩:=q s.heap.objs.size (I.hok.fresh (qp _));have hA:=I.ok.hd hc;refine callType_codes (Q₁:=fun obj s₁=>obj=.ref s.heap.objs.size/\s₁ = { s with heap:=s.heap.push { cls:=.type "dict",data:=.dict #[] } }) F.kt_called_dict (F.kt_typeCall_dict_1 _) F.entry_dict_init (kt_code_dict_new _ ⟨rfl,rfl⟩) ?_;rintro obj s₁ ⟨rfl,rfl⟩;have hbig:=I.big;have I1:Inv X jJ σ (Zk H s.heap.objs.size (if tk then .dT [] else .dK [])) { s with heap:=s.heap.push { cls:=.type "dict",data:=.dict #[] } }:=
  I.laid (t':=s.toks) (fun b o e=>qd _ e) (qp _) (by
   cases tk
   ·exact ZbX s.heap hbig
   ·exact Zie s.heap hbig)
 have hnew:(s.heap.push { cls:=.type "dict",data:=.dict #[] }).get? s.heap.objs.size=some { cls:=.type "dict",data:=.dict #[] }:=qy _ rfl;have hTd:({ s with heap:=s.heap.push { cls:=.type "dict",data:=.dict #[] } }:Shared).TypeIs (.ref s.heap.objs.size) "dict":=⟨_,hnew,rfl⟩;have hld:l≠s.heap.objs.size:=ZP hl (I.hok.fresh (qp _));have hl1:(Zk H s.heap.objs.size (if tk then HO.dT [] else HO.dK [])) l=some (.lst vs):=by rw[Zo hld];exact hl
 obtain⟨zz,jL,n,rits,hlo⟩:=(show YA X.prog X.w _ _ l (.lst vs) from I1.hok l _ hl1);refine⟨hTd,F.args_dict_init_2 _ _,?_⟩;unfold Builtin.«dict.__init__»;refine wpAny_bind ?_;unfold Builtin.Dict.selfAndRest;refine wpAny_bind (wpAny_notOrdered_dict hTd ?_);show wpAny _ _ (pure (s.heap.objs.size,[qI l])) _ _ _;refine wpAny_pure ?_;show wpAny _ _ (qa5 "dict.__init__" s.heap.objs.size (.ref l) [] .none) _ _ _;unfold qa5;have hTl:({ s with heap:=s.heap.push { cls:=.type "dict",data:=.dict #[] } }:Shared).TypeIs (.ref l) "list":=⟨_,hlo,rfl⟩;refine wpAny_bind (wpAny_typeOf hTl ?_);rw[if_pos (by decide)];refine wpAny_bind (Za3 hlo rfl rfl rfl hA fun h2 tk2 kp2=>?_);simp only[Option.isNone_none,if_true];refine wpAny_bind (wpAny_rule ?_);have I2:Inv X jJ σ (Zk H s.heap.objs.size (if tk then .dT [] else .dK [])) { s with heap:=h2,toks:=tk2 }:=I1.kept kp2;obtain⟨its',rv',pl',hz'⟩:=I2.list (Zu.of (K:=X.K) hl1);refine wpAny_bind (wpAny_pyIter_list pl'.isList ?_);refine wpAny_pure ⟨plainId_quiet Bk _,?_⟩;have I3:Inv X jJ σ (Zk H s.heap.objs.size (if tk then .dT [] else .dK [])) { s with heap:=h2.push { cls:=.type "list_iterator",data:=.fields #[.ref l,.int 0 0] },toks:=tk2 }:=I2.kept (t':=tk2) fun b o e=>qd _ e;have hfresh:(Zk H s.heap.objs.size (if tk then HO.dT [] else HO.dK [])) h2.objs.size=none:=I2.hok.fresh (qp _);have hst:(h2.push { cls:=.type "list_iterator",data:=.fields #[.ref l,.int 0 0] }).IsListIter h2.objs.size l 0:=⟨_,qy _ rfl,rfl,rfl⟩;refine Ziv (l:=l) (vs:=vs) (H':=H') (A:=X.A.in1) (jJ:=jJ) (σ:=σ) hA (by rw[Jz];omega) (fun s' I'=>⟨.ref s.heap.objs.size,H',I',rfl,q'⟩) (fun Hx hn=>I2.fpOk (qp _) hn) vs.length 0 _ _ rfl (zj _) I3 hfresh hst hl1 hld ?_ puts;intro Hx Hy y v hput hxl;rcases hput with⟨kvs,k,e,ey,l',eH⟩ | ⟨kvs,k,b,e,ey,eb,l',eH⟩
 ·subst eH;rw[Zo hld];exact hxl
 ·subst eH;rw[Zo hld];exact hxl
end
section
variable {X:Cx}{G:Gh}
noncomputable def Xi:D->Option Zr
 | .int i=>some (.inl i)
 | .str x=>some (.inr x)
 | _=>none
noncomputable def YY:List D->Option (List Zr)
 | []=>some []
 | d::ds=>match Xi d,YY ds with | some k,some ks=>some (k::ks) | _,_=>none
noncomputable def Xu:D->Option V
 | .int i=>some (.int i)
 | .bl b=>some (.bl b)
 | .str x=>some (.str x)
 | .non=>some .non
 | _=>none
theorem UM {H:Hp}{d:D}{v:V}{k:Zr}(h:Xi d=some k)(r:Zj G H d v):v=kV k:=by
 cases d with
 | int i=>cases h;rw[ja.mp r];rfl
 | str i=>cases h;rw[ji.mp r];rfl
 | _=>cases h
theorem Ud {H:Hp}:∀{ds:List D} {vs:List V} {ks:List Zr},YY ds=some ks->Zg G H ds vs->vs=ks.map kV
 | [],vs,ks,h,r=>by cases h;exact Zg.nil_iff.mp r
 | d::ds,vs,ks,h,r=>by
  obtain⟨v,rr,rfl,r1,r2⟩:=jd.mp r;unfold YY at h
  cases e1:Xi d with
  | none=>rw[e1] at h;cases h
  | some k=>
   cases e2:YY ds with
   | none=>rw[e1,e2] at h;cases h
   | some ks'=>
    rw[e1,e2] at h
    cases h
    rw[UM e1 r1,Ud e2 r2];rfl
theorem By {H:Hp}{d:D}{v w:V}(h:Xu d=some w)(r:Zj G H d v):v=w:=by
 cases d with
 | int i=>cases h;exact ja.mp r
 | str i=>cases h;exact ji.mp r
 | bl i=>cases h;exact je.mp r
 | non=>cases h;exact jg.mp r
 | _=>cases h
noncomputable def B5:D->Option (List Zr×V)
 | .tup [.tup ks,v]=>match YY ks,Xu v with | some k,some w=>some (k,w) | _,_=>none
 | _=>none
noncomputable def Ziw:D->Option (Zr×V)
 | .tup [k,v]=>match Xi k,Xu v with | some k,some w=>some (k,w) | _,_=>none
 | _=>none
noncomputable def X3:List (List Zr×V)->List D->Option (List (List Zr×V))
 | jQ,[]=>some jQ
 | jQ,d::ds=>match B5 d with | some (k,v)=>X3 (Z1 jQ k v) ds | none=>none
noncomputable def WE:List (Zr×V)->List D->Option (List (Zr×V))
 | jQ,[]=>some jQ
 | jQ,d::ds=>match Ziw d with | some (k,v)=>WE (Z1 jQ k v) ds | none=>none
theorem Zfp {d:D}{k:List Zr}{v:V}(h:B5 d=some (k,v)):∃ks w,d=.tup [.tup ks,w]/\YY ks=some k/\Xu w=some v:=by
 match d,h with
 | .tup [.tup ks,w],h=>
  have h':(match YY ks,Xu w with | some k,some w=>some (k,w) | _,_=>none)=some (k,v):=h
  cases e1:YY ks with
  | none=>rw[e1] at h';cases h'
  | some k'=>
   cases e2:Xu w with
   | none=>rw[e1,e2] at h';cases h'
   | some w'=>rw[e1,e2] at h';cases h';exact⟨ks,w,rfl,e1,e2⟩
theorem Zfq {d:D}{k:Zr}{v:V}(h:Ziw d=some (k,v)):∃ks w,d=.tup [ks,w]/\Xi ks=some k/\Xu w=some v:=by
 match d,h with
 | .tup [ks,w],h=>
  have h':(match Xi ks,Xu w with | some k,some w=>some (k,w) | _,_=>none)=some (k,v):=h
  cases e1:Xi ks with
  | none=>rw[e1] at h';cases h'
  | some k'=>
   cases e2:Xu w with
   | none=>rw[e1,e2] at h';cases h'
   | some w'=>rw[e1,e2] at h';cases h';exact⟨ks,w,rfl,e1,e2⟩
theorem Zfr {Hf H:Hp}{p:Addr}(e1:Zw G Hf H)(hp:H p=none):∀{ds:List D} {vs:List V} {jQ res:List (List Zr×V)},Zg G Hf ds vs->X3 jQ ds=some res->jQ.length+ds.length<=sizeLine->Puts p (Zk H p (.dT jQ)) vs (Zk H p (.dT res))
 | [],vs,jQ,res,r,h,_=>by
  rw[Zg.nil_iff.mp r]
  cases h
  exact .nil
 | d::ds,vs,jQ,res,r,h,hl=>by
  obtain⟨v,rr,rfl,r1,r2⟩:=jd.mp r;unfold X3 at h
  cases e:B5 d with
  | none=>rw[e] at h;cases h
  | some kv=>
   obtain⟨k,w⟩:=kv;rw[e] at h;have h:X3 (Z1 jQ k w) ds=some res:=h;obtain⟨ks,wd,rfl,q1,q2⟩:=Zfp e;obtain⟨b,ws,rfl,nb,hb,rb⟩:=jb.mp r1;obtain⟨v1,v2,rfl,rk,rv⟩:=jr rb;obtain⟨c,cs,rfl,nc,hcx,rc⟩:=jb.mp rk;have ec:=Ud q1 rc;subst ec;have ev:=By q2 rv;subst ev;have hb':=e1 _ _ nb hb;have hc':=e1 _ _ nc hcx;have ll:=VI jQ k v2;have hl':jQ.length+(ds.length+1)<=sizeLine:=by simpa using hl
   refine .cons (by rw[Zo (ZP hb' hp)];exact hb') (X5.t (k:=k) ZI (by rw[Zo (ZP hc' hp)];exact hc') (by omega)) ?_;rw[ZdB];exact Zfr e1 hp r2 h (by omega)
theorem Zix {Hf H:Hp}{p:Addr}(e1:Zw G Hf H)(hp:H p=none):∀{ds:List D} {vs:List V} {jQ res:List (Zr×V)},Zg G Hf ds vs->WE jQ ds=some res->jQ.length+ds.length<=sizeLine->Puts p (Zk H p (.dK jQ)) vs (Zk H p (.dK res))
 | [],vs,jQ,res,r,h,_=>by
  rw[Zg.nil_iff.mp r]
  cases h
  exact .nil
 | d::ds,vs,jQ,res,r,h,hl=>by
  obtain⟨v,rr,rfl,r1,r2⟩:=jd.mp r;unfold WE at h
  cases e:Ziw d with
  | none=>rw[e] at h;cases h
  | some kv=>
   obtain⟨k,w⟩:=kv;rw[e] at h;have h:WE (Z1 jQ k w) ds=some res:=h;obtain⟨ks,wd,rfl,q1,q2⟩:=Zfq e;obtain⟨b,ws,rfl,nb,hb,rb⟩:=jb.mp r1;obtain⟨v1,v2,rfl,rk,rv⟩:=jr rb;have ek:=UM q1 rk;subst ek;have ev:=By q2 rv;subst ev;have hb':=e1 _ _ nb hb;have ll:=VI jQ k v2;have hl':jQ.length+(ds.length+1)<=sizeLine:=by simpa using hl
   refine .cons (by rw[Zo (ZP hb' hp)];exact hb') (X5.k (k:=k) ZI (by omega)) ?_;rw[ZdB];exact Zix e1 hp r2 h (by omega)
noncomputable def Ziy:List D->Option D
 | [.lst ds]=>if ds.length<=sizeLine then (X3 [] ds).map .dt else none
 | _=>none
noncomputable def BV:List D->Option D
 | [.lst ds]=>if ds.length<=sizeLine then (WE [] ds).map .dk else none
 | _=>none
theorem Zfs (hc:X.calm=true)(hu:X.A.units+64<cLine):Xy X (.type "dict") (fun xs H Q=>∃l vs,xs=[.ref l]/\H l=some (.lst vs)/\∀p,H p=none->∃kvs,Puts p (Zk H p (.dT [])) vs (Zk H p (.dT kvs))/\∀o,Q (.ref p) (Zk H p (.frz o (.dT kvs)))):=by
 intro jJ s σ H xs us Q I r h;obtain⟨l,vs,ex,hl,hp⟩:=h;refine ZC (Za4 hc hu true jJ s σ H xs us (fun v H'=>∃p kvs,v=.ref p/\H'=Zk H p (.dT kvs)/\∀o,Q (.ref p) (Zk H p (.frz o (.dT kvs)))) I r ⟨l,vs,ex,hl,fun p hn=>?_⟩) fun u s1 ⟨v,H1,I1,r1,p,kvs,ev,eH,q⟩=>?_
 ·obtain⟨kvs,pu,q⟩:=hp p hn
  exact⟨_,pu,p,kvs,rfl,rfl,q⟩
 ·subst ev eH
  have ok:=I1.hok p (.dT kvs) ZI;obtain⟨_,_,xs',_,o,es,ep,h1,_⟩:=(show YA X.prog X.w _ s1.heap p (.dT kvs) from ok);have I2:=I1.write (x:=p) (e:=p) (o:=.frz o (.dT kvs)) (h':=s1.heap) (t':=s1.toks) (by rw[ZI];trivial) (.inl rfl) (fun _ _ _ e=>e) ⟨o,h1⟩ ⟨h1,ok.stay (fun _ _ _ e=>e) (fun b e=>?_) fun b xs e=>?_⟩
  ·rw[ZdB] at I2
   exact⟨.ref p,_,I2,r1,q o⟩
  ·have:b≠p:=fun z=>by rw[z,ZI] at e;cases e
   rw[Zo this];exact e
  ·have:b≠p:=fun z=>by rw[z,ZI] at e;cases e
   rw[Zo this];exact e
theorem Zft (hc:X.calm=true)(hu:X.A.units+64<cLine):XS X G (.type "dict") Ziy:=
 ⟨_,Zfs hc hu,fun Hf H s xs ds c Q e1 st r q k=>by
  match ds,q,r with
  | [.lst es],q,r=>
   have q:(if es.length<=sizeLine then (X3 [] es).map D.dt else none)=some c:=q;split at q
   ·rename_i hz
    cases e:X3 [] es with
    | none=>rw[e] at q;cases q
    | some res=>
     rw[e] at q
     cases q
     obtain⟨v,rfl,rv⟩:=jh r;obtain⟨l,vs,rfl,nl,hl,rl⟩:=jc.mp rv;refine⟨l,vs,rfl,e1 _ _ nl hl,fun p hp=>⟨_,Zfr e1 hp rl e (by simpa using hz),fun o=>?_⟩⟩;have nf:=Gh.nofp st hp;have g2:=Gr.new (o:=.frz o (.dT res)) e1 hp nf;exact k (.ref p) _ _ g2 (Gh.grow st hp) (jl.mpr ⟨p,o,rfl,nf,ZI⟩) fun a ea _=>by cases ea;exact⟨hp,fun ds ed=>by cases ed⟩
   ·cases q⟩
theorem Zfu (hc:X.calm=true)(hu:X.A.units+64<cLine):XS X G (.type "dict") BV:=
 ⟨_,Za4 hc hu false,fun Hf H s xs ds c Q e1 st r q k=>by
  match ds,q,r with
  | [.lst es],q,r=>
   have q:(if es.length<=sizeLine then (WE [] es).map D.dk else none)=some c:=q;split at q
   ·rename_i hz
    cases e:WE [] es with
    | none=>rw[e] at q;cases q
    | some res=>
     rw[e] at q
     cases q
     obtain⟨v,rfl,rv⟩:=jh r;obtain⟨l,vs,rfl,nl,hl,rl⟩:=jc.mp rv;refine⟨l,vs,rfl,e1 _ _ nl hl,fun p hp=>⟨_,Zix e1 hp rl e (by simpa using hz),?_⟩⟩;have nf:=Gh.nofp st hp;have g2:=Gr.new (o:=.dK res) e1 hp nf;exact k (.ref p) _ _ g2 (Gh.grow st hp) (jk.mpr ⟨p,rfl,nf,ZI⟩) fun a ea _=>by cases ea;exact⟨hp,fun ds ed=>by cases ed⟩
   ·cases q⟩
theorem Zl9 (hu:X.A.units+1<cLine):Yi X (compareOp .In) (fun x y H Q=>∃a o,y=.ref a/\Y9 H a x o/\Q (.bl o.isSome) H):=by
 intro jJ s σ H x y v u Q I rx ry h;obtain⟨a,o,rfl,g,q⟩:=h
 cases (show u=qI a from ry)
 exact d_in hu I g rx fun s' I'=>⟨.bl _,H,I',rfl,q⟩
theorem Zg4 (hu:X.A.units+1<cLine):Yi X (compareOp .NotIn) (fun x y H Q=>∃a o,y=.ref a/\Y9 H a x o/\Q (.bl (!o.isSome)) H):=by
 intro jJ s σ H x y v u Q I rx ry h;obtain⟨a,o,rfl,g,q⟩:=h
 cases (show u=qI a from ry)
 exact Zj2 hu I g rx fun s' I'=>⟨.bl _,H,I',rfl,q⟩
noncomputable def VZ:D->D->Option Bool
 | x,.lst ds=>if W5 x ds=true then some (Va x ds) else none
 | x,.tup ds=>if W5 x ds=true then some (Va x ds) else none
 | .tup ks,.dt kvs=>(YY ks).map fun k=>(ZQ kvs k).isSome
 | .tup ks,.du kvs=>(YY ks).map fun k=>(ZQ kvs k).isSome
 | x,.dk kvs=>(Xi x).map fun k=>(ZQ kvs k).isSome
 | _,_=>none
noncomputable def Yq (x y:D):Option D:=(VZ x y).map .bl
noncomputable def Vg (x y:D):Option D:=(VZ x y).map fun b=>.bl (!b)
theorem Zde {Hf H:Hp}{x y:V}{d e:D}{b:Bool}(e1:Zw G Hf H)(rx:Zj G Hf d x)(ry:Zj G Hf e y)(h:VZ d e=some b) :
  (∃ds,W5 d ds=true/\(Zj G Hf (.lst ds) y∨Zj G Hf (.tup ds) y)/\b=Va d ds)∨∃a o,y=.ref a/\Y9 H a x o/\b=o.isSome:=by
 cases e with
 | lst ds=>
  have h:(if W5 d ds=true then some (Va d ds) else none)=some b:=by cases d <;> exact h
  split at h
  ·rename_i ok;cases h;exact .inl ⟨ds,ok,.inl ry,rfl⟩
  ·cases h
 | tup ds=>
  have h:(if W5 d ds=true then some (Va d ds) else none)=some b:=by cases d <;> exact h
  split at h
  ·rename_i ok;cases h;exact .inl ⟨ds,ok,.inr ry,rfl⟩
  ·cases h
 | dt kvs=>
  obtain⟨a,o,rfl,na,ha⟩:=jl.mp ry
  cases d with
  | tup ks=>
   have h:(YY ks).map (fun k=>(ZQ kvs k).isSome)=some b:=h
   cases q:YY ks with
   | none=>rw[q] at h;cases h
   | some k=>
    rw[q] at h;cases h;obtain⟨c,cs,rfl,nc,hcx,rc⟩:=jb.mp rx;have ec:=Ud q rc;subst ec;exact .inr ⟨a,_,rfl,.inr ⟨kvs,k,c,.inr ⟨o,e1 _ _ na ha⟩,rfl,e1 _ _ nc hcx,rfl⟩,rfl⟩
  | _=>cases h
 | du kvs=>
  obtain⟨a,rfl,na,ha⟩:=jm.mp ry
  cases d with
  | tup ks=>
   have h:(YY ks).map (fun k=>(ZQ kvs k).isSome)=some b:=h
   cases q:YY ks with
   | none=>rw[q] at h;cases h
   | some k=>
    rw[q] at h;cases h;obtain⟨c,cs,rfl,nc,hcx,rc⟩:=jb.mp rx;have ec:=Ud q rc;subst ec;exact .inr ⟨a,_,rfl,Y9.t (e1 _ _ na ha) (e1 _ _ nc hcx),rfl⟩
  | _=>cases h
 | dk kvs=>
  obtain⟨a,rfl,na,ha⟩:=jk.mp ry;have h:(Xi d).map (fun k=>(ZQ kvs k).isSome)=some b:=by cases d <;> exact h
  cases q:Xi d with
  | none=>rw[q] at h;cases h
  | some k=>
   rw[q] at h;cases h;have ek:=UM q rx;subst ek;exact .inr ⟨a,_,rfl,Y9.k (e1 _ _ na ha),rfl⟩
 | _=>cases d <;> cases h
theorem VA (hu:X.A.units+64<cLine):Xp X G (compareOp .In) Yq:=
 ⟨_,(Zl8 (G:=G) hu).or (Zl9 (by omega)),fun Hf H s x y d e c Q e1 st rx ry q k=>by
  unfold Yq at q
  cases h:VZ d e with
  | none=>rw[h] at q;cases q
  | some b=>
   rw[h] at q;cases q;have kk:=k (.bl b) Hf H (.refl e1) st (je.mpr rfl) (.scal fun z=>z);rcases Zde e1 rx ry h with⟨ds,ok,hl,rfl⟩ | ⟨a,o,ey,g,rfl⟩
   ·exact .inl ⟨Hf,d,ds,e1,ok,rx,hl,kk⟩
   ·exact .inr ⟨a,o,ey,g,kk⟩⟩
theorem Zdf (hu:X.A.units+64<cLine):Xp X G (compareOp .NotIn) Vg:=
 ⟨_,(Zg1 (G:=G) hu).or (Zg4 (by omega)),fun Hf H s x y d e c Q e1 st rx ry q k=>by
  unfold Vg at q
  cases h:VZ d e with
  | none=>rw[h] at q;cases q
  | some b=>
   rw[h] at q;cases q;have kk:=k (.bl (!b)) Hf H (.refl e1) st (je.mpr rfl) (.scal fun z=>z);rcases Zde e1 rx ry h with⟨ds,ok,hl,rfl⟩ | ⟨a,o,ey,g,rfl⟩
   ·exact .inl ⟨Hf,d,ds,e1,ok,rx,hl,kk⟩
   ·exact .inr ⟨a,o,ey,g,kk⟩⟩
end
section
variable {X:Cx}{G:Gh}{own ob:List Nat}{fr:Bool}{f:Zb->M D}
noncomputable def Zke (ta:TA):TE:=fun σ H Q=>ta σ H fun vs H1=>∃j:Int,vs=[.int j]/\∀p,H1 p=none->Q (.ref p) (Zk H1 p (.rng 0 j))
theorem Zdg {a:Expr}{ta:TA}{p pos:Pos}(hg:Gl X "range")(hm:X.mg "range" = none)(ha:PA X [a] ta)(hs:starEach [a] X.env=[(false,eval a X.env)]:=by rfl):PE X (.Call (.Name "range" p) [a] [] pos) (Zke ta):=by
 intro jJ s σ H Q I h;refine Call_ (VN I hg hm boot_range (zC (ZC (ha pos jJ s σ H _ I h) fun us s1 ⟨vs,H1,I1,r1,q1⟩=>?_) hs rfl));obtain⟨j,e,q⟩:=q1;subst e
 cases r1 with
 | cons r rr=>
  cases rr
  obtain⟨t,rfl⟩:=r;refine call_range_1 ⟨.ref s1.heap.objs.size,Zk H1 s1.heap.objs.size (.rng 0 j),I1.laid (t':=s1.toks+1+1) (fun b o e=>qd _ e) (qp _) ?_,rfl,q _ (I1.hok.fresh (qp _))⟩;exact⟨_,_,_,qy _ rfl⟩
theorem Za5:∀(ys:List Value) (lo:Int),(∀(j:Nat) v,ys[j]?=some v->∃t,v=.int (lo+j) t)->Zs ((qm ys.length).map fun(i:Nat)=>V.int (lo+i)) ys
 | [],lo,_=>.nil
 | y::ys,lo,h=>by
  obtain⟨t,e⟩:=h 0 y rfl;rw[qT,qaj,zi,qD];refine .cons ⟨t,by rw[e]⟩ ?_;have q:=Za5 ys (lo+1) fun j v hv=>by
   obtain⟨t,e⟩:=h (j+1) v (by simpa using hv);exact⟨t,by rw[e];congr 1;push_cast;omega⟩
  have ee:((fun(i:Nat)=>V.int (lo+i))∘Nat.succ)=fun(i:Nat)=>V.int (lo+1+i):=by
   funext i;show V.int (lo+(Nat.succ i:Nat))=V.int (lo+1+i);congr 1;push_cast;omega
  rw[ee];exact q
theorem ZdL (hc:X.calm=true):Xy X (.type "list") (fun xs H Q=>∃r j,xs=[.ref r]/\H r=some (.rng 0 j)/\-(2 ^ 62)<=j/\j<=2 ^ 24/\∀l,H l=none->Q (.ref l) (Zk H l (.lst ((qm j.toNat).map fun(i:Nat)=>V.int (0+i))))):=by
 intro jJ s σ H xs us Q I r h;obtain⟨rr,j,rfl,hr,h1,h2,q⟩:=h;obtain⟨u,rfl,ru⟩:=X2 r
 cases (show u=qI rr from ru)
 obtain⟨t,u',v',hro⟩:=(show YA X.prog X.w H s.heap rr (.rng 0 j) from I.hok rr _ hr);have hn:yw 0 j 1=((j.toNat:Nat):Int):=by rw[rangeSize_one];split <;> omega
 refine call_list_range (I.ok.hd hc) (show IsRange s.heap rr 0 j 1 t u' v' from hro) (small_one (by omega) (by omega) h1 (by omega)) hn (by omega) fun h' tk acc' c' hk hS hacc=>?_;obtain⟨sz,hit⟩:=hacc;have rv:=Za5 acc'.toList 0 fun i v hv=>by
  obtain⟨t,e⟩:=hit i v (by simpa using hv);exact⟨t,by rw[e];simp⟩
 have el:acc'.toList.length=j.toNat:=by simpa using sz
 rw[el] at rv;refine⟨.ref s.heap.objs.size,Zk H s.heap.objs.size (.lst ((qm j.toNat).map fun(i:Nat)=>V.int (0+i))),I.laid hk (qp _) ?_,rfl,q _ (I.hok.fresh (qp _))⟩;refine⟨?_,acc'.toList,c',rv,?_⟩
 ·rw[qj,qW]
  show j.toNat<=2 ^ 24;omega
 ·rw[Array.toArray_toList]
  exact hS
noncomputable def WQ (f:Zb->M D):Zb->M D:=fun ρ=>Zm (f ρ) fun d=>match d with | .int j=>if -(2 ^ 62)<=j/\j<=2 ^ 24 then ZD (.lst (Z3 0 j.toNat)) else Zz | _=>Zz
theorem Zb7 {Hf:Hp}(lo:Int):∀(l:List Nat),Zg G Hf (l.map fun(i:Nat)=>D.int (lo+i)) (l.map fun(i:Nat)=>V.int (lo+i))
 | []=>Zg.nil_iff.mpr rfl
 | i::l=>Zg.cons (ja.mpr rfl) (Zb7 lo l)
theorem Bp {a:Expr}{p1 p2 pos1 pos:Pos}{r1:Bool}(hc:X.calm=true)(hg:Gl X "range")(hm:X.mg "range" = none)(hg2:Gl X "list")(hm2:X.mg "list" = none)(hv2:bootBuiltins "list" = some (.type "list"))(ha:PD X G r1 a f)
  (hs:starEach [a] X.env=[(false,eval a X.env)]:=by rfl)
  (he:starEach [.Call (.Name "range" p1) [a] [] pos1] X.env=(false,eval (.Call (.Name "range" p1) [a] [] pos1) X.env)::starEach [] X.env:=by rfl):PD X G true (.Call (.Name "list" p2) [.Call (.Name "range" p1) [a] [] pos1] [] pos) (WQ f):=by
 obtain⟨t,pa,qa⟩:=ha.drop;refine⟨_,Zc5 (ZdL hc) hg2 hm2 hv2 (Y4 (Zdg hg hm (Y4 pa Xs (by rw[hs];rfl)) hs) Xs he) (by decide) (by decide) he rfl,fun σ Hf H ρ s d s' Q e1 e2 e3 e4 k=>?_⟩;obtain⟨dj,s1,a1,a2⟩:=Zv e4
 cases dj with
 | int j=>
  obtain⟨c,a3⟩:=YV a2;obtain⟨rfl,rfl⟩:=ZL a3;refine qa σ Hf H ρ s _ _ _ e1 e2 e3 a1 fun v jU H1 g st r=>?_;rw[ja.mp r];refine⟨j,rfl,fun p hp=>⟨p,j,rfl,ZI,c.1,c.2,fun l hl=>?_⟩⟩;have hlp:l≠p:=fun z=>by rw[z,ZI] at hl;cases hl
  have hl1:H1 l=none:=by rw[Zo hlp] at hl;exact hl
  have j7:G.st s' (Zk H1 p (.rng 0 j)):=Gh.grow st hp;have nf:=Gh.nofp j7 hl;have fp:jU p=none:=by
   cases q:jU p with
   | none=>rfl
   | some o=>rw[g.fh p o (Gh.nofp st hp) q] at hp;cases hp
  have gA:Gr G jU H1 jU (Zk H1 p (.rng 0 j)):=⟨fun b o n q=>by rw[Zo (ZP q hp)];exact q,.refl _ _,fun b o n q=>by rw[Zo (ZP q fp)];exact g.fh b o n q,fun b n h1 h2=>h1⟩;have gB:=Gr.new (o:=.lst ((qm j.toNat).map fun(i:Nat)=>V.int (0+i))) gA.fh hl nf;have rr:Zg G jU (Z3 0 j.toNat) ((qm j.toNat).map fun(i:Nat)=>V.int (0+i)):=Zb7 0 _;refine k (.ref l) _ _ ((g.trans gA).trans gB) (Gh.grow j7 hl) (jc.mpr ⟨l,_,rfl,nf,ZI,rr.ext gB.ff⟩) fun _=>?_;exact jo (g.trans gA).hh (fun a ea _=>by cases ea;exact nf) (Yo.mk gA.fh hl nf rr)
 | _=>cases a2
noncomputable def J8 (i:Nat)(f:Zb->M D):Zb->M Out:=fun ρ=>Zm (f ρ) fun d=>match d,(ρ[i]?).bind id with
 | .lst es,some (.lst ds)=>if ds.length+es.length<=sizeLine then ZD (.nx (ρ.set i (some (.lst (ds++es))))) else Zz
 | _,_=>Zz
theorem Zkf {i:Nat}{te:TE}{r1:Bool}(hi:i∈own)(hy:W4 G own r1 te f):Bg G ob own own fr (VR (V4 X.K "list" BK (Z7 i) (We te Wf))) (J8 i f):=fun kn jT H0 σ H ρ s out s' E ⟨Hf,j⟩ st e po=>by
 obtain⟨d,s1,a1,a2⟩:=Zv e
 match d,hb:(ρ[i]?).bind id,a2 with
 | .lst es,some (.lst ds),a2=>
  have a2':(if ds.length+es.length<=sizeLine then ZD (.nx (ρ.set i (some (.lst (ds++es))))) else Zz) s1=some (out,s'):=a2;obtain⟨c2,a3⟩:=YV a2';obtain⟨rfl,rfl⟩:=ZL a3;have ei:=JM hb;obtain⟨a,vs,h1,h2,h3,h4⟩:=UO j hi ei;refine⟨_,h1,.inl ⟨rfl,vs,Zu.of h3⟩,?_⟩;refine hy kn jT H0 σ Hf H ρ s _ s' _ j st a1 fun v Hf' H' j' e1 e2 st' r fz=>?_;obtain⟨a',vs',h1',h2',h3',h4'⟩:=UO j' hi ei;rw[h1] at h1';cases h1';obtain⟨b,ws,rfl,nb,hb2,rb⟩:=jc.mp r;refine⟨a,b,vs',ws,rfl,rfl,h3',j'.gr.fh _ _ nb hb2,by rw[<-h4'.length,<-rb.length];exact c2,?_⟩;exact po σ _ ⟨Hf',j'.put hi ei h1 ⟨vs'++ws,ZI,h4'.append rb⟩⟩ (jv st' h2)
 | .lst _,none,a2=>cases a2
 | .lst _,some .non,a2=>cases a2
 | .lst _,some (.bl _),a2=>cases a2
 | .lst _,some (.int _),a2=>cases a2
 | .lst _,some (.str _),a2=>cases a2
 | .lst _,some (.tup _),a2=>cases a2
 | .lst _,some (.dk _),a2=>cases a2
 | .lst _,some (.dt _),a2=>cases a2
 | .lst _,some (.du _),a2=>cases a2
 | .lst _,some (.df _),a2=>cases a2
 | .lst _,some .pen,a2=>cases a2
 | .lst _,some (.ty _),a2=>cases a2
 | .lst _,some (.clo _ _),a2=>cases a2
theorem Zg5 {i:Nat}{x:Str}{e:Expr}{pos p1 p2 p3:Pos}{te:TE}(hv:PE X (.Name x p1) (Z7 i))(p:PE X e te)
  (hbase:attributeBase (.Name x p1) "extend" X.env (eval (.Name x p1) X.env)=eval (.Name x p1) X.env:=by rfl)
  (hfew:((backTo p3 (starEach [e] X.env)).all (fun x=>!x.1)&&(backToKw p3 (keywordEach [] X.env)).all (fun x=>x.1.isSome)
   && decide ([e].length+([]:List Keyword).length+(if ([]:List Keyword).isEmpty then 0 else 1)<30))=true:=by rfl)
  (hline:(p2.endLine==p3.line)=true:=by rfl) (hs:starEach [e] X.env=(false,eval e X.env)::starEach [] X.env:=by rfl)
  (hsw:swapsWith (.Call (.Attribute (.Name x p1) "extend" p2) [e] [] p3) none pos.line X.env=pure false:=by rfl) :
  PS X (.Expr (.Call (.Attribute (.Name x p1) "extend" p2) [e] [] p3) pos) (VR (V4 X.K "list" BK (Z7 i) (We te Wf))):=
 ZdE (B2 yy PySem.F.slot_list_extend PySem.F.type_list_extend ZgS hv (Y4 p Xs hs) hbase hfew hline hs rfl) hsw
theorem Ziz {i:Nat}{e:Expr}{r1:Bool}{st:Stmt}(hi:i∈own)(he:PD X G r1 e f)(hp:∀te,PE X e te->PS X st (VR (V4 X.K "list" BK (Z7 i) (We te Wf)))):Yx X G ob own own fr st (J8 i (fun ρ=>f (Z8 own ρ))):=by
 obtain⟨t,p,q⟩:=he;exact⟨_,hp t p,Zkf hi (XH.a q)⟩
end
structure BlkS (X:Cx)(XN:List Str)(NS:List (Str×NameKind))(N':List Str)(src:List (Option Nat))(scope:Scope):Prop where
 xn:X.N=XN
 ns:X.env.scope.names=NS
 nocell:∀y∈scope.names,y.2≠.cell
 kind:scope.kind=.function
 names:∀y∈scope.names,y.2=.local->scope.names.lookup y.1=some .local
 len:src.length=N'.length
 free:∀y∈scope.names,y.2=.free->NS.lookup y.1=some .cell∨NS.lookup y.1=some .free
 from_:(src.zip N').all (fun p=>match p.1 with | some j=>decide (XN[j]?=some p.2)&&(decide (NS.lookup p.2=some .cell)||decide (NS.lookup p.2=some .free))&&decide (scope.names.lookup p.2=some .free) | none=>true)=true
theorem Zaf {env:Env}:∀{names:List (Str×NameKind)} {x:Str},names.lookup x=some .free->
  (names.map fun(n,k)=>if (k==zx&&env.scope.kind == .function&&env.kindOf n==some .cell) then (n,yL) else (n,k)).lookup x=some .cell∨
  (names.map fun(n,k)=>if (k==zx&&env.scope.kind == .function&&env.kindOf n==some .cell) then (n,yL) else (n,k)).lookup x=some .free
 | [],_,h=>by simp at h
 | (n,k)::r,x,h=>by
  have ih:=@Zaf env r x;show qbP x ((if (k==zx&&env.scope.kind == .function&&env.kindOf n==some .cell)=true then (n,yL) else (n,k))::_)=_∨qbP x ((if (k==zx&&env.scope.kind == .function&&env.kindOf n==some .cell)=true then (n,yL) else (n,k))::_)=_
  cases hx:x==n with
  | true=>
   simp only[qX,hx] at h
   cases h
   by_cases hc:(zx==zx&&env.scope.kind == .function&&env.kindOf n==some .cell)=true
   ·rw[if_pos hc];left;simp[qX,hx]
   ·rw[if_neg hc];right;simp[qX,hx]
  | false=>
   simp only[qX,hx] at h;by_cases hc:(k==zx&&env.scope.kind == .function&&env.kindOf n==some .cell)=true
   ·rw[if_pos hc];simp only[qX,hx];exact ih h
   ·rw[if_neg hc];simp only[qX,hx];exact ih h
theorem Zaa {env:Env}:∀{names:List (Str×NameKind)} {x:Str} {k':NameKind},(∀y∈names,y.2≠.cell)->(k'=.cell∨k'=.free)->
  (names.map fun(n,k)=>if (k==zx&&env.scope.kind == .function&&env.kindOf n==some .cell) then (n,yL) else (n,k)).lookup x=some k'->names.lookup x=some .free
 | [],_,_,_,_,h=>by simp at h
 | (n,k)::r,x,k',nc,hk,h=>by
  have ih:=@Zaa env r x k' (fun y hy=>nc y (qQ _ hy)) hk;have h:qbP x ((if (k==zx&&env.scope.kind == .function&&env.kindOf n==some .cell)=true then (n,yL) else (n,k))::_)=_:=h
  cases hx:x==n with
  | true=>
   by_cases hc:(k==zx&&env.scope.kind == .function&&env.kindOf n==some .cell)=true
   ·have:k=.free:=by
     simp only[zd,beq_iff_eq] at hc;exact hc.1.1
    subst this;simp[qX,hx]
   ·rw[if_neg hc] at h
    simp only[qX,hx] at h⊢
    cases h
    rcases hk with rfl | rfl
    ·exact absurd rfl (nc _ zM)
    ·rfl
  | false=>
   by_cases hc:(k==zx&&env.scope.kind == .function&&env.kindOf n==some .cell)=true
   ·rw[if_pos hc] at h;simp only[qX,hx] at h⊢;exact ih h
   ·rw[if_neg hc] at h;simp only[qX,hx] at h⊢;exact ih h
theorem Bq {env:Env}:∀(names:List (Str×NameKind)) (jQ:List (Str×Addr)),(∀y∈names,y.2=.free->∃c,env.cells.lookup y.1=some c)->
  (∀x c,jQ.lookup x=some c->env.cells.lookup x=some c)->
  ∃cl,(forIn names jQ fun(p:Str×NameKind) (cs:List (Str×Addr))=>(if (p.2==zx)=true then do let a<-cellOf env p.1;pure (yD ((p.1,a)::cs)) else pure (yD cs):Sem (ForInStep (List (Str×Addr)))))=pure cl/\
   (∀x c,cl.lookup x=some c->env.cells.lookup x=some c)/\(∀x c,jQ.lookup x=some c->∃c',cl.lookup x=some c')/\∀y∈names,y.2=.free->∃c,cl.lookup y.1=some c
 | [],jQ,_,h2=>⟨jQ,by simp,h2,fun x c h=>⟨c,h⟩,fun y hy=>by simp at hy⟩
 | (n,k)::r,jQ,h1,h2=>by
  by_cases hk:k=.free
  ·subst hk
   obtain⟨c,hc⟩:=h1 (n,.free) zM rfl;have hcell:cellOf env n=pure c:=by unfold cellOf;rw[hc]
   obtain⟨cl,q1,q2,q3,q4⟩:=Bq (env:=env) r ((n,c)::jQ) (fun y hy=>h1 y (qQ _ hy)) fun x c' h=>by
    cases hx:x==n with
    | true=>
     simp only[qX,hx] at h
     cases h
     have:x=n:=by simpa using hx
     rw[this];exact hc
    | false=>simp only[qX,hx] at h;exact h2 x c' h
   refine⟨cl,?_,q2,fun x c' h=>?_,fun y hy hf=>?_⟩
   ·rw[yP]
    simp only[beq_self_eq_true,if_true,hcell,pure_bind];exact q1
   ·cases hx:x==n with
    | true=>exact q3 x c (by simp[qX,hx])
    | false=>exact q3 x c' (by simp only[qX,hx];exact h)
   ·rcases qt.mp hy with e | hy
    ·subst e;exact q3 n c (by simp[qX])
    ·exact q4 y hy hf
  ·obtain⟨cl,q1,q2,q3,q4⟩:=Bq (env:=env) r jQ (fun y hy=>h1 y (qQ _ hy)) h2
   refine⟨cl,?_,q2,q3,fun y hy hf=>?_⟩
   ·rw[yP]
    have:(k==zx)=false:=by simpa using hk
    simp only[this,yd,if_false,pure_bind];exact q1
   ·rcases qt.mp hy with e | hy
    ·subst e;exact absurd hf hk
    ·exact q4 y hy hf
theorem BlkS.ok {X:Cx}{XN:List Str}{NS:List (Str×NameKind)}{N':List Str}{src:List (Option Nat)}{scope:Scope}(B:BlkS X XN NS N' src scope)(ok:X.Ok):∃cl,BlkOk X N' src scope cl:=by
 have hcells:∀y∈scope.names,y.2=.free->∃c,X.env.cells.lookup y.1=some c:=fun y hy hf=>ok.has y.1 (by
  have:=B.free y hy hf;rw[<-B.ns] at this;exact this)
 obtain⟨cl,q1,q2,q3,q4⟩:=Bq (env:=X.env) scope.names [] hcells (fun x c h=>by simp at h);refine⟨cl,?_,B.nocell,B.kind,B.names,B.len,q2,fun x hx=>?_,fun i j x e1 e2=>?_⟩
 ·unfold closureFor
  show(forIn scope.names [] _ >>= _)=_;rw[show(forIn scope.names ([]:List (Str×Addr)) fun(x:Str×NameKind) (r:List (Str×Addr))=>_)=_ from q1];rfl
 ·have hf:scope.names.lookup x=some .free:=by
   rcases hx with h | h
   ·exact Zaa B.nocell (.inl rfl) h
   ·exact Zaa B.nocell (.inr rfl) h
  exact q4 (x,.free) (zp hf) rfl
 ·have hm:(some j,x)∈src.zip N':=by
   have:(src.zip N')[i]?=some (some j,x):=by
    rw[yQ];exact⟨e1,e2⟩
   exact zF this
  have q:=zV.mp B.from_ _ hm;simp only[zd,yO,decide_eq_true_eq] at q;obtain⟨⟨p1,p2⟩,p3⟩:=q;refine⟨by rw[B.xn];exact p1,?_,Zaf p3⟩;show X.env.scope.names.lookup x=_∨X.env.scope.names.lookup x=_;rw[B.ns];exact p2
section
variable {X:Cx}{G:Gh}{elt tg iter:Expr}{ifs:List Expr}{scope:Scope}{pos pos' spos:Pos}{XN:List Str}{NS:List (Str×NameKind)}{N':List Str}{src:List (Option Nat)}{fi:Zb->M (List D)}{τ:D->Zb->Option Zb}{ft:Zb->M Bool}{fe:Zb->M D}{r1:Bool}{i:Nat}{x:Str}
theorem ZiA (hc:X.calm=true)(B:BlkS X XN NS N' src scope)(hi:Wk X G tg iter fi)
  (hg:∀cl jJ C s H fp,WN (blk X jJ N' scope cl C s H fp) G tg (fun i=>src[i]?=some none) τ) (ht:∀cl jJ C s H fp,W3 (blk X jJ N' scope cl C s H fp) ifs (Ux G ft)) (he:∀cl jJ C s H fp,PD (blk X jJ N' scope cl C s H fp) G r1 elt fe)
  (hs:∀x,foldedSetIterable iter X.env x=pure x:=by intro _;rfl):PD X G true (.ListComp elt [⟨tg,iter,ifs,0⟩] scope pos) (Z0 src fi τ ft fe):=by
 obtain⟨wi,pi,qi⟩:=hi;refine⟨_,fun jJ s σ H Q I h=>?_,Zel (r1:=r1) qi⟩;obtain⟨cl,B'⟩:=B.ok I.ok;exact Zgb hc B' pi (fun jJ C s H fp=>(hg cl jJ C s H fp).canon) (ht cl) (fun jJ C s H fp=>(he cl jJ C s H fp).canon) hs jJ s σ H Q I h
theorem Bw (hN:X.N.Nodup)(hi':X.N[i]?=some x)(hx:W8 X.env.scope x)
  (hc:X.calm=true) (B:BlkS X XN NS N' src scope) (hi:Wk X G tg iter fi)
  (hg:∀cl jJ C s H fp,WN (blk X jJ N' scope cl C s H fp) G tg (fun i=>src[i]?=some none) τ) (ht:∀cl jJ C s H fp,W3 (blk X jJ N' scope cl C s H fp) ifs (Ux G ft)) (he:∀cl jJ C s H fp,PD (blk X jJ N' scope cl C s H fp) G r1 elt fe)
  (hsw:swapsWith (.ListComp elt [⟨tg,iter,ifs,0⟩] scope pos) (some (.Name x pos')) spos.line X.env=pure true:=by rfl)
  (hs:∀x,foldedSetIterable iter X.env x=pure x:=by intro _;rfl)
  (hf:X.fn x=true∨X.env.scope.names.lookup x=some .local:=by first | exact .inl rfl | exact .inr rfl | assumption) :
  U8 X G true i (.Assign [.Name x pos'] (.ListComp elt [⟨tg,iter,ifs,0⟩] scope pos) spos) (Z0 src fi τ ft fe):=by
 obtain⟨wi,pi,qi⟩:=hi;refine⟨_,fun jJ s σ H D I h=>?_,Zel (r1:=r1) qi⟩;obtain⟨cl,B'⟩:=B.ok I.ok;exact Zj7 hN hi' hx hc B' pi (fun jJ C s H fp=>(hg cl jJ C s H fp).canon) (ht cl) (fun jJ C s H fp=>(he cl jJ C s H fp).canon) hsw hs hf jJ s σ H D I h
end
noncomputable def ZT (P:Program)(w:World)(K:qf)(mg:Str->Option Value)(base:Heap)(k:Nat)(x:Str)(n:Nat)(fr:Bool)(GG:Gh->Prop)(F:List D->M D):Prop:=
 ∃f fd ps,FnOk P w K mg base ZO k f fd ps (Yn n fr GG F)/\mg x=some (.ref f)/\zR K (.ref f)=true/\Xz K fd ps []
theorem ZT.mono {P:Program}{w:World}{K:qf}{mg:Str->Option Value}{base:Heap}{j k:Nat}{x:Str}{n:Nat}{fr:Bool}{GG:Gh->Prop}{F:List D->M D}(c:ZT P w K mg base j x n fr GG F)(h:j<=k:=by decide):ZT P w K mg base k x n fr GG F:=
 let ⟨f,fd,ps,a,b,c,d⟩:=c
 ⟨f,fd,ps,a.mono h,b,c,d⟩
theorem Zma {X:Cx}{G:Gh}{k:Nat}{x:Str}{n:Nat}{fr:Bool}{GG:Gh->Prop}{F:List D->M D}{p pos:Pos}{e:Expr}{es:List Expr}{fs:Zb->M (List D)}(c:ZT X.prog X.w X.K X.mg X.base k x n fr GG F)(hG:GG G)(hr:Room k X.A)(hg:Gl X x)
  (ha:Ws X G (e::es) fs) (hal:∀ρ s ds s',fs ρ s=some (ds,s')->ds.length=(e::es).length) (jV:(e::es).length=n:=by rfl)
  (hdb:(x==("__debug__" : Str))=false:=by decide) (he:starEach (e::es) X.env=(false,eval e X.env)::starEach es X.env:=by rfl) (hpl:(backTo pos (starEach es X.env)).any (·.1)=false:=by rfl) :
  PD X G fr (.Call (.Name x p) (e::es) [] pos) (Zq F fs):=by
 obtain⟨f,fd,ps,a,b,c,d⟩:=c;exact Zj8 a hG hr hg b c d Zig ha jV hal hdb he hpl
noncomputable def W6 (h base:Heap)(as:List Addr):Heap:=PySem.W.hideAll h ((qm h.objs.size).filter fun a=>!((base.get? a).isSome||decide (a∈as)))
theorem Zg6 {h base:Heap}{as:List Addr}:(W6 h base as).objs.size=h.objs.size:=qbr _ _
theorem Zer {h base:Heap}{as:List Addr}{b:Addr}{o:Obj}(e:h.get? b=some o)(n:(∃u,base.get? b=some u)∨b∈as):(W6 h base as).get? b=some o:=
 qbA _ e fun hm=>by
  have q:=(qC.mp hm).2;rcases n with⟨u,n⟩ | n
  ·simp[n] at q
  ·simp[n] at q
theorem Zgh {h base:Heap}{as:List Addr}{b:Addr}{o:Obj}(e:(W6 h base as).get? b=some o):h.get? b=some o/\((∃u,base.get? b=some u)∨b∈as):=by
 have e':h.get? b=some o:=PySem.W.of_hideAll _ e;refine⟨e',?_⟩;by_cases c:((base.get? b).isSome||decide (b∈as))=true
 ·rcases qbB.mp c with c | c
  ·exact .inl (zN.mp c)
  ·exact .inr (of_decide_eq_true c)
 ·have z:(W6 h base as).get? b=none:=qbs _ (qC.mpr ⟨qS.mpr (qz e'),by simpa using c⟩)
  rw[z] at e;cases e
theorem jD {P:Program}{w:World}{K:qf}{mg:Str->Option Value}{base:Heap}{A:Around}{outer:List Env}{s:Shared}{H:Hp}{as:List Addr}(e:Env0 P w K mg base A outer s H)(ha:∀b∈as,H b=none)(hf:∀b∈as,b∉XF outer) :
  Env0 P w K mg (W6 s.heap base as) A outer s H:=by
 have up:∀b o,base.get? b=some o->(W6 s.heap base as).get? b=some o:=fun b o q=>Zer (e.bs b o q).1 (.inl ⟨o,q⟩);refine⟨e.frames,⟨e.mod.kin.keeps up,e.mod.glob.keeps up,let ⟨mb,h1,h2⟩:=e.mod.blt;⟨mb,h1.keeps up,h2⟩,e.mod.nolimit.keeps up⟩,fun b o q=>?_,qbN Zg6,?_,e.frf,e.hok,e.bare⟩
 ·obtain⟨q1,q2⟩:=Zgh q
  refine⟨q1,?_⟩;rcases q2 with⟨u,q2⟩ | q2
  ·exact(e.bs b u q2).2
  ·exact ha b q2
 ·have all:∀l:List Env,(∀b∈XF l,b∈XF outer)->s.heap.FunFrames base l->s.heap.FunFrames (W6 s.heap base as) l:=by
   intro l
   induction l with
   | nil=>intro _ _;trivial
   | cons env r ih=>
    intro hs hl;obtain⟨hk,⟨L,o,hf',hn,ho,hd⟩,hr⟩:=hl;have hL:L∈XF outer:=hs L (by unfold XF;rw[yt,hf'];exact zM);refine⟨hk,⟨L,o,hf',?_,ho,hd⟩,ih (fun b hb=>hs b (by unfold XF;rw[yt,hf'];exact qQ _ hb)) hr⟩
    cases q:(W6 s.heap base as).get? L with
    | none=>rfl
    | some u=>
     rcases (Zgh q).2 with⟨u',q'⟩ | q'
     ·rw[hn] at q';cases q'
     ·exact absurd hL (hf L q')
  exact all outer (fun _ h=>h) e.funs
noncomputable def fnφ (p:Addr)(fd:FuncData):Heap->Prop:=fun h=>∃oc od sl,h.get? p=some ⟨oc,od,.func fd,sl⟩
noncomputable def codeφ (c:Addr)(q:Str):Heap->Prop:=fun h=>h.CodeRec (.ref c) q
theorem fnφ_at {P:Program}{w:World}{H:Hp}{h:Heap}{p:Addr}{fd:FuncData}(ok:Ym P w H h)(e:H p=some (.ext (fnφ p fd))):fnφ p fd h:=(ok p _ e).1
theorem codeφ_at {P:Program}{w:World}{H:Hp}{h:Heap}{c:Addr}{q:Str}(ok:Ym P w H h)(e:H c=some (.ext (codeφ c q))):h.CodeRec (.ref c) q:=(ok c _ e).1
structure CloScope (N ps:List Str)(sc:Scope):Prop where
 kind:sc.kind=.function
 co:sc.isCoroutine=false
 gen:sc.isGenerator=false
 nd:N.Nodup
 pre:N.take ps.length=ps
 par:∀x∈ps,sc.names.lookup x=some .local
 nocell:∀y∈sc.names,y.2≠.cell
noncomputable def V6 (CX:XG)(P:Program)(w:World)(K:qf)(mg:Str->Option Value)(base:Heap)(N:List Str)(qual:Str)(scope:Scope)(f:Addr)(cd:Value)(cl:List (Str×Addr))(A:Around)(outer:List Env)(s:Shared)(H:Hp)(E:XK):Cx where
 prog:=P
 w:=w
 K:=K
 mg:=mg
 base:=base
 A:=A.deeper (zO qual scope s.heap.objs.size f cd cl)
 N:=N
 s₀:=s
 H₀:=H
 env:=zO qual scope s.heap.objs.size f cd cl
 outer:=outer
 stack:=zO qual scope s.heap.objs.size f cd cl::outer
 ex:=[]
 calm:=true
 fn:=fun _=>false
 pn:=[]
 xe:=fun e s'=>wpAny (model P w) (A.deeper (zO qual scope s.heap.objs.size f cd cl)) (leaving (zO qual scope s.heap.objs.size f cd cl) e) (fun _ s''=>CX outer H s E e s'') (fun e' s''=>CX outer H s E e' s'') s'
structure CloAt (base:Heap)(cl:List (Str×Addr))(sc:Scope)(N ps:List Str)(cvs:List V):Prop where
 inj:∀x y c,cl.lookup x=some c->cl.lookup y=some c->x=y
 cell:∀x c,cl.lookup x=some c->∃v,base.IsCell c v
 has:∀x,sc.names.lookup x=some .free->∃c,cl.lookup x=some c
 cap:∀(i:Nat) (x:Str) (v:V),N[ps.length+i]?=some x->cvs[i]?=some v->sc.names.lookup x=some .free/\∃c u,cl.lookup x=some c/\base.IsCell c (some u)/\ZA v u
 len:N.length=ps.length+cvs.length
theorem Zba {α:Type}:∀{l:List (Str×α)} {x:Str} {u:α},(l.map (·.1)).Nodup->(x,u)∈l->l.lookup x=some u
 | [],_,_,_,h=>by simp at h
 | (y,w)::l,x,u,nd,h=>by
  rw[zi,zI] at nd;rcases qt.mp h with e | hm
  ·cases e;simp[qX]
  ·have hne:(x==y)=false:=by
    simp only[beq_eq_false_iff_ne];rintro rfl;exact nd.1 (yu (f:=(·.1)) hm)
   rw[qX,hne];exact Zba nd.2 hm
theorem ZbG:∀(ps:List Str) (us:List Value),((ps.zip us).map (·.1)).Sublist ps
 | [],_=>by simp
 | _::_,[]=>by simp
 | p::ps,u::us=>by simpa using ZbG ps us
theorem Zb8 {ps:List Str}{us:List Value}{i:Nat}{x:Str}{u:Value}(nd:ps.Nodup)(h1:ps[i]?=some x)(h2:us[i]?=some u):(ps.zip us).reverse.lookup x=some u:=by
 refine Zba ?_ ?_
 ·rw[List.map_reverse]
  refine List.pairwise_reverse.mpr ?_;exact(nd.sublist (ZbG _ _)).imp zl
 ·rw[List.mem_reverse]
  exact zF (i:=i) (yQ.mpr ⟨h1,h2⟩)
theorem Zkg {CX:XG}{P:Program}{w:World}{K:qf}{mg:Str->Option Value}{base:Heap}{N ps:List Str}{qual:Str}{scope:Scope}{f:Addr}{cd:Value}{cl:List (Str×Addr)}{A:Around}{outer:List Env}{s:Shared}{H:Hp}{E:XK}{us:List Value}{vs cvs:List V}{h':Heap}{tk:Nat}
  (S:CloScope N ps scope) (C:CloAt base cl scope N ps cvs) (hd:A.handled=none) (e0:Env0 P w K mg base A outer s H) (hl:vs.length=ps.length) (r:Zs vs us)
  (hns:h'.Ns s.heap.objs.size (fun x=>(ps.zip us).reverse.lookup x)) (hk:∀b o,s.heap.get? b=some o->h'.get? b=some o) :
  Inv (V6 CX P w K mg base N qual scope f cd cl A outer s H E) [] (vs.map some++cvs.map some) H { s with heap:=h',toks:=tk }:=by
 have noA:∀b:Addr,b∉(V6 CX P w K mg base N qual scope f cd cl A outer s H E).ex:=fun b z=>absurd (show b∈([]:List Addr) from z) (by simp);have up:∀b o,base.get? b=some o->h'.get? b=some o:=fun b o q=>hk b o (e0.bs b o q).1;have cellAt:∀x c,cl.lookup x=some c->∃v,base.IsCell c v:=C.cell;refine⟨⟨e0.mod,S.kind,rfl,rfl,qp _,fun y z c h1 h2=>C.inj y z c h1 h2,fun y hy=>?_,fun y c z _=>(by cases z),fun _=>hd,qbt e0.frames,.inr ⟨rfl,rfl⟩,fun b z=>absurd z (noA b),e0.bs,e0.bsz,fun b _ _=>noA b,fun b z=>absurd z (noA b),e0.funs,e0.frf⟩,
  rfl,e0.bare,Un.kept hk,⟨_,hns,fun i y v h1 h2 h3=>?_⟩,fun y c h=>?_,e0.hok.fresh (qp _),fun y c h=>?_,fun p hp=>absurd (show p∈([]:List (Addr×Obj)) from hp) (by simp),e0.hok.kept hk,?_⟩
 ·have hy:scope.names.lookup y=some .cell∨scope.names.lookup y=some .free:=hy
  rcases hy with hy | hy
  ·exact absurd rfl (S.nocell _ (zp hy))
  ·exact C.has y hy
 ·have h1:N[i]?=some y:=h1
  by_cases hi:i<vs.length
  ·have ha:vs[i]?=some v:=by
    rw[zJ (by simpa using hi),qA] at h2
    cases e:vs[i]? with
    | none=>rw[e] at h2;cases h2
    | some a=>rw[e] at h2;cases h2;rfl
   obtain⟨u,hu,rv⟩:=r.get ha;have hp:ps[i]?=some y:=by
    rw[<-S.pre,qaX (by omega)];exact h1
   have ndP:ps.Nodup:=by rw[<-S.pre];exact S.nd.sublist (qaN _ _)
   exact⟨u,rv,.inl ⟨S.par y (zF hp),Zb8 ndP hp hu⟩⟩
  ·rw[yh (by simpa using hi),qA,qj] at h2
   have hc:cvs[i-vs.length]?=some v:=by
    cases e:cvs[i-vs.length]? with
    | none=>rw[e] at h2;cases h2
    | some a=>rw[e] at h2;cases h2;rfl
   obtain⟨q1,c,u,q2,q3,q4⟩:=C.cap (i-vs.length) y v (by rw[show ps.length+(i-vs.length)=i by omega];exact h1) hc;exact⟨u,q4,.inr ⟨.inr q1,c,q2,q3.keeps up⟩⟩
 ·obtain⟨v,q⟩:=C.cell y c h
  exact⟨v,q.keeps up⟩
 ·obtain⟨v,o,q,_⟩:=C.cell y c h
  exact(e0.bs c o q).2
 ·show _=N.length
  rw[C.len];simp[hl]
theorem Zkh {CX:XG}{P:Program}{w:World}{K:qf}{mg:Str->Option Value}{base:Heap}{k:Nat}{f:Addr}{name qual:Str}{params:Arguments}{body:Expr}{scope:Scope}{cl:List (Str×Addr)}{pm ct:Value}{c':Addr}{N ps:List Str}{cvs:List V}{sp:Sp}
  (S:CloScope N ps scope) (C:CloAt base cl scope N ps cvs) (len:∀vs H Q E,sp vs H Q E->vs.length=ps.length)
  (at_:∀vs H Q E,sp vs H Q E->H f=some (.ext (fnφ f (za name qual params body scope cl pm (.ref c') ct)))/\H c'=some (.ext (codeφ c' qual)))
  (hbody:∀(A:Around) (outer:List Env) (s:Shared) (H:Hp) (vs:List V) (Q:VK) (E:XK),Room k (A.deeper (zO qual scope s.heap.objs.size f (.ref c') cl))->sp vs H Q E->
   ∃t,PE (V6 CX P w K mg base N qual scope f (.ref c') cl A outer s H E) body t/\t (vs.map some++cvs.map some) H Q) :
  FnOk P w K mg base CX (k+1) f (za name qual params body scope cl pm (.ref c') ct) ps sp:=by
 refine⟨len,fun A outer s H args us vs Q E hr e0 hb r hsp=>?_⟩;have hl:=len _ _ _ _ hsp;obtain⟨a1,a2⟩:=at_ _ _ _ _ hsp;obtain⟨oc,od,sl,ho⟩:=fnφ_at e0.hok a1;have lim:s.heap.NoLimit:=e0.mod.nolimit.keeps fun b o e=>(e0.bs b o e).1;have hkind:∀y∈ps.zip us,scope.names.lookup y.1=some .local:=fun⟨n,v⟩ hy=>S.par n (qas hy).1;refine PySem.W.kla_callFunE hr.depth ho rfl S.co S.gen rfl (codeφ_at e0.hok a2) (hb _ _ _ _ ?_);refine wpAny_newFunctionEnv S.nocell hkind (fun h' hns hsb=>?_) S.kind;have hk:∀b o,s.heap.get? b=some o->h'.get? b=some o:=fun b o e=>hsb.extBut b o (qP (qz e)) (qd _ e);refine⟨lim.keeps hk,?_⟩;show codeAny _ _ (.expr body (zO qual scope s.heap.objs.size f (.ref c') cl)) _ _;obtain⟨t,ht,hq⟩:=hbody A outer s H vs Q E (hr.deeper _) hsp;refine PySem.W.kla_codeExpr (wpAny_mono (ht [] _ _ H Q (Zkg S C hr.hd e0 hl r hns hk) hq) (fun u s' hs=>?_) fun e s' hs=>hs);obtain⟨v,H',J,rv,q⟩:=hs;exact⟨v,H',J.os,J.bare,J.base,J.hok,rv,q⟩
structure Mk0 (X:Cx)(c P:Addr):Prop where
 code:X.env.code=.ref c
 hd:zB X.base c P
 bm:∃bm o,X.mg "__builtins__" = some (.ref bm)/\bm≠builtinsNs/\bm≠mainGlobals/\X.base.get? bm=some o/\o.cls=.type "module"/\o.dict=some builtinsNs/\o.data=.plain
noncomputable def Slot (P:Addr)(q:Str)(lpos:Pos)(ps:Array Value)(H Hm:Hp)(c':Addr):Prop:=
 (Hm=H/\codeAmong lpos ps.toList=some (.ref c')/\H c'=some (.ext (codeφ c' q)))∨(codeAmong lpos ps.toList=none/\H c'=none/\c'≠P/\Hm=Zk (Zk H P (.tbl (ps ++ #[rawInt lpos.line,rawInt lpos.col,.ref c']))) c' (.ext (codeφ c' q)))
noncomputable def ZiB (P:Addr)(q:Str)(lpos:Pos)(isFd:FuncData->Addr->Prop)(H:Hp)(R:Addr->Addr->FuncData->Hp->Prop):Prop:=
 ∃ps,H P=some (.tbl ps)/\TriplesOk ps.toList/\(∀cv,codeAmong lpos ps.toList=some cv->∃c',cv=.ref c'/\H c'=some (.ext (codeφ c' q)))/\
  ∀p c' fd Hm,isFd fd c'->Slot P q lpos ps H Hm c'->Hm p=none->R p c' fd (Zk Hm p (.ext (fnφ p fd)))
section
variable {X:Cx}{jJ:List (Addr×Obj)}{σ:St}{H:Hp}{s:Shared}{c P:Addr}{ps:Array Value}
theorem Mk0.bat (M:Mk0 X c P)(I:Inv X jJ σ H s)(hP:H P=some (.tbl ps)):s.heap.BuiltinsAt X.mg P:=by
 obtain⟨bm,o,e1,e2,e3,e4,e5⟩:=M.bm;refine⟨bm,o,e1,e2,e3,fun z=>?_,I.bk _ _ e4,e5⟩;have:=(I.bs _ _ e4).2;rw[z,hP] at this;cases this
theorem gne (I:Inv X jJ σ H s)(hP:H P=some (.tbl ps)):mainGlobals≠P:=fun z=>by
 obtain⟨o,es,ep,e,_⟩:=I.mod.glob;have:=(I.bs _ _ e).2;rw[z,hP] at this;cases this
theorem Zfv {P0:Program}{w:World}{H':Hp}{h:Heap}{a:Addr}{φ:Heap->Prop}(h1:φ h)(h2:∃o,h.get? a=some o)(h3:∀h1 h2:Heap,φ h1->(∀o,h1.get? a=some o->h2.get? a=some o)->φ h2):YA P0 w H' h a (.ext φ):=⟨h1,h2,h3⟩
theorem fnφ_keep {p:Addr}{fd:FuncData}:∀h1 h2:Heap,fnφ p fd h1->(∀o,h1.get? p=some o->h2.get? p=some o)->fnφ p fd h2:=fun h1 h2 ⟨oc,od,sl,e⟩ k=>⟨oc,od,sl,k _ e⟩
theorem codeφ_keep {p:Addr}{q:Str}:∀h1 h2:Heap,codeφ p q h1->(∀o,h1.get? p=some o->h2.get? p=some o)->codeφ p q h2:=fun h1 h2 ⟨a,o,vs,t,e,e1,r⟩ k=>by
 cases e
 exact⟨p,o,vs,t,rfl,k _ e1,r⟩
theorem codeφ_there {p:Addr}{q:Str}{h:Heap}(x:codeφ p q h):∃o,h.get? p=some o:=by
 obtain⟨a,o,vs,t,e,e1,r⟩:=x
 cases e
 exact⟨o,e1⟩
theorem Zki {h':Heap}{tk:Nat}{c':Addr}{more:Array Value}{q:Str}(I:Inv X jJ σ H s)(hP:H P=some (.tbl ps))(hx:Heap.ExtBut P s.heap h')(hge:s.heap.objs.size<=c')(hc:h'.CodeRec (.ref c') q)(ht:h'.get? P=some (y6 (ps++more))) :
  Inv X jJ σ (Zk (Zk H P (.tbl (ps++more))) c' (.ext (codeφ c' q))) { s with heap:=h',toks:=tk }/\H c'=none/\c'≠P:=by
 have hc0:H c'=none:=I.hok.fresh hge;have hcP:c'≠P:=fun z=>by rw[z,hP] at hc0;cases hc0
 have old:∀{b:Addr} {u:HO},H b=some u->b≠c':=fun e z=>by rw[z,hc0] at e;cases e
 have get:∀{b:Addr} {u:HO},H b=some u->b≠P->Zk (Zk H P (.tbl (ps++more))) c' (.ext (codeφ c' q)) b=some u:=fun {b u} e n=>by rw[Zo (old e),Zo n];exact e
 refine⟨I.call (g':=s.gens) (d':=s.drawn) (ch:=[]) ?_ ?_ I.bare (fun b hb=>absurd hb (by simp)),hc0,hcP⟩
 ·refine⟨fun b o e n _ _=>hx b o (fun z=>by rw[z,hP] at n;cases n) e,fun b o e n _ _=>⟨o.slots,hx b o (fun z=>by rw[z,hP] at n;cases n) e⟩,fun b o e n _=>?_,fun b o e _=>?_,fun b xs e=>get e (fun z=>by rw[z,hP] at e;cases e),fun b o u e=>get e (fun z=>by rw[z,hP] at e;cases e),fun b ps' e=>?_⟩
  ·rw[Zo (qP (qN (qz e) hge)),Zo (fun z=>by rw[z,hP] at n;cases n)];exact n
  ·by_cases hb:b=P
   ·exact⟨_,hb▸ht⟩
   ·exact⟨o,hx b o hb e⟩
  ·by_cases hb:b=P
   ·subst hb
    rw[hP] at e;cases e;exact⟨more,by rw[Zo (old hP),ZI]⟩
   ·exact⟨#[],by rw[get e hb];simp⟩
 ·intro a o e
  by_cases ha:a=c'
  ·subst ha
   rw[ZI] at e;cases e;exact Zfv hc (codeφ_there hc) codeφ_keep
  ·rw[Zo ha] at e
   by_cases hb:a=P
   ·subst hb
    rw[ZI] at e;cases e;exact ht
   ·rw[Zo hb] at e
    refine(I.hok a o e).stay (fun b u hb' r=>hx b u ?_ r) (fun b r=>get r (fun z=>by rw[z,hP] at r;cases r)) fun b xs r=>get r (fun z=>by rw[z,hP] at r;cases r);rcases hb' with rfl | hb'
    ·exact hb
    ·intro z;rw[z,hP] at hb';cases hb'
structure CloOf (X:Cx)(scope:Scope)(cl:List (Str×Addr)):Prop where
 of:∀x c,cl.lookup x=some c->X.env.cells.lookup x=some c
 has:∀y∈scope.names,y.2=.free->∃c,cl.lookup y.1=some c
theorem Zkj {scope:Scope}(ok:X.Ok)(hfree:∀y∈scope.names,y.2=.free->X.env.kindOf y.1=some .cell∨X.env.kindOf y.1=some .free):∃cl,closureFor scope X.env=pure cl/\CloOf X scope cl:=by
 obtain⟨cl,q1,q2,q3,q4⟩:=Bq (env:=X.env) scope.names [] (fun y hy hf=>ok.has y.1 (hfree y hy hf)) (fun x c h=>by simp at h);refine⟨cl,?_,q2,q4⟩;unfold closureFor;show(forIn scope.names [] _ >>= _)=_;rw[show(forIn scope.names ([]:List (Str×Addr)) fun(x:Str×NameKind) (r:List (Str×Addr))=>_)=_ from q1];rfl
theorem Zfw {params:Arguments}{body:Expr}{scope:Scope}{lpos:Pos}{q:Str}(M:Mk0 X c P)(hq:X.env.qual ++ "<lambda>" = q)(hfree:∀y∈scope.names,y.2=.free->X.env.kindOf y.1=some .cell∨X.env.kindOf y.1=some .free)(hdef:defaultsOf params X.env=([],[]):=by rfl) :
  PE X (.Lambda params body scope lpos) (fun σ H Q=>ZiB P q lpos (fun fd c'=>∃cl pm ctv,CloOf X scope cl/\fd=za "<lambda>" q params body scope cl pm (.ref c') ctv) H fun p _ _ H'=>Q (.ref p) H'):=by
 intro jJ s σ H Q I ⟨ps,hP,ht,hhit,h⟩;obtain⟨cl,hcl,co⟩:=Zkj I.ok hfree;have hP':s.heap.get? P=some (y6 ps):=I.hok P _ hP;have hg:s.heap.Ns mainGlobals X.mg:=I.mod.glob.keeps I.bk;have hb:=M.bat I hP;refine PySem.W.kla_eval hdef ?_;rw[hq]
 cases hc:codeAmong lpos ps.toList with
 | some cv=>
  obtain⟨c',rfl,hc'⟩:=hhit cv hc;refine PySem.W.kla_makeFunctionHit hcl I.ok.glob hg M.code (M.hd.keeps I.bk) hP' ht hc hb fun ctv h' tk hk hsz=>?_;refine⟨.ref h'.objs.size,Zk H h'.objs.size (.ext (fnφ _ _)),I.laid (t':=tk) (fun b u e=>qd _ (hk b u e)) hsz (Zfv ⟨_,_,_,qy _ rfl⟩ ⟨_,qy _ rfl⟩ fnφ_keep),rfl,h _ c' _ H ⟨cl,_,_,co,rfl⟩ (.inl ⟨rfl,hc,hc'⟩) (I.hok.fresh hsz)⟩
 | none=>
  refine PySem.W.kla_makeFunction hcl I.ok.glob hg M.code (M.hd.keeps I.bk) hP' ht hc (gne I hP) hb fun c' ctv h' tk hx hge hlt hrec htb=>?_;obtain⟨I1,hc0,hcP⟩:=Zki (tk:=tk) I hP hx hge hrec htb;refine⟨.ref h'.objs.size,Zk _ h'.objs.size (.ext (fnφ _ _)),I1.laid (t':=tk) (fun b u e=>qd _ e) (qp _) (Zfv ⟨_,_,_,qy _ rfl⟩ ⟨_,qy _ rfl⟩ fnφ_keep),rfl,h _ c' _ _ ⟨cl,_,_,co,rfl⟩ (.inr ⟨hc,hc0,hcP,rfl⟩) (I1.hok.fresh (qp _))⟩
end
structure Cells (X:Cx)(σ:St)(base':Heap):Prop where
 inj:∀x y c,X.env.cells.lookup x=some c->X.env.cells.lookup y=some c->x=y
 cell:∀x c,X.env.cells.lookup x=some c->∃v,base'.IsCell c v
 has:∀x,(X.env.kindOf x=some .cell∨X.env.kindOf x=some .free)->∃c,X.env.cells.lookup x=some c
 val:∀(i:Nat) (x:Str) (v:V),X.N[i]?=some x->σ[i]?=some (some v)->X.env.kindOf x=some .cell->∃c u,X.env.cells.lookup x=some c/\base'.IsCell c (some u)/\ZA v u
section
variable {X:Cx}{jJ:List (Addr×Obj)}{σ:St}{H:Hp}{s:Shared}
noncomputable def J3 (X:Cx):List Addr:=X.env.cells.filterMap fun p=>X.env.cells.lookup p.1
theorem Zg7 {x:Str}{c:Addr}(e:X.env.cells.lookup x=some c):c∈J3 X:=yS.mpr ⟨(x,c),zp e,e⟩
theorem Zes {c:Addr}(h:c∈J3 X):∃x,X.env.cells.lookup x=some c:=by
 obtain⟨p,_,e⟩:=yS.mp h;exact⟨p.1,e⟩
theorem Zdh (I:Inv X jJ σ H s)(hfn:∀x,X.fn x=true):Env0 X.prog X.w X.K X.mg (W6 s.heap X.base (J3 X)) X.A X.stack s H/\Cells X σ (W6 s.heap X.base (J3 X)):=by
 have cellK:∀x c v,X.env.cells.lookup x=some c->s.heap.IsCell c v->(W6 s.heap X.base (J3 X)).IsCell c v:=fun x c v e ⟨o,ho,hd⟩=>⟨o,Zer ho (.inr (Zg7 e)),hd⟩;refine⟨jD I.env0 (fun b hb=>?_) fun b hb hf=>?_,⟨I.ok.inj,fun x c e=>?_,I.ok.has,fun i x v h1 h2 h3=>?_⟩⟩
 ·obtain⟨x,e⟩:=Zes hb
  exact I.freeC x b e
 ·obtain⟨x,e⟩:=Zes hb
  rcases qt.mp (I.stkSub b hf) with z | z
  ·exact I.cne x b e z
  ·obtain⟨_,o,ho,_⟩:=I.ok.funs.mem z
   exact absurd (qN (qz ho) (I.ok.cab x b (hfn x) e)) (z6 _)
 ·obtain⟨v,q⟩:=I.cell x c e
  exact⟨v,cellK x c v e q⟩
 ·obtain⟨m,_,hl⟩:=I.loc
  obtain⟨u,r,l⟩:=hl i x v h1 h2 (.inr (.inl h3));rcases l with⟨hk,_⟩ | ⟨_,c,hc,hcell⟩
  ·rw[h3] at hk;cases hk
  ·exact⟨c,u,hc,cellK x c _ hc hcell,r⟩
theorem Zet {x:Str}{p pos:Pos}{e:Expr}{es:List Expr}{t:TA}{k:Nat}{f:Addr}{fd:FuncData}{ps:List Str}{sp:Heap->Sp}(F:∀base,FnOk X.prog X.w X.K X.mg base ZO k f fd ps (sp base))(hfn:∀x,X.fn x=true)(hr:Room k X.A)(hg:Gl X x)(hm:X.mg x=some (.ref f))(hk:zR X.K (.ref f)=true)(hb:Xz X.K fd ps [])
  (ha:PA X (e::es) t) (hdb:(x==("__debug__" : Str))=false:=by decide) (he:starEach (e::es) X.env=(false,eval e X.env)::starEach es X.env:=by rfl) (hpl:(backTo pos (starEach es X.env)).any (·.1)=false:=by rfl) :
  PE X (.Call (.Name x p) (e::es) [] pos) (fun σ H Q=>t σ H fun vs H1=>∀base',Cells X σ base'->sp base' vs H1 Q E0):=by
 intro jJ s σ H Q I h;refine wpAny_Call_Name_kw (ZdC I hg hm ?_ hdb);refine PySem.W.callWith_K (h₀:=X.base) I.ok.mod.kin hk (ZC (ha pos jJ s σ H _ I h) fun us s1 ⟨vs,H1,I1,r,q⟩=>⟨I1.kIn,?_⟩) he hpl;obtain⟨e0,cs⟩:=Zdh I1 hfn;have q':=q _ cs;have hl:(us ++ []).length=ps.length:=by rw[zm,<-r.length];exact(F _).len _ _ _ _ q'
 refine wpAny_call (codeAny_mono ((F _).run X.A X.stack s1 H1 ⟨us,[]⟩ us vs Q E0 hr e0 (by have:=hb s1 us I1.kIn hl;rw[zm] at this;exact this) r q') fun r s' hq=>?_)
 cases r with
 | error e=>exact hq.elim
 | ok fl=>
  cases fl with
  | ret u=>exact I1.after hq
  | next=>exact zw hq
  | brk=>exact zw hq
  | cont=>exact zw hq
theorem ZiC {x:Str}{p pos:Pos}{e:Expr}{es:List Expr}{t:TA}{k i:Nat}(hf:PE X (.Name x p) (Z7 i))(hr:Room k X.A)(ha:PA X (e::es) t)
  (he:starEach (e::es) X.env=(false,eval e X.env)::starEach es X.env:=by rfl) (hpl:(backTo pos (starEach es X.env)).any (·.1)=false:=by rfl) :
  PE X (.Call (.Name x p) (e::es) [] pos) (fun σ H Q=>∃f fd ps sp,σ[i]?=some (some (.ref f))/\Xz X.K fd ps []/\FnOk X.prog X.w X.K X.mg X.base ZO k f fd ps sp/\(∀h:Heap,Ym X.prog X.w H h->X.K.In h->fnφ f fd h)/\
   t σ H fun vs H1=>(∀h:Heap,Ym X.prog X.w H1 h->X.K.In h->fnφ f fd h)/\sp vs H1 Q E0):=by
 intro jJ s σ H Q I ⟨f,fd,ps,sp,e,hb,F,h0,h⟩;refine wpAny_Call_Name_kw (ZC (hf jJ s σ H (fun v H'=>v=.ref f/\H'=H) I ⟨_,e,rfl,rfl⟩) fun u s1 ⟨v,H1,I1,rv,ev,eH⟩=>?_);subst ev eH
 cases (show u=qI f from rv)
 have at1:∀{jJ σ H s},Inv X jJ σ H s->(∀h:Heap,Ym X.prog X.w H h->X.K.In h->fnφ f fd h)->PySem.W.FnAt f s.heap:=fun I z=>by
  obtain⟨oc,od,sl,q⟩:=z _ I.hok I.kIn;exact⟨oc,od,fd,sl,q⟩
 refine PySem.W.callWith_F (at1 I1 h0) (ZC (ha pos jJ s1 σ _ _ I1 h) fun us s2 ⟨vs,H2,I2,r,h2,q⟩=>⟨at1 I2 h2,?_⟩) he hpl;exact Zh6 F hr hb .nil Zig I2 r (by rw[zm];exact q)
end
mutual
noncomputable def Yt:D->Bool
 | .tup ds=>YQ ds
 | .lst ds=>YQ ds
 | .clo _ _=>false
 | _=>true
noncomputable def YQ:List D->Bool
 | []=>true
 | d::ds=>Yt d&&YQ ds
end
mutual
theorem Zj.re {G G':Gh}{H:Hp}(hf:G'.fp=G.fp)(hp:G'.pen=G.pen):∀{d:D} {v:V},Yt d=true->Zj G H d v->Zj G' H d v
 | .non,_,_,h=>jg.mpr (jg.mp h)
 | .bl _,_,_,h=>je.mpr (je.mp h)
 | .int _,_,_,h=>ja.mpr (ja.mp h)
 | .str _,_,_,h=>ji.mpr (ji.mp h)
 | .tup ds,v,n,h=>by
  obtain⟨a,vs,e1,nf,e2,r⟩:=jb.mp h;exact jb.mpr ⟨a,vs,e1,by rw[hf];exact nf,e2,Zg.re hf hp (by simpa[Yt] using n) r⟩
 | .lst ds,v,n,h=>by
  obtain⟨a,vs,e1,nf,e2,r⟩:=jc.mp h;exact jc.mpr ⟨a,vs,e1,by rw[hf];exact nf,e2,Zg.re hf hp (by simpa[Yt] using n) r⟩
 | .dk _,_,_,h=>by
  obtain⟨a,e1,nf,e2⟩:=jk.mp h;exact jk.mpr ⟨a,e1,by rw[hf];exact nf,e2⟩
 | .dt _,_,_,h=>by
  obtain⟨a,o,e1,nf,e2⟩:=jl.mp h;exact jl.mpr ⟨a,o,e1,by rw[hf];exact nf,e2⟩
 | .du _,_,_,h=>by
  obtain⟨a,e1,nf,e2⟩:=jm.mp h;exact jm.mpr ⟨a,e1,by rw[hf];exact nf,e2⟩
 | .df _,_,_,h=>by
  obtain⟨a,o,e1,nf,e2⟩:=js.mp h;exact js.mpr ⟨a,o,e1,by rw[hf];exact nf,e2⟩
 | .pen,_,_,h=>jp.mpr ((jp.mp h).trans hp.symm)
 | .ty _,_,_,h=>jt.mpr (jt.mp h)
 | .clo _ _,_,n,_=>by simp[Yt] at n
theorem Zg.re {G G':Gh}{H:Hp}(hf:G'.fp=G.fp)(hp:G'.pen=G.pen):∀{ds:List D} {vs:List V},YQ ds=true->Zg G H ds vs->Zg G' H ds vs
 | [],_,_,h=>Zg.nil_iff.mpr (Zg.nil_iff.mp h)
 | d::ds,vs,n,h=>by
  obtain⟨v,r,e,h1,h2⟩:=jd.mp h;have n':Yt d=true/\YQ ds=true:=by simpa[YQ] using n
  exact jd.mpr ⟨v,r,e,Zj.re hf hp n'.1 h1,Zg.re hf hp n'.2 h2⟩
end
theorem Gr.re {G G':Gh}{Hf H Hf' H':Hp}(hf:G'.fp=G.fp)(g:Gr G Hf H Hf' H'):Gr G' Hf H Hf' H':=
 ⟨fun b o n=>g.hh b o (by rw[<-hf];exact n),fun b o n=>g.ff b o (by rw[<-hf];exact n),fun b o n=>g.fh b o (by rw[<-hf];exact n),fun b n=>g.nw b (by rw[<-hf];exact n)⟩
theorem Zw.re {G G':Gh}{H H':Hp}(hf:G'.fp=G.fp)(g:Zw G H H'):Zw G' H H':=fun b o n=>g b o (by rw[<-hf];exact n)
theorem Yo.re {G G':Gh}{H Hf':Hp}{d:D}{v:V}(hf:G'.fp=G.fp)(hp:G'.pen=G.pen)(n:Yt d=true)(h:Yo G H Hf' d v):Yo G' H Hf' d v:=fun a e m=>by
 obtain⟨h1,h2⟩:=h a e m;refine⟨h1,fun ds ed=>?_⟩;obtain⟨vs,Hm,q1,q2,q3,q4⟩:=h2 ds ed;subst ed;exact⟨vs,Hm,q1,q2,q3.re hf,q4.re hf hp (by simpa[Yt] using n)⟩
noncomputable def Bh (n:Nat)(G:Gh)(cvs:List V)(F:List D->M D):Sp:=fun us H Q _=>∃(Hf:Hp) (ds cds:List D) (s:Pn) (d:D) (s':Pn),us.length=n/\Zw G Hf H/\Zg G Hf ds us/\Zg G Hf cds cvs/\G.st s H/\F (ds++cds) s=some (d,s')/\
 ∀v Hf' H',Gr G Hf H Hf' H'->G.st s' H'->Zj G Hf' d v->Q v H'
noncomputable def Vr (P:Program)(w:World)(K:qf)(mg:Str->Option Value)(k n:Nat)(T:Nat->List D->M D)(base:Heap)(G:Gh):Prop:=
 ∀t v cvs,G.clo t v cvs->∃f fd ps,v=.ref f/\ps.length=n/\Xz K fd ps []/\(∀s H,G.st s H->∀h:Heap,Ym P w H h->K.In h->fnφ f fd h)/\FnOk P w K mg base ZO k f fd ps (Bh n G cvs (T t))
noncomputable def J9 (T:Nat->List D->M D)(i:Nat)(fs:Zb->M (List D)):Zb->M D:=fun ρ=>Zm (Za i ρ) fun c=>Zm (fs ρ) fun ds=>match c with | .clo t cds=>T t (ds++cds) | _=>Zz
theorem Zg8 {i:Nat}{ρ:Zb}{s s':Pn}{d:D}(h:Za i ρ s=some (d,s')):ρ[i]?=some (some d)/\s'=s:=by
 obtain⟨e,rfl⟩:=X0 h;refine⟨?_,rfl⟩
 cases q:ρ[i]? with
 | none=>rw[q] at e;cases e
 | some o=>rw[q] at e;simp at e;rw[e]
section
variable {X:Cx}{G:Gh}
theorem ZiD {T:Nat->List D->M D}{k n i:Nat}{x:Str}{p pos:Pos}{e:Expr}{es:List Expr}{fs:Zb->M (List D)}(hG:Vr X.prog X.w X.K X.mg k n T X.base G)(hr:Room k X.A)(hf:PE X (.Name x p) (Z7 i))(ha:Ws X G (e::es) fs)
  (hal:∀ρ s ds s',fs ρ s=some (ds,s')->ds.length=(e::es).length) (jV:(e::es).length=n:=by rfl)
  (he:starEach (e::es) X.env=(false,eval e X.env)::starEach es X.env:=by rfl) (hpl:(backTo pos (starEach es X.env)).any (·.1)=false:=by rfl) :
  PD X G false (.Call (.Name x p) (e::es) [] pos) (J9 T i fs):=by
 obtain⟨t,pa,qa⟩:=ha;refine⟨_,ZiC hf hr pa he hpl,fun σ Hf H ρ s d s' Q e1 e2 e3 e4 k=>?_⟩;obtain⟨c,s0,b0,b1⟩:=Zv e4;obtain⟨a0,rfl⟩:=Zg8 b0;obtain⟨ds,s1,a1,a2⟩:=Zv b1
 cases c with
 | clo t cds=>
  obtain⟨v,hσ,r⟩:=e2 i _ a0;obtain⟨cvs,hc,rc⟩:=jw.mp r;obtain⟨f,fd,ps,rfl,hl,hb,hat,F⟩:=hG t v cvs hc;refine⟨f,fd,ps,_,hσ,hb,F,hat _ H e3,qa σ Hf H ρ _ ds s1 _ e1 e2 e3 a1 fun vs jU H1 g1 j9 r1=>⟨hat _ H1 j9,jU,ds,cds,s1,d,s',?_,g1.fh,r1,rc.ext g1.ff,j9,a2,fun v jY H2 g2 j7 r2=>k v jY H2 (g1.trans g2) j7 r2 (fun z=>by cases z)⟩⟩;rw[<-r1.length,hal _ _ _ _ a1];exact jV
 | _=>cases a2
end
noncomputable def YI (n:Nat)(f:Zb->M D):List D->M D:=fun ds=>if ds.length=n then f (ds.map some) else Zz
theorem Zkk {G:Gh}{Hf:Hp}{ds:List D}{vs:List V}(r:Zg G Hf ds vs):Yw G Hf (vs.map some) (ds.map some):=fun i d e=>by
 rw[qA] at e
 cases q:ds[i]? with
 | none=>rw[q] at e;cases e
 | some d'=>
  rw[q] at e;cases e;obtain⟨v,h1,h2⟩:=r.get q;exact⟨v,by rw[qA,h1];rfl,h2⟩
theorem fnKE {P:Program}{w:World}{K:qf}{mg:Str->Option Value}{base:Heap}{k:Nat}{f:Addr}{name qual:Str}{params:Arguments}{body:Expr}{scope:Scope}{cl:List (Str×Addr)}{pm ct:Value}{c':Addr}{N ps:List Str}{cvs:List V}{G:Gh}{fr:Bool}{fe:Zb->M D}
  (S:CloScope N ps scope) (C:CloAt base cl scope N ps cvs) (hG:∀s H,G.st s H->H f=some (.ext (fnφ f (za name qual params body scope cl pm (.ref c') ct)))/\H c'=some (.ext (codeφ c' qual)))
  (hb:∀(A:Around) (outer:List Env) (s:Shared) (H:Hp) (E:XK),Room k (A.deeper (zO qual scope s.heap.objs.size f (.ref c') cl))->PD (V6 ZO P w K mg base N qual scope f (.ref c') cl A outer s H E).nox G fr body fe) :
  FnOk P w K mg base ZO (k+1) f (za name qual params body scope cl pm (.ref c') ct) ps (Bh ps.length G cvs (YI N.length fe)):=by
 refine Zkh (cvs:=cvs) S C (fun vs H Q E ⟨_,_,_,_,_,_,h,_⟩=>h) (fun vs H Q E ⟨_,_,_,s,_,_,_,_,_,_,st,_⟩=>hG s H st) fun A outer s H vs Q E hr h=>?_;obtain⟨Hf,ds,cds,pn,d,pn',el,e1,r1,r2,st,eF,k'⟩:=h;obtain⟨t,p,q⟩:=hb A outer s H E hr;refine⟨t,p.nox,?_⟩;obtain⟨hl,a0⟩:=YV eF;have env:=Zkk (r1.append r2);rw[zY] at env;exact q _ Hf H _ pn d pn' Q e1 env st a0 fun v Hf' H' g st' r _=>k' v Hf' H' g st' r
structure TabG (P:Addr)(q:Str)(G:Gh):Prop where
 get:∀s H,G.st s H->∃ps,H P=some (.tbl ps)/\TriplesOk ps.toList/\∀pos cv,codeAmong pos ps.toList=some cv->∃c',cv=.ref c'/\H c'=some (.ext (codeφ c' q))/\¬G.fp c'
 fp:G.fp P
 put:∀s H ps (pos:Pos) c',G.st s H->H P=some (.tbl ps)->H c'=none->codeAmong pos ps.toList=none->G.st s (Zk (Zk H P (.tbl (ps ++ #[rawInt pos.line,rawInt pos.col,.ref c']))) c' (.ext (codeφ c' q)))
noncomputable def XW (G:Gh)(t:Nat)(p c':Addr)(fd:FuncData)(q:Str)(cvs:List V):Gh where
 fp:=G.fp
 rd:=G.rd
 pen:=G.pen
 st:=fun s H=>G.st s H/\H p=some (.ext (fnφ p fd))/\H c'=some (.ext (codeφ c' q))
 mono:=fun s H H' ⟨h1,h2,h3⟩ k1 k2=>⟨G.mono s H H' h1 k1 k2,k2 _ _ h2,k2 _ _ h3⟩
 sub:=G.sub
 dom:=fun s H b h=>G.dom s H b h.1
 ntp:=fun s H b vs h=>G.ntp s H b vs h.1
 clo:=fun t' v cs=>t'=t/\v=.ref p/\cs=cvs
noncomputable def Jb (G:Gh)(t:Nat)(p:Addr):Gh where
 fp:=G.fp
 rd:=G.rd
 pen:=G.pen
 st:=G.st
 mono:=G.mono
 sub:=G.sub
 dom:=G.dom
 ntp:=G.ntp
 clo:=fun t' v cs=>t'=t/\v=.ref p/\cs=[]
noncomputable def VF (P:Program)(w:World)(K:qf)(mg:Str->Option Value)(k:Nat)(x:Str)(n:Nat)(fr:Bool)(GG:Heap->Gh->Prop)(F:List D->M D):Prop:=
 ∃f fd ps,(∀base,FnOk P w K mg base ZO k f fd ps (Yn n fr (GG base) F))/\mg x=some (.ref f)/\zR K (.ref f)=true/\Xz K fd ps []
theorem VF.mono {P:Program}{w:World}{K:qf}{mg:Str->Option Value}{j k:Nat}{x:Str}{n:Nat}{fr:Bool}{GG:Heap->Gh->Prop}{F:List D->M D}(c:VF P w K mg j x n fr GG F)(h:j<=k:=by decide):VF P w K mg k x n fr GG F:=
 let ⟨f,fd,ps,a,b,c,d⟩:=c
 ⟨f,fd,ps,fun base=>(a base).mono h,b,c,d⟩
structure CapS (X:Cx)(XN:List Str)(NS:List (Str×NameKind))(N ps:List Str)(cix:List Nat)(scope:Scope):Prop where
 xn:X.N=XN
 ns:X.env.scope.names=NS
 len:N.length=ps.length+cix.length
 at_:(cix.zip (N.drop ps.length)).all (fun p=>decide (XN[p.1]?=some p.2)&&decide (NS.lookup p.2=some .cell)&&decide (scope.names.lookup p.2=some .free))=true
 free:∀y∈scope.names,y.2=.free->NS.lookup y.1=some .cell∨NS.lookup y.1=some .free
theorem CapS.hfree {X:Cx}{XN:List Str}{NS:List (Str×NameKind)}{N ps:List Str}{cix:List Nat}{scope:Scope}(B:CapS X XN NS N ps cix scope):∀y∈scope.names,y.2=.free->X.env.kindOf y.1=some .cell∨X.env.kindOf y.1=some .free:=fun y hy hf=>by
 have:=B.free y hy hf;rw[<-B.ns] at this;exact this
theorem CapS.cloAt {X:Cx}{XN:List Str}{NS:List (Str×NameKind)}{N ps:List Str}{cix:List Nat}{scope:Scope}{σ:St}{base':Heap}{cl:List (Str×Addr)}{cvs:List V}(B:CapS X XN NS N ps cix scope)(cs:Cells X σ base')(co:CloOf X scope cl)(hl:cvs.length=cix.length)
  (hv:∀(i j:Nat) (v:V),cix[i]?=some j->cvs[i]?=some v->σ[j]?=some (some v)):CloAt base' cl scope N ps cvs:=by
 refine⟨fun x y c h1 h2=>cs.inj x y c (co.of x c h1) (co.of y c h2),fun x c h=>cs.cell x c (co.of x c h),fun x h=>co.has (x,.free) (zp h) rfl,fun i x v h1 h2=>?_,by rw[B.len,hl]⟩;have hi:i<cix.length:=by rw[<-hl];exact(qB.mp h2).1
 have hj:cix[i]?=some cix[i]:=qE hi;have hx:(N.drop ps.length)[i]?=some x:=by rw[List.getElem?_drop];exact h1
 have q:=zV.mp B.at_ (cix[i],x) (zF (i:=i) (yQ.mpr ⟨hj,hx⟩));simp only[zd,decide_eq_true_eq] at q;obtain⟨⟨q1,q2⟩,q3⟩:=q;refine⟨q3,?_⟩;obtain⟨c,u,e1,e2,e3⟩:=cs.val cix[i] x v (by rw[B.xn];exact q1) (hv i _ v hj h2) (by show X.env.scope.names.lookup x=_;rw[B.ns];exact q2);obtain⟨c2,e4⟩:=co.has (x,.free) (zp q3) rfl;have e5:=co.of x c2 e4;rw[e1] at e5;cases e5;exact⟨c,u,e4,e2,e3⟩
noncomputable def W0 (ρ:Zb):List Nat->Option (List D)
 | []=>some []
 | i::r=>((ρ[i]?).bind id).bind fun d=>(W0 ρ r).map (d :: ·)
theorem Zb9 {G:Gh}{Hf:Hp}{σ:St}{ρ:Zb}(e:Yw G Hf σ ρ):∀{cix:List Nat} {cds:List D},W0 ρ cix=some cds->∃cvs,cvs.length=cix.length/\Zg G Hf cds cvs/\∀(i j:Nat) (v:V),cix[i]?=some j->cvs[i]?=some v->σ[j]?=some (some v)
 | [],cds,h=>by cases h;exact⟨[],rfl,Zg.nil_iff.mpr rfl,fun i j v h1=>by simp at h1⟩
 | a::r,cds,h=>by
  unfold W0 at h
  cases q:(ρ[a]?).bind id with
  | none=>rw[q] at h;cases h
  | some d=>
   rw[q] at h
   cases q2:W0 ρ r with
   | none=>rw[q2] at h;cases h
   | some ds=>
    rw[q2] at h;cases h;obtain⟨v,h1,h2⟩:=e a d (by
     cases q3:ρ[a]? with
     | none=>rw[q3] at q;cases q
     | some o=>rw[q3] at q;simp at q;rw[q])
    obtain⟨cvs,l1,l2,l3⟩:=Zb9 e q2;refine⟨v::cvs,by simp[l1],Zg.cons h2 l2,fun i j u e1 e2=>?_⟩
    cases i with
    | zero=>simp at e1 e2;subst e1;subst e2;exact h1
    | succ i=>exact l3 i j u (by simpa using e1) (by simpa using e2)
noncomputable def V0 (F:List D->M D)(t:Nat)(cix:List Nat)(f:Zb->M D):Zb->M D:=fun ρ=>Zm (f ρ) fun d=>Zm (YN (W0 ρ cix)) fun cds=>if (Yt d&&YQ cds)=true then Zm (F [d,.clo t cds]) fun c=>if Yt c=true then ZD c else Zz else Zz
section
variable {X:Cx}{G:Gh}{P c:Addr}{q:Str}
theorem Zgi {lpos:Pos}{ps:Array Value}{H Hm:Hp}{c':Addr}{s:Pn}(TG:TabG P q G)(st:G.st s H)(hP:H P=some (.tbl ps))(sl:Slot P q lpos ps H Hm c'):G.st s Hm/\Hm c'=some (.ext (codeφ c' q))/\Zw G H Hm:=by
 rcases sl with⟨rfl,h1,h2⟩ | ⟨h1,h2,h3,rfl⟩
 ·exact⟨st,h2,.refl _ _⟩
 ·refine⟨TG.put s H ps lpos c' st hP h2 h1,ZI,fun b o n e=>?_⟩
  rw[Zo (ZP e h2),Zo (fun z=>n (by rw[z];exact TG.fp))];exact e
theorem Zgj {Hf H Hm:Hp}{p:Addr}{o:HO}(e1:Zw G Hf H)(ex:Zw G H Hm)(hp:Hm p=none):Gr G Hf H Hf (Zk Hm p o):=by
 have hh:Zw G H (Zk Hm p o):=fun b u n e=>by
  have:=ex b u n e;rw[Zo (ZP this hp)];exact this
 exact⟨hh,.refl _ _,e1.trans hh,fun _ _ h _=>h⟩
theorem Zmb {base':Heap}{k:Nat}{T:Nat->List D->M D}{t:Nat}{p c':Addr}{fd:FuncData}{cvs:List V}{ps:List Str}{F:List D->M D}(hb:Xz X.K fd ps [])(hF:FnOk X.prog X.w X.K X.mg base' ZO k p fd ps (Bh ps.length (XW G t p c' fd q cvs) cvs F))(hT:T t=F) :
  Vr X.prog X.w X.K X.mg k ps.length T base' (XW G t p c' fd q cvs):=by
 rintro t' v cs ⟨rfl,rfl,rfl⟩;exact⟨p,fd,ps,rfl,rfl,hb,fun s H st h ok _=>fnφ_at ok st.2.1,by rw[hT];exact hF⟩
variable {k kl:Nat}{x:Str}{fr frb:Bool}{F:List D->M D}{T:Nat->List D->M D}{t:Nat}{e1:Expr}{f1:Zb->M D}{r1:Bool}{params:Arguments}{scope:Scope}{lpos ppos pos:Pos}{XN N ps:List Str}{NS:List (Str×NameKind)}{cix:List Nat}
theorem ofC {t:Nat}{p c':Addr}{fd:FuncData}{cvs:List V}{H:Hp}{d:D}{v:V}(n:Yt d=true)(r:Zj (XW G t p c' fd q cvs) H d v):Zj G H d v:=Zj.re (G:=XW G t p c' fd q cvs) (G':=G) rfl rfl n r
theorem toC {t:Nat}{p c':Addr}{fd:FuncData}{cvs:List V}{H:Hp}{d:D}{v:V}(n:Yt d=true)(r:Zj G H d v):Zj (XW G t p c' fd q cvs) H d v:=Zj.re (G:=G) (G':=XW G t p c' fd q cvs) rfl rfl n r
theorem toCL {t:Nat}{p c':Addr}{fd:FuncData}{cvs:List V}{H:Hp}{d:List D}{v:List V}(n:YQ d=true)(r:Zg G H d v):Zg (XW G t p c' fd q cvs) H d v:=Zg.re (G:=G) (G':=XW G t p c' fd q cvs) rfl rfl n r
theorem grC {t:Nat}{p c':Addr}{fd:FuncData}{cvs:List V}{Hf H Hf' H':Hp}(g:Gr (XW G t p c' fd q cvs) Hf H Hf' H'):Gr G Hf H Hf' H':=Gr.re (G:=XW G t p c' fd q cvs) (G':=G) rfl g
theorem frC {t:Nat}{p c':Addr}{fd:FuncData}{cvs:List V}{H Hf':Hp}{d:D}{v:V}(n:Yt d=true)(h:Yo (XW G t p c' fd q cvs) H Hf' d v):Yo G H Hf' d v:=Yo.re (G:=XW G t p c' fd q cvs) (G':=G) rfl rfl n h
theorem Zca {body:Expr}{fe:Zb->M D}(M:Mk0 X c P)(TG:TabG P q G)(hW:VF X.prog X.w X.K X.mg k x 2 fr (Vr X.prog X.w X.K X.mg (kl+1) ps.length T) F)(hfn:∀x,X.fn x=true)(hr:Room k X.A)(hg:Gl X x)(h1:PD X G r1 e1 f1)
  (hq:X.env.qual ++ "<lambda>" = q) (S:CloScope N ps scope) (B:CapS X XN NS N ps cix scope) (hT:T t=YI N.length fe)
  (hbind:∀(cl:List (Str×Addr)) (pm cd ct:Value) (us:List Value),us.length=ps.length->bindArgs (za "<lambda>" q params body scope cl pm cd ct) ⟨us,[]⟩=pure (ps.zip us))
  (hb:∀(base:Heap) (f c':Addr) (cl:List (Str×Addr)) (G:Gh) (A:Around) (outer:List Env) (s:Shared) (H:Hp) (E:XK),Room kl (A.deeper (zO q scope s.heap.objs.size f (.ref c') cl))->PD (V6 ZO X.prog X.w X.K X.mg base N q scope f (.ref c') cl A outer s H E).nox G frb body fe)
  (hdef:defaultsOf params X.env=([],[]):=by rfl) (hdb:(x==("__debug__" : Str))=false:=by decide)
  (he:starEach [e1,.Lambda params body scope lpos] X.env=(false,eval e1 X.env)::starEach [.Lambda params body scope lpos] X.env:=by rfl) (he2:starEach [Expr.Lambda params body scope lpos] X.env=(false,eval (.Lambda params body scope lpos) X.env)::starEach [] X.env:=by rfl)
  (hpl:(backTo pos (starEach [Expr.Lambda params body scope lpos] X.env)).any (·.1)=false:=by rfl) :
  PD X G fr (.Call (.Name x ppos) [e1,.Lambda params body scope lpos] [] pos) (V0 F t cix f1):=by
 obtain⟨t1,p1,q1⟩:=h1.drop;obtain⟨f,fd0,ps0,FN,hm,hk,hbd⟩:=hW;refine⟨_,Zet FN hfn hr hg hm hk hbd (Y4 p1 (Y4 (Zfw M hq B.hfree hdef) Xs he2) he) hdb he hpl,fun σ Hf H ρ s d s' Q x1 x2 x3 x4 k=>?_⟩;obtain⟨d1,s1,a1,a2⟩:=Zv x4;obtain⟨cds,s2,b3,a4⟩:=Zv a2;obtain⟨a3,rfl⟩:=X0 b3;obtain⟨hn,a5⟩:=YV a4;obtain⟨cc,s3,a6,a7⟩:=Zv a5;obtain⟨hn2,a8⟩:=YV a7;obtain⟨rfl,rfl⟩:=ZL a8;obtain⟨hn0,hn1⟩:=zS.mp hn;refine q1 σ Hf H ρ s d1 _ _ x1 x2 x3 a1 fun v1 jU H1 g1 j9 rv1=>?_;obtain⟨tp,hP,htr,hhit⟩:=TG.get _ H1 j9;refine⟨tp,hP,htr,fun cv h=>let ⟨c',z1,z2,_⟩:=hhit lpos cv h;⟨c',z1,z2⟩,fun p c' fd Hm ⟨cl,pm,ctv,co,efd⟩ sl hp=>?_⟩;subst efd;obtain⟨stm,hc',ex⟩:=Zgi TG j9 hP sl;have gr:=Zgj (o:=.ext (fnφ p (za "<lambda>" q params body scope cl pm (.ref c') ctv))) g1.fh ex hp;have hcp:c'≠p:=fun z=>by rw[z,hp] at hc';cases hc'
 obtain⟨cvs,l1,l2,l3⟩:=Zb9 (x2.ext g1.ff) a3;intro base' cs;have C:CloAt base' cl scope N ps cvs:=B.cloAt cs co l1 l3;refine⟨XW G t p c' (za "<lambda>" q params body scope cl pm (.ref c') ctv) q cvs,jU,[d1,.clo t cds],_,d,_,Zmb (X:=X) (.all (hbind cl pm (.ref c') ctv)) (fnKE S C (fun s H st=>st.2) fun A outer s H E hr=>hb base' p c' cl _ A outer s H E hr) hT,rfl,gr.fh,?_,⟨Gh.grow stm hp,ZI,by rw[Zo hcp];exact hc'⟩,a6,fun v Hf3 H3 g3 st3 r3 fz=>?_⟩
 ·refine .cons (toC hn0 rv1) (.one (jw.mpr ⟨cvs,⟨rfl,rfl,rfl⟩,toCL hn1 l2⟩))
 ·have g3':Gr G jU _ Hf3 H3:=grC g3
  have gg:=(g1.trans gr).trans g3';have rr:Zj G Hf3 d v:=ofC hn2 r3;refine k v Hf3 H3 gg st3.1 rr fun z=>?_;exact jo (g1.hh.trans gr.hh) rr.nofp (frC hn2 (fz z))
end
theorem boot_len:bootBuiltins "len" = some (.builtin "len"):=by decide +kernel
theorem boot_any:bootBuiltins "any" = some (.builtin "any"):=by decide +kernel
theorem boot_max:bootBuiltins "max" = some (.builtin "max"):=by decide +kernel
theorem boot_min:bootBuiltins "min" = some (.builtin "min"):=by decide +kernel
theorem boot_sorted:bootBuiltins "sorted" = some (.builtin "sorted"):=by decide +kernel
theorem boot_tuple:bootBuiltins "tuple" = some (.type "tuple"):=by decide +kernel
theorem boot_list:bootBuiltins "list" = some (.type "list"):=by decide +kernel
theorem boot_int:bootBuiltins "int" = some (.type "int"):=by decide +kernel
theorem boot_dict:bootBuiltins "dict" = some (.type "dict"):=by decide +kernel
noncomputable abbrev Z6:Gh->Prop:=fun _=>True
noncomputable def Zle (G:Gh)(ob own own':List Nat)(fr:Bool)(g:Zb->M Out):TS:=fun E σ H=>∃kn jT H0 ρ s out s',J G own kn jT H0 σ H ρ/\G.st s H/\g ρ s=some (out,s')/\Post G ob own' kn jT H0 fr out s' E
end TF
namespace TF
open L2
noncomputable def Ok {α:Type}(m:M α)(s:Pn)(Q:α->Pn->Prop):Prop:=∃a s',m s=some (a,s')/\Q a s'
theorem Ok.bind {α β:Type}{m:M α}{k:α->M β}{s:Pn}{Q:β->Pn->Prop}(h:Ok m s fun a s1=>Ok (k a) s1 Q):Ok (Zm m k) s Q:=by
 obtain⟨a,s1,e,b,s2,e2,q⟩:=h;exact⟨b,s2,by unfold Zm;rw[e];exact e2,q⟩
theorem Ok.ret {α:Type}{a:α}{s:Pn}{Q:α->Pn->Prop}(h:Q a s):Ok (ZD a) s Q:=⟨a,s,rfl,h⟩
theorem Ok.eq {α:Type}{m:M α}{s s':Pn}{a:α}{Q:α->Pn->Prop}(e:m s=some (a,s'))(h:Q a s'):Ok m s Q:=⟨a,s',e,h⟩
theorem Ok.mono {α:Type}{m:M α}{s:Pn}{Q Q':α->Pn->Prop}(h:Ok m s Q)(k:∀a s',Q a s'->Q' a s'):Ok m s Q':=let ⟨a,s',e,q⟩:=h;⟨a,s',e,k a s' q⟩
theorem Ok.of {α:Type}{o:Option α}{a:α}{s:Pn}{Q:α->Pn->Prop}(e:o=some a)(h:Q a s):Ok (YN o) s Q:=⟨a,s,by unfold YN;rw[e],h⟩
theorem Ok.ite {α:Type}{c:Prop}[Decidable c]{m:M α}{s:Pn}{Q:α->Pn->Prop}(hc:c)(h:Ok m s Q):Ok (if c then m else Zz) s Q:=by rw[if_pos hc];exact h
section
variable {ρ:Zb}{s:Pn}{Q:Out->Pn->Prop}{f:Zb->M D}{g1 g2:Zb->M Out}
theorem Ok.seq (h:Ok (g1 ρ) s fun o s1=>match o with | .nx ρ'=>Ok (g2 ρ') s1 Q | .rt d=>Q (.rt d) s1 | .bk ρ'=>Q (.bk ρ') s1 | .ct ρ'=>Q (.ct ρ') s1):Ok (Zi g1 g2 ρ) s Q:=by
 refine Ok.bind (h.mono fun o s1 q=>?_)
 cases o with
 | nx ρ'=>exact q
 | rt d=>exact .ret q
 | bk ρ'=>exact .ret q
 | ct ρ'=>exact .ret q
theorem Ok.next (h:Q (.nx ρ) s):Ok (Zt ρ) s Q:=.ret h
theorem Ok.sset {i:Nat}(h:Ok (f ρ) s fun d s1=>Q (.nx (ρ.set i (some d))) s1):Ok (ZW i f ρ) s Q:=.bind (h.mono fun _ _ q=>.ret q)
theorem Ok.sown {i:Nat}(h:Ok (f ρ) s fun d s1=>JR d=true/\Q (.nx (ρ.set i (some d))) s1):Ok (Vp i f ρ) s Q:=.bind (h.mono fun _ _ q=>.ite q.1 (.ret q.2))
theorem Ok.sret (h:Ok (f ρ) s fun d s1=>Q (.rt d) s1):Ok (ZR f ρ) s Q:=.bind (h.mono fun _ _ q=>.ret q)
theorem Ok.sif {c:Zb->M Bool}(h:Ok (c ρ) s fun b s1=>if b=true then Ok (g1 ρ) s1 Q else Ok (g2 ρ) s1 Q):Ok (Y1 c g1 g2 ρ) s Q:=by
 refine .bind (h.mono fun b s1 q=>?_)
 cases b with
 | true=>simpa using q
 | false=>simpa using q
theorem Ok.sapp {i:Nat}{ds:List D}(hi:(ρ[i]?).bind id=some (.lst ds))(hl:ds.length<sizeLine)(h:Ok (f ρ) s fun d s1=>Q (.nx (ρ.set i (some (.lst (ds ++ [d]))))) s1):Ok (U9 i f ρ) s Q:=by
 refine .bind (h.mono fun d s1 q=>?_);simp only[hi];exact .ite hl (.ret q)
theorem Ok.sext {i:Nat}{ds:List D}(hi:(ρ[i]?).bind id=some (.lst ds))(h:Ok (f ρ) s fun d s1=>∃es,d=.lst es/\ds.length+es.length<=sizeLine/\Q (.nx (ρ.set i (some (.lst (ds++es))))) s1):Ok (J8 i f ρ) s Q:=by
 refine .bind (h.mono fun d s1 q=>?_);obtain⟨es,rfl,hl,q⟩:=q;simp only[hi];exact .ite hl (.ret q)
theorem Ok.spar {i j:Nat}{fs:Zb->M (List D)}(h:Ok (fs ρ) s fun ds s1=>∃a b,ds=[a,b]/\Xb a=true/\Xb b=true/\Q (.nx ((ρ.set i (some a)).set j (some b))) s1):Ok (sPar i j fs ρ) s Q:=by
 refine .bind (h.mono fun d s1 q=>?_);obtain⟨a,b,rfl,n1,n2,q⟩:=q;exact .ite (by simp[n1,n2]) (.ret q)
theorem Ok.loop {τ:D->Zb->Option Zb}{body:Zb->M Out}(I:Nat->Zb->Pn->Prop):∀(ds:List D) (k:Nat) (ρ:Zb) (s:Pn),I k ρ s->
  (∀i d ρ s,ds[i]?=some d->I (k+i) ρ s->∃ρ1,τ d ρ=some ρ1/\Ok (body ρ1) s fun o s'=>∃ρ',o=.nx ρ'/\I (k+i+1) ρ' s')->Ok (Wg τ body ds ρ) s fun o s'=>∃ρ',o=.nx ρ'/\I (k+ds.length) ρ' s'
 | [],k,ρ,s,h0,_=>.ret ⟨ρ,rfl,h0⟩
 | d::ds,k,ρ,s,h0,h=>by
  obtain⟨ρ1,e1,ok⟩:=h 0 d ρ s rfl h0;refine Ok.bind (.of e1 (.bind (ok.mono fun o s' q=>?_)));obtain⟨ρ',rfl,q⟩:=q;refine(Ok.loop I ds (k+1) ρ' s' q fun i d' ρ2 s2 e2 q2=>?_).mono fun o s2 q2=>?_
  ·have:=h (i+1) d' ρ2 s2 (by simpa using e2) (by rw[show k+(i+1)=k+1+i by omega];exact q2)
   rw[show k+(i+1)+1=k+1+i+1 by omega] at this;exact this
  ·rw[show k+(d::ds).length=k+1+ds.length by simp;omega]
   exact q2
theorem Ok.sfor {fi:Zb->M (List D)}{τ:D->Zb->Option Zb}{body:Zb->M Out}(I:Nat->Zb->Pn->Prop)(h:Ok (fi ρ) s fun ds s1=>I 0 ρ s1/\(∀i d ρ s,ds[i]?=some d->I i ρ s->∃ρ1,τ d ρ=some ρ1/\Ok (body ρ1) s fun o s'=>∃ρ',o=.nx ρ'/\I (i+1) ρ' s')/\
  ∀ρ' s',I ds.length ρ' s'->Q (.nx ρ') s'):Ok (Xc fi τ body ρ) s Q:=by
 refine .bind (h.mono fun ds s1 q=>?_);obtain⟨q0,q1,q2⟩:=q;refine(Ok.loop I ds 0 ρ s1 q0 fun i d ρ s e=>?_).mono fun o s' q=>?_
 ·rw[qav];exact q1 i d ρ s e
 ·obtain⟨ρ',rfl,q⟩:=q
  rw[qav] at q;exact q2 ρ' s' q
end
section
variable {ρ ρ':Zb}{s s1 s2:Pn}{f f2:Zb->M D}{g1 g2:Zb->M Out}{d e c:D}{r:Option (Out×Pn)}
theorem Xh {n k:Nat}{g:Zb->M Out}{ds:List D}(hl:ds.length=k)(h:g (ds.map some++qu (n-k) none) s=some (.rt d,s1)):runB n k g ds s=some (d,s1):=by
 unfold runB;rw[if_pos hl];unfold Zm;rw[h];rfl
theorem Xl (h:f ρ s=some (d,s1)):ZR f ρ s=some (.rt d,s1):=by unfold ZR Zm;rw[h];rfl
theorem Y6 (h:g1 ρ s=some (.rt d,s1)):Zi g1 g2 ρ s=some (.rt d,s1):=by unfold Zi Zm;rw[h];rfl
theorem X9 (h:g1 ρ s=some (.nx ρ',s1))(h2:g2 ρ' s1=r):Zi g1 g2 ρ s=r:=by unfold Zi Zm;rw[h];exact h2
theorem WW {i:Nat}(h:f ρ s=some (d,s1)):ZW i f ρ s=some (.nx (ρ.set i (some d)),s1):=by unfold ZW Zm;rw[h];rfl
theorem ZB {g:D->D->Option D}(h1:f ρ s=some (d,s1))(h2:f2 ρ s1=some (e,s2))(h:g d e=some c):Zd g f f2 ρ s=some (c,s2):=by
 unfold Zd Zm;rw[h1];simp only;rw[h2];simp only;unfold YN;rw[h]
theorem YX {g:List D->Option D}{fs:Zb->M (List D)}{ds:List D}(h1:fs ρ s=some (ds,s1))(h:g ds=some c):ZN g fs ρ s=some (c,s1):=by
 unfold ZN Zm;rw[h1];simp only;unfold YN;rw[h]
theorem Yl {F:List D->M D}{fs:Zb->M (List D)}{ds:List D}{q:Option (D×Pn)}(h1:fs ρ s=some (ds,s1))(h:F ds s1=q):Zq F fs ρ s=q:=by
 unfold Zq Zm;rw[h1];exact h
theorem Zh {fs:Zb->M (List D)}{ds:List D}(h1:f ρ s=some (d,s1))(h2:fs ρ s1=some (ds,s2)):Zc f fs ρ s=some (d::ds,s2):=by
 unfold Zc Zm;rw[h1];simp only;rw[h2];rfl
theorem Wc {fs:Zb->M (List D)}{ds:List D}(h1:fs ρ s=some (ds,s1))(hl:ds.length<=sizeLine):ZV fs ρ s=some (.tup ds,s1):=by
 unfold ZV Zm;rw[h1];simp only;rw[if_pos hl];rfl
theorem Ur {fs:Zb->M (List D)}{ds:List D}(h1:fs ρ s=some (ds,s1))(hl:ds.length<=sizeLine):YH fs ρ s=some (.lst ds,s1):=by
 unfold YH Zm;rw[h1];simp only;rw[if_pos hl];rfl
theorem Y8 {b:Bool}(h:f ρ s=some (.bl b,s1)):asB f ρ s=some (b,s1):=by unfold asB Zm;rw[h];rfl
end
theorem Zdi {τ:D->Zb->Option Zb}{ft:Zb->M Bool}{fe:Zb->M D}{ρ:Zb}{s:Pn}(r:D->Zb)(b:D->Bool)(c:D->D):∀(ds:List D),(∀d∈ds,τ d ρ=some (r d)/\ft (r d) s=some (b d,s)/\(b d=true->fe (r d) s=some (c d,s)))->
  Uu τ ft fe ρ ds s=some ((ds.filter b).map c,s)
 | [],_=>rfl
 | d::ds,h=>by
  obtain⟨h1,h2,h3⟩:=h d (by simp);have ih:=Zdi r b c ds fun d' m=>h d' (by simp[m]);unfold Uu;simp only[Zm,YN,h1,h2]
  cases hb:b d with
  | true=>simp[Zm,h3 hb,ih,hb,ZD]
  | false=>simp[ih,hb]
end TF
namespace TP
open L2 TF
noncomputable def Zfx:Zb->M Out:=(Zi (Vp 1 (YH Ze))
 (Zi (Xc (Yb (ZN YC (Zc (Za 0) Ze))) (Zy 2)
 (Zi (Xc (BL (Zd YZ (Za 2) (dC (.int 1))) (ZN YC (Zc (Za 0) Ze))) (Zy 3)
 (Zi (U9 1 (fun ρ=>(ZV (Zc (Zd Zl (Za 0) (Za 2)) (Zc (Zd Zl (Za 0) (Za 3)) Ze))) (Z8 [1] ρ)))
 Zt))
 Zt))
 (Zi (ZR (Za 1))
 Zt)))
noncomputable def Jy:List D->M D:=runB 4 1 Zfx
noncomputable def Zcb:Zb->M Out:=(Zi (ZR (Zd Yq (ZV (Zc (ZN B4 (Zc (Za 1) (Zc (Za 2) Ze))) (Zc (ZN Zir (Zc (Za 1) (Zc (Za 2) Ze))) Ze))) (Za 0)))
 Zt)
noncomputable def WR:List D->M D:=runB 3 3 Zcb
noncomputable def Zmc:Zb->M Out:=(Zi (ZR (Z0 [none,some 0,some 1] (Yb (Zd Zl (Za 0) (dC (.int 0)))) (Zy 0) (asB (Zq WR (Zc (Zd Zl (Za 1) (dC (.int 1))) (Zc (Za 2) (Zc (Za 0) Ze))))) (Za 0)))
 Zt)
noncomputable def UV:List D->M D:=runB 2 2 Zmc
noncomputable def ZcN:Zb->M Out:=(Zi (ZR (ZN Ziy (Zc (Z0 [none] (JZ (Zd Zl (Za 0) (dC (.int 1)))) (Zy 0) Ya (ZV (Zc (Za 0) (Zc (dC (.bl true)) Ze)))) Ze)))
 Zt)
noncomputable def Ub:List D->M D:=runB 1 1 ZcN
end TP
namespace TP
open L2 TF
local macro_rules | `(tactic| walk_at "ev")=>`(tactic| simp[runB,Zi,ZR,ZW,Zt,Y1,asB,Zd,ZN,Zc,Ze,ZV,YH,Za,dC,Zq,Zm,ZD,YN,YZ,dSub,dI,Z8,Wn,Jh,Vo,J6,WJ,VH,bNot])
noncomputable def ZJ (p:Nat×Nat):D:=.tup [.int p.1,.int p.2]
noncomputable def ZX (n:Nat)(jK:List (Nat×Nat)):D:=.tup [.int n,.tup (jK.map ZJ)]
noncomputable def tied (jK:List (Nat×Nat))(a b:Nat):Bool:=decide ((min a b,max a b)∈jK)
theorem ZbH:∀jK:List (Nat×Nat),Yv (jK.map ZJ)=true
 | []=>by simp[Yv]
 | t::ts=>by simp[Yv,ZJ,Zn,ZbH ts]
theorem Zcc:∀jK:List (Nat×Nat),Xv (jK.map ZJ)<=1
 | []=>by simp[Xv]
 | t::ts=>by
  have:=Zcc ts;simp only[zi,Xv,ZJ,Yc];omega
theorem U2 {α:Type}(x:α)(xs:List α):Xo (x::xs) 0=some x:=Wl (j:=0) rfl
theorem J4 {α:Type}(x y:α)(xs:List α):Xo (x::y::xs) 1=some y:=Wl (j:=1) rfl
theorem two_le:2<=sizeLine:=by decide
theorem Zfy (a b:Nat):D.tup [.int (if b<a then (b:Int) else a),.int (if a<b then (b:Int) else a)]=ZJ (min a b,max a b):=by
 unfold ZJ;congr 2
 ·congr 1;split <;> omega
 ·congr 2;split <;> omega
theorem Xa {src:List (Option Nat)}{fi:Zb->M (List D)}{τ:D->Zb->Option Zb}{ft:Zb->M Bool}{fe:Zb->M D}{ρ:Zb}{s:Pn}{ds:List D}(r:D->Zb)(b:D->Bool)(c:D->D)(hi:fi ρ s=some (ds,s))(hl:ds.length<=sizeLine)
  (h:∀d∈ds,τ d (Wn src ρ)=some (r d)/\ft (r d) s=some (b d,s)/\(b d=true->fe (r d) s=some (c d,s))):Z0 src fi τ ft fe ρ s=some (.lst ((ds.filter b).map c),s):=by
 unfold Z0;simp only[Zm,hi,hl,if_true,Zdi r b c ds h,ZD]
theorem small_int (n:Nat)(h:n<=100000):-(2 ^ 62)<=(n:Int)/\(n:Int)<2 ^ 62:=by omega
theorem Ys:sizeLine=16777216:=by decide
theorem XZ {f:Zb->M D}{ρ:Zb}{s:Pn}{n:Nat}(h:f ρ s=some (.int n,s))(hn:n<=100000):Yb f ρ s=some (Z3 0 n,s):=by
 unfold Yb;simp only[Zm,h];show(if -(2 ^ 62)<=(n:Int)/\(n:Int)<2 ^ 62 then ZD (Z3 0 (n:Int).toNat) else Zz) s=_;rw[if_pos (small_int n hn)];rfl
theorem Zg9 {f g:Zb->M D}{ρ:Zb}{s:Pn}{a n:Nat}(h:f ρ s=some (.int a,s))(h2:g ρ s=some (.int n,s))(ha:a<=100000)(hn:n<=100000):BL f g ρ s=some (Z3 a (n-a),s):=by
 unfold BL;simp only[Zm,h,h2];show(if -(2 ^ 62)<=(a:Int)/\(a:Int)<2 ^ 62/\-(2 ^ 62)<=(n:Int)/\(n:Int)<2 ^ 62 then ZD (Z3 a ((n:Int)-a).toNat) else Zz) s=_;rw[if_pos (by omega),show((n:Int)-(a:Int)).toNat=n-a by omega];rfl
theorem Y2 (lo:Int)(n:Nat):(Z3 lo n).length=n:=by simp[Z3]
theorem Za6 {lo n i:Nat}{d:D}(h:(Z3 lo n)[i]?=some d):i<n/\d=.int ((lo+i:Nat):Int):=by
 have hi:i<n:=by
  have:=(qB.mp h).1;simpa[Z3] using this
 refine⟨hi,?_⟩;unfold Z3 at h;rw[qA,z9 hi] at h;simp at h;rw[<-h];simp
theorem VM {n:Nat}{d:D}(h:d∈Z3 0 n):∃i:Nat,i<n/\d=.int (i:Int):=by
 unfold Z3 at h;obtain⟨i,hi,e⟩:=qK.mp h;exact⟨i,by simpa using hi,by rw[<-e];simp⟩
theorem Vy (n:Nat):Z3 0 n=(qm n).map fun(i:Nat)=>D.int (i:Int):=by
 unfold Z3;simp
noncomputable def Yu:D->Nat
 | .int i=>i.toNat
 | _=>0
theorem ZaH (n:Nat)(p:Nat->Bool):((Z3 0 n).filter fun d=>p (Yu d)).map (fun d=>d)=((qm n).filter p).map fun(i:Nat)=>D.int (i:Int):=by
 rw[Vy,yf];simp only[List.map_id'];congr 1
end TP
namespace TP
open L2 TF
theorem jz {α:Type}{m:M α}{s s':Pn}{a:α}(h:Ok m s fun b t=>b=a/\t=s'):m s=some (a,s'):=by
 obtain⟨b,t,e,rfl,rfl⟩:=h;exact e
theorem Zgk {n:Nat}(hn:n<=100000):(Z3 0 n).length<=sizeLine:=by rw[Y2,Ys];omega
noncomputable def Jc (row:D)(ds:List D):Prop:=row=.lst ds∨row=.tup ds
theorem Jc.len {row:D}{ds:List D}(h:Jc row ds):YC [row]=some (.int ds.length):=by
 rcases h with rfl | rfl <;> rfl
theorem Jc.ix {row:D}{ds:List D}(h:Jc row ds){i:Nat}(hi:i<ds.length):Zl row (.int (i:Int))=some (ds.getD i .non):=by
 have e:ds[i]?=some (ds.getD i .non):=by simp[qaF,hi]
 rcases h with rfl | rfl <;> exact Wl e
noncomputable def Wq (n i:Nat):List (Nat×Nat):=(qm i).flatMap fun a=>(qm (n-(a+1))).map fun k=>(a,a+1+k)
noncomputable def Xd (n:Nat):List (Nat×Nat):=Wq n n
theorem Zdj (n i:Nat):Wq n (i+1)=Wq n i++(qm (n-(i+1))).map fun k=>(i,i+1+k):=by
 unfold Wq;rw[qbb,qbC];simp
theorem BD (n:Nat):∀i,(Wq n i).length<=i*n
 | 0=>by simp[Wq]
 | i+1=>by
  have:=BD n i;rw[Zdj,qJ,qj,qW];have e:(i+1)*n=i*n+n:=qbK i n;omega
noncomputable def V7 (ds:List D)(p:Nat×Nat):D:=.tup [ds.getD p.1 .non,ds.getD p.2 .non]
theorem Zkl (n i j:Nat)(hn:n<=1000)(hi:i<n)(hj:j<=n):(Wq n i).length+j<sizeLine:=by
 have h1:=BD n i;have h2:i*n<=1000*1000:=y8 (by omega) hn;rw[Ys];omega
theorem Zeu (row:D)(ds:List D)(h:Jc row ds)(hn:ds.length<=1000)(s:Pn):Jy [row] s=some (.lst ((Xd ds.length).map (V7 ds)),s):=by
 refine Xh rfl (jz ?_);refine Ok.seq (.sown (.eq (a:=.lst []) rfl ⟨rfl,?_⟩));show Ok _ s _;refine Ok.seq (.sfor (fun i ρ s'=>s=s'/\∃o2 o3,ρ=[some row,some (.lst ((Wq ds.length i).map (V7 ds))),o2,o3]) (.eq (XZ (YX (Zh rfl rfl) h.len) (by omega)) ⟨⟨rfl,none,none,rfl⟩,fun i d ρ s' hd hI=>?_,fun ρ' s' hI=>?_⟩))
 ·obtain⟨rfl,o2,o3,rfl⟩:=hI
  obtain⟨hi,rfl⟩:=Za6 hd;refine⟨_,rfl,?_⟩;refine Ok.seq (.sfor (fun j ρ s'=>s=s'/\∃o3,ρ=[some row,some (.lst ((Wq ds.length i).map (V7 ds)++(qm j).map fun k=>V7 ds (i,i+1+k))),some (.int ((0+i:Nat):Int)),o3]) (.eq (Zg9 (a:=i+1) (ZB (d:=.int ((0+i:Nat):Int)) (e:=.int 1) (c:=.int ((i+1:Nat):Int)) rfl rfl (by simp[YZ])) (YX (Zh rfl rfl) h.len) (by omega) (by omega)) ⟨⟨rfl,o3,by simp⟩,fun j d ρ s' hd hJ=>?_,fun ρ' s' hJ=>?_⟩))
  ·obtain⟨rfl,o3,rfl⟩:=hJ
   obtain⟨hj,rfl⟩:=Za6 hd;refine⟨_,rfl,?_⟩;refine Ok.seq (.sapp (ds:=(Wq ds.length i).map (V7 ds)++(qm j).map fun k=>V7 ds (i,i+1+k)) rfl (by simp only[qJ,qj,qW];exact Zkl _ _ _ hn hi (by omega)) (.eq (Wc (Zh (ZB (d:=row) (e:=.int ((0+i:Nat):Int)) rfl rfl (by rw[qav];exact h.ix hi)) (Zh (ZB (d:=row) (e:=.int ((i+1+j:Nat):Int)) rfl rfl (h.ix (by omega))) rfl)) two_le) ?_));refine Ok.next ⟨_,rfl,rfl,some (.int ((i+1+j:Nat):Int)),?_⟩;rw[qbb,zY,<-qaO];rfl
  ·obtain⟨rfl,o3',rfl⟩:=hJ
   refine Ok.next ⟨_,rfl,rfl,some (.int ((0+i:Nat):Int)),o3',?_⟩;rw[Zdj,zY,qD,Y2];rfl
 ·obtain⟨rfl,o2,o3,rfl⟩:=hI
  refine Ok.seq (.sret (.eq rfl ⟨?_,rfl⟩));rw[Y2];rfl
end TP
namespace TP
open L2 TF
noncomputable def XC (p:Nat×Nat):List Zr:=[.inl (p.1:Int),.inl (p.2:Int)]
theorem ZiE {p q:Nat×Nat}(h:XC p=XC q):p=q:=by
 simp only[XC,List.cons.injEq,zh.injEq,and_true] at h;obtain⟨a,b⟩:=p;obtain⟨c,d⟩:=q;simp only at h;have h1:a=c:=by omega
 have h2:b=d:=by omega
 rw[h1,h2]
noncomputable def ZU (jQ:List (List Zr×V))(jK:List (Nat×Nat)):List (List Zr×V):=jK.foldl (fun jQ p=>Z1 jQ (XC p) (.bl true)) jQ
theorem Zkm (p:Nat×Nat):B5 (.tup [ZJ p,.bl true])=some (XC p,.bl true):=rfl
theorem Zbt:∀(jK:List (Nat×Nat)) (jQ:List (List Zr×V)),X3 jQ (jK.map fun p=>D.tup [ZJ p,.bl true])=some (ZU jQ jK)
 | [],jQ=>rfl
 | t::ts,jQ=>by
  rw[zi];unfold X3;rw[Zkm];exact Zbt ts _
theorem Zev (p:Nat×Nat):∀(jK:List (Nat×Nat)) (jQ:List (List Zr×V)),(ZQ (ZU jQ jK) (XC p)).isSome=(decide (p∈jK)||(ZQ jQ (XC p)).isSome)
 | [],jQ=>by simp[ZU]
 | t::ts,jQ=>by
  have ih:=Zev p ts (Z1 jQ (XC t) (.bl true));have e:ZU jQ (t::ts)=ZU (Z1 jQ (XC t) (.bl true)) ts:=rfl;rw[e,ih,Zec];by_cases h:p=t
  ·subst h;simp
  ·have hk:¬XC p=XC t:=fun z=>h (ZiE z)
   rw[if_neg hk];simp[h]
theorem Zdk (n:Nat)(jK:List (Nat×Nat))(s:Pn)(hl:jK.length<=100000):Ub [ZX n jK] s=some (.dt (ZU [] jK),s):=by
 have hc:Z0 [none] (JZ (Zd Zl (Za 0) (dC (.int 1)))) (Zy 0) Ya (ZV (Zc (Za 0) (Zc (dC (.bl true)) Ze))) [some (ZX n jK)] s=some (.lst ((jK.map ZJ).map fun d=>D.tup [d,.bl true]),s):=by
  have q:=Xa (src:=[none]) (fi:=JZ (Zd Zl (Za 0) (dC (.int 1)))) (τ:=Zy 0) (ft:=Ya) (fe:=ZV (Zc (Za 0) (Zc (dC (.bl true)) Ze))) (ρ:=[some (ZX n jK)]) (s:=s) (ds:=jK.map ZJ) (fun d=>[some d]) (fun _=>true) (fun d=>D.tup [d,.bl true])
   (by unfold JZ Zm;rw[ZB (d:=ZX n jK) (e:=.int 1) (c:=.tup (jK.map ZJ)) rfl rfl (by unfold ZX;exact J4 _ _ _)];rfl) (by rw[qj,Ys];omega)
   (fun d hd=>⟨rfl,rfl,fun _=>Wc (Zh rfl (Zh rfl rfl)) two_le⟩)
  have q2:(jK.map ZJ).filter (fun _=>true)=jK.map ZJ:=ya.mpr (by simp);rw[q,q2]
 refine Xh rfl (Y6 (Xl (YX (Zh hc rfl) ?_)));rw[qD];show(if ((jK.map ((fun d=>D.tup [d,.bl true])∘ZJ)).length<=sizeLine) then (X3 [] _).map D.dt else none)=_;rw[if_pos (by rw[qj,Ys];omega)];have e:=Zbt jK [];show(X3 [] (jK.map fun p=>D.tup [ZJ p,.bl true])).map D.dt=_;rw[e];rfl
theorem Zew {n i:Nat}{p:Nat×Nat}(h:p∈Wq n i):p.1<i/\p.1<p.2/\p.2<n:=by
 unfold Wq at h;obtain⟨a,ha,h⟩:=qa1.mp h;obtain⟨k,hk,rfl⟩:=qK.mp h;simp at ha hk;exact⟨ha,by simp;omega,by simp;omega⟩
theorem Zha {n:Nat}{p:Nat×Nat}(h:p∈Xd n):V7 (Z3 0 n) p=ZJ p:=by
 obtain⟨h1,h2,h3⟩:=Zew h;have g:∀i,i<n->(Z3 0 n).getD i .non=.int (i:Int):=fun i hi=>by
  rw[Vy];simp[qaF,hi]
 unfold V7 ZJ;rw[g _ h1,g _ h3]
theorem Zex {n:Nat}(s:Pn)(hn:n<=1000):Jy [.lst (Z3 0 n)] s=some (.lst ((Xd n).map ZJ),s):=by
 rw[Zeu _ _ (.inl rfl) (by rw[Y2];exact hn) s,Y2];congr 3;exact zu fun p hp=>Zha hp
theorem Zax {f:Zb->M D}{ρ:Zb}{s:Pn}{n:Nat}(h:f ρ s=some (.int n,s))(hn:n<=1000):WQ f ρ s=some (.lst (Z3 0 n),s):=by
 unfold WQ Zm;rw[h];show(if -(2 ^ 62)<=(n:Int)/\(n:Int)<=2 ^ 24 then ZD (D.lst (Z3 0 (n:Int).toNat)) else Zz) s=_;rw[if_pos (by omega)];rfl
theorem ZiF (n:Nat)(hn:n<=1000):(Xd n).length<=1000000:=by
 have h1:=BD n n;have h2:n*n<=1000*1000:=y8 hn hn;unfold Xd;omega
theorem ZdM (l:List (Nat×Nat))(b:D->Bool)(q:Nat×Nat->Bool)(h:∀p,b (ZJ p)=q p):((l.map ZJ).filter b).map (fun d=>d)=(l.filter q).map ZJ:=by
 rw[yf,List.map_id'];congr 1;exact List.filter_congr fun p _=>h p
noncomputable def nat2:D->Nat×Nat
 | .tup [a,b]=>(Yu a,Yu b)
 | _=>(0,0)
theorem Zhb (p:Nat×Nat):nat2 (ZJ p)=p:=rfl
end TP
namespace TF
open L2
theorem Ok.runB {n k:Nat}{g:Zb->M Out}{ds:List D}{s:Pn}{Q:D->Pn->Prop}(hl:ds.length=k)(h:Ok (g (ds.map some++qu (n-k) none)) s fun o s'=>match o with | .rt d=>Q d s' | .nx _=>Q .non s' | _=>False):Ok (runB n k g ds) s Q:=by
 unfold TF.runB;rw[if_pos hl];refine .bind (h.mono fun o s' q=>?_)
 cases o with
 | rt d=>exact .ret q
 | nx ρ=>exact .ret q
 | bk ρ=>exact q.elim
 | ct ρ=>exact q.elim
theorem Ok.bor {f g:Zb->M Bool}{ρ:Zb}{s:Pn}{Q:Bool->Pn->Prop}(h:Ok (f ρ) s fun b s1=>if b=true then Q true s1 else Ok (g ρ) s1 Q):Ok (VH f g ρ) s Q:=by
 refine .bind (h.mono fun b s1 q=>?_)
 cases b with
 | true=>exact .ret (by simpa using q)
 | false=>simpa using q
theorem Ok.fn {F:List D->M D}{fs:Zb->M (List D)}{ρ:Zb}{s s1:Pn}{ds:List D}{Q:D->Pn->Prop}(h1:fs ρ s=some (ds,s1))(h:Ok (F ds) s1 Q):Ok (Zq F fs ρ) s Q:=by
 obtain⟨a,s',e,q⟩:=h;exact⟨a,s',Yl h1 e,q⟩
theorem Ok.op {g:D->D->Option D}{f f2:Zb->M D}{ρ:Zb}{s:Pn}{Q:D->Pn->Prop}(h:Ok (f ρ) s fun d s1=>Ok (f2 ρ) s1 fun e s2=>∃c,g d e=some c/\Q c s2):Ok (Zd g f f2 ρ) s Q:=
 .bind (h.mono fun d s1 q=>.bind (q.mono fun e s2 q=>let ⟨c,e1,q⟩:=q;.of e1 q))
theorem Ok.cons {f:Zb->M D}{fs:Zb->M (List D)}{ρ:Zb}{s:Pn}{Q:List D->Pn->Prop}(h:Ok (f ρ) s fun d s1=>Ok (fs ρ) s1 fun ds s2=>Q (d::ds) s2):Ok (Zc f fs ρ) s Q:=
 .bind (h.mono fun d s1 q=>.bind (q.mono fun e s2 q=>.ret q))
theorem Ok.nil {ρ:Zb}{s:Pn}{Q:List D->Pn->Prop}(h:Q [] s):Ok (Ze ρ) s Q:=.ret h
theorem Ok.asB {f:Zb->M D}{ρ:Zb}{s:Pn}{Q:Bool->Pn->Prop}(h:Ok (f ρ) s fun d s1=>∃b,d=.bl b/\Q b s1):Ok (asB f ρ) s Q:=
 .bind (h.mono fun d s1 q=>by obtain⟨b,rfl,q⟩:=q;exact .ret q)
end TF
namespace TP
open L2 TF
theorem Uk {n:Nat}{p:Nat×Nat}:p∈Xd n↔p.1<p.2/\p.2<n:=by
 constructor
 ·intro h;exact(Zew h).2
 ·intro ⟨h1,h2⟩
  unfold Xd Wq;refine qa1.mpr ⟨p.1,by simp;omega,qK.mpr ⟨p.2-(p.1+1),by simp;omega,?_⟩⟩;obtain⟨a,b⟩:=p;simp only at h1 h2⊢;rw[show a+1+(b-(a+1))=b by omega]
theorem UI {n i:Nat}{d:D}(h:(Z3 0 n)[i]?=some d):i<n/\d=.int (i:Int):=by
 have:=Za6 (lo:=0) h;rw[qav] at this;exact this
noncomputable def XT (n:Nat)(jK:List (Nat×Nat)):Prop:=jK.Sublist (Xd n)
theorem XT.len {n:Nat}{jK:List (Nat×Nat)}(h:XT n jK)(hn:n<=24):jK.length<=576:=by
 have h1:=h.length_le;have h2:=BD n n;have h3:n*n<=24*24:=y8 hn hn;unfold Xd at h1;omega
theorem XT.filter {n:Nat}(f:Nat×Nat->Bool):XT n ((Xd n).filter f):=zv
theorem UQ {jK:List (Nat×Nat)}{a b:Nat}(h:a<b):tied jK a b=decide ((a,b)∈jK):=by
 unfold tied;rw[show min a b=a by omega,show max a b=b by omega]
theorem Zbu (jK:List (Nat×Nat))(a b:Nat):tied jK a b=tied jK b a:=by
 unfold tied;rw[show min a b=min b a by omega,show max a b=max b a by omega]
theorem Zkn (n:Nat)(jK:List (Nat×Nat)):Yc (ZX n jK)<=3:=by
 have:=Zcc jK;simp only[ZX,Yc,Xv];omega
theorem Jd {n:Nat}{jK:List (Nat×Nat)}:Zl (ZX n jK) (.int 0)=some (.int n):=by unfold ZX;exact U2 _ _
end TP
namespace TP
open L2 TF
end TP
namespace HT
section
variable {prog:Program}{w:World}{A:Around}{E:Value->Shared->Prop}{s:Shared}
theorem getItem_tuple_whole {t sl:Addr}{items:Array Value}{vl vu:Value}{lo hi:Option Int}{Q:Value->Shared->Prop}(ht:IsTup s.heap t items)(hs:s.heap.IsSliceOf sl vl vu .none)(pl:IsPart vl lo)(pu:IsPart vu hi)
  (hw:sIx items.size 0 lo=0/\sIx items.size items.size hi=items.size)
  (h:Q (.ref t) s)
  (hsz:items.size<=sizeLine):wpAny (model prog w) A (getItem (.ref t) (.ref sl)) Q E s:=by
 obtain⟨os,hos,hcs,hds⟩:=id hs;have hTs:s.TypeIs (.ref sl) "slice":=⟨os,hos,hcs⟩;unfold getItem
 try with_reducible refine wpAny_holding ?_
 first | refine wpAny_bind (wpAny_pure ?_) | skip
 refine wpAny_bind (wpAny_sequenceKey ht.typeIs (by decide) ?_);refine wpAny_bind (wpAny_callSpecial?_slot (name:=qw "__getitem__") ht.typeIs zr
  (wpAny_call_entry zr ht.typeIs entry_tuple_getitem ?_ (args_tuple_getitem _ _)))
 show wpAny _ _ (qaK (.ref t) >>= _) _ _ s;refine wpAny_bind (tupleItemsOf_ ht ?_);refine wpAny_bind (wpAny_typeOf hTs ?_);rw[if_pos (by decide)];refine wpAny_bind (Zar hs pl pu ?_);have hyes:((((sIx items.size 0 lo:Nat):Int)==0&&(1:Int)==1&&(sIx items.size items.size hi-sIx items.size 0 lo)==items.size)=true):=by
  rw[hw.1,hw.2];simp
 show wpAny _ _ (if (((sIx items.size 0 lo:Nat):Int)==0&&(1:Int)==1&&(sIx items.size items.size hi-sIx items.size 0 lo)==items.size)=true then _ else _) _ _ s;rw[if_pos hyes];unfold Builtin.Tuple.tupleIsExact;refine wpAny_bind (wpAny_bind (wpAny_typeOf ht.typeIs ?_));refine wpAny_pure ?_;rw[if_pos (by decide)];refine wpAny_bind (wpAny_rule ?_)
 first
  | exact wpAny_bind (wpAny_pure ⟨_,rfl,wpAny_pure h⟩)
  | exact wpAny_bind (wpAny_pure (wpAny_pure ⟨_,rfl,wpAny_pure h⟩))
end
end HT
namespace TF
open L2
noncomputable def Zm0 (K:qf):V->Option Int->Option Int->Hp->VK->Prop:=fun x lo hi H Q=>∃a xs,x=.ref a/\ZF K H a xs/\
 (HT.sIx xs.length 0 lo=0/\HT.sIx xs.length xs.length hi=xs.length)/\Q (.ref a) H
section
variable {X:Cx}{G:Gh}
theorem Zko:V2 X (Zm0 X.K):=by
 intro jJ s σ H x v vl vu lo hi sl Q I rx hs pl pu h;obtain⟨a,xs,rfl,hx,hw,q⟩:=h
 cases rx
 obtain⟨jL,r,ht,hz⟩:=I.tuple hx;have jV:jL.toArray.size=xs.length:=by rw[qq];exact r.length.symm
 refine⟨"tuple",_,zr.lookup,ht.typeIs,?_⟩;exact HT.getItem_tuple_whole ht hs pl pu (by rw[jV];exact hw) ⟨.ref a,H,I,rfl,q⟩ (by rw[jV];exact hz)
noncomputable def Wi (ds:List D)(lo hi:Option Int):List D:=(ds.drop (HT.sIx ds.length 0 lo)).take (HT.sIx ds.length ds.length hi-HT.sIx ds.length 0 lo)
noncomputable def POD (X:Cx)(G:Gh)(e:Option Expr)(f:Zb->M (Option Int)):Prop:=
 ∃t,PO X e t/\∀(σ:St) (Hf H:Hp) (ρ:Zb) (s:Pn) (o:Option Int) (s':Pn) (Q:Option Int->Hp->Prop),Zw G Hf H->Yw G Hf σ ρ->G.st s H->f ρ s=some (o,s')->
  (∀Hf' H',Gr G Hf H Hf' H'->G.st s' H'->Q o H')->t σ H Q
noncomputable def ZiG:Zb->M (Option Int):=fun _=>ZD none
noncomputable def ZiH (f:Zb->M D):Zb->M (Option Int):=fun ρ=>Zm (f ρ) fun d=>match d with | .int i=>ZD (some i) | _=>Zz
theorem Zey:POD X G none ZiG:=⟨_,ZjY,fun σ Hf H ρ s o s' Q e1 e2 e3 e4 k=>by
 obtain⟨rfl,rfl⟩:=ZL e4;exact k Hf H (.refl e1) e3⟩
theorem Zez {e:Expr}{f:Zb->M D}{r1:Bool}(h:PD X G r1 e f):POD X G (some e) (ZiH f):=by
 obtain⟨t,p,q⟩:=h.drop;refine⟨_,ZjZ p,fun σ Hf H ρ s o s' Q e1 e2 e3 e4 k=>?_⟩;obtain⟨d,s1,a1,a2⟩:=Zv e4;refine q σ Hf H ρ s d s1 _ e1 e2 e3 a1 fun v jU H1 g1 j9 r1=>?_
 match d,a2,r1 with
 | .int i,a2,r1=>
  obtain⟨rfl,rfl⟩:=ZL a2;exact⟨i,ja.mp r1,k jU H1 g1 j9⟩
noncomputable def UW (f:Zb->M D)(fl fh:Zb->M (Option Int)):Zb->M D:=fun ρ=>Zm (f ρ) fun d=>Zm (fl ρ) fun lo=>Zm (fh ρ) fun hi=>match d with
 | .tup ds=>ZD (.tup (Wi ds lo hi))
 | .lst ds=>ZD (.lst (Wi ds lo hi))
 | _=>Zz
theorem Zgl {Hf:Hp}{ds:List D}{vs:List V}(r:Zg G Hf ds vs)(lo hi:Option Int):Zg G Hf (Wi ds lo hi) (Vm vs lo hi):=by
 unfold Wi Vm;rw[r.length];exact(r.drop _).take _
theorem Zfz {ds:List D}{lo hi:Option Int}(h:HT.sIx ds.length 0 lo=0/\HT.sIx ds.length ds.length hi=ds.length):Wi ds lo hi=ds:=by
 unfold Wi;rw[h.1,h.2];simp
theorem ZeA {e:Expr}{lo hi:Option Expr}{p2 pos:Pos}{f:Zb->M D}{fl fh:Zb->M (Option Int)}{r1:Bool}(he:PD X G r1 e f)(hl:POD X G lo fl)(hh:POD X G hi fh):PD X G true (.Subscript e (.Slice lo hi none p2) pos) (UW f fl fh):=by
 obtain⟨t,p,q⟩:=he.drop;obtain⟨tl,pl,ql⟩:=hl;obtain⟨th,ph,qh⟩:=hh;refine⟨_,Zia (Zj1.or (ZlT.or Zko)) p pl ph,fun σ Hf H ρ s d s' Q e1 e2 e3 e4 k=>?_⟩;obtain⟨d0,s1,a1,a2⟩:=Zv e4;obtain⟨lo',s2,a3,a4⟩:=Zv a2;obtain⟨hi',s3,a5,a6⟩:=Zv a4;refine q σ Hf H ρ s d0 s1 _ e1 e2 e3 a1 fun v jU H1 g1 j9 r1=>?_;refine ql σ jU H1 ρ s1 lo' s2 _ g1.fh (e2.ext g1.ff) j9 a3 fun jY H2 g2 j7=>?_;refine qh σ jY H2 ρ s2 hi' s3 _ g2.fh ((e2.ext g1.ff).ext g2.ff) j7 a5 fun Hf3 H3 g3 st3=>?_;have rr:=(r1.ext g2.ff).ext g3.ff;have g:=(g1.trans g2).trans g3
 match d0,a6,rr with
 | .lst ds,a6,rr=>
  obtain⟨rfl,rfl⟩:=ZL a6;obtain⟨a,vs,rfl,na,ha,ra⟩:=jc.mp rr;refine .inl ⟨a,vs,rfl,Zu.of (g.fh _ _ na ha),fun l hl=>?_⟩;have nf:=Gh.nofp st3 hl;have g2:=Gr.new (o:=.lst (Vm vs lo' hi')) g.fh hl nf;have rr:=Zgl ra lo' hi';exact k (.ref l) _ _ (g.trans g2) (Gh.grow st3 hl) (jc.mpr ⟨l,_,rfl,nf,ZI,rr.ext g2.ff⟩) fun _=>jo g.hh (fun a ea _=>by cases ea;exact nf) (Yo.mk g.fh hl nf rr)
 | .tup ds,a6,rr=>
  obtain⟨rfl,rfl⟩:=ZL a6;obtain⟨a,vs,rfl,na,ha,ra⟩:=jb.mp rr;by_cases hw:HT.sIx vs.length 0 lo'=0/\HT.sIx vs.length vs.length hi'=vs.length
  ·refine .inr (.inr ⟨a,vs,rfl,ZF.of (g.fh _ _ na ha),hw,?_⟩)
   rw[<-ra.length] at hw;exact k (.ref a) _ _ g st3 (by rw[Zfz hw];exact rr) fun _=>.scal fun z=>z
  ·refine .inr (.inl ⟨a,vs,rfl,ZF.of (g.fh _ _ na ha),hw,fun l hl=>?_⟩)
   have nf:=Gh.nofp st3 hl;have g2:=Gr.new (o:=.tup (Vm vs lo' hi')) g.fh hl nf;exact k (.ref l) _ _ (g.trans g2) (Gh.grow st3 hl) (jb.mpr ⟨l,_,rfl,nf,ZI,(Zgl ra lo' hi').ext g2.ff⟩) fun _=>.scal fun z=>z
noncomputable def Ba (τ:D->Zb->Option Zb)(f:Zb->M D):Zb->M Out:=fun ρ=>Zm (f ρ) fun d=>match τ d ρ with | some ρ'=>ZD (.nx ρ') | none=>Zz
theorem Zkp {ob own:List Nat}{fr r1:Bool}{tg e:Expr}{pos:Pos}{τ:D->Zb->Option Zb}{f:Zb->M D}(he:PD X G r1 e f)(hg:WN X G tg (fun i=>i∉own) τ)(hs:swapsWithSole [tg] e pos.line X.env=pure false:=by rfl)(hw:swappedStores [tg] e X.env=pure none:=by rfl)
  (h1:(assignEach [tg] X.env).map (·.2)=[assign tg X.env]:=by rfl):Yx X G ob own own fr (.Assign [tg] e pos) (Ba τ (fun ρ=>f (Z8 own ρ))):=by
 obtain⟨t,p,q⟩:=he;obtain⟨g,pg,qg⟩:=hg;have hy:XH G r1 t f:=q;refine⟨_,Ze6 p pg hs hw h1,fun kn jT H0 σ H ρ s out s' E ⟨Hf,j⟩ st e po=>?_⟩;obtain⟨d,s1,a1,a2⟩:=Zv e;refine hy.a kn jT H0 σ Hf H ρ s d s1 _ j st a1 fun v Hf' H' j' e1 e2 st' r fz=>?_
 cases eq:τ d ρ with
 | none=>rw[eq] at a2;cases a2
 | some ρ'=>
  rw[eq] at a2;obtain⟨rfl,rfl⟩:=ZL a2;exact qg v σ Hf' H' d ρ ρ' _ j'.gr.fh r eq fun σ' hs'=>po σ' H' ⟨Hf',hs'.jf j'⟩ st'
theorem ZeB {ob:List Nat}{fr r1:Bool}{tg e:Expr}{pos:Pos}{τ:D->Zb->Option Zb}{f:Zb->M D}(he:PD X G r1 e f)(hg:WN X G tg (fun i=>i∉([]:List Nat)) τ)(hs:swapsWithSole [tg] e pos.line X.env=pure false:=by rfl)(hw:swappedStores [tg] e X.env=pure none:=by rfl)
  (h1:(assignEach [tg] X.env).map (·.2)=[assign tg X.env]:=by rfl):Yx X G ob [] [] fr (.Assign [tg] e pos) (Ba τ f):=by
 have h:=Zkp (ob:=ob) (fr:=fr) he hg hs hw h1;have e:(fun ρ=>f (Z8 [] ρ))=f:=by funext ρ;rw[Zb0]
 rw[e] at h;exact h
theorem ZT.none {P:Program}{w:World}{K:qf}{mg:Str->Option Value}{base:Heap}{k:Nat}{x:Str}{n:Nat}{fr:Bool}{GG:Gh->Prop}{f:Addr}{fd:FuncData}{ps:List Str}(hm:mg x=some (.ref f))(hk:zR K (.ref f)=true)(hb:Xz K fd ps []) :
  ZT P w K mg base k x n fr GG (fun _=>Zz):=by
 refine⟨f,fd,ps,⟨fun vs H Q E h=>?_,fun A outer s H args us vs Q E _ _ _ _ h=>?_⟩,hm,hk,hb⟩
 ·obtain⟨G,Hf,ds,s,d,s',_,_,_,_,_,h,_⟩:=h
  cases h
 ·obtain⟨G,Hf,ds,s,d,s',_,_,_,_,_,h,_⟩:=h
  cases h
end
end TF
namespace TF
open L2 PySem.SeqAt
open AutoSeq1 (wpAny_loadPart')
theorem ZfA (l:Addr)(items:Array Value)(n:Nat)(dd:Option Addr)(sl:Array (Option Value))(x:Int)(u:Tok)(hc0:¬((x < -(2 ^ 63):Bool)||(x≥2 ^ 63:Bool))=true)(hc1:¬(items.isEmpty||x==1)=true)(hc2:¬((x<=0:Bool)||items.isEmpty)=true)
  (hc3:¬((items.size:Int)*x > (2 ^ 63-1) / 8)) (hc4:¬qaL ((items.size:Int)*x)=true) (hsz:(qat (fun x1 x2=>x1++x2) #[] (qu x.toNat items)).size<=sizeLine) :
  Meets (Builtin.«tuple.__mul__» ⟨[.ref l,.int x u],[]⟩) (fun _ R s=>s.heap.get? l=some { cls:=.type "tuple",dict:=dd,data:=.seq items n,slots:=sl }/\R (.ok (.ret (qI s.heap.objs.size))) { s with heap:=s.heap.push { cls:=yC "tuple",data:=Data.seq (qat (fun x1 x2=>x1++x2) #[] (qu x.toNat items)) },toks:=s.toks }):=
 .of_wp fun prog w A R s h=>by
  obtain⟨hp,g,d,tk,os⟩:=s;obtain⟨hl,h⟩:=h;have f1:=qa2;have f2:=yp;have f3:=qak;have f4:=qaa;have f5:=qab;wp_walk using wpAny_loadPart' hl;rw[if_neg hc0];wp_walk using wpAny_loadPart' hl;rw[if_neg hc3];wp_walk using wpAny_loadPart' hl
  try (refine wpAny_ite_false (decide_eq_false (Nat.not_lt.mpr hsz)) ?_;wp_walk)
  exact⟨_,rfl,h⟩
theorem Zab:fillsNumberSlot (.type "tuple") "mul" = pure false:=
 PySem.fillsNumberSlot_seq (id:="tuple.__mul__") (r:=some (.builtin "tuple.__rmul__")) yc.lookup (by decide +kernel) qa6.lookup (by decide +kernel)
theorem Zay:seqRepeat? (.type "tuple")=pure (some (.builtin "tuple.__mul__")):=by
 unfold seqRepeat?;rw[PySem.seqSlot_of (T:="tuple") (name:="__mul__") (id:="tuple.__mul__") yc.lookup (by decide +kernel),PySem.seqSlot_of (T:="tuple") (name:="__rmul__") (id:="tuple.__rmul__") qa6.lookup (by decide +kernel)];rfl
theorem Zag (a:Int)(t:Tok)(l:Addr)(items:Array Value)(n:Nat)(dd:Option Addr)(sl:Array (Option Value)) :
  Meets (Builtin.«int.__rmul__» ⟨[.int a t,.ref l],[]⟩) (fun _ R s=>s.heap.get? l=some { cls:=.type "tuple",dict:=dd,data:=.seq items n,slots:=sl }/\R (.ok (.ret qbu)) s):=
 .of_wp fun prog w A R s h=>by obtain⟨hp,g,d,tk,os⟩:=s;obtain⟨hl,h⟩:=h;wp_walk;exact⟨_,rfl,h⟩
section
variable {X:Cx}{G:Gh}
noncomputable def Zm1 (K:qf):R2:=fun x y H Q=>∃l k xs,x=.ref l/\y=.int k/\ZF K H l xs/\xs≠[]/\2<=k/\k<2 ^ 62/\xs.length*k.toNat<=sizeLine/\
 ∀p,H p=none->Q (.ref p) (Zk H p (.tup (qu k.toNat xs).flatten))
theorem Zkq:Yi X (binaryOp .Mult) (Zm1 X.K):=by
 intro jJ s σ H x y v u Q I rx ry h;obtain⟨l,k,xs,rfl,rfl,hH,hne,h1,h2,hz,q⟩:=h
 cases rx
 obtain⟨t,rfl⟩:=ry;obtain⟨jL,r,p1,_⟩:=I.tuple hH;obtain⟨⟨cls,dd,data,sl⟩,ho,hc,n,hd⟩:=id p1;simp only at hc hd;subst hc hd;have hl:=r.length;have hsz:jL.toArray.size=xs.length:=by rw[qq];exact hl.symm
 have hne':jL≠[]:=fun z=>hne (r.nil_iff.mp z);have hemp:jL.toArray.isEmpty=false:=by cases jL with | nil=>exact absurd rfl hne' | cons a b=>rfl
 have e0:((k.toNat:Nat):Int)=k:=by omega
 have hcap:((jL.toArray.size:Int)*k)=((xs.length*k.toNat:Nat):Int):=by rw[hsz,Int.natCast_mul,e0]
 have sl2:(sizeLine:Nat)=16777216:=sizeLine_eq;have hnew:qat (fun x1 x2=>x1++x2) #[] (qu k.toNat jL.toArray)=(qu k.toNat jL).flatten.toArray:=by
  have:=Zbr jL k.toNat [];rw[qba] at this;exact this
 have hfl:(qu k.toNat jL).flatten.length<=sizeLine:=by rw[ZdH,qbL,<-hl];exact hz
 refine wpAny_binaryOp_repeat_ref (T:="tuple") (U:="int") (by decide) ⟨_,ho,rfl⟩ (fun s'=>typeIs_int s' k t) Zab qau zX Zay qan.lookup
  (call_meets zX (typeIs_int s k t) qao (qae _ _) (Zag k t l jL.toArray n dd sl)
   ⟨ho,rfl,⟨_,ho,rfl⟩,call_meets yc ⟨_,ho,rfl⟩ qac (yV _ _) (ZfA l jL.toArray n dd sl k t ?_ ?_ ?_ ?_ ?_ ?_) ⟨ho,?_⟩⟩)
 ·simp;omega
 ·rw[hemp];simp;omega
 ·rw[hemp];simp;omega
 ·rw[hcap];omega
 ·unfold qaL
  rw[hcap,decide_eq_true_eq];omega
 ·rw[hnew,qq];exact hfl
 ·rw[hnew]
  exact⟨.ref s.heap.objs.size,_,I.laid (t':=s.toks) (o:=.tup (qu k.toNat xs).flatten) (fun b ob q=>qd _ q) (qp _) ⟨by rw[ZdH,qbL];exact hz,_,r.rep k.toNat,qaE _ _⟩,rfl,q _ (I.hok.fresh (qp _))⟩
theorem Zg.rep {Hf:Hp}{ds:List D}{vs:List V}(r:Zg G Hf ds vs):∀k:Nat,Zg G Hf (qu k ds).flatten (qu k vs).flatten
 | 0=>Zg.nil_iff.mpr rfl
 | k+1=>by
  rw[zG,zG,yj,yj];exact r.append (Zg.rep r k)
noncomputable def U3:D->D->Option D
 | .int i,.int j=>if J0 i j=true then some (.int (i*j)) else none
 | .tup ds,.int k=>if ds≠[]/\2<=k/\k<2 ^ 62/\ds.length*k.toNat<=sizeLine then some (.tup (qu k.toNat ds).flatten) else none
 | .lst ds,.int k=>if -(2 ^ 63)<=k/\k<2 ^ 63/\ds.length*k.toNat<=sizeLine then some (.lst (qu k.toNat ds).flatten) else none
 | _,_=>none
theorem ZiI:Xp X G (binaryOp .Mult) U3:=by
 obtain⟨r0,po,qo⟩:=ZdK (X:=X) (G:=G);refine⟨_,po.or (Zkq.or ZlY),fun Hf H s x y d e c Q e1 st rx ry q k=>?_⟩
 match d,e,q,rx,ry with
 | .int i,.int j,q,rx,ry=>exact .inl (qo Hf H s x y _ _ c Q e1 st rx ry q k)
 | .tup ds,.int j,q,rx,ry=>
  have q:(if ds≠[]/\2<=j/\j<2 ^ 62/\ds.length*j.toNat<=sizeLine then some (D.tup (qu j.toNat ds).flatten) else none)=some c:=q;split at q
  ·rename_i hz
   cases q
   obtain⟨p,vs,rfl,np,hp,rp⟩:=jb.mp rx;refine .inr (.inl ⟨p,j,vs,rfl,ja.mp ry,ZF.of (e1 _ _ np hp),fun z=>hz.1 (z8.mp (by rw[rp.length,z];rfl)),hz.2.1,hz.2.2.1,by rw[<-rp.length];exact hz.2.2.2,fun l hl=>?_⟩);have nf:=Gh.nofp st hl;have g2:=Gr.new (o:=.tup (qu j.toNat vs).flatten) e1 hl nf;exact k (.ref l) _ _ g2 (Gh.grow st hl) (jb.mpr ⟨l,_,rfl,nf,ZI,(rp.rep _).ext g2.ff⟩) (.scal fun z=>z)
  ·cases q
 | .lst ds,.int j,q,rx,ry=>
  have q:(if -(2 ^ 63)<=j/\j<2 ^ 63/\ds.length*j.toNat<=sizeLine then some (D.lst (qu j.toNat ds).flatten) else none)=some c:=q;split at q
  ·rename_i hz
   cases q
   obtain⟨p,vs,rfl,np,hp,rp⟩:=jc.mp rx;refine .inr (.inr ⟨p,j,vs,rfl,ja.mp ry,e1 _ _ np hp,hz.1,hz.2.1,by rw[<-rp.length];exact hz.2.2,fun l hl=>?_⟩);have nf:=Gh.nofp st hl;have g2:=Gr.new (o:=.lst (qu j.toNat vs).flatten) e1 hl nf;exact k (.ref l) _ _ g2 (Gh.grow st hl) (jc.mpr ⟨l,_,rfl,nf,ZI,(rp.rep _).ext g2.ff⟩) (Yo.mk e1 hl nf (rp.rep _))
  ·cases q
end
end TF
namespace TF
open L2
section
variable {X:Cx}{G:Gh}
theorem ZiJ {i:Int}{j p pos}:PD X G true (.UnaryOp .USub (.Constant (.int i) j p) pos) (dC (.int (-i))):=by
 refine⟨_,Zk3 Zh4 YK,fun σ Hf H ρ s d s' Q e1 e2 e3 e4 k=>?_⟩;obtain⟨rfl,rfl⟩:=ZL e4;exact⟨i,rfl,k _ Hf H (.refl e1) e3 (ja.mpr rfl) fun _=>.scal fun z=>z⟩
end
end TF
namespace TF
open L2
section
variable {f g:Zb->M D}{ρ:Zb}{s s1:Pn}{a b:Bool}{r:Option (D×Pn)}
theorem Zmd (h:f ρ s=some (.bl true,s1))(h2:g ρ s1=r):Vo f g ρ s=r:=by unfold Vo Zm;rw[h];exact h2
theorem Zme (h:f ρ s=some (.bl false,s1)):Vo f g ρ s=some (.bl false,s1):=by unfold Vo Zm;rw[h];rfl
theorem Zkr (h:f ρ s=some (.bl a,s))(h2:a=true->g ρ s=some (.bl b,s)):Vo f g ρ s=some (.bl (a&&b),s):=by
 cases a with
 | false=>exact Zme h
 | true=>rw[Bool.true_and];exact Zmd h (h2 rfl)
theorem Zks (h:f ρ s=some (.bl a,s1)):J6 f ρ s=some (.bl (!a),s1):=by unfold J6 Zm;rw[h];rfl
end
section
variable {f g:Zb->M Bool}{ρ:Zb}{s s1:Pn}{a b:Bool}{r:Option (Bool×Pn)}
theorem Zmf (h:f ρ s=some (false,s1)):WJ f g ρ s=some (false,s1):=by unfold WJ Zm;rw[h];rfl
theorem Zmg (h:f ρ s=some (true,s1))(h2:g ρ s1=r):WJ f g ρ s=r:=by unfold WJ Zm;rw[h];exact h2
theorem Zm2 (h:f ρ s=some (true,s1)):VH f g ρ s=some (true,s1):=by unfold VH Zm;rw[h];rfl
theorem Zm3 (h:f ρ s=some (false,s1))(h2:g ρ s1=r):VH f g ρ s=r:=by unfold VH Zm;rw[h];exact h2
theorem Zgm (h:f ρ s=some (a,s))(h2:a=true->g ρ s=some (b,s)):WJ f g ρ s=some (a&&b,s):=by
 cases a with
 | false=>exact Zmf h
 | true=>rw[Bool.true_and];exact Zmg h (h2 rfl)
end
section
variable {c:Zb->M Bool}{g1 g2:Zb->M Out}{ρ:Zb}{s s1:Pn}{r:Option (Out×Pn)}
theorem Zlf (h:c ρ s=some (true,s1))(h2:g1 ρ s1=r):Y1 c g1 g2 ρ s=r:=by unfold Y1 Zm;rw[h];exact h2
theorem Zlg (h:c ρ s=some (false,s1))(h2:g2 ρ s1=r):Y1 c g1 g2 ρ s=r:=by unfold Y1 Zm;rw[h];exact h2
end
section
variable {fa fb:Zb->M D}{f:D->Zb->M Bool}{g:D->D->Option D}{ρ:Zb}{s s1 s2:Pn}{d e:D}{k:Bool}{r:Option (Bool×Pn)}
end
theorem eqi (a b:Int):Wh (.int a) (.int b)=some (.bl (a==b)):=by
 unfold Wh;rw[if_pos (by simp[Vq,Zn,Yc])];simp[ZE]
theorem nei (a b:Int):XB (.int a) (.int b)=some (.bl (!(a==b))):=by
 unfold XB;rw[if_pos (by simp[Vq,Zn,Yc])];simp[ZE]
theorem ZdN {ds:List D}{r:Nat}(h:r<ds.length):∃d∈ds,Zl (.lst ds) (.int (r:Int))=some d:=
 ⟨ds[r],qap h,Wl (qE h)⟩
theorem Zbb {τ:D->Zb->Option Zb}{body:Zb->M Out}{d:D}{ds:List D}{ρ ρ1 ρ2:Zb}{s s1:Pn}{r:Option (Out×Pn)}(h:τ d ρ=some ρ1)(hb:body ρ1 s=some (.nx ρ2,s1))(h2:Wg τ body ds ρ2 s1=r):Wg τ body (d::ds) ρ s=r:=by
 unfold Wg Zm YN;simp only[h,hb];exact h2
theorem ZdO {τ:D->Zb->Option Zb}{body:Zb->M Out}{d e:D}{ds:List D}{ρ ρ1:Zb}{s s1:Pn}(h:τ d ρ=some ρ1)(hb:body ρ1 s=some (.rt e,s1)):Wg τ body (d::ds) ρ s=some (.rt e,s1):=by
 unfold Wg Zm YN;simp only[h,hb];rfl
theorem Zgn {fi:Zb->M (List D)}{τ:D->Zb->Option Zb}{body:Zb->M Out}{ds:List D}{ρ:Zb}{s s1:Pn}{r:Option (Out×Pn)}(h:fi ρ s=some (ds,s1))(h2:Wg τ body ds ρ s1=r):Xc fi τ body ρ s=r:=by
 unfold Xc Zm;rw[h];exact h2
theorem Wa {f:Zb->M D}{ρ:Zb}{s s1:Pn}{ds:List D}(h:f ρ s=some (.lst ds,s1)):Z4 f ρ s=some (ds,s1):=by unfold Z4 Zm;rw[h];rfl
end TF
namespace TP
open L2 TF
theorem Ug {α:Type}(l:List α):l.filter (fun _=>true)=l:=ya.mpr (by simp)
end TP
namespace TF
open L2
section
variable {f:Zb->M D}{fs:Zb->M (List D)}{ρ:Zb}{s:Pn}
theorem Ok.tup {Q:D->Pn->Prop}(h:Ok (fs ρ) s fun ds s1=>ds.length<=sizeLine/\Q (.tup ds) s1):Ok (ZV fs ρ) s Q:=.bind (h.mono fun _ _ q=>.ite q.1 (.ret q.2))
theorem Ok.call {g:List D->Option D}{Q:D->Pn->Prop}(h:Ok (fs ρ) s fun ds s1=>∃c,g ds=some c/\Q c s1):Ok (ZN g fs ρ) s Q:=.bind (h.mono fun _ _ q=>let ⟨c,e,q⟩:=q;.of e q)
theorem Ok.sunp {τ:D->Zb->Option Zb}{Q:Out->Pn->Prop}(h:Ok (f ρ) s fun d s1=>∃ρ',τ d ρ=some ρ'/\Q (.nx ρ') s1):Ok (Ba τ f ρ) s Q:=
 .bind (h.mono fun d s1 q=>by obtain⟨ρ',e,q⟩:=q;rw[e];exact .ret q)
theorem Ok.range1 {Q:List D->Pn->Prop}(h:Ok (f ρ) s fun d s1=>∃n:Nat,d=.int (n:Int)/\n<=100000/\Q (Z3 0 n) s1):Ok (Yb f ρ) s Q:=
 .bind (h.mono fun d s1 q=>by
  obtain⟨n,rfl,hn,q⟩:=q;exact .ite (TP.small_int n hn) (.ret (by simpa using q)))
end
theorem Zkt {f g:Zb->M D}{ρ:Zb}{s:Pn}{x y:D}(h1:f ρ s=some (x,s))(h2:g ρ s=some (y,s)):ZV (Zc f (Zc g Ze)) ρ s=some (.tup [x,y],s):=Wc (Zh h1 (Zh h2 rfl)) TP.two_le
end TF
namespace TF
open L2
noncomputable def YL (m t:Int)(wa:Addr):List (Zr×V):=[(.inr (qw "mixed"),.int m),(.inr (qw "turn"),.int t),(.inr (qw "wide"),.ref wa)]
theorem k_mt:¬((yb (qw "mixed"):Zr)=yb (qw "turn")):=by decide
theorem k_mw:¬((yb (qw "mixed"):Zr)=yb (qw "wide")):=by decide
theorem k_tw:¬((yb (qw "turn"):Zr)=yb (qw "wide")):=by decide
theorem Zm4 (m t:Int)(wa:Addr):ZQ (YL m t wa) (.inr (qw "mixed"))=some (.int m):=XJ rfl
theorem Zm5 (m t:Int)(wa:Addr):ZQ (YL m t wa) (.inr (qw "turn"))=some (.int t):=(XM k_mt).trans (XJ rfl)
theorem Zm6 (m t:Int)(wa:Addr):ZQ (YL m t wa) (.inr (qw "wide"))=some (.ref wa):=(XM k_mw).trans ((XM k_tw).trans (XJ rfl))
theorem Zku (m t t':Int)(wa:Addr):Z1 (YL m t wa) (.inr (qw "turn")) (.int t')=YL m t' wa:=by
 have h2:¬((yb (qw "wide"):Zr)=yb (qw "turn")):=fun z=>k_tw z.symm;unfold Z1 YL;rw[if_pos (by simp)];have h3:¬(qw "mixed" = qw "turn"):=by decide
 have h4:¬(qw "wide" = qw "turn"):=by decide
 simp[h3,h4]
noncomputable def Bi (p wa:Addr)(s:Pn)(H:Hp):Prop:=∃m t,s.1=[m,t]/\H p=some (.dK (YL m t wa))/\H wa=some (.lst (s.2.map V.int))/\p≠wa
noncomputable def Je (p wa:Addr):Gh where
 fp:=fun b=>b=p∨b=wa
 rd:=fun b=>b=p∨b=wa
 pen:=.ref p
 st:=Bi p wa
 mono:=fun s H H' ⟨m,t,e0,e1,e2,ne⟩ k _=>⟨m,t,e0,k p _ (.inl rfl) e1,k wa _ (.inr rfl) e2,ne⟩
 sub:=fun b h=>h
 dom:=fun s H b ⟨m,t,e0,e1,e2,ne⟩ hb=>by
  rcases hb with rfl | rfl
  ·exact⟨_,e1⟩
  ·exact⟨_,e2⟩
 ntp:=fun s H b vs ⟨m,t,e0,e1,e2,ne⟩ hb z=>by
  rcases hb with r | r
  ·rw[r,e1] at z;cases z
  ·rw[r,e2] at z;cases z
noncomputable def Vs:Gh->Prop:=fun G=>∃p wa,G=Je p wa
noncomputable def Zlh (k:Int):List Int->List Int
 | c::r=>if c<k then r else c::r
 | []=>[]
noncomputable def B6 (m t:Int):Int:=
 let one:=(m+7919*t*t) % 2147483629
 let two:=(one*one+40692*t+3) % 998244353
 (two*two+one) % 2147483587 / 16
noncomputable def Vk (k m t:Int)(w:List Int):D×Pn:=match Zlh k w with
 | c::r=>(.int (c % k),([m,t],(c / k)::r))
 | []=>(.int (B6 m (t+1) % k),([m,t+1],[]))
noncomputable def Yf:List D->M D:=fun ds s=>match ds,s with
 | [.pen,.int k],([m,t],w)=>if 0<k/\k<1073741824/\0<=t/\t<2 ^ 60 then some (Vk k m t w) else none
 | _,_=>none
theorem Zcd {ds:List D}{s s':Pn}{d:D}(h:Yf ds s=some (d,s')):∃k m t w,ds=[.pen,.int k]/\s=([m,t],w)/\0<k/\k<1073741824/\0<=t/\t<2 ^ 60/\Vk k m t w=(d,s'):=by
 unfold Yf at h;split at h
 ·split at h
  ·rename_i k m t w c
   exact⟨k,m,t,w,rfl,rfl,c.1,c.2.1,c.2.2.1,c.2.2.2,qY h⟩
  ·cases h
 ·cases h
noncomputable def XI (T:Nat)(s:Pn):Prop:=∃m t:Int,s.1=[m,t]/\0<=t/\t<=T
theorem XI.mono {T T':Nat}{s:Pn}(h:XI T s)(hT:T<=T'):XI T' s:=by
 obtain⟨m,t,e,h1,h2⟩:=h;exact⟨m,t,e,h1,by omega⟩
theorem Zkv {T:Nat}{s:Pn}{k:Int}(ok:XI T s)(hT:T<1000000000)(h1:0<k)(h2:k<1073741824):∃r s',Yf [.pen,.int k] s=some (.int r,s')/\0<=r/\r<k/\XI (T+1) s':=by
 obtain⟨l,w⟩:=s;obtain⟨m,t,e,t0,tT⟩:=ok;simp only at e;subst e;have hd:Yf [.pen,.int k] ([m,t],w)=some (Vk k m t w):=if_pos ⟨h1,h2,t0,by omega⟩;unfold Vk at hd;split at hd
 ·exact⟨_,_,hd,qaw _ (by omega),yW _ h1,m,t,rfl,t0,by omega⟩
 ·exact⟨_,_,hd,qaw _ (by omega),yW _ h1,m,t+1,rfl,by omega,by omega⟩
theorem Ok.drawD {fs:Zb->M (List D)}{ρ:Zb}{s:Pn}{m T:Nat}{Q:D->Pn->Prop}(ok:XI T s)(hT:T<1000000000)(h1:fs ρ s=some ([.pen,.int (m:Int)],s))(hm:0<m)(hm2:m<1073741824)(h:∀(r:Nat) s',r<m->XI (T+1) s'->Q (.int (r:Int)) s'):Ok (Zq Yf fs ρ) s Q:=by
 obtain⟨r,s1,e,r0,r1,ok1⟩:=Zkv ok hT (show 0<(m:Int) by omega) (show(m:Int)<1073741824 by omega);obtain⟨n,rfl⟩:=Int.eq_ofNat_of_zero_le r0;exact .fn h1 (.eq e (h n s1 (by omega) ok1))
theorem ZiK {X:Cx}{GG:Gh->Prop}{ob own own':List Nat}{fr:Bool}{sts:List Stmt}{g:Zb->M Out}(h:∀G,GG G->XV X G ob own own' fr sts g):Wj X sts (fun E σ H=>∃G,GG G/\Zle G ob own own' fr g E σ H):=by
 intro jJ s σ H D I ⟨G,hG,kn,jT,H0,ρ,pn,out,pn',j,st,e,po⟩;obtain⟨t,p,q⟩:=h G hG;exact p jJ s σ H D I (q kn jT H0 σ H ρ pn out pn' D j st e po)
noncomputable def WY (ns:List Int):List Int:=ns.filter fun c=>decide (10 ^ 15<=c)
noncomputable def Zli (K:qf):Sp:=fun vs H Q _=>∃(a:Addr) (ns:List Int),vs=[.ref a]/\Zu K H a (ns.map V.int)/\ns.length<=63/\
 ∀(p wa:Addr) (m:Int) (H':Hp),Bi p wa ([m,0],WY ns) H'->(∀b u,H b=some u->H' b=some u)->H p=none->H wa=none->Q (.ref p) H'
noncomputable def tW:TE:=B3 (Z7 0) (tC (.str (qw "wide")))
noncomputable def tTn:TE:=B3 (Z7 0) (tC (.str (qw "turn")))
noncomputable def tMx:TE:=B3 (Z7 0) (tC (.str (qw "mixed")))
noncomputable def Zlj (K:qf):TE:=tCB (fun xs H Q=>∃p ys,xs=[.ref p]/\(Zu K H p ys∨ZF K H p ys)/\Q (.int ys.length) H) (We tW Wf)
noncomputable def tW0 (K:qf):TE:=Yp (rIxL K) tW (tC (.int 0))
noncomputable def Zlk:TS:=Vl (Zlb (Z7 0) (tC (.str (qw "turn"))) (Yp (Xn fun i j=>.int (i+j)) tTn (tC (.int 1))))
 (Vl (VY (Yp (rI (fun _ j=>0<j) fun i j=>.int (i % j)) (Yp (Xn fun i j=>.int (i+j)) tMx (Yp (rI VD fun i j=>.int (i*j)) (Yp (rI VD fun i j=>.int (i*j)) (tC (.int 7919)) tTn) tTn)) (tC (.int 2147483629))) (Wd 3))
 (Vl (VY (Yp (rI (fun _ j=>0<j) fun i j=>.int (i % j)) (Yp (Xn fun i j=>.int (i+j)) (Yp (Xn fun i j=>.int (i+j)) (Yp (rI VD fun i j=>.int (i*j)) (Z7 3) (Z7 3)) (Yp (rI VD fun i j=>.int (i*j)) (tC (.int 40692)) tTn)) (tC (.int 3))) (tC (.int 998244353))) (Wd 4))
 (tRet (Yp (rI (fun _ j=>0<j) fun i j=>.int (i % j)) (Yp (rI CDiv fun i j=>.int (i / j)) (Yp (rI (fun _ j=>0<j) fun i j=>.int (i % j)) (Yp (Xn fun i j=>.int (i+j)) (Yp (rI VD fun i j=>.int (i*j)) (Z7 4) (Z7 4)) (Z7 3)) (tC (.int 2147483587))) (tC (.int 16))) (Z7 1)))))
noncomputable def ZiL (K : qf) : TS := Vl (tIfS (JV (Yp (Xn fun i j => .bl (decide (j < i))) (Zlj K) (tC (.int 0))))
    (Vl (VY (Yp (rI (fun _ j => 0 < j) fun i j => .int (i % j)) (tW0 K) (Z7 1)) (Wd 2)) (Vl (VY (Yp (rI CDiv fun i j => .int (i / j)) (tW0 K) (Z7 1)) (gSub tW (tC (.int 0)) Zk8)) (tRet (Z7 2)))) ZhW) Zlk
noncomputable def ZiM (K : qf) : TS := Vl (tIfS (tAnd (JV (Yp (Xn fun i j => .bl (decide (j < i))) (Zlj K) (tC (.int 0)))) (JV (Yp (Xn fun i j => .bl (decide (i < j))) (tW0 K) (Z7 1))))
    (VR (V4 K "list" Zib tW (We (tC (.int 0)) Wf))) ZhW) (ZiL K)
theorem UA {H:Hp}{p wa:Addr}{m t:Int}(h:H p=some (.dK (YL m t wa))):Y9 H p (.str (qw "wide")) (some (.ref wa)):=by have:=Y9.k (k:=.inr (qw "wide")) h;rwa[Zm6] at this
theorem dg_t {H:Hp}{p wa:Addr}{m t:Int}(h:H p=some (.dK (YL m t wa))):Y9 H p (.str (qw "turn")) (some (.int t)):=by have:=Y9.k (k:=.inr (qw "turn")) h;rwa[Zm5] at this
theorem dg_m {H:Hp}{p wa:Addr}{m t:Int}(h:H p=some (.dK (YL m t wa))):Y9 H p (.str (qw "mixed")) (some (.int m)):=by have:=Y9.k (k:=.inr (qw "mixed")) h;rwa[Zm4] at this
theorem dp_t {H:Hp}{p wa:Addr}{m t t':Int}(h:H p=some (.dK (YL m t wa))):X5 H p (.str (qw "turn")) (.int t') (Zk H p (.dK (YL m t' wa))):=by
 have:=X5.k (k:=.inr (qw "turn")) (v:=.int t') h (by show 3<sizeLine;decide)
 rwa[Zku] at this
theorem Zhc {p wa:Addr}{m x t:Int}{Q:VK}{N:St->Hp->Prop}{H:Hp}{o2:Option V}(m0:0<m)(m1:m<1073741824)(t0:0<=t)(t1:t<2 ^ 60)(hp:H p=some (.dK (YL x t wa)))
  (k:Q (.int (B6 x (t+1) % m)) (Zk H p (.dK (YL x (t+1) wa)))):Zlk { nx:=N,rt:=Q } [some (.ref p),some (.int m),o2,none,none] H:=by
 have hp2:Zk H p (.dK (YL x (t+1) wa)) p=some (.dK (YL x (t+1) wa)):=ZI;generalize hT:t+1=T at hp2 k;have b1:∀z:Int,0<=z % 2147483629/\z % 2147483629<2147483629:=fun z=>⟨qaw _ (by decide),yW _ (by decide)⟩;have b2:∀z:Int,0<=z % 998244353/\z % 998244353<998244353:=fun z=>⟨qaw _ (by decide),yW _ (by decide)⟩;refine⟨.ref p,rfl,p,.int t,rfl,dg_t hp,t,1,rfl,rfl,.ref p,rfl,p,Zk H p (.dK (YL x T wa)),rfl,by rw[<-hT];exact dp_t hp,?_⟩;refine⟨.ref p,rfl,p,.int x,rfl,dg_m hp2,.ref p,rfl,p,.int T,rfl,dg_t hp2,7919,T,rfl,rfl,.inl ⟨by decide,by decide⟩,.ref p,rfl,p,.int T,rfl,dg_t hp2,7919*T,T,rfl,rfl,.inr ⟨by omega,by omega⟩,x,7919*T*T,rfl,rfl,x+7919*T*T,2147483629,rfl,rfl,(by show(0:Int)<2147483629;decide),?_⟩;have h1:=b1 (x+7919*T*T);have h2:=b2 (((x+7919*T*T) % 2147483629)*((x+7919*T*T) % 2147483629)+40692*T+3);refine⟨.int ((x+7919*T*T) % 2147483629),rfl,.int ((x+7919*T*T) % 2147483629),rfl,((x+7919*T*T) % 2147483629),((x+7919*T*T) % 2147483629),rfl,rfl,.inl ⟨by omega,by omega⟩,.ref p,rfl,p,.int T,rfl,dg_t hp2,40692,T,rfl,rfl,.inl ⟨by decide,by decide⟩,((x+7919*T*T) % 2147483629)*((x+7919*T*T) % 2147483629),40692*T,rfl,rfl,((x+7919*T*T) % 2147483629)*((x+7919*T*T) % 2147483629)+40692*T,3,rfl,rfl,((x+7919*T*T) % 2147483629)*((x+7919*T*T) % 2147483629)+40692*T+3,998244353,rfl,rfl,(by show(0:Int)<998244353;decide),?_⟩;refine⟨.int ((((x+7919*T*T) % 2147483629)*((x+7919*T*T) % 2147483629)+40692*T+3) % 998244353),rfl,.int ((((x+7919*T*T) % 2147483629)*((x+7919*T*T) % 2147483629)+40692*T+3) % 998244353),rfl,((((x+7919*T*T) % 2147483629)*((x+7919*T*T) % 2147483629)+40692*T+3) % 998244353),((((x+7919*T*T) % 2147483629)*((x+7919*T*T) % 2147483629)+40692*T+3) % 998244353),rfl,rfl,.inl ⟨by omega,by omega⟩,.int ((x+7919*T*T) % 2147483629),rfl,((((x+7919*T*T) % 2147483629)*((x+7919*T*T) % 2147483629)+40692*T+3) % 998244353)*((((x+7919*T*T) % 2147483629)*((x+7919*T*T) % 2147483629)+40692*T+3) % 998244353),((x+7919*T*T) % 2147483629),rfl,rfl,((((x+7919*T*T) % 2147483629)*((x+7919*T*T) % 2147483629)+40692*T+3) % 998244353)*((((x+7919*T*T) % 2147483629)*((x+7919*T*T) % 2147483629)+40692*T+3) % 998244353)+((x+7919*T*T) % 2147483629),2147483587,rfl,rfl,(by show(0:Int)<2147483587;decide),(((((x+7919*T*T) % 2147483629)*((x+7919*T*T) % 2147483629)+40692*T+3) % 998244353)*((((x+7919*T*T) % 2147483629)*((x+7919*T*T) % 2147483629)+40692*T+3) % 998244353)+((x+7919*T*T) % 2147483629)) % 2147483587,16,rfl,rfl,(by show(0:Int)<16/\(16:Int)<1073741824;decide),.int m,rfl,(((((x+7919*T*T) % 2147483629)*((x+7919*T*T) % 2147483629)+40692*T+3) % 998244353)*((((x+7919*T*T) % 2147483629)*((x+7919*T*T) % 2147483629)+40692*T+3) % 998244353)+((x+7919*T*T) % 2147483629)) % 2147483587 / 16,m,rfl,rfl,m0,?_⟩;exact k
theorem Bt (w:List Int):((w.map V.int).length:Int)=(w.length:Int):=by simp
theorem ix0 (c:Int)(r:List Int):XX ((c::r).map V.int).length 0=some 0:=by
 unfold XX;rw[if_pos (by decide),if_pos (by rw[Bt];simp)];rfl
theorem Zhd {K:qf}{p wa:Addr}{m x t:Int}{w1:List Int}{Q:VK}{N:St->Hp->Prop}{H:Hp}(m0:0<m)(m1:m<1073741824)(t0:0<=t)(t1:t<2 ^ 60)(hp:H p=some (.dK (YL x t wa)))(hw:H wa=some (.lst (w1.map V.int)))(ne:p≠wa)
  (k1:∀c r,w1=c::r->Q (.int (c % m)) (Zk H wa (.lst (((c / m)::r).map V.int)))) (k2:w1=[]->Q (.int (B6 x (t+1) % m)) (Zk H p (.dK (YL x (t+1) wa)))) :
  ZiL K { nx:=N,rt:=Q } [some (.ref p),some (.int m),none,none,none] H:=by
 refine⟨.ref p,rfl,p,.ref wa,rfl,UA hp,wa,w1.map V.int,rfl,.inl (Zu.of hw),_,0,rfl,rfl,_,rfl,?_⟩
 cases w1 with
 | nil=>
  refine Vn ?_;exact Zhc m0 m1 t0 t1 hp (k2 rfl)
 | cons c r=>
  have e:decide ((0:Int)<(((c::r).map V.int).length:Int))=true:=by rw[decide_eq_true_eq,Bt];simp
  rw[e];refine VE ?_;have hi:Xo ((c::r).map V.int) 0=some (.int c):=Wl (j:=0) rfl;refine⟨.ref p,rfl,p,.ref wa,rfl,UA hp,wa,_,0,.int c,rfl,rfl,Zu.of hw,hi,.int m,rfl,c,m,rfl,rfl,m0,?_⟩;refine⟨.ref p,rfl,p,.ref wa,rfl,UA hp,wa,_,0,.int c,rfl,rfl,Zu.of hw,hi,.int m,rfl,c,m,rfl,rfl,⟨m0,m1⟩,.ref p,rfl,p,.ref wa,rfl,UA hp,wa,(c::r).map V.int,0,0,rfl,rfl,hw,ix0 c r,?_⟩;exact⟨_,rfl,k1 c r rfl⟩
theorem ZiN {K:qf}{p wa:Addr}{m x t:Int}{ww:List Int}{d:D}{pn':Pn}{Q:VK}{N:St->Hp->Prop}{H:Hp}(m0:0<m)(m1:m<1073741824)(t0:0<=t)(t1:t<2 ^ 60)(eS:Vk m x t ww=(d,pn'))(hp:H p=some (.dK (YL x t wa)))(hw:H wa=some (.lst (ww.map V.int)))(ne:p≠wa)
  (k:∀(i:Int) (H':Hp),d=.int i->(∀b,b≠p->b≠wa->H' b=H b)->Bi p wa pn' H'->Q (.int i) H') :
  ZiM K { nx:=N,rt:=Q } [some (.ref p),some (.int m),none,none,none] H:=by
 have fin:∀(H1:Hp) (w1:List Int),w1=Zlh m ww->H1 p=some (.dK (YL x t wa))->H1 wa=some (.lst (w1.map V.int))->(∀b,b≠p->b≠wa->H1 b=H b)->ZiL K { nx:=N,rt:=Q } [some (.ref p),some (.int m),none,none,none] H1:=by
  intro H1 w1 e1 hp1 hw1 ag;refine Zhd m0 m1 t0 t1 hp1 hw1 ne (fun c r ec=>?_) fun ec=>?_
  ·have:Vk m x t ww=(.int (c % m),([x,t],(c / m)::r)):=by unfold Vk;rw[<-e1,ec]
   rw[this] at eS
   cases eS
   refine k _ _ rfl (fun b h1 h2=>by rw[Zo h2];exact ag b h1 h2) ⟨x,t,rfl,by rw[Zo ne];exact hp1,ZI,ne⟩
  ·have:Vk m x t ww=(.int (B6 x (t+1) % m),([x,t+1],[])):=by unfold Vk;rw[<-e1,ec]
   rw[this] at eS
   cases eS
   subst ec;refine k _ _ rfl (fun b h1 h2=>by rw[Zo h1];exact ag b h1 h2) ⟨x,t+1,rfl,ZI,by rw[Zo (zl ne)];exact hw1,ne⟩
 refine⟨.ref p,rfl,p,.ref wa,rfl,UA hp,wa,ww.map V.int,rfl,.inl (Zu.of hw),_,0,rfl,rfl,_,rfl,?_⟩
 cases ww with
 | nil=>
  refine Vn ?_;refine Vn ?_;exact fin H [] rfl hp hw fun _ _ _=>rfl
 | cons c r=>
  have e:decide ((0:Int)<(((c::r).map V.int).length:Int))=true:=by rw[decide_eq_true_eq,Bt];simp
  rw[e];refine VE ?_;have hi:Xo ((c::r).map V.int) 0=some (.int c):=Wl (j:=0) rfl;refine⟨.ref p,rfl,p,.ref wa,rfl,UA hp,wa,_,0,.int c,rfl,rfl,Zu.of hw,hi,.int m,rfl,c,m,rfl,rfl,_,rfl,?_⟩;by_cases hc:c<m
  ·rw[decide_eq_true hc]
   refine VE ?_;refine⟨.ref p,rfl,p,.ref wa,rfl,UA hp,.inl ⟨rfl,_,Zu.of hw⟩,wa,(c::r).map V.int,0,0,.int c,rfl,rfl,hw,by decide,by decide,seqIndex_of (by decide) (by rw[Bt];simp),rfl,?_⟩;refine fin _ r (by show r=if c<m then r else c::r;rw[if_pos hc]) (by rw[Zo ne];exact hp) (by rw[ZI];rfl) fun b h1 h2=>by rw[Zo h2]
  ·rw[decide_eq_false hc]
   refine Vn ?_;exact fin H (c::r) (by show c::r=if c<m then r else c::r;rw[if_neg hc]) hp hw fun _ _ _=>rfl
theorem Zmh {p wa:Addr}{Hf H H':Hp}(e1:Zw (Je p wa) Hf H)(ag:∀b,b≠p->b≠wa->H' b=H b):Gr (Je p wa) Hf H Hf H':=
 have no:∀b,¬(Je p wa).fp b->b≠p/\b≠wa:=fun b n=>⟨fun z=>n (.inl z),fun z=>n (.inr z)⟩
 ⟨fun b u n q=>by rw[ag b (no b n).1 (no b n).2];exact q,.refl _ _,fun b u n q=>by rw[ag b (no b n).1 (no b n).2];exact e1 b u n q,fun b n h1 h2=>h1⟩
theorem Zhe {K:qf}{vs:List V}{H:Hp}{Q:VK}{E:XK}{N:St->Hp->Prop}(h:Yn 2 true Vs Yf vs H Q E):∃p m,vs=[.ref p,.int m]/\ZiM K { nx:=N,rt:=Q } [some (.ref p),some (.int m),none,none,none] H:=by
 obtain⟨G,Hf,ds,pn,d,pn',hG,el,e1,r,st',eF,k'⟩:=h;obtain⟨p,wa,rfl⟩:=hG;obtain⟨m,x,t,ww,rfl,rfl,m0,m1,t0,t1,eS⟩:=Zcd eF;obtain⟨v1,v2,rfl,r1,r2⟩:=jr r
 cases (jp.mp r1)
 cases (ja.mp r2)
 obtain⟨x',t',ea,hp,hw,ne⟩:=st';simp only[List.cons.injEq,and_true] at ea;obtain⟨rfl,rfl⟩:=ea;refine⟨p,m,rfl,ZiN m0 m1 t0 t1 eS hp hw ne fun i H' ed ag st=>?_⟩;exact k' _ Hf H' (Zmh e1 ag) st (by rw[ed];exact ja.mpr rfl) fun _=>.scal fun z=>by rw[ed] at z;exact z
theorem ZiO {X:Cx}{XN:List Str}{NS:List (Str×NameKind)}{elt tg iter:Expr}{ifs:List Expr}{scope:Scope}{pos:Pos}{N':List Str}{src:List (Option Nat)}{wi:TI}{g:TG}{tt:TT}{te:TE}(hc:X.calm=true)(B:BlkS X XN NS N' src scope)(hi:PI X tg iter wi)
  (hg:∀cl jJ C s H fp,PG (L2.blk X jJ N' scope cl C s H fp) tg g) (ht:∀cl jJ C s H fp,W3 (L2.blk X jJ N' scope cl C s H fp) ifs tt) (he:∀cl jJ C s H fp,PE (L2.blk X jJ N' scope cl C s H fp) elt te)
  (hs:∀x,foldedSetIterable iter X.env x=pure x:=by intro _;rfl):PE X (.ListComp elt [⟨tg,iter,ifs,0⟩] scope pos) (JY src wi g tt te):=by
 intro jJ s σ H Q I h;obtain⟨cl,B'⟩:=B.ok I.ok;exact Zgb hc B' hi (hg cl) (ht cl) (he cl) hs jJ s σ H Q I h
noncomputable def ZiP (K:qf):TE:=JY [none] (Zh1 K (Z7 0)) (Wd 0) (JV (Yp (Xn fun i j=>.bl (decide (j<=i))) (Z7 0) (Yp (rI CPow fun i j=>.int (i ^ j.toNat)) (tC (.int 10)) (tC (.int 15))))) (Z7 0)
noncomputable def Zm7 (K:qf):TS:=Vl (VY (tC (.int 7)) (Wd 1))
 (Vl (tFor (Zh1 K (Z7 0)) (Wd 2) (VY (Yp (rI (fun _ j=>0<j) fun i j=>.int (i % j)) (Yp (Xn fun i j=>.int (i+j)) (Yp (Xn fun i j=>.int (i+j)) (Yp (rI VD fun i j=>.int (i*j)) (Z7 1) (tC (.int 48271))) (Yp (rI (fun _ j=>0<j) fun i j=>.int (i % j)) (Z7 2) (tC (.int 1000000007)))) (tC (.int 11))) (tC (.int 2147483629))) (Wd 1)))
 (tRet (Zlc [(tC (.str (qw "mixed")),Z7 1),(tC (.str (qw "turn")),tC (.int 0)),(tC (.str (qw "wide")),ZiP K)])))
theorem ZiQ {K:qf}{H:Hp}{a p:Addr}{xs:List V}{o:HO}(sq:Zu K H a xs)(hp:H p=none):Zu K (Zk H p o) a xs:=by
 have hne:∀u,H a=some u->a≠p:=fun u e z=>by rw[z,hp] at e;cases e
 rcases sq with(q | ⟨o',q⟩) | q
 ·exact .inl (.inl (by rw[Zo (hne _ q)];exact q))
 ·exact .inl (.inr ⟨o',by rw[Zo (hne _ q)];exact q⟩)
 ·exact .inr q
theorem ZiR {H:Hp}{p:Addr}{o o':HO}:Zk (Zk H p o) p o'=Zk H p o':=by
 funext b;by_cases h:b=p
 ·subst h;rw[ZI,ZI]
 ·rw[Zo h,Zo h,Zo h]
theorem Zhf (m t:Int)(wa:Addr):VP [] (YL m t wa)=YL m t wa:=by
 have h3:¬(qw "mixed" = qw "turn"):=by decide
 have h4:¬(qw "mixed" = qw "wide"):=by decide
 have h5:¬(qw "turn" = qw "wide"):=by decide
 simp[VP,YL,Z1,h3,h4,h5]
theorem Zhg (ns:List Int)(i:Nat)(c:Int)(h:ns[i]?=some c):WY (ns.take (i+1))=WY (ns.take i)++(if decide (10 ^ 15<=c)=true then [c] else []):=by
 unfold WY;rw[List.take_succ,h,List.filter_append];congr 1;by_cases hc:(10:Int) ^ 15<=c
 ·rw[if_pos (decide_eq_true hc)]
  exact qa7 (decide_eq_true hc)
 ·rw[if_neg (by simpa using hc)]
  exact qad (by simpa using hc)
theorem ZiS {K:qf}{a:Addr}{ns:List Int}{H:Hp}{Q:VK}{o1 o2:Option V}(sq:Zu K H a (ns.map V.int))(hl:ns.length<=63)(k:∀p,H p=none->Q (.ref p) (Zk H p (.lst ((WY ns).map V.int)))):ZiP K [some (.ref a),o1,o2] H Q:=by
 refine⟨.ref a,rfl,a,rfl,⟨_,sq⟩,fun p hp=>?_⟩;refine⟨fun i n σ2 H2=>i<=ns.length/\n=ns.length-i/\(∃o,σ2=[o])/\H2=Zk H p (.lst ((WY (ns.take i)).map V.int)),⟨ns.length,zj _,by omega,⟨none,rfl⟩,rfl⟩,fun i n σ2 H2 ⟨hi,hn,⟨o,hσ⟩,hH⟩=>?_⟩;subst hσ hH;have sq2:Zu K (Zk H p (.lst ((WY (ns.take i)).map V.int))) a (ns.map V.int):=ZiQ sq hp;by_cases he:i=ns.length
 ·refine .inl ⟨⟨_,sq2,by rw[qj];omega⟩,?_⟩
  subst he;rw[qaq];exact k p hp
 ·have hlt:i<ns.length:=by omega
  have gi:(ns.map V.int)[i]?=some (.int ns[i]):=by rw[qA,qE hlt];rfl
  refine .inr ⟨⟨_,_,sq2,gi⟩,fun x H3 ⟨y1,y2⟩=>?_⟩;subst y1;have ex:=y2 _ sq2;rw[gi] at ex
  cases ex
  refine⟨.int ns[i],rfl,10,15,rfl,rfl,⟨by decide,by decide,by decide⟩,ns[i],10 ^ (15:Int).toNat,rfl,rfl,_,rfl,?_⟩;have ew:=Zhg ns i ns[i] (qE hlt);by_cases hc:(10:Int) ^ 15<=ns[i]
  ·have hd:decide ((10:Int) ^ (15:Int).toNat<=ns[i])=true:=decide_eq_true hc
   rw[hd];refine VE ?_;refine⟨.int ns[i],rfl,(WY (ns.take i)).map V.int,ZI,?_,n-1,by omega,by omega,by omega,⟨_,rfl⟩,?_⟩
   ·have:(WY (ns.take i)).length<=(ns.take i).length:=zq ..
    rw[qj,sizeLine_eq];have:=List.length_take_le i ns;omega
   ·rw[ZiR,ew,if_pos (decide_eq_true hc),zY]
    rfl
  ·have hd:decide ((10:Int) ^ (15:Int).toNat<=ns[i])=false:=decide_eq_false hc
   rw[hd];refine Vn ?_;refine⟨n-1,by omega,by omega,by omega,⟨_,rfl⟩,?_⟩;rw[ew,if_neg (by simpa using hc),zm]
theorem Zkw {K:qf}{a:Addr}{ns:List Int}{H:Hp}{Q:VK}{N:St->Hp->Prop}(sq:Zu K H a (ns.map V.int))(hl:ns.length<=63)(k:∀(p wa:Addr) (m:Int) (H':Hp),Bi p wa ([m,0],WY ns) H'->(∀b u,H b=some u->H' b=some u)->H p=none->H wa=none->Q (.ref p) H') :
  Zm7 K { nx:=N,rt:=Q } [some (.ref a),none,none] H:=by
 refine⟨.ref a,rfl,a,rfl,⟨_,sq⟩,?_⟩;refine⟨fun i n σ2 H2=>i<=ns.length/\n=ns.length-i/\(∃x o2,σ2=[some (.ref a),some (.int x),o2])/\H2=H,⟨ns.length,zj _,by omega,⟨7,none,rfl⟩,rfl⟩,fun i n σ2 H2 ⟨hi,hn,⟨x,o2,hσ⟩,hH⟩=>?_⟩;subst hσ hH;by_cases he:i=ns.length
 ·refine .inl ⟨⟨_,sq,by rw[qj];omega⟩,?_⟩
  intro p hp;refine⟨.int x,rfl,?_⟩;have hp2:(Zk H2 p (.dK [])) p=some (.dK []):=ZI;show ZiP K [some (.ref a),some (.int x),o2] (Zk H2 p (.dK [])) (fun y H3=>H3 p=some (.dK [])/\∃kvs:List (Zr×V),[(V.str (qw "mixed"),V.int x),(V.str (qw "turn"),V.int 0),(V.str (qw "wide"),y)]=kvs.map (fun kv=>(kV kv.1,kv.2))/\kvs.length<=15/\Q (.ref p) (Zk H3 p (.dK (VP [] kvs))));refine ZiS (ZiQ sq hp) hl fun wa hwa=>?_;have ne:p≠wa:=fun z=>by rw[<-z,ZI] at hwa;cases hwa
  refine⟨by rw[Zo ne];exact hp2,YL x 0 wa,rfl,by show 3<=15;decide,?_⟩;rw[Zhf];have hwa0:H2 wa=none:=by rw[Zo (zl ne)] at hwa;exact hwa
  exact k p wa x _ ⟨x,0,rfl,ZI,by rw[Zo (zl ne)];exact ZI,ne⟩ (fun b u e=>by rw[Zo (ZP e hp),Zo (ZP e hwa0),Zo (ZP e hp)];exact e) hp hwa0
 ·have hlt:i<ns.length:=by omega
  have gi:(ns.map V.int)[i]?=some (.int ns[i]):=by rw[qA,qE hlt];rfl
  refine .inr ⟨⟨_,_,sq,gi⟩,fun σ' H'=>(∃x o2,σ'=[some (.ref a),some (.int x),o2])/\H'=H2,fun σ' H' h=>⟨n-1,by omega,by omega,by omega,h.1,h.2⟩,fun x' H' ⟨y1,y2⟩=>?_⟩;subst y1;have ex:=y2 _ sq;rw[gi] at ex
  cases ex
  refine⟨.int x,rfl,x,48271,rfl,rfl,.inr ⟨by decide,by decide⟩,.int ns[i],rfl,ns[i],1000000007,rfl,rfl,(by show(0:Int)<1000000007;decide),x*48271,ns[i] % 1000000007,rfl,rfl,x*48271+ns[i] % 1000000007,11,rfl,rfl,x*48271+ns[i] % 1000000007+11,2147483629,rfl,rfl,(by show(0:Int)<2147483629;decide),⟨_,_,rfl⟩,rfl⟩
noncomputable def Xq (L:List (Addr×Str))(b:Addr):Prop:=∃q,(b,q)∈L
noncomputable def Zll (G0:Gh)(L:List (Addr×Str))(P:Addr)(q:Str)(H:Hp):Prop:=∃ps,H P=some (.tbl ps)/\TriplesOk ps.toList/\∀pos cv,codeAmong pos ps.toList=some cv->∃c',cv=.ref c'/\H c'=some (.ext (codeφ c' q))/\¬G0.fp c'/\¬Xq L c'
noncomputable def Uv (G0:Gh)(L:List (Addr×Str)):Gh where
 fp:=fun b=>G0.fp b∨Xq L b
 rd:=fun b=>G0.rd b∨Xq L b
 pen:=G0.pen
 st:=fun s H=>G0.st s H/\∀P q,(P,q)∈L->Zll G0 L P q H
 mono:=fun s H H' ⟨h1,h2⟩ k1 k2=>⟨G0.mono s H H' h1 (fun b o r=>k1 b o (.inl r)) k2,fun P q m=>by
  obtain⟨ps,e,t,h⟩:=h2 P q m;refine⟨ps,k1 P _ (.inr ⟨q,m⟩) e,t,fun pos cv hc=>?_⟩;obtain⟨c',z1,z2,z3⟩:=h pos cv hc;exact⟨c',z1,k2 _ _ z2,z3⟩⟩
 sub:=fun b h=>h.elim (fun z=>.inl (G0.sub b z)) .inr
 dom:=fun s H b ⟨h1,h2⟩ hb=>by
  rcases hb with z | ⟨q,m⟩
  ·exact G0.dom s H b h1 z
  ·obtain⟨ps,e,_⟩:=h2 b q m
   exact⟨_,e⟩
 ntp:=fun s H b vs ⟨h1,h2⟩ hb=>by
  rcases hb with z | ⟨q,m⟩
  ·exact G0.ntp s H b vs h1 z
  ·obtain⟨ps,e,_⟩:=h2 b q m
   rw[e];intro z;cases z
theorem ZcO {pos pos':Pos}{c:Value}(l:List Value)(h:TriplesOk l){cv:Value}(hc:codeAmong pos' (l ++ [rawInt pos.line,rawInt pos.col,c])=some cv):codeAmong pos' l=some cv∨cv=c:=by
 fun_induction TriplesOk l with
 | case1=>
  simp only[qba,rawInt,codeAmong] at hc;split at hc
  ·exact .inr (qY hc).symm
  ·cases hc
 | case2 a b d e f rest ih=>
  simp only[qaZ,codeAmong] at hc⊢;split at hc
  ·rename_i h1;rw[if_pos h1];exact .inl hc
  ·rename_i h1;rw[if_neg h1];exact ih h hc
 | case3=>cases h
theorem ZeC {pos:Pos}{c:Value}(l:List Value)(h:TriplesOk l):TriplesOk (l ++ [rawInt pos.line,rawInt pos.col,c]):=by
 fun_induction TriplesOk l with
 | case1=>simp[TriplesOk,rawInt]
 | case2 a b d e f rest ih=>simp only[qaZ,TriplesOk];exact ih h
 | case3=>cases h
noncomputable def Wt (L:List (Addr×Str)):Prop:=∀P q q',(P,q)∈L->(P,q')∈L->q=q'
noncomputable def W7 (GG0:Gh->Prop)(L:List (Addr×Str))(G:Gh):Prop:=∃G0,GG0 G0/\(∀b,Xq L b->¬G0.rd b)/\G=Uv G0 L
theorem Zkx {G0:Gh}{L:List (Addr×Str)}{P:Addr}{q:Str}(lo:Wt L)(hrd:∀b,Xq L b->¬G0.rd b)(m:(P,q)∈L):TabG P q (Uv G0 L):=by
 refine⟨fun s H st=>?_,.inr ⟨q,m⟩,fun s H ps pos c' st hP hc hn=>?_⟩
 ·obtain⟨ps,e,t,h⟩:=st.2 P q m
  refine⟨ps,e,t,fun pos cv hc=>?_⟩;obtain⟨c',z1,z2,z3,z4⟩:=h pos cv hc;exact⟨c',z1,z2,fun z=>z.elim z3 z4⟩
 ·have hcP:c'≠P:=fun z=>by rw[z,hP] at hc;cases hc
  have notL:¬Xq L c':=fun⟨q',m'⟩=>by
   obtain⟨_,e,_⟩:=st.2 c' q' m';rw[hc] at e;cases e
  have k2:∀b φ,H b=some (.ext φ)->Zk (Zk H P (.tbl (ps ++ #[rawInt pos.line,rawInt pos.col,.ref c']))) c' (.ext (codeφ c' q)) b=some (.ext φ):=fun b φ e=>by
   rw[Zo (ZP e hc),Zo (fun z=>by rw[z,hP] at e;cases e)];exact e
  refine⟨G0.mono s H _ st.1 (fun b o r e=>?_) k2,fun P' q' m'=>?_⟩
  ·rw[Zo (ZP e hc),Zo (fun z=>hrd P ⟨q,m⟩ (by rw[<-z];exact r))];exact e
  ·by_cases hb:P'=P
   ·subst hb
    have:=lo P' q q' m m';subst this;obtain⟨ps',e,t,h⟩:=st.2 P' q m;rw[hP] at e;cases e;refine⟨_,by rw[Zo (zl hcP),ZI],?_,fun pos' cv hcv=>?_⟩
    ·rw[qbD];exact ZeC _ t
    ·rw[qbD] at hcv
     rcases ZcO (pos:=pos) _ t hcv with z | z
     ·obtain⟨c2,z1,z2,z3⟩:=h pos' cv z
      exact⟨c2,z1,k2 _ _ z2,z3⟩
     ·exact⟨c',z,ZI,Gh.nofp st.1 hc,notL⟩
   ·obtain⟨ps',e,t,h⟩:=st.2 P' q' m'
    refine⟨ps',by rw[Zo (ZP e hc),Zo hb];exact e,t,fun pos' cv hcv=>?_⟩;obtain⟨c2,z1,z2,z3⟩:=h pos' cv hcv;exact⟨c2,z1,k2 _ _ z2,z3⟩
noncomputable def YB (L:List (Addr×Str))(G:Gh):Prop:=∀P q,(P,q)∈L->TabG P q G
theorem jA {GG0:Gh->Prop}{L:List (Addr×Str)}{G:Gh}(lo:Wt L)(h:W7 GG0 L G):YB L G:=by
 obtain⟨G0,_,hrd,rfl⟩:=h;exact fun P q m=>Zkx lo hrd m
mutual
theorem Zj.tr {G G':Gh}{H H':Hp}(h:∀a o,¬G.fp a->H a=some o->(∀ps,o≠.tbl ps)->¬G'.fp a/\H' a=some o)(hp:G'.pen=G.pen):∀{d:D} {v:V},Yt d=true->Zj G H d v->Zj G' H' d v
 | .non,_,_,r=>jg.mpr (jg.mp r)
 | .bl _,_,_,r=>je.mpr (je.mp r)
 | .int _,_,_,r=>ja.mpr (ja.mp r)
 | .str _,_,_,r=>ji.mpr (ji.mp r)
 | .tup ds,v,n,r=>by
  obtain⟨a,vs,e1,nf,e2,r⟩:=jb.mp r;obtain⟨z1,z2⟩:=h a _ nf e2 (fun _ z=>by cases z);exact jb.mpr ⟨a,vs,e1,z1,z2,Zg.tr h hp (by simpa[Yt] using n) r⟩
 | .lst ds,v,n,r=>by
  obtain⟨a,vs,e1,nf,e2,r⟩:=jc.mp r;obtain⟨z1,z2⟩:=h a _ nf e2 (fun _ z=>by cases z);exact jc.mpr ⟨a,vs,e1,z1,z2,Zg.tr h hp (by simpa[Yt] using n) r⟩
 | .dk _,_,_,r=>by
  obtain⟨a,e1,nf,e2⟩:=jk.mp r;obtain⟨z1,z2⟩:=h a _ nf e2 (fun _ z=>by cases z);exact jk.mpr ⟨a,e1,z1,z2⟩
 | .dt _,_,_,r=>by
  obtain⟨a,o,e1,nf,e2⟩:=jl.mp r;obtain⟨z1,z2⟩:=h a _ nf e2 (fun _ z=>by cases z);exact jl.mpr ⟨a,o,e1,z1,z2⟩
 | .du _,_,_,r=>by
  obtain⟨a,e1,nf,e2⟩:=jm.mp r;obtain⟨z1,z2⟩:=h a _ nf e2 (fun _ z=>by cases z);exact jm.mpr ⟨a,e1,z1,z2⟩
 | .df _,_,_,r=>by
  obtain⟨a,o,e1,nf,e2⟩:=js.mp r;obtain⟨z1,z2⟩:=h a _ nf e2 (fun _ z=>by cases z);exact js.mpr ⟨a,o,e1,z1,z2⟩
 | .pen,_,_,r=>jp.mpr ((jp.mp r).trans hp.symm)
 | .ty _,_,_,r=>jt.mpr (jt.mp r)
 | .clo _ _,_,n,_=>by simp[Yt] at n
theorem Zg.tr {G G':Gh}{H H':Hp}(h:∀a o,¬G.fp a->H a=some o->(∀ps,o≠.tbl ps)->¬G'.fp a/\H' a=some o)(hp:G'.pen=G.pen):∀{ds:List D} {vs:List V},YQ ds=true->Zg G H ds vs->Zg G' H' ds vs
 | [],_,_,r=>Zg.nil_iff.mpr (Zg.nil_iff.mp r)
 | d::ds,vs,n,r=>by
  obtain⟨v,rr,e,h1,h2⟩:=jd.mp r;have n':Yt d=true/\YQ ds=true:=by simpa[YQ] using n
  exact jd.mpr ⟨v,rr,e,Zj.tr h hp n'.1 h1,Zg.tr h hp n'.2 h2⟩
end
open Classical in
noncomputable def VG (L:List (Addr×Str))(H H2:Hp):Hp:=fun b=>if Xq L b then H2 b else H b
theorem Zky {L:List (Addr×Str)}{H H2:Hp}{b:Addr}(h:Xq L b):VG L H H2 b=H2 b:=by unfold VG;rw[if_pos h]
theorem Ww {L:List (Addr×Str)}{H H2:Hp}{b:Addr}(h:¬Xq L b):VG L H H2 b=H b:=by unfold VG;rw[if_neg h]
theorem Zkz {P:Program}{w:World}{K:qf}{mg:Str->Option Value}{base:Heap}{k:Nat}{f:Addr}{fd:FuncData}{ps:List Str}{n:Nat}{fr:Bool}{GG0:Gh->Prop}{L:List (Addr×Str)}{F:List D->M D}(FN:FnOk P w K mg base ZO k f fd ps (Yn n fr GG0 F))
  (hF:∀ds s d s',F ds s=some (d,s')->YQ ds=true/\Yt d=true):FnOk P w K mg base ZO k f fd ps (Yn n fr (W7 GG0 L) F):=by
 refine FN.imp fun vs H Q E h=>?_;obtain⟨G,Hf,ds,s,d,s',⟨G0,hG0,hrd,rfl⟩,hl,e1,r,st,eF,k⟩:=h;obtain⟨n1,n2⟩:=hF _ _ _ _ eF;have nfp:∀b,Xq L b->¬G0.fp b:=fun b m z=>hrd b m (G0.sub b z);have e1':Zw G0 (VG L Hf fun _=>none) H:=fun b o nb q=>by
  by_cases m:Xq L b
  ·rw[Zky m] at q;cases q
  ·rw[Ww m] at q;exact e1 b o (fun z=>z.elim nb m) q
 refine⟨G0,VG L Hf fun _=>none,ds,s,d,s',hG0,hl,e1',Zg.tr (G:=Uv G0 L) (G':=G0) (fun a o na q _=>?_) rfl n1 r,st.1,eF,fun v Hf' H' g st' r' fz=>?_⟩
 ·have m:¬Xq L a:=fun z=>na (.inr z)
  exact⟨fun z=>na (.inl z),by rw[Ww m];exact q⟩
 ·have tab:∀b,Xq L b->∃ps,H' b=some (.tbl ps):=fun b ⟨q,m⟩=>by
   obtain⟨ps,e,_⟩:=st.2 b q m;exact⟨ps,g.hh b _ (nfp b ⟨q,m⟩) e⟩
  have out:∀a o,¬G0.fp a->Hf' a=some o->(∀ps,o≠.tbl ps)->¬Xq L a:=fun a o na q no m=>by
   obtain⟨ps,e⟩:=tab a m;rw[g.fh a o na q] at e;exact no ps (qY e)
  have tr:∀a o,¬G0.fp a->Hf' a=some o->(∀ps,o≠.tbl ps)->¬(Uv G0 L).fp a/\VG L Hf' Hf a=some o:=fun a o na q no=>by
   have m:=out a o na q no;exact⟨fun z=>z.elim na m,by rw[Ww m];exact q⟩
  refine k v (VG L Hf' Hf) H' ⟨fun b o nb q=>g.hh b o (fun z=>nb (.inl z)) q,fun b o nb q=>?_,fun b o nb q=>?_,fun b nb q1 q2=>?_⟩ ⟨st',fun P q m=>?_⟩ (Zj.tr (G:=G0) (G':=Uv G0 L) tr rfl n2 r') fun z a ea mu=>?_
  ·have m:¬Xq L b:=fun z=>nb (.inr z)
   rw[Ww m];exact g.ff b o (fun z=>nb (.inl z)) (by rw[Ww m];exact q)
  ·have m:¬Xq L b:=fun z=>nb (.inr z)
   rw[Ww m] at q;exact g.fh b o (fun z=>nb (.inl z)) q
  ·have m:¬Xq L b:=fun z=>nb (.inr z)
   rw[Ww m];exact g.nw b (fun z=>nb (.inl z)) (by rw[Ww m];exact q1) q2
  ·obtain⟨ps,e,t,h⟩:=st.2 P q m
   refine⟨ps,g.hh P _ (nfp P ⟨q,m⟩) e,t,fun pos cv hc=>?_⟩;obtain⟨c',z1,z2,z3,z4⟩:=h pos cv hc;exact⟨c',z1,g.hh c' _ z3 z2,z3,z4⟩
  ·obtain⟨h1,h2⟩:=fz z a ea mu
   refine⟨h1,fun xs ed=>?_⟩;obtain⟨us,Hm,q1,q2,q3,q4⟩:=h2 xs ed;have na:¬Xq L a:=fun m=>by
    obtain⟨q,m⟩:=m;obtain⟨ps,e,_⟩:=st.2 a q m;rw[h1] at e;cases e
   refine⟨us,VG L Hm fun _=>none,by rw[Ww na];exact q1,by rw[Ww na];exact q2,fun b o nb q=>?_,?_⟩
   ·have m:¬Xq L b:=fun z=>nb (.inr z)
    rw[Ww m] at q⊢;exact q3 b o (fun z=>nb (.inl z)) q
   ·subst ed
    refine Zg.tr (G:=G0) (G':=Uv G0 L) (fun b o nb q no=>?_) rfl (by simpa[Yt] using n2) q4;have m:=out b o nb (q3 b o nb q) no;exact⟨fun z=>z.elim nb m,by rw[Ww m];exact q⟩
theorem ZiT {P:Program}{w:World}{K:qf}{mg:Str->Option Value}{base:Heap}{k:Nat}{x:Str}{n:Nat}{fr:Bool}{GG0:Gh->Prop}{L:List (Addr×Str)}{F:List D->M D}(c:ZT P w K mg base k x n fr GG0 F)(hF:∀ds s d s',F ds s=some (d,s')->YQ ds=true/\Yt d=true):ZT P w K mg base k x n fr (W7 GG0 L) F:=
 let ⟨f,fd,ps,a,b,c,d⟩:=c
 ⟨f,fd,ps,Zkz a hF,b,c,d⟩
theorem ZiU:∀ds s d s',Yf ds s=some (d,s')->YQ ds=true/\Yt d=true:=fun ds s d s' h=>by
 obtain⟨k,m,t,w,rfl,rfl,_,_,_,_,e⟩:=Zcd h;refine⟨rfl,?_⟩;unfold Vk at e;split at e <;> (cases e;rfl)
theorem ZiV {N ps:List Str}{own:List Nat}{fr:Bool}{G:Gh}{t:TS}{g:Zb->M Out}{vs:List V}{ds:List D}{Hf H:Hp}{pn pn':Pn}{d:D}{Q:VK}(hpl:ps.length<=N.length)(q:Bg G [] [] own fr t g)(e1:Zw G Hf H)(r:Zg G Hf ds vs)(st':G.st pn H)(eF:runB N.length ps.length g ds pn=some (d,pn'))
  (k':∀v Hf' H',Gr G Hf H Hf' H'->G.st pn' H'->Zj G Hf' d v->(fr=true->Yo G H Hf' d v)->Q v H'):t { nx:=fun _ H'=>Q .non H',rt:=Q } (L2.start N vs) H:=by
 obtain⟨hl,a0⟩:=YV eF;obtain⟨o,s1,a1,a2⟩:=Zv a0;have j0:Jf G [] Hf Hf H (L2.start N vs) Hf H (ds.map some++qu (N.length-ps.length) none):=by
  refine⟨?_,.refl _ _,.refl e1,fun i d n e=>?_,fun i d m e=>absurd m (by simp),fun i j a di dj mi mj n e=>absurd mi (by simp)⟩
  ·have:=r.length
   unfold L2.start;simp;omega
  ·have hi:i<ds.length:=by
    by_cases hi:i<ds.length
    ·exact hi
    ·rw[yh (by simpa using hi),z7] at e
     split at e <;> cases e
   have e':ds[i]?=some d:=by
    rw[zJ (by simpa using hi),qA] at e
    cases q:ds[i]? with
    | none=>rw[q] at e;cases e
    | some c=>rw[q] at e;simp at e;rw[e]
   obtain⟨v,h1,h2⟩:=r.get e';refine⟨v,?_,h2⟩;unfold L2.start;rw[zJ (by simp;rw[<-r.length];exact hi),qA,h1];rfl
 refine q Hf Hf H (L2.start N vs) H _ pn o s1 _ ⟨Hf,j0⟩ st' a1 ?_
 cases o with
 | rt c=>
  obtain⟨rfl,rfl⟩:=ZL a2;exact fun v Hf' H' g' j7 r2 fz=>k' v Hf' H' g' j7 r2 fz
 | nx ρ'=>
  obtain⟨rfl,rfl⟩:=ZL a2;exact fun σ' H' ⟨Hf',j'⟩ j7=>k' .non Hf' H' j'.gr j7 (jg.mpr rfl) fun _=>.scal fun z=>z
 | bk ρ'=>cases a2
 | ct ρ'=>cases a2
theorem fnDC {P:Program}{w:World}{K:qf}{mg:Str->Option Value}{base:Heap}{x qual:Str}{st:Stmt}{f:Addr}{fd:FuncData}{N ps:List Str}{k:Nat}{own:List Nat}{fr:Bool}{GG:Gh->Prop}{g:Zb->M Out}
  (F:Fun K x qual st f fd) (S:FnScope N ps (Zx st))
  (hb:∀(A:Around) (outer:List Env) (s:Shared) (H:Hp) (E:XK),Room k (A.deeper (envOfC qual (Zx st) s.heap.objs.size f fd.code))->∀G,GG G->XV (WI ZO P w K mg base N qual (Zx st) f fd.code A outer s H E).nox G [] [] own fr (X8 st) g) :
  FnOk P w K mg base ZO (k+1) f fd ps (Yn ps.length fr GG (runB N.length ps.length g)):=by
 obtain⟨oc,od,kV,doc,pm,an,cdv,ct,osl,rfl,lk,hcd⟩:=F.ex;refine Zk7 lk hcd S (fun vs H Q E ⟨_,_,_,_,_,_,_,e,_⟩=>e) fun A outer s H vs Q E hr h=>?_;obtain⟨G,Hf,ds,pn,d,pn',hG,el,e1,r,st',eF,k'⟩:=h;obtain⟨t,p,q⟩:=hb A outer s H E hr G hG;exact⟨t,p.nox,ZiV (by have:=congrArg qbe S.pre;rw[zU] at this;omega) q e1 r st' eF k'⟩
noncomputable def CalG (P:Program)(w:World)(K:qf)(mg:Str->Option Value)(k:Nat)(x:Str)(n:Nat)(F:List D->M D):Prop:=
 ∃f fd ps fr,(∀base,FnOk P w K mg base ZO k f fd ps (Yn n fr Z6 F))/\ps.length=n/\mg x=some (.ref f)/\(∃oc od sl,K.lookup f=some ⟨oc,od,.func fd,sl⟩)/\Xz K fd ps []
section
variable {X:Cx}{G:Gh}{P c:Addr}{q:Str}{k kl n:Nat}{x:Str}{fr frb:Bool}{F:List D->M D}{T:Nat->List D->M D}{t:Nat}{e1:Expr}{f1:Zb->M D}{r1:Bool}{params:Arguments}{scope:Scope}{lpos ppos pos:Pos}{XN N ps:List Str}{NS:List (Str×NameKind)}{cix:List Nat}
theorem ZiW {P:Program}{w:World}{K:qf}{mg:Str->Option Value}{base':Heap}{y:Str}{FF:List D->M D}(h:CalG P w K mg k y n FF)(hT:T t=FF):∃f,mg y=some (.ref f)/\Vr P w K mg k n T base' (Jb G t f):=by
 obtain⟨f,fd,ps,fr,FN,hl,hm,⟨oc,od,sl,lk⟩,hb⟩:=h;refine⟨f,hm,?_⟩;rintro t' v cs ⟨rfl,rfl,rfl⟩;refine⟨f,fd,ps,rfl,hl,hb,fun s H st h ok KX=>⟨oc,od,sl,KX _ _ lk⟩,?_⟩;rw[hT];refine(FN base').imp fun us H Q E ⟨Hf,ds,cds,s,d,s',l,e1,r1,r2,st,eF,kk⟩=>?_;have:cds=[]:=by
  cases cds with
  | nil=>rfl
  | cons a b=>obtain⟨_,_,e,_⟩:=jd.mp r2;cases e
 subst this;rw[zm] at eF;exact⟨_,Hf,ds,s,d,s',trivial,l,e1,r1,st,eF,fun v Hf' H' g st' r _=>kk v Hf' H' g st' r⟩
theorem ZfB {y:Str}{FF:List D->M D}{ypos:Pos}(hW:VF X.prog X.w X.K X.mg k x 2 fr (Vr X.prog X.w X.K X.mg kl n T) F)(hY:CalG X.prog X.w X.K X.mg kl y n FF)(hT:T t=FF)(hfn:∀x,X.fn x=true)(hr:Room k X.A)(hg:Gl X x)(hgy:Gl X y)(h1:PD X G r1 e1 f1)
  (hdb:(x==("__debug__" : Str))=false:=by decide) (hdy:(y==("__debug__" : Str))=false:=by decide)
  (he:starEach [e1,.Name y ypos] X.env=(false,eval e1 X.env)::starEach [.Name y ypos] X.env:=by rfl) (he2:starEach [Expr.Name y ypos] X.env=(false,eval (.Name y ypos) X.env)::starEach [] X.env:=by rfl)
  (hpl:(backTo pos (starEach [Expr.Name y ypos] X.env)).any (·.1)=false:=by rfl) :
  PD X G fr (.Call (.Name x ppos) [e1,.Name y ypos] [] pos) (V0 F t [] f1):=by
 obtain⟨t1,p1,q1⟩:=h1.drop;obtain⟨f,fd0,ps0,FN,hm,hk,hbd⟩:=hW;obtain⟨fy,hmy,_⟩:=ZiW (base':=X.base) (G:=G) hY hT;refine⟨_,Zet FN hfn hr hg hm hk hbd (Y4 p1 (Y4 (ZjU (v:=.ref fy) hgy hmy rfl hdy) Xs he2) he) hdb he hpl,fun σ Hf H ρ s d s' Q x1 x2 x3 x4 k=>?_⟩;obtain⟨d1,s1,a1,a2⟩:=Zv x4;obtain⟨cds,s2,b3,a4⟩:=Zv a2;obtain⟨a3,rfl⟩:=X0 b3
 cases a3
 obtain⟨hn,a5⟩:=YV a4;obtain⟨cc,s3,a6,a7⟩:=Zv a5;obtain⟨hn2,a8⟩:=YV a7;obtain⟨rfl,rfl⟩:=ZL a8;obtain⟨hn0,hn1⟩:=zS.mp hn;refine q1 σ Hf H ρ s d1 _ _ x1 x2 x3 a1 fun v1 jU H1 g1 j9 rv1=>?_;intro base' cs;obtain⟨fy2,hmy2,hC⟩:=ZiW (base':=base') (G:=G) hY hT;rw[hmy] at hmy2;cases hmy2;refine⟨Jb G t fy,jU,[d1,.clo t []],_,d,_,hC,rfl,g1.fh,?_,j9,a6,fun v Hf3 H3 g3 st3 r3 fz=>?_⟩
 ·exact .cons (Zj.re (G:=G) (G':=Jb G t fy) rfl rfl hn0 rv1) (.one (jw.mpr ⟨[],⟨rfl,rfl,rfl⟩,Zg.nil_iff.mpr rfl⟩))
 ·have g3':Gr G jU H1 Hf3 H3:=Gr.re (G:=Jb G t fy) (G':=G) rfl g3
  have rr:Zj G Hf3 d v:=Zj.re (G:=Jb G t fy) (G':=G) rfl rfl hn2 r3;exact k v Hf3 H3 (g1.trans g3') st3 rr fun z=>jo g1.hh rr.nofp (Yo.re (G:=Jb G t fy) (G':=G) rfl rfl hn2 (fz z))
end
noncomputable def V8 (mg:Str->Option Value)(h:Heap):Prop:=∃bm o,mg "__builtins__" = some (.ref bm)/\bm≠builtinsNs/\bm≠mainGlobals/\h.get? bm=some o/\o.cls=.type "module"/\o.dict=some builtinsNs/\o.data=.plain
theorem Zhh {P:Program}{w:World}{K:qf}{mg mb:Str->Option Value}{CX:XG}{k:Nat}{fa a:Addr}{fd:FuncData}{x:Str}{sp:Sp}{s₁:Shared}{vs:List Value}{ns:List Int}{tb:List (Addr×Addr)}
  (KX:K.In s₁.heap) (hns:s₁.heap.Ns mainGlobals mg) (hb:s₁.heap.Ns builtinsNs mb) (hbb:∀x:Str,x≠"__name__"->mb x=bootBuiltins x) (hlim:s₁.heap.NoLimit) (hg:s₁.gens = #[])
  (hT:∀e∈tb,zB s₁.heap e.1 e.2/\s₁.heap.get? e.2=some (y6 #[])) (hKt:PySem.W.noTabs K=true) (hbm:V8 mg s₁.heap)
  (ha:s₁.heap.get? a=some { cls:=.type "list",data:=.seq vs.toArray }) (hi:IntsAre vs ns) (hl:ns.length<=sizeLine) (hr:Room k callerA)
  (F:∀base:Heap,K.In base->base.Ns mainGlobals mg->(∀e∈tb,zB base e.1 e.2)->V8 mg base->FnOk P w K mg base CX k fa fd [x] sp) (hbind:∀(s:Shared) (u:Value),BindsTo s fd ⟨[u],[]⟩ [(x,u)])
  (hsp:∀H:Hp,Zu K H a (ns.map V.int)->(∀e∈tb,H e.2=some (.tbl #[]))->sp [.ref a] H (fun v _=>v=.bl true) fun _ _ _=>False)
  (hCX:∀H e s',CX [] H s₁ (fun _ _ _=>False) e s'->False) :
  codeAny (model P w) callerA (.call (.ref fa) ⟨[.ref a],[]⟩) (fun r s'=>r=.ok (.ret (.bool true))/\OldK s₁.heap s'.heap/\s'.os=s₁.os/\AllBare s'.gens) s₁:=by
 have rv:=Zda hi;have lenV:=hi.length;have tabne:∀e∈tb,e.2≠a:=fun e he z=>by
  have:=(hT e he).2;rw[z,ha] at this;cases this
 have noK:∀e∈tb,K.lookup e.2=none:=fun e he=>by
  cases q:K.lookup e.2 with
  | none=>rfl
  | some o=>
   have h2:=zV.mp hKt (e.2,o) (PySem.W.mem_of_lookupK q);have e1:=KX _ _ q;rw[(hT e he).2] at e1
   cases e1
   exact absurd (show false=true from h2) zD
 have core:∀H:Hp,(∀b u,H b=some u->(b=a/\u=.frz { cls:=.type "list",data:=.seq vs.toArray } (.lst (ns.map V.int))/\K.lookup a=none)∨(u=.tbl #[]/\∃e∈tb,e.2=b))->Zu K H a (ns.map V.int)->(∀e∈tb,H e.2=some (.tbl #[]))->
   codeAny (model P w) callerA (.call (.ref fa) ⟨[.ref a],[]⟩) (fun r s'=>r=.ok (.ret (.bool true))/\OldK s₁.heap s'.heap/\s'.os=s₁.os/\AllBare s'.gens) s₁:=by
  intro H hO hS hTb;have hok:Ym P w H s₁.heap:=fun b u e=>by
   rcases hO b u e with⟨rfl,rfl,_⟩ | ⟨rfl,e',he,rfl⟩
   ·exact⟨ha,by rw[qj];exact hl,vs,_,rv,ha⟩
   ·exact(hT e' he).2
  have base_of:∀{b:Addr} {o:Obj},s₁.heap.get? b=some o->H b=none->(W2 s₁.heap H).get? b=some o:=fun e n=>ZhT e n;have noA:∀{b:Addr} {o:Obj},s₁.heap.get? b=some o->(∀vs n,o.data≠.seq vs n)->(∀vs,o.data≠.fields vs∨o.cls≠.none)->H b=none:=fun {b o} e d1 d2=>by
   cases q:H b with
   | none=>rfl
   | some u=>
    rcases hO b u q with⟨rfl,_,_⟩ | ⟨_,e',he,rfl⟩
    ·rw[ha] at e;cases e;exact absurd rfl (d1 _ _)
    ·rw[(hT e' he).2] at e;cases e
     rcases d2 #[] with z | z
     ·exact absurd rfl z
     ·exact absurd rfl z
  have nsK:∀{b:Addr} {m:Str->Option Value},s₁.heap.Ns b m->(W2 s₁.heap H).Ns b m:=fun {b m} ⟨o,es,ep,e,d,r⟩=>⟨o,es,ep,base_of e (noA e (fun _ _ z=>by rw[d] at z;cases z) fun _=>.inl fun z=>by rw[d] at z;cases z),d,r⟩;have hKb:K.In (W2 s₁.heap H):=fun b o e=>base_of (KX b o e) (by
   cases q:H b with
   | none=>rfl
   | some u=>
    rcases hO b u q with⟨rfl,_,z⟩ | ⟨_,e',he,rfl⟩
    ·rw[z] at e;cases e
    ·rw[noK e' he] at e;cases e)
  have hM:Mod K mg (W2 s₁.heap H):=⟨hKb,nsK hns,⟨mb,nsK hb,hbb⟩,let ⟨mc,h1,h2⟩:=hlim;⟨mc,nsK h1,h2⟩⟩;have e0:Env0 P w K mg (W2 s₁.heap H) callerA [] s₁ H:=⟨rfl,hM,fun b o e=>ZjT e,qbN (ZgJ _ _),trivial,fun b hb=>absurd (show b∈([]:List Addr) from hb) (by simp),hok,.of_eq hg⟩;have hCd:∀e∈tb,zB (W2 s₁.heap H) e.1 e.2:=fun e he=>by
   obtain⟨o,vs',file,tf,flags,tg,inF,text,tt,e1,r1,r2,r3⟩:=(hT e he).1;exact⟨o,vs',file,tf,flags,tg,inF,text,tt,base_of e1 (noA e1 (fun _ _ z=>by rw[r2] at z;cases z) fun _=>.inr (by rw[r1];nofun)),r1,r2,r3⟩
  have hBm:V8 mg (W2 s₁.heap H):=by
   obtain⟨bm,o,e1,e2,e3,e4,e5,e6,e7⟩:=hbm;exact⟨bm,o,e1,e2,e3,base_of e4 (noA e4 (fun _ _ z=>by rw[e7] at z;cases z) fun _=>.inl fun z=>by rw[e7] at z;cases z),e5,e6,e7⟩
  refine codeAny_mono ((F _ hKb (nsK hns) hCd hBm).run callerA [] s₁ H ⟨[.ref a],[]⟩ [.ref a] [.ref a] _ _ hr e0 (hbind s₁ (.ref a)) (.cons rfl .nil) (hsp H hS hTb)) fun r s' h=>?_
  cases r with
  | error e=>exact(hCX H e s' h).elim
  | ok fl=>
   cases fl with
   | next=>exact zw h
   | brk=>exact zw h
   | cont=>exact zw h
   | ret u=>
    obtain⟨v,H',os,bare,un,hok',r',q⟩:=h;have q':v=.bl true:=q;subst q';obtain rfl:u=zE true:=r';refine⟨rfl,⟨fun b o e=>?_,fun b o e=>un.there b o e (by simp)⟩,os,bare⟩
    cases q:H b with
    | none=>exact .inl (un.keep b o e q (by intro z;exact absurd (show b∈([]:List Addr) from z) (by simp)) (by simp))
    | some u=>
     rcases hO b u q with⟨rfl,rfl,_⟩ | ⟨rfl,e',he,rfl⟩
     ·have z2:=un.frzs b _ _ q
      obtain⟨e1,_⟩:=hok b _ q;obtain⟨e2,_⟩:=hok' b _ z2;rw[e] at e1;cases e1;exact .inl e2
     ·obtain⟨more,z⟩:=un.tbls _ _ q
      have z2:s'.heap.get? e'.2=some (y6 (#[]++more)):=hok' _ _ z;have e1:=(hT e' he).2;rw[e] at e1;cases e1;exact .inr (.inl ⟨((hT e' he).1.tab (hT e' he).2).isCodeTable,rfl,#[],more,rfl,z2⟩)
 cases hk:K.lookup a with
 | some o=>
  have e:=KX a o hk;rw[ha] at e
  cases e
  refine core (fun b=>open Classical in if ∃e∈tb,e.2=b then some (.tbl #[]) else none) (fun b u z=>?_) (.inr ⟨_,vs.toArray,_,hk,rfl,rfl,rfl,by rw[qq,lenV];exact hl,by simpa using rv⟩) (fun e he=>if_pos ⟨e,he,rfl⟩);by_cases h:∃e∈tb,e.2=b
  ·rw[if_pos h] at z;cases z;exact .inr ⟨rfl,h⟩
  ·rw[if_neg h] at z;cases z
 | none=>
  refine core (fun b=>open Classical in if ∃e∈tb,e.2=b then some (.tbl #[]) else if b=a then some (.frz { cls:=.type "list",data:=.seq vs.toArray } (.lst (ns.map V.int))) else none) (fun b u z=>?_) (.inl (.inr ⟨{ cls:=.type "list",data:=.seq vs.toArray },?_⟩)) (fun e he=>if_pos ⟨e,he,rfl⟩)
  ·by_cases h:∃e∈tb,e.2=b
   ·rw[if_pos h] at z;cases z;exact .inr ⟨rfl,h⟩
   ·rw[if_neg h] at z
    by_cases hb:b=a
    ·rw[if_pos hb] at z;cases z;exact .inl ⟨hb,rfl,hk⟩
    ·rw[if_neg hb] at z;cases z
  ·show(if ∃e∈tb,e.2=a then _ else _)=_
   rw[if_neg (fun⟨e,he,z⟩=>tabne e he z),if_pos rfl]
theorem ZiX {l : PySem.W.OpenLaw}{n k : Nat}{q : Program}{loose : List Str}{XP : (Str -> Option Value) -> Heap -> Prop}{YP : World -> Heap -> Prop}{d : DefRec}{K : Params -> qf}{CX : World -> XG}{sp : World -> Sp}{x : Str}{tb : List (Str × Addr × Addr)}
    (hn : l.most = some n) (hn2 : n <= sizeLine) (hdf : d.params.defaults = []) (hr : Room k callerA)
    (hY : ∀ (w : World) (h : Heap), YP w h -> (K w.params).In h)
    (hrec : ∀ e ∈ tb, ∃ d, (recsOf q).find? (fun r => r.name == e.1) = some d) (htab : ∀ w : World, ∀ e ∈ tb, PySem.W.tabIn (K w.params) e.1 = some e.2) (hno : ∀ w : World, PySem.W.noTabs (K w.params) = true)
    (F : ∀ (w : World) (mg : Str -> Option Value) (fa : Addr) (h : Heap), (K w.params).In h -> h.Ns mainGlobals mg -> mg d.name = some (.ref fa) ->
      ∃ fd : FuncData, (∀ (s : Shared) (u : Value), BindsTo s fd ⟨[u], []⟩ [(x, u)]) /\
        ∀ base : Heap, (K w.params).In base -> base.Ns mainGlobals mg -> (∀ e ∈ tb, zB base e.2.1 e.2.2) -> V8 mg base -> FnOk l.prog w (K w.params) mg base (CX w) k fa fd [x] (sp w))
    (hsp : ∀ (w : World) (H : Hp) (a : Addr) (ns : List Int), ns.length <= n -> Zu (K w.params) H a (ns.map V.int) -> (∀ e ∈ tb, H e.2.2 = some (.tbl #[])) -> sp w [.ref a] H (fun v _ => v = .bl true) fun _ _ _ => False)
    (hCX : ∀ (w : World) (H : Hp) (s : Shared) (e : Value) (s' : Shared), CX w [] H s (fun _ _ _ => False) e s' -> False) :
    qbz q loose XP YP l.row.toRowW d [] (fun f vs => qbv f vs) := by
  refine Att.attach_call hn hdf fun w s₀ s₁ mg mb fa o pm cd doc a vs ns G Y ho hd hcd hmg hobj hints jV hg => ?_;have KX := hY w _ Y;obtain⟨fd, hb, hF⟩ := F w mg fa _ KX G.T.g hmg;have hT : ∀ e ∈ tb.map (·.2), zB s₁.heap e.1 e.2 /\ s₁.heap.get? e.2 = some (y6 #[]) := fun e he => by
    obtain⟨e', he', rfl⟩ := qK.mp he;obtain⟨d', hd'⟩ := hrec e' he';exact PySem.W.tab_of G.T KX hd' (htab w e' he')
  exact Zhh (tb := tb.map (·.2)) KX G.T.g G.T.b G.T.builtins G.T.nolimit hg hT (hno w) (let ⟨bm, ob, a, b, c, d, e, f⟩ := G.T.bmain; ⟨bm, ob, a, b, (fun z => by
      obtain⟨o, es, ep, e', hd', _⟩ := G.T.g;rw[z, e'] at c; cases c; rw[hd'] at f; cases f), c, d, e, f⟩) hobj hints (qZ jV hn2) hr
    (fun base h1 h2 h3 h4 => hF base h1 h2 (fun e he => h3 e.2 (yu (f := (·.2)) he)) h4) hb (fun H hS hTb => hsp w H a ns jV hS fun e he => hTb e.2 (yu (f := (·.2)) he)) fun H e s' => hCX w H s₁ e s'
end TF
namespace L2
section
variable {X:Cx}{jJ:List (Addr×Obj)}{σ:St}{H:Hp}{s:Shared}{h':Heap}
theorem Inv.turnedN {t':Nat}{fp:List Addr}(I:Inv X jJ σ H s)(k:∀b o,b∉fp->s.heap.get? b=some o->h'.get? b=some o)(hf:∀b∈fp,X4 X jJ H b):Inv X jJ σ H { s with heap:=h',toks:=t' }:=by
 have nit:∀b u,H b=some u->b∉fp:=fun b u e z=>by rw[(hf b z).1] at e;cases e
 refine I.step (g':=s.gens) (d':=s.drawn) (ch:=fp) (fun b hb=>?_) (fun b o _ _ hc e _=>k b o hc e) (fun b o _ _ hc e _=>⟨o.slots,k b o hc e⟩) (fun _ _ _ _ n=>n)
  (fun b o hc e=>⟨o,k b o hc e⟩) (fun _ _ e=>e) (fun _ _ _ e=>e) (fun b ps e=>⟨#[],by rw[e];simp⟩) (fun m hm=>?_) (fun b u e=>?_) I.bare
 ·obtain⟨f0,f1,f2,f3,f4,f5⟩:=hf b hb
  exact⟨f3,f1,f4,f5⟩
 ·obtain⟨o,es,ep,ho,r⟩:=hm
  exact⟨o,es,ep,k _ o (fun z=>(hf _ z).2.1 rfl) ho,r⟩
 ·refine(I.hok b u e).stay (fun c v hc q=>k c v ?_ q) (fun _ q=>q) fun _ _ q=>q
  rcases hc with z | z
  ·rw[z];exact nit b u e
  ·exact nit c _ z
theorem Inv.turnedT {t':Nat}{fp:List Addr}{T:Addr}{o:HO}(I:Inv X jJ σ H s)(k:∀b o,b∉fp->s.heap.get? b=some o->h'.get? b=some o)(hf:∀b∈fp,X4 X jJ H b)(hT:s.heap.objs.size<=T)(new:YA X.prog X.w (Zk H T o) h' T o):Inv X jJ σ (Zk H T o) { s with heap:=h',toks:=t' }:=by
 have hn:=I.hok.fresh hT;have nit:∀b u,H b=some u->b∉fp:=fun b u e z=>by rw[(hf b z).1] at e;cases e
 refine I.step (g':=s.gens) (d':=s.drawn) (ch:=fp) (fun b hb=>?_) (fun b o _ _ hc e _=>k b o hc e) (fun b o _ _ hc e _=>⟨o.slots,k b o hc e⟩) (fun b u _ q n=>by rw[Zo (qP (qN (qz q) hT))];exact n)
  (fun b o hc e=>⟨o,k b o hc e⟩) (fun b xs q=>by rw[Zo (ZP q hn)];exact q) (fun b u xs q=>by rw[Zo (ZP q hn)];exact q) (fun b ps q=>⟨#[],by rw[Zo (ZP q hn),q];simp⟩) (fun m hm=>?_) (fun b u e=>?_) I.bare
 ·obtain⟨f0,f1,f2,f3,f4,f5⟩:=hf b hb
  exact⟨f3,f1,f4,f5⟩
 ·obtain⟨o,es,ep,ho,r⟩:=hm
  exact⟨o,es,ep,k _ o (fun z=>(hf _ z).2.1 rfl) ho,r⟩
 ·by_cases hb:b=T
  ·subst hb;rw[ZI] at e;cases e;exact new
  ·rw[Zo hb] at e
   refine(I.hok b u e).stay (fun c v hc q=>k c v ?_ q) (fun c q=>by rw[Zo (ZP q hn)];exact q) fun c xs q=>by rw[Zo (ZP q hn)];exact q
   rcases hc with z | z
   ·rw[z];exact nit b u e
   ·exact nit c _ z
end
noncomputable def Itz (K:qf)(a b:Addr):It where
 go:=fun i H=>∃xs ys x y,Zu K H a xs/\Zu K H b ys/\xs[i]?=some x/\ys[i]?=some y
 yld:=fun i H v H'=>∃T x y,H T=none/\v=.ref T/\H'=Zk H T (.tup [x,y])/\(∀xs,Zu K H a xs->xs[i]?=some x)/\(∀ys,Zu K H b ys->ys[i]?=some y)
 stop:=fun i H=>∃xs ys,Zu K H a xs/\Zu K H b ys/\i=min xs.length ys.length
structure ZDist (z TI TO i1 i2:Addr):Prop where
 TIz:TI≠z
 TOz:TO≠z
 i1z:i1≠z
 i2z:i2≠z
 TITO:TI≠TO
 TIi1:TI≠i1
 TIi2:TI≠i2
 TOi1:TO≠i1
 TOi2:TO≠i2
 i12:i1≠i2
theorem Zlm (n:Nat):ZDist (n+4) (n+2) (n+3) n (n+1):=by
 have h:∀a b:Nat,a≠b->(a:Addr)≠(b:Addr):=fun _ _ h=>h;exact⟨h _ _ (by omega),h _ _ (by omega),h _ _ (by omega),h _ _ (by omega),h _ _ (by omega),h _ _ (by omega),h _ _ (by omega),h _ _ (by omega),h _ _ (by omega),h _ _ (by omega)⟩
noncomputable def Zln (z TI TO i1 i2 a b:Addr)(i:Nat)(h:Heap):Prop:=IsZip h z TI TO .none/\IsPair h TI (.ref i1) (.ref i2)/\(∃x y,IsPair h TO x y)/\h.IsListIter i1 a i/\h.IsListIter i2 b i
theorem VQ {h:Heap}{a b:Addr}{o:Obj}{T:String}(ha:∃oa,h.get? a=some oa/\oa.cls=.type "list")(hb:h.get? b=some o)(hc:o.cls=.type T)(hT:T≠"list"):a≠b:=fun z=>by
 obtain⟨oa,e,c⟩:=ha;rw[z,hb] at e
 cases e
 rw[hc] at c;exact hT (qaB c)
theorem Zdl {h:Heap}{z TI TO i1 i2 a b:Addr}{i:Nat}{xs ys:Array Value}(D:ZDist z TI TO i1 i2)(st:Zln z TI TO i1 i2 a b i h)(ha:h.IsList a xs)(hb:h.IsList b ys):ZipApart z TI TO i1 i2 a b:=by
 obtain⟨hz,hTI,⟨x,y,hTO⟩,h1,h2⟩:=st;obtain⟨o1,e1,c1,d1⟩:=h1;obtain⟨o2,e2,c2,d2⟩:=h2;have la:∃oa,h.get? a=some oa/\oa.cls=.type "list":=let ⟨o,e,c,_⟩:=ha;⟨o,e,c⟩;have lb:∃oa,h.get? b=some oa/\oa.cls=.type "list":=let ⟨o,e,c,_⟩:=hb;⟨o,e,c⟩;exact⟨D.TIz,D.TOz,D.i1z,D.i2z,D.TITO,D.TIi1,D.TIi2,D.TOi1,D.TOi2,D.i12,VQ la hz rfl (by decide),VQ la hTO rfl (by decide),VQ la e1 c1 (by decide),VQ la e2 c2 (by decide),VQ lb hz rfl (by decide),VQ lb hTO rfl (by decide),VQ lb e1 c1 (by decide),VQ lb e2 c2 (by decide)⟩
theorem ZiY {P:Program}{w:World}{K:qf}{elts:List Expr}{k:Nat}{pos:Pos}(a b z TI TO i1 i2:Addr)(D:ZDist z TI TO i1 i2):Turn P w K (.Tuple elts k pos) (Itz K a b) [z,TI,TO,i1,i2] z (Zln z TI TO i1 i2 a b) where
 mem:=by simp
 obj:=fun i h st c hc=>by
  obtain⟨hz,hTI,⟨x,y,hTO⟩,⟨o1,e1,c1,d1⟩,⟨o2,e2,c2,d2⟩⟩:=st;simp only[qt,ze,or_false] at hc;rcases hc with rfl | rfl | rfl | rfl | rfl
  ·exact⟨_,hz,fun v q=>by cases q⟩
  ·exact⟨_,hTI,fun v q=>by cases q⟩
  ·exact⟨_,hTO,fun v q=>by cases q⟩
  ·exact⟨_,e1,fun v q=>by rw[d1] at q;cases q⟩
  ·exact⟨_,e2,fun v q=>by rw[d2] at q;cases q⟩
 keep:=fun i h h' st kk=>by
  obtain⟨hz,hTI,⟨x,y,hTO⟩,h1,h2⟩:=st;exact⟨kk z (by simp) _ hz,kk TI (by simp) _ hTI,⟨x,y,kk TO (by simp) _ hTO⟩,h1.at fun o e=>kk i1 (by simp) o e,h2.at fun o e=>kk i2 (by simp) o e⟩
 item:=by
  intro X hP hw hK hc i jJ s σ H E I hf st hg;subst hP hw hK;obtain⟨xs,ys,x,y,hq,hq2,hx,hy⟩:=hg;obtain⟨jL,rv,p,hz⟩:=I.list hq;obtain⟨jS,rv2,p2,hz2⟩:=I.list hq2;obtain⟨u,hu,ru⟩:=rv.get hx;obtain⟨u2,hu2,ru2⟩:=rv2.get hy;have A:=Zdl D st p.isList p2.isList;have W:=WalksT.zip2 (prog:=X.prog) (w:=X.w) (I.ok.hd hc) z TI TO i1 i2 a b A jL.toArray jS.toArray;obtain⟨t1,t2,t3,t4,t5⟩:=st;have hl1:i<jL.length:=(qB.mp hu).1;have hl2:i<jS.length:=(qB.mp hu2).1;refine W.item i s _ _ (by simp only[qq];omega) ⟨t1,t2,t3,t4,t5,p.isList,p2.isList⟩ fun T vals h1 tk hp hT hI hM kk=>⟨_,rfl,?_⟩;obtain⟨v1,v2,g1,g2,rfl⟩:=hp;have e1:v1=u:=by simpa[hu] using g1.symm
  have e2:v2=u2:=by simpa[hu2] using g2.symm
  subst e1 e2;have hap:=W.apart i T h1 hM;refine W.go elts k pos i T _ _ _ hM fun h2 hS kk2=>?_;have hI2:h2.IsTuple T #[v1,v2]:=hI.at fun o e=>kk2 T o hap e;have hfw:∀c,c∉[z,TI,TO,i1,i2]->c∉[z,TO,i1,i2]:=fun c hc hm=>hc (by
   simp only[qt,ze,or_false] at hm⊢;rcases hm with r | r | r | r <;> simp[r])
  have I1:Inv X jJ σ (Zk H T (.tup [x,y])) { s with heap:=h2,toks:=tk }:=I.turnedT (fp:=[z,TI,TO,i1,i2]) (fun c o hc e=>kk2 c o (hfw c hc) (kk c o (hfw c hc) e)) hf hT ⟨by show 2<=sizeLine;decide,[v1,v2],.cons ru (.cons ru2 .nil),hI2⟩;have hTn:H T=none:=I.hok.fresh hT;refine⟨.ref T,_,I1,rfl,⟨T,x,y,hTn,rfl,rfl,fun xs' h=>by rw[I.list_inj h hq];exact hx,fun ys' h=>by rw[I.list_inj h hq2];exact hy⟩,⟨hS.1,hS.2.1,hS.2.2.1,hS.2.2.2.1,hS.2.2.2.2.1⟩,fun c hc=>?_⟩;rw[Zo ?_]
  ·exact(hf c hc).1
  ·intro zc
   subst zc;have old:∃o,s.heap.get? c=some o:=by
    obtain⟨o1,e1,_⟩:=t4;obtain⟨o2,e2,_⟩:=t5;obtain⟨q1,q2,q3⟩:=t3;simp only[qt,ze,or_false] at hc;rcases hc with r | r | r | r | r
    ·rw[r];exact⟨_,t1⟩
    ·rw[r];exact⟨_,t2⟩
    ·rw[r];exact⟨_,q3⟩
    ·rw[r];exact⟨_,e1⟩
    ·rw[r];exact⟨_,e2⟩
   obtain⟨o,e⟩:=old;exact absurd (qz e) (Nat.not_lt.mpr hT)
 done:=by
  intro X hP hw hK hc i jJ s σ H E I hf st hg;subst hP hw hK;obtain⟨xs,ys,hq,hq2,rfl⟩:=hg;obtain⟨jL,rv,p,hz⟩:=I.list hq;obtain⟨jS,rv2,p2,hz2⟩:=I.list hq2;have A:=Zdl D st p.isList p2.isList;have W:=WalksT.zip2 (prog:=X.prog) (w:=X.w) (I.ok.hd hc) z TI TO i1 i2 a b A jL.toArray jS.toArray;obtain⟨t1,t2,t3,t4,t5⟩:=st;have e:min jL.toArray.size jS.toArray.size=min xs.length ys.length:=by rw[qq,qq,rv.length,rv2.length]
  refine W.done s _ _ (by rw[e];exact⟨t1,t2,t3,t4,t5,p.isList,p2.isList⟩) fun h1 tk kk=>⟨rfl,?_⟩;exact I.turnedN (fp:=[z,TI,TO,i1,i2]) (fun c o hc e=>kk c o (fun hm=>hc (by
   simp only[qt,ze,or_false] at hm⊢;rcases hm with r | r | r | r <;> simp[r])) e) hf
 self:=fun A i s Q E st h=>wpAny_pyIter_zip st.1 h
noncomputable def iZip (K:qf)(ta:TA):TI:=fun σ H R=>ta σ H fun vs H1=>∃a b,vs=[.ref a,.ref b]/\(∃xs,Zu K H1 a xs)/\(∃ys,Zu K H1 b ys)/\R (Itz K a b) H1
theorem ZeD:bootBuiltins "zip" = some (.type "zip"):=by decide +kernel
theorem Zmi {X:Cx}{elts:List Expr}{k:Nat}{tp:Pos}{a b:Expr}{ta:TA}{p pos:Pos}(hg:Gl X "zip")(hm:X.mg "zip" = none)(ha:PA X [a,b] ta)(hs:starEach [a,b] X.env=[(false,eval a X.env),(false,eval b X.env)]:=by rfl)(hs2:starEach [b] X.env=[(false,eval b X.env)]:=by rfl) :
  PI X (.Tuple elts k tp) (.Call (.Name "zip" p) [a,b] [] pos) (iZip X.K ta):=by
 intro jJ s σ H R I h;refine Call_ (VN I hg hm ZeD (zC (ZC (ha pos jJ s σ H _ I h) fun us s1 ⟨vs,H1,I1,r1,q1⟩=>?_) (by rw[hs,hs2]) (by rw[hs2];rfl)));obtain⟨a',b',e,⟨xs,hq⟩,⟨ys,hq2⟩,q⟩:=q1;subst e
 cases r1 with
 | cons r rr=>
  cases rr with
  | cons r' rr=>
   cases rr
   cases r
   cases r'
   obtain⟨jL,rv,p1,hz⟩:=I1.list hq;obtain⟨jS,rv2,p2,hz2⟩:=I1.list hq2;refine call_zip_2 p1.isList p2.isList fun h' g1 g2 g3 g4 g5 g6 g7=>?_;refine wpAny_pyIter_zip g1 ?_;have I2:Inv X jJ σ H1 { s1 with heap:=h' }:=I1.kept (t':=s1.toks) g7;refine⟨s1.heap.objs.size+4,[s1.heap.objs.size+4,s1.heap.objs.size+2,s1.heap.objs.size+3,s1.heap.objs.size,s1.heap.objs.size+1],_,_,H1,rfl,I2,ZiY a' b' (s1.heap.objs.size+4) (s1.heap.objs.size+2) (s1.heap.objs.size+3) s1.heap.objs.size (s1.heap.objs.size+1) (Zlm _),⟨g1,g2,⟨_,_,g3⟩,g4,g5⟩,fun c hc=>?_,q⟩;simp only[qt,ze,or_false] at hc;have hle:s1.heap.objs.size<=c:=by rcases hc with r | r | r | r | r <;> rw[r] <;> first | exact qp _ | exact Nat.le_add_right _ _
   exact I1.fpOk hle (I1.hok.fresh hle)
end L2
namespace TF
open L2
section
variable {X:Cx}{G:Gh}
noncomputable def WL (xs ys:List D):List D:=List.zipWith (fun x y=>D.tup [x,y]) xs ys
theorem Wp.zip {K:qf}{a b:Addr}{vs us:List V}{Hf:Hp}{ds es:List D}(na:¬G.fp a)(h:Hf a=some (.lst vs))(r:Zg G Hf ds vs)(nb:¬G.fp b)(h':Hf b=some (.lst us))(r':Zg G Hf es us):Wp G (Itz K a b) Hf (WL ds es):=fun i jY H2 s e1 e2 st=>by
 have h2:Zu K H2 a vs:=Zu.of (e2 _ _ na (e1 _ _ na h));have h3:Zu K H2 b us:=Zu.of (e2 _ _ nb (e1 _ _ nb h'));refine⟨fun d q=>?_,fun q=>⟨vs,us,h2,h3,by rw[q];unfold WL;rw[qaz,r.length,r'.length]⟩⟩;unfold WL at q;rw[qbm] at q
 cases qa:ds[i]? with
 | none=>rw[qa] at q;simp at q
 | some x=>
  cases qb:es[i]? with
  | none=>rw[qa,qb] at q;simp at q
  | some y=>
   rw[qa,qb] at q;simp at q;subst q;obtain⟨v,q1,q2⟩:=r.get qa;obtain⟨u,q3,q4⟩:=r'.get qb;refine⟨⟨vs,us,v,u,h2,h3,q1,q3⟩,fun z H3 ⟨T,v',u',hT,y0,y1,y2,y3⟩=>?_⟩;have ev:=y2 vs h2;have eu:=y3 us h3;rw[q1] at ev;cases ev;rw[q3] at eu;cases eu;subst y0 y1;have nf:=Gh.nofp st hT;have g2:=Gr.new (o:=.tup [v,u]) e2 hT nf;refine⟨Zk jY T (.tup [v,u]),g2,Gh.grow st hT,jb.mpr ⟨T,_,rfl,nf,ZI,?_⟩⟩;exact .cons ((q2.ext e1).ext g2.ff) (.one ((q4.ext e1).ext g2.ff))
end
section
variable {X:Cx}{G:Gh}
noncomputable def B7:D->Option Bool
 | .non=>some true
 | .pen=>none
 | .ty _=>none
 | .clo _ _=>none
 | _=>some false
noncomputable def dIsN (d e:D):Option D:=match e with | .non=>(B7 d).map .bl | _=>none
theorem Zhi {Hf:Hp}{d:D}{v:V}{b:Bool}(h:B7 d=some b)(r:Zj G Hf d v):decide (v=.non)=b:=by
 cases d with
 | non=>cases h;rw[jg.mp r];rfl
 | bl _=>cases h;rw[je.mp r];rfl
 | int _=>cases h;rw[ja.mp r];rfl
 | str _=>cases h;rw[ji.mp r];rfl
 | tup _=>cases h;obtain⟨p,vs,rfl,_⟩:=jb.mp r;rfl
 | lst _=>cases h;obtain⟨p,vs,rfl,_⟩:=jc.mp r;rfl
 | dk _=>cases h;obtain⟨p,rfl,_⟩:=jk.mp r;rfl
 | dt _=>cases h;obtain⟨p,_,rfl,_⟩:=jl.mp r;rfl
 | du _=>cases h;obtain⟨p,rfl,_⟩:=jm.mp r;rfl
 | df _=>cases h;obtain⟨p,_,rfl,_⟩:=js.mp r;rfl
 | pen=>cases h
 | ty _=>cases h
 | clo _ _=>cases h
theorem ZkA:Xp X G (compareOp .Is) dIsN:=
 ⟨_,ZlO,fun Hf H s x y d e c Q e1 st rx ry q k=>by
  cases e with
  | non=>
   have q:(B7 d).map D.bl=some c:=q
   cases hb:B7 d with
   | none=>rw[hb] at q;cases q
   | some b=>
    rw[hb] at q
    cases q
    refine⟨jg.mp ry,?_⟩;rw[Zhi hb rx];exact k _ Hf H (.refl e1) st (je.mpr rfl) (.scal fun z=>z)
  | _=>cases q⟩
noncomputable def Xw (n:Int)(r:List Int):Int:=r.foldl max n
theorem ZkB (r:List Int):∀n,n<=Xw n r/\∀a∈r,a<=Xw n r:=by
 induction r with
 | nil=>intro n;exact⟨qaD _,by simp⟩
 | cons b r ih=>
  intro n;obtain⟨h1,h2⟩:=ih (max n b);refine⟨?_,fun a ha=>?_⟩
  ·show n<=Xw (max n b) r;omega
  ·show a<=Xw (max n b) r
   rcases qt.mp ha with rfl | ha
   ·omega
   ·exact h2 a ha
theorem ZiZ (r:List Int):∀n,Xw n r∈n::r:=by
 induction r with
 | nil=>intro n;simp[Xw]
 | cons b r ih=>
  intro n;have h:=ih (max n b);show Xw (max n b) r∈n::b::r;rcases qt.mp h with h | h
  ·rw[h]
   rcases Int.le_total n b with z | z
   ·rw[Int.max_eq_right z];simp
   ·rw[Int.max_eq_left z];simp
  ·exact qQ _ (qQ _ h)
theorem Zi0 {n M:Int}{r:List Int}(h1:M∈n::r)(h2:∀a∈n::r,a<=M):M=Xw n r:=by
 obtain⟨g1,g2⟩:=ZkB r n;have g3:=h2 _ (ZiZ r n);have g4:M<=Xw n r:=by
  rcases qt.mp h1 with h | h
  ·rw[h];exact g1
  ·exact g2 M h
 omega
noncomputable def B8:List D->Option D
 | [.lst ds]=>match ZH ds with | some (n::r)=>some (.int (Xw n r)) | _=>none
 | _=>none
theorem Zhj (hc:X.calm=true):Xy X (.builtin "max") (fun xs H Q=>∃p n r,xs=[.ref p]/\Zu X.K H p ((n::r).map V.int)/\Q (.int (Xw n r)) H):=by
 intro jJ s σ H xs us Q I r h;obtain⟨p,n,rr,rfl,hp,q⟩:=h;obtain⟨u,rfl,ru⟩:=X2 r
 cases ru
 obtain⟨jL,rv,pl,hz⟩:=I.list hp;have hi:IntsAre jL (n::rr):=Vw rv;obtain⟨xs,e⟩:=hi.allInts.items;have hns:n::rr=xs.toList.map (·.1):=by rw[<-hi.numsOf,<-nums_intItems,<-e]
 have hl:=pl.isList;rw[e] at hl;have hsz:0<xs.size:=by
  have h3:0<(n::rr).length:=by simp
  rw[hns,qj,zg] at h3;exact h3
 refine max_intList (I.ok.hd hc) hl hsz fun v h' tk hv hk=>?_;obtain⟨t,rfl⟩:=intItems_at hv;obtain⟨h1,h2⟩:=argBest_gt (numAt xs) (xs.size-1);have e2:numAt xs (argBest (fun i j=>decide (numAt xs i > numAt xs j)) (xs.size-1))=Xw n rr:=by
  refine Zi0 ?_ fun a ha=>?_
  ·rw[hns,numAt_eq];exact getD_mem (by rw[qj,zg];omega)
  ·rw[hns] at ha
   obtain⟨j,hj,rfl⟩:=mem_getD ha;rw[qj,zg] at hj;rw[<-numAt_eq];exact h2 j (by omega)
 rw[e2];exact⟨.int (Xw n rr),H,I.kept (t':=tk) hk,⟨_,rfl⟩,q⟩
theorem ZfC (hc:X.calm=true):XS X G (.builtin "max") B8:=
 ⟨_,Zhj hc,fun Hf H s xs ds c Q e1 st r q k=>by
  match ds,q,r with
  | [.lst es],q,r=>
   have q:(match ZH es with | some (n::r)=>some (D.int (Xw n r)) | _=>none)=some c:=q
   cases he:ZH es with
   | none=>rw[he] at q;cases q
   | some ns=>
    cases ns with
    | nil=>rw[he] at q;cases q
    | cons n rr=>
     rw[he] at q
     cases q
     obtain⟨v,rfl,rv⟩:=jh r;obtain⟨p,vs,rfl,np,hp,rp⟩:=jc.mp rv;rw[Wv he] at rp;rw[jn rp] at hp;exact⟨p,n,rr,rfl,Zu.of (e1 _ _ np hp),k _ Hf H (.refl e1) st (ja.mpr rfl) (.scal fun z=>z)⟩⟩
noncomputable def B9 (i:Nat)(fx fv:Zb->M D):Zb->M Out:=fun ρ=>Zm (fv ρ) fun v=>Zm (fx ρ) fun x=>match x,(ρ[i]?).bind id with
 | .int k,some (.lst ds)=>match XX ds.length k with | some j=>ZD (.nx (ρ.set i (some (.lst (ds.set j v))))) | none=>Zz
 | _,_=>Zz
theorem Zi1 {ob own:List Nat}{fr r1 r2:Bool}{i:Nat}{x:Str}{ex ev:Expr}{p1 p2 pos:Pos}{fx fv:Zb->M D}(hi:i∈own)(hn:PE X (.Name x p1) (Z7 i))(hx:PD X G r1 ex fx)(hv:PD X G r2 ev fv)
  (hs:swapsWithSole [.Subscript (.Name x p1) ex p2] ev pos.line X.env=pure false:=by rfl) (hw:swappedStores [.Subscript (.Name x p1) ex p2] ev X.env=pure none:=by rfl)
  (h1:(assignEach [.Subscript (.Name x p1) ex p2] X.env).map (·.2)=[assign (.Subscript (.Name x p1) ex p2) X.env]:=by rfl)
  (ha:∀v,assign (.Subscript (.Name x p1) ex p2) X.env v=(do
   let ov<-holding [v] (eval (.Name x p1) X.env)
   let iv<-holding [v,ov] (eval ex X.env)
   standAt p2
   holding [v,ov,iv] (setItem ov iv v)
   release [v,ov,iv] []):=by intro _;rfl) :
  Yx X G ob own own fr (.Assign [.Subscript (.Name x p1) ex p2] ev pos) (B9 i (fun ρ=>fx (Z8 own ρ)) (fun ρ=>fv (Z8 own ρ))):=by
 obtain⟨tv,pv',qv⟩:=hv;obtain⟨tx,px,qx⟩:=hx;have yv:XH G r2 tv fv:=qv;have yx:XH G r1 tx fx:=qx;refine⟨_,Ze6 pv' (ZhZ hn px Zd9 ha) hs hw h1,fun kn jT H0 σ H ρ s out s' E ⟨Hf,j⟩ st e po=>?_⟩;obtain⟨v,s1,a1,a2⟩:=Zv e;obtain⟨xx,s2,a3,a4⟩:=Zv a2;refine yv.a kn jT H0 σ Hf H ρ s v s1 _ j st a1 fun w jU H1 j1 e1 e2 j9 r1 _=>?_
 match xx,a4,a3 with
 | .int k,a4,a3=>
  cases hb:(ρ[i]?).bind id with
  | none=>rw[hb] at a4;cases a4
  | some c=>
   rw[hb] at a4
   cases c with
   | lst ds=>
    have a4':(match XX ds.length k with | some j=>ZD (Out.nx (ρ.set i (some (.lst (ds.set j v))))) | none=>Zz) s2=some (out,s'):=a4
    cases hj:XX ds.length k with
    | none=>rw[hj] at a4';cases a4'
    | some jj=>
     rw[hj] at a4';obtain⟨rfl,rfl⟩:=ZL a4';have ei:=JM hb;obtain⟨a,vs,h1,h2,h3,h4⟩:=UO j1 hi ei;refine⟨_,h1,?_⟩;refine yx.a kn jT H0 σ jU H1 ρ s1 _ _ _ j1 j9 a3 fun w2 jY H2 j2 e3 e4 j7 r2 _=>?_;rw[ja.mp r2];obtain⟨a',vs',h1',h2',h3',h4'⟩:=UO j2 hi ei;rw[h1] at h1';cases h1';refine⟨a,vs',k,jj,rfl,rfl,h3',by rw[<-h4'.length];exact hj,?_⟩;exact po σ _ ⟨jY,j2.put hi ei h1 ⟨vs'.set jj w,ZI,h4'.set jj (r1.ext e3)⟩⟩ (jv j7 h2)
   | _=>cases a4
end
theorem ZaI:∀{a b:List Int},a.Perm b->a.Pairwise (·<=·)->b.Pairwise (·<=·)->a=b
 | [],b,p,_,_=>(List.nil_perm.mp p).symm
 | x::a,[],p,_,_=>absurd p.length_eq (by simp)
 | x::a,y::b,p,ha,hb=>by
  have ha':=zP.mp ha;have hb':=zP.mp hb;have e:x=y:=by
   have h1:x∈y::b:=p.mem_iff.mp (by simp);have h2:y∈x::a:=p.mem_iff.mpr (by simp);rcases qt.mp h1 with h1 | h1
   ·exact h1
   ·rcases qt.mp h2 with h2 | h2
    ·exact h2.symm
    ·have:=hb'.1 x h1
     have:=ha'.1 y h2;omega
  subst e;rw[ZaI (List.Perm.cons_inv p) ha'.2 hb'.2]
noncomputable def WF (ns:List Int):List Int:=ns.mergeSort fun a b=>decide (a<=b)
theorem Zce (ns:List Int):(WF ns).Perm ns:=qbE ns _
theorem ZdP (ns:List Int):(WF ns).Pairwise (·<=·):=by
 have h:=qa8 (le:=fun(a b:Int)=>decide (a<=b)) (fun a b c h1 h2=>by simp at h1 h2⊢;omega) (fun a b=>by simp;omega) ns;exact h.imp fun h=>by simpa using h
theorem Zcf {a ns:List Int}(p:a.Perm ns)(h:a.Pairwise (·<=·)):a=WF ns:=ZaI (p.trans (Zce ns).symm) h (ZdP ns)
section
variable {X:Cx}{G:Gh}
theorem Zbc:∀{vs:List Value} {ns:List Int},IntsAre vs ns->Zs (ns.map V.int) vs
 | _,_,.nil=>.nil
 | _,_,.cons n t r=>.cons ⟨t,rfl⟩ (Zbc r)
theorem ZfD:Xy X (.builtin "sorted") (fun xs H Q=>∃(p:Addr) (ns:List Int),xs=[.ref p]/\Zu X.K H p (ns.map V.int)/\ns.length<64/\∀l,H l=none->Q (.ref l) (Zk H l (.lst ((WF ns).map V.int)))):=by
 intro jJ s σ H xs us Q I r h;obtain⟨p,ns,rfl,hp,h64,q⟩:=h;obtain⟨u,rfl,ru⟩:=X2 r
 cases ru
 obtain⟨jL,rv,pl,hz⟩:=I.list hp;have hi:IntsAre jL ns:=Vw rv;have hl:=rv.length;rw[qj] at hl;refine sorted_ints pl.isList hi (by omega) fun out ns' a1 a2 a3=>?_;obtain⟨e,he⟩:=sortedAll_at s.heap jL out;have eo:out=out.toList.toArray:=by simp
 rw[eo] at he;have en:=Zcf a2 a3;subst en;have hle:s.heap.objs.size<=s.heap.objs.size+1:=qbg _;refine⟨.ref (s.heap.objs.size+1),_,I.laid (a:=s.heap.objs.size+1) (o:=.lst ((WF ns).map V.int)) (t':=s.toks) (fun _ _=>sortedAll_old) hle ⟨?_,out.toList,e,Zbc a1,he⟩,rfl,q _ (I.hok.fresh hle)⟩;rw[qj,(Zce ns).length_eq,sizeLine_eq];omega
noncomputable def BO:List D->Option D
 | [.lst ds]=>match ZH ds with | some ns=>if ns.length<64 then some (.lst ((WF ns).map .int)) else none | none=>none
 | _=>none
theorem Bz {Hf:Hp}:∀ns:List Int,Zg G Hf (ns.map D.int) (ns.map V.int)
 | []=>Zg.nil_iff.mpr rfl
 | n::ns=>.cons (ja.mpr rfl) (Bz ns)
theorem ZdQ:XS X G (.builtin "sorted") BO:=
 ⟨_,ZfD,fun Hf H s xs ds c Q e1 st r q k=>by
  match ds,q,r with
  | [.lst es],q,r=>
   have q:(match ZH es with | some ns=>if ns.length<64 then some (D.lst ((WF ns).map .int)) else none | none=>none)=some c:=q
   cases he:ZH es with
   | none=>rw[he] at q;cases q
   | some ns=>
    rw[he] at q;have q:(if ns.length<64 then some (D.lst ((WF ns).map .int)) else none)=some c:=q;split at q
    ·rename_i h64
     cases q
     obtain⟨v,rfl,rv⟩:=jh r;obtain⟨p,vs,rfl,np,hp,rp⟩:=jc.mp rv;rw[Wv he] at rp;rw[jn rp] at hp;refine⟨p,ns,rfl,Zu.of (e1 _ _ np hp),h64,fun l hl=>?_⟩;have nf:=Gh.nofp st hl;have g2:=Gr.new (o:=.lst ((WF ns).map V.int)) e1 hl nf;exact k (.ref l) _ _ g2 (Gh.grow st hl) (jc.mpr ⟨l,_,rfl,nf,ZI,Bz _⟩) (Yo.mk e1 hl nf (Bz _))
    ·cases q⟩
theorem Zhk {ob own own':List Nat}{fr:Bool}{sts:List Stmt}:XV X G ob own own' fr sts (fun _=>Zz):=⟨fun _ _ _=>False,fun _ _ _ _ _ _ h=>h.elim,fun _ _ _ _ _ _ _ _ _ _ _ _ e _=>by cases e⟩
end
end TF
namespace HT
section
variable {prog:Program}{w:World}{A:Around}{E:Value->Shared->Prop}{s:Shared}
end
end HT
namespace TF
open L2
section
variable {X:Cx}{G:Gh}
end
end TF
namespace L2
open AutoSeq1 (wpAny_loadPart')
section
variable {prog:Program}{w:World}{A:Around}{E:Value->Shared->Prop}{s:Shared}
theorem ZfE {q t:Addr}{i:Nat}{ys:Array Value}{x:Value}{Q:Value->Shared->Prop}(hq:s.heap.IsTupleIter q t i)(ht:s.heap.IsTuple t ys)(hx:ys[i]?=some x)
  (k:∀h',h'.IsTupleIter q t (i+1)->yR q s.heap h'->Q x { s with heap:=h' }):wpAny (model prog w) A (zk (.ref q)) Q E s:=by
 obtain⟨o,ho,hc,hd⟩:=id hq;obtain⟨ol,hol,_,nl,hdl⟩:=ht;unfold zk;refine wpAny_bind (wpAny_callSpecial?_slot (name:=qw "__next__") hq.typeIs yi (wpAny_call_entry yi hq.typeIs qaG ?_ (qaC _)));show wpAny _ _ (field (.ref q) 0 >>= _) _ _ s;refine wpAny_bind (wpAny_field ho hd (x:=.ref t) rfl ?_);show wpAny _ _ (if (qI t==qL)=true then _ else _) _ _ s;rw[if_neg (show ¬((qI t==qL)=true) from zD)];show wpAny _ _ (field (.ref q) 1 >>= _) _ _ s;refine wpAny_bind (wpAny_field ho hd (x:=.int i 0) rfl ?_);show wpAny _ _ (seqItems? (.ref t) >>= _) _ _ s;refine wpAny_bind (wpAny_seqItems hol hdl ?_);simp only[z5,hx];exact wpAny_bind (wpAny_setField ho hd (by simp) (wpAny_pure ⟨x,rfl,wpAny_pure (k _ ⟨_,qbk _ ho (Obj.isFreed_of_fields (Obj.data_mapFields hd _)),(Obj.cls_mapFields ..).trans hc,by rw[Obj.data_mapFields hd];simp[rawInt]⟩ (qbF ..))⟩))
theorem Zhl {q t:Addr}{i:Nat}{ys:Array Value}{Q:Value->Shared->Prop}(hh:A.handled=none)(hq:s.heap.IsTupleIter q t i)(ht:s.heap.IsTuple t ys)(hx:ys[i]?=none)
  (hE:∀h' e,Heap.ExtBut q s.heap h'->(∃o,h'.get? e=some o/\o.cls=.type "StopIteration")->E (.ref e) { s with heap:=h' }):wpAny (model prog w) A (zk (.ref q)) Q E s:=by
 obtain⟨o,ho,hc,hd⟩:=id hq;obtain⟨ol,hol,_,nl,hdl⟩:=ht;unfold zk;refine wpAny_bind (wpAny_callSpecial?_slot (name:=qw "__next__") hq.typeIs yi (wpAny_call_entry yi hq.typeIs qaG ?_ (qaC _)));show wpAny _ _ (field (.ref q) 0 >>= _) _ _ s;refine wpAny_bind (wpAny_field ho hd (x:=.ref t) rfl ?_);show wpAny _ _ (if (qI t==qL)=true then _ else _) _ _ s;rw[if_neg (show ¬((qI t==qL)=true) from zD)];show wpAny _ _ (field (.ref q) 1 >>= _) _ _ s;refine wpAny_bind (wpAny_field ho hd (x:=.int i 0) rfl ?_);show wpAny _ _ (seqItems? (.ref t) >>= _) _ _ s;refine wpAny_bind (wpAny_seqItems hol hdl ?_);simp only[z5,hx];refine wpAny_bind (wpAny_rule (wpAny_bind (wpAny_setField ho hd (by simp) ?_)));show wpAny _ _ (newExc (.type "StopIteration") [] >>= _) _ _ _;refine wpAny_bind ?_;simp only[newExc,newTuple];refine wpAny_bind (wpAny_newObj_type ?_ (by size_fits));refine wpAny_bind (m:=firstArgMember _ _) (wpAny_of_eq (a:=qL) (by first | rfl | (simp only[firstArgMember];rfl)) ?_);refine wpAny_newObj_type ?_ (by size_fits);simp only[raiseNew];refine wpAny_bind (wpAny_handled ?_)
 first | rw[show A.in1.handled=none from hh];refine wpAny_bind (wpAny_pure (wpAny_throw ?_)) | rw[hh];refine wpAny_bind (wpAny_pure (wpAny_throw ?_))
 exact hE _ _ (((qbF ..).extBut.push _).push _) ⟨_,qy _ rfl,rfl⟩
end
theorem BW {prog:Program}{w:World}{A:Around}(hh:A.handled=none)(q t:Addr)(hne:t≠q)(ys:Array Value):Draws prog w A q [q,t] ys.size (fun i v=>ys[i]?=some v) (fun i h=>h.IsTupleIter q t i/\h.IsTuple t ys) where
 live:=fun _ _ st=>let ⟨o,ho,_⟩:=st.1;⟨o,ho⟩
 frame:=fun _ _ _ st k=>⟨st.1.at fun o e=>k q (by simp) o e,st.2.at fun o e=>k t (by simp) o e⟩
 item:=fun i s Q E hi st k=>ZfE st.1 st.2 (x:=ys[i]) (by simp[hi]) fun h' g sb=>k _ h' s.toks (by simp[hi]) ⟨g,st.2.at fun o e=>(sb.2 t hne).trans e⟩ sb
 done:=fun s Q E st hE=>Zhl hh st.1 st.2 (by simp) hE
end L2
namespace TF
open L2
section
variable {X:Cx}{G:Gh}
end
section
variable {X:Cx}{G:Gh}
noncomputable def dNeg (f:Zb->M D):Zb->M D:=fun ρ=>Zm (f ρ) fun d=>match d with | .int i=>ZD (.int (-i)) | _=>Zz
theorem ZkC {a:Expr}{pos:Pos}{f:Zb->M D}{r1:Bool}(ha:PD X G r1 a f):PD X G true (.UnaryOp .USub a pos) (dNeg f):=by
 obtain⟨t,p,q⟩:=ha.drop;refine⟨_,Zk3 Zh4 p,fun σ Hf H ρ s d s' Q e1 e2 e3 e4 k=>?_⟩;obtain⟨d0,s1,a1,a2⟩:=Zv e4;refine q σ Hf H ρ s d0 s1 _ e1 e2 e3 a1 fun v jU H1 g1 j9 r1=>?_
 match d0,a2,r1 with
 | .int i,a2,r1=>
  obtain⟨rfl,rfl⟩:=ZL a2;exact⟨i,ja.mp r1,k _ jU H1 g1 j9 (ja.mpr rfl) fun _=>.scal fun z=>z⟩
end
end TF
namespace L2
section
variable {prog:Program}{w:World}{A:Around}{E:Value->Shared->Prop}{s:Shared}
theorem Zi2 {t:Addr}{vs:List Value}{Q:List Value->Shared->Prop}(ht:s.heap.IsTuple t vs.toArray)(k:Q vs { s with heap:=(s.heap.push (seqObj "list" #[] 0)).update s.heap.objs.size (qR (· ++ vs.toArray)) })(hz:vs.length<=sizeLine):wpAny (model prog w) A (collect (.ref t)) Q E s:=by
 obtain⟨o,ho,hc,n,hd⟩:=id ht;unfold collect;refine wpAny_bind (wpAny_runValue (codeAny_builtin entry_proto_collect' ?_));show wpAny _ _ (do again (.builtin "list.__iadd__" ⟨[<-newList [],.ref t],[]⟩)) _ _ s;refine wpAny_bind (wpAny_newList (wpAny_pure ⟨Code.quiet_builtin _ (by decide +kernel),codeAny_builtin entry_list_iadd' ?_⟩));show wpAny _ _ (yE (.ref s.heap.objs.size) (.ref t) (.ref s.heap.objs.size)) _ _ { s with heap:=s.heap.push (seqObj "list" #[] 0) };unfold yE;have ho':(s.heap.push (seqObj "list" #[] 0)).get? t=some o:=qd _ ho;refine wpAny_bind (wpAny_typeOf (T:="tuple") ⟨o,ho',hc⟩ ?_);have hb:(yC "tuple" == yC "tuple")=true:=by rfl
 rw[if_pos (by rw[hb];simp)];refine wpAny_bind (listItems_at ho' hd ?_);refine wpAny_bind (listItems_at (xs:=#[]) (n:=0) (qy _ rfl) rfl ?_);rw[if_neg (by simp)];refine wpAny_bind (listUpdate_at (xs:=#[]) (n:=0) (qy _ rfl) rfl ?_ (zj _) (by show(#[]++vs.toArray).size<=sizeLine+1;simp only[Array.size_append,qq,zK];omega));refine wpAny_pure ?_;show wpAny (model prog w) A (do let o<-load s.heap.objs.size;match o.data with | .seq xs _=>pure xs.toList | _=>unsupported "internal:collect") Q E { s with heap:=(s.heap.push (seqObj "list" #[] 0)).update s.heap.objs.size (qR (· ++ vs.toArray)) };refine wpAny_bind (wpAny_load (get?_update_seq (qy _ rfl) _) ?_);show wpAny _ _ (pure ((#[]:Array Value)++vs.toArray).toList) Q E _;rw[show((#[]:Array Value)++vs.toArray).toList=vs by simp];exact wpAny_pure k
end
end L2
namespace TF
open L2
section
variable {X:Cx}{G:Gh}
end
end TF
namespace L2
end L2
namespace TF
open L2
section
variable {X:Cx}{G:Gh}
end
end TF
namespace L2
section
variable {prog:Program}{w:World}{A:Around}{E:Value->Shared->Prop}{s:Shared}{o:Obj}{es:Array DictEntry}{d it:Addr}{ep i:Nat}
end
section
variable {X:Cx}{tg:Expr}
end
end L2
namespace TF
open L2
section
variable {X:Cx}{G:Gh}
end
end TF
namespace L2
structure ZG (z TI TO i1 i2:Addr)(f1 f2:List Addr):Prop extends ZDist z TI TO i1 i2 where
 f1n:∀c∈f1,c≠z/\c≠TO/\c≠i2
 f2n:∀c∈f2,c≠z/\c≠TO/\c≠i1
section
variable {prog:Program}{w:World}{A:Around}{E:Value->Shared->Prop}{s:Shared}{z TI TO i1 i2:Addr}{f1 f2:List Addr}{n1 n2 k:Nat}{P1 P2:Nat->Value->Prop}{S1 S2:Nat->Heap->Prop}{a b:Value}
theorem Zhm {Q:Value->Shared->Prop}(D1:Draws prog w A i1 f1 n1 P1 S1)(D2:Draws prog w A i2 f2 n2 P2 S2)(Z:ZG z TI TO i1 i2 f1 f2)(hz:IsZip s.heap z TI TO .none)(hTI:IsPair s.heap TI (.ref i1) (.ref i2))(hTO:IsPair s.heap TO a b)(h1:S1 k s.heap)(h2:S2 k s.heap)(k1:k<n1)(k2:k<n2)
  (hQ:∀h' tk x y,P1 k x->P2 k y->IsZip h' z TI TO (rawInt s.heap.objs.size)->IsPair h' TO x y->S1 (k+1) h'->S2 (k+1) h'->IsPair h' s.heap.objs.size x y->
   (∀c o,c≠z->c≠TO->c≠i1->c≠i2->s.heap.get? c=some o->h'.get? c=some o)->Q (.ref s.heap.objs.size) { s with heap:=h',toks:=tk }) :
  wpAny (model prog w) A (Builtin.«zip.__next__» ⟨[.ref z],[]⟩) (fun fin s'=>∃v,fin=.done (.ret v)/\Q v s') E s:=by
 show wpAny _ _ (field (.ref z) 2 >>= _) _ _ _;refine wpAny_bind (wpAny_field hz rfl (x:=.bool false) rfl ?_);show wpAny _ _ (field (.ref z) 3 >>= _) _ _ _;refine wpAny_bind (wpAny_field hz rfl (x:=.ref TI) rfl ?_);refine wpAny_bind (wpAny_seqItems hTI rfl ?_);show wpAny _ _ (zT (.ref z) >>= _) _ _ _;refine wpAny_bind ?_;unfold zT;refine wpAny_bind (wpAny_field hz rfl (x:=.none) rfl (wpAny_pure ?_));simp only[if_true];refine wpAny_bind (wpAny_rule ?_);refine wpAny_bind (wpAny_field hz rfl (x:=.ref TO) rfl ?_);refine wpAny_bind (wpAny_setField_rec hz (by simp) fun g1 q1 b1=>?_);replace q1:IsZip g1 z TI TO .ellipsis:=q1;refine wpAny_bind ?_;simp only[List.zipIdx_cons,List.zipIdx_nil,yP,qbn];refine wpAny_bind (wpAny_bind (wpAny_onRaise ?_));show wpAny _ _ (zk (.ref i1) >>= _) _ _ _;have s1:S1 k g1:=D1.frame _ _ _ h1 fun c m o e=>b1.extBut _ _ (Z.f1n c m).1 e;refine wpAny_bind (D1.item k { s with heap:=g1 } _ _ k1 s1 fun x g2 t2 px s1' b2=>wpAny_pure ?_);have c2:IsPair g2 TO a b:=b2.extBut _ _ Z.TOi1 (b1.extBut _ _ Z.TOz hTO);refine wpAny_bind (wpAny_seqItems c2 rfl ?_);refine wpAny_bind (wpAny_updateSeq_pair c2 fun g3 c3 b3=>?_);replace c3:IsPair g3 TO x b:=c3;refine wpAny_bind (wpAny_letGo (wpAny_pure ?_));refine wpAny_bind (wpAny_bind (wpAny_onRaise ?_));show wpAny _ _ (zk (.ref i2) >>= _) _ _ _;have s2:S2 k g3:=D2.frame _ _ _ h2 fun c m o e=>b3.extBut _ _ (Z.f2n c m).2.1 (b2.extBut _ _ (Z.f2n c m).2.2 (b1.extBut _ _ (Z.f2n c m).1 e));refine wpAny_bind (D2.item k { s with heap:=g3,toks:=t2 } _ _ k2 s2 fun y g4 t4 py s2' b4=>wpAny_pure ?_);have c4:IsPair g4 TO x b:=b4.extBut _ _ Z.TOi2 c3;refine wpAny_bind (wpAny_seqItems c4 rfl ?_);refine wpAny_bind (wpAny_updateSeq_pair c4 fun g5 c5 b5=>?_);replace c5:IsPair g5 TO x y:=c5;refine wpAny_bind (wpAny_letGo (wpAny_pure (wpAny_pure ?_)));refine wpAny_bind (wpAny_seqItems c5 rfl ?_);refine wpAny_bind (wpAny_newTuple ?_);have hsz:g5.objs.size=s.heap.objs.size:=by rw[b5.1,b4.1,b3.1,b2.1,b1.1]
 have q5:IsZip g5 z TI TO .ellipsis:=b5.extBut _ _ Z.TOz.symm (b4.extBut _ _ Z.i2z.symm (b3.extBut _ _ Z.TOz.symm (b2.extBut _ _ Z.i1z.symm q1)));have keep5:∀c o,c≠z->c≠TO->c≠i1->c≠i2->s.heap.get? c=some o->g5.get? c=some o:=fun c o u1 u2 u3 u4 e=>b5.extBut _ _ u2 (b4.extBut _ _ u4 (b3.extBut _ _ u2 (b2.extBut _ _ u3 (b1.extBut _ _ u1 e))));have s15:S1 (k+1) g5:=D1.frame _ _ _ s1' fun c m o e=>b5.extBut _ _ (Z.f1n c m).2.1 (b4.extBut _ _ (Z.f1n c m).2.2 (b3.extBut _ _ (Z.f1n c m).2.1 e));have s25:S2 (k+1) g5:=D2.frame _ _ _ s2' fun c m o e=>b5.extBut _ _ (Z.f2n c m).2.1 e;have zlt:z<g5.objs.size:=qz q5;show wpAny _ _ (yX (.ref z) (.ref g5.objs.size) >>= _) _ _ _;refine wpAny_bind ?_;unfold yX;have q6:IsZip (g5.push { cls:=.type "tuple",data:=.seq #[x,y] }) z TI TO .ellipsis:=qd _ q5;refine wpAny_bind (wpAny_setField_rec q6 (by simp) fun g7 q7 b7=>?_);replace q7:IsZip g7 z TI TO (rawInt g5.objs.size):=q7;refine wpAny_setField_rec q7 (by simp) fun g8 q8 b8=>?_;replace q8:IsZip g8 z TI TO (rawInt g5.objs.size):=q8;have up:∀c o,c≠z->g5.get? c=some o->g8.get? c=some o:=fun c o u e=>b8.extBut _ _ u (b7.extBut _ _ u (qd _ e));have hT:IsPair g8 g5.objs.size x y:=b8.extBut _ _ (qaW zlt) (b7.extBut _ _ (qaW zlt) (qy _ rfl));rw[hsz] at q8 hT;refine wpAny_pure ⟨_,rfl,?_⟩;show Q (.ref g5.objs.size) _;rw[hsz];exact hQ g8 t4 x y px py q8 (up _ _ Z.TOz c5) (D1.frame _ _ _ s15 fun c m o e=>up c o (Z.f1n c m).1 e) (D2.frame _ _ _ s25 fun c m o e=>up c o (Z.f2n c m).1 e) hT fun c o u1 u2 u3 u4 e=>up c o u1 (keep5 c o u1 u2 u3 u4 e)
theorem Zi3 {Q:qbO->Shared->Prop}(D1:Draws prog w A i1 f1 n1 P1 S1)(D2:Draws prog w A i2 f2 n2 P2 S2)(Z:ZG z TI TO i1 i2 f1 f2)(hz:IsZip s.heap z TI TO .none)(hTI:IsPair s.heap TI (.ref i1) (.ref i2))(hTO:IsPair s.heap TO a b)(h1:S1 k s.heap)(h2:S2 k s.heap)(hk:k=n1∨(k<n1/\k=n2))
  (hE:∀h' tk e,(∀c o,c≠z->c≠TO->c≠i1->c≠i2->s.heap.get? c=some o->h'.get? c=some o)->(∃o,h'.get? e=some o/\o.cls=.type "StopIteration")->E (.ref e) { s with heap:=h',toks:=tk }) :
  wpAny (model prog w) A (Builtin.«zip.__next__» ⟨[.ref z],[]⟩) Q E s:=by
 show wpAny _ _ (field (.ref z) 2 >>= _) _ _ _;refine wpAny_bind (wpAny_field hz rfl (x:=.bool false) rfl ?_);show wpAny _ _ (field (.ref z) 3 >>= _) _ _ _;refine wpAny_bind (wpAny_field hz rfl (x:=.ref TI) rfl ?_);refine wpAny_bind (wpAny_seqItems hTI rfl ?_);show wpAny _ _ (zT (.ref z) >>= _) _ _ _;refine wpAny_bind ?_;unfold zT;refine wpAny_bind (wpAny_field hz rfl (x:=.none) rfl (wpAny_pure ?_));simp only[if_true];refine wpAny_bind (wpAny_rule ?_);refine wpAny_bind (wpAny_field hz rfl (x:=.ref TO) rfl ?_);refine wpAny_bind (wpAny_setField_rec hz (by simp) fun g1 q1 b1=>?_);replace q1:IsZip g1 z TI TO .ellipsis:=q1;refine wpAny_bind ?_;simp only[List.zipIdx_cons,List.zipIdx_nil,yP,qbn];refine wpAny_bind (wpAny_bind (wpAny_onRaise ?_));show wpAny _ _ (zk (.ref i1) >>= _) _ _ _;have s1:S1 k g1:=D1.frame _ _ _ h1 fun c m o e=>b1.extBut _ _ (Z.f1n c m).1 e;rcases hk with hk | ⟨hk1,hk⟩
 ·subst hk
  refine wpAny_bind (D1.done { s with heap:=g1 } _ _ s1 fun g2 e b2 he=>?_);obtain⟨oe,hoe,hce⟩:=he;have q2:IsZip g2 z TI TO .ellipsis:=b2 _ _ Z.i1z.symm q1;have hez:e≠z:=fun x=>by rw[x,q2] at hoe;cases hoe;exact absurd (qaB hce) (by decide)
  exact wpAny_setField_rec q2 (by simp) fun g3 _ b3=>hE g3 s.toks e (fun c o u1 _ u3 _ x=>b3.extBut _ _ u1 (b2 _ _ u3 (b1.extBut _ _ u1 x))) ⟨oe,b3.extBut _ _ hez hoe,hce⟩
 ·subst hk
  refine wpAny_bind (D1.item k { s with heap:=g1 } _ _ hk1 s1 fun x g2 t2 px s1' b2=>wpAny_pure ?_);have c2:IsPair g2 TO a b:=b2.extBut _ _ Z.TOi1 (b1.extBut _ _ Z.TOz hTO);refine wpAny_bind (wpAny_seqItems c2 rfl ?_);refine wpAny_bind (wpAny_updateSeq_pair c2 fun g3 c3 b3=>?_);refine wpAny_bind (wpAny_letGo (wpAny_pure ?_));refine wpAny_bind (wpAny_bind (wpAny_onRaise ?_));show wpAny _ _ (zk (.ref i2) >>= _) _ _ _;have s2:S2 k g3:=D2.frame _ _ _ h2 fun c m o e=>b3.extBut _ _ (Z.f2n c m).2.1 (b2.extBut _ _ (Z.f2n c m).2.2 (b1.extBut _ _ (Z.f2n c m).1 e));refine wpAny_bind (D2.done { s with heap:=g3,toks:=t2 } _ _ s2 fun g4 e b4 he=>?_);obtain⟨oe,hoe,hce⟩:=he;have q4:IsZip g4 z TI TO .ellipsis:=b4 _ _ Z.i2z.symm (b3.extBut _ _ Z.TOz.symm (b2.extBut _ _ Z.i1z.symm q1));have hez:e≠z:=fun x=>by rw[x,q4] at hoe;cases hoe;exact absurd (qaB hce) (by decide)
  exact wpAny_setField_rec q4 (by simp) fun g5 _ b5=>hE g5 t2 e (fun c o u1 u2 u3 u4 x=>b5.extBut _ _ u1 (b4 _ _ u4 (b3.extBut _ _ u2 (b2.extBut _ _ u3 (b1.extBut _ _ u1 x))))) ⟨oe,b5.extBut _ _ hez hoe,hce⟩
theorem ZfF {Q:Option Value->Shared->Prop}(D1:Draws prog w A.in1 i1 f1 n1 P1 S1)(D2:Draws prog w A.in1 i2 f2 n2 P2 S2)(Z:ZG z TI TO i1 i2 f1 f2)(hz:IsZip s.heap z TI TO .none)(hTI:IsPair s.heap TI (.ref i1) (.ref i2))(hTO:IsPair s.heap TO a b)(h1:S1 k s.heap)(h2:S2 k s.heap)(k1:k<n1)(k2:k<n2)
  (hQ:∀h' tk x y,P1 k x->P2 k y->IsZip h' z TI TO (rawInt s.heap.objs.size)->IsPair h' TO x y->S1 (k+1) h'->S2 (k+1) h'->IsPair h' s.heap.objs.size x y->
   (∀c o,c≠z->c≠TO->c≠i1->c≠i2->s.heap.get? c=some o->h'.get? c=some o)->Q (some (.ref s.heap.objs.size)) { s with heap:=h',toks:=tk }):wpAny (model prog w) A (pyNext (.ref z)) Q E s:=by
 have hT:s.TypeIs (.ref z) "zip":=⟨_,hz,rfl⟩;unfold pyNext;exact wpAny_bind (wpAny_attempt (wpAny_callSpecial?_slot (name:=qw "__next__") hT qax (wpAny_call_entry qax hT F.entry_zip_next (Zhm D1 D2 Z hz hTI hTO h1 h2 k1 k2 fun h' tk x y a0 a1 a2 a3 a4 a5 a6 a7=>wpAny_pure (hQ h' tk x y a0 a1 a2 a3 a4 a5 a6 a7)) (F.args_zip_next_1 _))))
theorem Zhn {Q:Option Value->Shared->Prop}(D1:Draws prog w A.in1 i1 f1 n1 P1 S1)(D2:Draws prog w A.in1 i2 f2 n2 P2 S2)(Z:ZG z TI TO i1 i2 f1 f2)(hz:IsZip s.heap z TI TO .none)(hTI:IsPair s.heap TI (.ref i1) (.ref i2))(hTO:IsPair s.heap TO a b)(h1:S1 k s.heap)(h2:S2 k s.heap)(hk:k=n1∨(k<n1/\k=n2))
  (hQ:∀h' tk,(∀c o,c≠z->c≠TO->c≠i1->c≠i2->s.heap.get? c=some o->h'.get? c=some o)->Q none { s with heap:=h',toks:=tk }):wpAny (model prog w) A (pyNext (.ref z)) Q E s:=by
 have hT:s.TypeIs (.ref z) "zip":=⟨_,hz,rfl⟩;unfold pyNext;refine wpAny_bind (wpAny_attempt (wpAny_callSpecial?_slot (name:=qw "__next__") hT qax (wpAny_call_entry qax hT F.entry_zip_next (Zi3 D1 D2 Z hz hTI hTO h1 h2 hk fun h' tk e kk he=>?_) (F.args_zip_next_1 _))));obtain⟨o,ho,hc⟩:=he;refine wpAny_bind (wpAny_isInstance (T:="StopIteration") (b:=true) ⟨o,ho,hc⟩ isSubtype_stop ?_);exact wpAny_pure (hQ _ _ kk)
end
noncomputable def YD (l:Addr):Obj:={ cls:=.type "tuple_iterator",data:=.fields #[.ref l,.int 0 0] }
noncomputable def Wo (x y:Value):Obj:={ cls:=.type "tuple",data:=.seq #[x,y] }
noncomputable def zipO (a b:Addr):Obj:={ cls:=.type "zip",data:=.fields #[.none,.bool false,.bool false,.ref a,.ref b] }
noncomputable def VU (h:Heap)(l1 l2:Addr):Heap:=((((h.push (YD l1)).push (YD l2)).push (Wo (.ref h.objs.size) (.ref (h.push (YD l1)).objs.size))).push (Wo .none .none)).push (zipO ((h.push (YD l1)).push (YD l2)).objs.size (((h.push (YD l1)).push (YD l2)).push (Wo (.ref h.objs.size) (.ref (h.push (YD l1)).objs.size))).objs.size)
theorem Zm8 (l1 l2:Addr)(xs ys:Array Value) :
  Meets (Builtin.«zip.__new__» ⟨[.type "zip",.ref l1,.ref l2],[]⟩) (fun _ R s=>s.heap.IsTuple l1 xs/\s.heap.IsTuple l2 ys/\
   R (.ok (.ret (.ref ((((s.heap.push (YD l1)).push (YD l2)).push (Wo (.ref s.heap.objs.size) (.ref (s.heap.push (YD l1)).objs.size))).push (Wo .none .none)).objs.size))) { s with heap:=VU s.heap l1 l2 }):=
 .of_wp fun prog w A R s h=>by
  obtain⟨hp,g,d,tk,os⟩:=s;obtain⟨hl1,hl2,h⟩:=h;have hsub:=sub_zip;have hT1:Heap.IsTuple (Shared.heap ⟨hp,g,d,tk,os⟩) l1 xs:=hl1;have hT2:Heap.IsTuple (Shared.heap ⟨hp.push { cls:=.type "tuple_iterator",data:=.fields #[.ref l1,.int 0 0] },g,d,tk,os⟩) l2 ys:=hl2.at fun o e=>qd _ e
  wp_walk using wpAny_pyIter_tuple hT1,wpAny_pyIter_tuple hT2
  exact⟨_,rfl,h⟩
section
variable {prog:Program}{w:World}{A:Around}{E:Value->Shared->Prop}{s:Shared}
theorem Zho {l1 l2:Addr}{xs ys:Array Value}{Q:Value->Shared->Prop}(hl1:s.heap.IsTuple l1 xs)(hl2:s.heap.IsTuple l2 ys)
  (h:∀h',IsZip h' (s.heap.objs.size+4) (s.heap.objs.size+2) (s.heap.objs.size+3) .none->IsPair h' (s.heap.objs.size+2) (.ref s.heap.objs.size) (.ref (s.heap.objs.size+1))->IsPair h' (s.heap.objs.size+3) .none .none->
   h'.IsTupleIter s.heap.objs.size l1 0->h'.IsTupleIter (s.heap.objs.size+1) l2 0->(∀c o,s.heap.get? c=some o->h'.get? c=some o)->Q (.ref (s.heap.objs.size+4)) { s with heap:=h' }):wpAny (model prog w) A (call (.type "zip") [.ref l1,.ref l2]) Q E s:=by
 refine callType_new F.called_zip (by decide) (F.typeCall_zip_2 _ _) (F.newCall_zip_2 _ _) (fun obj=>F.args_object_init_3 obj _ _) F.entry_zip_new (Zm8 l1 l2 xs ys) ⟨hl1,hl2,?_⟩;have z1:(s.heap.push (YD l1)).objs.size=s.heap.objs.size+1:=y4 ..;have z2:((s.heap.push (YD l1)).push (YD l2)).objs.size=s.heap.objs.size+2:=by rw[y4,z1]
 have z3:(((s.heap.push (YD l1)).push (YD l2)).push (Wo (.ref s.heap.objs.size) (.ref (s.heap.push (YD l1)).objs.size))).objs.size=s.heap.objs.size+3:=by rw[y4,z2]
 have z4:((((s.heap.push (YD l1)).push (YD l2)).push (Wo (.ref s.heap.objs.size) (.ref (s.heap.push (YD l1)).objs.size))).push (Wo .none .none)).objs.size=s.heap.objs.size+4:=by rw[y4,z3]
 have g5:(VU s.heap l1 l2).get? (s.heap.objs.size+4)=some (zipO (s.heap.objs.size+2) (s.heap.objs.size+3)):=by
  unfold VU;have e:=qy ((((s.heap.push (YD l1)).push (YD l2)).push (Wo (.ref s.heap.objs.size) (.ref (s.heap.push (YD l1)).objs.size))).push (Wo .none .none)) (o:=zipO (s.heap.objs.size+2) (s.heap.objs.size+3)) rfl;rw[z4] at e;rw[z3,z2];exact e
 have g4:(VU s.heap l1 l2).get? (s.heap.objs.size+3)=some (Wo .none .none):=by
  rw[<-z3];exact qd _ (qy _ rfl)
 have g3:(VU s.heap l1 l2).get? (s.heap.objs.size+2)=some (Wo (.ref s.heap.objs.size) (.ref (s.heap.objs.size+1))):=by
  have e:=qy ((s.heap.push (YD l1)).push (YD l2)) (o:=Wo (.ref s.heap.objs.size) (.ref (s.heap.push (YD l1)).objs.size)) rfl;rw[z2] at e;unfold VU;rw[qd _ (qd _ e),z1]
 have g2:(VU s.heap l1 l2).get? (s.heap.objs.size+1)=some (YD l2):=by
  rw[<-z1];exact qd _ (qd _ (qd _ (qy _ rfl)))
 have g1:(VU s.heap l1 l2).get? s.heap.objs.size=some (YD l1):=qd _ (qd _ (qd _ (qd _ (qy _ rfl))));show _/\_;rw[z4];exact⟨⟨_,g5,rfl⟩,h _ g5 g3 g4 ⟨_,g1,rfl,rfl⟩ ⟨_,g2,rfl,rfl⟩ fun c o x=>qd _ (qd _ (qd _ (qd _ (qd _ x))))⟩
end
end L2
namespace L2
noncomputable def Itzt (a b:Addr):It where
 go:=fun i H=>∃xs ys x y,H a=some (.tup xs)/\H b=some (.tup ys)/\xs[i]?=some x/\ys[i]?=some y
 yld:=fun i H v H'=>∃T x y,H T=none/\v=.ref T/\H'=Zk H T (.tup [x,y])/\(∀xs,H a=some (.tup xs)->xs[i]?=some x)/\(∀ys,H b=some (.tup ys)->ys[i]?=some y)
 stop:=fun i H=>∃xs ys,H a=some (.tup xs)/\H b=some (.tup ys)/\i=min xs.length ys.length
noncomputable def Zm9 (z TI TO i1 i2 a b:Addr)(i:Nat)(h:Heap):Prop:=IsZip h z TI TO .none/\IsPair h TI (.ref i1) (.ref i2)/\(∃x y,IsPair h TO x y)/\h.IsTupleIter i1 a i/\h.IsTupleIter i2 b i
theorem Zlo {z TI TO i1 i2 a b:Addr}{H:Hp}{xs ys:List V}(D:ZDist z TI TO i1 i2)(hf:∀c∈[z,TI,TO,i1,i2],H c=none)(ha:H a=some (.tup xs))(hb:H b=some (.tup ys)):ZG z TI TO i1 i2 [i1,a] [i2,b] where
 toZDist:=D
 f1n:=fun c m=>by
  simp only[qt,ze,or_false] at m;rcases m with r | r
  ·rw[r];exact⟨D.i1z,D.TOi1.symm,D.i12⟩
  ·rw[r];exact⟨ZP ha (hf _ (by simp)),ZP ha (hf _ (by simp)),ZP ha (hf _ (by simp))⟩
 f2n:=fun c m=>by
  simp only[qt,ze,or_false] at m;rcases m with r | r
  ·rw[r];exact⟨D.i2z,D.TOi2.symm,D.i12.symm⟩
  ·rw[r];exact⟨ZP hb (hf _ (by simp)),ZP hb (hf _ (by simp)),ZP hb (hf _ (by simp))⟩
theorem Zhp {P:Program}{w:World}{K:qf}{elts:List Expr}{k:Nat}{pos:Pos}(a b z TI TO i1 i2:Addr)(D:ZDist z TI TO i1 i2):Turn P w K (.Tuple elts k pos) (Itzt a b) [z,TI,TO,i1,i2] z (Zm9 z TI TO i1 i2 a b) where
 mem:=by simp
 obj:=fun i h st c hc=>by
  obtain⟨hz,hTI,⟨x,y,hTO⟩,⟨o1,e1,c1,d1⟩,⟨o2,e2,c2,d2⟩⟩:=st;simp only[qt,ze,or_false] at hc;rcases hc with rfl | rfl | rfl | rfl | rfl
  ·exact⟨_,hz,fun v q=>by cases q⟩
  ·exact⟨_,hTI,fun v q=>by cases q⟩
  ·exact⟨_,hTO,fun v q=>by cases q⟩
  ·exact⟨_,e1,fun v q=>by rw[d1] at q;cases q⟩
  ·exact⟨_,e2,fun v q=>by rw[d2] at q;cases q⟩
 keep:=fun i h h' st kk=>by
  obtain⟨hz,hTI,⟨x,y,hTO⟩,h1,h2⟩:=st;exact⟨kk z (by simp) _ hz,kk TI (by simp) _ hTI,⟨x,y,kk TO (by simp) _ hTO⟩,h1.at fun o e=>kk i1 (by simp) o e,h2.at fun o e=>kk i2 (by simp) o e⟩
 item:=by
  intro X hP hw hK hc i jJ s σ H E I hf st hg;subst hP hw hK;obtain⟨xs,ys,x,y,hq,hq2,hx,hy⟩:=hg;obtain⟨jL,rv,p,hz⟩:=I.tuple (ZF.of hq);obtain⟨jS,rv2,p2,hz2⟩:=I.tuple (ZF.of hq2);obtain⟨u,hu,ru⟩:=rv.get hx;obtain⟨u2,hu2,ru2⟩:=rv2.get hy;have hn:∀c∈[z,TI,TO,i1,i2],H c=none:=fun c m=>(hf c m).1;have Z:=Zlo D hn hq hq2;have hh:=I.ok.hd hc;obtain⟨t1,t2,⟨p1,q1,t3⟩,t4,t5⟩:=id st;have hl1:i<jL.length:=(qB.mp hu).1;have hl2:i<jS.length:=(qB.mp hu2).1;have D1:=BW (prog:=X.prog) (w:=X.w) (A:=X.A.in1) (show X.A.in1.handled=none from hh) i1 a (ZP hq (hn i1 (by simp))) jL.toArray;have D2:=BW (prog:=X.prog) (w:=X.w) (A:=X.A.in1) (show X.A.in1.handled=none from hh) i2 b (ZP hq2 (hn i2 (by simp))) jS.toArray;refine ZfF D1 D2 Z t1 t2 t3 ⟨t4,show s.heap.IsTuple a jL.toArray from p⟩ ⟨t5,show s.heap.IsTuple b jS.toArray from p2⟩ (by simpa using hl1) (by simpa using hl2) fun h' tk v1 v2 g1 g2 a1 a2 a3 a4 a5 kk=>⟨_,rfl,?_⟩;have e1:v1=u:=by simpa[hu] using g1.symm
  have e2:v2=u2:=by simpa[hu2] using g2.symm
  subst e1 e2;have hT:s.heap.objs.size<=s.heap.objs.size:=qp _;refine wpAny_letOwnedTupleGo_zip a1 fun h2 hz' hs'=>?_;have ltz:z<s.heap.objs.size:=qz t1;have hI2:h2.IsTuple s.heap.objs.size #[v1,v2]:=⟨_,hs'.extBut _ _ (qaW ltz) a5,rfl,_,rfl⟩;have kp:∀c o,c∉[z,TI,TO,i1,i2]->s.heap.get? c=some o->h2.get? c=some o:=fun c o hm e=>by
   simp only[qt,ze,or_false,not_or] at hm;exact hs'.extBut _ _ hm.1 (kk c o hm.1 hm.2.2.1 hm.2.2.2.1 hm.2.2.2.2 e)
  have I1:Inv X jJ σ (Zk H s.heap.objs.size (.tup [x,y])) { s with heap:=h2,toks:=tk }:=I.turnedT (fp:=[z,TI,TO,i1,i2]) kp hf hT ⟨by show 2<=sizeLine;decide,[v1,v2],.cons ru (.cons ru2 .nil),hI2⟩;have up:∀c o,c≠z->h'.get? c=some o->h2.get? c=some o:=fun c o n e=>hs'.extBut _ _ n e;refine⟨.ref s.heap.objs.size,_,I1,rfl,⟨s.heap.objs.size,x,y,I.hok.fresh hT,rfl,rfl,fun xs' h=>by rw[hq] at h;cases h;exact hx,fun ys' h=>by rw[hq2] at h;cases h;exact hy⟩,⟨hz',up _ _ D.TIz (kk _ _ D.TIz D.TITO D.TIi1 D.TIi2 t2),⟨_,_,up _ _ D.TOz a2⟩,a3.1.at fun o e=>up _ o D.i1z e,a4.1.at fun o e=>up _ o D.i2z e⟩,fun c hc=>?_⟩;rw[Zo ?_]
  ·exact hn c hc
  ·intro zc
   subst zc;have old:∃o,s.heap.get? s.heap.objs.size=some o:=by
    obtain⟨o1,e1,_⟩:=t4;obtain⟨o2,e2,_⟩:=t5;generalize s.heap.objs.size=c at hc;simp only[qt,ze,or_false] at hc;rcases hc with r | r | r | r | r
    ·rw[r];exact⟨_,t1⟩
    ·rw[r];exact⟨_,t2⟩
    ·rw[r];exact⟨_,t3⟩
    ·rw[r];exact⟨_,e1⟩
    ·rw[r];exact⟨_,e2⟩
   obtain⟨o,e⟩:=old;exact absurd (qz e) (z6 _)
 done:=by
  intro X hP hw hK hc i jJ s σ H E I hf st hg;subst hP hw hK;obtain⟨xs,ys,hq,hq2,hi⟩:=hg;obtain⟨jL,rv,p,hz⟩:=I.tuple (ZF.of hq);obtain⟨jS,rv2,p2,hz2⟩:=I.tuple (ZF.of hq2);have hn:∀c∈[z,TI,TO,i1,i2],H c=none:=fun c m=>(hf c m).1;have Z:=Zlo D hn hq hq2;have hh:=I.ok.hd hc;obtain⟨t1,t2,⟨p1,q1,t3⟩,t4,t5⟩:=id st;have D1:=BW (prog:=X.prog) (w:=X.w) (A:=X.A.in1) (show X.A.in1.handled=none from hh) i1 a (ZP hq (hn i1 (by simp))) jL.toArray;have D2:=BW (prog:=X.prog) (w:=X.w) (A:=X.A.in1) (show X.A.in1.handled=none from hh) i2 b (ZP hq2 (hn i2 (by simp))) jS.toArray;have l1:=rv.length;have l2:=rv2.length;refine Zhn D1 D2 Z t1 t2 t3 ⟨t4,show s.heap.IsTuple a jL.toArray from p⟩ ⟨t5,show s.heap.IsTuple b jS.toArray from p2⟩ (by rw[qq,qq];omega) fun h' tk kk=>⟨rfl,I.turnedN (fp:=[z,TI,TO,i1,i2]) (fun c o hm e=>?_) hf⟩;simp only[qt,ze,or_false,not_or] at hm;exact kk c o hm.1 hm.2.2.1 hm.2.2.2.1 hm.2.2.2.2 e
 self:=fun A i s Q E st h=>wpAny_pyIter_zip st.1 h
noncomputable def Zna (ta:TA):TI:=fun σ H R=>ta σ H fun vs H1=>∃a b,vs=[.ref a,.ref b]/\(∃xs,H1 a=some (.tup xs))/\(∃ys,H1 b=some (.tup ys))/\R (Itzt a b) H1
theorem ZkD {X:Cx}{elts:List Expr}{k:Nat}{tp:Pos}{a b:Expr}{ta:TA}{p pos:Pos}(hg:Gl X "zip")(hm:X.mg "zip" = none)(ha:PA X [a,b] ta)(hs:starEach [a,b] X.env=[(false,eval a X.env),(false,eval b X.env)]:=by rfl)(hs2:starEach [b] X.env=[(false,eval b X.env)]:=by rfl) :
  PI X (.Tuple elts k tp) (.Call (.Name "zip" p) [a,b] [] pos) (Zna ta):=by
 intro jJ s σ H R I h;refine Call_ (VN I hg hm ZeD (zC (ZC (ha pos jJ s σ H _ I h) fun us s1 ⟨vs,H1,I1,r1,q1⟩=>?_) (by rw[hs,hs2]) (by rw[hs2];rfl)));obtain⟨a',b',e,⟨xs,hq⟩,⟨ys,hq2⟩,q⟩:=q1;subst e
 cases r1 with
 | cons r rr=>
  cases rr with
  | cons r' rr=>
   cases rr
   cases r
   cases r'
   obtain⟨jL,rv,p1,hz⟩:=I1.tuple (ZF.of hq);obtain⟨jS,rv2,p2,hz2⟩:=I1.tuple (ZF.of hq2);refine Zho (show s1.heap.IsTuple a' jL.toArray from p1) (show s1.heap.IsTuple b' jS.toArray from p2) fun h' g1 g2 g3 g4 g5 g7=>?_;refine wpAny_pyIter_zip g1 ?_;have I2:Inv X jJ σ H1 { s1 with heap:=h' }:=I1.kept (t':=s1.toks) g7;refine⟨s1.heap.objs.size+4,[s1.heap.objs.size+4,s1.heap.objs.size+2,s1.heap.objs.size+3,s1.heap.objs.size,s1.heap.objs.size+1],_,_,H1,rfl,I2,Zhp a' b' (s1.heap.objs.size+4) (s1.heap.objs.size+2) (s1.heap.objs.size+3) s1.heap.objs.size (s1.heap.objs.size+1) (Zlm _),⟨g1,g2,⟨_,_,g3⟩,g4,g5⟩,fun c hc=>?_,q⟩;simp only[qt,ze,or_false] at hc;have hle:s1.heap.objs.size<=c:=by rcases hc with r | r | r | r | r <;> rw[r] <;> first | exact qp _ | exact Nat.le_add_right _ _
   exact I1.fpOk hle (I1.hok.fresh hle)
end L2
namespace TF
open L2
section
variable {X:Cx}{G:Gh}
theorem Wp.zipT {a b:Addr}{vs us:List V}{Hf:Hp}{ds es:List D}(na:¬G.fp a)(h:Hf a=some (.tup vs))(r:Zg G Hf ds vs)(nb:¬G.fp b)(h':Hf b=some (.tup us))(r':Zg G Hf es us):Wp G (Itzt a b) Hf (WL ds es):=fun i jY H2 s e1 e2 st=>by
 have h2:H2 a=some (.tup vs):=e2 _ _ na (e1 _ _ na h);have h3:H2 b=some (.tup us):=e2 _ _ nb (e1 _ _ nb h');refine⟨fun d q=>?_,fun q=>⟨vs,us,h2,h3,by rw[q];unfold WL;rw[qaz,r.length,r'.length]⟩⟩;unfold WL at q;rw[qbm] at q
 cases qa:ds[i]? with
 | none=>rw[qa] at q;simp at q
 | some x=>
  cases qb:es[i]? with
  | none=>rw[qa,qb] at q;simp at q
  | some y=>
   rw[qa,qb] at q;simp at q;subst q;obtain⟨v,q1,q2⟩:=r.get qa;obtain⟨u,q3,q4⟩:=r'.get qb;refine⟨⟨vs,us,v,u,h2,h3,q1,q3⟩,fun z H3 ⟨T,v',u',hT,y0,y1,y2,y3⟩=>?_⟩;have ev:=y2 vs h2;have eu:=y3 us h3;rw[q1] at ev;cases ev;rw[q3] at eu;cases eu;subst y0 y1;have nf:=Gh.nofp st hT;have g2:=Gr.new (o:=.tup [v,u]) e2 hT nf;refine⟨Zk jY T (.tup [v,u]),g2,Gh.grow st hT,jb.mpr ⟨T,_,rfl,nf,ZI,?_⟩⟩;exact .cons ((q2.ext e1).ext g2.ff) (.one ((q4.ext e1).ext g2.ff))
theorem PI.or {tg iter:Expr}{w1 w2:TI}(h1:PI X tg iter w1)(h2:PI X tg iter w2):PI X tg iter (fun σ H R=>w1 σ H R∨w2 σ H R):=fun jJ s σ H R I h=>h.elim (h1 jJ s σ H R I) (h2 jJ s σ H R I)
noncomputable def Zgo (f g:Zb->M D):Zb->M (List D):=fun ρ=>Zm (f ρ) fun d=>Zm (g ρ) fun e=>match d,e with | .lst ds,.lst es=>ZD (WL ds es) | .tup ds,.tup es=>ZD (WL ds es) | _,_=>Zz
theorem Zi4 {elts:List Expr}{k:Nat}{tp:Pos}{a b:Expr}{p pos:Pos}{r1 r2:Bool}{f f2:Zb->M D}(hg:Gl X "zip")(hm:X.mg "zip" = none)(ha:PD X G r1 a f)(hb:PD X G r2 b f2)
  (hs:starEach [a,b] X.env=[(false,eval a X.env),(false,eval b X.env)]:=by rfl) (hs2:starEach [b] X.env=[(false,eval b X.env)]:=by rfl):Wk X G (.Tuple elts k tp) (.Call (.Name "zip" p) [a,b] [] pos) (Zgo f f2):=by
 obtain⟨t,pa,qa⟩:=ha.drop;obtain⟨u,pb,qb⟩:=hb.drop;have pp:=Y4 pa (Y4 pb Xs (by rw[hs2];rfl)) (by rw[hs,hs2]);refine⟨_,PI.or (Zmi hg hm pp hs hs2) (ZkD hg hm pp hs hs2),fun σ Hf H ρ s ds s' R e1 e2 e3 e4 k=>?_⟩;obtain⟨d,s1,a1,a2⟩:=Zv e4;obtain⟨d2,s2,a3,a4⟩:=Zv a2
 match d,d2,a4,a1,a3 with
 | .lst xs,.lst ys,a4,a1,a3=>
  obtain⟨rfl,rfl⟩:=ZL a4;left;refine qa σ Hf H ρ s _ _ _ e1 e2 e3 a1 fun v jU H1 g st r=>?_;refine qb σ jU H1 ρ s1 _ _ _ g.fh (e2.ext g.ff) st a3 fun v2 jY H2 g2 j7 r2=>?_;obtain⟨p1,vs,rfl,n1,h1,rl1⟩:=jc.mp (r.ext g2.ff);obtain⟨p2,us,rfl,n2,h2,rl2⟩:=jc.mp r2;exact⟨p1,p2,rfl,⟨vs,Zu.of (g2.fh _ _ n1 h1)⟩,⟨us,Zu.of (g2.fh _ _ n2 h2)⟩,k _ jY H2 (g.trans g2) j7 (.zip n1 h1 rl1 n2 h2 rl2)⟩
 | .tup xs,.tup ys,a4,a1,a3=>
  obtain⟨rfl,rfl⟩:=ZL a4;right;refine qa σ Hf H ρ s _ _ _ e1 e2 e3 a1 fun v jU H1 g st r=>?_;refine qb σ jU H1 ρ s1 _ _ _ g.fh (e2.ext g.ff) st a3 fun v2 jY H2 g2 j7 r2=>?_;obtain⟨p1,vs,rfl,n1,h1,rl1⟩:=jb.mp (r.ext g2.ff);obtain⟨p2,us,rfl,n2,h2,rl2⟩:=jb.mp r2;exact⟨p1,p2,rfl,⟨vs,g2.fh _ _ n1 h1⟩,⟨us,g2.fh _ _ n2 h2⟩,k _ jY H2 (g.trans g2) j7 (.zipT n1 h1 rl1 n2 h2 rl2)⟩
end
end TF
namespace TS
open PySem.W
noncomputable def Z9 {α:Type}(lt:Nat->Nat->Bool)(n:Nat):KasT α->(α->Prop)->Prop
 | .ret a,Q=>Q a
 | .ask i j k,Q=>i<n/\j<n/\Z9 lt n (k (lt i j)) Q
theorem Z9.bind {α β:Type}{lt:Nat->Nat->Bool}{n:Nat}{f:α->KasT β}{Q:β->Prop}:∀{t:KasT α},Z9 lt n t (fun a=>Z9 lt n (f a) Q)->Z9 lt n (t.bind f) Q
 | .ret _,h=>h
 | .ask i j k,h=>⟨h.1,h.2.1,Z9.bind (t:=k (lt i j)) h.2.2⟩
theorem Z9.mono {α:Type}{lt:Nat->Nat->Bool}{n:Nat}{Q R:α->Prop}(hr:∀a,Q a->R a):∀{t:KasT α},Z9 lt n t Q->Z9 lt n t R
 | .ret _,h=>hr _ h
 | .ask i j k,h=>⟨h.1,h.2.1,Z9.mono hr (t:=k (lt i j)) h.2.2⟩
theorem jB {α:Type}{lt:Nat->Nat->Bool}{n:Nat}{Q:α->Prop}{R:α->Shared->Prop}{s:Shared}{cmp:Nat->Nat->(Bool->Shared->Prop)->Shared->Prop}(hc:∀i j,i<n->j<n->∀C:Bool->Shared->Prop,C (lt i j) s->cmp i j C s)(hr:∀a,Q a->R a s):∀{t:KasT α},Z9 lt n t Q->t.kasWp cmp R s
 | .ret _,h=>hr _ h
 | .ask i j k,h=>hc i j h.1 h.2.1 _ (jB hc hr (t:=k (lt i j)) h.2.2)
noncomputable def g (p:Array Nat)(k:Nat):Nat:=p.getD k 0
theorem UB {p q:Array Nat}{i j:Nat}(h:p[i]?=q[j]?):g p i=g q j:=by
 have e:∀(r:Array Nat) (k:Nat),g r k=(r[k]?).getD 0:=fun r k=>by unfold g;simp[Array.getD_eq_getD_getElem?]
 rw[e,e,h]
structure Pm (n:Nat)(p:Array Nat):Prop where
 pos:0<n
 pm:p.toList.Perm (qm n)
section
variable {lt:Nat->Nat->Bool}{n:Nat}{p q:Array Nat}
theorem Pm.size (h:Pm n p):p.size=n:=by
 have:=h.pm.length_eq;simpa using this
theorem Pm.of (h:Pm n p)(e:q.Perm p):Pm n q:=⟨h.pos,(Array.perm_iff_toList_perm.mp e).trans h.pm⟩
theorem Pm.bd (h:Pm n p)(k:Nat):g p k<n:=by
 unfold g;by_cases hk:k<p.size
 ·have:p.getD k 0=p[k]:=by simp[qaU,hk]
  rw[this];have m:p[k]∈p.toList:=by simp
  have:=h.pm.mem_iff.mp m;simpa using this
 ·have:p.getD k 0=0:=by simp[qaU,hk]
  rw[this];exact h.pos
theorem Zlp (hj:q.size=n){m:Nat}(hm:m<=n)(k:Nat):g (kas_rev q 0 m) k=if k<m then g q (m-1-k) else g q k:=by
 have e:=getElem?_mirror_all (xs:=q) (i:=0) (j:=m) (by omega) k;unfold kas_rev;by_cases hk:k<m
 ·rw[if_pos ⟨by omega,hk⟩] at e
  rw[if_pos hk];exact UB (by rw[e];congr 1;omega)
 ·rw[if_neg (fun z=>hk z.2)] at e
  rw[if_neg hk];exact UB e
end
end TS
namespace TS
open PySem.W
noncomputable def YJ:List Int->List Int->Bool
 | [],[]=>false
 | [],_::_=>true
 | _::_,[]=>false
 | a::as,b::bs=>if a=b then YJ as bs else decide (a<b)
theorem ZeE:∀a,YJ a a=false
 | []=>rfl
 | a::as=>by unfold YJ;rw[if_pos rfl];exact ZeE as
theorem ZdR:∀a b c,YJ a b=true->YJ b c=true->YJ a c=true
 | [],[],_,h,_=>by cases h
 | [],_::_,[],_,h=>by cases h
 | [],_::_,_::_,_,_=>rfl
 | _::_,[],_,h,_=>by cases h
 | _::_,_::_,[],_,h=>by cases h
 | a::as,b::bs,c::cs,h1,h2=>by
  unfold YJ at h1 h2⊢;split at h1
  ·rename_i e;subst e
   split at h2
   ·rename_i e;subst e;rw[if_pos rfl];exact ZdR as bs cs h1 h2
   ·rename_i e;rw[if_neg e];exact h2
  ·rename_i e1
   split at h2
   ·rename_i e;subst e;rw[if_neg e1];exact h1
   ·rename_i e2
    simp at h1 h2;rw[if_neg (by omega)];simp;omega
theorem BP:∀a b,a≠b->YJ a b=false->YJ b a=true
 | [],[],n,_=>absurd rfl n
 | [],_::_,_,h=>by cases h
 | _::_,[],_,_=>rfl
 | a::as,b::bs,n,h=>by
  unfold YJ at h⊢;split at h
  ·rename_i e;subst e;rw[if_pos rfl]
   exact BP as bs (fun z=>n (by rw[z])) h
  ·rename_i e
   simp at h;rw[if_neg (zl e)];simp;omega
theorem BE {a b:List Int}(h:YJ a b=true):YJ b a=false:=by
 cases e:YJ b a with
 | false=>rfl
 | true=>have:=ZdR _ _ _ h e;rw[ZeE] at this;cases this
noncomputable def YT (a b:List Int):Bool:=!YJ b a
theorem Zi5 {a b:List Int}(h1:YT a b=true)(h2:YT b a=true):a=b:=by
 unfold YT at h1 h2;simp at h1 h2;by_cases e:a=b
 ·exact e
 ·rw[BP a b e h2] at h1;cases h1
theorem ZfG (a b c:List Int)(h1:YT a b=true)(h2:YT b c=true):YT a c=true:=by
 unfold YT at h1 h2⊢;simp at h1 h2⊢;by_cases e1:a=b
 ·subst e1;exact h2
 ·by_cases e2:b=c
  ·subst e2;exact h1
  ·exact BE (ZdR _ _ _ (BP b a (zl e1) h1) (BP c b (zl e2) h2))
theorem Zmj (a b:List Int):(YT a b||YT b a)=true:=by
 unfold YT
 cases e:YJ b a with
 | false=>rfl
 | true=>rw[BE e];rfl
theorem Zcg:∀{a b:List (List Int)},a.Perm b->a.Pairwise (fun x y=>YT x y=true)->b.Pairwise (fun x y=>YT x y=true)->a=b
 | [],b,p,_,_=>(List.nil_perm.mp p).symm
 | x::a,[],p,_,_=>absurd p.length_eq (by simp)
 | x::a,y::b,p,ha,hb=>by
  have ha':=zP.mp ha;have hb':=zP.mp hb;have e:x=y:=by
   have h1:x∈y::b:=p.mem_iff.mp (by simp);have h2:y∈x::a:=p.mem_iff.mpr (by simp);rcases qt.mp h1 with h1 | h1
   ·exact h1
   ·rcases qt.mp h2 with h2 | h2
    ·exact h2.symm
    ·exact Zi5 (ha'.1 y h2) (hb'.1 x h1)
  subst e;rw[Zcg (List.Perm.cons_inv p) ha'.2 hb'.2]
noncomputable def XU (jP:List (List Int)):List (List Int):=jP.mergeSort YT
theorem Zch (jP:List (List Int)):(XU jP).Perm jP:=qbE jP _
theorem Zbd (jP:List (List Int)):(XU jP).Pairwise (fun x y=>YT x y=true):=qa8 ZfG Zmj jP
theorem Za7 {a jP:List (List Int)}(p:a.Perm jP)(h:a.Pairwise (fun x y=>YT x y=true)):a=XU jP:=Zcg (p.trans (Zch jP).symm) h (Zbd jP)
noncomputable def WG (h:Heap)(v:Value)(ns:List Int):Prop:=∃a xs,v=.ref a/\h.IsTuple a (qG xs)/\IntsAre xs ns
section
variable {prog:Program}{w:World}{A:Around}{E:Value->Shared->Prop}{s:Shared}
theorem Zlq {fin:Bool}{Q:Bool->Shared->Prop}:∀{as bs:List Int} {xs ys:List Value} (i:Nat),IntsAre xs as->IntsAre ys bs->fin=decide (as.length<bs.length)->Q (YJ as bs) s->KatLex prog w A true fin Q (xs.zip ys) i s
 | [],[],_,_,i,.nil,.nil,e,h=>by subst e;exact kat_nil h
 | [],_::_,_,_,i,.nil,.cons _ _ _,e,h=>by subst e;exact kat_nil h
 | _::_,[],_,_,i,.cons _ _ _,.nil,e,h=>by subst e;exact kat_nil h
 | a::as,b::bs,_,_,i,.cons _ t hx,.cons _ u hy,e,h=>by
  unfold YJ at h;refine kat_cons (wpAny_eqBool_int ?_);by_cases q:a=b
  ·rw[if_pos q] at h
   rw[show(a==b)=true by simp[q]];exact kat_yes (Zlq (i+1) hx hy (by rw[e];simp) h)
  ·rw[if_neg q] at h
   rw[show(a==b)=false by simp[q]];refine kat_no ?_;by_cases hi:i=0
   ·subst hi
    exact oneLt_int h
   ·rw[show(true&&i==0)=false by simp[hi]]
    exact kat_one _ _ (lt_int h)
theorem Zlr {x y:Value}{as bs:List Int}{C:Bool->Shared->Prop}(hx:WG s.heap x as)(hy:WG s.heap y bs)(h:C (YJ as bs) s):wpAny (model prog w) A (keyLt' (tuples' true) x y) C E s:=by
 obtain⟨a,xs,rfl,⟨o,ho,hc,n,hd⟩,ix⟩:=hx;obtain⟨b,ys,rfl,⟨o',ho',hc',n',hd'⟩,iy⟩:=hy;refine kat_lt ho hd ho' hd' ?_;have e:decide ((qG xs).size<(qG ys).size)=decide (as.length<bs.length):=by rw[qq,qq,ix.length,iy.length]
 exact Zlq 0 ix iy e h
theorem Zi6 {h:Heap}:∀{vs:List Value} {jP:List (List Int)},Paired (WG h) vs jP->(∀ns∈jP,ns≠[])->∃fs,KatTups h vs fs/\fs.length=vs.length/\∀v∈fs,∃n t,v=qbI n t
 | _,_,.nil,_=>⟨[],.nil,rfl,fun _ z=>by simp at z⟩
 | _,_,.cons (a:=v) (b:=ns) hv r,hne=>by
  obtain⟨fs,h1,h2,h3⟩:=Zi6 r fun ns' m=>hne ns' (qQ _ m);obtain⟨a,xs,rfl,⟨o,ho,hc,n,hd⟩,ix⟩:=hv
  cases ix with
  | nil=>exact absurd rfl (hne [] (by simp))
  | cons m t r'=>
   refine⟨.int m t::fs,.cons ho hc hd (by simp) h1,by simp[h2],fun v hv=>?_⟩;rcases qt.mp hv with rfl | hv
   ·exact⟨m,t,rfl⟩
   ·exact h3 v hv
theorem Zi7 {vs:List Value}{jP:List (List Int)}{Q:SortKind->Shared->Prop}(h:Paired (WG s.heap) vs jP)(hne:∀ns∈jP,ns≠[])(h0:0<vs.length)(q:Q (tuples' true) s):wpAny (model prog w) A (keyKind' vs.toArray) Q E s:=by
 obtain⟨fs,h1,h2,h3⟩:=Zi6 h hne;refine kat_kind (T:=.type "int") h1 (by omega) (fun v hv=>?_) rfl ?_
 ·obtain⟨n,t,rfl⟩:=h3 v hv
  exact Looks.of_pure rfl
 ·exact q
theorem WG.at {h h':Heap}{v:Value}{ns:List Int}{b:Addr}(k:∀c o,c≠b->h.get? c=some o->h'.get? c=some o)(hb:∃o,h.get? b=some o/\o.cls=.type "list")(x:WG h v ns):WG h' v ns:=by
 obtain⟨a,xs,e,⟨o,ho,hc,r⟩,i⟩:=x;refine⟨a,xs,e,⟨o,k a o (fun z=>?_) ho,hc,r⟩,i⟩;obtain⟨o',h1,h2⟩:=hb;rw[z,h1] at ho;cases ho;rw[h2] at hc;exact absurd (qaB hc) (by decide)
theorem jq {α β:Type}{F:α->β->Prop}:∀{l:List α} {r:List β} {i:Nat} (d:α) (d':β),Paired F l r->i<l.length->F (l.getD i d) (r.getD i d')
 | _,_,i,_,_,.nil,e=>absurd e (by simp)
 | _,_,0,_,_,.cons h t,e=>h
 | _,_,i+1,d,d',.cons h t,e=>by
  have:=jq d d' t (i:=i) (by simpa using e);simpa using this
theorem range_getD {α:Type}(vs:List α)(d:α):((qm vs.length).map fun i=>vs.getD i d)=vs:=by
 refine List.ext_getElem (by simp) fun i h1 h2=>?_;simp[h2]
theorem ZkE (vs:List Value)(κ:SortKind):(arrOf (SortSt.mk' κ (vs.toArray.zip vs.toArray) #[] 7 none)).map (·.2)=qG ((qG (qm vs.length)).toList.map fun i=>vs.getD i qL):=by
 apply Array.toList_inj.mp;show((vs.toArray.zip vs.toArray).map (·.2)).toList=_;rw[qaA,qaA,range_getD,Array.toList_map];show(pairsOf vs).toList.map Prod.snd=_;rw[pairsOf_toList];exact List.map_snd_zip (qp _)
end
end TS
namespace TS
open PySem.W
section
variable {prog:Program}{w:World}{A:Around}{E:Value->Shared->Prop}{s:Shared}
end
theorem Paired.pick {α β:Type}{F:α->β->Prop}{l:List α}{r:List β}(d:α)(d':β)(h:Paired F l r):∀(ix:List Nat),(∀i∈ix,i<l.length)->Paired F (ix.map fun i=>l.getD i d) (ix.map fun i=>r.getD i d')
 | [],_=>.nil
 | i::ix,hb=>.cons (jq d d' h (hb i (by simp))) (Paired.pick d d' h ix fun j m=>hb j (qQ _ m))
end TS
namespace TF
open L2 TS
section
variable {X:Cx}{G:Gh}
theorem Zbv {jJ:List (Addr×Obj)}{s:Shared}{σ:St}{H:Hp}{T:V->List Int->Prop}(I:Inv X jJ σ H s)(hT:∀v ns,T v ns->∃a,v=.ref a/\ZF X.K H a (ns.map V.int)):∀{vs:List V} {jL:List Value} {jP:List (List Int)},Zs vs jL->Paired T vs jP->Paired (WG s.heap) jL jP
 | _,_,_,.nil,.nil=>.nil
 | _,_,_,.cons r rr,.cons t tt=>by
  refine .cons ?_ (Zbv I hT rr tt);obtain⟨a,rfl,hq⟩:=hT _ _ t
  cases r
  obtain⟨xs,rv,pl,hz⟩:=I.tuple hq;exact⟨a,xs,rfl,show s.heap.IsTuple a xs.toArray from pl,Vw rv⟩
noncomputable def Xm (ns:List Int):D:=.tup (ns.map .int)
noncomputable def Wz:List D->Option (List (List Int))
 | []=>some []
 | .tup ds::r=>match ZH ds,Wz r with | some ns,some jP=>some (ns::jP) | _,_=>none
 | _::_=>none
theorem Zci:∀jP:List (List Int),Wz (jP.map Xm)=some jP
 | []=>rfl
 | ns::jP=>by
  show(match ZH (ns.map D.int),Wz (jP.map Xm) with | some ns,some jP=>some (ns::jP) | _,_=>none)=_;rw[Jx,Zci jP]
theorem Zbw:∀{ds:List D} {jP:List (List Int)},Wz ds=some jP->ds=jP.map Xm
 | [],jP,h=>by
  have h:some []=some jP:=h
  cases h;rfl
 | d::r,jP,h=>by
  cases d with
  | tup ds=>
   have h:(match ZH ds,Wz r with | some ns,some jP=>some (ns::jP) | _,_=>none)=some jP:=h
   cases e1:ZH ds with
   | none=>rw[e1] at h;cases h
   | some ns=>
    cases e2:Wz r with
    | none=>rw[e1,e2] at h;cases h
    | some ms=>
     rw[e1,e2] at h;cases h;rw[zi,<-Zbw e2];unfold Xm;rw[<-Wv e1]
  | _=>cases h
theorem Zbx {Hf:Hp}:∀{jP:List (List Int)} {vs:List V},Zg G Hf (jP.map Xm) vs->Paired (fun v ns=>Zj G Hf (Xm ns) v) vs jP
 | [],vs,h=>by
  rw[Zg.nil_iff.mp h];exact .nil
 | ns::jP,vs,h=>by
  obtain⟨v,r,rfl,h1,h2⟩:=jd.mp h;exact .cons h1 (Zbx h2)
theorem Zdm {Hf:Hp}:∀{jP:List (List Int)} {vs:List V},Paired (fun v ns=>Zj G Hf (Xm ns) v) vs jP->Zg G Hf (jP.map Xm) vs
 | _,_,.nil=>Zg.nil_iff.mpr rfl
 | _,_,.cons h t=>.cons h (Zdm t)
end
end TF
namespace TF
open L2
section
variable {X:Cx}{G:Gh}{own:List Nat}{fr:Bool}
end
section
variable {X:Cx}{G:Gh}
noncomputable def vD:V->Option D
 | .int i=>some (.int i)
 | .bl b=>some (.bl b)
 | .str x=>some (.str x)
 | .non=>some .non
 | _=>none
theorem Zmk {H:Hp}{v:V}{c:D}(h:vD v=some c):Zj G H c v:=by
 cases v with
 | int i=>cases h;exact ja.mpr rfl
 | bl i=>cases h;exact je.mpr rfl
 | str i=>cases h;exact ji.mpr rfl
 | non=>cases h;exact jg.mpr rfl
 | _=>cases h
noncomputable def V1:D->D->Option D
 | .dk kvs,y=>match Xi y with | some k=>(ZQ kvs k).bind vD | none=>none
 | .df kvs,y=>match Xi y with | some k=>(ZQ kvs k).bind vD | none=>none
 | .dt kvs,.tup ks=>match YY ks with | some k=>(ZQ kvs k).bind vD | none=>none
 | .du kvs,.tup ks=>match YY ks with | some k=>(ZQ kvs k).bind vD | none=>none
 | _,_=>none
theorem Zgp {a b:Expr}{pos:Pos}{fa fb:Zb->M D}{r1 r2:Bool}(hu:X.A.units+1<cLine)(ha:PD X G r1 a fa)(hb:PD X G r2 b fb)(hs:NoSl b:=by intro _ _;rfl):PD X G false (.Subscript a b pos) (Zd V1 fa fb):=by
 obtain⟨ta,pa,qa⟩:=ha.drop;obtain⟨tb,pb,qb⟩:=hb.drop;refine⟨_,Wm hu pa pb hs,fun σ Hf H ρ s d s' Q e1 e2 e3 e4 k=>?_⟩;obtain⟨da,s1,a1,a2⟩:=Zv e4;obtain⟨db,s2,a3,a4⟩:=Zv a2;obtain⟨a5,rfl⟩:=X0 a4;refine qa σ Hf H ρ s da s1 _ e1 e2 e3 a1 fun x jU H1 g1 j9 r1=>?_;refine qb σ jU H1 ρ s1 db _ _ g1.fh (e2.ext g1.ff) j9 a3 fun y jY H2 g2 j7 r2=>?_;have r1:=r1.ext g2.ff;have fin:∀v c,d=c->vD v=some c->Q v H2:=fun v c ec h=>by
  subst ec;exact k v jY H2 (g1.trans g2) j7 (Zmk h) (fun z=>by cases z)
 match da,a5,r1 with
 | .dk kvs,a5,r1=>
  obtain⟨p,rfl,np,hp⟩:=jk.mp r1;have a5:(match Xi db with | some k=>(ZQ kvs k).bind vD | none=>none)=some d:=a5
  cases ek:Xi db with
  | none=>rw[ek] at a5;cases a5
  | some ky=>
   rw[ek] at a5;obtain⟨v,ev,e6⟩:=yz.mp a5;have ey:=UM ek r2;subst ey;refine⟨p,v,rfl,?_,fin v d rfl e6⟩;rw[<-ev];exact Y9.k (g2.fh _ _ np hp)
 | .df kvs,a5,r1=>
  obtain⟨p,o,rfl,np,hp⟩:=js.mp r1;have a5:(match Xi db with | some k=>(ZQ kvs k).bind vD | none=>none)=some d:=a5
  cases ek:Xi db with
  | none=>rw[ek] at a5;cases a5
  | some ky=>
   rw[ek] at a5;obtain⟨v,ev,e6⟩:=yz.mp a5;have ey:=UM ek r2;subst ey;exact⟨p,v,rfl,.inl ⟨kvs,ky,.inr ⟨o,g2.fh _ _ np hp⟩,rfl,ev.symm⟩,fin v d rfl e6⟩
 | .du kvs,a5,r1=>
  obtain⟨p,rfl,np,hp⟩:=jm.mp r1
  match db,a5,r2 with
  | .tup ks,a5,r2=>
   have a5:(match YY ks with | some k=>(ZQ kvs k).bind vD | none=>none)=some d:=a5;obtain⟨q,vs,rfl,nq,hq,rq⟩:=jb.mp r2
   cases ek:YY ks with
   | none=>rw[ek] at a5;cases a5
   | some ky=>
    rw[ek] at a5;obtain⟨v,ev,e6⟩:=yz.mp a5;have ey:=Ud ek rq;subst ey;refine⟨p,v,rfl,?_,fin v d rfl e6⟩;rw[<-ev];exact Y9.t (g2.fh _ _ np hp) (g2.fh _ _ nq hq)
 | .dt kvs,a5,r1=>
  obtain⟨p,o,rfl,np,hp⟩:=jl.mp r1
  match db,a5,r2 with
  | .tup ks,a5,r2=>
   have a5:(match YY ks with | some k=>(ZQ kvs k).bind vD | none=>none)=some d:=a5;obtain⟨q,vs,rfl,nq,hq,rq⟩:=jb.mp r2
   cases ek:YY ks with
   | none=>rw[ek] at a5;cases a5
   | some ky=>
    rw[ek] at a5;obtain⟨v,ev,e6⟩:=yz.mp a5;have ey:=Ud ek rq;subst ey;exact⟨p,v,rfl,.inr ⟨kvs,ky,q,.inr ⟨o,g2.fh _ _ np hp⟩,rfl,g2.fh _ _ nq hq,ev.symm⟩,fin v d rfl e6⟩
end
section
variable {X:Cx}{G:Gh}{ob:List Nat}{fr:Bool}
end
section
variable {X:Cx}{G:Gh}{ob own:List Nat}{fr:Bool}
end
section
variable {X:Cx}{G:Gh}{ob own:List Nat}{fr:Bool}
theorem Zi8 {pos:Pos}:PD X G true (.Dict [] [] pos) (dC (.dk [])):=by
 refine⟨_,Zif,fun σ Hf H ρ s d s' Q e1 e2 e3 e4 k=>?_⟩;obtain⟨rfl,rfl⟩:=ZL e4;intro p hp;have nf:=Gh.nofp e3 hp;have g2:=Gr.new (o:=.dK []) e1 hp nf;exact k (.ref p) _ _ g2 (Gh.grow e3 hp) (jk.mpr ⟨p,rfl,nf,ZI⟩) fun _ a ea _=>by cases ea;exact⟨hp,fun ds ed=>by cases ed⟩
noncomputable def U4 (i:Nat)(fx fv:Zb->M D):Zb->M Out:=fun ρ=>Zm (fv ρ) fun v=>Zm (fx ρ) fun x=>match (ρ[i]?).bind id with
 | some (.dk kvs)=>match Xi x,Xu v with | some k,some w=>if kvs.length<sizeLine then ZD (.nx (ρ.set i (some (.dk (Z1 kvs k w))))) else Zz | _,_=>Zz
 | _=>Zz
theorem Zi9 {r1 r2:Bool}{i:Nat}{x:Str}{ex ev:Expr}{p1 p2 pos:Pos}{fx fv:Zb->M D}{tx tv:TE}(hu:X.A.units+1<cLine)(hi:i∈own)(hn:PE X (.Name x p1) (Z7 i))(px:PE X ex tx)(yx:W4 G own r1 tx fx)(pv':PE X ev tv)(yv:W4 G own r2 tv fv)
  (hs:swapsWith ev (some (.Subscript (.Name x p1) ex p2)) pos.line X.env=pure false) :
  Yx X G ob own own fr (.Assign [.Subscript (.Name x p1) ex p2] ev pos) (U4 i fx fv):=by
 refine⟨_,ZdI hu hn px pv' hs,fun kn jT H0 σ H ρ s out s' E ⟨Hf,j⟩ st e po=>?_⟩;obtain⟨v,s1,a1,a2⟩:=Zv e;obtain⟨xx,s2,a3,a4⟩:=Zv a2;refine yv kn jT H0 σ Hf H ρ s v s1 _ j st a1 fun w jU H1 j1 e1 e2 j9 r1 _=>?_
 cases hb:(ρ[i]?).bind id with
 | none=>rw[hb] at a4;cases a4
 | some c=>
  rw[hb] at a4
  cases c with
  | dk kvs=>
   have a4':(match Xi xx,Xu v with | some k,some w=>if kvs.length<sizeLine then ZD (Out.nx (ρ.set i (some (.dk (Z1 kvs k w))))) else Zz | _,_=>Zz) s2=some (out,s'):=a4
   cases hk:Xi xx with
   | none=>rw[hk] at a4';cases a4'
   | some k=>
    cases hw:Xu v with
    | none=>rw[hk,hw] at a4';cases a4'
    | some w'=>
     rw[hk,hw] at a4';obtain⟨hl,a5⟩:=YV a4';obtain⟨rfl,rfl⟩:=ZL a5;have ei:=JM hb;obtain⟨a,h1,h2,h3,h4,h5⟩:=j1.ow i _ hi ei;refine⟨_,h1,?_⟩;refine yx kn jT H0 σ jU H1 ρ s1 _ _ _ j1 j9 a3 fun w2 jY H2 j2 e3 e4 j7 r2 _=>?_;obtain⟨a',h1',h2',h3',h4',h5'⟩:=j2.ow i _ hi ei;rw[h1] at h1';cases h1';have ek:=UM hk r2;subst ek;have ew:=By hw r1;subst ew;refine⟨a,_,rfl,X5.k (k:=k) (show H2 a=some (.dK kvs) from h5') (by omega),?_⟩;exact po σ _ ⟨jY,j2.put hi ei h1 (show Zk H2 a (.dK (Z1 kvs k w)) a=some (.dK (Z1 kvs k w)) from ZI)⟩ (jv j7 h2)
  | _=>cases a4
theorem Zhq {r1 r2:Bool}{i:Nat}{x:Str}{ex ev:Expr}{p1 p2 pos:Pos}{fx fv:Zb->M D}(hu:X.A.units+1<cLine)(hi:i∈own)(hn:PE X (.Name x p1) (Z7 i))(hx:PD X G r1 ex fx)(hv:PD X G r2 ev fv)
  (hs:swapsWith ev (some (.Subscript (.Name x p1) ex p2)) pos.line X.env=pure false:=by rfl) :
  Yx X G ob own own fr (.Assign [.Subscript (.Name x p1) ex p2] ev pos) (U4 i (fun ρ=>fx (Z8 own ρ)) (W9 r2 fv)):=by
 obtain⟨tv,pv',qv⟩:=hv;obtain⟨tx,px,qx⟩:=hx;have yv:XH G r2 tv fv:=qv;have yx:XH G r1 tx fx:=qx;exact Zi9 hu hi hn px yx.a pv' yv.b hs
noncomputable def XD (n:Int)(r:List Int):Int:=r.foldl min n
theorem ZkF (r:List Int):∀n,XD n r<=n/\∀a∈r,XD n r<=a:=by
 induction r with
 | nil=>intro n;exact⟨qaD _,by simp⟩
 | cons b r ih=>
  intro n;obtain⟨h1,h2⟩:=ih (min n b);refine⟨?_,fun a ha=>?_⟩
  ·show XD (min n b) r<=n;omega
  ·show XD (min n b) r<=a
   rcases qt.mp ha with rfl | ha
   ·omega
   ·exact h2 a ha
theorem Zja (r:List Int):∀n,XD n r∈n::r:=by
 induction r with
 | nil=>intro n;simp[XD]
 | cons b r ih=>
  intro n;have h:=ih (min n b);show XD (min n b) r∈n::b::r;rcases qt.mp h with h | h
  ·rw[h]
   rcases Int.le_total n b with z | z
   ·rw[Int.min_eq_left z];simp
   ·rw[Int.min_eq_right z];simp
  ·exact qQ _ (qQ _ h)
theorem ZeF {n M:Int}{r:List Int}(h1:M∈n::r)(h2:∀a∈n::r,M<=a):M=XD n r:=by
 obtain⟨g1,g2⟩:=ZkF r n;have g3:=h2 _ (Zja r n);have g4:XD n r<=M:=by
  rcases qt.mp h1 with h | h
  ·rw[h];exact g1
  ·exact g2 M h
 omega
noncomputable def Zjb:List D->Option D
 | [.lst ds]=>match ZH ds with | some (n::r)=>some (.int (XD n r)) | _=>none
 | _=>none
theorem Zhr (hc:X.calm=true):Xy X (.builtin "min") (fun xs H Q=>∃p n r,xs=[.ref p]/\Zu X.K H p ((n::r).map V.int)/\Q (.int (XD n r)) H):=by
 intro jJ s σ H xs us Q I r h;obtain⟨p,n,rr,rfl,hp,q⟩:=h;obtain⟨u,rfl,ru⟩:=X2 r
 cases ru
 obtain⟨jL,rv,pl,hz⟩:=I.list hp;have hi:IntsAre jL (n::rr):=Vw rv;obtain⟨xs,e⟩:=hi.allInts.items;have hns:n::rr=xs.toList.map (·.1):=by rw[<-hi.numsOf,<-nums_intItems,<-e]
 have hl:=pl.isList;rw[e] at hl;have hsz:0<xs.size:=by
  have h3:0<(n::rr).length:=by simp
  rw[hns,qj,zg] at h3;exact h3
 refine min_intList (I.ok.hd hc) hl hsz fun v h' tk hv hk=>?_;obtain⟨t,rfl⟩:=intItems_at hv;obtain⟨h1,h2⟩:=argBest_lt (numAt xs) (xs.size-1);have e2:numAt xs (argBest (fun i j=>decide (numAt xs i<numAt xs j)) (xs.size-1))=XD n rr:=by
  refine ZeF ?_ fun a ha=>?_
  ·rw[hns,numAt_eq];exact getD_mem (by rw[qj,zg];omega)
  ·rw[hns] at ha
   obtain⟨j,hj,rfl⟩:=mem_getD ha;rw[qj,zg] at hj;rw[<-numAt_eq];exact h2 j (by omega)
 rw[e2];exact⟨.int (XD n rr),H,I.kept (t':=tk) hk,⟨_,rfl⟩,q⟩
theorem ZfH (hc:X.calm=true):XS X G (.builtin "min") Zjb:=
 ⟨_,Zhr hc,fun Hf H s xs ds c Q e1 st r q k=>by
  match ds,q,r with
  | [.lst es],q,r=>
   have q:(match ZH es with | some (n::r)=>some (D.int (XD n r)) | _=>none)=some c:=q
   cases he:ZH es with
   | none=>rw[he] at q;cases q
   | some ns=>
    cases ns with
    | nil=>rw[he] at q;cases q
    | cons n rr=>
     rw[he] at q
     cases q
     obtain⟨v,rfl,rv⟩:=jh r;obtain⟨p,vs,rfl,np,hp,rp⟩:=jc.mp rv;rw[Wv he] at rp;rw[jn rp] at hp;exact⟨p,n,rr,rfl,Zu.of (e1 _ _ np hp),k _ Hf H (.refl e1) st (ja.mpr rfl) (.scal fun z=>z)⟩⟩
noncomputable def Zml (K:qf):V->List V->Hp->VK->Prop:=fun x vs H Q=>∃(p:Addr) (ns:List Int) (k:Int),x=.ref p/\vs=[.int k]/\Zu K H p (ns.map V.int)/\k∈ns/\Q (.int (ns.idxOf k:Nat)) H
theorem Zjc : MtR X "list.index" (Zml X.K) := by
  intro jJ s σ H x xs v us Q I rx rv h;obtain⟨p, ns, k, rfl, rfl, hp, hk, q⟩ := h
  cases rx
  obtain⟨u, rfl, t, rfl⟩ := X2 rv;obtain⟨jL, r2, pl, hz⟩ := I.list hp;have hi : IntsAre jL ns := Vw r2;obtain⟨⟨c0, d0, dat, sl0⟩, hob, hcl, n0, hdat⟩ := id pl.isList;simp only at hcl hdat;subst hcl hdat;have l1 := hi.length;have l2 : ns.idxOf k < ns.length := by rw[yY]; exact hk
  have l3 : ns.length <= sizeLine := by simpa using hz
  have l4 := JQ;have go := SeqAt.list_indexAt p jL.toArray n0 d0 sl0 (.int k t) (isInt k) (ns.idxOf k) (by simpa[l1] using l2) (by omega)
    (by show isInt k jL[ns.idxOf k] = true
        rw[isInt_at k hi (ns.idxOf k) (by omega) l2]; simpa using List.getElem_idxOf l2)
    (fun j hjs hlt => by
        show isInt k jL[j] = false;rw[isInt_at k hi j (by simpa using hjs) (by have : j < ns.idxOf k := hlt; omega)]; exact ne_of_lt_idxOf hlt _)
  refine call_meets qa9 ⟨_, hob, rfl⟩ PySem.F.entry_list_index (PySem.F.args_list_index_2 _ _) go ⟨hob, fun y hy => (eq_isInt k t hi y (by simpa using hy)).at _ _, ?_⟩;exact⟨.int (ns.idxOf k : Nat), H, I.tok _, ⟨_, rfl⟩, q⟩
noncomputable def BX:D->D->Option D
 | .lst ds,.int k=>(ZH ds).bind fun ns=>if k∈ns then some (.int (ns.idxOf k:Nat)) else none
 | _,_=>none
theorem Zjd {o e:Expr}{ap cp:Pos}{r1 r2:Bool}{fo fe:Zb->M D}(ho:PD X G r1 o fo)(he:PD X G r2 e fe)
  (hbase:attributeBase o "index" X.env (eval o X.env)=eval o X.env:=by rfl)
  (hfew:((backTo cp (starEach [e] X.env)).all (fun x=>!x.1)&&(backToKw cp (keywordEach [] X.env)).all (fun x=>x.1.isSome)
   && decide ([e].length+([]:List Keyword).length+(if ([]:List Keyword).isEmpty then 0 else 1)<30))=true:=by rfl)
  (hline:(ap.endLine==cp.line)=true:=by rfl) (hs:starEach [e] X.env=(false,eval e X.env)::starEach [] X.env:=by rfl) :
  PD X G true (.Call (.Attribute o "index" ap) [e] [] cp) (Zd BX fo fe):=by
 obtain⟨to,po,qo⟩:=ho.drop;obtain⟨te,pe,qe⟩:=he.drop;refine⟨_,B2 yy qa9 PySem.F.type_list_index Zjc po (Y4 pe Xs hs) hbase hfew hline hs rfl,fun σ Hf H ρ s d s' Q e1 e2 e3 e4 k=>?_⟩;obtain⟨da,s1,a1,a2⟩:=Zv e4;obtain⟨db,s2,a3,a4⟩:=Zv a2;obtain⟨a5,rfl⟩:=X0 a4;refine qo σ Hf H ρ s da s1 _ e1 e2 e3 a1 fun x jU H1 g1 j9 r1=>?_
 match da,db,a5,r1,a3 with
 | .lst ds,.int kk,a5,r1,a3=>
  have a5:((ZH ds).bind fun ns=>if kk∈ns then some (D.int (ns.idxOf kk:Nat)) else none)=some d:=a5
  cases he:ZH ds with
  | none=>rw[he] at a5;cases a5
  | some ns=>
   rw[he] at a5;have a5:(if kk∈ns then some (D.int (ns.idxOf kk:Nat)) else none)=some d:=a5;split at a5
   ·rename_i hmem
    cases a5
    obtain⟨p,vs,rfl,np,hp,rp⟩:=jc.mp r1;refine⟨.inl ⟨rfl,vs,Zu.of (g1.fh _ _ np hp)⟩,?_⟩;refine qe σ jU H1 ρ s1 _ _ _ g1.fh (e2.ext g1.ff) j9 a3 fun y jY H2 g2 j7 r2=>?_;rw[Wv he] at rp;rw[jn rp] at hp
    cases (ja.mp r2)
    exact⟨p,ns,kk,rfl,rfl,Zu.of (g2.fh _ _ np (g2.ff _ _ np hp)),hmem,k _ jY H2 (g1.trans g2) j7 (ja.mpr rfl) fun _=>.scal fun z=>z⟩
   ·cases a5
end
section
variable {X:Cx}{G:Gh}{ob own:List Nat}{fr:Bool}
noncomputable def Bb:D->Option (List Zr)
 | .tup ks=>YY ks
 | _=>none
noncomputable def U5 (i:Nat)(fx fv:Zb->M D):Zb->M Out:=fun ρ=>Zm (fv ρ) fun v=>Zm (fx ρ) fun x=>match (ρ[i]?).bind id with
 | some (.du kvs)=>match Bb x,Xu v with | some k,some w=>if kvs.length<sizeLine then ZD (.nx (ρ.set i (some (.du (Z1 kvs k w))))) else Zz | _,_=>Zz
 | _=>Zz
theorem Zhs {r1 r2:Bool}{i:Nat}{x:Str}{ex ev:Expr}{p1 p2 pos:Pos}{fx fv:Zb->M D}{tx tv:TE}(hu:X.A.units+1<cLine)(hi:i∈own)(hn:PE X (.Name x p1) (Z7 i))(px:PE X ex tx)(yx:W4 G own r1 tx fx)(pv':PE X ev tv)(yv:W4 G own r2 tv fv)
  (hs:swapsWith ev (some (.Subscript (.Name x p1) ex p2)) pos.line X.env=pure false) :
  Yx X G ob own own fr (.Assign [.Subscript (.Name x p1) ex p2] ev pos) (U5 i fx fv):=by
 refine⟨_,ZdI hu hn px pv' hs,fun kn jT H0 σ H ρ s out s' E ⟨Hf,j⟩ st e po=>?_⟩;obtain⟨v,s1,a1,a2⟩:=Zv e;obtain⟨xx,s2,a3,a4⟩:=Zv a2;refine yv kn jT H0 σ Hf H ρ s v s1 _ j st a1 fun w jU H1 j1 e1 e2 j9 r1 _=>?_
 cases hb:(ρ[i]?).bind id with
 | none=>rw[hb] at a4;cases a4
 | some c=>
  rw[hb] at a4
  cases c with
  | du kvs=>
   have a4':(match Bb xx,Xu v with | some k,some w=>if kvs.length<sizeLine then ZD (Out.nx (ρ.set i (some (.du (Z1 kvs k w))))) else Zz | _,_=>Zz) s2=some (out,s'):=a4
   cases hk:Bb xx with
   | none=>rw[hk] at a4';cases a4'
   | some k=>
    cases hw:Xu v with
    | none=>rw[hk,hw] at a4';cases a4'
    | some w'=>
     rw[hk,hw] at a4';obtain⟨hl,a5⟩:=YV a4';obtain⟨rfl,rfl⟩:=ZL a5;have ei:=JM hb;obtain⟨a,h1,h2,h3,h4,h5⟩:=j1.ow i _ hi ei;refine⟨_,h1,?_⟩;refine yx kn jT H0 σ jU H1 ρ s1 _ _ _ j1 j9 a3 fun w2 jY H2 j2 e3 e4 j7 r2 _=>?_;obtain⟨a',h1',h2',h3',h4',h5'⟩:=j2.ow i _ hi ei;rw[h1] at h1';cases h1';have ew:=By hw r1;subst ew
     match xx,hk,r2 with
     | .tup ks,hk,r2=>
      obtain⟨q,vs,rfl,nq,hq,rq⟩:=jb.mp r2;have ey:=Ud (show YY ks=some k from hk) rq;subst ey;refine⟨a,_,rfl,X5.t (k:=k) (show H2 a=some (.dT kvs) from h5') (j2.gr.fh _ _ nq hq) (by omega),?_⟩;exact po σ _ ⟨jY,j2.put hi ei h1 (show Zk H2 a (.dT (Z1 kvs k w)) a=some (.dT (Z1 kvs k w)) from ZI)⟩ (jv j7 h2)
  | _=>cases a4
theorem ZfI {r1 r2:Bool}{i:Nat}{x:Str}{ex ev:Expr}{p1 p2 pos:Pos}{fx fv:Zb->M D}(hu:X.A.units+1<cLine)(hi:i∈own)(hn:PE X (.Name x p1) (Z7 i))(hx:PD X G r1 ex fx)(hv:PD X G r2 ev fv)
  (hs:swapsWith ev (some (.Subscript (.Name x p1) ex p2)) pos.line X.env=pure false:=by rfl) :
  Yx X G ob own own fr (.Assign [.Subscript (.Name x p1) ex p2] ev pos) (U5 i (fun ρ=>fx (Z8 own ρ)) (fun ρ=>fv (Z8 own ρ))):=by
 obtain⟨tv,pv',qv⟩:=hv;obtain⟨tx,px,qx⟩:=hx;have yv:XH G r2 tv fv:=qv;have yx:XH G r1 tx fx:=qx;exact Zhs hu hi hn px yx.a pv' yv.a hs
end
end TF
namespace HT
section
variable {prog:Program}{w:World}{A:Around}{E:Value->Shared->Prop}{s:Shared}
end
end HT
namespace TF
open L2
section
variable {X:Cx}{G:Gh}
end
end TF
namespace HT
section
variable {prog:Program}{w:World}{A:Around}{R:Result->Shared->Prop}{I:Addr}{fp wr:List Addr}{n:Nat}{P:Nat->Value->Prop}{St:Nat->Heap->Prop}
end
section
variable {prog:Program}{w:World}{A:Around}{E:Value->Shared->Prop}{s:Shared}
end
section
variable {prog:Program}{w:World}{A:Around}{R:Result->Shared->Prop}{I:Addr}{fp wr:List Addr}{n:Nat}{P:Nat->Value->Prop}{St:Nat->Heap->Prop}
end
section
variable {prog:Program}{w:World}{A:Around}{E:Value->Shared->Prop}{s:Shared}
end
end HT
namespace L2
section
variable {X:Cx}
theorem ZcP {M:Model}{h:Heap}{id:String}:PySem.W.Looks M h (keeperOf (.builtin id)) qbo:=fun A Q E s _ q=>by
 show wpAny M A (pure qbo) Q E s;exact wpAny_pure q
end
end L2
namespace TF
open L2
section
variable {X:Cx}{G:Gh}
end
end TF
namespace TS
open L2
section
variable {prog:Program}{w:World}{A:Around}{E:Value->Shared->Prop}{s:Shared}
end
end TS
namespace TF
open L2 TS
section
variable {X:Cx}{G:Gh}
end
end TF
namespace TP2
open L2 TF TP
end TP2
namespace TP3
open L2 TF TP
open TP2
end TP3
namespace TP3
open L2 TF TP
open TP2
end TP3
namespace TP3
open L2 TF TP
open TP2
noncomputable def ZdS:Zb->M Out:=(Zi (ZR (ZN Zjb (Zc (Z0 [none,some 0] (Yb (Zd YZ (ZN YC (Zc (Za 0) Ze)) (dC (.int 1)))) (Zy 0) (asB (Zd Vg (Za 0) (Za 1))) (Za 0)) Ze)))
 Zt)
noncomputable def UH:List D->M D:=runB 1 1 ZdS
end TP3
namespace TP3
open L2 TF TP
open TP2
end TP3
namespace TP3
open L2 TF TP
open TP2
end TP3
namespace TP3
open L2 TF TP
open TP2
end TP3
namespace TP3
open L2 TF TP
open TP2
end TP3
namespace TQ
open L2 TF TQ
open TP
open TP2
open TP3
noncomputable def Zht:Zb->M Out:=(Zi (ZR (Vo (Zd dLt (Zd Zl (Za 0) (dC (.int 0))) (Zd Zl (Za 1) (dC (.int 1)))) (Zd dLt (Zd Zl (Za 1) (dC (.int 0))) (Zd Zl (Za 0) (dC (.int 1))))))
 Zt)
noncomputable def JA:List D->M D:=runB 2 2 Zht
noncomputable def Zbe:Zb->M Out:=(Zi (ZR (Jh (Zd Wh (Za 1) (Za 2)) (Zq WR (Zc (Za 0) (Zc (Za 1) (Zc (Za 2) Ze))))))
 Zt)
noncomputable def Zaj:List D->M D:=runB 3 3 Zbe
noncomputable def ZdT:List D->M D:=runB 4 4 (Zi (Y1 (asB (Zd Wh (Zd Zl (Za 0) (dC (.int 0))) (Zd Zl (Za 1) (dC (.int 0)))))
 (Zi (ZR (Zq WR (Zc (Zd Zl (Za 2) (Zd Zl (Za 0) (dC (.int 0)))) (Zc (Zd Zl (Za 0) (dC (.int 1))) (Zc (Zd Zl (Za 1) (dC (.int 1))) Ze)))))
 Zt)
 Zt)
 (Zi (ZR (Zq WR (Zc (Za 3) (Zc (Zd Zl (Za 0) (dC (.int 0))) (Zc (Zd Zl (Za 1) (dC (.int 0))) Ze)))))
 Zt))
noncomputable def Zbf:List D->M D:=YI 3 (J6 (Zq WR (Zc (Za 2) (Zc (Za 0) (Zc (Za 1) Ze)))))
noncomputable def Zcj:List D->M D:=runB 4 4 (Zi (ZR (Vo (Zq Zaj (Zc (Za 2) (Zc (Zd Zl (Za 0) (dC (.int 0))) (Zc (Zd Zl (Za 1) (dC (.int 0))) Ze)))) (Zq Zaj (Zc (Za 3) (Zc (Zd Zl (Za 0) (dC (.int 1))) (Zc (Zd Zl (Za 1) (dC (.int 1))) Ze))))))
 Zt)
noncomputable def ZaW:List D->M D:=YI 3 (Zq WR (Zc (Za 2) (Zc (Za 0) (Zc (Za 1) Ze))))
noncomputable def Zah:List D->M D:=YI 3 (Jh (Zd Yq (ZV (Zc (Za 0) (Zc (Za 1) Ze))) (Za 2)) (Zd Yq (ZV (Zc (Za 1) (Zc (Za 0) Ze))) (Za 2)))
noncomputable def Zck:List D->M D:=YI 3 (Zd XB (Zd dMod (Za 0) (Za 2)) (Zd dMod (Za 1) (Za 2)))
noncomputable def Zbg:List D->M D:=YI 4 (Zd Yq (ZN B4 (Zc (Zd dSub (Za 1) (Za 0)) (Zc (Zd YZ (Zd dSub (Za 2) (Za 1)) (Za 0)) Ze))) (Za 3))
noncomputable def Tl:Nat->List D->M D
 | 0=>Zbf
 | 1=>ZaW
 | 2=>JA
 | 3=>ZdT
 | 4=>Zcj
 | 5=>Zah
 | 6=>Zck
 | 7=>Zbg
 | _=>fun _=>Zz
noncomputable def ZeG:Zb->M Out:=(Zi (ZW 2 (Zq Jy (Zc (WQ (ZN YC (Zc (Za 0) Ze))) Ze)))
 (Zi (ZR (ZV (Zc (ZN YC (Zc (Za 0) Ze)) (Zc (ZN JS (Zc (Z0 [none,some 1,some 0] (Z4 (Za 2)) (Zy 0) (asB (J9 Tl 1 (Zc (Zd Zl (Za 2) (Zd Zl (Za 0) (dC (.int 0)))) (Zc (Zd Zl (Za 2) (Zd Zl (Za 0) (dC (.int 1)))) Ze)))) (Za 0)) Ze)) Ze))))
 Zt))
noncomputable def Vb:List D->M D:=runB 3 2 ZeG
noncomputable def Zje:Zb->M Out:=(Zi (ZW 1 (Zq Ub (Zc (Za 0) Ze)))
 (Zi (ZR (V0 Vb 0 [1] (WQ (Zd Zl (Za 0) (dC (.int 0))))))
 Zt))
noncomputable def Vc:List D->M D:=runB 2 1 Zje
noncomputable def ZbO:Zb->M Out:=(Zi (ZR (V0 Vb 2 [] (Za 0)))
 Zt)
noncomputable def Jo:List D->M D:=runB 1 1 ZbO
end TQ
namespace TF
open L2
noncomputable def ZfJ (K:qf)(L:List (Addr×Str)):Sp:=fun vs H Q _=>∃(a:Addr) (ns:List Int),vs=[.ref a]/\Zu K H a (ns.map V.int)/\ns.length<=63/\(∀P q,(P,q)∈L->H P=some (.tbl #[]))/\∀H',Q (.bl true) H'
theorem ZfK {L:List (Addr×Str)}{tb:List (Str×Addr×Addr)}{H:Hp}(h:∀P q,(P,q)∈L->∃x c,(x,c,P)∈tb)(hT:∀e∈tb,H e.2.2=some (.tbl #[])):∀P q,(P,q)∈L->H P=some (.tbl #[]):=fun P q m=>by
 obtain⟨x,c,z⟩:=h P q m;exact hT _ z
theorem Znb {G0:Gh}{L:List (Addr×Str)}{H:Hp}(h:∀P q,(P,q)∈L->H P=some (.tbl #[])):∀P q,(P,q)∈L->Zll G0 L P q H:=fun P q m=>⟨#[],h P q m,trivial,fun pos cv hc=>by cases hc⟩
theorem Zhu {L:List (Addr×Str)}{H0 H:Hp}{p wa:Addr}{m:Int}{w:List Int}{g:Zb->M Out}{Q:VK}{n:Nat}{s':Pn}{x:V}(st:Bi p wa ([m,0],w) H)(hTb:∀P q,(P,q)∈L->H0 P=some (.tbl #[]))(kp:∀b u,H0 b=some u->H b=some u)(hp:H0 p=none)(hw:H0 wa=none)(hQ:∀H',Q (.bl true) H')
  (hg:g (none::some .pen::qu n none) ([m,0],w)=some (.rt (.bl true),s')) :
  ∃G,W7 Vs L G/\Zle G [] [] [] false g { nx:=fun _ H'=>Q .non H',rt:=Q } (some x::some (.ref p)::qu n none) H:=by
 refine⟨Uv (Je p wa) L,⟨Je p wa,⟨p,wa,rfl⟩,fun b ⟨q,mb⟩ hb=>?_,rfl⟩,fun _=>none,fun _=>none,H,none::some .pen::qu n none,([m,0],w),_,s',⟨fun _=>none,⟨by simp,.refl _ _,.refl (fun b o _ e=>by cases e),fun i d _ e=>?_,fun i d m=>by simp at m,fun i j b di dj m=>by simp at m⟩⟩,⟨st,Znb fun P q z=>kp _ _ (hTb P q z)⟩,hg,fun v Hf' H' g st r _=>?_⟩
 ·have e:=hTb b q mb
  rcases hb with rfl | rfl
  ·rw[hp] at e;cases e
  ·rw[hw] at e;cases e
 ·match i,e with
  | 0,e=>cases e
  | 1,e=>cases e;exact⟨_,rfl,jp.mpr rfl⟩
  | i+2,e=>
   have e':(qu n (none:Option D))[i]?=some (some d):=e;rw[z7] at e';split at e' <;> cases e'
 ·rw[je.mp r]
  exact hQ H'
theorem lok_nd:∀{L:List (Addr×Str)},(L.map (·.1)).Nodup->Wt L
 | [],_=>fun P q q' h=>by simp at h
 | (a,b)::L,nd=>fun P q q' h1 h2=>by
  rw[zi,zI] at nd;rcases qt.mp h1 with e1 | m1
  ·cases e1
   rcases qt.mp h2 with e2 | m2
   ·cases e2;rfl
   ·exact absurd (yu (f:=(·.1)) m2) nd.1
  ·rcases qt.mp h2 with e2 | m2
   ·cases e2;exact absurd (yu (f:=(·.1)) m1) nd.1
   ·exact lok_nd nd.2 P q q' m1 m2
end TF
namespace TT
section
variable {M:Model}{A:Around}{E:Value->Shared->Prop}{s:Shared}
end
end TT
namespace TT
section
variable (rk:Keyed->Int)
variable {rk}{a b out:Array Keyed}{ia ib:Nat}
end
end TT
namespace TT
section
variable {M:Model}{A:Around}{E:Value->Shared->Prop}{s:Shared}
variable {rk:Keyed->Int}{κ:SortKind}{In:Keyed->Prop}
end
end TT
namespace TT
section
variable (rk:Keyed->Int)
variable {rk}{a b out:Array Keyed}{na nb:Nat}
end
section
variable {M:Model}{A:Around}{E:Value->Shared->Prop}{s:Shared}{rk:Keyed->Int}{κ:SortKind}{In:Keyed->Prop}
end
end TT
namespace TT
section
variable {M:Model}{A:Around}{E:Value->Shared->Prop}{s:Shared}{rk:Keyed->Int}{κ:SortKind}{In:Keyed->Prop}
end
end TT
namespace TT
section
variable (rk:Keyed->Int)
end
section
variable {rk:Keyed->Int}
end
section
variable {M:Model}{A:Around}{E:Value->Shared->Prop}{s:Shared}{rk:Keyed->Int}{κ:SortKind}{In:Keyed->Prop}
end
end TT
namespace TT
section
variable {M:Model}{A:Around}{E:Value->Shared->Prop}{s:Shared}{rk:Keyed->Int}{κ:SortKind}{In:Keyed->Prop}
end
end TT
namespace TT
section
variable {M:Model}{A:Around}{E:Value->Shared->Prop}{s:Shared}{rk:Keyed->Int}{κ:SortKind}{In:Keyed->Prop}{a₀:List Keyed}
end
end TT
namespace TT
section
variable {M:Model}{A:Around}{E:Value->Shared->Prop}{s:Shared}{rk:Keyed->Int}{κ:SortKind}{In:Keyed->Prop}{a₀:List Keyed}
end
end TT
namespace TT
open L2 TS
open Classical in
section
variable {prog:Program}{w:World}{A:Around}{E:Value->Shared->Prop}{s:Shared}
end
end TT
namespace TF
open L2
section
variable {X:Cx}{G:Gh}
noncomputable def Zls (i j l:Nat):D->Zb->Option Zb:=fun d ρ=>match d with | .tup [a,b,c]=>some (((ρ.set i (some a)).set j (some b)).set l (some c)) | _=>none
theorem Zjf {i j l:Nat}{x y z:Str}{pos px py pz:Pos}{k:Nat}{ok:Nat->Prop}(hc:X.calm=true)(oi:ok i)(oj:ok j)(ol:ok l)
  (hn:(assignEach [.Name x px,.Name y py,.Name z pz] X.env).length=3:=by rfl) (hst:(assignEach [.Name x px,.Name y py,.Name z pz] X.env).findIdx? (·.1)=none:=by rfl)
  (hp:Jg X [.Name x px,.Name y py,.Name z pz] (U1 (Wd i) (U1 (Wd j) (U1 (Wd l) gNil)))):WN X G (.Tuple [.Name x px,.Name y py,.Name z pz] k pos) ok (Zls i j l):=
 ⟨_,ZhY hc hp hn hst,fun x σ Hf H d ρ ρ' Q e r q k=>by
  match d,q,r with
  | .tup [a,b,c],q,r=>
   cases q
   obtain⟨ad,vs,rfl,n,h,rl⟩:=jb.mp r;obtain⟨v1,r1,rfl,q1,q2⟩:=jd.mp rl;obtain⟨v2,r2,rfl,q3,q4⟩:=jd.mp q2;obtain⟨v3,r3,rfl,q5,q6⟩:=jd.mp q4;have:=Zg.nil_iff.mp q6;subst this;exact⟨ad,_,rfl,ZF.of (e _ _ n h),rfl,v1,_,rfl,v2,_,rfl,v3,_,rfl,rfl,k _ (.cons oi q1 (.cons oj q3 (.cons ol q5 .nil)))⟩⟩
theorem Zjg {i:Nat}{x:Str}{e:Expr}{pos p1 p2 p3:Pos}{r1 fr:Bool}{ob own:List Nat}{f:Zb->M D}(hi:i∈own)(hv:PE X (.Name x p1) (Z7 i))(he:PD X G r1 e f)
  (hbase:attributeBase (.Name x p1) "extend" X.env (eval (.Name x p1) X.env)=eval (.Name x p1) X.env:=by rfl)
  (hfew:((backTo p3 (starEach [e] X.env)).all (fun x=>!x.1)&&(backToKw p3 (keywordEach [] X.env)).all (fun x=>x.1.isSome)
   && decide ([e].length+([]:List Keyword).length+(if ([]:List Keyword).isEmpty then 0 else 1)<30))=true:=by rfl)
  (hline:(p2.endLine==p3.line)=true:=by rfl) (hs:starEach [e] X.env=(false,eval e X.env)::starEach [] X.env:=by rfl)
  (hsw:swapsWith (.Call (.Attribute (.Name x p1) "extend" p2) [e] [] p3) none pos.line X.env=pure false:=by rfl) :
  Yx X G ob own own fr (.Expr (.Call (.Attribute (.Name x p1) "extend" p2) [e] [] p3) pos) (J8 i (fun ρ=>f (Z8 own ρ))):=
 Ziz hi he fun te p=>Zg5 hv p hbase hfew hline hs hsw
end
end TF
namespace L2
section
variable {X:Cx}{tg:Expr}
end
end L2
namespace TF
open L2
section
variable {X:Cx}{G:Gh}{ob own:List Nat}{fr:Bool}
end
end TF
namespace TF
open L2
open Sem (wp)
section
variable {prog:Program}{w:World}{A:Around}{E:Value->Shared->Prop}{s:Shared}
noncomputable def ZdU (n:Nat)(a c:Int)(jQ:Array Value):Prop:=
 ItemsOf (fun i v=>∃t,v=.int (a+i*c) t) jQ n
theorem ZeH {Q : List Value -> Shared -> Prop}{r : Addr}{a b c : Int}{t u v : Tok}{n : Nat}
    (hh : A.handled = none) (hr : IsRange s.heap r a b c t u v)
    (hsmall : Builtin.Range.small a b c = true) (hn : yw a b c = n)
    (jV : n <= 2 ^ 24)
    (hQ : ∀ (h' : Heap) (tk : Nat) (jQ : Array Value), (∀ b o', s.heap.get? b = some o' -> h'.get? b = some o') ->
      ZdU n a c jQ -> Q jQ.toList { s with heap := h', toks := tk }) :
    wpAny (model prog w) A (collect (.ref r)) Q E s := by
  unfold collect;apply wpAny_bind;apply wpAny_runValue;apply codeAny_builtin F.entry_proto_collect;rw[yH
    F.plain_proto_collect _]
  show wpAny _ A.in1 (newList [] >>= fun z =>
    again (.builtin "list.__iadd__" ⟨[z, .ref r], []⟩)) _ _ s
  apply wpAny_bind;refine wpAny_newObj_type ?_;refine wpAny_pure ⟨plainId_quiet
    F.plain_list_iadd _, codeAny_builtin
    F.entry_list_iadd ?_⟩
  rw[yH
    F.plain_list_iadd _]
  show wpAny _ A.in1 (yE
    (.ref s.heap.objs.size) (.ref r)
    (.ref s.heap.objs.size)) _ _ _
  have h0 : (s.heap.push
      { cls := .type "list", data := .seq ([] : List Value).toArray }).get?
      s.heap.objs.size = some { cls := .type "list", data := .seq #[] 0 } :=
    qy _ rfl
  have fin' : ∀ (h' : Heap) (tk : Nat) (jQ : Array Value) (k : Nat),
      (∀ b o', s.heap.get? b = some o' -> h'.get? b = some o') ->
      h'.get? s.heap.objs.size = some
        { cls := .type "list", dict := none, data := .seq jQ k, slots := #[] } ->
      ZdU n a c jQ -> wpAny (model prog w) A (match qI s.heap.objs.size with
        | qI a => do
          match (<- load a).data with
            | Data.seq xs _ => pure xs.toList
            | _ => unsupported "internal:collect"
        | _ => unsupported "internal:collect") Q E { s with heap := h', toks := tk } := by
    intro h' tk jQ k kp hS hi;show wpAny _ A (load s.heap.objs.size >>= _) _ _ _;refine wpAny_bind (wpAny_load hS ?_);exact wpAny_pure (hQ h' tk jQ kp hi)
  refine wpAny_mono (wpAny_extend_range (A := A)
    (R := fun r s' => r = .ok (.ret (.ref s.heap.objs.size)) /\
      ∃ h' tk jQ k, (∀ b o', s.heap.get? b = some o' -> h'.get? b = some o') /\
        h'.get? s.heap.objs.size = some
          { cls := .type "list", dict := none, data := .seq jQ k, slots := #[] } /\ ZdU n a c jQ /\
        s' = { s with heap := h', toks := tk })
    (s := { s with heap := (s.heap.push
      { cls := .type "list", data := .seq ([] : List Value).toArray }) }) hh
    (qd _ hr) hsmall hn jV _ _ 0 h0
    fun h' tk acc' c' hk hS' hacc => ⟨rfl, h', tk, acc', c', fun b o e => hk b o (qP
      (qz e)) (qd _ e), hS', hacc, rfl⟩)
    (fun fin s' h => ?_) (fun e s' h => ?_)
  · cases fin with
    | done f =>
      obtain⟨e, h', tk, jQ, k, kp, hS, hi, rfl⟩ := h
      cases e
      exact fin' h' tk jQ k kp hS hi
    | again c' =>
      refine⟨h.1, codeAny_mono h.2
        fun r s'' hr => ?_⟩
      obtain⟨rfl, h', tk, jQ, k, kp, hS, hi, rfl⟩ := hr;exact fin' h' tk jQ k kp hS hi
  · exact absurd h.1 (by simp)
end
variable {X:Cx}{G:Gh}{f:Zb->M D}
end TF
namespace HT
end HT
namespace HT
section
variable {prog:Program}{w:World}
variable (prog w) in
variable {A:Around}{E:Value->Shared->Prop}{s:Shared}
end
end HT
namespace HT
namespace FS
end FS
section
variable {prog:Program}{w:World}{A:Around}{E:Value->Shared->Prop}{s:Shared}
end
end HT
namespace HT
section
variable {prog:Program}{w:World}{A:Around}{E:Value->Shared->Prop}{s:Shared}
variable {a:Addr}{o:Obj}{es:Array (Int×Value)}{ep:Nat}{t:SetTable}
namespace FS
end FS
end
end HT
namespace HT
section
variable {prog:Program}{w:World}{A:Around}{E:Value->Shared->Prop}{s:Shared}
variable {a:Addr}{o:Obj}{es:Array (Int×Value)}{ep:Nat}{t:SetTable}
end
end HT
namespace HT
section
variable {prog:Program}{w:World}{A:Around}{E:Value->Shared->Prop}{s:Shared}
variable {a:Addr}{o:Obj}{es:Array (Int×Value)}{ep:Nat}{t:SetTable}
end
end HT
namespace TF
open L2
section
variable {X:Cx}{G:Gh}
end
section
variable {X:Cx}{G:Gh}{ob own:List Nat}{fr:Bool}{f:Zb->M D}
end
end TF
namespace TT
open L2 TS
section
variable {prog:Program}{w:World}{A:Around}{E:Value->Shared->Prop}{s:Shared}
end
end TT
namespace TS
open L2
section
variable {prog:Program}{w:World}{A:Around}{E:Value->Shared->Prop}{s:Shared}
end
end TS
namespace TF
open L2 TS
section
variable {X:Cx}{G:Gh}
end
end TF
namespace TF
open L2 TT
section
variable {X:Cx}{G:Gh}
end
end TF
namespace TQ
open L2 TF TQ
open TP
open TP2
open TP3
end TQ
namespace TF
open L2
section
variable {X:Cx}{G:Gh}{f g:Zb->M D}
end
end TF
namespace TQ
open L2 TF
end TQ
namespace TF
open L2
section
variable {X:Cx}{G:Gh}
end
theorem boot_sum:bootBuiltins "sum" = some (.builtin "sum"):=by decide +kernel
section
variable {X:Cx}{G:Gh}
noncomputable def W1 (ns:List Int):Bool:=ns.all fun n=>decide (-4294967296<=n)&&decide (n<=4294967296)
theorem ZeI {ns:List Int}(h:W1 ns=true):∀j:Nat,-(4294967296*(j:Int))<=(ns.take j).sum/\(ns.take j).sum<=4294967296*(j:Int):=by
 intro j
 induction ns generalizing j with
 | nil=>rw[List.take_nil];show _<=(0:Int)/\(0:Int)<=_;omega
 | cons n r ih=>
  cases j with
  | zero=>rw[qbp];show _<=(0:Int)/\(0:Int)<=_;omega
  | succ j=>
   unfold W1 at h;simp only[List.all_cons,zd,decide_eq_true_eq] at h;have:=ih h.2 j;rw[List.take_succ_cons,List.sum_cons];omega
noncomputable def dSum:List D->Option D
 | [.lst ds]=>match ZH ds with | some ns=>if W1 ns=true then some (.int ns.sum) else none | none=>none
 | _=>none
theorem Zhv (hc:X.calm=true):Xy X (.builtin "sum") (fun xs H Q=>∃p ns,xs=[.ref p]/\Zu X.K H p (ns.map V.int)/\W1 ns=true/\Q (.int ns.sum) H):=by
 intro jJ s σ H xs us Q I r h;obtain⟨p,ns,rfl,hp,ok,q⟩:=h;obtain⟨u,rfl,ru⟩:=X2 r
 cases ru
 obtain⟨jL,rv,pl,hz⟩:=I.list hp;have hi:IntsAre jL ns:=Vw rv;obtain⟨xs,e⟩:=hi.allInts.items;have hns:ns=xs.toList.map (·.1):=by rw[<-hi.numsOf,<-nums_intItems,<-e]
 have hl:=pl.isList;rw[e] at hl;have jV:ns.length=xs.size:=by rw[hns,qj,zg]
 have hz2:ns.length<=16777216:=by
  have:=hz;rw[qj] at this;rw[show sizeLine=16777216 by decide] at this;exact this
 refine sum_intList (I.ok.hd hc) hl (fun j hj=>?_) fun h' tk t' hk=>?_
 ·rw[preSum_eq,<-hns]
  have h1:=ZeI ok (j+1);have h2:-4294967296<=numAt xs j/\numAt xs j<=4294967296:=by
   rw[numAt_eq,<-hns];have hm:ns.getD j 0∈ns:=getD_mem (by omega);have:=zV.mp ok _ hm;simp only[zd,decide_eq_true_eq] at this;exact this
  constructor
  ·constructor <;> omega
  ·constructor <;> omega
 ·rw[preSum_eq,<-hns,<-jV,qaq]
  exact⟨.int ns.sum,H,I.kept (t':=tk) hk,⟨_,rfl⟩,q⟩
theorem Zhw (hc:X.calm=true):XS X G (.builtin "sum") dSum:=
 ⟨_,Zhv hc,fun Hf H s xs ds c Q e1 st r q k=>by
  match ds,q,r with
  | [.lst es],q,r=>
   have q:(match ZH es with | some ns=>if W1 ns=true then some (D.int ns.sum) else none | none=>none)=some c:=q
   cases he:ZH es with
   | none=>rw[he] at q;cases q
   | some ns=>
    rw[he] at q;by_cases ok:W1 ns=true
    ·have q:(if W1 ns=true then some (D.int ns.sum) else none)=some c:=q
     rw[if_pos ok] at q
     cases q
     obtain⟨v,rfl,rv⟩:=jh r;obtain⟨p,vs,rfl,np,hp,rp⟩:=jc.mp rv;rw[Wv he] at rp;rw[jn rp] at hp;exact⟨p,ns,rfl,Zu.of (e1 _ _ np hp),ok,k _ Hf H (.refl e1) st (ja.mpr rfl) (.scal fun z=>z)⟩
    ·have q:(if W1 ns=true then some (D.int ns.sum) else none)=some c:=q
     rw[if_neg ok] at q;cases q⟩
end
end TF
namespace TF
open L2 PySem.SeqAt
open AutoSeq1 (wpAny_loadPart')
theorem ZeJ (l:Addr)(items:Array Value)(n:Nat)(dd:Option Addr)(sl:Array (Option Value))(u:Tok) :
  Meets (Builtin.«tuple.__mul__» ⟨[.ref l,.int 1 u],[]⟩) (fun _ R s=>s.heap.get? l=some { cls:=.type "tuple",dict:=dd,data:=.seq items n,slots:=sl }/\R (.ok (.ret (qI l))) s):=
 .of_wp fun prog w A R s h=>by
  obtain⟨hp,g,d,tk,os⟩:=s;obtain⟨hl,h⟩:=h;have f1:=qa2;have f2:=yp;have f3:=qak;have f4:=qaa;have f5:=qab;wp_walk using wpAny_loadPart' hl;exact⟨_,rfl,h⟩
theorem ZeK (l:Addr)(items:Array Value)(n:Nat)(dd:Option Addr)(sl:Array (Option Value))(u:Tok)(hc1:items.isEmpty=false) :
  Meets (Builtin.«tuple.__mul__» ⟨[.ref l,.int 0 u],[]⟩) (fun _ R s=>s.heap.get? l=some { cls:=.type "tuple",dict:=dd,data:=.seq items n,slots:=sl }/\R (.ok (.ret (qI s.heap.objs.size))) { s with heap:=s.heap.push { cls:=yC "tuple",data:=Data.seq #[] },toks:=s.toks }):=
 .of_wp fun prog w A R s h=>by
  obtain⟨hp,g,d,tk,os⟩:=s;obtain⟨hl,h⟩:=h;have f1:=qa2;have f2:=yp;have f3:=qak;have f4:=qaa;have f5:=qab;wp_walk using wpAny_loadPart' hl;exact⟨_,rfl,h⟩
section
variable {X:Cx}{G:Gh}
noncomputable def Zmm (K:qf):R2:=fun x y H Q=>∃l xs,x=.ref l/\y=.int 1/\ZF K H l xs/\Q (.ref l) H
noncomputable def Zmn (K:qf):R2:=fun x y H Q=>∃l xs,x=.ref l/\y=.int 0/\ZF K H l xs/\xs≠[]/\∀p,H p=none->Q (.ref p) (Zk H p (.tup []))
theorem Zjh:Yi X (binaryOp .Mult) (Zmm X.K):=by
 intro jJ s σ H x y v u Q I rx ry h;obtain⟨l,xs,rfl,rfl,hH,q⟩:=h
 cases rx
 obtain⟨t,rfl⟩:=ry;obtain⟨jL,r,p1,_⟩:=I.tuple hH;obtain⟨⟨cls,dd,data,sl⟩,ho,hc,n,hd⟩:=id p1;simp only at hc hd;subst hc hd;exact wpAny_binaryOp_repeat_ref (T:="tuple") (U:="int") (by decide) ⟨_,ho,rfl⟩ (fun s'=>typeIs_int s' 1 t) Zab qau zX Zay qan.lookup
  (call_meets zX (typeIs_int s 1 t) qao (qae _ _) (Zag 1 t l jL.toArray n dd sl)
   ⟨ho,rfl,⟨_,ho,rfl⟩,call_meets yc ⟨_,ho,rfl⟩ qac (yV _ _) (ZeJ l jL.toArray n dd sl t) ⟨ho,.ref l,H,I,rfl,q⟩⟩)
theorem Zji:Yi X (binaryOp .Mult) (Zmn X.K):=by
 intro jJ s σ H x y v u Q I rx ry h;obtain⟨l,xs,rfl,rfl,hH,hne,q⟩:=h
 cases rx
 obtain⟨t,rfl⟩:=ry;obtain⟨jL,r,p1,_⟩:=I.tuple hH;obtain⟨⟨cls,dd,data,sl⟩,ho,hc,n,hd⟩:=id p1;simp only at hc hd;subst hc hd;have hne':jL≠[]:=fun z=>hne (r.nil_iff.mp z);have hemp:jL.toArray.isEmpty=false:=by cases jL with | nil=>exact absurd rfl hne' | cons a b=>rfl
 exact wpAny_binaryOp_repeat_ref (T:="tuple") (U:="int") (by decide) ⟨_,ho,rfl⟩ (fun s'=>typeIs_int s' 0 t) Zab qau zX Zay qan.lookup
  (call_meets zX (typeIs_int s 0 t) qao (qae _ _) (Zag 0 t l jL.toArray n dd sl)
   ⟨ho,rfl,⟨_,ho,rfl⟩,call_meets yc ⟨_,ho,rfl⟩ qac (yV _ _) (ZeK l jL.toArray n dd sl t hemp) ⟨ho,.ref s.heap.objs.size,_,I.laid (t':=s.toks) (o:=.tup []) (fun b ob q=>qd _ q) (qp _) ⟨zj _,[],.nil,qaE _ _⟩,rfl,q _ (I.hok.fresh (qp _))⟩⟩)
noncomputable def Zgq (d e:D):Option D:=match d,e with
 | .tup ds,.int k=>if k=1 then some (.tup ds) else if k=0/\ds≠[] then some (.tup []) else U3 (.tup ds) (.int k)
 | _,_=>U3 d e
theorem Zjj:Xp X G (binaryOp .Mult) Zgq:=by
 obtain⟨r0,po,qo⟩:=ZiI (X:=X) (G:=G);refine⟨_,po.or (Zjh.or Zji),fun Hf H s x y d e c Q e1 st rx ry q k=>?_⟩;by_cases hd:∃ds j,d=.tup ds/\e=.int j
 ·obtain⟨ds,j,rfl,rfl⟩:=hd
  have q:(if j=1 then some (D.tup ds) else if j=0/\ds≠[] then some (.tup []) else U3 (.tup ds) (.int j))=some c:=q;by_cases h1:j=1
  ·rw[if_pos h1] at q
   cases q
   obtain⟨p,vs,rfl,np,hp,rp⟩:=jb.mp rx;refine .inr (.inl ⟨p,vs,rfl,by rw[ja.mp ry,h1],ZF.of (e1 _ _ np hp),?_⟩);exact k (.ref p) _ _ (.refl e1) st (jb.mpr ⟨p,vs,rfl,np,hp,rp⟩) (.scal fun z=>z)
  ·rw[if_neg h1] at q
   by_cases h2:j=0/\ds≠[]
   ·rw[if_pos h2] at q
    cases q
    obtain⟨p,vs,rfl,np,hp,rp⟩:=jb.mp rx;refine .inr (.inr ⟨p,vs,rfl,by rw[ja.mp ry,h2.1],ZF.of (e1 _ _ np hp),fun z=>h2.2 (z8.mp (by rw[rp.length,z];rfl)),fun l hl=>?_⟩);have nf:=Gh.nofp st hl;have g2:=Gr.new (o:=.tup []) e1 hl nf;exact k (.ref l) _ _ g2 (Gh.grow st hl) (jb.mpr ⟨l,_,rfl,nf,ZI,Zg.nil_iff.mpr rfl⟩) (.scal fun z=>z)
   ·rw[if_neg h2] at q
    exact .inl (qo Hf H s x y _ _ c Q e1 st rx ry q k)
 ·have q':U3 d e=some c:=by
   unfold Zgq at q;split at q
   ·exact absurd ⟨_,_,rfl,rfl⟩ hd
   ·exact q
  exact .inl (qo Hf H s x y _ _ c Q e1 st rx ry q' k)
end
end TF
namespace TQ
open L2 TF TQ
open TP
open TP2
open TP3
noncomputable def ZfL:Zb->M Out:=(Zi (ZW 1 (ZV (Zc (Zd Zl (Za 0) (dC (.int 0))) (Zc (Zq Ub (Zc (Za 0) Ze)) Ze))))
 (Zi (ZR (Z0 [none,some 1] (Yb (Zd Zl (Za 0) (dC (.int 0)))) (Zy 0) Ya (Zq UV (Zc (Za 1) (Zc (Za 0) Ze)))))
 Zt))
noncomputable def UK:List D->M D:=runB 2 1 ZfL
noncomputable def ZbP (Fs:List D->M D):Zb->M Out:=(Zi (ZW 4 (Z0 [none,some 2,some 0] (Z4 (Za 3)) (Zy 0) (WJ (asB (Zd XB (Za 0) (Za 1))) (asB (Zd Vg (Za 0) (Zd Zl (Za 2) (Za 1))))) (Za 0)))
 (Zi (ZR (Zd YZ (YH (Zc (Za 2) Ze)) (Zq Fs (Zc (Za 0) (Zc (Za 1) (Zc (Za 4) Ze))))))
 Zt))
noncomputable def Bl (Fs:List D->M D):List D->M D:=runB 5 4 (ZbP Fs)
noncomputable def ZcQ:Zb->M Out:=(Zi (ZR (Z0 [none,some 0,some 1] (Z4 (Za 2)) (Zy 0) (asB (Zd Yq (Za 0) (Zd Zl (Za 1) (Za 2)))) (Za 0)))
 Zt)
noncomputable def Zal:List D->M D:=runB 3 3 ZcQ
noncomputable def Zhx:Zb->M Out:=(Zi (ZR (ZN dSum (Zc (Z0 [none,some 0] (Z4 (Za 1)) (Zy 0) Ya (Zd Zl (Za 1) (Za 0))) Ze)))
 Zt)
noncomputable def JB:List D->M D:=runB 2 2 Zhx
noncomputable def Zac (Fs:List D->M D):Zb->M Out:=(Zi (Y1 (asB (Zd Wh (Za 2) (YH Ze)))
 (Zi (ZR (YH Ze))
 Zt)
 Zt)
 (Zi (ZW 3 (Z0 [none,some 0,some 2] (Z4 (Za 2)) (Zy 0) Ya (Zq Zal (Zc (Za 1) (Zc (Za 0) (Zc (Za 2) Ze))))))
 (Zi (Xc (Yb (ZN YC (Zc (Za 2) Ze))) (Zy 4)
 (Zi (Y1 (asB (Zd Jj (Zq JB (Zc (Za 1) (Zc (Zd Zl (Za 3) (Za 4)) Ze))) (Zd Zl (Za 1) (Zd Zl (Za 2) (Za 4)))))
 (Zi (ZR (Zq (Bl Fs) (Zc (Za 0) (Zc (Za 1) (Zc (Zd Zl (Za 2) (Za 4)) (Zc (Za 2) Ze))))))
 Zt)
 Zt)
 Zt))
 (Zi (ZW 5 (Z0 [none] (Z4 (Za 3)) (Zy 0) Ya (ZN YC (Zc (Za 0) Ze))))
 (Zi (ZW 6 (Zd Zl (Za 2) (Zd BX (Za 5) (ZN B8 (Zc (Za 5) Ze)))))
 (Zi (ZW 7 (Zq (Bl Fs) (Zc (Za 0) (Zc (Za 1) (Zc (Za 6) (Zc (Za 2) Ze))))))
 (Zi (ZW 8 (Zq Fs (Zc (Za 0) (Zc (Za 1) (Zc (Z0 [none,some 6] (Z4 (Za 2)) (Zy 0) (asB (Zd XB (Za 0) (Za 1))) (Za 0)) Ze)))))
 (Zi (ZR (Bf (asB (Zd V5 (Zq JB (Zc (Za 1) (Zc (Za 7) Ze))) (Zq JB (Zc (Za 1) (Zc (Za 8) Ze))))) (Za 7) (Za 8)))
 Zt))))))))
noncomputable def Ua:Nat->List D->M D
 | 0=>fun _=>Zz
 | n+1=>runB 9 3 (Zac (Ua n))
noncomputable def ZaC:Zb->M Out:=(Zi (ZW 2 (Z0 [none] (Z4 (Zq UK (Zc (Zq Vc (Zc (Za 0) Ze)) Ze))) (Zy 0) Ya (ZN BV (Zc (Z0 [none] (Z4 (Za 0)) (Zy 0) Ya (ZV (Zc (Za 0) (Zc (dC (.bl true)) Ze)))) Ze))))
 (Zi (ZR (ZN JS (Zc (ZN BO (Zc (Zq (Ua 26) (Zc (Za 2) (Zc (Za 1) (Zc (WQ (Zd Zl (Za 0) (dC (.int 0)))) Ze)))) Ze)) Ze)))
 Zt))
noncomputable def Jp:List D->M D:=runB 3 2 ZaC
noncomputable def Zmo:Zb->M Out:=(Zi (ZW 1 (Zq Jp (Zc (Za 0) (Zc (Zd Zgq (ZV (Zc (dC (.int 1)) Ze)) (Zd Zl (Za 0) (dC (.int 0)))) Ze))))
 (Zi (ZR (ZV (Zc (ZN YC (Zc (Za 1) Ze)) (Zc (Za 1) Ze))))
 Zt))
noncomputable def VB:List D->M D:=runB 2 1 Zmo
noncomputable def ZdV:Zb->M Out:=(Zi (ZW 2 (Zq UK (Zc (Za 0) Ze)))
 (Zi (Vp 3 (dC (.dk [])))
 (Zi (Xc (fun ρ=>(Z4 (Za 1)) (Z8 [3] ρ)) (Zy 4)
 (Zi (U4 3 (fun ρ=>(Za 4) (Z8 [3] ρ)) (W9 true (Zq UH (Zc (Z0 [none,some 3] (Z4 (Zd Zl (Za 2) (Za 4))) (Zy 0) (asB (Zd Yq (Za 0) (Za 1))) (Zd V1 (Za 1) (Za 0))) Ze))))
 Zt))
 (Zi (ZR (ZN JS (Zc (Z0 [none,some 3] (Yb (Zd Zl (Za 0) (dC (.int 0)))) (Zy 0) Ya (Zd V1 (Za 1) (Za 0))) Ze)))
 Zt))))
noncomputable def Js:List D->M D:=runB 5 2 ZdV
end TQ
namespace TF
open L2
section
variable {X:Cx}{G:Gh}
end
section
variable {X:Cx}{G:Gh}
end
end TF
namespace TS
open PySem.W
noncomputable def Vh {α:Type}(lt:Nat->Nat->Bool):KasT α->α
 | .ret a=>a
 | .ask i j k=>Vh lt (k (lt i j))
theorem Z9.run {α:Type}{lt:Nat->Nat->Bool}{n:Nat}{Q:α->Prop}:∀{t:KasT α},Z9 lt n t Q->Z9 lt n t (fun a=>a=Vh lt t)/\Q (Vh lt t)
 | .ret a,h=>⟨rfl,h⟩
 | .ask i j k,h=>⟨⟨h.1,h.2.1,(Z9.run (t:=k (lt i j)) h.2.2).1⟩,(Z9.run (t:=k (lt i j)) h.2.2).2⟩
structure OrdW (lt:Nat->Nat->Bool):Prop where
 tr:∀a b c,lt a b=false->lt b c=false->lt a c=false
 as:∀a b,lt a b=true->lt b a=false
section
variable {lt:Nat->Nat->Bool}{n:Nat}{p q:Array Nat}
noncomputable def WO (lt:Nat->Nat->Bool)(p:Array Nat)(m:Nat):Prop:=∀i j,i<j->j<m->lt (g p j) (g p i)=false
noncomputable def Jk (lt:Nat->Nat->Bool)(p:Array Nat)(m:Nat):Prop:=∀i j,i<j->j<m->lt (g p i) (g p j)=false
noncomputable def EqW (lt:Nat->Nat->Bool)(p:Array Nat)(l m:Nat):Prop:=∀i j,l<=i->i<m->l<=j->j<m->lt (g p i) (g p j)=false
theorem OrdW.irr (o:OrdW lt)(a:Nat):lt a a=false:=by
 cases e:lt a a with
 | false=>rfl
 | true=>have:=o.as a a e;rw[e] at this;cases this
theorem ascW (o:OrdW lt)(h:Pm n p):∀(f k:Nat),1<=k->k+f=n->WO lt p k->Z9 lt n (kas_asc p f k) (fun m=>k<=m/\m<=n/\WO lt p m/\(m<n->lt (g p m) (g p (m-1))=true))
 | 0,k,h1,h2,hs=>⟨qp _,by omega,hs,fun z=>by omega⟩
 | f+1,k,h1,h2,hs=>by
  show g p k<n/\g p (k-1)<n/\Z9 lt n (if lt (g p k) (g p (k-1))=true then .ret k else kas_asc p f (k+1)) _;refine⟨h.bd _,h.bd _,?_⟩
  cases e:lt (g p k) (g p (k-1)) with
  | true=>rw[if_pos rfl];exact⟨qp _,by omega,hs,fun _=>e⟩
  | false=>
   rw[if_neg (by simp)];refine Z9.mono (fun m ⟨a,b⟩=>⟨by omega,b⟩) (ascW o h f (k+1) (by omega) (by omega) fun i j hij hj=>?_);by_cases hjk:j<k
   ·exact hs i j hij hjk
   ·have:j=k:=by omega
    subst this;by_cases hi:i=j-1
    ·subst hi;exact e
    ·exact o.tr _ _ _ e (hs i (j-1) (by omega) (by omega))
theorem UX (hj:q.size=n){l m:Nat}(hl:l<=m)(hm:m<=n)(k:Nat):g (kas_rev q l m) k=if l<=k/\k<m then g q (l+(m-1-k)) else g q k:=by
 have e:=getElem?_mirror_all (xs:=q) (i:=l) (j:=m) (by omega) k;unfold kas_rev;by_cases hk:l<=k/\k<m
 ·rw[if_pos hk] at e
  rw[if_pos hk];exact UB (by rw[e];congr 1;omega)
 ·rw[if_neg hk] at e
  rw[if_neg hk];exact UB e
theorem Zlt (hs:p.size=n){l m:Nat}(hl:l<=m)(hm:m<=n)(hd:Jk lt p m)(he:EqW lt p l m):Jk lt (kas_rev p l m) m:=fun i j hij hj=>by
 rw[UX hs hl hm,UX hs hl hm];by_cases hi:l<=i
 ·rw[if_pos ⟨hi,by omega⟩,if_pos ⟨by omega,hj⟩]
  exact he _ _ (by omega) (by omega) (by omega) (by omega)
 ·rw[if_neg (fun z=>hi z.1)]
  by_cases hjl:l<=j
  ·rw[if_pos ⟨hjl,hj⟩]
   exact hd _ _ (by omega) (by omega)
  ·rw[if_neg (fun z=>hjl z.1)]
   exact hd _ _ hij hj
theorem Zgr (o:OrdW lt):∀(f k q:Nat) (p:Array Nat),Pm n p->q+1<=k->k+f=n->Jk lt p k->EqW lt p (k-(q+1)) k->
  Z9 lt n (kas_desc f p k q) (fun r=>Pm n r.1/\r.2.2+1<=r.2.1/\r.2.1<=n/\Jk lt r.1 r.2.1/\EqW lt r.1 (r.2.1-(r.2.2+1)) r.2.1)
 | 0,k,q,p,h,h1,h2,hd,he=>⟨h,h1,by show k<=n;omega,hd,he⟩
 | f+1,k,q,p,h,h1,h2,hd,he=>by
  show g p k<n/\g p (k-1)<n/\Z9 lt n (if lt (g p k) (g p (k-1))=true then (if q > 0 then kas_desc f (kas_rev p (k-(q+1)) k) (k+1) 0 else kas_desc f p (k+1) 0) else .ask (g p (k-1)) (g p k) fun d=>if d=true then .ret (p,k,q) else kas_desc f p (k+1) (q+1)) _;refine⟨h.bd _,h.bd _,?_⟩;have one:∀p:Array Nat,EqW lt p (k+1-(0+1)) (k+1):=fun p i j a b c d=>by
   have:i=j:=by omega
   subst this;exact o.irr _
  cases e:lt (g p k) (g p (k-1)) with
  | true=>
   rw[if_pos rfl];have e2:=o.as _ _ e;by_cases hq:q > 0
   ·rw[if_pos hq]
    have h':Pm n (kas_rev p (k-(q+1)) k):=h.of (mirror_perm _ _ _ _);refine Zgr o f (k+1) 0 _ h' (by omega) (by omega) (fun i j hij hj=>?_) (one _);have hr:=Zlt h.size (by omega:k-(q+1)<=k) (by omega) hd he;by_cases hjk:j<k
    ·exact hr i j hij hjk
    ·have:j=k:=by omega
     subst this;rw[UX h.size (by omega) (by omega),UX h.size (by omega) (by omega),if_neg (by omega:¬(j-(q+1)<=j/\j<j))];have hlast:∀x,x<j->lt (g p x) (g p j)=false:=fun x hx=>by
      by_cases hx1:x=j-1
      ·subst hx1;exact e2
      ·exact o.tr _ _ _ (hd x (j-1) (by omega) (by omega)) e2
     by_cases hi:j-(q+1)<=i/\i<j
     ·rw[if_pos hi];exact hlast _ (by omega)
     ·rw[if_neg hi];exact hlast _ hij
   ·rw[if_neg hq]
    refine Zgr o f (k+1) 0 p h (by omega) (by omega) (fun i j hij hj=>?_) (one _);by_cases hjk:j<k
    ·exact hd i j hij hjk
    ·have:j=k:=by omega
     subst this;by_cases hi:i=j-1
     ·subst hi;exact e2
     ·exact o.tr _ _ _ (hd i (j-1) (by omega) (by omega)) e2
  | false=>
   rw[if_neg (by simp)];refine⟨h.bd _,h.bd _,?_⟩;show Z9 lt n (if lt (g p (k-1)) (g p k)=true then .ret (p,k,q) else kas_desc f p (k+1) (q+1)) _
   cases e2:lt (g p (k-1)) (g p k) with
   | true=>rw[if_pos rfl];exact⟨h,h1,by show k<=n;omega,hd,he⟩
   | false=>
    rw[if_neg (by simp)];refine Zgr o f (k+1) (q+1) p h (by omega) (by omega) (fun i j hij hj=>?_) fun i j a b c d=>?_
    ·by_cases hjk:j<k
     ·exact hd i j hij hjk
     ·have:j=k:=by omega
      subst this;by_cases hi:i=j-1
      ·subst hi;exact e2
      ·exact o.tr _ _ _ (hd i (j-1) (by omega) (by omega)) e2
    ·have low:∀x,k-(q+1)<=x->x<k->lt (g p x) (g p k)=false/\lt (g p k) (g p x)=false:=fun x hx hx2=>
      ⟨o.tr _ _ _ (he x (k-1) hx hx2 (by omega) (by omega)) e2,o.tr _ _ _ e (he (k-1) x (by omega) (by omega) hx hx2)⟩
     by_cases hi:i<k
     ·by_cases hj:j<k
      ·exact he i j (by omega) hi (by omega) hj
      ·have:j=k:=by omega
       subst this;exact(low i (by omega) hi).1
     ·have:i=k:=by omega
      subst this;by_cases hj:j<i
      ·exact(low j (by omega) hj).2
      ·have:j=i:=by omega
       subst this;exact o.irr _
theorem Zlu (o:OrdW lt)(h:Pm n p){k:Nat}(h1:1<=k)(h2:k<=n)(hs:Jk lt p k):Z9 lt n (kas_tail3 k n p) (fun r=>1<=r.1/\r.1<=n/\Pm n r.2/\WO lt r.2 r.1):=by
 have h':Pm n (kas_rev p 0 k):=h.of (mirror_perm _ _ _ _);have hs':WO lt (kas_rev p 0 k) k:=fun i j hij hj=>by
  rw[Zlp h.size h2,Zlp h.size h2,if_pos (by omega),if_pos (by omega)];exact hs _ _ (by omega) (by omega)
 refine Z9.bind (Z9.mono (fun m ⟨a,b,c,_⟩=>?_) (ascW o h' (n-k) k h1 (by omega) hs'));exact⟨by show 1<=m;omega,b,h',c⟩
theorem Zlv (o:OrdW lt)(h:Pm n p){m:Nat}(h1:1<=m)(h2:m<n)(hd:Jk lt p (m+1)):Z9 lt n (kas_descPart m n p) (fun r=>1<=r.1/\r.1<=n/\Pm n r.2/\WO lt r.2 r.1):=by
 refine Z9.bind (Z9.mono (fun r ⟨r1,r2,r3,r4,r5⟩=>?_) (Zgr o (n-(m+1)) (m+1) 0 p h (by omega) (by omega) hd fun i j a b c d=>by
  have:i=j:=by omega
  subst this;exact o.irr _))
 by_cases hq:r.2.2 > 0
 ·rw[if_pos hq]
  exact Zlu o (r1.of (mirror_perm _ _ _ _)) (by omega) r3 (Zlt r1.size (by omega) r3 r4 r5)
 ·rw[if_neg hq]
  exact Zlu o r1 (by omega) r3 r4
theorem Zmp (o:OrdW lt)(h:Pm n p):Z9 lt n (kas_count n p) (fun r=>1<=r.1/\r.1<=n/\Pm n r.2/\WO lt r.2 r.1):=by
 have hn:=h.pos;refine Z9.bind (Z9.mono (fun m ⟨a,b,c,d⟩=>?_) (ascW o h (n-1) 1 (by omega) (by omega) fun i j hij hj=>by omega));by_cases hm:m=n
 ·rw[if_pos (by simpa using hm)]
  exact⟨a,b,h,c⟩
 ·rw[if_neg (by simpa using hm)]
  have dm:=o.as _ _ (d (by omega));by_cases h1:m > 1
  ·rw[if_pos h1]
   refine⟨h.bd 0,h.bd (m-1),?_⟩;show Z9 lt n (if lt (g p 0) (g p (m-1))=true then .ret (m,p) else kas_descPart m n (kas_rev p 0 m)) _
   cases e:lt (g p 0) (g p (m-1)) with
   | true=>rw[if_pos rfl];exact⟨a,b,h,c⟩
   | false=>
    rw[if_neg (by simp)];have up:∀i j,i<m->j<m->lt (g p i) (g p j)=false:=fun i j hi hj=>by
     -- g i<=g (m-1)<=g 0<=g j
     have x1:lt (g p 0) (g p j)=false:=by
      by_cases z:j=m-1
      ·subst z;exact e
      ·exact o.tr _ _ _ e (c j (m-1) (by omega) (by omega))
     by_cases z:i=0
     ·subst z;exact x1
     ·exact o.tr _ _ _ (c 0 i (by omega) hi) x1
    have h':Pm n (kas_rev p 0 m):=h.of (mirror_perm _ _ _ _);refine Zlv o h' (by omega) (by omega) fun i j hij hj=>?_;rw[UX h.size (by omega) (by omega),UX h.size (by omega) (by omega),if_pos (by omega:0<=i/\i<m)];by_cases hjm:j<m
    ·rw[if_pos (by omega:0<=j/\j<m)]
     exact up _ _ (by omega) (by omega)
    ·have:j=m:=by omega
     subst this;rw[if_neg (by omega:¬(0<=j/\j<j))];exact o.tr _ _ _ (up _ (j-1) (by omega) (by omega)) dm
  ·rw[if_neg h1]
   have:m=1:=by omega
   subst this;refine Zlv o h (by omega) (by omega) fun i j hij hj=>?_;have h1:i=0:=by omega
   have h2:j=1:=by omega
   subst h1 h2;exact dm
theorem ZfM (o:OrdW lt)(h:Pm n p){k:Nat}(hk:k<n)(hs:WO lt p k):∀(f l r:Nat),l<=r->r<=k->r-l<=f->(∀i,i<l->lt (g p k) (g p i)=false)->(∀i,r<=i->i<k->lt (g p i) (g p k)=false)->
  Z9 lt n (kas_place p k f l r) (fun m=>m<=k/\(∀i,i<m->lt (g p k) (g p i)=false)/\∀i,m<=i->i<k->lt (g p i) (g p k)=false)
 | 0,l,r,h1,h2,h3,ha,hb=>⟨by omega,ha,fun i hi=>hb i (by omega)⟩
 | f+1,l,r,h1,h2,h3,ha,hb=>by
  show Z9 lt n (if l≥r then .ret l else .ask (g p k) (g p ((l+r) / 2)) fun c=>if c=true then kas_place p k f l ((l+r) / 2) else kas_place p k f ((l+r) / 2+1) r) _;by_cases hlr:l≥r
  ·rw[if_pos hlr]
   exact⟨by omega,ha,fun i hi=>hb i (by omega)⟩
  ·rw[if_neg hlr]
   refine⟨h.bd _,h.bd _,?_⟩;show Z9 lt n (if lt (g p k) (g p ((l+r) / 2))=true then kas_place p k f l ((l+r) / 2) else kas_place p k f ((l+r) / 2+1) r) _
   cases e:lt (g p k) (g p ((l+r) / 2)) with
   | true=>
    rw[if_pos rfl];refine ZfM o h hk hs f l _ (by omega) (by omega) (by omega) ha fun i hi hik=>?_;have e2:=o.as _ _ e;by_cases hq:i=(l+r) / 2
    ·subst hq;exact e2
    ·exact o.tr _ _ _ (hs _ i (by omega) hik) e2
   | false=>
    rw[if_neg (by simp)];refine ZfM o h hk hs f _ r (by omega) h2 (by omega) (fun i hi=>?_) hb;by_cases hq:i=(l+r) / 2
    ·subst hq;exact e
    ·exact o.tr _ _ _ e (hs i _ (by omega) (by omega))
theorem binW (o:OrdW lt):∀(f k:Nat) (p:Array Nat),Pm n p->1<=k->k+f=n->WO lt p k->Z9 lt n (kas_bin f p k) (fun q=>Pm n q/\WO lt q n)
 | 0,k,p,h,h1,h2,hs=>⟨h,by have:k=n:=(by omega);subst this;exact hs⟩
 | f+1,k,p,h,h1,h2,hs=>by
  refine Z9.bind (Z9.mono (fun m ⟨a,b,c⟩=>?_) (ZfM o h (k:=k) (by omega) hs k 0 k (by omega) (by omega) (by omega) (fun i hi=>by omega) fun i hi hik=>by omega));have hg:∀i,g (bubble p k (k-m)) i=if i=m then g p k else if m<i/\i<=k then g p (i-1) else g p i:=fun i=>by
   have e:=getElem?_bubble (xs:=p) (src:=k) (by rw[h.size];omega) (k-m) (by omega) i;rw[show k-(k-m)=m by omega] at e;by_cases q1:i=m
   ·rw[if_pos q1] at e⊢;exact UB e
   ·rw[if_neg q1] at e⊢
    by_cases q2:m<i/\i<=k
    ·rw[if_pos q2] at e⊢;exact UB e
    ·rw[if_neg q2] at e⊢;exact UB e
  refine binW o f (k+1) _ (h.of (bubble_perm _ _ _)) (by omega) (by omega) fun i j hij hj=>?_;rw[hg,hg];by_cases i1:i=m
  ·rw[if_pos i1,if_neg (by omega:¬j=m),if_pos (by omega:m<j/\j<=k)]
   exact c _ (by omega) (by omega)
  ·rw[if_neg i1]
   by_cases i2:m<i/\i<=k
   ·rw[if_pos i2,if_neg (by omega:¬j=m),if_pos (by omega:m<j/\j<=k)]
    exact hs _ _ (by omega) (by omega)
   ·rw[if_neg i2]
    by_cases j1:j=m
    ·rw[if_pos j1];exact b i (by omega)
    ·rw[if_neg j1]
     by_cases j2:m<j/\j<=k
     ·rw[if_pos j2]
      exact hs _ _ (by omega) (by omega)
     ·rw[if_neg j2]
      exact hs _ _ hij (by omega)
theorem Zgs (o:OrdW lt)(hn:0<n):Z9 lt n (kas_sort n) (fun q=>Pm n q/\WO lt q n):=by
 have h:Pm n (qG (qm n)):=⟨hn,by simp⟩;refine Z9.bind (Z9.mono (fun r ⟨a,b,c,d⟩=>?_) (Zmp o h));by_cases hr:r.1<n
 ·rw[if_pos hr]
  have e:max r.1 1=r.1:=by omega
  rw[e];exact binW o _ _ _ c a (by omega) d
 ·rw[if_neg hr]
  exact⟨c,by have:r.1=n:=(by omega);rw[this] at d;exact d⟩
noncomputable def Yk (lt:Nat->Nat->Bool)(n:Nat):List Nat:=if n<2 then qm n else (Vh lt (kas_sort n)).toList
theorem Ju (o:OrdW lt):(Yk lt n).Perm (qm n):=by
 unfold Yk;by_cases h:n<2
 ·rw[if_pos h]
 ·rw[if_neg h]
  exact(Zgs o (by omega)).run.2.1.pm
theorem ZeL (o:OrdW lt):(Yk lt n).Pairwise fun a b=>lt b a=false:=by
 unfold Yk;by_cases h:n<2
 ·rw[if_pos h]
  match n,h with
  | 0,_=>exact qaf
  | 1,_=>exact List.pairwise_singleton _ _
 ·rw[if_neg h]
  obtain⟨h1,h2⟩:=(Zgs (n:=n) o (by omega)).run.2;rw[zt];intro i j hi hj hij;have hs:=h1.size;have e:∀k,(hk:k<(Vh lt (kas_sort n)).toList.length)->(Vh lt (kas_sort n)).toList[k]=g (Vh lt (kas_sort n)) k:=fun k hk=>by
   have hk':k<(Vh lt (kas_sort n)).size:=by simpa using hk
   unfold g;simp[qaU,hk']
  rw[e i hi,e j hj];exact h2 i j hij (by rw[zg,hs] at hj;exact hj)
end
end TS
namespace TF
open L2 TS PySem.W
section
variable {X:Cx}{jJ:List (Addr×Obj)}{σ:St}{H:Hp}{s:Shared}
noncomputable def VW (X:Cx)(σ:St)(sp:Heap->Sp):List V->Hp->(List V->Hp->Prop)->Prop
 | [],H,R=>R [] H
 | v::r,H,R=>∀base',Cells X σ base'->sp base' [v] H (fun k H1=>VW X σ sp r H1 fun ks H2=>R (k::ks) H2) E0
structure KeyFn (X:Cx)(σ:St)(k:Nat)(f:Addr)(sp:Heap->Sp):Prop where
 fn:∀x,X.fn x=true
 ok:∃fd ps,Xz X.K fd ps []/\∀base',Cells X σ base'->FnOk X.prog X.w X.K X.mg base' ZO k f fd ps (sp base')
theorem Zjk {k:Nat}{f:Addr}{sp:Heap->Sp}{A:Around}{Q:VK}{E:Value->Shared->Prop}{u:Value}{v:V}(F:KeyFn X σ k f sp)(I:Inv X jJ σ H s)(hA:∀{base H s},Env0 X.prog X.w X.K X.mg base X.A X.stack s H->Env0 X.prog X.w X.K X.mg base A X.stack s H)(hr:Room k A)(rv:ZA v u)(q:∀base',Cells X σ base'->sp base' [v] H Q E0) :
  wpAny (model X.prog X.w) A (call (.ref f) [u]) (EP X jJ σ Q) E s:=by
 obtain⟨fd,ps,hb,F0⟩:=F.ok;obtain⟨e0,cs⟩:=Zdh I F.fn;have q':=q _ cs;have r:Zs [v] [u]:=.cons rv .nil;have hl:([u] ++ []).length=ps.length:=by rw[zm,<-r.length];exact(F0 _ cs).len _ _ _ _ q'
 refine wpAny_call (codeAny_mono ((F0 _ cs).run A X.stack s H ⟨[u],[]⟩ [u] [v] Q E0 hr (hA e0) (by have:=hb s [u] I.kIn hl;rw[zm] at this;exact this) r q') fun r s' hq=>?_)
 cases r with
 | error e=>exact hq.elim
 | ok fl=>
  cases fl with
  | ret u=>exact I.after hq
  | next=>exact zw hq
  | brk=>exact zw hq
  | cont=>exact zw hq
noncomputable def Jl (X:Cx)(jJ:List (Addr×Obj))(b:Addr):Prop:=b≠X.env.locals/\b∉X.fs/\(b∈X.ex∨X.s₀.heap.objs.size<=b)/\(∀x c,X.env.cells.lookup x=some c->c≠b)/\∀p∈X.pn++jJ,p.1≠b
theorem Zjl (I:Inv X jJ σ H s){b:Addr}(hb:s.heap.objs.size<=b):Jl X jJ b:=(I.fpOk hb (H':=H) (I.hok.fresh hb)).2
theorem Zgt {b:Addr}{o o':Obj}{rest:List (Addr×Obj)}{h':Heap}{t':Nat}(I:Inv X (jJ++(b,o)::rest) σ H s)(k:∀c u,c≠b->s.heap.get? c=some u->h'.get? c=some u)(hb':h'.get? b=some o')(hd:∀v,o'.data≠.cell v)(fp:Jl X jJ b)
  (hr:∀p∈rest,p.1≠b):Inv X (jJ++(b,o')::rest) σ H { s with heap:=h',toks:=t' }:=by
 obtain⟨pb1,pb2,pb3,pb4,pb5⟩:=I.pin (b,o) (qk _ (qk _ (.head _)));have I1:Inv X (jJ++rest) σ H s:=I.pins_of fun p hp=>I.pin p (qk _ ((qV.mp hp).elim (fun z=>qU _ z) fun z=>qk _ (.tail _ z)));obtain⟨f1,f2,f3,f4,f5⟩:=fp;have I2:=I1.turned (t':=t') k pb2 f1 f3 f4 (fun p hp=>by
  rcases qV.mp hp with z | z
  ·exact f5 p (qU _ z)
  ·rcases qV.mp z with z | z
   ·exact f5 p (qk _ z)
   ·exact hr p z)
 refine I2.pins_of fun p hp=>?_;rcases qV.mp hp with z | z
 ·exact I2.pin p (qk _ (qU _ z))
 ·rcases qt.mp z with rfl | z
  ·exact⟨hb',pb2,f1,f2,hd⟩
  ·exact I2.pin p (qk _ (qk _ z))
theorem Znc {b:Addr}{o:Obj}{u:HO}{rest:List (Addr×Obj)}(I:Inv X (jJ++(b,o)::rest) σ H s)(fp:Jl X jJ b)(hx:X.s₀.heap.objs.size<=b)(new:YA X.prog X.w (Zk H b u) s.heap b u):Inv X jJ σ (Zk H b u) s:=by
 obtain⟨pb1,pb2,pb3,pb4,pb5⟩:=I.pin (b,o) (qk _ (qk _ (.head _)));obtain⟨f1,f2,f3,f4,f5⟩:=fp;refine⟨I.ok,I.os,I.bare,?_,I.loc,I.cell,?_,?_,?_,?_,I.len⟩
 ·exact⟨I.base.keep,I.base.slot,fun c q e n x=>by
   rw[Zo (qP (qN (qz e) hx))];exact I.base.free c q e n x,I.base.there,fun c xs e=>by have:=I.base.tups c xs e;rw[Zo (ZP this pb2)];exact this,fun c q xs e=>by have:=I.base.frzs c q xs e;rw[Zo (ZP this pb2)];exact this,fun c ps e=>by
   obtain⟨m,this⟩:=I.base.tbls c ps e;exact⟨m,by rw[Zo (ZP this pb2)];exact this⟩⟩
 ·rw[Zo (zl f1)];exact I.free
 ·intro x c e
  rw[Zo (f4 x c e)];exact I.freeC x c e
 ·intro p hp
  have hp':p∈X.pn++(jJ++(b,o)::rest):=(qV.mp hp).elim (fun z=>qU _ z) fun z=>qk _ (qU _ z);obtain⟨q1,q2,q3,q4,q5⟩:=I.pin p hp';exact⟨q1,by rw[Zo (f5 p hp)];exact q2,q3,q4,q5⟩
 ·intro c v e
  by_cases hc:c=b
  ·subst hc;rw[ZI] at e;cases e;exact new
  ·rw[Zo hc] at e
   exact(I.hok c v e).stay (fun d w _ q=>q) (fun d q=>by rw[Zo (ZP q pb2)];exact q) fun d xs q=>by rw[Zo (ZP q pb2)];exact q
theorem Zdn:∀{xs:List V} {us:List Value} {v:V} {u:Value},Zs xs us->ZA v u->Zs (xs ++ [v]) (us ++ [u])
 | [],_,v,u,h,r=>by cases h;exact .cons r .nil
 | x::xs,_,v,u,h,r=>by
  cases h with
  | cons h1 h2=>exact .cons h1 (Zdn h2 r)
theorem UL {c:String}{xs:Array Value}{n:Nat}:∀v,(seqObj c xs n).data≠.cell v:=fun v h=>by cases h
theorem Zdo {k:Nat}{f kS a:Addr}{sp:Heap->Sp}{A:Around}{E:Value->Shared->Prop}{e1:Nat}{R:List V->Hp->Prop}{body:Value->PUnit->Sem (ForInStep PUnit)}(F:KeyFn X σ k f sp)(hA:∀{base H s},Env0 X.prog X.w X.K X.mg base X.A X.stack s H->Env0 X.prog X.w X.K X.mg base A X.stack s H)(hr:Room k A)
  (fp:Jl X jJ kS) (hka:a≠kS)
  (hbody:∀x ks e (s:Shared) (D:Value->Shared->Prop),qbe ks<64->wpAny (model X.prog X.w) A (call (.ref f) [x]) (fun u s'=>s'.heap.get? kS=some (seqObj "list" (qG ks) e)/\D u { s' with heap:=s'.heap.update kS (qR (·.push u)) }) (fun _ _=>False) s->
   wpAny (model X.prog X.w) A (body x ⟨⟩) (fun r s'=>r=.yield ⟨⟩/\∃u,D u s') E s) :
  ∀(r:List V) (us:List Value) (kvs:List V) (ks:List Value) (e:Nat) (H:Hp) (s:Shared),Zs r us->Zs kvs ks->ks.length+us.length<64->Inv X (jJ ++ [(kS,seqObj "list" (qG ks) e),(a,seqObj "list" #[] e1)]) σ H s->VW X σ sp r H (fun k2 H2=>R (kvs++k2) H2)->
   wpAny (model X.prog X.w) A (forIn us PUnit.unit body) (fun _ s'=>∃kvs' ks' e' H',Inv X (jJ ++ [(kS,seqObj "list" (qG ks') e'),(a,seqObj "list" #[] e1)]) σ H' s'/\Zs kvs' ks'/\ks'.length=ks.length+us.length/\R kvs' H') E s
 | [],_,kvs,ks,e,H,s,h,hv,hz,I,q=>by
  cases h
  rw[qbn];refine wpAny_pure ⟨kvs,ks,e,H,I,hv,rfl,?_⟩;have q:R (kvs ++ []) H:=q;rw[zm] at q;exact q
 | v::r,_,kvs,ks,e,H,s,h,hv,hz,I,q=>by
  cases h with
  | @cons _ u _ us r1 r2=>
   rw[qT] at hz;rw[yP];refine wpAny_bind (wpAny_mono (hbody u ks e s (fun u' s'=>∃v' H',Inv X (jJ ++ [(kS,seqObj "list" (qG (ks ++ [u'])) (e+1)),(a,seqObj "list" #[] e1)]) σ H' s'/\ZA v' u'/\VW X σ sp r H' fun ks H2=>R (kvs++v'::ks) H2) (by omega) ?_) (fun q' s' hq=>?_) fun _ _ x=>x)
   ·refine wpAny_mono (Zjk F I hA hr r1 q) (fun u' s' ⟨v',H',I',rv,q'⟩=>?_) fun _ _ x=>x
    have pk:=(I'.pin (kS,seqObj "list" (qG ks) e) (qk _ (qk _ (.head _)))).1;refine⟨pk,v',H',?_,rv,q'⟩;refine Zgt (o:=seqObj "list" (qG ks) e) (t':=s'.toks) I' (fun c w hc e=>by rw[zH _ _ _ _ hc];exact e) ?_ UL fp (fun p hp=>by rw[zf.mp hp];exact hka);have ea:(qG ks).push u'=qG (ks ++ [u']):=by simp
    rw[get?_update_seq pk (·.push u'),ea];have:((qG (ks ++ [u'])).size==(qG ks).size)=false:=by simp
    rw[this];rfl
   ·obtain⟨rfl,u',v',H',I',rv,q'⟩:=hq
    show wpAny (model X.prog X.w) A (forIn us PUnit.unit body) _ E s';refine wpAny_mono (Zdo F hA hr fp hka hbody r us (kvs ++ [v']) (ks ++ [u']) (e+1) H' s' r2 (Zdn hv rv) (by rw[qJ,zy];omega) I' ?_) (fun _ s'' ⟨a1,a2,a3,a4,a5,a6,a7,a8⟩=>⟨a1,a2,a3,a4,a5,a6,by rw[a7,qJ,zy,qT];omega,a8⟩) fun _ _ x=>x;have e2:(fun k2 H2=>R (kvs ++ [v']++k2) H2)=fun k2 H2=>R (kvs++v'::k2) H2:=by funext k2 H2;rw[qaO];rfl
    rw[e2];exact q'
end
section
variable {prog:Program}{w:World}{A:Around}{E:Value->Shared->Prop}{s:Shared}
noncomputable def Jv (h:Heap)(kS a:Addr)(out:List Value):Heap:=(h.update kS (qR fun _=>(#[]:Array Value))).update a (qR fun _=>qG out)
theorem Zdp {kS a:Addr}{ks out:List Value}{e e1:Nat}{st:SortSt}{P:qbO->Shared->Prop}(hk:s.heap.get? kS=some (seqObj "list" (qG ks) e))(ha:s.heap.get? a=some (seqObj "list" #[] e1))(hka:a≠kS)(hout:(arrOf st).map (·.2)=qG out)(hz:out.length<64)(hkz:ks.length<64)(hf:failedOf st=none)
  (h:P (.done (.ret .none)) { s with heap:=Jv s.heap kS a out }):wpAny (model prog w) A (ksk_tail a false e1 (.ref kS) st) P E s:=by
 have ha2:(s.heap.update kS (qR fun _=>(#[]:Array Value))).get? a=some (seqObj "list" #[] e1):=by rw[zH _ _ _ _ hka];exact ha
 unfold ksk_tail
 try dsimp only
 rw[hout];refine wpAny_bind (listUpdate_at hk rfl ?_ (by rw[qq,sizeLine_eq];omega) (zj _));refine wpAny_bind (wpAny_letGo ?_);refine wpAny_bind (seqEpoch_at ha2 rfl ?_);refine wpAny_bind (listUpdate_at ha2 rfl ?_ (zj _) (by show(qG out).size<=_;rw[qq,sizeLine_eq];omega));rw[hf];simp only[bne_self_eq_false,yd,if_false];exact wpAny_pure h
theorem Zjm {kS a:Addr}{us ks:List Value}{e e1:Nat}{lt:Nat->Nat->Bool}{P:qbO->Shared->Prop}(o:OrdW lt)(hk:s.heap.get? kS=some (seqObj "list" (qG ks) e))(ha:s.heap.get? a=some (seqObj "list" #[] e1))(hka:a≠kS)(hl:ks.length=us.length)(h64:us.length<64)
  (hkind:2<=ks.length->∃κ,(∀Q:SortKind->Shared->Prop,Q κ s->wpAny (model prog w) A (keyKind' (qG ks)) Q E s)/\∀i j,i<ks.length->j<ks.length->∀C:Bool->Shared->Prop,C (lt i j) s->kas_ask prog w A κ ks i j C s)
  (h:P (.done (.ret .none)) { s with heap:=Jv s.heap kS a ((Yk lt us.length).map fun i=>us.getD i qL) }):wpAny (model prog w) A (ksk_end a false us.toArray e1 (.ref kS) (qG ks)) P E s:=by
 have hol:((Yk lt us.length).map fun i=>us.getD i qL).length=us.length:=by rw[qj,(Ju o).length_eq,qW]
 unfold ksk_end
 try dsimp only
 simp only[yd,if_false];by_cases h2:us.toArray.size<2
 ·rw[if_pos h2,if_pos h2]
  refine wpAny_bind (wpAny_pure ?_);rw[StateT.run_pure];refine wpAny_bind (wpAny_pure ?_)
  try dsimp only
  have hlt:us.length<2:=by simpa using h2
  refine Zdp (out:=(Yk lt us.length).map fun i=>us.getD i qL) hk ha hka ?_ (by omega) (by omega) rfl h;have e:(Yk lt us.length).map (fun i=>us.getD i qL)=us:=by
   unfold Yk;rw[if_pos hlt];exact TS.range_getD us _
  rw[e];apply Array.toList_inj.mp;show(((qG ks).zip us.toArray).map (·.2)).toList=_;rw[Array.toList_map,ksk_zip];show(ks.zip us).map Prod.snd=_;rw[List.map_snd_zip (by omega)]
 ·rw[if_neg h2,if_neg h2]
  have h2':2<=us.length:=by simpa using h2
  obtain⟨κ,hκ,hask⟩:=hkind (by omega);refine wpAny_bind (hκ _ ?_);have tr:=(Zgs (n:=us.length) o (by omega)).run;have wp:=jB (s:=s) (cmp:=kas_ask prog w A κ ks) (R:=fun q s'=>q=Vh lt (kas_sort us.length)/\s'=s) (fun i j hi hj C hC=>hask i j (by omega) (by omega) C hC) (fun q hq=>⟨hq,rfl⟩) tr.1;refine wpAny_bind (wpAny_mono (kat_run (ks:=ks) (vs:=us) (Q:=fun st' s'=>arrOf st'=(Vh lt (kas_sort us.length)).map (kas_item (ks.toArray.zip us.toArray))/\failedOf st'=none/\s'=s) hl h2' h64 (fun p' st' s' a1 a2 a3 a4=>⟨by rw[<-a4.1];exact a2,a3,a4.2⟩) wp) ?_ fun _ _ e=>e);rintro⟨⟨⟩,st'⟩ s' ⟨har,hf,rfl⟩
  try dsimp only
  have hout:=kat_snds (ks:=ks) (vs:=us) hl har;refine Zdp (out:=(Yk lt us.length).map fun i=>us.getD i qL) hk ha hka ?_ (by omega) (by omega) hf h;rw[hout];unfold Yk;rw[if_neg (by omega)]
end
section
variable {X:Cx}{jJ:List (Addr×Obj)}{σ:St}{H:Hp}{s:Shared}
noncomputable def WZ (X:Cx)(kvs:List V)(H:Hp)(lt:Nat->Nat->Bool):Prop:=
 (∃ns:List Int,kvs=ns.map V.int/\lt=fun i j=>decide (ns.getD i 0<ns.getD j 0))∨
 ∃(jP:List (List Int)) (T:V->List Int->Prop),(∀v ns,T v ns->∃a,v=.ref a/\ZF X.K H a (ns.map V.int))/\Paired T kvs jP/\(∀ns∈jP,ns≠[])/\lt=fun i j=>YJ (jP.getD i []) (jP.getD j [])
theorem WZ.ord {kvs:List V}{lt:Nat->Nat->Bool}(h:WZ X kvs H lt):OrdW lt:=by
 rcases h with⟨ns,_,rfl⟩ | ⟨jP,T,_,_,_,rfl⟩
 ·refine⟨fun a b c h1 h2=>?_,fun a b h=>?_⟩
  ·have h1:=of_decide_eq_false h1
   have h2:=of_decide_eq_false h2;exact decide_eq_false (by omega)
  ·have h:=of_decide_eq_true h
   exact decide_eq_false (by omega)
 ·refine⟨fun a b c h1 h2=>?_,fun a b h=>BE h⟩
  have t:=ZfG (jP.getD c []) (jP.getD b []) (jP.getD a []) (by unfold YT;rw[h2];rfl) (by unfold YT;rw[h1];rfl);unfold YT at t;simpa using t
theorem ZdW:∀{ks:List Value} {ns:List Int} {i:Nat},IntsAre ks ns->i<ks.length->∃t,ks.getD i qL=.int (ns.getD i 0) t
 | _,_,_,.nil,h=>absurd h (by simp)
 | _,_,0,.cons n t _,_=>⟨t,rfl⟩
 | _,_,i+1,.cons n t r,h=>by
  obtain⟨t',e⟩:=ZdW r (i:=i) (by simpa using h);exact⟨t',by simpa using e⟩
theorem Zhy {kvs:List V}{ks:List Value}{lt:Nat->Nat->Bool}{A:Around}{E:Value->Shared->Prop}(h:WZ X kvs H lt)(I:Inv X jJ σ H s)(rv:Zs kvs ks):2<=ks.length->∃κ,(∀Q:SortKind->Shared->Prop,Q κ s->wpAny (model X.prog X.w) A (keyKind' (qG ks)) Q E s)/\∀i j,i<ks.length->j<ks.length->∀C:Bool->Shared->Prop,C (lt i j) s->kas_ask X.prog X.w A κ ks i j C s:=fun h2=>by
 rcases h with⟨ns,rfl,rfl⟩ | ⟨jP,T,hT,pT,hne,rfl⟩
 ·have hi:IntsAre ks ns:=Vw rv
  refine⟨oneType',fun Q q=>?_,fun i j hi' hj' C hC=>?_⟩
  ·rw[ksk_kind (keys:=qG ks) (kz:=ns) hi (by simpa using h2)]
   exact wpAny_pure q
  ·obtain⟨t,et⟩:=ZdW hi hi'
   obtain⟨t',et'⟩:=ZdW hi hj';show wpAny (model X.prog X.w) A (keyLt' oneType' (ks.getD i qL) (ks.getD j qL)) C _ s;rw[et,et'];exact kat_lt_int hC
 ·have ht:=Zbv I hT rv pT
  have hl:ks.length=jP.length:=yA ht;exact⟨tuples' true,fun Q q=>Zi7 ht hne (by omega) q,fun i j hi hj C hC=>Zlr (jq _ [] ht hi) (jq _ [] ht hj) hC⟩
theorem ZeM:∀{xs:List V} {us:List Value} {i:Nat},Zs xs us->i<xs.length->ZA (xs.getD i .non) (us.getD i qL)
 | _,_,_,.nil,h=>absurd h (by simp)
 | _,_,0,.cons h _,_=>h
 | _,_,i+1,.cons _ r,h=>by
  have:=ZeM r (i:=i) (by simpa using h);simpa using this
theorem Zdq {xs:List V}{us:List Value}(h:Zs xs us):∀{ix:List Nat},(∀i∈ix,i<xs.length)->Zs (ix.map fun i=>xs.getD i .non) (ix.map fun i=>us.getD i qL)
 | [],_=>.nil
 | i::r,hb=>.cons (ZeM h (hb i (by simp))) (Zdq h fun j m=>hb j (by simp[m]))
theorem ZfN {k:Nat}{f:Addr}{sp:Heap->Sp}{E:Value->Shared->Prop}{u:Value}{xs:List V}{Q:VK}(F:KeyFn X σ k f sp)(hr:Room (k+2) X.A)(I:Inv X jJ σ H s)(h64:xs.length<64)
  (hcol:∀Q1:List Value->Shared->Prop,(∀(h':Heap) (tk:Nat) (jL:List Value),(∀b o,s.heap.get? b=some o->h'.get? b=some o)->Zs xs jL->Q1 jL { s with heap:=h',toks:=tk })->wpAny (model X.prog X.w) X.A.in1 (collect u) Q1 E s)
  (q:VW X σ sp xs H fun kvs H1=>∃lt,WZ X kvs H1 lt/\∀l,H1 l=none->Q (.ref l) (Zk H1 l (.lst ((Yk lt xs.length).map fun i=>xs.getD i .non)))) :
  wpAny (model X.prog X.w) X.A (call (.builtin "sorted") [u] [(qw "key",.ref f)]) (EP X jJ σ Q) E s:=by
 refine call_function_entry_kw kind_sorted plain_sorted entry_sorted (ksk_s1 _ _) ?_;unfold Builtin.«sorted»;refine wpAny_bind (m:=checkCount "sorted" 1 1 _) (wpAny_pure ?_);refine wpAny_bind (hcol _ fun h1 tk jL k1 rv=>?_);have hil:jL.length=xs.length:=rv.length.symm;have I1:Inv X jJ σ H { s with heap:=h1,toks:=tk }:=I.kept k1;refine wpAny_bind (wpAny_newList ?_ (by rw[sizeLine_eq];omega));generalize hs2:({ s with heap:=h1.push (seqObj "list" jL.toArray 0),toks:=tk }:Shared)=s2;have hh2:s2.heap=h1.push (seqObj "list" jL.toArray 0):=by rw[<-hs2]
 have I2:Inv X jJ σ H s2:=by rw[<-hs2];exact I1.kept (fun b o e=>qd _ e)
 generalize ha:h1.objs.size=a;have fpa:Jl X jJ a:=by rw[<-ha];exact Zjl I1 (qp _)
 have hxa:X.s₀.heap.objs.size<=a:=by rw[<-ha];exact I1.sz
 have hna:H a=none:=by rw[<-ha];exact I1.hok.fresh (qp _)
 have ho:s2.heap.get? a=some (seqObj "list" jL.toArray 0):=by rw[hh2,<-ha];exact qy _ rfl
 refine wpAny_bind (wpAny_holding (wpAny_call_entry_kw slot_list_sort ⟨_,ho,rfl⟩ entry_list_sort ?body (ksk_l1 _ _)))
 case body=>
  show wpAny (model X.prog X.w) X.A.in1.in1 (Builtin.«list.sort» ⟨[.ref a],[(qw "key",.ref f)]⟩) _ E s2;rw[ksk_t1];obtain⟨e1,ho1⟩:∃e1,(s2.heap.update a (qR fun _=>(#[]:Array Value))).get? a=some (seqObj "list" #[] e1):=⟨_,get?_update_seq ho fun _=>#[]⟩;unfold ksk_tree;refine wpAny_bind (listItems_at ho rfl ?_);refine wpAny_bind (listUpdate_at ho rfl ?_ (by rw[qq,sizeLine_eq];omega) (zj _));refine wpAny_bind (seqEpoch_at ho1 rfl ?_);refine wpAny_bind (wpAny_newTuple ?_ (by show jL.length<=_;rw[sizeLine_eq];omega));refine wpAny_bind (wpAny_newList ?_ (zj _));refine wpAny_holding ?_;generalize hs3:({ s2 with heap:=(s2.heap.update a (qR fun _=>(#[]:Array Value))).push (seqObj "tuple" jL.toArray 0) }:Shared)=s3;have hh3:s3.heap=(s2.heap.update a (qR fun _=>(#[]:Array Value))).push (seqObj "tuple" jL.toArray 0):=by rw[<-hs3]
  generalize hkS:s3.heap.objs.size=kS;have I3:Inv X (jJ ++ [(a,seqObj "list" #[] e1)]) σ H { s2 with heap:=s2.heap.update a (qR fun _=>(#[]:Array Value)),toks:=s2.toks }:=by
   have Ia:Inv X (jJ++(a,seqObj "list" jL.toArray 0) :: []) σ H s2:=I2.pins_of fun p hp=>by
    rcases qV.mp hp with z | z
    ·exact I2.pin p (qk _ z)
    ·rw[zf.mp z]
     exact⟨ho,hna,fpa.1,fpa.2.1,UL⟩
   exact Zgt Ia (fun c w hc e=>by rw[zH _ _ _ _ hc];exact e) ho1 UL fpa (fun p hp=>by simp at hp)
  have I4:Inv X (jJ ++ [(a,seqObj "list" #[] e1)]) σ H s3:=by rw[<-hs3];exact I3.kept (t':=s2.toks) (fun b o e=>qd _ e)
  have hak:a<kS:=by
   rw[<-hkS,hh3,size_push',Heap.size_update];exact qaR (qz ho)
  have fpk:Jl X jJ kS:=by
   have:=Zjl I4 (b:=kS) (by rw[hkS];exact qp _);exact⟨this.1,this.2.1,this.2.2.1,this.2.2.2.1,fun p hp=>this.2.2.2.2 p ((qV.mp hp).elim (fun z=>qU _ z) fun z=>qk _ (qU _ z))⟩
  have I5:Inv X (jJ ++ [(kS,seqObj "list" (qG []) 0),(a,seqObj "list" #[] e1)]) σ H { s3 with heap:=s3.heap.push (seqObj "list" #[] 0),toks:=s3.toks }:=by
   have I':=I4.kept (t':=s3.toks) (h':=s3.heap.push (seqObj "list" #[] 0)) (fun b o e=>qd _ e);refine I'.pins_of fun p hp=>?_;rcases qV.mp hp with z | z
   ·exact I'.pin p (qk _ (qU _ z))
   ·rcases qt.mp z with rfl | z
    ·exact⟨by rw[<-hkS];exact qy _ rfl,by rw[<-hkS];exact I4.hok.fresh (qp _),fpk.1,fpk.2.1,UL⟩
    ·exact I'.pin p (qk _ (qk _ z))
  show wpAny (model X.prog X.w) X.A.in1.in1 _ _ E { s3 with heap:=s3.heap.push (seqObj "list" #[] 0),toks:=s3.toks };generalize ({ s3 with heap:=s3.heap.push (seqObj "list" #[] 0),toks:=s3.toks }:Shared)=s5 at I5⊢;unfold ksk_rest;refine wpAny_bind (wpAny_rule ?_)
  first
   | rw[List.forIn_toArray]
   | (rw[<-Array.forIn_toList];simp only[qaA])
   | rw[<-Array.forIn_toList]
  have hr2:Room k X.A.in1.in1:=(hr.in1).in1;refine wpAny_bind (wpAny_mono (Zdo (E:=E) (R:=fun kvs H1=>∃lt,WZ X kvs H1 lt/\∀l,H1 l=none->Q (.ref l) (Zk H1 l (.lst ((Yk lt xs.length).map fun i=>xs.getD i .non)))) F (fun e=>e.in1.in1) hr2 fpk (qP hak) (fun x ks e s' D hz hx=>?_) xs jL [] [] 0 H s5 rv .nil (by simp only[zK];omega) I5 q) (fun _ s' hd=>?_) fun _ _ x=>x)
  ·refine wpAny_bind (wpAny_attempt (wpAny_mono hx (fun u' s'' hk=>?_) fun _ _ hF=>hF.elim))
   obtain⟨hk1,hk2⟩:=hk
   try dsimp only
   refine wpAny_bind (listUpdate_at hk1 rfl ?_ (by rw[qq,sizeLine_eq];omega) (qZ (qbN (Array.size_push ..)) (by rw[qq,sizeLine_eq];omega)));exact wpAny_pure ⟨rfl,u',hk2⟩
  ·obtain⟨kvs,ks,e',H',I',hv,hl,lt,hok,hq⟩:=hd
   have hl:ks.length=jL.length:=by simpa using hl
   have pk:=I'.pin (kS,seqObj "list" (qG ks) e') (qk _ (qk _ (.head _)));have pa:=I'.pin (a,seqObj "list" #[] e1) (qk _ (qk _ (.tail _ (.head _))))
   try dsimp only
   refine wpAny_bind (listItems_at pk.1 rfl ?_);refine Zjm hok.ord pk.1 pa.1 (qP hak) hl (by omega) (Zhy hok I' hv) ⟨_,rfl,?_⟩;refine wpAny_pure ⟨_,rfl,?_⟩;have hol:((Yk lt jL.length).map fun i=>jL.getD i qL).length=jL.length:=by rw[qj,(Ju hok.ord).length_eq,qW]
   -- the store of keys is emptied
   obtain⟨c1,hc1⟩:∃c1,(s'.heap.update kS (qR fun _=>(#[]:Array Value))).get? kS=some (seqObj "list" #[] c1):=⟨_,get?_update_seq pk.1 fun _=>#[]⟩;have I6:=Zgt (o':=seqObj "list" #[] c1) (h':=s'.heap.update kS (qR fun _=>(#[]:Array Value))) (t':=s'.toks) I' (fun c w hc e=>by rw[zH _ _ _ _ hc];exact e) hc1 UL fpk (fun p hp=>by rw[zf.mp hp];exact qP hak);have I7:Inv X (jJ++(a,seqObj "list" #[] e1) :: []) σ H' { s' with heap:=s'.heap.update kS (qR fun _=>(#[]:Array Value)),toks:=s'.toks }:=I6.pins_of fun p hp=>I6.pin p (qk _ ((qV.mp hp).elim (fun z=>qU _ z) fun z=>qk _ (.tail _ z)));have pa2:=I7.pin (a,seqObj "list" #[] e1) (qk _ (qk _ (.head _)));obtain⟨c2,hc2⟩:∃c2,(Jv s'.heap kS a ((Yk lt jL.length).map fun i=>jL.getD i qL)).get? a=some (seqObj "list" (qG ((Yk lt jL.length).map fun i=>jL.getD i qL)) c2):=⟨_,get?_update_seq pa2.1 _⟩;have I8:=Zgt (o':=seqObj "list" (qG ((Yk lt jL.length).map fun i=>jL.getD i qL)) c2) (h':=Jv s'.heap kS a ((Yk lt jL.length).map fun i=>jL.getD i qL)) (t':=s'.toks) I7 (fun c w hc e=>by unfold Jv;rw[zH _ _ _ _ hc];exact e) hc2 UL fpa (fun p hp=>by simp at hp);have hout:Zs ((Yk lt xs.length).map fun i=>xs.getD i .non) ((Yk lt jL.length).map fun i=>jL.getD i qL):=by
    rw[hil];exact Zdq rv fun i hi=>qS.mp ((Ju hok.ord).mem_iff.mp hi)
   refine⟨.ref a,_,Znc (u:=.lst ((Yk lt xs.length).map fun i=>xs.getD i .non)) I8 fpa hxa ⟨?_,_,c2,hout,hc2⟩,rfl,hq a pa2.2.1⟩;rw[hout.length,hol,sizeLine_eq];omega
end
end TF
namespace TF
open L2 TS
section
variable {X:Cx}
noncomputable def Zjn (X:Cx)(id:String)(nm:Str)(r:St->List V->List V->Hp->VK->Prop):Prop:=
 ∀(jJ:List (Addr×Obj)) (s:Shared) (σ:St) (H:Hp) (xs ys:List V) (us vs:List Value) (Q:VK),Inv X jJ σ H s->Zs xs us->Zs ys vs->r σ xs ys H Q->wpAny (model X.prog X.w) X.A (call (.builtin id) us ([nm].zip vs)) (EP X jJ σ Q) X.xe s
theorem Zdr {id:String}{x nm:Str}{p pos kpos:Pos}{e d:Expr}{ta tb:TE}{r:St->List V->List V->Hp->VK->Prop}(hc:Zjn X id nm r)(hg:Gl X x)(hm:X.mg x=none)(hv:bootBuiltins x=some (.builtin id))(ha:PE X e ta)(hb:PE X d tb)
  (hn:x≠"__name__":=by decide) (hdb:(x==("__debug__" : Str))=false:=by decide) (he:starEach [e] X.env=(false,eval e X.env)::starEach [] X.env:=by rfl)
  (hall:(backToKw pos (keywordEach [⟨some nm,d,kpos⟩] X.env)).all (·.1.isSome)=true:=by rfl) (hks:(backToKw pos (keywordEach [⟨some nm,d,kpos⟩] X.env)).filterMap (·.1)=[nm]:=by rfl)
  (hpl:((backTo pos (starEach [e] X.env)).any (·.1)||(backToKw pos (keywordEach [⟨some nm,d,kpos⟩] X.env)).any (·.1.isNone))=false:=by rfl) :
  PE X (.Call (.Name x p) [e] [⟨some nm,d,kpos⟩] pos) (fun σ H Q=>We ta Wf σ H fun xs H1=>We tb Wf σ H1 fun ys H2=>r σ xs ys H2 Q):=by
 intro jJ s σ H Q I h;refine wpAny_Call_Name_kw (VN I hg hm hv ?_ hn hdb);refine PySem.W.callWith_of (P:=fun _=>True) hpl (fun h _=>⟨qbo,.inr (.inl rfl),ZcP⟩) (evalArgs_kw2 hall (ZC ((Y4 ha Xs he) pos jJ s σ H _ I h) fun us s1 ⟨vs,H1,I1,rv,q1⟩=>?_) he);refine ZC ((ZjW hb ZlR) pos jJ s1 σ H1 _ I1 q1) fun ws s2 ⟨zs,H2,I2,rz,q2⟩=>?_;refine⟨trivial,?_⟩;rw[hks];exact hc jJ s2 σ H2 vs zs us ws Q I2 rv rz q2
noncomputable def UY (X:Cx)(H:Hp)(p:Addr)(ns:List Int):Prop:=
 Zu X.K H p (ns.map V.int)∨ZF X.K H p (ns.map V.int)∨∃j:Int,H p=some (.rng 0 j)/\-(2 ^ 62)<=j/\j<=2 ^ 24/\ns=(qm j.toNat).map fun(i:Nat)=>(i:Int)
theorem ZfO {jJ:List (Addr×Obj)}{σ:St}{H:Hp}{s:Shared}{p:Addr}{ns:List Int}{E:Value->Shared->Prop}(hc:X.calm=true)(I:Inv X jJ σ H s)(h:UY X H p ns)(Q1:List Value->Shared->Prop)
  (k:∀(h':Heap) (tk:Nat) (jL:List Value),(∀b o,s.heap.get? b=some o->h'.get? b=some o)->Zs (ns.map V.int) jL->Q1 jL { s with heap:=h',toks:=tk }):wpAny (model X.prog X.w) X.A.in1 (collect (.ref p)) Q1 E s:=by
 have keep:∀jL:List Value,∀b o,s.heap.get? b=some o->((s.heap.push (seqObj "list" #[] 0)).update s.heap.objs.size (qR (· ++ jL.toArray))).get? b=some o:=fun jL b o e=>by
  rw[zH _ _ _ _ (qP (qz e))];exact qd _ e
 rcases h with h | h | ⟨j,hr,h1,h2,rfl⟩
 ·obtain⟨jL,rv,pl,hz⟩:=I.list h
  have hl:=rv.length;exact collect_list pl.isList (k _ s.toks jL (keep jL) rv) (by rw[<-hl];exact hz)
 ·obtain⟨jL,rv,pl,hz⟩:=I.tuple h
  have hl:=rv.length;exact Zi2 (show s.heap.IsTuple p jL.toArray from pl) (k _ s.toks jL (keep jL) rv) (by rw[<-hl];exact hz)
 ·obtain⟨t,u',v',hro⟩:=(show YA X.prog X.w H s.heap p (.rng 0 j) from I.hok p _ hr)
  have hn:yw 0 j 1=((j.toNat:Nat):Int):=by rw[rangeSize_one];split <;> omega
  refine ZeH (A:=X.A.in1) (I.ok.hd hc) (show IsRange s.heap p 0 j 1 t u' v' from hro) (small_one (by omega) (by omega) h1 (by omega)) hn (by omega) fun h' tk jQ kp hi=>?_;obtain⟨sz,hit⟩:=hi;have rv:=Za5 jQ.toList 0 fun i v hv=>by
   obtain⟨t,e⟩:=hit i v (by simpa using hv);exact⟨t,by rw[e];simp⟩
  have el:jQ.toList.length=j.toNat:=by simpa using sz
  rw[el] at rv;refine k h' tk jQ.toList kp ?_;rw[qD];have e:(qm j.toNat).map (V.int∘fun(i:Nat)=>(i:Int))=(qm j.toNat).map fun(i:Nat)=>V.int (0+i):=zu fun i _=>by show V.int _=V.int _;rw[Int.zero_add]
  rw[e];exact rv
theorem Zbh (hc:X.calm=true):Zjn X "sorted" "key" (fun σ xs ys H Q=>∃(p f:Addr) (ns:List Int) (sp:Heap->Sp) (k:Nat),xs=[.ref p]/\ys=[.ref f]/\UY X H p ns/\KeyFn X σ k f sp/\Room (k+2) X.A/\ns.length<64/\
  VW X σ sp (ns.map V.int) H fun kvs H1=>∃lt,WZ X kvs H1 lt/\∀l,H1 l=none->Q (.ref l) (Zk H1 l (.lst ((Yk lt ns.length).map fun i=>V.int (ns.getD i 0))))):=by
 intro jJ s σ H xs ys us vs Q I r r2 h;obtain⟨p,f,ns,sp,k,rfl,rfl,hp,F,hr,h64,q⟩:=h;obtain⟨u,rfl,ru⟩:=X2 r
 cases ru
 obtain⟨v,rfl,rv⟩:=X2 r2
 cases rv
 refine ZfN (xs:=ns.map V.int) F hr I (by rw[qj];exact h64) (fun Q1 k=>ZfO hc I hp Q1 k) ?_;have ek:(fun kvs H1=>∃lt,WZ X kvs H1 lt/\∀l,H1 l=none->Q (.ref l) (Zk H1 l (.lst ((Yk lt ns.length).map fun i=>V.int (ns.getD i 0)))))=fun kvs H1=>∃lt,WZ X kvs H1 lt/\∀l,H1 l=none->Q (.ref l) (Zk H1 l (.lst ((Yk lt (ns.map V.int).length).map fun i=>(ns.map V.int).getD i .non))):=by
  funext kvs H1;refine propext (exists_congr fun lt=>and_congr_right fun ok=>?_);have e:(Yk lt (ns.map V.int).length).map (fun i=>(ns.map V.int).getD i .non)=(Yk lt ns.length).map fun i=>V.int (ns.getD i 0):=by
   rw[qj];refine zu fun i hi=>?_;have hi:=qS.mp ((Ju ok.ord).mem_iff.mp hi);rw[qH,qA,qH,qE hi];rfl
  rw[e]
 rw[ek] at q;exact q
end
noncomputable def J5 (F:List D->M D)(cds:List D):List Int->M (List D)
 | []=>ZD []
 | n::r=>Zm (F (.int n::cds)) fun k=>Zm (J5 F cds r) fun ks=>ZD (k::ks)
noncomputable def Bj (ks:List D):Option (Nat->Nat->Bool):=match ZH ks with
 | some ns=>some fun i j=>decide (ns.getD i 0<ns.getD j 0)
 | none=>match Wz ks with
  | some jP=>if jP.all (fun ns=>!ns.isEmpty)=true then some fun i j=>YJ (jP.getD i []) (jP.getD j []) else none
  | none=>none
noncomputable def WV (F:List D->M D)(cds:List D)(ns:List Int):M D:=if (decide (ns.length<64)&&YQ cds)=true then Zm (J5 F cds ns) fun ks=>match Bj ks with
 | some lt=>ZD (.lst ((Yk lt ns.length).map fun i=>.int (ns.getD i 0)))
 | none=>Zz else Zz
section
variable {X:Cx}{G:Gh}{σ:St}
theorem ZeN {cvs:List V}{cds:List D}{F:List D->M D}:∀(ns:List Int) (Hf H:Hp) (s s':Pn) (ks:List D) (R:List V->Hp->Prop),Zw G Hf H->Zg G Hf cds cvs->G.st s H->J5 F cds ns s=some (ks,s')->
  (∀kvs jU H1,Gr G Hf H jU H1->G.st s' H1->Zg G jU ks kvs->R kvs H1)->VW X σ (fun _=>Bh 1 G cvs F) (ns.map V.int) H R
 | [],Hf,H,s,s',ks,R,e,rc,st,h,k=>by
  obtain⟨rfl,rfl⟩:=ZL h;exact k [] Hf H (.refl e) st (Zg.nil_iff.mpr rfl)
 | n::r,Hf,H,s,s',ks,R,e,rc,st,h,k=>by
  obtain⟨d,s1,a1,a2⟩:=Zv h;obtain⟨ks',s2,a3,a4⟩:=Zv a2;obtain⟨rfl,rfl⟩:=ZL a4;intro base' cs;refine⟨Hf,[.int n],cds,s,d,s1,rfl,e,.one (ja.mpr rfl),rc,st,a1,fun v jU H1 g1 j9 rv=>?_⟩;exact ZeN r jU H1 s1 _ ks' _ g1.fh (rc.ext g1.ff) j9 a3 fun kvs jY H2 g2 j7 rk=>k (v::kvs) jY H2 (g1.trans g2) j7 (.cons (rv.ext g2.ff) rk)
theorem Zhz {ks:List D}{kvs:List V}{lt:Nat->Nat->Bool}{Hf H:Hp}(e:Zw G Hf H)(r:Zg G Hf ks kvs)(h:Bj ks=some lt):WZ X kvs H lt:=by
 unfold Bj at h
 cases hi:ZH ks with
 | some ns=>
  rw[hi] at h
  cases h
  rw[Wv hi] at r;exact .inl ⟨ns,jn r,rfl⟩
 | none=>
  rw[hi] at h
  cases ht:Wz ks with
  | none=>rw[ht] at h;cases h
  | some jP=>
   rw[ht] at h;have h:(if jP.all (fun ns=>!ns.isEmpty)=true then some fun i j=>YJ (jP.getD i []) (jP.getD j []) else none)=some lt:=h;by_cases hn:jP.all (fun ns=>!ns.isEmpty)=true
   ·rw[if_pos hn] at h
    cases h
    rw[Zbw ht] at r;refine .inr ⟨jP,fun v ns=>Zj G Hf (Xm ns) v,fun v ns rv=>?_,Zbx r,fun ns hm z=>?_,rfl⟩
    ·obtain⟨a,vs,rfl,na,ha,rl⟩:=jb.mp rv
     rw[jn rl] at ha;exact⟨a,rfl,ZF.of (e _ _ na ha)⟩
    ·have:=zV.mp hn ns hm
     rw[z] at this;cases this
   ·rw[if_neg hn] at h;cases h
end
section
variable {X:Cx}{G:Gh}{P c:Addr}{q:Str}{kl:Nat}{frb:Bool}{e1:Expr}{f1:Zb->M D}{r1:Bool}{params:Arguments}{scope:Scope}{lpos ppos pos kpos:Pos}{XN N ps:List Str}{NS:List (Str×NameKind)}{cix:List Nat}{body:Expr}{fe:Zb->M D}
theorem ZaY {cds:List D}{ns:List Int}{σ:St}{jU H1:Hp}{ρ:Zb}{s s':Pn}{d:D}{Q:VK}{p0:Addr}(hfn:∀x,X.fn x=true)(hr:Room (kl+3) X.A)(M:Mk0 X c P)(TG:TabG P q G)(S:CloScope N ps scope)(B:CapS X XN NS N ps cix scope)(hps:ps.length=1)
  (hbind:∀(cl:List (Str×Addr)) (pm cd ct:Value) (us:List Value),us.length=ps.length->bindArgs (za "<lambda>" q params body scope cl pm cd ct) ⟨us,[]⟩=pure (ps.zip us))
  (hb:∀(base:Heap) (f c':Addr) (cl:List (Str×Addr)) (G:Gh) (A:Around) (outer:List Env) (s:Shared) (H:Hp) (E:XK),Room kl (A.deeper (zO q scope s.heap.objs.size f (.ref c') cl))->PD (V6 ZO X.prog X.w X.K X.mg base N q scope f (.ref c') cl A outer s H E).nox G frb body fe)
  (x1:Zw G jU H1) (x2:Yw G jU σ ρ) (j9:G.st s H1) (hcap:W0 ρ cix=some cds) (hk:WV (YI N.length fe) cds ns s=some (d,s'))
  (hit:∀H2,Zw G H1 H2->(∀b u,H1 b=some u->(∀t,u≠.tbl t)->H2 b=some u)->UY X H2 p0 ns)
  (k:∀v Hf3 H3,Gr G jU H1 Hf3 H3->G.st s' H3->Zj G Hf3 d v->Q v H3) :
  We (fun σ H Q=>ZiB P q lpos (fun fd c'=>∃cl pm ctv,CloOf X scope cl/\fd=za "<lambda>" q params body scope cl pm (.ref c') ctv) H fun p _ _ H'=>Q (.ref p) H') Wf σ H1 fun ys H2=>
   ∃(p f:Addr) (ns:List Int) (sp:Heap->Sp) (k:Nat),[V.ref p0]=[.ref p]/\ys=[.ref f]/\UY X H2 p ns/\KeyFn X σ k f sp/\Room (k+2) X.A/\ns.length<64/\
    VW X σ sp (ns.map V.int) H2 fun kvs H1=>∃lt,WZ X kvs H1 lt/\∀l,H1 l=none->Q (.ref l) (Zk H1 l (.lst ((Yk lt ns.length).map fun i=>V.int (ns.getD i 0)))):=by
 unfold WV at hk;obtain⟨hn,a5⟩:=YV hk;obtain⟨hn0,hn1⟩:=zS.mp hn;have h64:=of_decide_eq_true hn0;obtain⟨ks,s1,a6,a7⟩:=Zv a5;obtain⟨tp,hP,htr,hhit⟩:=TG.get _ H1 j9;refine⟨tp,hP,htr,fun cv h=>let ⟨c',z1,z2,_⟩:=hhit lpos cv h;⟨c',z1,z2⟩,fun p c' fd Hm ⟨cl,pm,ctv,co,efd⟩ sl hp=>?_⟩;subst efd;obtain⟨stm,hc',ex⟩:=Zgi TG j9 hP sl;have gr:=Zgj (o:=.ext (fnφ p (za "<lambda>" q params body scope cl pm (.ref c') ctv))) x1 ex hp;have hcp:c'≠p:=fun z=>by rw[z,hp] at hc';cases hc'
 obtain⟨cvs,l1,l2,l3⟩:=Zb9 x2 hcap;have j7:(XW G 0 p c' (za "<lambda>" q params body scope cl pm (.ref c') ctv) q cvs).st s (Zk Hm p (.ext (fnφ p (za "<lambda>" q params body scope cl pm (.ref c') ctv)))):=⟨Gh.grow stm hp,ZI,by rw[Zo hcp];exact hc'⟩;refine⟨p0,p,ns,fun _=>Bh 1 (XW G 0 p c' (za "<lambda>" q params body scope cl pm (.ref c') ctv) q cvs) cvs (YI N.length fe),kl+1,rfl,rfl,?_,⟨hfn,_,ps,.all (hbind cl pm (.ref c') ctv),fun base' cs=>?_⟩,hr,h64,?_⟩
 ·refine hit _ gr.hh fun b u e nt=>?_
  have e2:Hm b=some u:=by
   rcases sl with⟨rfl,h1,h2⟩ | ⟨h1,h2,h3,rfl⟩
   ·exact e
   ·have hbP:b≠P:=fun z=>by
     rw[z,hP] at e;cases e;exact nt _ rfl
    rw[Zo (ZP e h2),Zo hbP];exact e
  rw[Zo (ZP e2 hp)];exact e2
 ·have:=fnKE S (B.cloAt cs co l1 l3) (fun s H st=>st.2) (G:=XW G 0 p c' (za "<lambda>" q params body scope cl pm (.ref c') ctv) q cvs) fun A outer s H E hr=>hb base' p c' cl _ A outer s H E hr
  rw[hps] at this;exact this
 ·refine ZeN ns jU _ s s1 ks _ (Zw.re (G:=G) rfl gr.fh) (toCL hn1 l2) j7 a6 fun kvs jY H2 g2 st3 rk=>?_
  cases hlt:Bj ks with
  | none=>rw[hlt] at a7;cases a7
  | some lt=>
   rw[hlt] at a7;obtain⟨rfl,rfl⟩:=ZL a7;refine⟨lt,Zhz g2.fh rk hlt,fun l hl=>?_⟩;have g2':Gr G jU _ jY H2:=grC g2;have nf:=Gh.nofp st3.1 hl;have gB:=Gr.new (G:=G) (o:=.lst ((Yk lt ns.length).map fun i=>V.int (ns.getD i 0))) g2'.fh hl nf;have gg:=(gr.trans g2').trans gB;have hrl:Zg G (Zk jY l (.lst ((Yk lt ns.length).map fun i=>V.int (ns.getD i 0)))) ((Yk lt ns.length).map fun i=>D.int (ns.getD i 0)) ((Yk lt ns.length).map fun i=>V.int (ns.getD i 0)):=by
    have:=Bz (G:=G) (Hf:=Zk jY l (.lst ((Yk lt ns.length).map fun i=>V.int (ns.getD i 0)))) ((Yk lt ns.length).map fun i=>ns.getD i 0);rw[qD,qD] at this;exact this
   exact k (.ref l) _ _ gg (Gh.grow st3.1 hl) (jc.mpr ⟨l,_,rfl,nf,ZI,hrl⟩)
noncomputable def JH (F:List D->M D)(cix:List Nat)(f:Zb->M D):Zb->M D:=fun ρ=>Zm (f ρ) fun d=>Zm (YN (W0 ρ cix)) fun cds=>match d with
 | .lst ds=>(match ZH ds with | some ns=>WV F cds ns | none=>Zz)
 | .tup ds=>(match ZH ds with | some ns=>WV F cds ns | none=>Zz)
 | _=>Zz
theorem ZfP (hc:X.calm=true)(hg:Gl X "sorted")(hm:X.mg "sorted" = none)(hv:bootBuiltins "sorted" = some (.builtin "sorted"))(M:Mk0 X c P)(TG:TabG P q G)(hfn:∀x,X.fn x=true)(hr:Room (kl+3) X.A)(h1:PD X G r1 e1 f1)
  (hq:X.env.qual ++ "<lambda>" = q) (S:CloScope N ps scope) (B:CapS X XN NS N ps cix scope) (hps:ps.length=1)
  (hbind:∀(cl:List (Str×Addr)) (pm cd ct:Value) (us:List Value),us.length=ps.length->bindArgs (za "<lambda>" q params body scope cl pm cd ct) ⟨us,[]⟩=pure (ps.zip us))
  (hb:∀(base:Heap) (f c':Addr) (cl:List (Str×Addr)) (G:Gh) (A:Around) (outer:List Env) (s:Shared) (H:Hp) (E:XK),Room kl (A.deeper (zO q scope s.heap.objs.size f (.ref c') cl))->PD (V6 ZO X.prog X.w X.K X.mg base N q scope f (.ref c') cl A outer s H E).nox G frb body fe)
  (hdef:defaultsOf params X.env=([],[]):=by rfl)
  (he:starEach [e1] X.env=(false,eval e1 X.env)::starEach [] X.env:=by rfl)
  (hall:(backToKw pos (keywordEach [⟨some "key",.Lambda params body scope lpos,kpos⟩] X.env)).all (·.1.isSome)=true:=by rfl) (hks:(backToKw pos (keywordEach [⟨some "key",.Lambda params body scope lpos,kpos⟩] X.env)).filterMap (·.1)=[("key" : Str)]:=by rfl)
  (hpl:((backTo pos (starEach [e1] X.env)).any (·.1)||(backToKw pos (keywordEach [⟨some "key",.Lambda params body scope lpos,kpos⟩] X.env)).any (·.1.isNone))=false:=by rfl) :
  PD X G false (.Call (.Name "sorted" ppos) [e1] [⟨some "key",.Lambda params body scope lpos,kpos⟩] pos) (JH (YI N.length fe) cix f1):=by
 obtain⟨t1,p1,q1⟩:=h1.drop;refine⟨_,Zdr (Zbh hc) hg hm hv p1 (Zfw M hq B.hfree hdef) (by decide) (by decide) he hall hks hpl,fun σ Hf H ρ s d s' Q x1 x2 x3 x4 k=>?_⟩;obtain⟨d1,s1,a1,a2⟩:=Zv x4;obtain⟨cds,s2,b3,a4⟩:=Zv a2;obtain⟨a3,rfl⟩:=X0 b3;refine q1 σ Hf H ρ s d1 _ _ x1 x2 x3 a1 fun v1 jU H1 g1 j9 rv1=>?_;have go:∀(ns:List Int) (p0:Addr),v1=.ref p0->WV (YI N.length fe) cds ns s2=some (d,s')->(∀H2,Zw G H1 H2->(∀b u,H1 b=some u->(∀t,u≠.tbl t)->H2 b=some u)->UY X H2 p0 ns)->We (fun σ H Q=>ZiB P q lpos (fun fd c'=>∃cl pm ctv,CloOf X scope cl/\fd=za "<lambda>" q params body scope cl pm (.ref c') ctv) H fun p _ _ H'=>Q (.ref p) H') Wf σ H1 fun ys H2=>
   ∃(p f:Addr) (ns:List Int) (sp:Heap->Sp) (k:Nat),[v1]=[.ref p]/\ys=[.ref f]/\UY X H2 p ns/\KeyFn X σ k f sp/\Room (k+2) X.A/\ns.length<64/\
    VW X σ sp (ns.map V.int) H2 fun kvs H1=>∃lt,WZ X kvs H1 lt/\∀l,H1 l=none->Q (.ref l) (Zk H1 l (.lst ((Yk lt ns.length).map fun i=>V.int (ns.getD i 0)))):=by
  rintro ns p0 rfl hkk hit;refine ZaY hfn hr M TG S B hps hbind hb g1.fh (x2.ext g1.ff) j9 a3 hkk hit fun v Hf3 H3 g3 st3 r3=>k v Hf3 H3 (g1.trans g3) st3 r3 (fun z=>by cases z)
 match d1,a4,rv1 with
 | .lst ds,a4,rv1=>
  have a4:(match ZH ds with | some ns=>WV (YI N.length fe) cds ns | none=>Zz) s2=some (d,s'):=a4
  cases hi:ZH ds with
  | none=>rw[hi] at a4;cases a4
  | some ns=>
   rw[hi] at a4;obtain⟨p0,vs,rfl,n0,h0,rl⟩:=jc.mp rv1;rw[Wv hi] at rl;rw[jn rl] at h0;exact go ns p0 rfl a4 fun H2 e _=>.inl (Zu.of (e _ _ n0 (g1.fh _ _ n0 h0)))
 | .tup ds,a4,rv1=>
  have a4:(match ZH ds with | some ns=>WV (YI N.length fe) cds ns | none=>Zz) s2=some (d,s'):=a4
  cases hi:ZH ds with
  | none=>rw[hi] at a4;cases a4
  | some ns=>
   rw[hi] at a4;obtain⟨p0,vs,rfl,n0,h0,rl⟩:=jb.mp rv1;rw[Wv hi] at rl;rw[jn rl] at h0;exact go ns p0 rfl a4 fun H2 e _=>.inr (.inl (ZF.of (e _ _ n0 (g1.fh _ _ n0 h0))))
noncomputable def JC (F:List D->M D)(cix:List Nat)(f:Zb->M D):Zb->M D:=fun ρ=>Zm (f ρ) fun d=>Zm (YN (W0 ρ cix)) fun cds=>match d with
 | .int j=>if -(2 ^ 62)<=j/\j<=2 ^ 24 then WV F cds ((qm j.toNat).map fun(i:Nat)=>(i:Int)) else Zz
 | _=>Zz
theorem ZeO {p2 pos2:Pos}(hc:X.calm=true)(hg:Gl X "sorted")(hm:X.mg "sorted" = none)(hv:bootBuiltins "sorted" = some (.builtin "sorted"))(hgr:Gl X "range")(hmr:X.mg "range" = none)(M:Mk0 X c P)(TG:TabG P q G)(hfn:∀x,X.fn x=true)(hr:Room (kl+3) X.A)(h1:PD X G r1 e1 f1)
  (hq:X.env.qual ++ "<lambda>" = q) (S:CloScope N ps scope) (B:CapS X XN NS N ps cix scope) (hps:ps.length=1)
  (hbind:∀(cl:List (Str×Addr)) (pm cd ct:Value) (us:List Value),us.length=ps.length->bindArgs (za "<lambda>" q params body scope cl pm cd ct) ⟨us,[]⟩=pure (ps.zip us))
  (hb:∀(base:Heap) (f c':Addr) (cl:List (Str×Addr)) (G:Gh) (A:Around) (outer:List Env) (s:Shared) (H:Hp) (E:XK),Room kl (A.deeper (zO q scope s.heap.objs.size f (.ref c') cl))->PD (V6 ZO X.prog X.w X.K X.mg base N q scope f (.ref c') cl A outer s H E).nox G frb body fe)
  (hdef:defaultsOf params X.env=([],[]):=by rfl)
  (hs1:starEach [e1] X.env=[(false,eval e1 X.env)]:=by rfl)
  (he:starEach [.Call (.Name "range" p2) [e1] [] pos2] X.env=(false,eval (.Call (.Name "range" p2) [e1] [] pos2) X.env)::starEach [] X.env:=by rfl)
  (hall:(backToKw pos (keywordEach [⟨some "key",.Lambda params body scope lpos,kpos⟩] X.env)).all (·.1.isSome)=true:=by rfl) (hks:(backToKw pos (keywordEach [⟨some "key",.Lambda params body scope lpos,kpos⟩] X.env)).filterMap (·.1)=[("key" : Str)]:=by rfl)
  (hpl:((backTo pos (starEach [.Call (.Name "range" p2) [e1] [] pos2] X.env)).any (·.1)||(backToKw pos (keywordEach [⟨some "key",.Lambda params body scope lpos,kpos⟩] X.env)).any (·.1.isNone))=false:=by rfl) :
  PD X G false (.Call (.Name "sorted" ppos) [.Call (.Name "range" p2) [e1] [] pos2] [⟨some "key",.Lambda params body scope lpos,kpos⟩] pos) (JC (YI N.length fe) cix f1):=by
 obtain⟨t1,p1,q1⟩:=h1.drop;refine⟨_,Zdr (Zbh hc) hg hm hv (Zdg hgr hmr (Y4 p1 Xs (by rw[hs1];rfl)) hs1) (Zfw M hq B.hfree hdef) (by decide) (by decide) he hall hks hpl,fun σ Hf H ρ s d s' Q x1 x2 x3 x4 k=>?_⟩;obtain⟨d1,s1,a1,a2⟩:=Zv x4;obtain⟨cds,s2,b3,a4⟩:=Zv a2;obtain⟨a3,rfl⟩:=X0 b3
 cases d1 with
 | int j=>
  obtain⟨cj,a5⟩:=YV a4;refine q1 σ Hf H ρ s _ _ _ x1 x2 x3 a1 fun v1 jU H1 g1 j9 rv1=>?_;rw[ja.mp rv1];refine⟨j,rfl,fun p hp=>?_⟩;have j7:G.st s2 (Zk H1 p (.rng 0 j)):=Gh.grow j9 hp;have fp:jU p=none:=by
   cases q:jU p with
   | none=>rfl
   | some o=>rw[g1.fh p o (Gh.nofp j9 hp) q] at hp;cases hp
  have gA:Gr G jU H1 jU (Zk H1 p (.rng 0 j)):=⟨fun b o n q=>by rw[Zo (ZP q hp)];exact q,.refl _ _,fun b o n q=>by rw[Zo (ZP q fp)];exact g1.fh b o n q,fun b n h1 h2=>h1⟩;refine ZaY hfn hr M TG S B hps hbind hb gA.fh (x2.ext g1.ff) j7 a3 a5 (fun H2 _ keep=>.inr (.inr ⟨j,keep _ _ ZI (fun t z=>by cases z),cj.1,cj.2,rfl⟩)) fun v Hf3 H3 g3 st3 r3=>k v Hf3 H3 ((g1.trans gA).trans g3) st3 r3 (fun z=>by cases z)
 | _=>cases a4
end
end TF
namespace TF
open L2 TS PySem.W
section
variable {X:Cx}{jJ:List (Addr×Obj)}{σ:St}{H:Hp}{s:Shared}
end
section
variable {X:Cx}{G:Gh}{σ:St}
end
section
variable {X:Cx}{G:Gh}{P c:Addr}{q:Str}{kl:Nat}{frb:Bool}{e1:Expr}{f1:Zb->M D}{r1:Bool}{params:Arguments}{scope:Scope}{lpos ppos pos kpos:Pos}{XN N ps:List Str}{NS:List (Str×NameKind)}{cix:List Nat}{body:Expr}{fe:Zb->M D}
end
end TF
namespace TF
open L2
section
variable {X:Cx}{G:Gh}
noncomputable def BY:List D->Option D
 | [.lst ds]=>if ds.length<=sizeLine then (X3 [] ds).map .du else none
 | _=>none
theorem ZfQ (hc:X.calm=true)(hu:X.A.units+64<cLine):XS X G (.type "dict") BY:=
 ⟨_,Za4 hc hu true,fun Hf H s xs ds c Q e1 st r q k=>by
  match ds,q,r with
  | [.lst es],q,r=>
   have q:(if es.length<=sizeLine then (X3 [] es).map D.du else none)=some c:=q;split at q
   ·rename_i hz
    cases e:X3 [] es with
    | none=>rw[e] at q;cases q
    | some res=>
     rw[e] at q
     cases q
     obtain⟨v,rfl,rv⟩:=jh r;obtain⟨l,vs,rfl,nl,hl,rl⟩:=jc.mp rv;refine⟨l,vs,rfl,e1 _ _ nl hl,fun p hp=>⟨_,Zfr e1 hp rl e (by simpa using hz),?_⟩⟩;have nf:=Gh.nofp st hp;have g2:=Gr.new (o:=.dT res) e1 hp nf;exact k (.ref p) _ _ g2 (Gh.grow st hp) (jm.mpr ⟨p,rfl,nf,ZI⟩) fun a ea _=>by cases ea;exact⟨hp,fun ds ed=>by cases ed⟩
   ·cases q⟩
end
end TF
namespace TS
open PySem.W
theorem lexW (jP:List (List Int)):OrdW (fun i j=>YJ (jP.getD i []) (jP.getD j [])):=by
 refine⟨fun a b c h1 h2=>?_,fun a b h=>BE h⟩;have t:=ZfG (jP.getD c []) (jP.getD b []) (jP.getD a []) (by unfold YT;rw[h2];rfl) (by unfold YT;rw[h1];rfl);unfold YT at t;simpa using t
section
variable {prog:Program}{w:World}{A:Around}{E:Value->Shared->Prop}{s:Shared}
theorem ZeP {a:Addr}{vs:List Value}{jP:List (List Int)}{n:Nat}{P:qbO->Shared->Prop}(ho:s.heap.get? a=some (seqObj "list" vs.toArray n))(ht:Paired (WG s.heap) vs jP)(h64:vs.length<64)(hne:2<=vs.length->∀ns∈jP,ns≠[])
  (h:∀p:Array Nat,p.toList.Perm (qm vs.length)->(p.toList.map fun i=>jP.getD i [])=XU jP->P (.done (.ret .none)) { s with heap:=sortedHeap s.heap a vs (qG (p.toList.map fun i=>vs.getD i qL)) }) :
  wpAny (model prog w) A (Builtin.«list.sort» ⟨[.ref a],[]⟩) P E s:=by
 have jV:vs.length=jP.length:=yA ht;rw[list_sort_plain];have ha:a<s.heap.objs.size:=qz ho;refine wpAny_bind (listItems_at ho rfl ?_);refine wpAny_bind (listUpdate_at ho rfl ?_);obtain⟨e1,ho1⟩:∃e1,(s.heap.update a (qR fun _=>#[])).get? a=some (seqObj "list" #[] e1):=⟨_,get?_update_seq ho (fun _=>#[])⟩;refine wpAny_bind (seqEpoch_at ho1 rfl ?_);refine wpAny_bind (wpAny_newTuple ?_);refine wpAny_bind (wpAny_newList ?_);refine wpAny_holding ?_;have ho6:(((s.heap.update a (qR fun _=>#[])).push (seqObj "tuple" vs.toArray 0)).push (seqObj "list" #[] 0)).get? a=some (seqObj "list" #[] e1):=qd _ (qd _ ho1);have kk:∀c o,c≠a->s.heap.get? c=some o->(((s.heap.update a (qR fun _=>#[])).push (seqObj "tuple" vs.toArray 0)).push (seqObj "list" #[] 0)).get? c=some o:=fun c o hc e=>qd _ (qd _ (by rw[zH _ _ _ _ hc];exact e));have ht2:Paired (WG (((s.heap.update a (qR fun _=>#[])).push (seqObj "tuple" vs.toArray 0)).push (seqObj "list" #[] 0))) vs jP:=L2.Paired.mapP ht fun v ns x=>x.at kk ⟨_,ho,rfl⟩;show wpAny (model prog w) A _ P E { s with heap:=((s.heap.update a (qR fun _=>#[])).push (seqObj "tuple" vs.toArray 0)).push (seqObj "list" #[] 0) };dsimp only;have hsz:vs.toArray.size=vs.length:=by simp
 by_cases h2:vs.toArray.size<2
 ·rw[if_pos h2,if_pos h2];refine wpAny_bind (wpAny_pure ?_);rw[StateT.run_pure]
  refine wpAny_bind (wpAny_pure ?_);dsimp only;refine wpAny_bind (seqEpoch_at ho6 rfl ?_);refine wpAny_bind (listUpdate_at ho6 rfl ?_ (hsz2:=by rw[Array.size_map];show(pairsOf vs).size<=_;rw[pairsOf_size,sizeLine_eq];omega));simp only[bne_self_eq_false,yd,if_false];have eo:(arrOf (SortSt.mk' general' (vs.toArray.zip vs.toArray) #[] 7 none)).map (·.2)=qG ((qG (qm vs.length)).toList.map fun i=>vs.getD i qL):=by
   exact ZkE vs general'
  rw[eo];refine wpAny_pure (h _ (by simp) ?_)
  match jP,(by omega:jP.length<2),jV with
  | [],_,hl=>
   simp only[zK] at hl;rw[hl];exact Za7 (by simp) (by simp)
  | [x],_,hl=>
   simp only[qT,zK] at hl;rw[hl];exact Za7 (by simp) (by simp)
 ·rw[if_neg h2,if_neg h2]
  have h2':2<=vs.length:=by omega
  refine wpAny_bind (Zi7 (s:={ s with heap:=((s.heap.update a (qR fun _=>#[])).push (seqObj "tuple" vs.toArray 0)).push (seqObj "list" #[] 0) }) ht2 (hne h2') (by omega) ?_)
  let lt:Nat->Nat->Bool:=fun i j=>YJ (jP.getD i []) (jP.getD j [])
  have hord:OrdW lt:=lexW jP
  ·have wp:=jB (s:={ s with heap:=((s.heap.update a (qR fun _=>#[])).push (seqObj "tuple" vs.toArray 0)).push (seqObj "list" #[] 0) }) (cmp:=kas_ask prog w A (tuples' true) vs) (R:=fun q s'=>(Pm vs.length q/\WO lt q vs.length)/\s' = { s with heap:=((s.heap.update a (qR fun _=>#[])).push (seqObj "tuple" vs.toArray 0)).push (seqObj "list" #[] 0) }) (fun i j hi hj C hC=>Zlr (jq _ [] ht2 hi) (jq _ [] ht2 hj) hC) (fun q hq=>⟨hq,rfl⟩) (Zgs hord (by omega))
   refine wpAny_bind (wpAny_mono (kat_run (ks:=vs) (vs:=vs) (Q:=fun st' s'=>∃p:Array Nat,(Pm vs.length p/\WO lt p vs.length)/\arrOf st'=p.map (kas_item (vs.toArray.zip vs.toArray))/\failedOf st'=none/\s' = { s with heap:=((s.heap.update a (qR fun _=>#[])).push (seqObj "tuple" vs.toArray 0)).push (seqObj "list" #[] 0) }) rfl h2' h64 (fun p' st' s' a1 a2 a3 a4=>⟨p',a4.1,a2,a3,a4.2⟩) wp) ?_ fun _ _ e=>e);rintro⟨⟨⟩,st'⟩ s' ⟨p,⟨hpm,hso⟩,har,hf,rfl⟩;dsimp only;have hout:=kat_snds (ks:=vs) (vs:=vs) rfl har;have hps:p.toList.length=vs.length:=by rw[zg];exact hpm.size
   rw[hout];refine wpAny_bind (seqEpoch_at ho6 rfl ?_);refine wpAny_bind (listUpdate_at ho6 rfl ?_ (hsz2:=by rw[qq,qj,hps,sizeLine_eq];omega));rw[hf];simp only[bne_self_eq_false,yd,if_false];refine wpAny_pure (h p hpm.pm (Za7 ?_ ?_))
   ·have e:=(hpm.pm).map (fun i=>jP.getD i [])
    rw[jV] at e;rw[range_getD] at e;exact e
   ·rw[zt]
    intro i j hi hj hij;have hj':j<vs.length:=by rw[qj,hps] at hj;exact hj
    have:=hso i j hij hj';have e1:g p i=p.toList[i]'(by rw[hps];omega):=by unfold g;simp[qaU,show i<p.size by rw[hpm.size];omega]
    have e2:g p j=p.toList[j]'(by rw[hps];omega):=by unfold g;simp[qaU,show j<p.size by rw[hpm.size];omega]
    rw[e1,e2] at this;rw[yI,yI];unfold YT;rw[show YJ (jP.getD p.toList[j] []) (jP.getD p.toList[i] [])=false from this];rfl
theorem Zjo {l:Addr}{vs:List Value}{jP:List (List Int)}{Q:Value->Shared->Prop}(hl:s.heap.IsList l vs.toArray)(ht:Paired (WG s.heap) vs jP)(h64:vs.length<64)(hne:2<=vs.length->∀ns∈jP,ns≠[])
  (h:∀p:Array Nat,p.toList.Perm (qm vs.length)->(p.toList.map fun i=>jP.getD i [])=XU jP->Q (.ref (s.heap.objs.size+1)) { s with heap:=sortedAll s.heap vs (qG (p.toList.map fun i=>vs.getD i qL)) }):wpAny (model prog w) A (call (.builtin "sorted") [.ref l]) Q E s:=by
 refine Calls.call_function_entry kind_sorted plain_sorted entry_sorted (args_sorted1 _) ?_;unfold Builtin.«sorted»;refine wpAny_bind (m:=checkCount "sorted" 1 1 _) (wpAny_pure ?_);refine wpAny_bind (collect_list hl ?_ (by rw[sizeLine_eq];omega));refine wpAny_bind (wpAny_newList ?_);have z1:((s.heap.push (seqObj "list" #[] 0)).update s.heap.objs.size (qR (· ++ vs.toArray))).objs.size=s.heap.objs.size+1:=by rw[Heap.size_update,size_push']
 have g1:(((s.heap.push (seqObj "list" #[] 0)).update s.heap.objs.size (qR (· ++ vs.toArray))).push (seqObj "list" vs.toArray 0)).get? (s.heap.objs.size+1)=some (seqObj "list" vs.toArray 0):=by rw[<-z1];exact qy _ rfl
 have kp:∀c o,c≠s.heap.objs.size->s.heap.get? c=some o->(((s.heap.push (seqObj "list" #[] 0)).update s.heap.objs.size (qR (· ++ vs.toArray))).push (seqObj "list" vs.toArray 0)).get? c=some o:=fun c o hc e=>qd _ (by rw[zH _ _ _ _ hc];exact qd _ e);have ht2:Paired (WG (((s.heap.push (seqObj "list" #[] 0)).update s.heap.objs.size (qR (· ++ vs.toArray))).push (seqObj "list" vs.toArray 0))) vs jP:=L2.Paired.mapP ht fun v ns ⟨a,xs,e,⟨o,ho,r⟩,i⟩=>⟨a,xs,e,⟨o,kp a o (qP (qz ho)) ho,r⟩,i⟩;show wpAny _ _ _ _ _ { s with heap:=((s.heap.push (seqObj "list" #[] 0)).update s.heap.objs.size (qR (· ++ vs.toArray))).push (seqObj "list" vs.toArray 0) };rw[z1];refine wpAny_bind (wpAny_holding (wpAny_call_entry slot_list_sort ⟨_,g1,rfl⟩ entry_list_sort (ZeP (s:={ s with heap:=((s.heap.push (seqObj "list" #[] 0)).update s.heap.objs.size (qR (· ++ vs.toArray))).push (seqObj "list" vs.toArray 0) }) g1 ht2 h64 hne fun p a1 a2=>⟨_,rfl,?_⟩) (args_list_sort _)));exact wpAny_pure ⟨_,rfl,h p a1 a2⟩
end
end TS
namespace TF
open L2 TS
section
variable {X:Cx}{G:Gh}
theorem ZeQ:Xy X (.builtin "sorted") (fun xs H Q=>∃(p:Addr) (vs:List V) (jP:List (List Int)) (T:V->List Int->Prop),xs=[.ref p]/\Zu X.K H p vs/\(∀v ns,T v ns->∃a,v=.ref a/\ZF X.K H a (ns.map V.int))/\Paired T vs jP/\
  jP.length<64/\(2<=jP.length->∀ns∈jP,ns≠[])/\∀l vs',Paired T vs' (XU jP)->H l=none->Q (.ref l) (Zk H l (.lst vs'))):=by
 intro jJ s σ H xs us Q I r h;obtain⟨p,vs,jP,T,rfl,hp,hT,pT,h64,hne,q⟩:=h;obtain⟨u,rfl,ru⟩:=X2 r
 cases ru
 obtain⟨jL,rv,pl,hz⟩:=I.list hp;have hl:=rv.length;have hl2:vs.length=jP.length:=yA pT;refine Zjo pl.isList (Zbv I hT rv pT) (by omega) (fun z=>hne (by omega)) fun pm a1 a2=>?_;obtain⟨e,he⟩:=sortedAll_at s.heap jL (qG (pm.toList.map fun i=>jL.getD i qL));have hle:s.heap.objs.size<=s.heap.objs.size+1:=qbg _;have hb:∀i∈pm.toList,i<jL.length:=fun i m=>by
  have:=a1.mem_iff.mp m;simpa using this
 have pv:Zs (pm.toList.map fun i=>vs.getD i V.non) (pm.toList.map fun i=>jL.getD i qL):=TS.Paired.pick _ _ rv _ fun i m=>by rw[hl];exact hb i m
 have pt:Paired T (pm.toList.map fun i=>vs.getD i V.non) (pm.toList.map fun i=>jP.getD i []):=TS.Paired.pick _ _ pT _ fun i m=>by rw[hl];exact hb i m
 rw[a2] at pt;refine⟨.ref (s.heap.objs.size+1),_,I.laid (a:=s.heap.objs.size+1) (o:=.lst (pm.toList.map fun i=>vs.getD i V.non)) (t':=s.toks) (fun _ _=>sortedAll_old) hle ⟨?_,_,e,pv,he⟩,rfl,q _ _ pt (I.hok.fresh hle)⟩;have:=a1.length_eq;rw[qW] at this;rw[qj,this,sizeLine_eq];omega
noncomputable def UR (jP:List (List Int)):Prop:=jP.length<64/\(2<=jP.length->∀ns∈jP,ns≠[])
instance (jP:List (List Int)):Decidable (UR jP):=by unfold UR;infer_instance
noncomputable def Zcl:List D->Option D
 | [.lst ds]=>match Wz ds with | some jP=>if UR jP then some (.lst ((XU jP).map Xm)) else none | none=>none
 | _=>none
theorem Zcm:XS X G (.builtin "sorted") Zcl:=
 ⟨_,ZeQ,fun Hf H s xs ds c Q e1 st r q k=>by
  match ds,q,r with
  | [.lst es],q,r=>
   have q:(match Wz es with | some jP=>if UR jP then some (D.lst ((XU jP).map Xm)) else none | none=>none)=some c:=q
   cases he:Wz es with
   | none=>rw[he] at q;cases q
   | some jP=>
    rw[he] at q;have q:(if UR jP then some (D.lst ((XU jP).map Xm)) else none)=some c:=q;split at q
    ·rename_i ok
     cases q
     obtain⟨v,rfl,rv⟩:=jh r;obtain⟨p,vs,rfl,np,hp,rp⟩:=jc.mp rv;rw[Zbw he] at rp;refine⟨p,vs,jP,fun v ns=>Zj G Hf (Xm ns) v,rfl,Zu.of (e1 _ _ np hp),fun v ns h=>?_,Zbx rp,ok.1,ok.2,fun l vs' pt hl=>?_⟩
     ·obtain⟨a,us,rfl,na,ha,ra⟩:=jb.mp h
      rw[jn ra] at ha;exact⟨a,rfl,ZF.of (e1 _ _ na ha)⟩
     ·have nf:=Gh.nofp st hl
      have g2:=Gr.new (o:=.lst vs') e1 hl nf;have rl:=Zdm pt;exact k (.ref l) _ _ g2 (Gh.grow st hl) (jc.mpr ⟨l,_,rfl,nf,ZI,rl.ext g2.ff⟩) (Yo.mk e1 hl nf rl)
    ·cases q⟩
end
end TF
namespace TF
open L2
section
variable {X:Cx}{G:Gh}
theorem va (i:Nat){x:Str}{pos:Pos}(hN:X.N[i]?=some x:=by rfl)(hv:Bd X.env.scope x:=by first | exact qM rfl | exact yk (qM rfl) | exact yk (yk rfl))(hd:(x==("__debug__" : Str))=false:=by decide)(hcd:(x==("__classdict__" : Str))=false:=by decide):PD X G false (.Name x pos) (Za i):=Zl1 i (pv i hN hv hd hcd)
theorem bk (XN:List Str)(NS:List (Str×NameKind))(N':List Str)(src:List (Option Nat)){scope:Scope}(a:X.N=XN:=by rfl)(b:X.env.scope.names=NS:=by rfl)(c:∀y∈scope.names,y.2≠.cell:=by decide +kernel)(d:scope.kind=.function:=by rfl)(e:∀y∈scope.names,y.2=.local->scope.names.lookup y.1=some .local:=by decide +kernel)(f:src.length=N'.length:=by rfl)(g:∀y∈scope.names,y.2=.free->NS.lookup y.1=some .cell∨NS.lookup y.1=some .free:=by decide +kernel)
  (h:(src.zip N').all (fun p=>match p.1 with | some j=>decide (XN[j]?=some p.2)&&(decide (NS.lookup p.2=some .cell)||decide (NS.lookup p.2=some .free))&&decide (scope.names.lookup p.2=some .free) | none=>true)=true:=by decide +kernel):BlkS X XN NS N' src scope:=⟨a,b,c,d,e,f,g,h⟩
theorem YO {N P:List Str}{sc:Scope}(a:sc.kind=.function:=by rfl)(b:sc.isCoroutine=false:=by rfl)(c:sc.isGenerator=false:=by rfl)(d:N.Nodup:=by decide +kernel)(e:N.take P.length=P:=by rfl)(f:∀x∈P,sc.names.lookup x=some .local∨sc.names.lookup x=some .cell:=by decide +kernel)(g:∀y∈sc.names,y.2≠.free:=by decide +kernel):FnScope N P sc:=⟨a,b,c,d,e,f,g⟩
end
section
variable {X:Cx}{G:Gh}{elt tg iter:Expr}{ifs:List Expr}{scope:Scope}{pos pos' spos:Pos}{XN:List Str}{NS:List (Str×NameKind)}{N':List Str}{src:List (Option Nat)}{fi:Zb->M (List D)}{τ:D->Zb->Option Zb}{ft:Zb->M Bool}{fe:Zb->M D}{r1:Bool}{i:Nat}{x:Str}
theorem Xk {cl:_}{jJ:_}{C:_}{s:_}{H:_}{fp:_}{x:Str}{pos:Pos}{ok:Nat->Prop}(nd:N'.Nodup:=by decide +kernel)(hi:N'[i]?=some x:=by rfl)(hx:W8 (blk X jJ N' scope cl C s H fp).env.scope x:=by exact qM rfl)(oi:ok i:=by rfl)(hf:(blk X jJ N' scope cl C s H fp).fn x=true∨(blk X jJ N' scope cl C s H fp).env.scope.names.lookup x=some .local:=by first | exact .inl rfl | exact .inr rfl | assumption):WN (blk X jJ N' scope cl C s H fp) G (.Name x pos) ok (Zy i):=WU nd hi hx oi hf
theorem XA (B:BlkS X XN NS N' src scope)(hi:Wk X G tg iter fi)
  (hg:∀{cl jJ C s H fp},WN (blk X jJ N' scope cl C s H fp) G tg (fun i=>src[i]?=some none) τ) (ht:∀{cl jJ C s H fp},W3 (blk X jJ N' scope cl C s H fp) ifs (Ux G ft)) (he:∀{cl jJ C s H fp},PD (blk X jJ N' scope cl C s H fp) G r1 elt fe)
  (hc:X.calm=true:=by rfl) (hs:∀x,foldedSetIterable iter X.env x=pure x:=by intro _;rfl):PD X G true (.ListComp elt [⟨tg,iter,ifs,0⟩] scope pos) (Z0 src fi τ ft fe):=ZiA hc B hi (fun _ _ _ _ _ _=>hg) (fun _ _ _ _ _ _=>ht) (fun _ _ _ _ _ _=>he) hs
end
theorem Z2 {X:Cx}{G:Gh}{k:Nat}{x:Str}{n:Nat}{fr:Bool}{GG:Gh->Prop}{F:List D->M D}{p pos:Pos}{e:Expr}{es:List Expr}{fs:Zb->M (List D)}(c:ZT X.prog X.w X.K X.mg X.base k x n fr GG F)(hG:GG G)(hr:Room k X.A)
  (ha:Ws X G (e::es) fs) (hg:Gl X x:=by rfl) (hal:∀ρ s ds s',fs ρ s=some (ds,s')->ds.length=(e::es).length:=by first | exact YU Ui | exact YU (YU Ui) | exact YU (YU (YU Ui)) | exact YU (YU (YU (YU Ui))) | exact YU (YU (YU (YU (YU Ui)))) | exact YU (YU (YU (YU (YU (YU Ui)))))) (jV:(e::es).length=n:=by rfl)
  (hdb:(x==("__debug__" : Str))=false:=by decide) (he:starEach (e::es) X.env=(false,eval e X.env)::starEach es X.env:=by rfl) (hpl:(backTo pos (starEach es X.env)).any (·.1)=false:=by rfl) :
  PD X G fr (.Call (.Name x p) (e::es) [] pos) (Zq F fs):=Zma c hG hr hg ha hal jV hdb he hpl
section
variable {X:Cx}{G:Gh}{ob own own':List Nat}{fr:Bool}
theorem ZK {st:Stmt}{sts:List Stmt}{g1 g2:Zb->M Out}(h:Yx X G ob own [] fr st g1)(h2:XV X G ob [] own' fr sts g2):XV X G ob own own' fr (st::sts) (Zi g1 g2):=Yy h h2
theorem Yr (hs:∀k,k∈own'->k∈([]:List Nat):=by decide):XV X G ob [] own' fr [] Zt:=YW hs
theorem UD {c:Expr}{a b:List Stmt}{pos:Pos}{fc:Zb->M Bool}{g1 g2:Zb->M Out}(hc:Wr X G c fc)(ha:XV X G ob own [] fr a g1)(hb:XV X G ob own [] fr b g2):Yx X G ob own [] fr (.If c a b pos) (Y1 fc g1 g2):=Zfg hc ha hb
theorem WP {f:Zb->M (List D)}{p pos:Pos}{e:Expr}(hm:X.mg "len" = none)(ha:Ws X G [e] f)(hg:Gl X "len":=by rfl)(h1:starEach [e] X.env=(false,eval e X.env)::starEach [] X.env:=by rfl)(h2:(backTo pos (starEach [] X.env)).any (·.1)=false:=by rfl):PD X G true (.Call (.Name "len" p) [e] [] pos) (ZN YC f):=Vx Zfj hg hm boot_len ha (he:=h1)
end
end TF
namespace K56
open L2 TF TQ
open TP
open TP2
open TP3
noncomputable def Z5 (i:Nat):Stmt:=PySem.Challenge.pw_tiefold_k56_whole_pieces_as_orders.main.body.getD i (.Pass ⟨0,0,0,0⟩)
noncomputable abbrev Zcn:Stmt:=Z5 4
noncomputable abbrev ZfR:Stmt:=Z5 6
noncomputable abbrev Za8:Stmt:=Z5 7
noncomputable abbrev Zco:Stmt:=Z5 8
noncomputable abbrev Zam:Stmt:=Z5 9
noncomputable abbrev BF:Stmt:=Z5 10
noncomputable abbrev ZaJ:Stmt:=Z5 11
noncomputable abbrev Zjp:Stmt:=Z5 13
noncomputable abbrev Zad:Stmt:=Z5 14
noncomputable abbrev Jn:Stmt:=Z5 15
noncomputable abbrev Zan:Stmt:=Z5 16
noncomputable abbrev Zae:Stmt:=Z5 17
noncomputable abbrev Zby:Stmt:=Z5 18
noncomputable abbrev Br:Stmt:=Z5 20
noncomputable abbrev Zaz:Stmt:=Z5 21
noncomputable abbrev ZaK:Stmt:=Z5 23
noncomputable abbrev UG:Stmt:=Z5 24
noncomputable abbrev Zao:Stmt:=Z5 25
noncomputable abbrev Bm:Stmt:=Z5 26
noncomputable abbrev Bu:Stmt:=Z5 27
noncomputable abbrev ZaD:Stmt:=Z5 29
noncomputable abbrev Zds:Stmt:=Z5 30
noncomputable abbrev ZaL:Stmt:=Z5 32
noncomputable abbrev Zbi:Stmt:=Z5 33
noncomputable abbrev ZaM:Stmt:=Z5 34
noncomputable abbrev Zap:Stmt:=Z5 35
noncomputable abbrev s_law:Stmt:=Z5 36
structure Txt (mg:Str->Option Value):Prop where
 b_any:mg "any" = none
 b_dict:mg "dict" = none
 b_int:mg "int" = none
 b_len:mg "len" = none
 b_list:mg "list" = none
 b_max:mg "max" = none
 b_min:mg "min" = none
 b_range:mg "range" = none
 b_sorted:mg "sorted" = none
 b_sum:mg "sum" = none
 b_tuple:mg "tuple" = none
 b_zip:mg "zip" = none
set_option maxHeartbeats 4000000
variable {P:Program}{w:World}{K:qf}{mg:Str->Option Value}{base:Heap}{kf:Addr}{jO:FuncData}
noncomputable def Zcp:Zb->M Out:=(Zi (ZW 2 (Zd Zl (YH (Zc (dC (.int 4)) (Zc (dC (.int 9)) (Zc (dC (.int 30)) (Zc (Zd WK (dC (.int 10)) (dC (.int 8))) Ze))))) (Zq Yf (Zc (Za 0) (Zc (dC (.int 4)) Ze)))))
 (Zi (ZW 3 (Zd Zl (Za 1) (Zq Yf (Zc (Za 0) (Zc (ZN YC (Zc (Za 1) Ze)) Ze)))))
 (Zi (ZW 4 (Zd YZ (dC (.int 1)) (ZN Zis (Zc (Zd Wh (Zq Yf (Zc (Za 0) (Zc (dC (.int 3)) Ze))) (dC (.int 0))) Ze))))
 (Zi (Vp 5 (YH Ze))
 (Zi (Xc (Yb (Zq Yf (Zc (Za 0) (Zc (dC (.int 13)) Ze)))) (Zy 6)
 (Zi (ZW 7 (fun ρ=>(Zd YZ (Za 3) (Zd Uy (Zq Yf (Zc (Za 0) (Zc (Za 2) Ze))) (Zd Zl (YH (Zc (dC (.int 1)) (Zc (Zd WK (dC (.int 10)) (dC (.int 12))) Ze))) (Zq Yf (Zc (Za 0) (Zc (Za 4) Ze)))))) (Z8 [5] ρ)))
 (Zi (U9 5 (fun ρ=>(ZV (Zc (Za 7) (Zc (Zd YZ (Zd YZ (Za 7) (dC (.int 1))) (Zd Uy (Zq Yf (Zc (Za 0) (Zc (Za 2) Ze))) (Zd Zl (YH (Zc (dC (.int 1)) (Zc (Zd WK (dC (.int 10)) (dC (.int 12))) Ze))) (Zq Yf (Zc (Za 0) (Zc (Za 4) Ze)))))) Ze))) (Z8 [5] ρ)))
 (Zi (Y1 (asB (Zd Wh (Zq Yf (Zc (Za 0) (Zc (dC (.int 5)) Ze))) (dC (.int 0))))
 (Zi (ZW 8 (W9 false (Zd Zl (Za 5) (Zq Yf (Zc (Za 0) (Zc (ZN YC (Zc (Za 5) Ze)) Ze))))))
 (Zi (B9 5 (fun ρ=>(dC (.int (-1))) (Z8 [5] ρ)) (fun ρ=>(Zd Zl (YH (Zc (Za 8) (Zc (ZV (Zc (Zd Zl (Za 8) (dC (.int 1))) (Zc (Zd YZ (Zd YZ (Zd Zl (Za 8) (dC (.int 1))) (dC (.int 1))) (Zq Yf (Zc (Za 0) (Zc (Za 2) Ze)))) Ze))) Ze))) (Zq Yf (Zc (Za 0) (Zc (dC (.int 2)) Ze)))) (Z8 [5] ρ)))
 Zt))
 Zt)
 Zt))))
 (Zi (ZR (Za 5))
 Zt))))))
noncomputable def Jq:List D->M D:=runB 9 2 Zcp
theorem ZaE:FnScope ["pen","fars","wide","far","apart","pieces","k","start","old"] ["pen","fars"] (Zx ZaM):=YO
theorem ZbQ (F:Fun K "_law_tpieces" "_law_tpieces" ZaM kf jO)(T:Txt mg){L:List (Addr×Str)}(lo:Wt L)(jN:ZT P w K mg base 1 "_law_tdraw" 2 true (W7 Vs L) Yf) :
  FnOk P w K mg base ZO 2 kf jO ["pen","fars"] (Yn 2 true (W7 Vs L) Jq):=
 have jM:=ZaE.nd
 Xe (own:=[]) F ZaE fun cdv A outer s H E hr G hG=>
 have hT:YB L G:=jA lo hG
 (ZK (Y3 (YF jM rfl (qM rfl) (ZY ZZ (WX (Zf ZM (Zf ZM (Zf ZM (Zf (Xt JN ZM ZM) Zp))))) (Z2 (jN.mono) hG hr (Zf (va 0) (Zf ZM Zp))))))
 (ZK (Y3 (YF jM rfl (qM rfl) (ZY ZZ (va 1) (Z2 (jN.mono) hG hr (Zf (va 0) (Zf (WP T.b_len (Zf (va 1) Zp)) Zp))))))
 (ZK (Y3 (YF jM rfl (qM rfl) (Xt Ve ZM (Ue (Zfm) rfl T.b_int TF.boot_int (Zf (Uq (Zfo hr.units) (Z2 (jN.mono) hG hr (Zf (va 0) (Zf ZM Zp))) ZM) Zp)))))
 (Yy (own2:=[5]) (JG (YF jM rfl (qM rfl) (WX Zp)))
 (Yy (own2:=[5]) (Wy (own:=[5]) zo rfl (VJ rfl T.b_range (Z2 (jN.mono) hG hr (Zf (va 0) (Zf ZM Zp)))) (WU jM rfl (qM rfl) (by decide))
 (Yy (own2:=[5]) (Zej (own:=[5]) (YF jM rfl (qM rfl) (Xt Ve (va 3) (Xt ZdK (Z2 (jN.mono) hG hr (Zf (va 0) (Zf (va 2) Zp))) (ZY ZZ (WX (Zf ZM (Zf (Xt JN ZM ZM) Zp))) (Z2 (jN.mono) hG hr (Zf (va 0) (Zf (va 4) Zp))))))))
 (Yy (own2:=[5]) (Zem (own:=[5]) (i:=5) (by decide) (Y7 (Zf (va 7) (Zf (Xt Ve (Xt Ve (va 7) ZM) (Xt ZdK (Z2 (jN.mono) hG hr (Zf (va 0) (Zf (va 2) Zp))) (ZY ZZ (WX (Zf ZM (Zf (Xt JN ZM ZM) Zp))) (Z2 (jN.mono) hG hr (Zf (va 0) (Zf (va 4) Zp)))))) Zp))) (fun _ h=>Zdc (pv 5) h))
 (Yy (own2:=[5]) (Zfg (own':=[5]) (Xg (Zfo hr.units) (Z2 (jN.mono) hG hr (Zf (va 0) (Zf ZM Zp))) ZM)
 (Yy (own2:=[5]) (Zim (own:=[5]) (YF jM rfl (qM rfl) (ZY ZZ (va 5) (Z2 (jN.mono) hG hr (Zf (va 0) (Zf (WP T.b_len (Zf (va 5) Zp)) Zp))))))
 (Yy (own2:=[5]) (Zi1 (own:=[5]) (i:=5) (by decide) (pv 5) ZiJ (ZY ZZ (WX (Zf (va 8) (Zf (Y7 (Zf (ZY ZZ (va 8) ZM) (Zf (Xt Ve (Xt Ve (ZY ZZ (va 8) ZM) ZM) (Z2 (jN.mono) hG hr (Zf (va 0) (Zf (va 2) Zp)))) Zp))) Zp))) (Z2 (jN.mono) hG hr (Zf (va 0) (Zf ZM Zp)))))
 (YW (own:=[5]))))
 YW)
 (YW (own:=[5]))))))
 (Yy (own2:=[5]) (Zb1 (i:=5) (by decide) (pv 5))
 (YW (own:=[5]))))))))
theorem ZbI:FnScope ["row","pairs","i","j"] ["row"] (Zx Zcn):=YO
theorem ZeR (F:Fun K "pairs_of" "pairs_of" Zcn kf jO)(T:Txt mg) :
  FnOk P w K mg base ZO 1 kf jO ["row"] (Yn 1 true Z6 Jy):=
 have jM:=ZbI.nd
 Xe (own:=[]) F ZbI fun cdv A outer s H E hr G hG=>
 (Yy (own2:=[1]) (JG (YF jM rfl (qM rfl) (WX Zp)))
 (Yy (own2:=[1]) (Wy (own:=[1]) zo rfl (VJ rfl T.b_range (WP T.b_len (Zf (va 0) Zp))) (WU jM rfl (qM rfl) (by decide))
 (Yy (own2:=[1]) (Wy (own:=[1]) zo rfl (Zek rfl T.b_range (Xt Ve (va 2) ZM) (WP T.b_len (Zf (va 0) Zp))) (WU jM rfl (qM rfl) (by decide))
 (Yy (own2:=[1]) (Zem (own:=[1]) (i:=1) (by decide) (Y7 (Zf (ZY ZZ (va 0) (va 2)) (Zf (ZY ZZ (va 0) (va 3)) Zp))) (fun _ h=>Zdc (pv 1) h))
 (YW (own:=[1]))))
 (YW (own:=[1]))))
 (Yy (own2:=[1]) (Zb1 (i:=1) (by decide) (pv 1))
 (YW (own:=[1])))))
theorem Zbj:FnScope ["row","tied","pairs"] ["row","tied"] (Zx ZaJ):=YO
theorem ZdX (F:Fun K "web_where" "web_where" ZaJ kf jO)(T:Txt mg)(kG:ZT P w K mg base 1 "pairs_of" 1 true Z6 Jy) :
  FnOk P w K mg base ZO 5 kf jO ["row","tied"] (Yn 2 false (Vr P w K mg 4 2 Tl base) Vb):=
 have jM:=Zbj.nd
 Xe (own:=[]) F Zbj fun cdv A outer s H E hr G hG=>
 (ZK (Y3 (YF jM rfl (qM rfl) (Z2 (kG.mono) trivial hr (Zf (Bp rfl rfl T.b_range rfl T.b_list TF.boot_list (WP T.b_len (Zf (va 0) Zp))) Zp))))
 (ZK (Yz (PD.weak (Y7 (Zf (WP T.b_len (Zf (va 0) Zp)) (Zf (Ue (Zaw) rfl T.b_tuple TF.boot_tuple (Zf (XA (bk ["row","tied","pairs"] (Zx ZaJ).names ["pair","tied","row"] [none,some 1,some 0]) (X7 (va 2)) Xk (VC (ZdJ (ZiD hG (hr.mono (by decide)) (pv 1) (Zf (ZY ZZ (va 2) (ZY ZZ (va 0) ZM)) (Zf (ZY ZZ (va 2) (ZY ZZ (va 0) ZM)) Zp)) (YU (YU Ui))))) (va 0)) Zp)) Zp)))))
 Yr))
noncomputable def Zcq:Zb->M Out:=(Zi (ZR (V0 Vb 5 [1] (WQ (Za 0))))
 Zt)
noncomputable def Jr:List D->M D:=runB 2 2 Zcq
theorem ZaF:FnScope ["n","below"] ["n","below"] (Zx Bm):=YO
theorem ZbR (F:Fun K "web_of_below" "web_of_below" Bm kf jO)(T:Txt mg){L:List (Addr×Str)}(lo:Wt L)(jW:VF P w K mg 5 "web_where" 2 false (Vr P w K mg 4 2 Tl) Vb){tc tP:Addr}(hcode:jO.code=.ref tc)(hCd:zB base tc tP)(hBm:V8 mg base)(hL:(tP,(qw "web_of_below.<locals>.<lambda>"))∈L) :
  FnOk P w K mg base ZO 6 kf jO ["n","below"] (Yn 2 false (YB L) Jr):=
 have jM:=ZaF.nd
 fnDC (own:=[]) F ZaF fun A outer s H E hr G hG=>
 have hT:YB L G:=hG;have TG9:=hT _ _ hL;have M9:Mk0 (WI ZO P w K mg base ["n","below"] "web_of_below" (Zx Bm) kf jO.code A outer s H E).nox tc tP:=⟨hcode,hCd,hBm⟩
 (ZK (Yz (Zca (kl:=3) (frb:=false) (N:=["a","b","below"]) (ps:=["a","b"]) (cix:=[1]) (T:=Tl) (t:=5) (q:="web_of_below.<locals>.<lambda>") M9 TG9 (jW.mono) (fun _=>rfl) hr rfl (Bp rfl rfl T.b_range rfl T.b_list TF.boot_list (va 0)) rfl (⟨rfl,rfl,rfl,by decide +kernel,rfl,by decide +kernel,by decide +kernel⟩:CloScope ["a","b","below"] ["a","b"] _) (⟨rfl,rfl,rfl,by decide +kernel,by decide +kernel⟩:CapS _ ["n","below"] (Zx Bm).names ["a","b","below"] ["a","b"] [1] _) rfl (fun _ _ _ _ us hl=>match us,hl with | [_,_],_=>rfl) (fun base f c cl G A outer s H E hr=>(ZmY (Uq (VA hr.units) (Y7 (Zf (va 0) (Zf (va 1) Zp))) (va 2)) (Zik (Uq (VA hr.units) (Y7 (Zf (va 1) (Zf (va 0) Zp))) (va 2)))))))
 Yr)
noncomputable def ZeS:Zb->M Out:=(Zi (Vp 2 (ZN BY (Zc (Z0 [none] (Z4 (Za 1)) (Zy 0) Ya (ZV (Zc (Za 0) (Zc (dC (.bl true)) Ze)))) Ze)))
 (Zi (Xc (Yb (Za 0)) (Zy 3)
 (Zi (Xc (Yb (Za 0)) (Zy 4)
 (Zi (Xc (Yb (Za 0)) (Zy 5)
 (Zi (Y1 (WJ (asB (Zd Yq (ZV (Zc (Za 4) (Zc (Za 3) Ze))) (Za 2))) (asB (Zd Yq (ZV (Zc (Za 3) (Zc (Za 5) Ze))) (Za 2))))
 (Zi (U5 2 (fun ρ=>(ZV (Zc (Za 4) (Zc (Za 5) Ze))) (Z8 [2] ρ)) (fun ρ=>(dC (.bl true)) (Z8 [2] ρ)))
 Zt)
 Zt)
 Zt))
 Zt))
 Zt))
 (Zi (Y1 (asB (ZN Ja (Zc (Z0 [none,some 2] (Yb (Za 0)) (Zy 0) Ya (Zd Yq (ZV (Zc (Za 0) (Zc (Za 0) Ze))) (Za 1))) Ze)))
 (fun _=>Zz)
 Zt)
 (Zi (ZR (Za 2))
 Zt))))
noncomputable def Jw:List D->M D:=runB 6 2 ZeS
theorem Zbk:FnScope ["n","pairs","below","between","a","b"] ["n","pairs"] (Zx Bu):=YO
theorem ZdY (F:Fun K "all_below" "all_below" Bu kf jO)(T:Txt mg) :
  FnOk P w K mg base ZO 1 kf jO ["n","pairs"] (Yn 2 false Z6 Jw):=
 have jM:=Zbk.nd
 Xe (own:=[]) F Zbk fun cdv A outer s H E hr G hG=>
 (Yy (own2:=[2]) (JG (YF jM rfl (yk rfl) (Ue (ZfQ rfl hr.units) rfl T.b_dict TF.boot_dict (Zf (XA (bk ["n","pairs","below","between","a","b"] (Zx Bu).names ["pair"] [none]) (X7 (va 1)) Xk WD (Y7 (Zf (va 0) (Zf VS Zp)))) Zp))))
 (Yy (own2:=[2]) (Wy (own:=[2]) zo rfl (VJ rfl T.b_range (va 0)) (WU jM rfl (qM rfl) (by decide))
 (Yy (own2:=[2]) (Wy (own:=[2]) zo rfl (VJ rfl T.b_range (va 0)) (WU jM rfl (qM rfl) (by decide))
 (Yy (own2:=[2]) (Wy (own:=[2]) zo rfl (VJ rfl T.b_range (va 0)) (WU jM rfl (qM rfl) (by decide))
 (Yy (own2:=[2]) (Zfg (own':=[2]) (WM.pt (Zgd (Xg (VA hr.units) (Y7 (Zf (va 4) (Zf (va 3) Zp))) (va 2)) (Zei (Xg (VA hr.units) (Y7 (Zf (va 3) (Zf (va 5) Zp))) (va 2)))))
 (Yy (own2:=[2]) (ZfI (own:=[2]) (i:=2) (L2.hu_of hr) (by decide) (pv 2) (Y7 (Zf (va 4) (Zf (va 5) Zp))) VS)
 (YW (own:=[2])))
 YW)
 (YW (own:=[2]))))
 (YW (own:=[2]))))
 (YW (own:=[2]))))
 (ZK (Yx.frz (own:=[2]) (own2:=[]) (UD (ZdJ (Vx (ZgZ rfl) rfl T.b_any TF.boot_any (Zf (XA (bk ["n","pairs","below","between","a","b"] (Zx Bu).names ["place","below"] [none,some 2]) (VL rfl T.b_range (va 0)) Xk WD (Uq (VA hr.units) (Y7 (Zf (va 0) (Zf (va 0) Zp))) (va 1))) Zp)))
 Zhk
 YW))
 (ZK (Yz (va 2))
 Yr))))
noncomputable def Zcr:Zb->M Out:=(Zi (ZR (Zq Jr (Zc (Za 0) (Zc (Zq Jw (Zc (Za 0) (Zc (Za 1) Ze))) Ze))))
 Zt)
noncomputable def Bn:List D->M D:=runB 2 2 Zcr
theorem ZaG:FnScope ["n","pairs"] ["n","pairs"] (Zx ZaK):=YO
theorem ZbS (F:Fun K "web_of_order" "web_of_order" ZaK kf jO)(T:Txt mg){L:List (Addr×Str)}(lo:Wt L)(kg:ZT P w K mg base 1 "all_below" 2 false Z6 Jw)(jX:ZT P w K mg base 6 "web_of_below" 2 false (YB L) Jr) :
  FnOk P w K mg base ZO 7 kf jO ["n","pairs"] (Yn 2 false (YB L) Bn):=
 have jM:=ZaG.nd
 Xe (own:=[]) F ZaG fun cdv A outer s H E hr G hG=>
 have hT:YB L G:=hG
 (ZK (Yz (Z2 (jX.mono) hT hr (Zf (va 0) (Zf (Z2 (kg.mono) trivial hr (Zf (va 0) (Zf (va 1) Zp))) Zp))))
 Yr)
noncomputable def ZcR:Zb->M Out:=(Zi (ZR (ZN YC (Zc (Z0 [none,some 2,some 1] (Yb (Za 0)) (Zy 0) (asB (Zd Yq (ZV (Zc (Za 0) (Zc (Za 1) Ze))) (Za 2))) (Za 0)) Ze)))
 Zt)
noncomputable def Zaq:List D->M D:=runB 3 3 ZcR
theorem ZaN:FnScope ["n","below","place"] ["n","below","place"] (Zx Zao):=YO
theorem Zcs (F:Fun K "count_below" "count_below" Zao kf jO)(T:Txt mg) :
  FnOk P w K mg base ZO 1 kf jO ["n","below","place"] (Yn 3 true Z6 Zaq):=
 have jM:=ZaN.nd
 Xe (own:=[]) F ZaN fun cdv A outer s H E hr G hG=>
 (ZK (Yz (WP T.b_len (Zf (XA (bk ["n","below","place"] (Zx Zao).names ["other","place","below"] [none,some 2,some 1]) (VL rfl T.b_range (va 0)) Xk (VC (Xg (VA hr.units) (Y7 (Zf (va 0) (Zf (va 1) Zp))) (va 2))) (va 0)) Zp)))
 Yr)
theorem ZaO:FnScope ["web"] ["web"] (Zx Zam):=YO
theorem Zct (F:Fun K "marked_ties" "marked_ties" Zam kf jO)(T:Txt mg) :
  FnOk P w K mg base ZO 1 kf jO ["web"] (Yn 1 true Z6 Ub):=
 have jM:=ZaO.nd
 Xe (own:=[]) F ZaO fun cdv A outer s H E hr G hG=>
 (ZK (Yz (Ue (Zft rfl hr.units) rfl T.b_dict TF.boot_dict (Zf (XA (bk ["web"] (Zx Zam).names ["tie"] [none]) (Zkb (ZY ZZ (va 0) ZM)) Xk WD (Y7 (Zf (va 0) (Zf VS Zp)))) Zp)))
 Yr)
theorem ZbJ:FnScope ["ties","a","b"] ["ties","a","b"] (Zx Zco):=YO
theorem ZeT (F:Fun K "are_tied" "are_tied" Zco kf jO)(T:Txt mg) :
  FnOk P w K mg base ZO 1 kf jO ["ties","a","b"] (Yn 3 false Z6 WR):=
 have jM:=ZbJ.nd
 Xe (own:=[]) F ZbJ fun cdv A outer s H E hr G hG=>
 (ZK (Yz (PD.weak (Uq (VA hr.units) (Y7 (Zf (Vx (Zfl rfl) rfl T.b_min TF.boot_min (Zf (va 1) (Zf (va 2) Zp))) (Zf (Vx (Zfk rfl) rfl T.b_max TF.boot_max (Zf (va 1) (Zf (va 2) Zp))) Zp))) (va 0))))
 Yr)
theorem Zgu:FnScope ["web","place"] ["web","place"] (Zx ZfR):=YO
theorem ZkG (F:Fun K "near" "near" ZfR kf jO)(T:Txt mg)(kD:ZT P w K mg base 1 "are_tied" 3 false Z6 WR) :
  FnOk P w K mg base ZO 2 kf jO ["web","place"] (Yn 2 true Z6 UV):=
 have jM:=Zgu.nd
 Xe (own:=[]) F Zgu fun cdv A outer s H E hr G hG=>
 (ZK (Yz (XA (bk ["web","place"] (Zx ZfR).names ["other","web","place"] [none,some 0,some 1]) (VL rfl T.b_range (ZY ZZ (va 0) ZM)) Xk (VC (ZdJ (Z2 (kD.mono) trivial hr (Zf (ZY ZZ (va 1) ZM) (Zf (va 2) (Zf (va 0) Zp)))))) (va 0)))
 Yr)
theorem ZbK:FnScope ["web","marked"] ["web"] (Zx Za8):=YO
theorem ZeU (F:Fun K "all_near" "all_near" Za8 kf jO)(T:Txt mg)(j8:ZT P w K mg base 1 "marked_ties" 1 true Z6 Ub)(kJ:ZT P w K mg base 2 "near" 2 true Z6 UV) :
  FnOk P w K mg base ZO 3 kf jO ["web"] (Yn 1 true Z6 UK):=
 have jM:=ZbK.nd
 Xe (own:=[]) F ZbK fun cdv A outer s H E hr G hG=>
 (ZK (Y3 (YF jM rfl (yk rfl) (Y7 (Zf (ZY ZZ (va 0) ZM) (Zf (Z2 (j8.mono) trivial hr (Zf (va 0) Zp)) Zp)))))
 (ZK (Yz (XA (bk ["web","marked"] (Zx Za8).names ["place","marked"] [none,some 1]) (VL rfl T.b_range (ZY ZZ (va 0) ZM)) Xk WD (Z2 (kJ.mono) trivial hr (Zf (va 1) (Zf (va 0) Zp)))))
 Yr))
theorem ZaZ:FnScope ["taken"] ["taken"] (Zx Zaz):=YO
theorem ZcS (F:Fun K "least_free" "least_free" Zaz kf jO)(T:Txt mg) :
  FnOk P w K mg base ZO 1 kf jO ["taken"] (Yn 1 true Z6 UH):=
 have jM:=ZaZ.nd
 Xe (own:=[]) F ZaZ fun cdv A outer s H E hr G hG=>
 (ZK (Yz (Vx (ZfH rfl) rfl T.b_min TF.boot_min (Zf (XA (bk ["taken"] (Zx Zaz).names ["hue","taken"] [none,some 0]) (VL rfl T.b_range (Xt Ve (WP T.b_len (Zf (va 0) Zp)) ZM)) Xk (VC (Xg (Zdf hr.units) (va 0) (va 1))) (va 0)) Zp)))
 Yr)
theorem Za0:FnScope ["web","order","nears","hues","place"] ["web","order"] (Zx Br):=YO
theorem ZcT (F:Fun K "hued_along" "hued_along" Br kf jO)(T:Txt mg)(ki:ZT P w K mg base 3 "all_near" 1 true Z6 UK)(kA:ZT P w K mg base 1 "least_free" 1 true Z6 UH) :
  FnOk P w K mg base ZO 4 kf jO ["web","order"] (Yn 2 true Z6 Js):=
 have jM:=Za0.nd
 Xe (own:=[]) F Za0 fun cdv A outer s H E hr G hG=>
 (ZK (Y3 (YF jM rfl (qM rfl) (Z2 (ki.mono) trivial hr (Zf (va 0) Zp))))
 (Yy (own2:=[3]) (JG (YF jM rfl (yk rfl) Zi8))
 (Yy (own2:=[3]) (Wy (own:=[3]) zo rfl (Wk.a (own:=[3]) (X7 (va 1))) (WU jM rfl (qM rfl) (by decide))
 (Yy (own2:=[3]) (Zhq (own:=[3]) (i:=3) (L2.hu_of hr) (by decide) (pv 3) (va 4) (Z2 (kA.mono) trivial hr (Zf (XA (bk ["web","order","nears","hues","place"] (Zx Br).names ["other","hues"] [none,some 3]) (X7 (ZY ZZ (va 2) (va 4))) Xk (VC (Xg (VA hr.units) (va 0) (va 1))) (Zgp (L2.hu_of hr) (va 1) (va 0))) Zp)))
 (YW (own:=[3]))))
 (Yy (own2:=[3]) (Yz (Ue (Zaw) rfl T.b_tuple TF.boot_tuple (Zf (XA (bk ["web","order","nears","hues","place"] (Zx Br).names ["place","hues"] [none,some 3]) (VL rfl T.b_range (ZY ZZ (va 0) ZM)) Xk WD (Zgp (L2.hu_of hr) (va 1) (va 0))) Zp)))
 (YW (own:=[3]))))))
theorem Zdt:FnScope ["web","ties"] ["web"] (Zx BF):=YO
theorem ZhA (F:Fun K "turned" "turned" BF kf jO)(T:Txt mg){L:List (Addr×Str)}(lo:Wt L)(j8:ZT P w K mg base 1 "marked_ties" 1 true Z6 Ub)(jW:VF P w K mg 5 "web_where" 2 false (Vr P w K mg 4 2 Tl) Vb)(ko:∀base,ZT P w K mg base 1 "are_tied" 3 false Z6 WR){tc tP:Addr}(hcode:jO.code=.ref tc)(hCd:zB base tc tP)(hBm:V8 mg base)(hL:(tP,(qw "turned.<locals>.<lambda>"))∈L) :
  FnOk P w K mg base ZO 6 kf jO ["web"] (Yn 1 false (YB L) Vc):=
 have jM:=Zdt.nd
 fnDC (own:=[]) F Zdt fun A outer s H E hr G hG=>
 have hT:YB L G:=hG;have TG9:=hT _ _ hL;have M9:Mk0 (WI ZO P w K mg base ["web","ties"] "turned" (Zx BF) kf jO.code A outer s H E).nox tc tP:=⟨hcode,hCd,hBm⟩
 (ZK (Y3 (YF jM rfl (yk rfl) (Z2 (j8.mono) trivial hr (Zf (va 0) Zp))))
 (ZK (Yz (Zca (kl:=3) (frb:=true) (N:=["a","b","ties"]) (ps:=["a","b"]) (cix:=[1]) (T:=Tl) (t:=0) (q:="turned.<locals>.<lambda>") M9 TG9 (jW.mono) (fun _=>rfl) hr rfl (Bp rfl rfl T.b_range rfl T.b_list TF.boot_list (ZY ZZ (va 0) ZM)) rfl (⟨rfl,rfl,rfl,by decide +kernel,rfl,by decide +kernel,by decide +kernel⟩:CloScope ["a","b","ties"] ["a","b"] _) (⟨rfl,rfl,rfl,by decide +kernel,by decide +kernel⟩:CapS _ ["web","ties"] (Zx BF).names ["a","b","ties"] ["a","b"] [1] _) rfl (fun _ _ _ _ us hl=>match us,hl with | [_,_],_=>rfl) (fun base f c cl G A outer s H E hr=>(Zl3 (Z2 ((ko base).mono) trivial hr (Zf (va 2) (Zf (va 0) (Zf (va 1) Zp))))))))
 Yr))
theorem Zas:FnScope ["aparts","weights","place","places","others"] ["aparts","weights","place","places"] (Zx Zae):=YO
theorem Zbz (F:Fun K "heaviest_with" "heaviest_with" Zae kf jO)(T:Txt mg){Fs:List D->M D}{lv:Nat}(hlv:0<=lv)(jR:ZT P w K mg base lv "heaviest_among" 3 false Z6 Fs) :
  FnOk P w K mg base ZO (lv+1) kf jO ["aparts","weights","place","places"] (Yn 4 false Z6 (Bl Fs)):=
 have jM:=Zas.nd
 Xe (own:=[]) F Zas fun cdv A outer s H E hr G hG=>
 (ZK (Y3 (Bw jM rfl (qM rfl) rfl (bk ["aparts","weights","place","places","others"] (Zx Zae).names ["other","place","aparts"] [none,some 2,some 0]) (X7 (va 3)) (fun _ _ _ _ _ _=>Xk) (fun _ _ _ _ _ _=>(VC (WM.pt (Zgd (Xg (JT hr.units) (va 0) (va 1)) (Zei (Xg (Zdf hr.units) (va 0) (ZY ZZ (va 2) (va 1)))))))) (fun _ _ _ _ _ _=>(va 0))))
 (ZK (Yz (PD.weak (Xt Ve (WX (Zf (va 2) Zp)) (Z2 (jR) trivial hr (Zf (va 0) (Zf (va 1) (Zf (va 4) Zp)))))))
 Yr))
theorem ZaP:FnScope ["aparts","place","places"] ["aparts","place","places"] (Zx Zan):=YO
theorem Zcu (F:Fun K "apart_among" "apart_among" Zan kf jO)(T:Txt mg) :
  FnOk P w K mg base ZO 1 kf jO ["aparts","place","places"] (Yn 3 true Z6 Zal):=
 have jM:=ZaP.nd
 Xe (own:=[]) F ZaP fun cdv A outer s H E hr G hG=>
 (ZK (Yz (XA (bk ["aparts","place","places"] (Zx Zan).names ["other","aparts","place"] [none,some 0,some 1]) (X7 (va 2)) Xk (VC (Xg (VA hr.units) (va 0) (ZY ZZ (va 1) (va 2)))) (va 0)))
 Yr)
theorem Zcv:FnScope ["weights","places"] ["weights","places"] (Zx Zby):=YO
theorem ZfS (F:Fun K "weighed" "weighed" Zby kf jO)(T:Txt mg) :
  FnOk P w K mg base ZO 1 kf jO ["weights","places"] (Yn 2 false Z6 JB):=
 have jM:=Zcv.nd
 Xe (own:=[]) F Zcv fun cdv A outer s H E hr G hG=>
 (ZK (Yz (PD.weak (Vx (Zhw rfl) rfl T.b_sum TF.boot_sum (Zf (XA (bk ["weights","places"] (Zx Zby).names ["place","weights"] [none,some 0]) (X7 (va 1)) Xk WD (ZY ZZ (va 1) (va 0))) Zp))))
 Yr)
theorem Zak:FnScope ["aparts","weights","places","rows","i","counts","branching","with_it","without_it"] ["aparts","weights","places"] (Zx Jn):=YO
theorem Zbl (F:Fun K "heaviest_among" "heaviest_among" Jn kf jO)(T:Txt mg){Fs:List D->M D}{lv:Nat}(hlv:1<=lv)(kq:ZT P w K mg base 1 "apart_among" 3 true Z6 Zal)(jR:ZT P w K mg base lv "heaviest_among" 3 false Z6 Fs)(ke:ZT P w K mg base (lv+1) "heaviest_with" 4 false Z6 (Bl Fs))(kx:ZT P w K mg base 1 "weighed" 2 false Z6 JB) :
  FnOk P w K mg base ZO (lv+2) kf jO ["aparts","weights","places"] (Yn 3 false Z6 (runB 9 3 (Zac Fs))):=
 have jM:=Zak.nd
 Xe (own:=[]) F Zak fun cdv A outer s H E hr G hG=>
 (ZK (UD (Xg (Zfo hr.units) (va 2) (WX Zp))
 (ZK (Yz (PD.weak (WX Zp)))
 Yr)
 YW)
 (ZK (Y3 (Bw jM rfl (qM rfl) rfl (bk ["aparts","weights","places","rows","i","counts","branching","with_it","without_it"] (Zx Jn).names ["place","aparts","places"] [none,some 0,some 2]) (X7 (va 2)) (fun _ _ _ _ _ _=>Xk) (fun _ _ _ _ _ _=>WD) (fun _ _ _ _ _ _=>(Z2 (kq.mono (h:=qZ (by decide) (qag hlv))) trivial hr (Zf (va 1) (Zf (va 0) (Zf (va 2) Zp)))))))
 (ZK (Wy (own:=[]) zo rfl (VJ rfl T.b_range (WP T.b_len (Zf (va 2) Zp))) (WU jM rfl (qM rfl) (by decide))
 (ZK (UD (Xg (Zio) (Z2 (kx.mono (h:=qZ (by decide) (qag hlv))) trivial hr (Zf (va 1) (Zf (ZY ZZ (va 3) (va 4)) Zp))) (ZY ZZ (va 1) (ZY ZZ (va 2) (va 4))))
 (ZK (Yz (Z2 (ke) trivial hr (Zf (va 0) (Zf (va 1) (Zf (ZY ZZ (va 2) (va 4)) (Zf (va 2) Zp))))))
 Yr)
 YW)
 Yr))
 (ZK (Y3 (Bw jM rfl (qM rfl) rfl (bk ["aparts","weights","places","rows","i","counts","branching","with_it","without_it"] (Zx Jn).names ["row"] [none]) (X7 (va 3)) (fun _ _ _ _ _ _=>Xk) (fun _ _ _ _ _ _=>WD) (fun _ _ _ _ _ _=>(WP T.b_len (Zf (va 0) Zp)))))
 (ZK (Y3 (YF jM rfl (yk rfl) (ZY ZZ (va 2) (Zjd (va 5) (Vx (ZfC rfl) rfl T.b_max TF.boot_max (Zf (va 5) Zp))))))
 (ZK (Y3 (YF jM rfl (qM rfl) (Z2 (ke) trivial hr (Zf (va 0) (Zf (va 1) (Zf (va 6) (Zf (va 2) Zp)))))))
 (ZK (Y3 (YF jM rfl (qM rfl) (Z2 (jR.mono (h:=qbg _)) trivial hr (Zf (va 0) (Zf (va 1) (Zf (XA (bk ["aparts","weights","places","rows","i","counts","branching","with_it","without_it"] (Zx Jn).names ["other","branching"] [none,some 6]) (X7 (va 2)) Xk (VC (Xg (JT hr.units) (va 0) (va 1))) (va 0)) Zp))))))
 (ZK (Yz (ZmZ (Xg (Zip) (Z2 (kx.mono (h:=qZ (by decide) (qag hlv))) trivial hr (Zf (va 1) (Zf (va 7) Zp))) (Z2 (kx.mono (h:=qZ (by decide) (qag hlv))) trivial hr (Zf (va 1) (Zf (va 8) Zp)))) (va 7) (va 8)))
 Yr))))))))
theorem Zat:FnScope ["web","weights","aparts"] ["web","weights"] (Zx Zad):=YO
theorem ZbA (F:Fun K "heaviest_knot" "heaviest_knot" Zad kf jO)(T:Txt mg){L:List (Addr×Str)}(lo:Wt L)(ki:ZT P w K mg base 3 "all_near" 1 true Z6 UK)(jR:ZT P w K mg base 53 "heaviest_among" 3 false Z6 (Ua 26))(kh:ZT P w K mg base 6 "turned" 1 false (YB L) Vc) :
  FnOk P w K mg base ZO 54 kf jO ["web","weights"] (Yn 2 true (YB L) Jp):=
 have jM:=Zat.nd
 Xe (own:=[]) F Zat fun cdv A outer s H E hr G hG=>
 have hT:YB L G:=hG
 (ZK (Y3 (Bw jM rfl (qM rfl) rfl (bk ["web","weights","aparts"] (Zx Zad).names ["row"] [none]) (X7 (Z2 (ki.mono) trivial hr (Zf (Z2 (kh.mono) hT hr (Zf (va 0) Zp)) Zp))) (fun _ _ _ _ _ _=>Xk) (fun _ _ _ _ _ _=>WD) (fun _ _ _ _ _ _=>(Ue (Zfu rfl hr.units) rfl T.b_dict TF.boot_dict (Zf (XA (bk ["row"] [((qaH ".0"),PySem.NameKind.local),((qaH "row"),PySem.NameKind.local),((qaH "dict"),PySem.NameKind.globalImplicit)] ["other"] [none]) (X7 (va 0)) Xk WD (Y7 (Zf (va 0) (Zf VS Zp)))) Zp)))))
 (ZK (Yz (Ue (Zaw) rfl T.b_tuple TF.boot_tuple (Zf (Vx (ZdQ) rfl T.b_sorted TF.boot_sorted (Zf (Z2 (jR.mono) trivial hr (Zf (va 2) (Zf (va 1) (Zf (Bp rfl rfl T.b_range rfl T.b_list TF.boot_list (ZY ZZ (va 0) ZM)) Zp)))) Zp)) Zp)))
 Yr))
theorem Zgv:FnScope ["web","knot"] ["web"] (Zx Zjp):=YO
theorem ZkH (F:Fun K "most" "most" Zjp kf jO)(T:Txt mg){L:List (Addr×Str)}(lo:Wt L)(kj:ZT P w K mg base 54 "heaviest_knot" 2 true (YB L) Jp) :
  FnOk P w K mg base ZO 55 kf jO ["web"] (Yn 1 true (YB L) VB):=
 have jM:=Zgv.nd
 Xe (own:=[]) F Zgv fun cdv A outer s H E hr G hG=>
 have hT:YB L G:=hG
 (ZK (Y3 (YF jM rfl (qM rfl) (Z2 (kj.mono) hT hr (Zf (va 0) (Zf (Xt Zjj (Y7 (Zf ZM Zp)) (ZY ZZ (va 0) ZM)) Zp)))))
 (ZK (Yz (Y7 (Zf (WP T.b_len (Zf (va 1) Zp)) (Zf (va 1) Zp))))
 Yr))
noncomputable def ZcU:Zb->M Out:=(Zi (ZW 2 (Zq Jw (Zc (Za 0) (Zc (Za 1) Ze))))
 (Zi (ZW 3 (Zq Jr (Zc (Za 0) (Zc (Za 2) Ze))))
 (Zi (ZW 4 (Z0 [none,some 0,some 2] (Yb (Za 0)) (Zy 0) Ya (Zq Zaq (Zc (Za 1) (Zc (Za 2) (Zc (Za 0) Ze))))))
 (Zi (ZW 5 (Zq Js (Zc (Za 3) (Zc (JC (YI 2 (Zd Zl (Za 1) (Za 0))) [4] (Za 0)) Ze))))
 (Zi (ZW 6 (Zq VB (Zc (Za 3) Ze)))
 (Zi (ZR (ZV (Zc (Zd Zl (Za 6) (dC (.int 0))) (Zc (JH (YI 2 (Zd Zl (Za 1) (Za 0))) [4] (Zd Zl (Za 6) (dC (.int 1)))) (Zc (Za 5) Ze)))))
 Zt))))))
noncomputable def Bo:List D->M D:=runB 7 2 ZcU
theorem ZaQ:FnScope ["n","pairs","below","web","ranks","hueing","told"] ["n","pairs"] (Zx UG):=YO
theorem Zcw (F:Fun K "chains_told" "chains_told" UG kf jO)(T:Txt mg){L:List (Addr×Str)}(lo:Wt L)(kg:ZT P w K mg base 1 "all_below" 2 false Z6 Jw)(kr:ZT P w K mg base 1 "count_below" 3 true Z6 Zaq)(kB:ZT P w K mg base 4 "hued_along" 2 true Z6 Js)(kC:ZT P w K mg base 55 "most" 1 true (YB L) VB)(jX:ZT P w K mg base 6 "web_of_below" 2 false (YB L) Jr){tc tP:Addr}(hcode:jO.code=.ref tc)(hCd:zB base tc tP)(hBm:V8 mg base)(hL:(tP,(qw "chains_told.<locals>.<lambda>"))∈L) :
  FnOk P w K mg base ZO 56 kf jO ["n","pairs"] (Yn 2 false (YB L) Bo):=
 have jM:=ZaQ.nd
 fnDC (own:=[]) F ZaQ fun A outer s H E hr G hG=>
 have hT:YB L G:=hG;have TG9:=hT _ _ hL;have M9:Mk0 (WI ZO P w K mg base ["n","pairs","below","web","ranks","hueing","told"] "chains_told" (Zx UG) kf jO.code A outer s H E).nox tc tP:=⟨hcode,hCd,hBm⟩
 (ZK (Y3 (YF jM rfl (yk rfl) (Z2 (kg.mono) trivial hr (Zf (va 0) (Zf (va 1) Zp)))))
 (ZK (Y3 (YF jM rfl (qM rfl) (Z2 (jX.mono) hT hr (Zf (va 0) (Zf (va 2) Zp)))))
 (ZK (Y3 (YF jM rfl (yk rfl) (XA (bk ["n","pairs","below","web","ranks","hueing","told"] (Zx UG).names ["place","n","below"] [none,some 0,some 2]) (VL rfl T.b_range (va 0)) Xk WD (Z2 (kr.mono) trivial hr (Zf (va 1) (Zf (va 2) (Zf (va 0) Zp)))))))
 (ZK (Y3 (YF jM rfl (qM rfl) (Z2 (kB.mono) trivial hr (Zf (va 3) (Zf (ZeO (kl:=3) (frb:=false) (N:=["place","ranks"]) (ps:=["place"]) (cix:=[4]) (q:="chains_told.<locals>.<lambda>") rfl rfl T.b_sorted TF.boot_sorted rfl T.b_range M9 TG9 (fun _=>rfl) (hr.mono (by decide)) (va 0) rfl (⟨rfl,rfl,rfl,by decide +kernel,rfl,by decide +kernel,by decide +kernel⟩:CloScope ["place","ranks"] ["place"] _) (⟨rfl,rfl,rfl,by decide +kernel,by decide +kernel⟩:CapS _ ["n","pairs","below","web","ranks","hueing","told"] (Zx UG).names ["place","ranks"] ["place"] [4] _) rfl (fun _ _ _ _ us hl=>match us,hl with | [_],_=>rfl) (fun base f c cl G A outer s H E hr=>(ZY ZZ (va 1) (va 0)))) Zp)))))
 (ZK (Y3 (YF jM rfl (qM rfl) (Z2 (kC.mono) hT hr (Zf (va 3) Zp))))
 (ZK (Yz (PD.weak (Y7 (Zf (ZY ZZ (va 6) ZM) (Zf (ZfP (kl:=3) (frb:=false) (N:=["place","ranks"]) (ps:=["place"]) (cix:=[4]) (q:="chains_told.<locals>.<lambda>") rfl rfl T.b_sorted TF.boot_sorted M9 TG9 (fun _=>rfl) (hr.mono (by decide)) (ZY ZZ (va 6) ZM) rfl (⟨rfl,rfl,rfl,by decide +kernel,rfl,by decide +kernel,by decide +kernel⟩:CloScope ["place","ranks"] ["place"] _) (⟨rfl,rfl,rfl,by decide +kernel,by decide +kernel⟩:CapS _ ["n","pairs","below","web","ranks","hueing","told"] (Zx UG).names ["place","ranks"] ["place"] [4] _) rfl (fun _ _ _ _ us hl=>match us,hl with | [_],_=>rfl) (fun base f c cl G A outer s H E hr=>(ZY ZZ (va 1) (va 0)))) (Zf (va 5) Zp))))))
 Yr))))))
noncomputable def ZcV:Zb->M Out:=(Zi (Ba (VT 1 2) (ZV (Zc (dC .non) (Zc (dC (.int 0)) Ze))))
 (Zi (Xc (Z4 (ZN Zcl (Zc (Z0 [none,none] (Z4 (Za 0)) (VT 0 1) Ya (ZV (Zc (Za 1) (Zc (Za 0) Ze)))) Ze))) (VT 3 4)
 (Zi (Y1 (VH (asB (Zd dIsN (Za 1) (dC .non))) (asB (Zd V5 (Za 4) (Za 1))))
 (Zi (sPar 1 2 (Zc (Za 3) (Zc (Zd YZ (Za 2) (dC (.int 1))) Ze)))
 Zt)
 Zt)
 Zt))
 (Zi (ZR (Za 2))
 Zt)))
noncomputable def Uc:List D->M D:=runB 5 1 ZcV
theorem ZaR:FnScope ["pieces","last","many","end","start"] ["pieces"] (Zx Zap):=YO
theorem Zcx (F:Fun K "_law_tapart" "_law_tapart" Zap kf jO)(T:Txt mg) :
  FnOk P w K mg base ZO 1 kf jO ["pieces"] (Yn 1 false Z6 Uc):=
 have jM:=ZaR.nd
 Xe (own:=[]) F ZaR fun cdv A outer s H E hr G hG=>
 (ZK (ZeB (Y7 (Zf Zii (Zf ZM Zp))) (BC rfl jM rfl rfl (qM rfl) (qM rfl) (by decide) (by decide) (hp:=WT (X1 jM rfl (qM rfl)) (WT (X1 jM rfl (qM rfl)) JJ))))
 (ZK (Wy (own:=[]) zo rfl (Wk.n (X7 (Vx Zcm rfl T.b_sorted TF.boot_sorted (Zf (XA (bk ["pieces","last","many","end","start"] (Zx Zap).names ["a","b"] [none,none]) (X7 (va 0)) (BC rfl (show(["a","b"]:List Str).Nodup by decide +kernel) rfl rfl (qM rfl) (qM rfl) rfl rfl (hp:=WT (X1 (show(["a","b"]:List Str).Nodup by decide +kernel) rfl (qM rfl)) (WT (X1 (show(["a","b"]:List Str).Nodup by decide +kernel) rfl (qM rfl)) JJ))) WD (Y7 (Zf (va 1) (Zf (va 0) Zp)))) Zp)))) (BC rfl jM rfl rfl (qM rfl) (qM rfl) (by decide) (by decide) (hp:=WT (X1 jM rfl (qM rfl)) (WT (X1 jM rfl (qM rfl)) JJ)))
 (ZK (UD (WM.pt (Zij (Xg (ZkA) (va 1) Zii) (Zgc (Xg (Zip) (va 4) (va 1)))))
 (ZK (Zka (own:=[]) rfl jM rfl rfl (by decide) (by decide) (by decide) rfl rfl (Zf (va 3) (Zf (Xt Ve (va 2) ZM) Zp)) (by with_unfolding_all rfl))
 Yr)
 YW)
 Yr))
 (ZK (Yz (va 2))
 Yr)))
theorem Zcy:FnScope ["piece","other"] ["piece","other"] (Zx Zds):=YO
theorem Zcz (F:Fun K "do_meet" "do_meet" Zds kf jO)(T:Txt mg) :
  FnOk P w K mg base ZO 1 kf jO ["piece","other"] (Yn 2 false Z6 JA):=
 have jM:=Zcy.nd
 Xe (own:=[]) F Zcy fun cdv A outer s H E hr G hG=>
 (ZK (Yz (Zl2 (Uq (Ziq hr.units0) (ZY ZZ (va 0) ZM) (ZY ZZ (va 1) ZM)) (Zik (Uq (Ziq hr.units0) (ZY ZZ (va 1) ZM) (ZY ZZ (va 0) ZM)))))
 Yr)
theorem Zau:FnScope ["pieces"] ["pieces"] (Zx ZaD):=YO
theorem ZbB (F:Fun K "web_of_pieces" "web_of_pieces" ZaD kf jO)(T:Txt mg)(jW:VF P w K mg 5 "web_where" 2 false (Vr P w K mg 4 2 Tl) Vb)(kE:CalG P w K mg 4 "do_meet" 2 JA) :
  FnOk P w K mg base ZO 6 kf jO ["pieces"] (Yn 1 false Z6 Jo):=
 have jM:=Zau.nd
 Xe (own:=[]) F Zau fun cdv A outer s H E hr G hG=>
 (ZK (Yz (ZfB (kl:=4) (T:=Tl) (t:=2) (jW.mono) kE rfl (fun _=>rfl) hr rfl rfl (va 0)))
 Yr)
noncomputable def Zjq:Zb->M Out:=(Zi (Xc (Yb (dC (.int 4))) (Zy 2)
 (Zi (ZW 3 (UW (Zq Jq (Zc (Za 1) (Zc (YH (Zc (dC (.int 0)) (Zc (dC (.int (-5))) (Zc (Zd WK (dC (.int 10)) (dC (.int 59))) (Zc (dNeg (Zd WK (dC (.int 10)) (dC (.int 58)))) Ze))))) Ze))) ZiG (ZiH (dC (.int 10)))))
 (Zi (ZW 4 (ZN YC (Zc (Za 3) Ze)))
 (Zi (Vp 5 (YH Ze))
 (Zi (Xc (Yb (Za 4)) (Zy 6)
 (Zi (J8 5 (fun ρ=>(Z0 [none,some 6,some 3] (Yb (Za 4)) (Zy 0) (asB (Zd Jj (Zd Zl (Zd Zl (Za 2) (Za 1)) (dC (.int 1))) (Zd Zl (Zd Zl (Za 2) (Za 0)) (dC (.int 0))))) (ZV (Zc (Za 1) (Zc (Za 0) Ze)))) (Z8 [5] ρ)))
 Zt))
 (Zi (ZW 7 (fun ρ=>(Zq Jo (Zc (Za 3) Ze)) (Z8 [5] ρ)))
 (Zi (Y1 (asB (Zd XB (Zq Bn (Zc (Za 4) (Zc (Za 5) Ze))) (Zq Vc (Zc (Za 7) Ze))))
 (Zi (ZR (dC (.bl false)))
 Zt)
 Zt)
 (Zi (Ba (Zls 8 9 10) (Zq Bo (Zc (Za 4) (Zc (Za 5) Ze))))
 (Zi (Y1 (VH (asB (Zd XB (Za 8) (Zq Uc (Zc (Za 3) Ze)))) (asB (Zd XB (Zd Zl (Zq VB (Zc (Zq Vc (Zc (Za 7) Ze)) Ze)) (dC (.int 0))) (Za 8))))
 (Zi (ZR (dC (.bl false)))
 Zt)
 Zt)
 (Zi (Xc (Zgo (Za 9) (UW (Za 9) (ZiH (dC (.int 1))) ZiG)) (VT 6 11)
 (Zi (Y1 (asB (Zd dGt (Zd Zl (Zd Zl (Za 3) (Za 6)) (dC (.int 1))) (Zd Zl (Zd Zl (Za 3) (Za 11)) (dC (.int 0)))))
 (Zi (ZR (dC (.bl false)))
 Zt)
 Zt)
 Zt))
 Zt))))))))))
 (Zi (ZR (dC (.bl true)))
 Zt))
theorem ZfT:FnScope ["script","pen","turn","pieces","n","pairs","a","web","many","chain","hues","b"] ["script"] (Zx s_law):=YO
theorem ZkI {cdv:Value}{A:Around}{outer:List Env}{s:Shared}{H:Hp}{E:XK}{L:List (Addr×Str)}(lo:Wt L)(T:Txt mg)(hr:Room 56 (A.deeper (envOfC "law" (Zx s_law) s.heap.objs.size kf cdv)))(kc:ZT P w K mg base 1 "_law_tapart" 1 false Z6 Uc)(ka:ZT P w K mg base 2 "_law_tpieces" 2 true (W7 Vs L) Jq)(kd:ZT P w K mg base 56 "chains_told" 2 false (YB L) Bo)(kC:ZT P w K mg base 55 "most" 1 true (YB L) VB)(kh:ZT P w K mg base 6 "turned" 1 false (YB L) Vc)(kb:ZT P w K mg base 7 "web_of_order" 2 false (YB L) Bn)(j6:ZT P w K mg base 6 "web_of_pieces" 1 false Z6 Jo)(G:Gh)(hG:(W7 Vs L) G) :
  XV (WI ZO P w K mg base ["script","pen","turn","pieces","n","pairs","a","web","many","chain","hues","b"] "law" (Zx s_law) kf cdv A outer s H E).nox G [] [] [] false ((X8 s_law).drop 1) Zjq:=
 have jM:=ZfT.nd;have hT:YB L G:=jA lo hG
 (ZK (Wy (own:=[]) zo rfl (VJ rfl T.b_range ZM) (WU jM rfl (qM rfl) (by decide))
 (ZK (Y3 (YF jM rfl (yk rfl) (ZeA (Z2 (ka.mono) hG hr (Zf (va 1) (Zf (WX (Zf ZM (Zf ZiJ (Zf (Xt JN ZM ZM) (Zf (ZkC (Xt JN ZM ZM)) Zp))))) Zp))) Zey (Zez ZM))))
 (ZK (Y3 (YF jM rfl (qM rfl) (WP T.b_len (Zf (va 3) Zp))))
 (Yy (own2:=[5]) (JG (YF jM rfl (qM rfl) (WX Zp)))
 (Yy (own2:=[5]) (Wy (own:=[5]) zo rfl (VJ rfl T.b_range (va 4)) (WU jM rfl (yk rfl) (by decide))
 (Yy (own2:=[5]) (Zjg (own:=[5]) (i:=5) (by decide) (pv 5) (XA (bk ["script","pen","turn","pieces","n","pairs","a","web","many","chain","hues","b"] (Zx s_law).names ["b","a","pieces"] [none,some 6,some 3]) (VL rfl T.b_range (va 4)) Xk (VC (Xg (Zio) (ZY ZZ (ZY ZZ (va 2) (va 1)) ZM) (ZY ZZ (ZY ZZ (va 2) (va 0)) ZM))) (Y7 (Zf (va 1) (Zf (va 0) Zp)))))
 (YW (own:=[5]))))
 (Yy (own2:=[5]) (Zej (own:=[5]) (YF jM rfl (qM rfl) (Z2 (j6.mono) trivial hr (Zf (va 3) Zp))))
 (ZK (Yx.frz (own:=[5]) (own2:=[]) (UD (Xg (JT hr.units) (Z2 (kb.mono) hT hr (Zf (va 4) (Zf (va 5) Zp))) (Z2 (kh.mono) hT hr (Zf (va 7) Zp)))
 (ZK (Yz (PD.weak VS))
 Yr)
 YW))
 (ZK (ZeB (Z2 (kd.mono) hT hr (Zf (va 4) (Zf (va 5) Zp))) (Zjf rfl (by decide) (by decide) (by decide) (hp:=WT (X1 jM rfl (qM rfl)) (WT (X1 jM rfl (qM rfl)) (WT (X1 jM rfl (qM rfl)) JJ)))))
 (ZK (UD (WM.pt (Zij (Xg (JT hr.units) (va 8) (Z2 (kc.mono) trivial hr (Zf (va 3) Zp))) (Zgc (Xg (JT hr.units) (ZY ZZ (Z2 (kC.mono) hT hr (Zf (Z2 (kh.mono) hT hr (Zf (va 7) Zp)) Zp)) ZM) (va 8)))))
 (ZK (Yz (PD.weak VS))
 Yr)
 YW)
 (ZK (Wy (own:=[]) zo rfl (Wk.n (Zi4 rfl T.b_zip (va 9) (ZeA (va 9) (Zez ZM) Zey))) (BC rfl jM rfl rfl (yk rfl) (qM rfl) (by decide) (by decide) (hp:=WT (X1 jM rfl (yk rfl)) (WT (X1 jM rfl (qM rfl)) JJ)))
 (ZK (UD (Xg (Zl5) (ZY ZZ (ZY ZZ (va 3) (va 6)) ZM) (ZY ZZ (ZY ZZ (va 3) (va 11)) ZM))
 (ZK (Yz (PD.weak VS))
 Yr)
 YW)
 Yr))
 Yr))))))))))
 (ZK (Yz (PD.weak VS))
 Yr))
end K56
namespace K56
open L2 TF TQ
open TP
open TP2
open TP3
theorem Za1:FnScope ["pen","many","found","one","two"] ["pen","many"] (Zx Zbi):=⟨rfl,rfl,rfl,by decide +kernel,rfl,by decide +kernel,by decide +kernel⟩
set_option maxHeartbeats 4000000 in
theorem ZcW {P:Program}{w:World}{K:qf}{mg:Str->Option Value}{base:Heap}{kf:Addr}{jO:FuncData}(F:Fun K "_law_tdraw" "_law_tdraw" Zbi kf jO)(T:Txt mg) :
  FnOk P w K mg base ZO 1 kf jO ["pen","many"] (Yn 2 true Vs Yf):=by
 have nd:=Za1.nd;refine F.ok Za1 (fun vs H Q E h=>?_) fun cdv A outer s0 H vs Q E hr h=>?_
 ·obtain⟨G,Hf,ds,pn,d,pn',_,e,_⟩:=h
  exact e
 ·obtain⟨p,m,rfl,hs⟩:=Zhe (K:=K) (N:=fun _ H'=>Q .non H') h
  have hu:=L2.hu_of hr;refine⟨_,WS (ZhX (PW.pt (ZhU (JK Zh5 (ZbT Zav rfl T.b_len TF.boot_len (Y4 (Wm hu (pv 0) XQ (fun _ _=>rfl)) Xs)) YK (US _)) (Zf4 (JK Zk4 (B1 BI (Wm hu (pv 0) XQ (fun _ _=>rfl)) YK (fun _ _=>rfl)) (pv 1) (US _)))))
    (JI (ZdE (B2 yy PySem.F.slot_list_pop PySem.F.type_list_pop Zic (Wm hu (pv 0) XQ (fun _ _=>rfl)) (Y4 YK Xs)))) ZdD)
   (WS (ZhX (JK Zh5 (ZbT Zav rfl T.b_len TF.boot_len (Y4 (Wm hu (pv 0) XQ (fun _ _=>rfl)) Xs)) YK (US _))
    (WS (Um (i:=2) nd rfl (qM rfl) (YR Up (B1 BI (Wm hu (pv 0) XQ (fun _ _=>rfl)) YK (fun _ _=>rfl)) (pv 1)))
    (WS (Ze6 (YR Zf5 (B1 BI (Wm hu (pv 0) XQ (fun _ _=>rfl)) YK (fun _ _=>rfl)) (pv 1)) (ZhZ (Wm hu (pv 0) XQ (fun _ _=>rfl)) YK Zd9))
    (JI (JO (pv 2))))) ZdD)
   (WS (ZdI hu (pv 0) XQ (YR VO (Wm hu (pv 0) XQ (fun _ _=>rfl)) YK) rfl)
   (WS (Um (i:=3) nd rfl (qM rfl) (YR Up (YR VO (Wm hu (pv 0) XQ (fun _ _=>rfl)) (YR Uo (YR Uo YK (Wm hu (pv 0) XQ (fun _ _=>rfl))) (Wm hu (pv 0) XQ (fun _ _=>rfl)))) YK))
   (WS (Um (i:=4) nd rfl (qM rfl) (YR Up (YR VO (YR VO (YR Uo (pv 3) (pv 3)) (YR Uo YK (Wm hu (pv 0) XQ (fun _ _=>rfl)))) YK) YK))
   (JI (JO (YR Up (YR Zf5 (YR Up (YR VO (YR Uo (pv 4) (pv 4)) (pv 3)) YK) YK) (pv 1)))))))),hs⟩
theorem Zbm:FnScope ["script","mixed","cell"] ["script"] (Zx ZaL):=⟨rfl,rfl,rfl,by decide +kernel,rfl,by decide +kernel,by decide +kernel⟩
set_option maxHeartbeats 4000000 in
theorem ZdZ {P:Program}{w:World}{K:qf}{mg:Str->Option Value}{base:Heap}{kf:Addr}{jO:FuncData}(F:Fun K "_law_tpen" "_law_tpen" ZaL kf jO)(T:Txt mg) :
  FnOk P w K mg base ZO 1 kf jO ["script"] (Zli K):=by
 have nd:=Zbm.nd;refine F.ok Zbm (fun vs H Q E h=>?_) fun cdv A outer s0 H vs Q E hr h=>?_
 ·obtain⟨a,ns,rfl,_⟩:=h
  rfl
 ·obtain⟨a,ns,rfl,hsq⟩:=id h
  refine⟨_,WS (Um (i:=1) nd rfl (qM rfl) YK)
   (WS (Zh2 zo rfl (ZdF (pv 0)) (X1 (i:=2) nd rfl (qM rfl)) (JI (Um (i:=1) nd rfl (qM rfl) (YR Up (YR VO (YR VO (YR Uo (pv 1) YK) (YR Up (pv 2) YK)) YK) YK))))
   (JI (JO (Zj5 (ZbY XQ (pv 1) (ZbY XQ YK (ZbY XQ
    (ZiO (N':=["cell"]) (src:=[none]) rfl (⟨rfl,rfl,by decide +kernel,rfl,by decide +kernel,rfl,by decide +kernel,by decide +kernel⟩:BlkS _ ["script","mixed","cell"] (Zx ZaL).names ["cell"] [none] _) (ZdF (pv 0)) (fun _ _ _ _ _ _=>X1 (i:=0) (show(["cell"]:List Str).Nodup by decide +kernel) rfl (qM rfl)) (fun _ _ _ _ _ _=>Zeg (JK Zk5 (pv 0) (YR Zh3 YK YK) (US _))) (fun _ _ _ _ _ _=>pv 0)) Zj4))) rfl rfl (by simp) (by decide))))),Zkw hsq.1 hsq.2.1 hsq.2.2⟩
end K56
namespace TF
open L2
theorem ux0 {α:Type}(us:List α)(e:us.length=0):us=[]:=by cases us with | nil=>rfl | cons=>cases e
theorem ux1 {α:Type}(us:List α)(e:us.length=1):∃a,us=[a]:=by
 cases us with | nil=>cases e | cons a r=>cases ux0 r (qa3 e);exact⟨a,rfl⟩
theorem ux2 {α:Type}(us:List α)(e:us.length=2):∃a b,us=[a,b]:=by
 cases us with | nil=>cases e | cons a r=>obtain⟨b,rfl⟩:=ux1 r (qa3 e);exact⟨a,b,rfl⟩
theorem ux3 {α:Type}(us:List α)(e:us.length=3):∃a b c,us=[a,b,c]:=by
 cases us with | nil=>cases e | cons a r=>obtain⟨b,c,rfl⟩:=ux2 r (qa3 e);exact⟨a,b,c,rfl⟩
theorem ux4 {α:Type}(us:List α)(e:us.length=4):∃a b c d,us=[a,b,c,d]:=by
 cases us with | nil=>cases e | cons a r=>obtain⟨b,c,d,rfl⟩:=ux3 r (qa3 e);exact⟨a,b,c,d,rfl⟩
noncomputable def IsC (K:qf)(x:Str)(st:Stmt)(c:Addr):Prop:=∃(f:Addr) (fd:FuncData),qa4 K mainGlobals x=some (some (.ref f))/\Fun K x x st f fd/\fd.code=.ref c
noncomputable def fnO (x:Str)(st:Stmt)(pm:Value)(c:Addr):Obj:=⟨.type "function",none,.func (zW x x (Wx st) (X8 st) (Zx st) .none .none .none pm none (.ref c) .none),#[]⟩
noncomputable def cdO (x:Str)(t:Nat)(ln ac:Int)(a:Addr)(tx k:Nat)(v:Bool):Obj:=
 ⟨.type "code",none,.fields #[.str x t,.str x (t+1),.str "/claim/cut.py" (t+2),.int ln 0,.int ac 0,.int 0 0,.int 0 0,.int 3 0,.ref a,.bool true,.int tx 0,.ref (a+1),.none,
  (match v with | true=>.ref (a+2) | false=>.none),(match v with | true=>.ref (a+3) | false=>.none),.ref (match v with | true=>a+4 | false=>a+2),.int k 0,.int ln 0,.str "/claim/cut.py" (k+1)],#[]⟩
structure DRow where
 x:Str
 i:Nat
 t:Nat
 ln:Int
 ac:Int
 a:Addr
 k:Nat
 v:Bool
 pm:Str
 pt:Nat
noncomputable def DRow.c (r:DRow):Addr:=match r.v with | true=>r.a+5 | false=>r.a+3
noncomputable def dE (P:Params)(x:Str)(t:Nat)(v:Value):DictEntry:=⟨PyData.keyHash P x,.str x t,v⟩
noncomputable abbrev nE (x:Str)(t:Nat)(a:Addr):Str×Nat×Addr:=(x,t,a)
noncomputable abbrev dR (x:Str)(i t:Nat)(ln ac:Int)(a:Addr)(k:Nat)(v:Bool)(pm:Str)(pt:Nat):DRow:=⟨x,i,t,ln,ac,a,k,v,pm,pt⟩
noncomputable def dRs (P:Params)(l:List (Str×Nat×Addr)):List DictEntry:=l.map fun e=>dE P e.1 e.2.1 (.ref e.2.2)
noncomputable def Znd (Z5:Nat->Stmt)(tx:Nat)(m:List DictEntry)(n:Nat)(rs:List DRow):qf:=
 (mainNs,⟨.type "dict",none,.dict m.toArray n,#[]⟩)::rs.flatMap fun r=>[(r.c,cdO r.x r.t r.ln r.ac r.a tx r.k r.v),(r.c+1,fnO r.x (Z5 r.i) (.str r.pm r.pt) r.c)]
theorem Zne {K:qf}{x:Str}{st:Stmt}{pm:Value}{c f:Addr}(a:qa4 K mainGlobals x=some (some (.ref f)))(l:K.lookup f=some (fnO x st pm c))(cd:yZ K (.ref c) x=true):IsC K x st c:=
 ⟨f,_,a,Zl0 l cd (by unfold zR;dsimp only;rw[l];rfl),rfl⟩
theorem _root_.L2.Fun.lk {K:qf}{x q:Str}{st:Stmt}{f:Addr}{fd:FuncData}(F:Fun K x q st f fd):∃oc od osl,K.lookup f=some ⟨oc,od,.func fd,osl⟩:=by
 obtain⟨oc,od,kV,doc,pm,an,cdv,ct,osl,rfl,lk,hcd⟩:=F.ex;exact⟨_,_,_,lk⟩
noncomputable def Zmq:Stmt->Pos
 | .FunctionDef _ _ _ _ _ _ _ _ _ p=>p
 | _=>⟨0,0,0,0⟩
noncomputable abbrev ZfU (st:Stmt):DefRec:=⟨"law",Wx st,X8 st,Zx st,Zmq st⟩
theorem head_of {l:PySem.W.OpenLaw}{q:Program}{K:Params->qf}{as:List Addr}{e:∀P,as=(K P).map (·.1)}{N:Nat}{st:Stmt}(said:l.wellSaid=true)
  (left:PySem.W.LeftO l.prog q [] (fun s=>PySem.W.xlAt q [] s&&PySem.W.recOk l.row.records s) (yB K as e).obs (yB K as e).val N)
  (hdef:PySem.W.defOf q l.row.name=some (ZfU st,[])) (hp:l.row.prog.theDef l.row.name=some (Wx st,X8 st,Zx st))
  (hk:PySem.W.kwWritten? (Wx st).kwonlyargs (Wx st).kw_defaults=some [])
  (ok:(PySem.W.chainsOk q&&PySem.W.opensWell l.row.prog&&(PySem.W.frees l.row.toRowW&&l.row.within.isEmpty))=true) (hb:l.row.prog.bare) (hw:l.row.toRowW.promised) (hwr:(!l.row.writes||l.row.records.isEmpty)=true)
  (call:qbz q [] (PySem.W.XL q []) (yB K as e).says l.row.toRowW (ZfU st) [] fun f vs=>qbv f vs):l.Holds:=
 PySem.W.holds_law said fun sd=>PySem.W.holds_open left (yB K as e).of (yB K as e).keeps (fun s z=>PySem.W.xl_of s (zS.mp z).1) PySem.W.XL.keeps hdef hp hk (fun s z=>PySem.W.recFacts_of (zS.mp z).2) hwr sd ok hb hw call
noncomputable def AtR (K:qf)(mg:Str->Option Value)(Z5:Nat->Stmt)(r:DRow):Prop:=∃(f:Addr) (fd:FuncData),Fun K r.x r.x (Z5 r.i) f fd/\mg r.x=some (.ref f)/\fd.code=.ref r.c
noncomputable def Zlw (K:qf)(Z5:Nat->Stmt)(r:DRow):Prop:=qa4 K mainGlobals r.x=some (some (.ref (r.c+1)))/\K.lookup (r.c+1)=some (fnO r.x (Z5 r.i) (.str r.pm r.pt) r.c)/\yZ K (.ref r.c) r.x=true
noncomputable def BZ (K:qf)(Z5:Nat->Stmt):List DRow->Prop
 | []=>True
 | r::l=>Zlw K Z5 r/\BZ K Z5 l
theorem ZeV {K:qf}{Z5:Nat->Stmt}:∀{l:List DRow} {j:Nat} {r:DRow},BZ K Z5 l->l[j]?=some r->Zlw K Z5 r
 | _::_,0,_,h,e=>by cases e;exact h.1
 | _::l,j+1,_,h,e=>ZeV (l:=l) h.2 e
theorem Zmr {K:qf}{h:Heap}{mg:Str->Option Value}{Z5:Nat->Stmt}{l:List DRow}(ok:BZ K Z5 l)(X:K.In h)(G:h.Ns mainGlobals mg)(j:Nat){r:DRow}(e:l[j]?=some r:=by rfl):AtR K mg Z5 r:=by
 obtain⟨a,b,c⟩:=ZeV ok e;obtain⟨f,fd,a,F,d⟩:=Zne a b c;exact⟨f,fd,F,PySem.W.mg_of X G a,d⟩
theorem bdc {K:qf}{x:Str}{st:Stmt}{f:Addr}{fd:FuncData}(ps:List Str)(F:Fun K x x st f fd)
  (h:∀(kV doc pm:Value) (an:Option Addr) (cdv ct:Value) (us:List Value),us.length=ps.length->bindArgs (zW x x (Wx st) (X8 st) (Zx st) .none kV doc pm an cdv ct) ⟨us,[]⟩=pure (ps.zip us):=by
   intro _ _ _ _ _ _ us hl
   first
    | (obtain⟨_,rfl⟩:=TF.ux1 us hl;rfl)
    | (obtain⟨_,_,rfl⟩:=TF.ux2 us hl;rfl)
    | (obtain⟨_,_,_,rfl⟩:=TF.ux3 us hl;rfl)
    | (obtain⟨_,_,_,_,rfl⟩:=TF.ux4 us hl;rfl)
    | (obtain⟨_,_,_,_,_,rfl⟩:=TF.ux5 us hl;rfl)
    | (obtain⟨_,_,_,_,_,_,rfl⟩:=TF.ux6 us hl;rfl)
    | (obtain⟨_,_,_,_,_,_,_,rfl⟩:=TF.ux7 us hl;rfl)
    | (obtain rfl:=TF.ux0 us hl;rfl)):Xz K fd ps []:=F.binds h
theorem mkc {P:Program}{w:World}{K:qf}{mg:Str->Option Value}(base:Heap){x:Str}{st:Stmt}{f:Addr}{fd:FuncData}{k n:Nat}{ps:List Str}{fr:Bool}{GG:Gh->Prop}{F9:List D->M D}(F:Fun K x x st f fd)(m:mg x=some (.ref f))(ok:FnOk P w K mg base ZO k f fd ps (Yn n fr GG F9))
  (h:∀(kV doc pm:Value) (an:Option Addr) (cdv ct:Value) (us:List Value),us.length=ps.length->bindArgs (zW x x (Wx st) (X8 st) (Zx st) .none kV doc pm an cdv ct) ⟨us,[]⟩=pure (ps.zip us):=by
   intro _ _ _ _ _ _ us hl
   first
    | (obtain⟨_,rfl⟩:=TF.ux1 us hl;rfl)
    | (obtain⟨_,_,rfl⟩:=TF.ux2 us hl;rfl)
    | (obtain⟨_,_,_,rfl⟩:=TF.ux3 us hl;rfl)
    | (obtain⟨_,_,_,_,rfl⟩:=TF.ux4 us hl;rfl)
    | (obtain⟨_,_,_,_,_,rfl⟩:=TF.ux5 us hl;rfl)
    | (obtain⟨_,_,_,_,_,_,rfl⟩:=TF.ux6 us hl;rfl)
    | (obtain⟨_,_,_,_,_,_,_,rfl⟩:=TF.ux7 us hl;rfl)
    | (obtain rfl:=TF.ux0 us hl;rfl)):ZT P w K mg base k x n fr GG F9:=⟨f,fd,ps,ok,m,F.kp,F.binds h⟩
end TF
namespace TP2
open L2 TF TP
end TP2
namespace TP2
open L2 TF TP
noncomputable abbrev nD (i:Nat):D:=.int (i:Int)
noncomputable def XE (k:List Nat):D:=.tup (k.map nD)
noncomputable def okK (jK:List (Nat×Nat))(i:Nat)(k:List Nat):Bool:=k.all fun o=>decide ((o,i)∈jK)
noncomputable def kn (jK:List (Nat×Nat)):Nat->List (List Nat)
 | 0=>[[]]
 | i+1=>kn jK i++((kn jK i).filter (okK jK i)).map (· ++ [i])
theorem Zjr (p:Nat×Nat)(jK:List (Nat×Nat)):Yq (ZJ p) (.dt (ZU [] jK))=some (.bl (decide (p∈jK))):=by
 have e:VZ (ZJ p) (.dt (ZU [] jK))=some (decide (p∈jK)):=by
  show(YY [.int (p.1:Int),.int (p.2:Int)]).map (fun k=>(ZQ (ZU [] jK) k).isSome)=_;show some ((ZQ (ZU [] jK) (XC p)).isSome)=_;rw[Zev];simp[ZQ]
 unfold Yq;rw[e];rfl
noncomputable def Yg (n:Nat)(jK:List (Nat×Nat))(p:Nat):List Nat:=(qm n).filter fun o=>tied jK p o
noncomputable def Vi (n:Nat)(jK:List (Nat×Nat)):D:=.lst ((qm n).map fun p=>.lst ((Yg n jK p).map nD))
theorem Zms (a b:Nat):ZE (nD a) (nD b)=decide (a=b):=by
 show((a:Int)==(b:Int))=_;rw[yg,beq_iff_eq,decide_eq_true_eq];constructor <;> intro h <;> omega
theorem Zjs (o:Nat)(l:List Nat):Va (nD o) (l.map nD)=decide (o∈l):=by
 unfold Va
 induction l with
 | nil=>simp
 | cons t ts ih=>
  rw[zi,yK,ih,Zms];by_cases h:t=o
  ·subst h;simp
  ·have:¬o=t:=fun z=>h z.symm
   simp[h,this]
theorem ZcA (l:List Nat):Yv (l.map nD)=true:=by
 induction l with
 | nil=>simp[Yv]
 | cons a l ih=>simp[Yv,Zn,ih]
theorem Zgw (l:List Nat):Xv (l.map nD)=0:=by
 induction l with
 | nil=>simp[Xv]
 | cons a l ih=>simp[Xv,Yc,ih]
theorem Zjt (o:Nat)(l:List Nat):Yq (nD o) (.lst (l.map nD))=some (.bl (decide (o∈l))):=by
 have h:W5 (nD o) (l.map nD)=true:=by simp[W5,Zn,ZcA,Yc,Zgw]
 simp only[Yq,VZ,h,if_true,Option.map,Zjs]
end TP2
namespace TP2
open L2 TF TP
noncomputable def Vu (l:List Nat):Nat:=l.foldl max 0
theorem Zd0 (l:List Nat):∀a,a<=l.foldl max a/\∀x∈l,x<=l.foldl max a:=by
 induction l with
 | nil=>intro a;simp
 | cons b l ih=>
  intro a;obtain⟨h1,h2⟩:=ih (max a b);refine⟨?_,fun x hx=>?_⟩
  ·show a<=l.foldl max (max a b);omega
  ·show x<=l.foldl max (max a b)
   rcases qt.mp hx with rfl | hx
   ·omega
   ·exact h2 x hx
theorem Zju (l:List Nat):∀a:Nat,Xw (a:Int) (l.map fun(i:Nat)=>(i:Int))=((l.foldl max a:Nat):Int):=by
 induction l with
 | nil=>intro a;rfl
 | cons b l ih=>
  intro a;show Xw (max (a:Int) (b:Int)) (l.map fun(i:Nat)=>(i:Int))=_;rw[show max (a:Int) (b:Int)=((max a b:Nat):Int) by omega,ih];rfl
theorem ZaS (l:List Nat):ZH (l.map nD)=some (l.map fun(i:Nat)=>(i:Int)):=by
 have:=Jx (l.map fun(i:Nat)=>(i:Int));rw[qD] at this;exact this
end TP2
namespace TP2
open L2 TF TP
theorem Zdu {α:Type}(q:α->Bool):∀l:List α,l.length=(l.filter q).length+(l.filter fun x=>!q x).length
 | []=>rfl
 | a::l=>by
  have:=Zdu q l
  cases h:q a with
  | true=>simp[List.filter_cons,h];omega
  | false=>simp[List.filter_cons,h];omega
end TP2
namespace TP2
open L2 TF TP
noncomputable def RT (jK:List (Nat×Nat))(a b:Nat):Prop:=a<b/\(a,b)∈jK
theorem JU {jK:List (Nat×Nat)}:∀{n:Nat} {k:List Nat},k∈kn jK n↔k.Pairwise (RT jK)/\∀o∈k,o<n
 | 0,k=>by
  constructor
  ·intro h
   have:k=[]:=by simpa[kn] using h
   subst this;exact⟨.nil,by simp⟩
  ·rintro⟨_,h⟩
   cases k with
   | nil=>simp[kn]
   | cons a k=>exact absurd (h a (by simp)) (by omega)
 | n+1,k=>by
  rw[kn,qV];constructor
  ·rintro(h | h)
   ·have:=JU.mp h
    exact⟨this.1,fun o ho=>qaR (this.2 o ho)⟩
   ·obtain⟨q,hq,rfl⟩:=qK.mp h
    obtain⟨hq1,hq2⟩:=qC.mp hq;have:=JU.mp hq1;unfold okK at hq2;rw[zV] at hq2;refine⟨yJ.mpr ⟨this.1,by simp,fun a ha b hb=>?_⟩,fun o ho=>?_⟩
    ·rw[zf.mp hb]
     exact⟨this.2 a ha,by simpa using hq2 a ha⟩
    ·rcases qV.mp ho with ho | ho
     ·exact qaR (this.2 o ho)
     ·rw[zf.mp ho];omega
  ·rintro⟨h1,h2⟩
   by_cases hn:n∈k
   ·right
    obtain⟨a,b,rfl⟩:=List.append_of_mem hn;have hp:=yJ.mp h1;have hb:b=[]:=by
     cases b with
     | nil=>rfl
     | cons y b=>
      have r1:=(zP.mp hp.2.1).1 y (by simp);have:=h2 y (by simp);have:=r1.1;omega
    subst hb;have ha:∀o∈a,RT jK o n:=fun o ho=>hp.2.2 o ho n (by simp);refine qK.mpr ⟨a,qC.mpr ⟨JU.mpr ⟨hp.1,fun o ho=>(ha o ho).1⟩,?_⟩,rfl⟩;unfold okK;rw[zV];exact fun o ho=>by simpa using(ha o ho).2
   ·left
    refine JU.mpr ⟨h1,fun o ho=>?_⟩;have:=h2 o ho;have:o≠n:=fun z=>hn (z▸ho);omega
theorem Zjv {R:Nat->Nat->Prop}{k:List Nat}(hr:k.Pairwise (· < ·))(h:k.Pairwise R){a b:Nat}(ha:a∈k)(hb:b∈k)(hab:a<b):R a b:=by
 obtain⟨i,hi,rfl⟩:=qbG ha;obtain⟨j,hj,rfl⟩:=qbG hb;have p1:=zt.mp hr;have p2:=zt.mp h;rcases qaS i j with z | z | z
 ·exact p2 i j hi hj z
 ·subst z;exact absurd hab (z6 _)
 ·have:=p1 j i hj hi z;omega
end TP2
namespace TP3
open L2 TF TP TS
open TP2
theorem ZhB {α:Type}(l:List α)(p:α->Bool):Ja [.lst (l.map fun x=>D.bl (p x))]=some (.bl (l.any p)):=by
 show(Y5 _).map _=_;rw[show l.map (fun x=>D.bl (p x))=(l.map p).map D.bl by rw[qD];rfl,Zen];show some (D.bl _)=some (D.bl _);rw[List.any_map];rfl
noncomputable def WH (k:List Nat):List Int:=k.map fun(x:Nat)=>(x:Int)
end TP3
namespace TP3
open L2 TF TP TS
open TP2
theorem Ul {n:Nat}{jK:List (Nat×Nat)}{k:List Nat}:k∈kn jK n↔k.Pairwise (· < ·)/\(∀o∈k,o<n)/\∀a∈k,∀b∈k,a≠b->tied jK a b=true:=by
 rw[JU];constructor
 ·rintro⟨h1,h2⟩
  have hr:k.Pairwise (· < ·):=h1.imp fun h=>h.1;refine⟨hr,h2,fun a ha b hb hab=>?_⟩;by_cases hlt:a<b
  ·rw[UQ hlt];simpa using(Zjv hr h1 ha hb hlt).2
  ·have hlt:b<a:=by omega
   rw[Zbu,UQ hlt];simpa using(Zjv hr h1 hb ha hlt).2
 ·rintro⟨hr,h2,h3⟩
  refine⟨?_,h2⟩;refine zZ (fun {a b} ha hb hab=>?_) hr;refine⟨hab,?_⟩;have:=h3 a ha b hb (by omega);rw[UQ hab] at this;simpa using this
theorem Bx (n:Nat):(qm n).Pairwise (· < ·):=List.pairwise_lt_range
theorem Za9 {k:List Nat}(h:k.Pairwise (· < ·)):k.Nodup:=h.imp fun h=>by omega
section
variable {m n:Nat}{f:Nat->Nat}{tm tn:List (Nat×Nat)}
theorem UN {α:Type}[BEq α][LawfulBEq α]:∀{a b:List α},a.Nodup->(∀x∈a,x∈b)->a.length<=b.length
 | [],_,_,_=>by simp
 | x::a,b,nd,h=>by
  have nd':=zI.mp nd;have hx:=h x (by simp);have ih:=UN (a:=a) (b:=b.erase x) nd'.2 fun y hy=>(List.mem_erase_of_ne (fun(z:y=x)=>nd'.1 (by rw[<-z];exact hy))).mpr (h y (by simp[hy]));have:=List.length_erase_of_mem hx;have:0<b.length:=List.length_pos_of_mem hx;simp only[qT];omega
theorem ZkJ {l:List Nat}(h:∃r,l=0::r):Vu l∈l:=by
 have key:∀(l:List Nat) (a:Nat),l.foldl max a=a∨l.foldl max a∈l:=by
  intro l
  induction l with
  | nil=>intro a;exact .inl rfl
  | cons b l ih=>
   intro a;show l.foldl max (max a b)=a∨l.foldl max (max a b)∈b::l;rcases ih (max a b) with e | e
   ·rcases Nat.le_total a b with h | h
    ·right;rw[e,Nat.max_eq_right h];simp
    ·left;rw[e,Nat.max_eq_left h]
   ·right;exact qQ _ e
 obtain⟨r,rfl⟩:=h;rcases key (0::r) 0 with e | e
 ·unfold Vu;rw[e];simp
 ·exact e
theorem Zmt {l:List Nat}{x:Nat}(h:x∈l):x<=Vu l:=(Zd0 l 0).2 x h
end
end TP3
namespace TP3
open L2 TF TP TS
open TP2
theorem Zbn (jK:List (Nat×Nat))(a b:Nat)(s:Pn):WR [.dt (ZU [] jK),.int a,.int b] s=some (.bl (tied jK a b),s):=by
 simp[WR,Zcb,runB,Zi,ZR,Zt,Zd,ZN,Zc,Ze,ZV,Za,Zm,ZD,YN,B4,Zir,two_le,Zfy,Zjr,tied]
theorem Zgx {as:List Nat}{j:Nat}(hj:j<as.length):Xo (as.map nD) (j:Int)=some (nD (as.getD j 0)):=by
 refine Wl ?_;rw[qA,qH,qE hj];rfl
theorem ZhC (ps:List Nat):YC [.lst (ps.map nD)]=some (nD ps.length):=by
 show some (D.int ((ps.map nD).length:Nat))=_;rw[qj]
end TP3
namespace TP3
open L2 TF TP TS
open TP2
theorem ZkK {d:D}(h:Zn d=true)(hd:Yc d<=60):XB d d=some (.bl false):=by
 unfold XB Vq;rw[if_pos (by simp[h,hd]),Zb5 d h];rfl
end TP3
namespace TP3
open L2 TF TP TS
open TP2
noncomputable def VX (l:List Nat):List Nat:=(qm (l.length+1)).filter fun h=>!decide (h∈l)
theorem Zgy (l:List Nat):VX l≠[]:=fun h=>by
 have:=UN (a:=qm (l.length+1)) (b:=l) qar fun x hx=>by
  by_cases m:x∈l
  ·exact m
  ·have:x∈VX l:=qC.mpr ⟨hx,by simpa using m⟩
   rw[h] at this;simp at this
 rw[qW] at this;omega
noncomputable def XY (l:List Nat):Nat:=(VX l).headD 0
theorem ZeW (l:List Nat):XY l∉l/\∀x<XY l,x∈l:=by
 have hne:=Zgy l
 cases e:VX l with
 | nil=>exact absurd e hne
 | cons m r=>
  have hm:XY l=m:=by unfold XY;rw[e];rfl
  have h1:m∈VX l:=by rw[e];simp
  have h2:=qC.mp h1;rw[hm];refine⟨by simpa using h2.2,fun x hx=>?_⟩;by_cases mx:x∈l
  ·exact mx
  ·have hr:=qS.mp h2.1
   have h3:x∈VX l:=qC.mpr ⟨qS.mpr (by omega),by simpa using mx⟩;have h4:(VX l).Pairwise (· < ·):=(Bx _).sublist zv;rw[e] at h3 h4;rcases qt.mp h3 with z | z
   ·omega
   ·have:=(zP.mp h4).1 x z
    omega
theorem Zjw {l:List Nat}{m:Nat}(h1:m∉l)(h2:∀x<m,x∈l):m=XY l:=by
 obtain⟨g1,g2⟩:=ZeW l;rcases qaS m (XY l) with h | h | h
 ·exact absurd (g2 m h) h1
 ·exact h
 ·exact absurd (h2 _ h) g1
theorem Zdv {l l':List Nat}(h:∀x,x∈l↔x∈l'):XY l=XY l':=by
 obtain⟨g1,g2⟩:=ZeW l;exact Zjw (fun z=>g1 ((h _).mpr z)) fun x hx=>(h x).mp (g2 x hx)
theorem ZhD {n:Int}{r:List Int}(h:∀a∈r,n<=a):XD n r=n:=(ZeF (by simp) fun a ha=>by
 rcases qt.mp ha with rfl | ha
 ·exact qaD _
 ·exact h a ha).symm
theorem Zjx {l:List Nat}(hr:l.Pairwise (· < ·))(hn:l≠[]):Zjb [.lst (l.map nD)]=some (nD (l.headD 0)):=by
 cases l with
 | nil=>exact absurd rfl hn
 | cons m r=>
  have e:ZH ((m::r).map nD)=some ((m:Int)::r.map fun(i:Nat)=>(i:Int)):=ZaS (m::r);show(match ZH ((m::r).map nD) with | some (n::r)=>some (D.int (XD n r)) | _=>none)=_;rw[e];show some (D.int (XD (m:Int) (r.map fun(i:Nat)=>(i:Int))))=_;rw[ZhD fun a ha=>?_]
  ·rfl
  ·obtain⟨x,hx,rfl⟩:=qK.mp ha
   have:=(zP.mp hr).1 x hx;omega
theorem ZkL (l:List D):YC [.lst l]=some (nD l.length):=rfl
theorem ZeX (o:Nat)(l:List Nat):Vg (nD o) (.lst (l.map nD))=some (.bl (!decide (o∈l))):=by
 have h:=Zjt o l;unfold Yq at h;unfold Vg
 cases e:VZ (nD o) (.lst (l.map nD)) with
 | none=>rw[e] at h;cases h
 | some b=>
  rw[e] at h;have h:=qY h;have h:=D.bl.inj h;subst h;rfl
theorem ZcX (l:List Nat)(hl:l.length<=1000)(s:Pn):UH [.lst (l.map nD)] s=some (nD (XY l),s):=by
 have hc:=Xa (src:=[none,some 0]) (fi:=Yb (Zd YZ (ZN YC (Zc (Za 0) Ze)) (dC (.int 1)))) (τ:=Zy 0) (ft:=asB (Zd Vg (Za 0) (Za 1))) (fe:=Za 0) (ρ:=[some (.lst (l.map nD))]) (s:=s) (ds:=Z3 0 (l.length+1)) (fun d=>[some d,some (.lst (l.map nD))]) (fun d=>!decide (Yu d∈l)) (fun d=>d)
  (XZ (n:=l.length+1) (ZB (d:=nD l.length) (e:=.int 1) (YX (Zh rfl rfl) (by rw[ZkL,qj])) rfl rfl) (by omega)) (by rw[Y2,Ys];omega) (fun d hd=>by
  obtain⟨i,hi,rfl⟩:=VM hd;exact⟨rfl,Y8 (ZB (d:=nD i) (e:=.lst (l.map nD)) rfl rfl (ZeX i l)),fun _=>rfl⟩)
 rw[ZaH (l.length+1) fun h=>!decide (h∈l)] at hc;refine Xh rfl (Y6 (Xl (YX (Zh hc rfl) ?_)));exact Zjx (l:=VX l) ((Bx _).sublist zv) (Zgy l)
noncomputable def hr (jK:List (Nat×Nat)):List Nat->Nat->Nat
 | [],_=>0
 | p::qs,x=>if x=p then XY ((qs.filter fun o=>tied jK p o).map (hr jK qs)) else hr jK qs x
noncomputable def YE (qs:List Nat)(f:Nat->Nat):List (Zr×V):=qs.map fun(q:Nat)=>(zh (q:Int),V.int (f q))
theorem BQ {f:Nat->Nat}{x:Nat}:∀qs:List Nat,ZQ (YE qs f) (zh (x:Int))=if x∈qs then some (.int (f x)) else none
 | []=>rfl
 | q::qs=>by
  by_cases e:q=x
  ·subst e
   show ZQ ((zh (q:Int),V.int (f q))::YE qs f) _=_;rw[XJ rfl];simp
  ·have hn:¬((zh (q:Int):Zr)=zh (x:Int)):=fun z=>by
    have:=qbc z;omega
   show ZQ ((zh (q:Int),V.int (f q))::YE qs f) _=_;rw[XM hn,BQ qs];have:x≠q:=fun z=>e z.symm;simp[this]
theorem ZhE {f g:Nat->Nat}{qs:List Nat}(h:∀q∈qs,f q=g q):YE qs f=YE qs g:=zu fun q hq=>by rw[h q hq]
theorem Zmu (qs:List Nat)(f:Nat->Nat)(x:Nat):Yq (nD x) (.dk (YE qs f))=some (.bl (decide (x∈qs))):=by
 show((some (zh (x:Int):Zr)).map fun k=>(ZQ (YE qs f) k).isSome).map D.bl=_;simp only[zL];rw[BQ];by_cases h:x∈qs <;> simp[h]
theorem Zjy {qs:List Nat}{f:Nat->Nat}{x:Nat}(h:x∈qs):V1 (.dk (YE qs f)) (nD x)=some (nD (f x)):=by
 show(ZQ (YE qs f) (zh (x:Int))).bind vD=_;rw[BQ,if_pos h];rfl
theorem ZkM {qs:List Nat}{f:Nat->Nat}{p h:Nat}(hp:p∉qs):Z1 (YE qs f) (zh (p:Int)) (.int (h:Int))=YE (qs ++ [p]) fun x=>if x=p then h else f x:=by
 rw[Zed _ (by rw[BQ,if_neg hp])];have e:YE qs (fun x=>if x=p then h else f x)=YE qs f:=ZhE fun q hq=>if_neg fun(z:q=p)=>hp (z▸hq);show YE qs f++_=(qs ++ [p]).map _;rw[zY,<-e];show _++_=YE qs _ ++ [(zh (p:Int),V.int ((if p=p then h else f p:Nat):Int))];rw[if_pos rfl]
theorem ZbC {ps:List Nat}{k p:Nat}(h:ps[k]?=some p):ps.take (k+1)=ps.take k ++ [p]:=by
 obtain⟨hl,e⟩:=qB.mp h;rw[List.take_succ_eq_append_getElem hl,e]
theorem ZfV {ps:List Nat}{k p:Nat}(nd:ps.Nodup)(h:ps[k]?=some p):p∉ps.take k:=fun m=>by
 have h2:(ps.take (k+1)).Nodup:=nd.sublist (qaN _ _);rw[ZbC h] at h2;have:=(List.nodup_append.mp h2).2.2 p m p (by simp);exact this rfl
theorem ZkN {i:Nat}{fx fv:Zb->M D}{ρ:Zb}{s:Pn}{x v:D}{kvs:List (Zr×V)}{key:Zr}{w:V}(h1:fv ρ s=some (v,s))(h2:fx ρ s=some (x,s))(h3:(ρ[i]?).bind id=some (.dk kvs))(h4:Xi x=some key)(h5:Xu v=some w)(hl:kvs.length<sizeLine) :
  U4 i fx fv ρ s=some (.nx (ρ.set i (some (.dk (Z1 kvs key w)))),s):=by
 unfold U4 Zm;rw[h1];simp only;rw[h2];simp only;rw[h3];simp only;rw[h4,h5];simp only;rw[if_pos hl];rfl
theorem ZkO (jK:List (Nat×Nat)){ps:List Nat}{k p:Nat}(h:ps[k]?=some p):hr jK (ps.take (k+1)).reverse=fun x=>if x=p then XY (((ps.take k).filter fun o=>tied jK p o).map (hr jK (ps.take k).reverse)) else hr jK (ps.take k).reverse x:=by
 rw[ZbC h,List.reverse_append];funext x;show(if x=p then XY (((ps.take k).reverse.filter fun o=>tied jK p o).map (hr jK (ps.take k).reverse)) else _)=_;by_cases e:x=p
 ·rw[if_pos e,if_pos e]
  refine Zdv fun y=>?_;simp only[qK,qC,List.mem_reverse]
 ·rw[if_neg e,if_neg e];rfl
noncomputable def U6 (n:Nat)(jK:List (Nat×Nat))(ps:List Nat):List Nat:=(qm n).map (hr jK ps.reverse)
end TP3
namespace TP3
open L2 TF TP TS
open TP2
section
variable (ap:Nat->Nat->Bool)
noncomputable def Y0 (ps:List Nat)(p:Nat):Nat:=(ps.filter fun o=>ap p o).length
noncomputable def YG (ps:List Nat)(p:Nat):List Nat:=ps.filter fun o=>!decide (o=p) && !ap p o
noncomputable def Ye (ps:List Nat):Nat:=ps.getD ((ps.map (Y0 ap ps)).idxOf (Vu (ps.map (Y0 ap ps)))) 0
structure KnA (ps K:List Nat):Prop where
 nd:K.Nodup
 sub:∀x∈K,x∈ps
 two:∀x∈K,∀y∈K,x≠y->ap x y=false
end
section
variable {ap:Nat->Nat->Bool}
theorem ZfW {l:List Nat}(h:l≠[]):Vu l∈l:=by
 have:=ZkJ (l:=0::l) ⟨l,rfl⟩;have e:Vu (0::l)=Vu l:=rfl;rw[e] at this;rcases qt.mp this with z | z
 ·cases l with
  | nil=>exact absurd rfl h
  | cons a r=>
   have h1:=Zmt (l:=a::r) (x:=a) (by simp);have h2:a=0:=by omega
   rw[z,h2];simp
 ·exact z
theorem ZkP {ps:List Nat}(f:Nat->Nat){v:Nat}(h:v∈ps.map f):ps.getD ((ps.map f).idxOf v) 0∈ps/\f (ps.getD ((ps.map f).idxOf v) 0)=v:=by
 have hl:=yY.mpr h;have e:=List.getElem_idxOf hl;rw[yI] at e;have hl':(ps.map f).idxOf v<ps.length:=by simpa using hl
 rw[qH,qE hl'];exact⟨qap hl',e⟩
theorem Bs {ps:List Nat}(h:ps≠[]):Ye ap ps∈ps:=(ZkP (Y0 ap ps) (ZfW (by simpa using h))).1
theorem Uh {ps:List Nat}{p:Nat}:∀x∈YG ap ps p,x∈ps/\x≠p/\ap p x=false:=fun x hx=>by
 obtain⟨h1,h2⟩:=qC.mp hx;simp only[zd,qaT,decide_eq_false_iff_not] at h2;exact⟨h1,h2.1,h2.2⟩
theorem Zdw {ps:List Nat}{p:Nat}(h:p∈ps)(f:Nat->Bool)(hf:f p=false):(ps.filter f).length<ps.length:=by
 induction ps with
 | nil=>simp at h
 | cons a r ih=>
  have hr:=zq f r;rcases qt.mp h with e | h
  ·subst e
   rw[qad (by simpa using hf)];simp only[qT];omega
  ·have:=ih h
   by_cases fa:f a=true
   ·rw[qa7 fa];simp only[qT];omega
   ·rw[qad fa];simp only[qT];omega
theorem ZeY {ps:List Nat}{p:Nat}(h:p∈ps):(YG ap ps p).length<ps.length:=Zdw h _ (by simp)
theorem ZcB {ps:List Nat}{p:Nat}(h:p∈ps):(ps.filter fun o=>!decide (o=p)).length<ps.length:=Zdw h _ (by simp)
theorem jE {ps K:List Nat}{p:Nat}(sy:∀a b,ap a b=ap b a)(hp:p∈ps)(h:KnA ap (YG ap ps p) K):KnA ap ps (p::K) where
 nd:=zI.mpr ⟨fun z=>(Uh p (h.sub p z)).2.1 rfl,h.nd⟩
 sub:=fun x hx=>by
  rcases qt.mp hx with e | hx
  ·rw[e];exact hp
  ·exact(Uh x (h.sub x hx)).1
 two:=fun x hx y hy ne=>by
  rcases qt.mp hx with e | hx
  ·rcases qt.mp hy with e' | hy
   ·exact absurd (e.trans e'.symm) ne
   ·rw[e];exact(Uh y (h.sub y hy)).2.2
  ·rcases qt.mp hy with e' | hy
   ·rw[e',sy];exact(Uh x (h.sub x hx)).2.2
   ·exact h.two x hx y hy ne
theorem KnA.mono {ps qs K:List Nat}(h:KnA ap ps K)(s:∀x∈ps,x∈qs):KnA ap qs K:=⟨h.nd,fun x hx=>s x (h.sub x hx),h.two⟩
theorem KnA.rest {ps K:List Nat}{p:Nat}(h:KnA ap ps K):KnA ap (YG ap ps p) (K.filter fun o=>!decide (o=p) && !ap p o) where
 nd:=h.nd.sublist zv
 sub:=fun x hx=>by
  obtain⟨h1,h2⟩:=qC.mp hx;exact qC.mpr ⟨h.sub x h1,h2⟩
 two:=fun x hx y hy=>h.two x (qC.mp hx).1 y (qC.mp hy).1
theorem ZhF (ir:∀a,ap a a=false){K:List Nat}{p:Nat}{ps:List Nat}(h:KnA ap ps K)(hm:p∈K∨Y0 ap ps p<=1):K.length<=(K.filter fun o=>!decide (o=p) && !ap p o).length+1:=by
 have e:=Zdu (fun o=>!decide (o=p) && !ap p o) K;have hd:(K.filter fun o=>!(!decide (o=p) && !ap p o)).length<=1:=by
  have nd:(K.filter fun o=>!(!decide (o=p) && !ap p o)).Nodup:=h.nd.sublist zv;by_cases hp:p∈K
  ·have:=UN (b:=[p]) nd fun x hx=>by
    obtain⟨h1,h2⟩:=qC.mp hx;by_cases z:x=p
    ·simp[z]
    ·have:=h.two p hp x h1 (zl z)
     simp[z,this] at h2
   simpa using this
  ·have hc:=hm.resolve_left hp
   have:=UN (b:=ps.filter fun o=>ap p o) nd fun x hx=>by
    obtain⟨h1,h2⟩:=qC.mp hx;have z:x≠p:=fun z=>hp (z▸h1);simp[z] at h2;exact qC.mpr ⟨h.sub x h1,h2⟩
   unfold Y0 at hc;omega
 omega
end
noncomputable def Xf (l:List Nat):List (Zr×V):=l.map fun(o:Nat)=>(zh (o:Int),V.bl true)
theorem Zd1 {x:Nat}:∀l:List Nat,ZQ (Xf l) (zh (x:Int))=if x∈l then some (.bl true) else none
 | []=>rfl
 | q::qs=>by
  by_cases e:q=x
  ·subst e
   show ZQ ((zh (q:Int),V.bl true)::Xf qs) _=_;rw[XJ rfl];simp
  ·have hn:¬((zh (q:Int):Zr)=zh (x:Int)):=fun z=>by
    have:=qbc z;omega
   show ZQ ((zh (q:Int),V.bl true)::Xf qs) _=_;rw[XM hn,Zd1 qs];have:x≠q:=fun z=>e z.symm;simp[this]
theorem Zjz:∀(l:List Nat) (jQ:List (Zr×V)),l.Nodup->(∀x∈l,ZQ jQ (zh (x:Int))=none)->WE jQ (l.map fun o=>D.tup [nD o,.bl true])=some (jQ++Xf l)
 | [],jQ,_,_=>by simp[WE,Xf]
 | p::ps,jQ,nd,h=>by
  have nd':=zI.mp nd;show WE (Z1 jQ (zh (p:Int)) (.bl true)) (ps.map fun o=>D.tup [nD o,.bl true])=_;rw[Zjz ps _ nd'.2 fun x hx=>?_,Zed _ (h p (by simp))]
  ·show some ((jQ ++ [_])++Xf ps)=some (jQ++(_::Xf ps))
   simp
  ·rw[Zec,if_neg (fun z=>nd'.1 (by
    have:=qbc z;have:x=p:=by omega
    exact this▸hx))]
   exact h x (by simp[hx])
theorem Zmv (l:List Nat)(x:Nat):Yq (nD x) (.dk (Xf l))=some (.bl (decide (x∈l))):=by
 show((some (zh (x:Int):Zr)).map fun k=>(ZQ (Xf l) k).isSome).map D.bl=_;simp only[zL];rw[Zd1];by_cases h:x∈l <;> simp[h]
theorem ZhG (l:List Nat)(x:Nat):Vg (nD x) (.dk (Xf l))=some (.bl (!decide (x∈l))):=by
 show((some (zh (x:Int):Zr)).map fun k=>(ZQ (Xf l) k).isSome).map (fun b=>D.bl (!b))=_;simp only[zL];rw[Zd1];by_cases h:x∈l <;> simp[h]
noncomputable def YS (n:Nat)(A:Nat->List Nat):D:=.lst ((qm n).map fun p=>.dk (Xf (A p)))
theorem ZjA {n p:Nat}{A:Nat->List Nat}(h:p<n):Zl (YS n A) (nD p)=some (.dk (Xf (A p))):=by
 show Xo _ (p:Int)=_;refine Wl ?_;rw[qA,z9 h];rfl
section
variable {n:Nat}{A:Nat->List Nat}{ap:Nat->Nat->Bool}
theorem B0 (a b:Nat):XB (nD a) (nD b)=some (.bl (!decide (a=b))):=by
 rw[nei];congr 3;rw[yg,beq_iff_eq,decide_eq_true_eq];constructor <;> intro h <;> omega
theorem ZkQ {ds es:List D}(h:ds.length+es.length<=100000):YZ (.lst ds) (.lst es)=some (.lst (ds++es)):=by
 show(if ds.length+es.length<=sizeLine then some (D.lst (ds++es)) else none)=_;rw[if_pos (by rw[Ys];omega)]
theorem Zmw (ds:List D)(hp:Yv ds=true)(hd:Xv ds<=10):Wh (.lst ds) (.lst [])=some (.bl (decide (ds=[]))):=by
 have hok:Vq (.lst ds) (.lst [])=true:=by
  unfold Vq;simp[Zn,Yc,Yv,Xv,hp];omega
 unfold Wh;rw[if_pos hok]
 cases ds with
 | nil=>rfl
 | cons a r=>rfl
theorem ZjB {l:List Nat}(h:l≠[]):B8 [.lst (l.map nD)]=some (nD (Vu l)):=by
 cases l with
 | nil=>exact absurd rfl h
 | cons m r=>
  have e:ZH ((m::r).map nD)=some ((m:Int)::r.map fun(i:Nat)=>(i:Int)):=ZaS (m::r);show(match ZH ((m::r).map nD) with | some (n::r)=>some (D.int (Xw n r)) | _=>none)=_;rw[e];show some (D.int (Xw (m:Int) (r.map fun(i:Nat)=>(i:Int))))=_;rw[Zju r m];have e2:Vu (m::r)=r.foldl max m:=by
   show r.foldl max (max 0 m)=_;rw[Nat.max_eq_right (zj m)]
  rw[e2]
theorem ZfX {l:List Nat}{v:Nat}(h:v∈l):BX (.lst (l.map nD)) (nD v)=some (nD (l.idxOf v)):=by
 show((ZH (l.map nD)).bind fun ns=>if (v:Int)∈ns then some (D.int (ns.idxOf (v:Int):Nat)) else none)=_;rw[ZaS];show(if (v:Int)∈l.map (fun(i:Nat)=>(i:Int)) then some (D.int ((l.map fun(i:Nat)=>(i:Int)).idxOf (v:Int):Nat)) else none)=_;rw[if_pos (qK.mpr ⟨v,h,rfl⟩)];have:(l.map fun(i:Nat)=>(i:Int)).idxOf (v:Int)=l.idxOf v:=by
  clear h
  induction l with
  | nil=>rfl
  | cons a r ih=>
   rw[zi,List.idxOf_cons,List.idxOf_cons,ih];have:((a:Int)==(v:Int))=(a==v):=by
    rw[yg,beq_iff_eq,beq_iff_eq];constructor <;> intro h <;> omega
   rw[this]
 rw[this]
end
end TP3
namespace TP3
open L2 TF TP TS
open TP2
noncomputable def Yd (n:Nat)(jK:List (Nat×Nat)):List (Nat×Nat):=(Xd n).filter fun p=>!decide (p∈jK)
theorem ZhH (n:Nat)(jK:List (Nat×Nat)):XT n (Yd n jK):=XT.filter _
theorem ZjC {jK:List (Nat×Nat)}{a b:Nat}:tied jK a b=true↔(min a b,max a b)∈jK:=by unfold tied;exact decide_eq_true_iff
theorem BA {n:Nat}{jK:List (Nat×Nat)}{a b:Nat}:tied (Yd n jK) a b=true↔a<n/\b<n/\a≠b/\tied jK a b=false:=by
 rw[ZjC];unfold Yd;rw[qC,Uk];have e:tied jK a b=decide ((min a b,max a b)∈jK):=rfl;rw[e];simp only[qaT,decide_eq_false_iff_not];constructor
 ·rintro⟨⟨h1,h2⟩,h3⟩
  exact⟨by omega,by omega,by omega,h3⟩
 ·rintro⟨h1,h2,h3,h4⟩
  exact⟨⟨by omega,by omega⟩,h4⟩
theorem ZcY {n:Nat}{jK:List (Nat×Nat)}(p o:Nat):tied (Yd n jK) p o=decide (o∈Yg n (Yd n jK) p):=by
 unfold Yg;rw[yg,decide_eq_true_iff,qC,qS];exact⟨fun h=>⟨(BA.mp h).2.1,h⟩,fun h=>h.2⟩
theorem ZjD {n:Nat}{jK:List (Nat×Nat)}(a:Nat):tied (Yd n jK) a a=false:=by
 cases h:tied (Yd n jK) a a with
 | false=>rfl
 | true=>exact absurd rfl (BA.mp h).2.2.1
noncomputable def UZ (n:Nat)(b:List Nat):List Nat:=(qm n).filter fun x=>decide (x∈b)
theorem ZaT {n:Nat}{b:List Nat}(nd:b.Nodup)(h:∀x∈b,x<n):(UZ n b).Perm b:=by
 refine(List.perm_ext_iff_of_nodup (qar.sublist zv) nd).mpr fun a=>?_;rw[qC,qS,decide_eq_true_iff];exact⟨fun z=>z.2,fun z=>⟨h a z,z⟩⟩
theorem ZbL (n:Nat)(b:List Nat):(UZ n b).Pairwise (· < ·):=(Bx n).sublist zv
noncomputable def WA (a k:List Nat):List Nat:=if a.length<k.length then k else a
noncomputable def Zgz (n:Nat)(jK:List (Nat×Nat)):List Nat:=(kn jK n).foldl WA []
theorem ZbM:∀(l:List (List Nat)) (a:List Nat),(l.foldl WA a=a∨l.foldl WA a∈l)/\a.length<=(l.foldl WA a).length/\∀k∈l,k.length<=(l.foldl WA a).length
 | [],a=>⟨.inl rfl,qp _,fun k h=>by cases h⟩
 | x::r,a=>by
  obtain⟨h1,h2,h3⟩:=ZbM r (WA a x);have h4:a.length<=(WA a x).length/\x.length<=(WA a x).length/\(WA a x=a∨WA a x=x):=by
   unfold WA;split
   ·exact⟨by omega,qp _,.inr rfl⟩
   ·exact⟨qp _,by omega,.inl rfl⟩
  rw[List.foldl_cons];refine⟨?_,by omega,fun k hk=>?_⟩
  ·rcases h1 with h | h
   ·rcases h4.2.2 with z | z
    ·exact .inl (h.trans z)
    ·exact .inr (by rw[h,z];simp)
   ·exact .inr (by simp[h])
  ·rcases qt.mp hk with rfl | hk
   ·omega
   ·exact h3 k hk
theorem ZhI {n:Nat}{b:List Nat}(nd:b.Nodup)(h:∀x∈b,x<n)(hl:b.length<64):BO [.lst (b.map nD)]=some (.lst ((UZ n b).map nD)):=by
 have e:ZH (b.map nD)=some (WH b):=by
  have:b.map nD=(WH b).map D.int:=by unfold WH;rw[qD];rfl
  rw[this,Jx]
 show(match ZH (b.map nD) with | some ns=>if ns.length<64 then some (D.lst ((WF ns).map .int)) else none | none=>none)=_;rw[e];show(if (WH b).length<64 then some (D.lst ((WF (WH b)).map .int)) else none)=_;rw[if_pos (by unfold WH;simp;omega)];have q:WH (UZ n b)=WF (WH b):=Zcf ((ZaT nd h).map _) (qah.mpr ((ZbL n b).imp fun h=>by omega));rw[<-q];unfold WH;rw[qD];rfl
theorem ZcC {n:Nat}{jK:List (Nat×Nat)}(hw:XT n jK)(hn:n<=24):Zgz n jK∈kn jK n/\∀K∈kn jK n,K.length<=(Zgz n jK).length:=by
 obtain⟨h1,_,h3⟩:=ZbM (kn jK n) [];refine⟨?_,h3⟩;rcases h1 with h | h
 ·show(kn jK n).foldl WA []∈_
  rw[h];exact Ul.mpr ⟨qaf,(fun o h=>by cases h),fun a h=>by cases h⟩
 ·exact h
end TP3
namespace TP3
open L2 TF TP TS
open TP2
end TP3
namespace TP3
open L2 TF TP TS
open TP2
theorem Zmx (p:Nat×Nat)(jK:List (Nat×Nat)):Yq (ZJ p) (.du (ZU [] jK))=some (.bl (decide (p∈jK))):=Zjr p jK
theorem ZkR (jK:List (Nat×Nat)):∀jQ:List (List Zr×V),(ZU jQ jK).length<=jQ.length+jK.length:=by
 induction jK with
 | nil=>intro jQ;exact qp _
 | cons t r ih=>
  intro jQ;have h:=ih (Z1 jQ (XC t) (.bl true));have h2:=VI jQ (XC t) (.bl true);show(ZU (Z1 jQ (XC t) (.bl true)) r).length<=_;simp only[qT];omega
theorem ZjE (jK:List (Nat×Nat))(t:Nat×Nat):ZU [] (jK ++ [t])=Z1 (ZU [] jK) (XC t) (.bl true):=by
 unfold ZU;rw[List.foldl_append];rfl
theorem ZhJ (k:List Nat):ZH (k.map nD)=some (WH k):=by
 have:k.map nD=(WH k).map D.int:=by unfold WH;rw[qD];rfl
 rw[this,Jx]
end TP3
namespace TP3
open L2 TF TP TS
open TP2
section
variable (jK:List (Nat×Nat))
end
section
variable {jK:List (Nat×Nat)}{many:Nat}
end
end TP3
namespace TP3
open L2 TF TP TS
open TP2
theorem ZkS {n p:Nat}{jK:List (Nat×Nat)}(h:p<n):Zl (Vi n jK) (nD p)=some (.lst ((Yg n jK p).map nD)):=by
 show Xo _ (p:Int)=_;refine Wl ?_;rw[qA,z9 h];rfl
theorem Zdx {τ:D->Zb->Option Zb}{body:Zb->M Out}{s:Pn}(I:Zb->Prop)(g:Nat->Option D):∀(l:List Nat) (ρ:Zb),I ρ->
  (∀x∈l,∀ρ,I ρ->∃ρ1,τ (nD x) ρ=some ρ1/\match g x with | some d=>body ρ1 s=some (.rt d,s) | none=>∃ρ2,body ρ1 s=some (.nx ρ2,s)/\I ρ2)->
  match l.findSome? g with | some d=>Wg τ body (l.map nD) ρ s=some (.rt d,s) | none=>∃ρ2,Wg τ body (l.map nD) ρ s=some (.nx ρ2,s)/\I ρ2
 | [],ρ,h0,_=>⟨ρ,rfl,h0⟩
 | x::l,ρ,h0,h=>by
  obtain⟨ρ1,e1,e2⟩:=h x (by simp) ρ h0;rw[qbH]
  cases hg:g x with
  | some d=>
   rw[hg] at e2;exact ZdO e1 e2
  | none=>
   rw[hg] at e2;obtain⟨ρ2,e3,h2⟩:=e2;have ih:=Zdx I g l ρ2 h2 fun y hy=>h y (by simp[hy]);simp only
   cases hl:l.findSome? g with
   | some d=>rw[hl] at ih;exact Zbb e1 e3 ih
   | none=>
    rw[hl] at ih;obtain⟨ρ3,e4,h3⟩:=ih;exact⟨ρ3,Zbb e1 e3 e4,h3⟩
end TP3
namespace TP3
open L2 TF TP TS
open TP2
end TP3
namespace TP3
open L2 TF TP TS
open TP2
end TP3
namespace TQ
open L2 TF TS
open TP
open TP2
open TP3
theorem Zmy {T:Nat->List D->M D}{i t:Nat}{fs:Zb->M (List D)}{ρ:Zb}{s s1:Pn}{ds cds:List D}{r:Option (D×Pn)}(h1:(ρ[i]?).bind id=some (.clo t cds))(h2:fs ρ s=some (ds,s1))(h3:T t (ds++cds) s1=r):J9 T i fs ρ s=r:=by
 unfold J9 Zm Za YN;rw[h1];simp only[h2];exact h3
theorem ZfY {F:List D->M D}{t:Nat}{cix:List Nat}{f:Zb->M D}{ρ:Zb}{s s1 s2:Pn}{d c:D}{cds:List D}(h1:f ρ s=some (d,s1))(h2:W0 ρ cix=some cds)(n1:Yt d=true)(n2:YQ cds=true)(h3:F [d,.clo t cds] s1=some (c,s2))(n3:Yt c=true):V0 F t cix f ρ s=some (c,s2):=by
 unfold V0 Zm YN;rw[h1,h2];simp only;rw[if_pos (by rw[n1,n2];rfl),h3];simp only;rw[if_pos n3];rfl
theorem JD:∀{ds:List D},(∀d∈ds,Yt d=true)->YQ ds=true
 | [],_=>rfl
 | d::ds,h=>by
  show(Yt d&&YQ ds)=true;rw[h d zM,JD fun x (hx:x∈ds)=>h x (qQ _ hx)];rfl
theorem Zd2 {n:Nat}{f:Zb->M D}{ds:List D}{s:Pn}{r:Option (D×Pn)}(hl:ds.length=n)(h:f (ds.map some) s=r):YI n f ds s=r:=by
 unfold YI;rw[if_pos hl];exact h
theorem ZbD (n:Nat)(jK:List (Nat×Nat)):Yt (ZX n jK)=true:=by
 have:YQ (jK.map ZJ)=true:=JD fun d hd=>by obtain⟨p,_,rfl⟩:=qK.mp hd;rfl
 simp only[ZX,Yt,YQ,this];rfl
theorem Zbo (lo:Int)(n:Nat):YQ (Z3 lo n)=true:=JD fun d hd=>by
 unfold Z3 at hd;obtain⟨i,_,rfl⟩:=qK.mp hd;rfl
theorem ZaA {row:D}{ds cds:List D}{t:Nat}(h:Jc row ds)(hn:ds.length<=1000)(b:Nat×Nat->Bool)(s:Pn)(hb:∀p∈Xd ds.length,Tl t ([ds.getD p.1 .non,ds.getD p.2 .non]++cds) s=some (.bl (b p),s)):Vb [row,.clo t cds] s=some (ZX ds.length ((Xd ds.length).filter b),s):=by
 have hln:∀r,ZN YC (Zc (Za 0) Ze) (some row::r) s=some (nD ds.length,s):=fun r=>YX (Zh rfl rfl) h.len;refine Xh rfl (X9 (WW (Yl (Zh (Zax (hln _) hn) rfl) (Zex s hn))) (Y6 (Xl ?_)));have hap:=ZiF ds.length hn;have hc:=Xa (src:=[none,some 1,some 0]) (fi:=Z4 (Za 2)) (τ:=Zy 0) (ft:=asB (J9 Tl 1 (Zc (Zd Zl (Za 2) (Zd Zl (Za 0) (dC (.int 0)))) (Zc (Zd Zl (Za 2) (Zd Zl (Za 0) (dC (.int 1)))) Ze)))) (fe:=Za 0) (ρ:=[some row,some (.clo t cds),some (.lst ((Xd ds.length).map ZJ))]) (s:=s) (ds:=(Xd ds.length).map ZJ) (fun d=>[some d,some (.clo t cds),some row]) (fun d=>b (nat2 d)) (fun d=>d) (Wa rfl) (by rw[qj,Ys];omega) fun d hd=>by
  obtain⟨p,hpm,rfl⟩:=qK.mp hd;have hpp:=Uk.mp hpm;refine⟨rfl,Y8 (Zmy (t:=t) (cds:=cds) rfl (Zh (ZB (d:=row) (e:=nD p.1) rfl (ZB (d:=ZJ p) (e:=.int 0) rfl rfl (U2 _ _)) (h.ix (by omega))) (Zh (ZB (d:=row) (e:=nD p.2) rfl (ZB (d:=ZJ p) (e:=.int 1) rfl rfl (J4 _ _ _)) (h.ix (by omega))) rfl)) (hb p hpm)),fun _=>rfl⟩
 rw[ZdM (Xd ds.length) _ b fun p=>by rw[Zhb]] at hc;exact Wc (Zh (hln _) (Zh (YX (Zh hc rfl) rfl) rfl)) two_le
theorem range_getD {n i:Nat}(h:i<n):(Z3 0 n).getD i .non=nD i:=by
 rw[Vy];simp[qaF,h]
theorem ZcD (n:Nat)(jK:List (Nat×Nat))(s:Pn)(hn:n<=1000)(hl:jK.length<=100000):Vc [ZX n jK] s=some (ZX n ((Xd n).filter fun p=>!decide (p∈jK)),s):=by
 refine Xh rfl (X9 (WW (Yl (Zh rfl rfl) (Zdk n jK s hl))) (Y6 (Xl ?_)));refine ZfY (d:=.lst (Z3 0 n)) (cds:=[.dt (ZU [] jK)]) (Zax (ZB (d:=ZX n jK) (e:=.int 0) rfl rfl Jd) hn) rfl (by simp only[Yt];exact Zbo _ _) rfl ?_ (ZbD _ _);have:=ZaA (row:=.lst (Z3 0 n)) (ds:=Z3 0 n) (cds:=[.dt (ZU [] jK)]) (t:=0) (.inl rfl) (by rw[Y2];exact hn) (fun p=>!decide (p∈jK)) s (fun p hp=>by
  rw[Y2] at hp;have hpp:=Uk.mp hp;rw[range_getD (by omega),range_getD (by omega)];show Zbf [nD p.1,nD p.2,.dt (ZU [] jK)] s=_;refine Zd2 rfl ?_;refine Zks (a:=decide (p∈jK)) (Yl (Zh rfl (Zh rfl (Zh rfl rfl))) ?_);rw[Zbn,UQ hpp.1])
 rw[Y2] at this;exact this
end TQ
namespace TQ
open L2 TF TS
open TP
open TP2
open TP3
theorem Zmz {f g:Zb->M D}{ρ:Zb}{s:Pn}{a b:Bool}(h:f ρ s=some (.bl a,s))(h2:a=false->g ρ s=some (.bl b,s)):Jh f g ρ s=some (.bl (a||b),s):=by
 unfold Jh Zm;rw[h]
 cases a with
 | true=>rfl
 | false=>exact h2 rfl
theorem ZkT {f g:Zb->M D}{ρ:Zb}{s:Pn}{a b:Bool}(h:f ρ s=some (.bl a,s))(h2:g ρ s=some (.bl b,s)):Vo f g ρ s=some (.bl (a&&b),s):=Zkr h fun _=>h2
end TQ
namespace TQ
open L2 TF TS
open TP
open TP2
open TP3
theorem Ok.pick {fs:Zb->M (List D)}{gs:Zb->M (List D)}{ρ:Zb}{s:Pn}{m T:Nat}{ds:List D}{Q:D->Pn->Prop}(hl:gs ρ s=some (ds,s))(hm1:ds.length=m)(ok:XI T s)(hT:T<1000000000)(h1:fs ρ s=some ([.pen,.int (m:Int)],s))(hm:0<m)(hm2:m<1000)(h:∀d s',d∈ds->XI (T+1) s'->Q d s'):Ok (Zd Zl (YH gs) (Zq Yf fs) ρ) s Q:=by
 refine .op (.eq (Ur hl (by rw[Ys];omega)) (.drawD ok hT h1 hm (by omega) fun r s' hr ok'=>?_));obtain⟨d,hd,e⟩:=ZdN (ds:=ds) (r:=r) (by omega);exact⟨d,e,h d s' hd ok'⟩
end TQ
namespace TQ
open L2 TF TS
open TP
open TP2
open TP3
end TQ
namespace TQ
open L2 TF TS
open TP
open TP2
open TP3
theorem ZhK (n:Nat)(jK:List (Nat×Nat)):Zn (ZX n jK)=true:=by
 simp only[ZX,Zn,Yv,ZbH];rfl
end TQ
namespace TQ
open L2 TF TS
open TP
open TP2
open TP3
theorem Bv {N:Nat}{B:Nat×Nat->Bool}{a b:Nat}(h:a<b)(hb:b<N):tied ((Xd N).filter B) a b=B (a,b):=by
 rw[UQ h,yg,decide_eq_true_eq,qC];exact⟨fun z=>z.2,fun z=>⟨Uk.mpr ⟨h,hb⟩,z⟩⟩
end TQ
namespace TQ
open L2 TF TS
open TP
open TP2
open TP3
end TQ
namespace TQ
open L2 TF TS
open TP
open TP2
open TP3
end TQ
namespace TQ
open L2 TF TS
open TP
open TP2
open TP3
noncomputable abbrev V9 (n:Nat)(jK:List (Nat×Nat)):D:=.tup [nD n,.dt (ZU [] jK)]
theorem mk0 {n:Nat}{jK:List (Nat×Nat)}:Zl (V9 n jK) (.int 0)=some (nD n):=U2 _ _
theorem mk1 {n:Nat}{jK:List (Nat×Nat)}:Zl (V9 n jK) (.int 1)=some (.dt (ZU [] jK)):=J4 _ _ _
theorem ZjF (n:Nat)(jK:List (Nat×Nat))(p:Nat)(s:Pn)(hn:n<=100000):UV [V9 n jK,.int p] s=some (.lst ((Yg n jK p).map nD),s):=by
 refine Xh rfl (Y6 (Xl ?_));unfold Yg;show _=some (D.lst (((qm n).filter fun o=>tied jK p o).map fun(i:Nat)=>D.int (i:Int)),s);rw[<-ZaH];refine Xa (ds:=Z3 0 n) (fun d=>[some d,some (V9 n jK),some (.int p)]) (fun d=>tied jK p (Yu d)) (fun d=>d) (XZ (ZB (d:=V9 n jK) (e:=.int 0) rfl rfl mk0) hn) (Zgk hn) ?_;intro d hd;obtain⟨i,hi,rfl⟩:=VM hd;exact⟨rfl,Y8 (Yl (Zh (ZB (d:=V9 n jK) (e:=.int 1) rfl rfl mk1) (Zh rfl (Zh rfl rfl))) (Zbn jK p i s)),fun _=>rfl⟩
noncomputable def gN:Zb->M Out:=(Zi (ZW 1 (ZV (Zc (Zd Zl (Za 0) (dC (.int 0))) (Zc (Zq Ub (Zc (Za 0) Ze)) Ze))))
 (Zi (ZR (Z0 [none,some 1] (Yb (Zd Zl (Za 0) (dC (.int 0)))) (Zy 0) Ya (Zq UV (Zc (Za 1) (Zc (Za 0) Ze)))))
 Zt))
theorem Zbp (n:Nat)(jK:List (Nat×Nat))(hn:n<=1000)(hl:jK.length<=100000)(s:Pn):runB 2 1 gN [ZX n jK] s=some (Vi n jK,s):=by
 refine Xh rfl (X9 (WW (Wc (Zh (ZB (d:=ZX n jK) (e:=.int 0) rfl rfl Jd) (Zh (Yl (Zh rfl rfl) (Zdk n jK s hl)) rfl)) two_le)) (Y6 (Xl ?_)));have hc:=Xa (src:=[none,some 1]) (fi:=Yb (Zd Zl (Za 0) (dC (.int 0)))) (τ:=Zy 0) (ft:=Ya) (fe:=Zq UV (Zc (Za 1) (Zc (Za 0) Ze))) (ρ:=[some (ZX n jK),some (V9 n jK)]) (s:=s) (ds:=Z3 0 n) (fun d=>[some d,some (V9 n jK)]) (fun _=>true) (fun d=>.lst ((Yg n jK (Yu d)).map nD)) (XZ (ZB (d:=ZX n jK) (e:=.int 0) rfl rfl Jd) (by omega)) (Zgk (by omega)) fun d hd=>by
  obtain⟨i,hi,rfl⟩:=VM hd;exact⟨rfl,rfl,fun _=>Yl (Zh rfl (Zh rfl rfl)) (ZjF n jK i s (by omega))⟩
 rw[Ug,Vy,qD] at hc;exact hc
end TQ
namespace TQ
open L2 TF TS
open TP
open TP2
open TP3
section
variable (ap:Nat->Nat->Bool)
noncomputable def one? (ps:List Nat):Option Nat:=ps.find? fun p=>decide (Y0 ap ps p<=1)
noncomputable def Yj:Nat->List Nat->List Nat
 | 0,_=>[]
 | m+1,ps=>if ps=[] then [] else match one? ap ps with
  | some p=>p::Yj m (YG ap ps p)
  | none=>if (Yj m (ps.filter fun o=>!decide (o=Ye ap ps))).length<=(Ye ap ps::Yj m (YG ap ps (Ye ap ps))).length then Ye ap ps::Yj m (YG ap ps (Ye ap ps))
   else Yj m (ps.filter fun o=>!decide (o=Ye ap ps))
end
section
variable {ap:Nat->Nat->Bool}
theorem BG {ps:List Nat}{p:Nat}(h:one? ap ps=some p):p∈ps/\Y0 ap ps p<=1:=⟨List.mem_of_find?_eq_some h,by have:=List.find?_some h;simpa using this⟩
theorem BH (sy:∀a b,ap a b=ap b a):∀(m:Nat) (ps:List Nat),KnA ap ps (Yj ap m ps)
 | 0,ps=>⟨qbl,fun x hx=>by simp[Yj] at hx,fun x hx=>by simp[Yj] at hx⟩
 | m+1,ps=>by
  unfold Yj;by_cases h0:ps=[]
  ·rw[if_pos h0];exact⟨qbl,fun x hx=>by simp at hx,fun x hx=>by simp at hx⟩
  ·rw[if_neg h0]
   have w:=fun p (hp:p∈ps)=>jE sy hp (BH sy m (YG ap ps p));split
   ·rename_i p hp
    exact w _ (BG hp).1
   ·split
    ·exact w _ (Bs h0)
    ·exact(BH sy m _).mono fun x hx=>(qC.mp hx).1
theorem ZcE (sy:∀a b,ap a b=ap b a)(ir:∀a,ap a a=false):∀(m:Nat) (ps K:List Nat),ps.length<m->KnA ap ps K->K.length<=(Yj ap m ps).length
 | 0,ps,K,h,_=>by omega
 | m+1,ps,K,hl,h=>by
  unfold Yj;by_cases h0:ps=[]
  ·rw[if_pos h0]
   cases K with
   | nil=>simp
   | cons a r=>have:=h.sub a (by simp);rw[h0] at this;simp at this
  ·rw[if_neg h0]
   have w:∀p,p∈ps->(p∈K∨Y0 ap ps p<=1)->K.length<=(p::Yj ap m (YG ap ps p)).length:=fun p hp hm=>by
    have h1:=ZhF ir h hm;have h2:=ZcE sy ir m (YG ap ps p) _ (by have:=ZeY (ap:=ap) hp;omega) (h.rest (p:=p));simp only[qT];omega
   split
   ·rename_i p hp
    exact w _ (BG hp).1 (.inr (BG hp).2)
   ·have hb:=Bs (ap:=ap) h0
    by_cases hk:Ye ap ps∈K
    ·have:=w _ hb (.inl hk)
     split
     ·exact this
     ·omega
    ·have h3:=ZcE sy ir m (ps.filter fun o=>!decide (o=Ye ap ps)) K (by have:=ZcB hb;omega) ⟨h.nd,fun x hx=>qC.mpr ⟨h.sub x hx,by
      have:x≠Ye ap ps:=fun z=>hk (z▸hx);simpa using this⟩,h.two⟩
     split
     ·omega
     ·exact h3
theorem BR (m:Nat):∀(ps:List Nat),(Yj ap m ps).length<=m:=by
 induction m with
 | zero=>intro ps;simp[Yj]
 | succ m ih=>
  intro ps;unfold Yj;split
  ·simp
  ·split
   ·rename_i p hp
    have:=ih (YG ap ps p);simp only[qT];omega
   ·split
    ·have:=ih (YG ap ps (Ye ap ps));simp only[qT];omega
    ·have:=ih (ps.filter fun o=>!decide (o=Ye ap ps));omega
end
noncomputable abbrev YM (n:Nat):D:=.tup (qu n (nD 1))
theorem ZgA {n p:Nat}(h:p<n):Zl (YM n) (nD p)=some (nD 1):=by
 show Xo _ (p:Int)=_;refine Wl ?_;rw[z7,if_pos h]
theorem ZgB:∀k:Nat,(qu k (1:Int)).sum=(k:Int)
 | 0=>rfl
 | k+1=>by rw[zG,List.sum_cons,ZgB k];omega
theorem ZjG (k:Nat):dSum [.lst (qu k (nD 1))]=some (nD k):=by
 have h1:ZH (qu k (nD 1))=some (qu k 1):=by
  rw[show qu k (nD 1)=(qu k (1:Int)).map D.int by rw[List.map_replicate];rfl];exact Jx _
 show(match ZH (qu k (nD 1)) with | some ns=>if W1 ns=true then some (D.int ns.sum) else none | none=>none)=_;rw[h1];have h2:W1 (qu k 1)=true:=zV.mpr fun x hx=>by rw[(List.mem_replicate.mp hx).2];rfl
 show(if W1 (qu k 1)=true then some (D.int (qu k (1:Int)).sum) else none)=_;rw[if_pos h2,ZgB]
noncomputable def ZeZ:Zb->M Out:=(Zi (ZR (ZN dSum (Zc (Z0 [none,some 0] (Z4 (Za 1)) (Zy 0) Ya (Zd Zl (Za 1) (Za 0))) Ze)))
 Zt)
theorem ZaB {n:Nat}{ps:List Nat}(hp:∀p∈ps,p<n)(hl:ps.length<=1000)(s:Pn):runB 2 2 ZeZ [YM n,.lst (ps.map nD)] s=some (nD ps.length,s):=by
 have hc:=Xa (src:=[none,some 0]) (fi:=Z4 (Za 1)) (τ:=Zy 0) (ft:=Ya) (fe:=Zd Zl (Za 1) (Za 0)) (ρ:=[some (YM n),some (.lst (ps.map nD))]) (s:=s) (ds:=ps.map nD) (fun d=>[some d,some (YM n)]) (fun _=>true) (fun _=>nD 1) (Wa rfl) (by rw[qj,Ys];omega) (fun d hd=>by
  obtain⟨x,hx,rfl⟩:=qK.mp hd;exact⟨rfl,rfl,fun _=>ZB (d:=YM n) (e:=nD x) rfl rfl (ZgA (hp x hx))⟩)
 rw[Ug,List.map_const',qj] at hc;exact Xh rfl (Y6 (Xl (YX (Zh hc rfl) (ZjG _))))
end TQ
namespace TQ
open L2 TF TS
open TP
open TP2
open TP3
noncomputable def ZmA:Zb->M Out:=(Zi (ZR (Z0 [none,some 0,some 1] (Z4 (Za 2)) (Zy 0) (asB (Zd Yq (Za 0) (Zd Zl (Za 1) (Za 2)))) (Za 0)))
 Zt)
noncomputable def ZfZ:List D->M D:=runB 3 3 ZmA
noncomputable def Vd:List D->M D:=runB 2 2 ZeZ
noncomputable def gHW (Fs:List D->M D):Zb->M Out:=(Zi (ZW 4 (Z0 [none,some 2,some 0] (Z4 (Za 3)) (Zy 0) (WJ (asB (Zd XB (Za 0) (Za 1))) (asB (Zd Vg (Za 0) (Zd Zl (Za 2) (Za 1))))) (Za 0)))
 (Zi (ZR (Zd YZ (YH (Zc (Za 2) Ze)) (Zq Fs (Zc (Za 0) (Zc (Za 1) (Zc (Za 4) Ze))))))
 Zt))
noncomputable def FHW (Fs:List D->M D):List D->M D:=runB 5 4 (gHW Fs)
noncomputable def Zlx (Fs:List D->M D):Zb->M Out:=(Zi (Y1 (asB (Zd Jj (Zq Vd (Zc (Za 1) (Zc (Zd Zl (Za 3) (Za 4)) Ze))) (Zd Zl (Za 1) (Zd Zl (Za 2) (Za 4)))))
 (Zi (ZR (Zq (FHW Fs) (Zc (Za 0) (Zc (Za 1) (Zc (Zd Zl (Za 2) (Za 4)) (Zc (Za 2) Ze))))))
 Zt)
 Zt)
 Zt)
noncomputable def gHA (Fs:List D->M D):Zb->M Out:=(Zi (Y1 (asB (Zd Wh (Za 2) (YH Ze)))
 (Zi (ZR (YH Ze))
 Zt)
 Zt)
 (Zi (ZW 3 (Z0 [none,some 0,some 2] (Z4 (Za 2)) (Zy 0) Ya (Zq ZfZ (Zc (Za 1) (Zc (Za 0) (Zc (Za 2) Ze))))))
 (Zi (Xc (Yb (ZN YC (Zc (Za 2) Ze))) (Zy 4) (Zlx Fs))
 (Zi (ZW 5 (Z0 [none] (Z4 (Za 3)) (Zy 0) Ya (ZN YC (Zc (Za 0) Ze))))
 (Zi (ZW 6 (Zd Zl (Za 2) (Zd BX (Za 5) (ZN B8 (Zc (Za 5) Ze)))))
 (Zi (ZW 7 (Zq (FHW Fs) (Zc (Za 0) (Zc (Za 1) (Zc (Za 6) (Zc (Za 2) Ze))))))
 (Zi (ZW 8 (Zq Fs (Zc (Za 0) (Zc (Za 1) (Zc (Z0 [none,some 6] (Z4 (Za 2)) (Zy 0) (asB (Zd XB (Za 0) (Za 1))) (Za 0)) Ze)))))
 (Zi (ZR (Bf (asB (Zd V5 (Zq Vd (Zc (Za 1) (Zc (Za 7) Ze))) (Zq Vd (Zc (Za 1) (Zc (Za 8) Ze))))) (Za 7) (Za 8)))
 Zt))))))))
noncomputable def UE:Nat->List D->M D
 | 0=>fun _=>Zz
 | n+1=>runB 9 3 (gHA (UE n))
theorem geN (a b:Nat):V5 (nD a) (nD b)=some (.bl (decide (b<=a))):=by
 show some (D.bl (decide ((b:Int)<=(a:Int))))=_;rw[show decide ((b:Int)<=(a:Int))=decide (b<=a) from decide_eq_decide.mpr (by omega)]
theorem Zf0 (P:Nat->Bool)(h:Nat->D)(ps:List Nat):(qm ps.length).findSome? (fun i=>if P (ps.getD i 0)=true then some (h (ps.getD i 0)) else none)=(ps.find? P).map h:=by
 have e:(qm ps.length).map (fun i=>ps.getD i 0)=ps:=by
  apply List.ext_getElem?;intro i;rw[qA];by_cases hi:i<ps.length
  ·rw[z9 hi]
   show some (ps.getD i 0)=_;rw[qH,qE hi];rfl
  ·rw[qbq (by simp;omega),qbq (by omega)];rfl
 have k:∀l:List Nat,l.findSome? (fun x=>if P x=true then some (h x) else none)=(l.find? P).map h:=fun l=>by
  induction l with
  | nil=>rfl
  | cons x l ih=>
   rw[qbH,ye]
   cases hx:P x with
   | true=>rfl
   | false=>exact ih
 rw[<-k ps]
 conv=>rhs;rw[<-e]
 rw[List.findSome?_map];rfl
section
variable {n:Nat}{A:Nat->List Nat}{ap:Nat->Nat->Bool}
theorem ZjH (hA:∀p o,ap p o=decide (o∈A p)){p:Nat}(hp:p<n)(ps:List Nat)(hl:ps.length<=1000)(s:Pn):ZfZ [YS n A,nD p,.lst (ps.map nD)] s=some (.lst ((ps.filter fun o=>ap p o).map nD),s):=by
 have hc:=Xa (src:=[none,some 0,some 1]) (fi:=Z4 (Za 2)) (τ:=Zy 0) (ft:=asB (Zd Yq (Za 0) (Zd Zl (Za 1) (Za 2)))) (fe:=Za 0) (ρ:=[some (YS n A),some (nD p),some (.lst (ps.map nD))]) (s:=s) (ds:=ps.map nD) (fun d=>[some d,some (YS n A),some (nD p)]) (fun d=>ap p (Yu d)) (fun d=>d) (Wa rfl) (by rw[qj,Ys];omega) (fun d hd=>by
  obtain⟨x,hx,rfl⟩:=qK.mp hd;exact⟨rfl,Y8 (ZB (d:=nD x) (e:=.dk (Xf (A p))) rfl (ZB (d:=YS n A) (e:=nD p) rfl rfl (ZjA hp)) (by rw[Zmv,<-hA];rfl)),fun _=>rfl⟩)
 rw[yf,qD] at hc;exact Xh rfl (Y6 (Xl hc))
theorem Znf (hA:∀p o,ap p o=decide (o∈A p)){Fs:List D->M D}{p:Nat}(hp:p<n){ps r:List Nat}(hl:ps.length<=1000)(hr:r.length<=1000){s:Pn}(hF:Fs [YS n A,YM n,.lst ((YG ap ps p).map nD)] s=some (.lst (r.map nD),s)):FHW Fs [YS n A,YM n,nD p,.lst (ps.map nD)] s=some (.lst ((p::r).map nD),s):=by
 have hc:=Xa (src:=[none,some 2,some 0]) (fi:=Z4 (Za 3)) (τ:=Zy 0) (ft:=WJ (asB (Zd XB (Za 0) (Za 1))) (asB (Zd Vg (Za 0) (Zd Zl (Za 2) (Za 1))))) (fe:=Za 0) (ρ:=[some (YS n A),some (YM n),some (nD p),some (.lst (ps.map nD)),none]) (s:=s) (ds:=ps.map nD) (fun d=>[some d,some (nD p),some (YS n A)]) (fun d=>!decide (Yu d=p) && !ap p (Yu d)) (fun d=>d) (Wa rfl) (by rw[qj,Ys];omega) (fun d hd=>by
  obtain⟨x,hx,rfl⟩:=qK.mp hd;refine⟨rfl,Zgm (Y8 (ZB (d:=nD x) (e:=nD p) rfl rfl (B0 x p))) fun _=>Y8 (ZB (d:=nD x) (e:=.dk (Xf (A p))) rfl (ZB (d:=YS n A) (e:=nD p) rfl rfl (ZjA hp)) (by rw[ZhG,<-hA];rfl)),fun _=>rfl⟩)
 rw[yf,qD] at hc;have e:(ps.filter ((fun d=>!decide (Yu d=p) && !ap p (Yu d))∘nD)).map ((fun d=>d)∘nD)=(YG ap ps p).map nD:=rfl;rw[e] at hc;refine Xh rfl (X9 (WW hc) (Y6 (Xl (ZB (d:=.lst [nD p]) (e:=.lst (r.map nD)) (Ur (Zh rfl rfl) (by show 1<=sizeLine;decide)) (Yl (Zh rfl (Zh rfl (Zh rfl rfl))) hF) ?_))));rw[ZkQ (by rw[qj];simp;omega)];rfl
theorem BS:∀(m:Nat) (ps:List Nat),∀x∈Yj ap m ps,x∈ps
 | 0,ps,x,hx=>by simp[Yj] at hx
 | m+1,ps,x,hx=>by
  unfold Yj at hx;by_cases h0:ps=[]
  ·rw[if_pos h0] at hx;cases hx
  ·rw[if_neg h0] at hx
   have w:=fun p (hp:p∈ps) (h:x∈p::Yj ap m (YG ap ps p))=>show x∈ps from by
    rcases qt.mp h with e | h
    ·rw[e];exact hp
    ·exact(Uh x (BS m _ x h)).1
   split at hx
   ·rename_i p hp
    exact w _ (BG hp).1 hx
   ·split at hx
    ·exact w _ (Bs h0) hx
    ·exact(qC.mp (BS m _ x hx)).1
set_option maxHeartbeats 1000000 in
theorem ZaU (hA:∀p o,ap p o=decide (o∈A p))(s:Pn):∀(m:Nat) (ps:List Nat),ps.length<m->m<=100->(∀p∈ps,p<n)->UE m [YS n A,YM n,.lst (ps.map nD)] s=some (.lst ((Yj ap m ps).map nD),s)
 | 0,_,h,_,_=>by omega
 | m+1,ps,hl,hm,hn=>by
  have hpl:Yv (ps.map nD)=true:=ZcA ps;have hdp:Xv (ps.map nD)<=10:=by rw[Zgw];omega
  have heq:=Zmw (ps.map nD) hpl hdp;by_cases h0:ps=[]
  ·subst h0
   refine Xh rfl (Y6 (Zlf (Y8 (ZB (d:=.lst []) (e:=.lst []) rfl (Ur rfl (zj _)) heq)) (Y6 (Xl (d:=.lst []) (Ur rfl (zj _))))))
  ·have hf:decide (ps.map nD=[])=false:=by simpa using h0
   rw[hf] at heq;have hcs:ps.map (Y0 ap ps)≠[]:=by simpa using h0
   have hc:=Xa (src:=[none,some 0,some 2]) (fi:=Z4 (Za 2)) (τ:=Zy 0) (ft:=Ya) (fe:=Zq ZfZ (Zc (Za 1) (Zc (Za 0) (Zc (Za 2) Ze)))) (ρ:=[some (YS n A),some (YM n),some (.lst (ps.map nD)),none,none,none,none,none,none]) (s:=s) (ds:=ps.map nD) (fun d=>[some d,some (YS n A),some (.lst (ps.map nD))]) (fun _=>true) (fun d=>.lst ((ps.filter fun o=>ap (Yu d) o).map nD)) (Wa rfl) (by rw[qj,Ys];omega) (fun d hd=>by
    obtain⟨x,hx,rfl⟩:=qK.mp hd;exact⟨rfl,rfl,fun _=>Yl (Zh rfl (Zh rfl (Zh rfl rfl))) (ZjH hA (hn x hx) ps (by omega) s)⟩)
   rw[Ug,qD] at hc;generalize hR:ps.map ((fun d=>D.lst ((ps.filter fun o=>ap (Yu d) o).map nD))∘nD)=R at hc;have kw:∀p,p∈ps->FHW (UE m) [YS n A,YM n,nD p,.lst (ps.map nD)] s=some (.lst ((p::Yj ap m (YG ap ps p)).map nD),s):=fun p hp=>by
    have hlt:=ZeY (ap:=ap) hp;have hb:=BR (ap:=ap) m (YG ap ps p);exact Znf hA (hn p hp) (by omega) (by omega) (ZaU hA s m (YG ap ps p) (by omega) (by omega) fun x hx=>hn x (Uh x hx).1)
   have hrow:∀i,i<ps.length->Zl (.lst R) (nD i)=some (.lst ((ps.filter fun o=>ap (ps.getD i 0) o).map nD)):=fun i hi=>by
    refine Wl ?_;rw[<-hR,qA,qH,qE hi];rfl
   have hpl2:∀i,i<ps.length->Zl (.lst (ps.map nD)) (nD i)=some (nD (ps.getD i 0)):=fun i hi=>Zgx hi;have hgm:∀i,i<ps.length->ps.getD i 0∈ps:=fun i hi=>by
    rw[qH,qE hi];exact qap hi
   have hfind:=Zdx (τ:=Zy 4) (body:=Zlx (UE m)) (s:=s) (fun ρ=>∃o4,ρ=[some (YS n A),some (YM n),some (.lst (ps.map nD)),some (.lst R),o4,none,none,none,none]) (fun i=>if decide (Y0 ap ps (ps.getD i 0)<=1)=true then some (.lst ((ps.getD i 0::Yj ap m (YG ap ps (ps.getD i 0))).map nD)) else none) (qm ps.length) [some (YS n A),some (YM n),some (.lst (ps.map nD)),some (.lst R),none,none,none,none,none] ⟨none,rfl⟩ (fun i hi ρ hρ=>by
    obtain⟨o4,rfl⟩:=hρ;have hi:=qS.mp hi;refine⟨_,rfl,?_⟩;have hcond:asB (Zd Jj (Zq Vd (Zc (Za 1) (Zc (Zd Zl (Za 3) (Za 4)) Ze))) (Zd Zl (Za 1) (Zd Zl (Za 2) (Za 4)))) [some (YS n A),some (YM n),some (.lst (ps.map nD)),some (.lst R),some (nD i),none,none,none,none] s=some (decide (Y0 ap ps (ps.getD i 0)<=1),s):=by
     refine Y8 (ZB (Yl (Zh rfl (Zh (ZB (d:=.lst R) (e:=nD i) rfl rfl (hrow i hi)) rfl)) (ZaB (fun p hp=>hn p (qC.mp hp).1) (by have:=zq (fun o=>ap (ps.getD i 0) o) ps;omega) s)) (ZB (d:=YM n) rfl (ZB (d:=.lst (ps.map nD)) (e:=nD i) rfl rfl (hpl2 i hi)) (ZgA (hn _ (hgm i hi)))) ?_);show some (D.bl (decide (((ps.filter fun o=>ap (ps.getD i 0) o).length:Int)<=(1:Int))))=_;congr 2;exact decide_eq_decide.mpr (by unfold Y0;omega)
    by_cases hq:Y0 ap ps (ps.getD i 0)<=1
    ·rw[decide_eq_true hq] at hcond⊢
     rw[if_pos rfl];exact Y6 (Zlf hcond (Y6 (Xl (Yl (Zh rfl (Zh rfl (Zh (ZB (d:=.lst (ps.map nD)) (e:=nD i) rfl rfl (hpl2 i hi)) (Zh rfl rfl)))) (kw _ (hgm i hi))))))
    ·rw[decide_eq_false hq] at hcond⊢
     rw[if_neg zD];exact⟨_,X9 (Zlg hcond rfl) rfl,some (nD i),rfl⟩)
   rw[Zf0 (fun p=>decide (Y0 ap ps p<=1)) (fun p=>.lst ((p::Yj ap m (YG ap ps p)).map nD)) ps] at hfind;have hit:Yb (ZN YC (Zc (Za 2) Ze)) [some (YS n A),some (YM n),some (.lst (ps.map nD)),some (.lst R),none,none,none,none,none] s=some ((qm ps.length).map nD,s):=by
    have:=XZ (f:=ZN YC (Zc (Za 2) Ze)) (ρ:=[some (YS n A),some (YM n),some (.lst (ps.map nD)),some (.lst R),none,none,none,none,none]) (s:=s) (n:=ps.length) (YX (Zh rfl rfl) (ZhC ps)) (by omega);rw[Vy] at this;exact this
   unfold Yj;rw[if_neg h0];refine Xh rfl (X9 (Zlg (Y8 (ZB (d:=.lst (ps.map nD)) (e:=.lst []) rfl (Ur rfl (zj _)) heq)) rfl) (X9 (WW hc) ?_));show Zi _ _ [some (YS n A),some (YM n),some (.lst (ps.map nD)),some (.lst R),none,none,none,none,none] s=_
   cases ho:one? ap ps with
   | some p=>
    have ho':ps.find? (fun p=>decide (Y0 ap ps p<=1))=some p:=ho;rw[ho'] at hfind;exact Y6 (Zgn hit hfind)
   | none=>
    have ho':ps.find? (fun p=>decide (Y0 ap ps p<=1))=none:=ho;rw[ho'] at hfind;obtain⟨ρ2,hf2,o4,rfl⟩:=hfind;refine X9 (Zgn hit hf2) ?_;have hmax:=ZjB hcs;have hp1:=Bs (ap:=ap) h0;have hix:Zl (.lst (ps.map nD)) (nD ((ps.map (Y0 ap ps)).idxOf (Vu (ps.map (Y0 ap ps)))))=some (nD (Ye ap ps)):=Zgx (by
     have:=yY.mpr (ZfW hcs);simpa using this)
    have hcc:=Xa (src:=[none]) (fi:=Z4 (Za 3)) (τ:=Zy 0) (ft:=Ya) (fe:=ZN YC (Zc (Za 0) Ze)) (ρ:=[some (YS n A),some (YM n),some (.lst (ps.map nD)),some (.lst R),o4,none,none,none,none]) (s:=s) (ds:=R) (fun d=>[some d]) (fun _=>true) (fun d=>match d with | .lst l=>nD l.length | _=>.non) (Wa rfl) (by rw[<-hR,qj,Ys];omega) (fun d hd=>by
     rw[<-hR] at hd;obtain⟨x,hx,rfl⟩:=qK.mp hd;exact⟨rfl,rfl,fun _=>YX (Zh rfl rfl) rfl⟩)
    rw[Ug,<-hR,qD] at hcc;have e5:ps.map ((fun d=>match d with | .lst l=>nD l.length | _=>D.non)∘((fun d=>D.lst ((ps.filter fun o=>ap (Yu d) o).map nD))∘nD))=(ps.map (Y0 ap ps)).map nD:=by
     rw[qD];refine zu fun x _=>?_;show nD ((ps.filter fun o=>ap x o).map nD).length=nD (Y0 ap ps x);rw[qj];rfl
    rw[e5,hR] at hcc;have hwo:=ZcB hp1;have ih2:=ZaU hA s m (ps.filter fun o=>!decide (o=Ye ap ps)) (by omega) (by omega) fun x hx=>hn x (qC.mp hx).1;have hc2:=Xa (src:=[none,some 6]) (fi:=Z4 (Za 2)) (τ:=Zy 0) (ft:=asB (Zd XB (Za 0) (Za 1))) (fe:=Za 0) (ρ:=[some (YS n A),some (YM n),some (.lst (ps.map nD)),some (.lst R),o4,some (.lst ((ps.map (Y0 ap ps)).map nD)),some (nD (Ye ap ps)),some (.lst ((Ye ap ps::Yj ap m (YG ap ps (Ye ap ps))).map nD)),none]) (s:=s) (ds:=ps.map nD) (fun d=>[some d,some (nD (Ye ap ps))]) (fun d=>!decide (Yu d=Ye ap ps)) (fun d=>d) (Wa rfl) (by rw[qj,Ys];omega) (fun d hd=>by
     obtain⟨x,hx,rfl⟩:=qK.mp hd;exact⟨rfl,Y8 (ZB (d:=nD x) (e:=nD (Ye ap ps)) rfl rfl (B0 _ _)),fun _=>rfl⟩)
    have e2:((ps.map nD).filter fun d=>!decide (Yu d=Ye ap ps)).map (fun d=>d)=(ps.filter fun o=>!decide (o=Ye ap ps)).map nD:=by rw[yf,qD];rfl
    rw[e2] at hc2;have bl1:=BR (ap:=ap) m (YG ap ps (Ye ap ps));have bl2:=BR (ap:=ap) m (ps.filter fun o=>!decide (o=Ye ap ps));have w1:=ZaB (n:=n) (ps:=Ye ap ps::Yj ap m (YG ap ps (Ye ap ps))) (fun p hp=>by
     rcases qt.mp hp with e | hp
     ·rw[e];exact hn _ hp1
     ·exact hn p (Uh p (BS m _ p hp)).1) (by simp only[qT];omega) s
    have w2:=ZaB (n:=n) (ps:=Yj ap m (ps.filter fun o=>!decide (o=Ye ap ps))) (fun p hp=>hn p (qC.mp (BS m _ p hp)).1) (by omega) s;refine X9 (WW hcc) (X9 (WW (ZB (d:=.lst (ps.map nD)) rfl (ZB (d:=.lst ((ps.map (Y0 ap ps)).map nD)) rfl (YX (Zh rfl rfl) hmax) (ZfX (ZfW hcs))) hix)) (X9 (WW (Yl (Zh rfl (Zh rfl (Zh rfl (Zh rfl rfl)))) (kw _ hp1))) (X9 (WW (Yl (Zh rfl (Zh rfl (Zh hc2 rfl))) ih2)) (Y6 (Xl ?_)))));have hge:=geN (Ye ap ps::Yj ap m (YG ap ps (Ye ap ps))).length (Yj ap m (ps.filter fun o=>!decide (o=Ye ap ps))).length;have ht:=Y8 (ZB (g:=V5) (ρ:=[some (YS n A),some (YM n),some (.lst (ps.map nD)),some (.lst R),o4,some (.lst ((ps.map (Y0 ap ps)).map nD)),some (nD (Ye ap ps)),some (.lst ((Ye ap ps::Yj ap m (YG ap ps (Ye ap ps))).map nD)),some (.lst ((Yj ap m (ps.filter fun o=>!decide (o=Ye ap ps))).map nD))]) (s:=s) (Yl (F:=Vd) (fs:=Zc (Za 1) (Zc (Za 7) Ze)) (Zh rfl (Zh rfl rfl)) w1) (Yl (F:=Vd) (fs:=Zc (Za 1) (Zc (Za 8) Ze)) (Zh rfl (Zh rfl rfl)) w2) hge);generalize hX:Ye ap ps::Yj ap m (YG ap ps (Ye ap ps))=X at ht⊢;generalize hY:Yj ap m (ps.filter fun o=>!decide (o=Ye ap ps))=Y at ht⊢;have hfin:∀ρ:Zb,(ρ[7]?).bind id=some (.lst (X.map nD))->(ρ[8]?).bind id=some (.lst (Y.map nD))->asB (Zd V5 (Zq Vd (Zc (Za 1) (Zc (Za 7) Ze))) (Zq Vd (Zc (Za 1) (Zc (Za 8) Ze)))) ρ s=some (decide (Y.length<=X.length),s)->Bf (asB (Zd V5 (Zq Vd (Zc (Za 1) (Zc (Za 7) Ze))) (Zq Vd (Zc (Za 1) (Zc (Za 8) Ze))))) (Za 7) (Za 8) ρ s=some (.lst ((if Y.length<=X.length then X else Y).map nD),s):=fun ρ h7 h8 ht=>by
     unfold Bf Zm;rw[ht];by_cases hq:Y.length<=X.length
     ·simp only[hq,decide_true,if_true]
      unfold Za YN;rw[h7]
     ·simp only[hq,decide_false,if_false,yd]
      unfold Za YN;rw[h8]
    exact hfin _ rfl rfl ht
end
end TQ
namespace TQ
open L2 TF TS
open TP
open TP2
open TP3
noncomputable def XR (n:Nat)(jK:List (Nat×Nat)):List Nat:=UZ n (Yj (tied (Yd n jK)) 26 (qm n))
noncomputable def gHK:Zb->M Out:=(Zi (ZW 2 (Z0 [none] (Z4 (Zq (runB 2 1 gN) (Zc (Zq Vc (Zc (Za 0) Ze)) Ze))) (Zy 0) Ya (ZN BV (Zc (Z0 [none] (Z4 (Za 0)) (Zy 0) Ya (ZV (Zc (Za 0) (Zc (dC (.bl true)) Ze)))) Ze))))
 (Zi (ZR (ZN JS (Zc (ZN BO (Zc (Zq (UE 26) (Zc (Za 2) (Zc (Za 1) (Zc (WQ (Zd Zl (Za 0) (dC (.int 0)))) Ze)))) Ze)) Ze)))
 Zt))
theorem ZaV {n:Nat}{jK:List (Nat×Nat)}(hw:XT n jK)(hn:n<=24):XR n jK∈kn jK n/\∀K∈kn jK n,K.length<=(XR n jK).length:=by
 have sy:∀a b,tied (Yd n jK) a b=tied (Yd n jK) b a:=Zbu _;have hk:=BH sy 26 (qm n);have hlt:∀x∈Yj (tied (Yd n jK)) 26 (qm n),x<n:=fun x hx=>qS.mp (hk.sub x hx);have hp:=ZaT hk.nd hlt;constructor
 ·refine Ul.mpr ⟨ZbL _ _,fun o ho=>hlt o (hp.mem_iff.mp ho),fun a ha b hb ne=>?_⟩
  have ha':=hp.mem_iff.mp ha;have hb':=hp.mem_iff.mp hb;have:=hk.two a ha' b hb' ne
  cases h:tied jK a b with
  | true=>rfl
  | false=>
   have:=BA.mpr ⟨hlt a ha',hlt b hb',ne,h⟩;simp_all
 ·intro K hK
  obtain⟨h1,h2,h3⟩:=Ul.mp hK;have:=ZcE sy ZjD 26 (qm n) K (by rw[qW];omega) ⟨Za9 h1,fun x hx=>qS.mpr (h2 x hx),fun x hx y hy ne=>by
   cases h:tied (Yd n jK) x y with
   | false=>rfl
   | true=>
    have h4:=(BA.mp h).2.2.2;rw[h3 x hx y hy ne] at h4;cases h4⟩
  have e:=hp.length_eq;show K.length<=(UZ n _).length;omega
theorem Zf1 {n:Nat}{jK:List (Nat×Nat)}:(XR n jK).length<=n:=by
 have:=zq (fun x=>decide (x∈Yj (tied (Yd n jK)) 26 (qm n))) (qm n);rw[qW] at this;exact this
theorem ZjI (n:Nat)(jK:List (Nat×Nat))(hn:n<=24)(hl:jK.length<=100000)(s:Pn):runB 3 2 gHK [ZX n jK,YM n] s=some (XE (XR n jK),s):=by
 have sy:∀a b,tied (Yd n jK) a b=tied (Yd n jK) b a:=Zbu _;have hk:=BH sy 26 (qm n);have hlt:∀x∈Yj (tied (Yd n jK)) 26 (qm n),x<n:=fun x hx=>qS.mp (hk.sub x hx);have hp:=ZaT hk.nd hlt;have htl:=(ZhH n jK).len hn;have hc:=Xa (src:=[none]) (fi:=Z4 (Zq (runB 2 1 gN) (Zc (Zq Vc (Zc (Za 0) Ze)) Ze))) (τ:=Zy 0) (ft:=Ya) (fe:=ZN BV (Zc (Z0 [none] (Z4 (Za 0)) (Zy 0) Ya (ZV (Zc (Za 0) (Zc (dC (.bl true)) Ze)))) Ze)) (ρ:=[some (ZX n jK),some (YM n),none]) (s:=s) (ds:=(qm n).map fun p=>D.lst ((Yg n (Yd n jK) p).map nD)) (fun d=>[some d]) (fun _=>true) (fun d=>match d with | .lst ds=>.dk (Xf (ds.map Yu)) | _=>.non)
  (Wa (Yl (Zh (Yl (Zh rfl rfl) (ZcD n jK s (by omega) hl)) rfl) (Zbp n (Yd n jK) (by omega) (by omega) s))) (by rw[qj,qW,Ys];omega) (fun d hd=>by
  obtain⟨p,hp,rfl⟩:=qK.mp hd;refine⟨rfl,rfl,fun _=>?_⟩;have hnl:(Yg n (Yd n jK) p).length<=n:=by
   have:=zq (fun o=>tied (Yd n jK) p o) (qm n);rw[qW] at this;exact this
  have hc2:=Xa (src:=[none]) (fi:=Z4 (Za 0)) (τ:=Zy 0) (ft:=Ya) (fe:=ZV (Zc (Za 0) (Zc (dC (.bl true)) Ze))) (ρ:=[some (D.lst ((Yg n (Yd n jK) p).map nD))]) (s:=s) (ds:=(Yg n (Yd n jK) p).map nD) (fun d=>[some d]) (fun _=>true) (fun d=>D.tup [d,.bl true]) (Wa rfl) (by rw[qj,Ys];omega) (fun d hd=>⟨rfl,rfl,fun _=>Wc (Zh rfl (Zh rfl rfl)) two_le⟩);rw[Ug,qD] at hc2;refine YX (Zh hc2 rfl) ?_;show(if ((Yg n (Yd n jK) p).map ((fun d=>D.tup [d,.bl true])∘nD)).length<=sizeLine then (WE [] _).map D.dk else none)=_;rw[if_pos (by rw[qj,Ys];omega)];have e:=Zjz (Yg n (Yd n jK) p) [] (qar.sublist zv) fun _ _=>rfl;show(WE [] ((Yg n (Yd n jK) p).map fun o=>D.tup [nD o,.bl true])).map D.dk=_;rw[e];show some (D.dk (Xf (Yg n (Yd n jK) p)))=some (D.dk (Xf (((Yg n (Yd n jK) p).map nD).map Yu)));rw[qD];have:(Yg n (Yd n jK) p).map (Yu∘nD)=Yg n (Yd n jK) p:=qbi _;rw[this])
 rw[Ug,qD] at hc;have e1:(qm n).map ((fun d=>match d with | .lst ds=>D.dk (Xf (ds.map Yu)) | _=>.non)∘fun p=>D.lst ((Yg n (Yd n jK) p).map nD))=(qm n).map fun p=>.dk (Xf (Yg n (Yd n jK) p)):=by
  refine zu fun p _=>?_;show D.dk (Xf (((Yg n (Yd n jK) p).map nD).map Yu))=_;rw[qD];have:(Yg n (Yd n jK) p).map (Yu∘nD)=Yg n (Yd n jK) p:=qbi _;rw[this]
 rw[e1] at hc;have hb:=ZaU (n:=n) (A:=Yg n (Yd n jK)) (ap:=tied (Yd n jK)) ZcY s 26 (qm n) (by rw[qW];omega) (by omega) fun p hp=>qS.mp hp;have hlr:WQ (Zd Zl (Za 0) (dC (.int 0))) [some (ZX n jK),some (YM n),some (YS n (Yg n (Yd n jK)))] s=some (.lst ((qm n).map nD),s):=by
  unfold WQ Zm;rw[ZB (d:=ZX n jK) (e:=.int 0) rfl rfl Jd];show(if -(2 ^ 62)<=(n:Int)/\(n:Int)<=2 ^ 24 then ZD (D.lst (Z3 0 (n:Int).toNat)) else Zz) s=_;rw[if_pos ⟨by omega,by omega⟩,z5,Vy];rfl
 have hbl:=BR (ap:=tied (Yd n jK)) 26 (qm n);have hs:=ZhI hk.nd hlt (by omega);exact Xh rfl (X9 (WW hc) (Y6 (Xl (YX (c:=XE (XR n jK)) (Zh (YX (Zh (Yl (Zh rfl (Zh rfl (Zh hlr rfl))) hb) rfl) hs) rfl) rfl))))
end TQ
namespace TQ
open L2 TF TS
open TP
open TP2
open TP3
theorem ZhL (n:Nat)(hn:n<=1000):Zgq (.tup [nD 1]) (nD n)=some (YM n):=by
 show(if (n:Int)=1 then some (D.tup [nD 1]) else if (n:Int)=0/\[nD 1]≠[] then some (.tup []) else U3 (.tup [nD 1]) (.int (n:Int)))=_;by_cases h1:n=1
 ·subst h1;rw[if_pos (by omega)];rfl
 ·rw[if_neg (by omega)]
  by_cases h0:n=0
  ·subst h0;rw[if_pos ⟨by omega,by simp⟩];rfl
  ·rw[if_neg (by omega)]
   show(if [nD 1]≠[]/\2<=(n:Int)/\(n:Int)<2 ^ 62/\[nD 1].length*(n:Int).toNat<=sizeLine then some (D.tup (qu (n:Int).toNat [nD 1]).flatten) else none)=_;rw[if_pos ⟨by simp,by omega,by omega,by simp only[zy,z5,Ys];omega⟩,z5,List.flatten_replicate_singleton]
theorem Zdy {n:Nat}{jK:List (Nat×Nat)}(hw:XT n jK)(hn:n<=24):(Zgz n jK).length=(XR n jK).length:=by
 obtain⟨a1,a2⟩:=ZcC hw hn;obtain⟨b1,b2⟩:=ZaV hw hn;have:=a2 _ b1;have:=b2 _ a1;omega
end TQ
namespace TP3
open L2 TF TP TS
open TP2
noncomputable abbrev om (n:Nat)(jK:List (Nat×Nat)):Nat:=(Zgz n jK).length
section
variable {n:Nat}{jK:List (Nat×Nat)}
theorem Zng (hw:XT n jK)(hn:n<=24){K:List Nat}(h:K∈kn jK n):K.length<=om n jK:=(ZcC hw hn).2 K h
noncomputable def Wu (n:Nat)(p:Nat->Bool):List Nat:=(qm n).filter p
theorem Ze0 (n:Nat)(p:Nat->Bool):(Wu n p).Pairwise (· < ·):=(Bx n).sublist zv
theorem Vf {p:Nat->Bool}{x:Nat}:x∈Wu n p↔x<n/\p x=true:=by unfold Wu;rw[qC,qS]
theorem ZgC (n:Nat)(p:Nat->Bool):(Wu n p).length<=n:=by
 have:=zq p (qm n);rw[qW] at this;exact this
end
end TP3
namespace TQ
open L2 TF TS
open TP
open TP2
open TP3
theorem Znh (n:Nat)(jK:List (Nat×Nat))(hn:n<=1000)(hl:jK.length<=100000)(s:Pn):UK [ZX n jK] s=some (Vi n jK,s):=Zbp n jK hn hl s
theorem Zly:∀m,Ua m=UE m
 | 0=>rfl
 | m+1=>by
  show runB 9 3 (Zac (Ua m))=runB 9 3 (gHA (UE m));rw[Zly m];rfl
theorem Zni:Jp=runB 3 2 gHK:=by
 unfold Jp ZaC;rw[Zly];rfl
theorem ZjJ (n:Nat)(jK:List (Nat×Nat))(hn:n<=24)(hl:jK.length<=100000)(s:Pn):VB [ZX n jK] s=some (.tup [nD (XR n jK).length,XE (XR n jK)],s):=by
 have h:=ZjI n jK hn hl s;rw[<-Zni] at h;exact Xh rfl (X9 (WW (Yl (Zh rfl (Zh (ZB (Wc (ds:=[nD 1]) (Zh rfl rfl) (by show 1<=sizeLine;decide)) (ZB (d:=ZX n jK) (e:=.int 0) rfl rfl Jd) (ZhL n (by omega))) rfl)) h)) (Y6 (Xl (Wc (ds:=[nD (XR n jK).length,XE (XR n jK)]) (Zh (YX (Zh rfl rfl) (by show some (D.int _)=_;rw[qj])) (Zh rfl rfl)) two_le))))
theorem Ze1 {n:Nat}{jK:List (Nat×Nat)}(hw:XT n jK)(hn:n<=24)(s:Pn):VB [ZX n jK] s=some (.tup [nD (om n jK),XE (XR n jK)],s):=by
 have hl:=hw.len hn;have h:=ZjJ n jK hn (by omega) s;rw[<-Zdy hw hn] at h;exact h
theorem ZkU {n:Nat}{jK:List (Nat×Nat)}{p:Nat}{qs:List Nat}{f:Nat->Nat}(hn:n<=24)(hpn:p<n)(hp:p∉qs)(hq:∀q∈qs,q<n)(hl:qs.length<=1000)(o1:Option D)(s:Pn) :
  (U4 3 (fun ρ=>(Za 4) (Z8 [3] ρ)) (W9 true (Zq UH (Zc (Z0 [none,some 3] (Z4 (Zd Zl (Za 2) (Za 4))) (Zy 0) (asB (Zd Yq (Za 0) (Za 1))) (Zd V1 (Za 1) (Za 0))) Ze)))) [some (ZX n jK),o1,some (Vi n jK),some (.dk (YE qs f)),some (nD p)] s
   = some (.nx [some (ZX n jK),o1,some (Vi n jK),some (.dk (YE (qs ++ [p]) fun x=>if x=p then XY ((qs.filter fun o=>tied jK p o).map f) else f x)),some (nD p)],s):=by
 have hc:=Xa (src:=[none,some 3]) (fi:=Z4 (Zd Zl (Za 2) (Za 4))) (τ:=Zy 0) (ft:=asB (Zd Yq (Za 0) (Za 1))) (fe:=Zd V1 (Za 1) (Za 0)) (ρ:=[some (ZX n jK),o1,some (Vi n jK),some (.dk (YE qs f)),some (nD p)]) (s:=s) (ds:=(Yg n jK p).map nD) (fun d=>[some d,some (.dk (YE qs f))]) (fun d=>decide (Yu d∈qs)) (fun d=>nD (f (Yu d)))
  (Wa (ZB (d:=Vi n jK) (e:=nD p) rfl rfl (ZkS hpn))) (by
   have:=zq (fun o=>tied jK p o) (qm n);rw[qj,Ys];rw[qW] at this;show(Yg n jK p).length<=_;unfold Yg;omega) (fun d hd=>by
  obtain⟨x,hx,rfl⟩:=qK.mp hd;exact⟨rfl,Y8 (ZB (d:=nD x) (e:=.dk (YE qs f)) rfl rfl (Zmu qs f x)),fun hb=>ZB (d:=.dk (YE qs f)) (e:=nD x) rfl rfl (Zjy (of_decide_eq_true hb))⟩)
 have e:(((Yg n jK p).map nD).filter fun d=>decide (Yu d∈qs)).map (fun d=>nD (f (Yu d)))=(((Yg n jK p).filter fun o=>decide (o∈qs)).map f).map nD:=by
  rw[yf,qD,qD];rfl
 rw[e] at hc;have jV:(((Yg n jK p).filter fun o=>decide (o∈qs)).map f).length<=1000:=by
  rw[qj];have h1:=zq (fun o=>decide (o∈qs)) (Yg n jK p);have h2:=zq (fun o=>tied jK p o) (qm n);rw[qW] at h2;unfold Yg at h1;unfold Yg;omega
 have hm:XY (((Yg n jK p).filter fun o=>decide (o∈qs)).map f)=XY ((qs.filter fun o=>tied jK p o).map f):=Zdv fun x=>by
  simp only[Yg,qK,qC,qS,decide_eq_true_eq];constructor
  ·rintro⟨a,⟨⟨_,h2⟩,h3⟩,rfl⟩;exact⟨a,⟨h3,h2⟩,rfl⟩
  ·rintro⟨a,⟨h3,h2⟩,rfl⟩;exact⟨a,⟨⟨hq a h3,h2⟩,h3⟩,rfl⟩
 have hf:=ZcX (((Yg n jK p).filter fun o=>decide (o∈qs)).map f) jV s;rw[hm] at hf;have hv:(W9 true (Zq UH (Zc (Z0 [none,some 3] (Z4 (Zd Zl (Za 2) (Za 4))) (Zy 0) (asB (Zd Yq (Za 0) (Za 1))) (Zd V1 (Za 1) (Za 0))) Ze))) [some (ZX n jK),o1,some (Vi n jK),some (.dk (YE qs f)),some (nD p)] s=some (nD (XY ((qs.filter fun o=>tied jK p o).map f)),s):=Zl4 (Yl (Zh hc rfl) hf) rfl;rw[ZkN hv (x:=nD p) rfl (kvs:=YE qs f) rfl rfl rfl (by unfold YE;rw[qj,Ys];omega),ZkM hp];rfl
theorem ZjK (n:Nat)(jK:List (Nat×Nat))(hw:XT n jK)(hn:n<=24){ps:List Nat}(hp:ps.Perm (qm n))(s:Pn):Js [ZX n jK,.lst (ps.map nD)] s=some (XE (U6 n jK ps),s):=by
 have nd:ps.Nodup:=hp.nodup_iff.mpr qar;have hl:ps.length=n:=by rw[hp.length_eq,qW]
 have hlt:∀q∈ps,q<n:=fun q hq=>qS.mp (hp.mem_iff.mp hq);have hlt2:=hw.len hn;refine jz (Ok.runB rfl (Ok.seq (.sset (.eq (Yl (Zh rfl rfl) (Znh n jK (by omega) (by omega) s)) (Ok.seq (Ok.sown (.eq (a:=.dk []) rfl ⟨rfl,?_⟩)))))));refine Ok.seq (.sfor (fun k ρ s'=>s'=s/\k<=ps.length/\∃o3,ρ=[some (ZX n jK),some (.lst (ps.map nD)),some (Vi n jK),some (.dk (YE (ps.take k) (hr jK (ps.take k).reverse))),o3]) (.eq (a:=ps.map nD) (s':=s) (Wa rfl) ⟨⟨rfl,zj _,none,by rw[qbp];rfl⟩,fun k d ρ s' hd hI=>?_,fun ρ' s' hI=>?_⟩))
 ·obtain⟨rfl,_,o3,rfl⟩:=hI
  rw[qA] at hd
  cases e:ps[k]? with
  | none=>rw[e] at hd;cases hd
  | some p=>
   rw[e] at hd
   cases hd
   refine⟨_,rfl,Ok.seq (.eq (ZkU (f:=hr jK (ps.take k).reverse) hn (hlt p (zF e)) (ZfV nd e) (fun q hq=>hlt q (List.take_subset _ _ hq)) (by rw[zU];omega) _ s') (.next ⟨_,rfl,rfl,?_,some (nD p),?_⟩))⟩
   ·have:=(qB.mp e).1;omega
   ·rw[ZkO jK e,ZbC e]
 ·obtain⟨rfl,_,o3,rfl⟩:=hI
  rw[qj,qaq];have hc:=Xa (src:=[none,some 3]) (fi:=Yb (Zd Zl (Za 0) (dC (.int 0)))) (τ:=Zy 0) (ft:=Ya) (fe:=Zd V1 (Za 1) (Za 0)) (ρ:=[some (ZX n jK),some (.lst (ps.map nD)),some (Vi n jK),some (.dk (YE ps (hr jK ps.reverse))),o3]) (s:=s') (ds:=Z3 0 n) (fun d=>[some d,some (.dk (YE ps (hr jK ps.reverse)))]) (fun _=>true) (fun d=>nD (hr jK ps.reverse (Yu d)))
   (XZ (ZB (d:=ZX n jK) (e:=.int 0) rfl rfl Jd) (by omega)) (by rw[Y2,Ys];omega) (fun d hd=>by
   obtain⟨i,hi,rfl⟩:=VM hd;exact⟨rfl,rfl,fun _=>ZB (d:=.dk (YE ps (hr jK ps.reverse))) (e:=nD i) rfl rfl (Zjy (hp.mem_iff.mpr (qS.mpr hi)))⟩)
  rw[Ug,Vy,qD] at hc;refine Ok.seq (.sret (.eq (YX (Zh hc rfl) (c:=XE (U6 n jK ps)) ?_) ⟨rfl,rfl⟩));show some (D.tup _)=some (D.tup _);unfold U6;rw[qD];rfl
end TQ
namespace TQ
open L2 TF TS
open TP
open TP2
open TP3
section
variable {jK:List (Nat×Nat)}{ws:List Wb}
end
end TQ
namespace TQ
open L2 TF TS
open TP
open TP2
open TP3
section
variable {n m:Nat}{t1 t2 T:List (Nat×Nat)}
end
end TQ
namespace TF
open L2
section
variable {X:Cx}{G:Gh}
end
section
variable {X:Cx}{G:Gh}
end
end TF
namespace TQ
open L2 TF TQ
open TP
open TP2
open TP3
end TQ
namespace TQ
open L2 TF TS
open TP
open TP2
open TP3
section
variable {jK:List (Nat×Nat)}
variable {n:Nat}{ps:List Nat}
end
end TQ
namespace TQ
open L2 TF TS
open TP
open TP2
open TP3
end TQ
namespace TF
open L2
section
variable {X:Cx}{G:Gh}{f:Zb->M D}
end
end TF
namespace TQ
open L2 TF TS
open TP
open TP2
open TP3
section
variable (ap:Nat->Nat->Bool)(W:List Nat)
end
section
variable {ap:Nat->Nat->Bool}{W:List Nat}
end
section
variable {n:Nat}{A:Nat->List Nat}{ap:Nat->Nat->Bool}
end
end TQ
namespace TQ
open L2 TF TS
open TP
open TP2
open TP3
end TQ
namespace TQ
open L2 TF TS
open TP
open TP2
open TP3
theorem Ze2 {F:List D->M D}{cds:List D}{s:Pn}(key:Nat->D):∀(ps:List Nat),(∀p∈ps,F (nD p::cds) s=some (key p,s))->J5 F cds (ps.map fun(i:Nat)=>(i:Int)) s=some (ps.map key,s)
 | [],_=>rfl
 | p::ps,h=>by
  show Zm (F (nD p::cds)) (fun k=>Zm (J5 F cds (ps.map fun(i:Nat)=>(i:Int))) fun ks=>ZD (k::ks)) s=_;unfold Zm;rw[h p zM];dsimp only;rw[Ze2 key ps fun q hq=>h q (qQ _ hq)];rfl
end TQ
namespace TQ
open L2 TF TS
open TP
open TP2
open TP3
noncomputable def gTp:Zb->M Out:=(Zi (ZW 2 (Zd Zl (YH (Zc (dC (.int 4)) (Zc (dC (.int 9)) (Zc (dC (.int 30)) (Zc (Zd WK (dC (.int 10)) (dC (.int 8))) Ze))))) (Zq Yf (Zc (Za 0) (Zc (dC (.int 4)) Ze)))))
 (Zi (ZW 3 (Zd Zl (Za 1) (Zq Yf (Zc (Za 0) (Zc (ZN YC (Zc (Za 1) Ze)) Ze)))))
 (Zi (ZW 4 (Zd YZ (dC (.int 1)) (ZN Zis (Zc (Zd Wh (Zq Yf (Zc (Za 0) (Zc (dC (.int 3)) Ze))) (dC (.int 0))) Ze))))
 (Zi (Vp 5 (YH Ze))
 (Zi (Xc (Yb (Zq Yf (Zc (Za 0) (Zc (dC (.int 13)) Ze)))) (Zy 6)
 (Zi (ZW 7 (fun ρ=>(Zd YZ (Za 3) (Zd Uy (Zq Yf (Zc (Za 0) (Zc (Za 2) Ze))) (Zd Zl (YH (Zc (dC (.int 1)) (Zc (Zd WK (dC (.int 10)) (dC (.int 12))) Ze))) (Zq Yf (Zc (Za 0) (Zc (Za 4) Ze)))))) (Z8 [5] ρ)))
 (Zi (U9 5 (fun ρ=>(ZV (Zc (Za 7) (Zc (Zd YZ (Zd YZ (Za 7) (dC (.int 1))) (Zd Uy (Zq Yf (Zc (Za 0) (Zc (Za 2) Ze))) (Zd Zl (YH (Zc (dC (.int 1)) (Zc (Zd WK (dC (.int 10)) (dC (.int 12))) Ze))) (Zq Yf (Zc (Za 0) (Zc (Za 4) Ze)))))) Ze))) (Z8 [5] ρ)))
 (Zi (Y1 (asB (Zd Wh (Zq Yf (Zc (Za 0) (Zc (dC (.int 5)) Ze))) (dC (.int 0))))
 (Zi (ZW 8 (W9 false (Zd Zl (Za 5) (Zq Yf (Zc (Za 0) (Zc (ZN YC (Zc (Za 5) Ze)) Ze))))))
 (Zi (B9 5 (fun ρ=>(dC (.int (-1))) (Z8 [5] ρ)) (fun ρ=>(Zd Zl (YH (Zc (Za 8) (Zc (ZV (Zc (Zd Zl (Za 8) (dC (.int 1))) (Zc (Zd YZ (Zd YZ (Zd Zl (Za 8) (dC (.int 1))) (dC (.int 1))) (Zq Yf (Zc (Za 0) (Zc (Za 2) Ze)))) Ze))) Ze))) (Zq Yf (Zc (Za 0) (Zc (dC (.int 2)) Ze)))) (Z8 [5] ρ)))
 Zt))
 Zt)
 Zt))))
 (Zi (ZR (Za 5))
 Zt))))))
noncomputable def FTp:List D->M D:=runB 9 2 gTp
noncomputable abbrev ZS (p:Int×Int):D:=.tup [.int p.1,.int p.2]
theorem pc0 (p:Int×Int):Zl (ZS p) (.int 0)=some (.int p.1):=U2 _ _
theorem Jm (p:Int×Int):Zl (ZS p) (.int 1)=some (.int p.2):=J4 _ _ _
noncomputable def Pb (fa:Int)(k:Nat)(p:Int×Int):Prop:=p.1<p.2/\fa<=p.1/\p.2<=fa+(k:Int)*1000000000000000000000
theorem Pb.mono {fa:Int}{k l:Nat}{p:Int×Int}(h:Pb fa k p)(hl:k<=l):Pb fa l p:=⟨h.1,h.2.1,by have:=h.2.2;omega⟩
theorem jG {i j:Nat}{fx fv:Zb->M D}{ρ:Zb}{s:Pn}{k:Int}{ds:List D}{Q:Out->Pn->Prop}(h3:(ρ[i]?).bind id=some (.lst ds))(h5:XX ds.length k=some j)(h:Ok (fv ρ) s fun v s1=>fx ρ s1=some (.int k,s1)/\Q (.nx (ρ.set i (some (.lst (ds.set j v))))) s1):Ok (B9 i fx fv ρ) s Q:=by
 refine .bind (h.mono fun v s1 q=>.bind (.eq q.1 ?_));simp only[h3,h5];exact .ret q.2
theorem jI {f:Zb->M D}{ρ:Zb}{s:Pn}{Q:D->Pn->Prop}(h:Ok (f ρ) s fun d s1=>Xb d=true/\Q d s1):Ok (W9 false f ρ) s Q:=
 .bind (h.mono fun d s1 q=>.ite (by simp[q.1]) (.ret q.2))
theorem Ze3 {fs1 fs2:Zb->M (List D)}{ρ:Zb}{s:Pn}{T wd ap:Nat}{Q:D->Pn->Prop}(ok:XI T s)(hT:T<900000000)(h1:∀s,fs1 ρ s=some ([.pen,nD wd],s))(h2:∀s,fs2 ρ s=some ([.pen,nD ap],s))(w0:0<wd)(w1:wd<=100000000)(a0:0<ap)(a1:ap<=2)
  (h:∀(x:Int) s',0<=x->x<=100000000000000000000->XI (T+2) s'->Q (.int x) s'):Ok (Zd Uy (Zq Yf fs1) (Zd Zl (YH (Zc (dC (.int 1)) (Zc (Zd WK (dC (.int 10)) (dC (.int 12))) Ze))) (Zq Yf fs2)) ρ) s Q:=by
 refine .op (.drawD (m:=wd) ok (by omega) (h1 s) w0 (by omega) fun r s1 hr ok1=>.op (.eq (a:=.lst [.int 1,.int 1000000000000]) (Ur (ds:=[.int 1,.int 1000000000000]) (Zh rfl (Zh (ZB (d:=.int 10) (e:=.int 12) rfl rfl rfl) rfl)) two_le) (.drawD (m:=ap) ok1 (by omega) (h2 s1) a0 (by omega) fun q s2 hq ok2=>?_)));have mul:∀y:Int,0<=y->y<=1000000000000->∃c,Uy (.int (r:Int)) (.int y)=some c/\Q c s2:=fun y y0 y1=>by
  refine⟨.int ((r:Int)*y),?_,?_⟩
  ·show(if J0 (r:Int) y=true then some (D.int ((r:Int)*y)) else none)=_
   rw[if_pos (by unfold J0;simp;left;omega)]
  ·refine h _ _ (Int.mul_nonneg (by omega) y0) ?_ ok2
   have:(r:Int)*y<=100000000*1000000000000:=Int.mul_le_mul (by omega) y1 y0 (by omega);omega
 match q,hq with
 | 0,_=>exact⟨.int 1,rfl,mul 1 (by omega) (by omega)⟩
 | 1,_=>exact⟨.int 1000000000000,rfl,mul 1000000000000 (by omega) (by omega)⟩
 | q+2,hq=>omega
theorem ZjL {α:Type}(l:List α)(x y:α):(l ++ [x]).set l.length y=l ++ [y]:=by
 rw[List.set_append_right _ _ (qp _),Nat.sub_self];rfl
set_option maxHeartbeats 1000000 in
theorem Zf2 {T m:Nat}{s:Pn}{faD:List D}{R:Int->Prop}(hfl:faD.length=m)(hm:0<m)(hm2:m<=100)(hfa:∀d∈faD,∃f:Int,d=.int f/\R f)(ok:XI T s)(hT:T<800000000):Ok (FTp [.pen,.lst faD]) s fun d s'=>XI (T+1000) s'/\∃(fa:Int) (l:List (Int×Int)),R fa/\d=.lst (l.map ZS)/\l.length<=12/\∀p∈l,Pb fa 12 p:=by
 refine Ok.runB rfl ?_;refine Ok.seq (.sset (Ok.pick (m:=4) (ds:=[nD 4,nD 9,nD 30,nD 100000000]) (Zh rfl (Zh rfl (Zh rfl (Zh (ZB (d:=.int 10) (e:=.int 8) rfl rfl rfl) rfl)))) rfl ok (by omega) rfl (by omega) (by omega) fun wdd s1 hwd ok1=>?_));obtain⟨wd,rfl,w0,w1⟩:∃wd:Nat,wdd=nD wd/\0<wd/\wd<=100000000:=by
  simp only[qt,ze,or_false] at hwd;rcases hwd with rfl | rfl | rfl | rfl
  all_goals exact⟨_,rfl,by omega,by omega⟩
 refine Ok.seq (.sset (.op (.eq (a:=.lst faD) rfl (.drawD (m:=m) ok1 (by omega) (Zh rfl (Zh (YX (Zh rfl rfl) (show some (D.int _)=some (D.int _) by rw[hfl])) rfl)) (by omega) (by omega) fun r s2 hr ok2=>?_))));obtain⟨fd,hfd,efd⟩:=ZdN (ds:=faD) (r:=r) (by rw[hfl];exact hr);refine⟨fd,efd,?_⟩;obtain⟨fa,rfl,hR⟩:=hfa _ hfd;refine Ok.seq (.sset (.op (.eq rfl (.call (.cons (.op (.drawD (m:=3) ok2 (by omega) (Zh rfl (Zh rfl rfl)) (by omega) (by omega) fun q s3 hq ok3=>.eq rfl ⟨_,eqi _ _,.nil ⟨_,rfl,_,rfl,?_⟩⟩)))))));obtain⟨ap,hap,a0,a1⟩:∃ap:Nat,(1:Int)+(if ((q:Int)==0)=true then 1 else 0)=(ap:Int)/\0<ap/\ap<=2:=by
  split
  ·exact⟨2,rfl,by omega,by omega⟩
  ·exact⟨1,rfl,by omega,by omega⟩
 rw[hap];refine Ok.seq (.sown (.eq (a:=.lst []) rfl ⟨rfl,?_⟩));refine Ok.seq (.sfor (fun k ρ s'=>XI (T+10+k*20) s'/\∃l:List (Int×Int),l.length=k/\(∀p∈l,Pb fa k p)/\∃o6 o7 o8,ρ=[some .pen,some (.lst faD),some (nD wd),some (.int fa),some (nD ap),some (.lst (l.map ZS)),o6,o7,o8]) (.range1 (.drawD (m:=13) ok3 (by omega) (Zh rfl (Zh rfl rfl)) (by omega) (by omega) fun n s4 hn ok4=>⟨n,rfl,by omega,⟨⟨ok4.mono (by omega),[],rfl,by simp,none,none,none,rfl⟩,fun k d ρ s' hd hI=>?_,fun ρ' s' hI=>?_⟩⟩)))
 ·obtain⟨ok5,l,hl,hP,o6,o7,o8,rfl⟩:=hI
  obtain⟨hk,rfl⟩:=UI hd;refine⟨_,rfl,?_⟩;refine Ok.seq (.sset (.op (.eq rfl (Ze3 ok5 (by omega) (fun _=>Zh rfl (Zh rfl rfl)) (fun _=>Zh rfl (Zh rfl rfl)) w0 w1 a0 a1 fun x s6 x0 x1 ok6=>⟨_,rfl,?_⟩))));refine Ok.seq (.sapp (ds:=l.map ZS) rfl (by rw[qj,Ys];omega) (.tup (.cons (.eq rfl (.cons (.op (.eq (a:=.int (fa+x+1)) rfl (Ze3 ok6 (by omega) (fun _=>Zh rfl (Zh rfl rfl)) (fun _=>Zh rfl (Zh rfl rfl)) w0 w1 a0 a1 fun y s7 y0 y1 ok7=>⟨_,rfl,.nil ⟨two_le,?_⟩⟩))))))));have hnew:Pb fa (k+1) (fa+x,fa+x+1+y):=⟨by show fa+x<fa+x+1+y;omega,by show fa<=fa+x;omega,by show fa+x+1+y<=_;omega⟩;have hPl:∀z:Int×Int,Pb fa (k+1) z->∀p∈l ++ [z],Pb fa (k+1) p:=fun z hz p hp=>by
   rcases qV.mp hp with h | h
   ·exact(hP p h).mono (by omega)
   ·rw[zf.mp h];exact hz
  have eA:l.map ZS ++ [ZS (fa+x,fa+x+1+y)]=(l ++ [(fa+x,fa+x+1+y)]).map ZS:=by rw[zY];rfl
  refine Ok.seq (.sif (.asB (.op (.drawD (m:=5) ok7 (by omega) (Zh rfl (Zh rfl rfl)) (by omega) (by omega) fun z s8 hz ok8=>.eq rfl ⟨_,eqi _ _,_,rfl,?_⟩))));split
  ·refine Ok.seq (.sset (jI (.op (.eq (a:=.lst ((l ++ [(fa+x,fa+x+1+y)]).map ZS)) (by rw[<-eA];rfl) (.drawD (m:=l.length+1) ok8 (by omega) (Zh rfl (Zh (YX (ds:=[.lst ((l ++ [(fa+x,fa+x+1+y)]).map ZS)]) (Zh (by rw[<-eA];rfl) rfl) (show some (D.int _)=some (D.int _) by rw[qj,qJ];rfl)) rfl)) (by omega) (by omega) fun q2 s9 hq2 ok9=>?_)))))
   have hq2':q2<((l ++ [(fa+x,fa+x+1+y)]).map ZS).length:=by rw[qj,qJ];exact hq2
   obtain⟨od,hod,eod⟩:=ZdN hq2';obtain⟨op,hop,rfl⟩:=qK.mp hod;refine⟨_,eod,rfl,?_⟩;have hold:=hPl _ hnew op hop;have h5:XX (l.map ZS ++ [ZS (fa+x,fa+x+1+y)]).length (-1)=some l.length:=by
    unfold XX;rw[qJ,qj];show(if (0:Int)<=-1 then _ else _)=_;rw[if_neg (by omega)];simp only[zy];rw[if_pos (by omega)];congr 1;omega
   refine Ok.seq (jG (k:=-1) (j:=l.length) (ds:=l.map ZS ++ [ZS (fa+x,fa+x+1+y)]) rfl h5 (.op (.bind (.cons (.eq rfl (.cons (.tup (.cons (.eq (a:=.int op.2) (ZB (d:=ZS op) (e:=.int 1) rfl rfl (Jm op)) (.cons (.op (.eq (a:=.int (op.2+1)) (ZB (d:=.int op.2) (e:=.int 1) (ZB (d:=ZS op) (e:=.int 1) rfl rfl (Jm op)) rfl rfl) (.drawD (m:=wd) ok9 (by omega) (Zh rfl (Zh rfl rfl)) w0 (by omega) fun v s10 hv ok10=>⟨_,rfl,.nil ⟨two_le,.nil (.ite two_le (.ret (.drawD (m:=2) ok10 (by omega) (Zh rfl (Zh rfl rfl)) (by omega) (by omega) fun u s11 hu ok11=>?_)))⟩⟩)))))))))))));have hnew2:Pb fa (k+1) (op.2,op.2+1+(v:Int)):=by
    obtain⟨g1,g2,g3⟩:=hold;obtain⟨i,hi⟩:=List.getElem?_of_mem hop;refine⟨by show op.2<op.2+1+(v:Int);omega,by show fa<=op.2;omega,?_⟩;show op.2+1+(v:Int)<=_;rcases qV.mp hop with h | h
    ·have:=(hP op h).2.2;omega
    ·rw[zf.mp h]
     show fa+x+1+y+1+(v:Int)<=_;omega
   have fin:∀z:Int×Int,Pb fa (k+1) z->XI (T+10+(k+1)*20) s11/\∃l':List (Int×Int),l'.length=k+1/\(∀p∈l',Pb fa (k+1) p)/\(l.map ZS ++ [ZS (fa+x,fa+x+1+y)]).set l.length (ZS z)=l'.map ZS:=fun z hz=>by
    refine⟨ok11.mono (by omega),l ++ [z],by rw[qJ,hl];rfl,hPl z hz,?_⟩;have:=ZjL (l.map ZS) (ZS (fa+x,fa+x+1+y)) (ZS z);rw[qj] at this;rw[this,zY];rfl
   match u,hu with
   | 0,_=>
    refine⟨ZS op,rfl,rfl,.next (.next ?_)⟩;obtain⟨b1,l',b2,b3,b4⟩:=fin op hold;exact⟨_,rfl,b1,l',b2,b3,some (nD k),some (.int (fa+x)),some (ZS op),by rw[<-b4];rfl⟩
   | 1,_=>
    refine⟨ZS (op.2,op.2+1+(v:Int)),rfl,rfl,.next (.next ?_)⟩;obtain⟨b1,l',b2,b3,b4⟩:=fin _ hnew2;exact⟨_,rfl,b1,l',b2,b3,some (nD k),some (.int (fa+x)),some (ZS op),by rw[<-b4];rfl⟩
   | u+2,hu=>omega
  ·refine .next (.next ⟨_,rfl,ok8.mono (by omega),l ++ [(fa+x,fa+x+1+y)],by rw[qJ,hl];rfl,hPl _ hnew,some (nD k),some (.int (fa+x)),o8,?_⟩)
   rw[<-eA];rfl
 ·obtain⟨ok5,l,hl,hP,o6,o7,o8,rfl⟩:=hI
  rw[Y2] at ok5 hl hP;exact Ok.seq (.sret (.eq rfl ⟨ok5.mono (by omega),fa,l,hR,rfl,by omega,fun p hp=>(hP p hp).mono (by omega)⟩))
noncomputable def Vt (p q:Int×Int):Bool:=decide (p.1<q.2)&&decide (q.1<p.2)
theorem ZgD (l:List (Int×Int))(i:Nat)(h:i<l.length):(l.map ZS).getD i .non=ZS (l.getD i (0,0)):=by
 rw[qH,qA,qH,qE h];rfl
theorem ZgE (l:List (Int×Int))(i:Nat)(h:i<l.length):Zl (.lst (l.map ZS)) (nD i)=some (ZS (l.getD i (0,0))):=by
 refine Wl ?_;rw[qA,qH,qE h];rfl
noncomputable abbrev UF (l:List (Int×Int)):List (Nat×Nat):=(Xd l.length).filter fun p=>Vt (l.getD p.1 (0,0)) (l.getD p.2 (0,0))
theorem ZmB (l:List (Int×Int))(hl:l.length<=1000)(s:Pn):Jo [.lst (l.map ZS)] s=some (ZX l.length (UF l),s):=by
 refine Xh rfl (Y6 (Xl (ZfY (d:=.lst (l.map ZS)) (cds:=[]) rfl rfl (by simp only[Yt];exact JD fun d hd=>by obtain⟨p,_,rfl⟩:=qK.mp hd;rfl) rfl ?_ (ZbD _ _))));have:=ZaA (row:=.lst (l.map ZS)) (ds:=l.map ZS) (cds:=[]) (t:=2) (.inl rfl) (by rw[qj];exact hl) (fun p=>Vt (l.getD p.1 (0,0)) (l.getD p.2 (0,0))) s (fun p hpm=>by
  rw[qj] at hpm;have hpp:=Uk.mp hpm;rw[ZgD _ _ (by omega),ZgD _ _ (by omega)];show JA [ZS (l.getD p.1 (0,0)),ZS (l.getD p.2 (0,0))] s=_;exact Xh rfl (Y6 (Xl (ZkT (ZB (ZB rfl rfl (pc0 _)) (ZB rfl rfl (Jm _)) rfl) (ZB (ZB rfl rfl (pc0 _)) (ZB rfl rfl (Jm _)) rfl)))))
 rw[qj] at this;exact this
end TQ
namespace TQ
open L2 TF TS
open TP
open TP2
open TP3
theorem ZjM {p q:Int×Int}:Vt p q=true↔p.1<q.2/\q.1<p.2:=by
 unfold Vt;rw[zd,decide_eq_true_eq,decide_eq_true_eq]
theorem ZhM (p q:Int×Int):Vt p q=Vt q p:=by unfold Vt;rw[Bool.and_comm]
theorem ZkV {l:List (Int×Int)}{a b:Nat}(h:a≠b)(ha:a<l.length)(hb:b<l.length):tied (UF l) a b=Vt (l.getD a (0,0)) (l.getD b (0,0)):=by
 rcases Nat.lt_or_gt_of_ne h with z | z
 ·exact Bv z hb
 ·have:=Bv (N:=l.length) (B:=fun p=>Vt (l.getD p.1 (0,0)) (l.getD p.2 (0,0))) z ha
  rw[ZhM];rw[<-this];unfold tied;rw[Nat.min_comm,Nat.max_comm]
theorem ZmC (l:List (Int×Int)):XT l.length (UF l):=XT.filter _
theorem JE {l:List (Int×Int)}{v:Nat}(h:v<l.length):l.getD v (0,0)∈l:=by
 rw[qH,qE h];exact qap h
theorem ZjN (ns:List Int):ZH (ns.map D.int)=some ns:=by
 induction ns with
 | nil=>rfl
 | cons n r ih=>show(ZH (r.map D.int)).map (n :: ·)=_;rw[ih];rfl
noncomputable abbrev ltS (ns:List Int):Nat->Nat->Bool:=fun i j=>decide (ns.getD i 0<ns.getD j 0)
theorem ZkW (ns:List Int):OrdW (ltS ns):=by
 refine⟨fun a b c h1 h2=>?_,fun a b h=>?_⟩
 ·have h1:=of_decide_eq_false h1
  have h2:=of_decide_eq_false h2;exact decide_eq_false (by omega)
 ·have h:=of_decide_eq_true h
  exact decide_eq_false (by omega)
end TQ
namespace TQ
open L2 TF TS
open TP
open TP2
open TP3
noncomputable abbrev Gd (l:List (Int×Int)):Prop:=∀p∈l,p.1<p.2
end TQ
namespace TQ
open L2 TF TS
open TP
open TP2
open TP3
namespace PC
theorem ZhN {f:Zb->M D}{fl fh:Zb->M (Option Int)}{ρ:Zb}{s:Pn}{ds:List D}{lo hi:Option Int}(h:f ρ s=some (.lst ds,s))(hl:fl ρ s=some (lo,s))(hh:fh ρ s=some (hi,s)):UW f fl fh ρ s=some (.lst (Wi ds lo hi),s):=by
 unfold UW Zm;simp only[h,hl,hh];rfl
theorem ZmD (ds:List D)(k:Nat):Wi ds none (some (k:Int))=ds.take k:=by
 unfold Wi;rw[HT.sIx_none,HT.sIx_nat,List.drop_zero,Nat.sub_zero];by_cases h:k<=ds.length
 ·rw[Nat.min_eq_left h]
 ·rw[Nat.min_eq_right (by omega),qal (qp _),qal (by omega)]
theorem ZmE (ds:List D)(k:Nat):Wi ds (some (k:Int)) none=ds.drop k:=by
 unfold Wi;rw[HT.sIx_none,HT.sIx_nat];by_cases h:k<=ds.length
 ·rw[Nat.min_eq_left h,qal (by rw[qam];omega)]
 ·rw[Nat.min_eq_right (by omega),qbj (qp _),qbj (by omega)];simp
theorem ZmF {f:Zb->M D}{ρ:Zb}{s:Pn}{l:List (Int×Int)}(h:f ρ s=some (.lst (l.map ZS),s)):ZN YC (Zc f Ze) ρ s=some (nD l.length,s):=by
 refine YX (Zh h rfl) ?_;show some (D.int _)=some (D.int _);rw[qj]
theorem ZjO {f:Zb->M D}{fe:Zb->M D}{ρ:Zb}{s:Pn}{l:List (Int×Int)}(c:Int×Int->D)(h:f ρ s=some (.lst (l.map ZS),s))(hl:l.length<=1000)(he:∀p∈l,fe [some (.int p.1),some (.int p.2)] s=some (c p,s)):Z0 [none,none] (Z4 f) (VT 0 1) Ya fe ρ s=some (.lst (l.map c),s):=by
 have hc:=Xa (src:=[none,none]) (fi:=Z4 f) (τ:=VT 0 1) (ft:=Ya) (fe:=fe) (ρ:=ρ) (s:=s) (ds:=l.map ZS) (fun d=>match d with | .tup [a,b]=>[some a,some b] | _=>[]) (fun _=>true) (fun d=>match d with | .tup [.int a,.int b]=>c (a,b) | _=>.non) (Wa h) (by rw[qj,Ys];omega) fun d hd=>by
  obtain⟨p,hp,rfl⟩:=qK.mp hd;exact⟨rfl,rfl,fun _=>he p hp⟩
 rw[ya.mpr fun _ _=>rfl,qD] at hc;exact hc
end PC
end TQ
namespace TQ
open L2 TF TS
open TP
open TP2
open TP3
noncomputable def gWb:Zb->M Out:=(Zi (ZR (V0 Vb 5 [1] (WQ (Za 0))))
 Zt)
noncomputable def FWb:List D->M D:=runB 2 2 gWb
noncomputable def gAb:Zb->M Out:=(Zi (Vp 2 (ZN BY (Zc (Z0 [none] (Z4 (Za 1)) (Zy 0) Ya (ZV (Zc (Za 0) (Zc (dC (.bl true)) Ze)))) Ze)))
 (Zi (Xc (Yb (Za 0)) (Zy 3)
 (Zi (Xc (Yb (Za 0)) (Zy 4)
 (Zi (Xc (Yb (Za 0)) (Zy 5)
 (Zi (Y1 (WJ (asB (Zd Yq (ZV (Zc (Za 4) (Zc (Za 3) Ze))) (Za 2))) (asB (Zd Yq (ZV (Zc (Za 3) (Zc (Za 5) Ze))) (Za 2))))
 (Zi (U5 2 (fun ρ=>(ZV (Zc (Za 4) (Zc (Za 5) Ze))) (Z8 [2] ρ)) (fun ρ=>(dC (.bl true)) (Z8 [2] ρ)))
 Zt)
 Zt)
 Zt))
 Zt))
 Zt))
 (Zi (Y1 (asB (ZN Ja (Zc (Z0 [none,some 2] (Yb (Za 0)) (Zy 0) Ya (Zd Yq (ZV (Zc (Za 0) (Zc (Za 0) Ze))) (Za 1))) Ze)))
 (fun _=>Zz)
 Zt)
 (Zi (ZR (Za 2))
 Zt))))
noncomputable def FAb:List D->M D:=runB 6 2 gAb
noncomputable def gWo:Zb->M Out:=(Zi (ZR (Zq FWb (Zc (Za 0) (Zc (Zq FAb (Zc (Za 0) (Zc (Za 1) Ze))) Ze))))
 Zt)
noncomputable def FWo:List D->M D:=runB 2 2 gWo
noncomputable def gCb:Zb->M Out:=(Zi (ZR (ZN YC (Zc (Z0 [none,some 2,some 1] (Yb (Za 0)) (Zy 0) (asB (Zd Yq (ZV (Zc (Za 0) (Zc (Za 1) Ze))) (Za 2))) (Za 0)) Ze)))
 Zt)
noncomputable def FCb:List D->M D:=runB 3 3 gCb
noncomputable def gCt:Zb->M Out:=(Zi (ZW 2 (Zq FAb (Zc (Za 0) (Zc (Za 1) Ze))))
 (Zi (ZW 3 (Zq FWb (Zc (Za 0) (Zc (Za 2) Ze))))
 (Zi (ZW 4 (Z0 [none,some 0,some 2] (Yb (Za 0)) (Zy 0) Ya (Zq FCb (Zc (Za 1) (Zc (Za 2) (Zc (Za 0) Ze))))))
 (Zi (ZW 5 (Zq Js (Zc (Za 3) (Zc (JC (YI 2 (Zd Zl (Za 1) (Za 0))) [4] (Za 0)) Ze))))
 (Zi (ZW 6 (Zq VB (Zc (Za 3) Ze)))
 (Zi (ZR (ZV (Zc (Zd Zl (Za 6) (dC (.int 0))) (Zc (JH (YI 2 (Zd Zl (Za 1) (Za 0))) [4] (Zd Zl (Za 6) (dC (.int 1)))) (Zc (Za 5) Ze)))))
 Zt))))))
noncomputable def FCt:List D->M D:=runB 7 2 gCt
inductive Pth (L:List (Nat×Nat))(k:Nat):Nat->Nat->Prop
 | one {a b:Nat} (h:(a,b)∈L):Pth L k a b
 | two {a c b:Nat} (hc:c<k) (h1:Pth L k a c) (h2:Pth L k c b):Pth L k a b
theorem Pth.zero {L:List (Nat×Nat)}{a b:Nat}(h:Pth L 0 a b):(a,b)∈L:=by
 cases h with
 | one h=>exact h
 | two hc _ _=>omega
theorem Pth.split {L:List (Nat×Nat)}{k a b:Nat}(h:Pth L (k+1) a b):Pth L k a b∨(Pth L k a k/\Pth L k k b):=by
 induction h with
 | one h=>exact .inl (.one h)
 | @two a c b hc _ _ i1 i2=>
  by_cases e:c=k
  ·subst e
   exact .inr ⟨i1.elim id fun z=>z.1,i2.elim id fun z=>z.2⟩
  ·have hk:c<k:=by omega
   rcases i1 with p | ⟨p,q⟩
   ·rcases i2 with u | ⟨u,v⟩
    ·exact .inl (.two hk p u)
    ·exact .inr ⟨.two hk p u,v⟩
   ·rcases i2 with u | ⟨u,v⟩
    ·exact .inr ⟨p,.two hk q u⟩
    ·exact .inr ⟨p,v⟩
theorem jH {i:Nat}{fx fv:Zb->M D}{ρ:Zb}{s:Pn}{T:List (Nat×Nat)}{p:Nat×Nat}{Q:Out->Pn->Prop}(h3:(ρ[i]?).bind id=some (.du (ZU [] T)))(hv:fv ρ s=some (.bl true,s))(hx:fx ρ s=some (ZJ p,s))(hl:T.length<=1000000)(h:Q (.nx (ρ.set i (some (.du (ZU [] (T ++ [p])))))) s):Ok (U5 i fx fv ρ) s Q:=by
 refine .eq (a:=.nx (ρ.set i (some (.du (ZU [] (T ++ [p])))))) ?_ h;have hk:=ZkR T [];rw[zK,qav] at hk;unfold U5 Zm;rw[hv];dsimp only;rw[hx];dsimp only;rw[h3];show(match Bb (ZJ p),Xu (.bl true) with | some k,some w=>if (ZU [] T).length<sizeLine then ZD (Out.nx (ρ.set i (some (.du (Z1 (ZU [] T) k w))))) else Zz | _,_=>Zz) s=_;rw[show Bb (ZJ p)=some (XC p) from rfl,show Xu (.bl true)=some (.bl true) from rfl];dsimp only;rw[if_pos (by rw[Ys];omega),ZjE];rfl
theorem U7 {f:Zb->M D}{fa fb:Zb->M D}{ρ:Zb}{s:Pn}{a b:Nat}{T:List (Nat×Nat)}(ha:fa ρ s=some (nD a,s))(hb:fb ρ s=some (nD b,s))(hf:f ρ s=some (.du (ZU [] T),s)):Zd Yq (ZV (Zc fa (Zc fb Ze))) f ρ s=some (.bl (decide ((a,b)∈T)),s):=
 ZB (Wc (ds:=[nD a,nD b]) (Zh ha (Zh hb rfl)) two_le) hf (Zmx (a,b) T)
theorem ZkX (L:List (Nat×Nat))(hl:L.length<=100000){o0 o2 o3 o4 o5:Option D}(s:Pn):ZN BY (Zc (Z0 [none] (Z4 (Za 1)) (Zy 0) Ya (ZV (Zc (Za 0) (Zc (dC (.bl true)) Ze)))) Ze) [o0,some (.lst (L.map ZJ)),o2,o3,o4,o5] s=some (.du (ZU [] L),s):=by
 have hc:=Xa (src:=[none]) (fi:=Z4 (Za 1)) (τ:=Zy 0) (ft:=Ya) (fe:=ZV (Zc (Za 0) (Zc (dC (.bl true)) Ze))) (ρ:=[o0,some (.lst (L.map ZJ)),o2,o3,o4,o5]) (s:=s) (ds:=L.map ZJ) (fun d=>[some d]) (fun _=>true) (fun d=>D.tup [d,.bl true]) (Wa rfl) (by rw[qj,Ys];omega) fun d hd=>⟨rfl,rfl,fun _=>Zkt rfl rfl⟩;rw[ya.mpr fun _ _=>rfl,qD] at hc;refine YX (Zh hc rfl) ?_;show(if (L.map ((fun d=>D.tup [d,.bl true])∘ZJ)).length<=sizeLine then (X3 [] (L.map ((fun d=>D.tup [d,.bl true])∘ZJ))).map D.du else none)=_;rw[if_pos (by rw[qj,Ys];omega)];have:=Zbt L [];rw[show(L.map ((fun d=>D.tup [d,.bl true])∘ZJ))=L.map fun p=>D.tup [ZJ p,.bl true] from rfl,this];rfl
set_option maxHeartbeats 1000000 in
theorem Zbq {n:Nat}{L:List (Nat×Nat)}(hn:n<=24)(hl:L.length<=1000)(hL:∀p∈L,p.1<n/\p.2<n)(r:Nat->Nat->Bool)(hr:∀a b,r a b=true↔Pth L n a b)(irr:∀a,r a a=false)(s:Pn):∃T:List (Nat×Nat),FAb [nD n,.lst (L.map ZJ)] s=some (.du (ZU [] T),s)/\∀a b,decide ((a,b)∈T)=r a b:=by
 have main:Ok (FAb [nD n,.lst (L.map ZJ)]) s fun d s'=>s=s'/\∃T:List (Nat×Nat),d=.du (ZU [] T)/\∀a b,decide ((a,b)∈T)=r a b:=by
  refine Ok.runB rfl ?_;refine Ok.seq (.sown (.eq (ZkX L (by omega) s) ⟨rfl,?_⟩));refine Ok.seq (.sfor (fun k ρ s'=>s=s'/\∃(T:List (Nat×Nat)) (o3 o4 o5:Option D),T.length<=1000+k*10000/\(∀p∈T,Pth L n p.1 p.2)/\(∀a b,Pth L k a b->(a,b)∈T)/\ρ=[some (nD n),some (.lst (L.map ZJ)),some (.du (ZU [] T)),o3,o4,o5]) (.eq (XZ (n:=n) rfl (by omega)) ⟨⟨rfl,L,none,none,none,by omega,fun p hp=>.one hp,fun a b h=>h.zero,rfl⟩,fun k d ρ s' hd hI=>?_,fun ρ' s' hI=>?_⟩))
  ·obtain⟨rfl,T,o3,o4,o5,hT,snd,cpl,rfl⟩:=hI
   obtain⟨hk,rfl⟩:=UI hd;refine⟨_,rfl,?_⟩;refine Ok.seq (.sfor (fun x ρ s'=>s=s'/\∃(T:List (Nat×Nat)) (o4 o5:Option D),T.length<=1000+k*10000+x*100/\(∀p∈T,Pth L n p.1 p.2)/\(∀a b,Pth L k a b->(a,b)∈T)/\(∀a<x,∀b<n,Pth L (k+1) a b->(a,b)∈T)/\ρ=[some (nD n),some (.lst (L.map ZJ)),some (.du (ZU [] T)),some (nD k),o4,o5]) (.eq (XZ (n:=n) rfl (by omega)) ⟨⟨rfl,T,o4,o5,by omega,snd,cpl,fun a ha=>by omega,rfl⟩,fun x d ρ s' hd hJ=>?_,fun ρ' s' hJ=>?_⟩))
   ·obtain⟨rfl,T,o4,o5,hT,snd,cpl,dn,rfl⟩:=hJ
    obtain⟨hx,rfl⟩:=UI hd;refine⟨_,rfl,?_⟩;refine Ok.seq (.sfor (fun y ρ s'=>s=s'/\∃(T:List (Nat×Nat)) (o5:Option D),T.length<=1000+k*10000+x*100+y/\(∀p∈T,Pth L n p.1 p.2)/\(∀a b,Pth L k a b->(a,b)∈T)/\(∀a<x,∀b<n,Pth L (k+1) a b->(a,b)∈T)/\(∀b<y,Pth L (k+1) x b->(x,b)∈T)/\ρ=[some (nD n),some (.lst (L.map ZJ)),some (.du (ZU [] T)),some (nD k),some (nD x),o5]) (.eq (XZ (n:=n) rfl (by omega)) ⟨⟨rfl,T,o5,by omega,snd,cpl,dn,fun b hb=>by omega,rfl⟩,fun y d ρ s' hd hK=>?_,fun ρ' s' hK=>?_⟩))
    ·obtain⟨rfl,T,o5,hT,snd,cpl,dn,dm,rfl⟩:=hK
     obtain⟨hy,rfl⟩:=UI hd;refine⟨_,rfl,?_⟩;refine Ok.seq (.sif (.eq (s':=s) (a:=decide ((x,k)∈T)&&decide ((k,y)∈T)) (Zgm (Y8 (U7 rfl rfl rfl)) fun _=>Y8 (U7 rfl rfl rfl)) ?_));by_cases hc:(x,k)∈T/\(k,y)∈T
     ·rw[decide_eq_true hc.1,decide_eq_true hc.2,if_pos (by rfl)]
      refine .seq (jH (T:=T) (p:=(x,y)) rfl rfl (Wc (Zh rfl (Zh rfl rfl)) two_le) (by omega) (.next (.next ⟨_,rfl,rfl,T ++ [(x,y)],_,?_,?_,?_,?_,?_,rfl⟩)))
      ·rw[qJ,zy];omega
      ·intro p hp
       rcases qV.mp hp with h | h
       ·exact snd p h
       ·rw[zf.mp h]
        exact .two hk (snd _ hc.1) (snd _ hc.2)
      ·exact fun a b h=>qU _ (cpl a b h)
      ·exact fun a ha b hb h=>qU _ (dn a ha b hb h)
      ·intro b hb h
       by_cases e:b=y
       ·subst e;simp
       ·exact qU _ (dm b (by omega) h)
     ·rw[if_neg (by
       rw[zd,decide_eq_true_eq,decide_eq_true_eq];exact hc)]
      refine .next (.next ⟨_,rfl,rfl,T,_,by omega,snd,cpl,dn,?_,rfl⟩);intro b hb h;by_cases e:b=y
      ·subst e
       rcases h.split with z | ⟨z1,z2⟩
       ·exact cpl _ _ z
       ·exact absurd ⟨cpl _ _ z1,cpl _ _ z2⟩ hc
      ·exact dm b (by omega) h
    ·obtain⟨rfl,T,o5,hT,snd,cpl,dn,dm,rfl⟩:=hK
     rw[Y2] at hT dm;refine .next ⟨_,rfl,rfl,T,_,_,by omega,snd,cpl,?_,rfl⟩;intro a ha b hb h;by_cases e:a=x
     ·subst e;exact dm b hb h
     ·exact dn a (by omega) b hb h
   ·obtain⟨rfl,T,o4,o5,hT,snd,cpl,dn,rfl⟩:=hJ
    rw[Y2] at hT dn;refine .next ⟨_,rfl,rfl,T,_,_,_,by omega,snd,?_,rfl⟩;intro a b h;have hab:a<n/\b<n:=by
     have:∀{a b:Nat},Pth L (k+1) a b->a<n/\b<n:=fun h=>by
      induction h with
      | one h=>exact hL _ h
      | two _ _ _ i1 i2=>exact⟨i1.1,i2.2⟩
     exact this h
    exact dn a hab.1 b hab.2 h
  obtain⟨rfl,T,o3,o4,o5,hT,snd,cpl,rfl⟩:=hI;rw[Y2] at cpl;have hmem:∀a b,decide ((a,b)∈T)=r a b:=fun a b=>by
   rw[yg,decide_eq_true_eq,hr];exact⟨fun h=>snd _ h,cpl a b⟩
  have hc:=Xa (src:=[none,some 2]) (fi:=Yb (Za 0)) (τ:=Zy 0) (ft:=Ya) (fe:=Zd Yq (ZV (Zc (Za 0) (Zc (Za 0) Ze))) (Za 1)) (ρ:=[some (nD n),some (.lst (L.map ZJ)),some (.du (ZU [] T)),o3,o4,o5]) (s:=s) (ds:=Z3 0 n) (fun d=>[some d,some (.du (ZU [] T))]) (fun _=>true) (fun _=>.bl false) (XZ (n:=n) rfl (by omega)) (by rw[Y2,Ys];omega) fun d hd=>by
   obtain⟨q,hq,rfl⟩:=VM hd;exact⟨rfl,rfl,fun _=>(U7 (a:=q) (b:=q) rfl rfl rfl).trans (by rw[hmem,irr])⟩
  rw[ya.mpr fun _ _=>rfl] at hc;refine Ok.seq (.sif (.eq (a:=false) (Y8 (YX (Zh hc rfl) ((ZhB (Z3 0 n) fun _=>false).trans (by simp)))) (.next ?_)));exact Ok.seq (.sret (.eq rfl ⟨rfl,T,rfl,hmem⟩))
 obtain⟨d,s',e,rfl,T,rfl,h⟩:=main;exact⟨T,e,h⟩
end TQ
namespace TQ
open L2 TF TS
open TP
open TP2
open TP3
noncomputable abbrev Yh (n:Nat)(r:Nat->Nat->Bool):List (Nat×Nat):=(Xd n).filter fun p=>r p.1 p.2||r p.2 p.1
noncomputable def Xx (n:Nat)(r:Nat->Nat->Bool)(p:Nat):Nat:=(Wu n fun o=>r o p).length
theorem Zdz {n:Nat}{T:List (Nat×Nat)}{r:Nat->Nat->Bool}(hn:n<=1000)(hT:∀a b,decide ((a,b)∈T)=r a b)(s:Pn):FWb [nD n,.du (ZU [] T)] s=some (ZX n (Yh n r),s):=by
 refine Xh rfl (Y6 (Xl ?_));refine ZfY (d:=.lst (Z3 0 n)) (cds:=[.du (ZU [] T)]) (Zax rfl hn) rfl (by simp only[Yt];exact Zbo _ _) rfl ?_ (ZbD _ _);have:=ZaA (row:=.lst (Z3 0 n)) (ds:=Z3 0 n) (cds:=[.du (ZU [] T)]) (t:=5) (.inl rfl) (by rw[Y2];exact hn) (fun p=>r p.1 p.2||r p.2 p.1) s (fun p hp=>by
  rw[Y2] at hp;have hpp:=Uk.mp hp;rw[range_getD (by omega),range_getD (by omega)];show Zah [nD p.1,nD p.2,.du (ZU [] T)] s=_;refine Zd2 rfl ?_;rw[<-hT,<-hT];exact Zmz (U7 rfl rfl rfl) fun _=>U7 rfl rfl rfl)
 rw[Y2] at this;exact this
section
variable {n:Nat}{L:List (Nat×Nat)}
theorem Zd3 (hn:n<=24)(hl:L.length<=1000)(hL:∀p∈L,p.1<n/\p.2<n)(r:Nat->Nat->Bool)(hr:∀a b,r a b=true↔Pth L n a b)(irr:∀a,r a a=false)(s:Pn):FWo [nD n,.lst (L.map ZJ)] s=some (ZX n (Yh n r),s):=by
 obtain⟨T,e,hT⟩:=Zbq hn hl hL r hr irr s;exact Xh rfl (Y6 (Xl (Yl (Zh rfl (Zh (Yl (Zh rfl (Zh rfl rfl)) e) rfl)) (Zdz (by omega) hT s))))
theorem ZcF {T:List (Nat×Nat)}{r:Nat->Nat->Bool}(hn:n<=1000)(hT:∀a b,decide ((a,b)∈T)=r a b)(p:Nat)(s:Pn):FCb [nD n,.du (ZU [] T),nD p] s=some (nD (Xx n r p),s):=by
 have hc:=Xa (src:=[none,some 2,some 1]) (fi:=Yb (Za 0)) (τ:=Zy 0) (ft:=asB (Zd Yq (ZV (Zc (Za 0) (Zc (Za 1) Ze))) (Za 2))) (fe:=Za 0) (ρ:=[some (nD n),some (.du (ZU [] T)),some (nD p)]) (s:=s) (ds:=Z3 0 n) (fun d=>[some d,some (nD p),some (.du (ZU [] T))]) (fun d=>r (Yu d) p) (fun d=>d) (XZ (n:=n) rfl (by omega)) (by rw[Y2,Ys];omega) fun d hd=>by
  obtain⟨q,hq,rfl⟩:=VM hd;exact⟨rfl,Y8 ((U7 (a:=q) (b:=p) rfl rfl rfl).trans (by rw[hT];rfl)),fun _=>rfl⟩
 rw[ZaH n fun o=>r o p] at hc;refine Xh rfl (Y6 (Xl (YX (Zh hc rfl) ?_)));show some (D.int _)=some (D.int _);rw[qj];rfl
end
theorem ZcG {F:List D->M D}{cds:List D}{s:Pn}(K:List Nat)(rk:Nat->Nat)(hF:∀p∈K,F (nD p::cds) s=some (nD (rk p),s))(hl:K.length<64)(hc:YQ cds=true):∃C:List Nat,WV F cds (K.map fun(i:Nat)=>(i:Int)) s=some (.lst (C.map nD),s)/\C.Perm K/\C.Pairwise fun a b=>rk a<=rk b:=by
 have hk:=Ze2 (F:=F) (cds:=cds) (s:=s) (fun p=>nD (rk p)) K hF;have e1:K.map (fun p=>nD (rk p))=(K.map fun p=>((rk p:Nat):Int)).map D.int:=by rw[qD];rfl
 have o:=ZkW (K.map fun p=>((rk p:Nat):Int));have pm:=Ju (n:=K.length) o;refine⟨(Yk (ltS (K.map fun p=>((rk p:Nat):Int))) K.length).map fun i=>K.getD i 0,?_,?_,?_⟩
 ·unfold WV
  rw[if_pos (by rw[hc,qj,decide_eq_true hl];rfl)];unfold Zm;rw[hk,e1];dsimp only;unfold Bj;rw[ZjN];dsimp only;rw[qj,qD];show some (D.lst _,s)=some (D.lst _,s);congr 3;refine zu fun i hi=>?_;have hi:=qS.mp (pm.mem_iff.mp hi);show D.int _=D.int ((K.getD i 0:Nat):Int);rw[qH,qA,qH,qE hi];rfl
 ·have:=pm.map fun i=>K.getD i 0
  rwa[TS.range_getD K 0] at this
 ·refine qah.mpr (zZ (fun {a b} ha hb h=>?_) (ZeL (n:=K.length) o))
  have ha:=qS.mp (pm.mem_iff.mp ha);have hb:=qS.mp (pm.mem_iff.mp hb);have h:=of_decide_eq_false h;have g:∀i,i<K.length->(K.map fun p=>((rk p:Nat):Int)).getD i 0=((rk (K.getD i 0):Nat):Int):=fun i hi=>by
   rw[qH,qA,qH,qE hi];rfl
  rw[g a ha,g b hb] at h;omega
theorem ZgF {n p:Nat}{rk:Nat->Nat}(h:p<n){s:Pn}:YI 2 (Zd Zl (Za 1) (Za 0)) (nD p :: [.lst ((qm n).map fun p=>nD (rk p))]) s=some (nD (rk p),s):=by
 refine Zd2 rfl (ZB (d:=.lst ((qm n).map fun p=>nD (rk p))) (e:=nD p) rfl rfl (Wl ?_));rw[qA,z9 h];rfl
theorem ZbE (n:Nat)(rk:Nat->Nat):YQ [.lst ((qm n).map fun p=>nD (rk p))]=true:=by
 show(YQ ((qm n).map fun p=>nD (rk p))&&true)=true;rw[JD fun d hd=>by obtain⟨p,_,rfl⟩:=qK.mp hd;rfl];rfl
theorem ZhO {n:Nat}{L:List (Nat×Nat)}(hn:n<=24)(hl:L.length<=1000)(hL:∀p∈L,p.1<n/\p.2<n)(r:Nat->Nat->Bool)(hr:∀a b,r a b=true↔Pth L n a b)(irr:∀a,r a a=false)(s:Pn) :
  ∃C ps:List Nat,FCt [nD n,.lst (L.map ZJ)] s=some (.tup [nD (om n (Yh n r)),.lst (C.map nD),XE (U6 n (Yh n r) ps)],s)/\C.Perm (XR n (Yh n r))/\C.Pairwise (fun a b=>Xx n r a<=Xx n r b)/\ps.Perm (qm n)/\ps.Pairwise fun a b=>Xx n r a<=Xx n r b:=by
 obtain⟨T,eT,hT⟩:=Zbq hn hl hL r hr irr s;have hw:XT n (Yh n r):=.filter _;obtain⟨ps,e1,p1,q1⟩:=ZcG (F:=YI 2 (Zd Zl (Za 1) (Za 0))) (cds:=[.lst ((qm n).map fun p=>nD (Xx n r p))]) (s:=s) (qm n) (Xx n r) (fun p hp=>ZgF (qS.mp hp)) (by rw[qW];omega) (ZbE _ _);have hmk:=(ZaV hw hn).1;obtain⟨k1,k2,k3⟩:=Ul.mp hmk;have hkl:(XR n (Yh n r)).length<=n:=Zf1;obtain⟨C,e2,p2,q2⟩:=ZcG (F:=YI 2 (Zd Zl (Za 1) (Za 0))) (cds:=[.lst ((qm n).map fun p=>nD (Xx n r p))]) (s:=s) (XR n (Yh n r)) (Xx n r) (fun p hp=>ZgF (k2 p hp)) (by omega) (ZbE _ _);refine⟨C,ps,?_,p2,q2,p1,q1⟩;have hrk:=Xa (src:=[none,some 0,some 2]) (fi:=Yb (Za 0)) (τ:=Zy 0) (ft:=Ya) (fe:=Zq FCb (Zc (Za 1) (Zc (Za 2) (Zc (Za 0) Ze)))) (ρ:=[some (nD n),some (.lst (L.map ZJ)),some (.du (ZU [] T)),some (ZX n (Yh n r)),none,none,none]) (s:=s) (ds:=Z3 0 n) (fun d=>[some d,some (nD n),some (.du (ZU [] T))]) (fun _=>true) (fun d=>nD (Xx n r (Yu d))) (XZ (n:=n) rfl (by omega)) (by rw[Y2,Ys];omega) fun d hd=>by
  obtain⟨q,hq,rfl⟩:=VM hd;exact⟨rfl,rfl,fun _=>Yl (Zh rfl (Zh rfl (Zh rfl rfl))) (ZcF (by omega) hT q s)⟩
 rw[ya.mpr fun _ _=>rfl,Vy,qD] at hrk;have hrk':Z0 [none,some 0,some 2] (Yb (Za 0)) (Zy 0) Ya (Zq FCb (Zc (Za 1) (Zc (Za 2) (Zc (Za 0) Ze)))) [some (nD n),some (.lst (L.map ZJ)),some (.du (ZU [] T)),some (ZX n (Yh n r)),none,none,none] s=some (.lst ((qm n).map fun p=>nD (Xx n r p)),s):=hrk;clear hrk;have hncl:=ZbE n (Xx n r);generalize hrl:((qm n).map fun p=>nD (Xx n r p))=RL at hrk' e1 e2 hncl;have hso:JC (YI 2 (Zd Zl (Za 1) (Za 0))) [4] (Za 0) [some (nD n),some (.lst (L.map ZJ)),some (.du (ZU [] T)),some (ZX n (Yh n r)),some (.lst RL),none,none] s=some (.lst (ps.map nD),s):=by
  unfold JC Zm;rw[show Za 0 [some (nD n),some (.lst (L.map ZJ)),some (.du (ZU [] T)),some (ZX n (Yh n r)),some (.lst RL),none,none] s=some (nD n,s) from rfl];dsimp only;rw[show YN (W0 [some (nD n),some (.lst (L.map ZJ)),some (.du (ZU [] T)),some (ZX n (Yh n r)),some (.lst RL),none,none] [4]) s=some ([.lst RL],s) from rfl];dsimp only;rw[if_pos (by omega)];rw[z5];exact e1
 have hmo:=Ze1 hw hn s;have hh:=ZjK n (Yh n r) hw hn p1 s;have hW:=Zdz (n:=n) (by omega) hT s;generalize U6 n (Yh n r) ps=hs at hh;generalize XR n (Yh n r)=MK at hmo e2;generalize hWb:Yh n r=WB at hW hmo hh hrk' hso;have hsc:JH (YI 2 (Zd Zl (Za 1) (Za 0))) [4] (Zd Zl (Za 6) (dC (.int 1))) [some (nD n),some (.lst (L.map ZJ)),some (.du (ZU [] T)),some (ZX n WB),some (.lst RL),some (XE hs),some (.tup [nD (om n WB),XE MK])] s=some (.lst (C.map nD),s):=by
  unfold JH Zm;rw[show Zd Zl (Za 6) (dC (.int 1)) [some (nD n),some (.lst (L.map ZJ)),some (.du (ZU [] T)),some (ZX n WB),some (.lst RL),some (XE hs),some (.tup [nD (om n WB),XE MK])] s=some (XE MK,s) from ZB rfl rfl (J4 _ _ _)];dsimp only;rw[show YN (W0 [some (nD n),some (.lst (L.map ZJ)),some (.du (ZU [] T)),some (ZX n WB),some (.lst RL),some (XE hs),some (.tup [nD (om n WB),XE MK])] [4]) s=some ([.lst RL],s) from rfl];dsimp only;show(match ZH (MK.map nD) with | some ns=>WV (YI 2 (Zd Zl (Za 1) (Za 0))) [D.lst RL] ns | none=>Zz) s=_;rw[ZhJ MK];exact e2
 refine Xh rfl (jz ?_);refine Ok.seq (.sset (.eq (Yl (Zh rfl (Zh rfl rfl)) eT) ?_));refine Ok.seq (.sset (.eq (Yl (Zh rfl (Zh rfl rfl)) hW) ?_));refine Ok.seq (.sset (.eq hrk' ?_));refine Ok.seq (.sset (.eq (Yl (Zh rfl (Zh hso rfl)) hh) ?_));refine Ok.seq (.sset (.eq (Yl (Zh rfl rfl) hmo) ?_));exact Ok.seq (.sret (.eq (Wc (ds:=[nD (om n WB),.lst (C.map nD),XE hs]) (Zh (ZB rfl rfl (U2 _ _)) (Zh hsc (Zh rfl rfl))) (by show 3<=sizeLine;decide)) ⟨rfl,rfl⟩))
end TQ
namespace TQ
open L2 TF TS
open TP
open TP2
open TP3
structure OrdN (n:Nat)(r:Nat->Nat->Bool):Prop where
 irr:∀a,r a a=false
 tr:∀a b c,r a b=true->r b c=true->r a c=true
 lt:∀a b,r a b=true->a<n/\b<n
section
variable {n:Nat}{r:Nat->Nat->Bool}
theorem BT (n:Nat)(r:Nat->Nat->Bool):XT n (Yh n r):=.filter _
theorem Ze4 {a b:Nat}(h:a≠b)(ha:a<n)(hb:b<n):tied (Yh n r) a b=(r a b||r b a):=by
 rcases Nat.lt_or_gt_of_ne h with z | z
 ·exact Bv z hb
 ·have:=Bv (N:=n) (B:=fun p=>r p.1 p.2||r p.2 p.1) z ha
  rw[Bool.or_comm];rw[<-this];unfold tied;rw[Nat.min_comm,Nat.max_comm]
theorem Znj (o:OrdN n r){a b:Nat}(h:r a b=true):Xx n r a<Xx n r b:=by
 unfold Xx;have hna:a∉Wu n fun x=>r x a:=fun z=>by
  have:=(Vf.mp z).2;rw[o.irr] at this
  cases this
 have:=UN (a:=a::Wu n fun x=>r x a) (b:=Wu n fun x=>r x b) (zI.mpr ⟨hna,Za9 (Ze0 _ _)⟩) fun x hx=>by
   rcases qt.mp hx with rfl | hx
   ·exact Vf.mpr ⟨(o.lt _ _ h).1,h⟩
   ·obtain⟨h1,h2⟩:=Vf.mp hx
    exact Vf.mpr ⟨h1,o.tr _ _ _ h2 h⟩
 rw[qT] at this;exact this
theorem ZjP (o:OrdN n r){C K:List Nat}(pm:C.Perm K)(hK:K∈kn (Yh n r) n)(hs:C.Pairwise fun a b=>Xx n r a<=Xx n r b):C.Pairwise fun a b=>r a b=true:=by
 obtain⟨q1,q2,q3⟩:=Ul.mp hK;have nd:C.Nodup:=pm.nodup_iff.mpr (Za9 q1);have both:=zQ.and hs nd;refine zZ (fun {a b} ha hb h=>?_) both;have ha:=pm.mem_iff.mp ha;have hb:=pm.mem_iff.mp hb;have ht:=q3 a ha b hb h.2;rw[Ze4 h.2 (q2 a ha) (q2 b hb),yO] at ht;rcases ht with z | z
 ·exact z
 ·have:=Znj o z
  have:=h.1;omega
end
noncomputable def Ch (P c:List (Int×Int)):Prop:=(∀p∈c,p∈P)/\c.Pairwise fun p q=>p.2<=q.1
structure GI (P:List (Int×Int))(last:Option Int)(many:Nat):Prop where
 no:last=none↔many=0
 ex:∃c,Ch P c/\c.length=many/\∀x,last=some x->(∃q∈c,q.2=x)/\∀q∈c,q.2<=x
 up:∀c,Ch P c->c.length<=many/\(c.length=many->∀x,last=some x->∃q∈c,x<=q.2)
theorem ZmG:GI [] none 0:=⟨by simp,⟨[],⟨by simp,qaf⟩,rfl,fun x h=>by cases h⟩,fun c h=>by
 have:c=[]:=qay.mpr fun a ha=>by have:=h.1 a ha;simp at this
 subst this;exact⟨qp _,fun _ x h=>by cases h⟩⟩
theorem Ze5 {P d:List (Int×Int)}{q:Int×Int}(hg:Gd P)(hq:q.1<q.2)(he:∀p∈P,p.2<=q.2)(h:Ch (P ++ [q]) d):Ch P d∨∃d',d=d' ++ [q]/\Ch P d'/\∀p∈d',p.2<=q.1:=by
 by_cases z:∀p∈d,p∈P
 ·exact .inl ⟨z,h.2⟩
 ·have ⟨x,hx,hxP⟩:∃x,x∈d/\x∉P:=by
   apply qaV;intro w;exact z fun p hp=>qaV fun w2=>w ⟨p,hp,w2⟩
  have exq:x=q:=by
   rcases qV.mp (h.1 x hx) with w | w
   ·exact absurd w hxP
   ·exact zf.mp w
  subst exq;obtain⟨A,B,rfl⟩:=List.append_of_mem hx;obtain⟨p1,p2,p3⟩:=yJ.mp h.2;have p2:=zP.mp p2;have hB:B=[]:=qay.mpr fun b hb=>by
   have h1:=p2.1 b hb;rcases qV.mp (h.1 b (by simp[hb])) with w | w
   ·have h2:=hg b w
    have h3:=he b w;omega
   ·rw[zf.mp w] at h1
    omega
  subst hB;refine .inr ⟨A,rfl,⟨fun p hp=>?_,p1⟩,fun p hp=>p3 p hp x (by simp)⟩;rcases qV.mp (h.1 p (by simp[hp])) with w | w
  ·exact w
  ·have:=p3 p hp x (by simp)
   rw[zf.mp w] at this;omega
theorem Ch.mono {P c:List (Int×Int)}{q:Int×Int}(h:Ch P c):Ch (P ++ [q]) c:=⟨fun p hp=>qU _ (h.1 p hp),h.2⟩
theorem ZgG {P:List (Int×Int)}{q:Int×Int}{last:Option Int}{many:Nat}(hg:Gd P)(hq:q.1<q.2)(he:∀p∈P,p.2<=q.2)(I:GI P last many)(h:∀x,last=some x->x<=q.1):GI (P ++ [q]) (some q.2) (many+1):=by
 refine⟨by simp,?_,fun d hd=>?_⟩
 ·obtain⟨c,h1,h2,h3⟩:=I.ex
  have hle:∀p∈c,p.2<=q.1:=fun p hp=>by
   cases e:last with
   | none=>
    have:=I.no.mp e;rw[<-h2] at this;rw[z8.mp this] at hp;simp at hp
   | some x=>
    have a1:=(h3 x e).2 p hp;have a2:=h x e;omega
  refine⟨c ++ [q],⟨fun p hp=>?_,yJ.mpr ⟨h1.2,by simp,fun a ha b hb=>?_⟩⟩,by rw[qJ,h2];rfl,fun x hx=>?_⟩
  ·rcases qV.mp hp with w | w
   ·exact qU _ (h1.1 p w)
   ·exact qk _ w
  ·rw[zf.mp hb];exact hle a ha
  ·cases hx
   refine⟨⟨q,by simp,rfl⟩,fun p hp=>?_⟩;rcases qV.mp hp with w | w
   ·have:=hle p w;omega
   ·rw[zf.mp w];exact qaD _
 ·rcases Ze5 hg hq he hd with w | ⟨d',rfl,w,_⟩
  ·have:=(I.up d w).1
   exact⟨by omega,fun e=>by omega⟩
  ·have:=(I.up d' w).1
   refine⟨by rw[qJ,zy];omega,fun _ x hx=>?_⟩
   cases hx
   exact⟨q,by simp,qaD _⟩
theorem ZjQ {P:List (Int×Int)}{q:Int×Int}{x:Int}{many:Nat}(hg:Gd P)(hq:q.1<q.2)(he:∀p∈P,p.2<=q.2)(I:GI P (some x) many)(h:q.1<x):GI (P ++ [q]) (some x) many:=by
 have hm:many≠0:=fun z=>by have:=I.no.mpr z;cases this
 obtain⟨c,h1,h2,h3⟩:=I.ex;refine⟨⟨(fun z=>by cases z),fun z=>absurd z hm⟩,⟨c,h1.mono,h2,h3⟩,fun d hd=>?_⟩;rcases Ze5 hg hq he hd with w | ⟨d',rfl,w,hle⟩
 ·exact I.up d w
 ·obtain⟨u1,u2⟩:=I.up d' w
  have ne:d'.length≠many:=fun e=>by
   obtain⟨p,hp,hx⟩:=u2 e x rfl;have:=hle p hp;omega
  refine⟨by rw[qJ,zy];omega,fun _ y hy=>?_⟩
  cases hy
  obtain⟨q0,hq0,e0⟩:=(h3 x rfl).1;exact⟨q,by simp,by have:=he q0 (h1.1 q0 hq0);omega⟩
theorem ZhP {c:List (Int×Int)}(h:c.Pairwise fun p q=>p.2<=q.1){x y:Int×Int}(hx:x∈c)(hy:y∈c)(ne:x≠y):x.2<=y.1∨y.2<=x.1:=by
 obtain⟨i,hi,rfl⟩:=yn.mp hx;obtain⟨j,hj,rfl⟩:=yn.mp hy;have pw:=zt.mp h;rcases qaS i j with z | z | z
 ·exact .inl (pw i j hi hj z)
 ·subst z;exact absurd rfl ne
 ·exact .inr (pw j i hj hi z)
noncomputable abbrev rP (l:List (Int×Int))(a b:Nat):Bool:=decide (a<l.length/\b<l.length/\(l.getD a (0,0)).2<=(l.getD b (0,0)).1)
theorem WC {l:List (Int×Int)}{a b:Nat}:rP l a b=true↔a<l.length/\b<l.length/\(l.getD a (0,0)).2<=(l.getD b (0,0)).1:=decide_eq_true_iff
theorem ZmH {l:List (Int×Int)}(hg:Gd l):OrdN l.length (rP l):=by
 refine⟨fun a=>?_,fun a b c h1 h2=>?_,fun a b h=>⟨(WC.mp h).1,(WC.mp h).2.1⟩⟩
 ·refine decide_eq_false fun⟨h1,_,h3⟩=>?_
  have:=hg _ (JE h1);omega
 ·obtain⟨a1,a2,a3⟩:=WC.mp h1
  obtain⟨b1,b2,b3⟩:=WC.mp h2;have:=hg _ (JE a2);exact WC.mpr ⟨a1,b2,by omega⟩
theorem ZcZ {l c:List (Int×Int)}(hl:l.length<=24)(hg:Gd l)(h:Ch l c):c.length<=om l.length (Yh l.length (rP l)):=by
 let fi:Int×Int->Nat:=fun x=>((qm l.length).filter fun i=>decide (l.getD i (0,0)=x)).headD 0
 have hfi:∀x∈l,fi x<l.length/\l.getD (fi x) (0,0)=x:=fun x hx=>by
  have hne:((qm l.length).filter fun i=>decide (l.getD i (0,0)=x))≠[]:=fun z=>by
   obtain⟨i,hi,e⟩:=yn.mp hx;have:i∈((qm l.length).filter fun i=>decide (l.getD i (0,0)=x)):=qC.mpr ⟨qS.mpr hi,decide_eq_true (by rw[qH,qE hi];exact e)⟩;rw[z] at this;simp at this
  have hm:fi x∈((qm l.length).filter fun i=>decide (l.getD i (0,0)=x)):=by
   show((qm l.length).filter fun i=>decide (l.getD i (0,0)=x)).headD 0∈_
   cases e:((qm l.length).filter fun i=>decide (l.getD i (0,0)=x)) with
   | nil=>exact absurd e hne
   | cons a r=>simp
  obtain⟨m1,m2⟩:=qC.mp hm;exact⟨qS.mp m1,of_decide_eq_true m2⟩
 have hK:(Wu l.length fun i=>decide (l.getD i (0,0)∈c)&&decide (fi (l.getD i (0,0))=i))∈kn (Yh l.length (rP l)) l.length:=Ul.mpr ⟨Ze0 _ _,fun o ho=>(Vf.mp ho).1,fun a ha b hb ne=>by
  obtain⟨a1,a2⟩:=Vf.mp ha;obtain⟨b1,b2⟩:=Vf.mp hb;rw[zd,decide_eq_true_eq,decide_eq_true_eq] at a2 b2;rw[Ze4 ne a1 b1,yO];rcases ZhP h.2 a2.1 b2.1 (fun z=>ne (by rw[<-a2.2,<-b2.2,z])) with w | w
  ·exact .inl (WC.mpr ⟨a1,b1,w⟩)
  ·exact .inr (WC.mpr ⟨b1,a1,w⟩)⟩
 refine qZ ?_ (Zng (BT _ _) hl hK);have nd:c.Nodup:=zZ (fun {a b} ha hb h' e=>by
  have:=hg a (h.1 a ha);rw[e] at h' this;omega) h.2
 have:=UN (a:=c.map fi) (b:=Wu l.length fun i=>decide (l.getD i (0,0)∈c)&&decide (fi (l.getD i (0,0))=i)) (by
  refine zQ.map _ (fun a b h=>h) (zZ (fun {a b} ha hb h' e=>?_) nd);have e1:=(hfi a (h.1 a ha)).2;have e2:=(hfi b (h.1 b hb)).2;exact h' (by rw[<-e1,<-e2,e])) fun y hy=>by
   obtain⟨x,hx,rfl⟩:=qK.mp hy;obtain⟨f1,f2⟩:=hfi x (h.1 x hx);refine Vf.mpr ⟨f1,?_⟩;rw[f2,decide_eq_true hx,decide_eq_true rfl];rfl
 rwa[qj] at this
end TQ
namespace K56
open L2 TF TQ TS
open TP
open TP2
open TP3
open PC
noncomputable abbrev faD:List D:=[.int 0,.int (-5),.int 100000000000000000000000000000000000000000000000000000000000,.int (-10000000000000000000000000000000000000000000000000000000000)]
theorem ZmI {ρ:Zb}{s:Pn}:YH (Zc (dC (.int 0)) (Zc (dC (.int (-5))) (Zc (Zd WK (dC (.int 10)) (dC (.int 59))) (Zc (dNeg (Zd WK (dC (.int 10)) (dC (.int 58)))) Ze)))) ρ s=some (.lst faD,s):=
 Ur (ds:=faD) rfl (by show 4<=sizeLine;decide)
noncomputable abbrev Xr (p:Int×Int):List Int:=[p.2,p.1]
theorem ZkY {p q:Int×Int}(h:YT (Xr p) (Xr q)=true):p.2<=q.2:=by
 unfold YT at h;have h:YJ [q.2,q.1] [p.2,p.1]=false:=by simpa using h
 unfold YJ at h;by_cases e:q.2=p.2
 ·omega
 ·rw[if_neg e] at h
  have:=of_decide_eq_false h;omega
theorem ZhQ (l:List (Int×Int)):∃Z:List (Int×Int),XU (l.map Xr)=Z.map Xr/\Z.Perm l/\Z.Pairwise fun p q=>p.2<=q.2:=by
 have pm:=Zch (l.map Xr)
 let bk:List Int->Int×Int:=fun ns=>(ns.getD 1 0,ns.getD 0 0)
 have e1:∀ns∈XU (l.map Xr),Xr (bk ns)=ns:=fun ns h=>by
  obtain⟨p,_,rfl⟩:=qK.mp (pm.mem_iff.mp h);rfl
 have e2:((XU (l.map Xr)).map bk).map Xr=XU (l.map Xr):=by
  rw[qD]
  conv=>rhs;rw[<-qbi (XU (l.map Xr))]
  exact zu e1
 refine⟨(XU (l.map Xr)).map bk,e2.symm,?_,?_⟩
 ·have:=pm.map bk
  rw[qD] at this;refine this.trans ?_;rw[show l.map (bk∘Xr)=l from(zu fun p _=>rfl).trans (qbi l)]
 ·have:=Zbd (l.map Xr)
  rw[<-e2] at this;exact(qah.mp this).imp ZkY
noncomputable def Znk:Option Int->D
 | none=>.non
 | some x=>.int x
theorem ZhR {l:List (Int×Int)}(hl:l.length<=24)(hg:Gd l)(s:Pn):∃many last Z,Uc [.lst (l.map ZS)] s=some (nD many,s)/\Z.Perm l/\GI Z last many:=by
 obtain⟨Z,hZ,pmZ,srt⟩:=ZhQ l;have hgZ:Gd Z:=fun p hp=>hg p (pmZ.mem_iff.mp hp);have jV:Z.length=l.length:=pmZ.length_eq;have main:Ok (Uc [.lst (l.map ZS)]) s fun d s'=>s=s'/\∃many last,d=nD many/\GI Z last many:=by
  refine Ok.runB rfl ?_;refine Ok.seq (.sunp (.eq (Wc (ds:=[.non,.int 0]) (Zh rfl (Zh rfl rfl)) two_le) ⟨_,rfl,?_⟩));have hsl:ZN Zcl (Zc (Z0 [none,none] (Z4 (Za 0)) (VT 0 1) Ya (ZV (Zc (Za 1) (Zc (Za 0) Ze)))) Ze) [some (.lst (l.map ZS)),some .non,some (.int 0),none,none] s=some (.lst ((Z.map Xr).map Xm),s):=by
   refine YX (Zh (ZjO (fun p=>Xm (Xr p)) rfl (by omega) fun p _=>Wc (Zh rfl (Zh rfl rfl)) two_le) rfl) ?_;show(match Wz (l.map fun p=>Xm (Xr p)) with | some jP=>if UR jP then some (D.lst ((XU jP).map Xm)) else none | none=>none)=_;rw[show(l.map fun p=>Xm (Xr p))=(l.map Xr).map Xm by rw[qD];rfl,Zci];dsimp only;rw[if_pos ⟨by rw[qj];omega,fun _ ns h=>by
    obtain⟨p,_,rfl⟩:=qK.mp h;simp⟩,hZ]
  refine Ok.seq (.sfor (fun i ρ s'=>s=s'/\∃(last:Option Int) (many:Nat) (o3 o4:Option D),GI (Z.take i) last many/\ρ=[some (.lst (l.map ZS)),some (Znk last),some (nD many),o3,o4]) (.eq (Wa hsl) ⟨⟨rfl,none,0,none,none,by rw[qbp];exact ZmG,rfl⟩,fun i d ρ s' hd hI=>?_,fun ρ' s' hI=>?_⟩))
  ·obtain⟨rfl,last,many,o3,o4,I,rfl⟩:=hI
   rw[qD,qA] at hd;obtain⟨q,hq,rfl⟩:=qbh.mp hd;obtain⟨hi,eq⟩:=qB.mp hq;have et:Z.take (i+1)=Z.take i ++ [q]:=by rw[List.take_add_one,hq];rfl
   have hgq:q.1<q.2:=hgZ q (zF hq);have hgt:Gd (Z.take i):=fun p hp=>hgZ p (qby hp);have hen:∀p∈Z.take i,p.2<=q.2:=fun p hp=>by
    obtain⟨j,hj,rfl⟩:=yn.mp hp;rw[zU] at hj;rw[List.getElem_take,<-eq];exact zt.mp srt j i (by omega) hi (by omega)
   refine⟨_,rfl,?_⟩
   cases last with
   | none=>
    refine Ok.seq (.sif (.eq (s':=s) (a:=true) (Zm2 rfl) ?_));rw[if_pos rfl];refine Ok.seq (.spar (.eq (Zh (d:=.int q.2) rfl (Zh (d:=nD (many+1)) (ZB (d:=nD many) (e:=.int 1) rfl rfl rfl) rfl)) ⟨_,_,rfl,rfl,rfl,.next (.next ⟨_,rfl,rfl,some q.2,many+1,_,_,by rw[et];exact ZgG hgt hgq hen I (fun x h=>by cases h),rfl⟩)⟩))
   | some x=>
    refine Ok.seq (.sif (.eq (s':=s) (a:=decide (x<=q.1)) (Zm3 (s1:=s) rfl (Y8 (ZB (d:=.int q.1) (e:=.int x) rfl rfl rfl))) ?_));by_cases hx:x<=q.1
    ·rw[decide_eq_true hx,if_pos rfl]
     refine Ok.seq (.spar (.eq (Zh (d:=.int q.2) rfl (Zh (d:=nD (many+1)) (ZB (d:=nD many) (e:=.int 1) rfl rfl rfl) rfl)) ⟨_,_,rfl,rfl,rfl,.next (.next ⟨_,rfl,rfl,some q.2,many+1,_,_,by rw[et];exact ZgG hgt hgq hen I (fun y h=>by cases h;exact hx),rfl⟩)⟩))
    ·rw[decide_eq_false hx,if_neg (by decide)]
     exact .next (.next ⟨_,rfl,rfl,some x,many,_,_,by rw[et];exact ZjQ hgt hgq hen I (by omega),rfl⟩)
  ·obtain⟨rfl,last,many,o3,o4,I,rfl⟩:=hI
   rw[qj,qj,qaq] at I;exact Ok.seq (.sret (.eq rfl ⟨rfl,many,last,rfl,I⟩))
 obtain⟨d,s',e,rfl,many,last,rfl,I⟩:=main;exact⟨many,last,Z,e,pmZ,I⟩
theorem ZkZ {P Z c:List (Int×Int)}(pm:Z.Perm P)(h:Ch Z c):Ch P c:=⟨fun p hp=>pm.mem_iff.mp (h.1 p hp),h.2⟩
theorem ZhS {l:List (Int×Int)}(hl:l.length<=24)(hg:Gd l){C:List Nat}(hC:C.length=om l.length (Yh l.length (rP l)))(hup:C.Pairwise fun a b=>rP l a b=true)(hlt:∀a∈C,a<l.length)(s:Pn):Uc [.lst (l.map ZS)] s=some (nD (om l.length (Yh l.length (rP l))),s):=by
 obtain⟨many,last,Z,e,pm,I⟩:=ZhR hl hg s;rw[e];have h1:many<=om l.length (Yh l.length (rP l)):=by
  obtain⟨c,c1,c2,_⟩:=I.ex;rw[<-c2];exact ZcZ hl hg (ZkZ pm c1)
 have h2:om l.length (Yh l.length (rP l))<=many:=by
  have:=(I.up (C.map fun a=>l.getD a (0,0)) ⟨fun p hp=>?_,qah.mpr (hup.imp fun h=>(WC.mp h).2.2)⟩).1
  ·rw[qj,hC] at this
   exact this
  ·obtain⟨a,ha,rfl⟩:=qK.mp hp
   exact pm.mem_iff.mpr (JE (hlt a ha))
 rw[Nat.le_antisymm h1 h2]
noncomputable abbrev X6 (l:List (Int×Int))(i:Nat):List (Nat×Nat):=(qm i).flatMap fun a=>(Wu l.length fun b=>rP l a b).map fun b=>(a,b)
theorem ZdA (l:List (Int×Int))(i:Nat):X6 l (i+1)=X6 l i++(Wu l.length fun b=>rP l i b).map fun b=>(i,b):=by
 unfold X6;rw[qbb,qbC];simp
theorem ZcH (l:List (Int×Int)):∀i,(X6 l i).length<=i*l.length
 | 0=>by simp[X6]
 | i+1=>by
  have:=ZcH l i;have h2:=ZgC l.length fun b=>rP l i b;rw[ZdA,qJ,qj,qbK];omega
theorem ZcI {l:List (Int×Int)}{a b:Nat}:(a,b)∈X6 l l.length↔rP l a b=true:=by
 unfold X6;rw[qa1];constructor
 ·rintro⟨x,hx,h⟩
  obtain⟨y,hy,e⟩:=qK.mp h
  cases e
  exact(Vf.mp hy).2
 ·intro h
  obtain⟨h1,h2,_⟩:=WC.mp h;exact⟨a,qS.mpr h1,qK.mpr ⟨b,Vf.mpr ⟨h2,h⟩,rfl⟩⟩
theorem ZjR {l:List (Int×Int)}(o:OrdN l.length (rP l))(a b:Nat):rP l a b=true↔Pth (X6 l l.length) l.length a b:=by
 constructor
 ·exact fun h=>.one (ZcI.mpr h)
 ·intro h
  induction h with
  | one h=>exact ZcI.mp h
  | two _ _ _ i1 i2=>exact o.tr _ _ _ i1 i2
theorem Zf3 {l:List (Int×Int)}(hg:Gd l):((Xd l.length).filter fun p=>!decide (p∈UF l))=Yh l.length (rP l):=by
 refine List.filter_congr fun p hp=>?_;have hpp:=Uk.mp hp;have h1:p.1<l.length:=by omega
 have e:decide (p∈UF l)=Vt (l.getD p.1 (0,0)) (l.getD p.2 (0,0)):=by
  rw[<-ZkV (by omega) h1 hpp.2,UQ hpp.1]
 rw[e,yg,yO,WC,WC,qaT,<-Bool.not_eq_true,ZjM];have:=hg _ (JE h1);have:=hg _ (JE hpp.2);omega
theorem Zk0 {C:List Nat}{d:D}(h:d∈WL (C.map nD) ((C.drop 1).map nD)):∃i,∃(h1:i<C.length) (h2:i+1<C.length),d=.tup [nD C[i],nD C[i+1]]:=by
 obtain⟨i,hi,e⟩:=yn.mp h;unfold WL at hi e;rw[qaz,qj,qj,qam] at hi;refine⟨i,by omega,by omega,?_⟩;rw[List.getElem_zipWith] at e;rw[<-e,yI,yI,List.getElem_drop];simp only[Nat.add_comm 1 i]
theorem Zk1 {f g:Zb->M D}{ρ:Zb}{s:Pn}{ds es:List D}(h1:f ρ s=some (.lst ds,s))(h2:g ρ s=some (.lst es,s)):Zgo f g ρ s=some (WL ds es,s):=by
 unfold Zgo Zm;rw[h1];dsimp only;rw[h2];rfl
theorem cut1 (C:List Nat):Wi (C.map nD) (some 1) none=(C.drop 1).map nD:=by
 have:=ZmE (C.map nD) 1;rw[List.map_drop];exact this
set_option maxHeartbeats 4000000 in
theorem ZjS (m:Int)(w:List Int):∃s',Zjq (none::some .pen::qu 10 none) ([m,0],w)=some (.rt (.bl true),s'):=by
 have ok0:XI 0 ([m,0],w):=⟨m,0,rfl,by omega,by omega⟩;suffices hh:Ok (Zjq (none::some .pen::qu 10 none)) ([m,0],w) fun o s'=>o=.rt (.bl true) by
  obtain⟨o,s',e,rfl⟩:=hh;exact⟨s',e⟩
 refine Ok.seq (.sfor (fun i ρ s'=>XI (i*3000) s'/\∃o2 o3 o4 o5 o6 o7 o8 o9 o10 o11,ρ=[none,some .pen,o2,o3,o4,o5,o6,o7,o8,o9,o10,o11]) (.eq (XZ (n:=4) rfl (by omega)) ⟨⟨ok0.mono (by omega),none,none,none,none,none,none,none,none,none,none,rfl⟩,fun i d ρ s' hd hI=>?_,fun ρ' s' hI=>?_⟩))
 ·obtain⟨ok1,o2,o3,o4,o5,o6,o7,o8,o9,o10,o11,rfl⟩:=hI
  obtain⟨hi,rfl⟩:=UI hd;refine⟨_,rfl,?_⟩;obtain⟨pd,s,e4,ok4,fa,l0,_,rfl,hl0,hP⟩:=Zf2 (m:=4) (faD:=faD) (R:=fun _=>True) rfl (by omega) (by omega) (fun d hd=>by
   simp only[faD,qt,ze,or_false] at hd;rcases hd with rfl | rfl | rfl | rfl
   all_goals exact⟨_,rfl,trivial⟩) ok1 (by omega)
  refine Ok.seq (.sset (.eq (a:=.lst ((l0.take 10).map ZS)) (by
   unfold UW Zm;rw[Yl (Zh rfl (Zh ZmI rfl)) (show Jq [.pen,.lst faD] s'=_ from e4)];show some (D.lst (Wi (l0.map ZS) none (some 10)),s)=_;rw[show Wi (l0.map ZS) none (some 10)=(l0.map ZS).take 10 from ZmD _ 10,List.map_take]) ?_))
  have hl:(l0.take 10).length<=10:=by rw[zU];omega
  have hg:Gd (l0.take 10):=fun p hp=>(hP p (qby hp)).1;generalize l0.take 10=l at hl hg;have ord:=ZmH hg;refine Ok.seq (.sset (.eq (ZmF (l:=l) rfl) ?_));refine Ok.seq (.sown (.eq (a:=.lst []) rfl ⟨rfl,?_⟩));refine Ok.seq (.sfor (fun k ρ s'=>s=s'/\∃o6,ρ=[none,some .pen,some (nD i),some (.lst (l.map ZS)),some (nD l.length),some (.lst ((X6 l k).map ZJ)),o6,o7,o8,o9,o10,o11]) (.eq (XZ (n:=l.length) rfl (by omega)) ⟨⟨rfl,o6,rfl⟩,fun k d ρ s' hd hI=>?_,fun ρ' s' hI=>?_⟩))
  ·obtain⟨rfl,o6,rfl⟩:=hI
   obtain⟨hk,rfl⟩:=UI hd;refine⟨_,rfl,?_⟩;have hrl:=ZcH l k;have hrl2:k*l.length<=10*10:=y8 (by omega) (by omega);have hsl:=ZgC l.length fun b=>rP l k b;refine Ok.seq (.sext (ds:=(X6 l k).map ZJ) rfl (.eq (a:=.lst ((Wu l.length fun b=>rP l k b).map fun b=>ZJ (k,b))) ?_ ⟨_,rfl,by rw[qj,qj,Ys];omega,.next ⟨_,rfl,rfl,some (nD k),?_⟩⟩))
   ·have hc:=Xa (src:=[none,some 6,some 3]) (fi:=Yb (Za 4)) (τ:=Zy 0) (ft:=asB (Zd Jj (Zd Zl (Zd Zl (Za 2) (Za 1)) (dC (.int 1))) (Zd Zl (Zd Zl (Za 2) (Za 0)) (dC (.int 0))))) (fe:=ZV (Zc (Za 1) (Zc (Za 0) Ze))) (ρ:=Z8 [5] [none,some .pen,some (nD i),some (.lst (l.map ZS)),some (nD l.length),some (.lst ((X6 l k).map ZJ)),some (nD k),o7,o8,o9,o10,o11]) (s:=s) (ds:=Z3 0 l.length) (fun d=>[some d,some (nD k),some (.lst (l.map ZS))]) (fun d=>rP l k (Yu d)) (fun d=>ZJ (k,Yu d)) (XZ (n:=l.length) rfl (by omega)) (by rw[Y2,Ys];omega) fun d hd=>by
     obtain⟨q,hq,rfl⟩:=VM hd;refine⟨rfl,?_,fun _=>Wc (Zh rfl (Zh rfl rfl)) two_le⟩;refine(Y8 (ZB (ZB (ZB rfl rfl (ZgE l k hk)) rfl (Jm _)) (ZB (ZB rfl rfl (ZgE l q hq)) rfl (pc0 _)) rfl)).trans ?_;show some (decide ((l.getD k (0,0)).2<=(l.getD q (0,0)).1),s)=some (rP l k q,s);congr 2;exact decide_eq_decide.mpr ⟨fun h=>⟨hk,hq,h⟩,fun h=>h.2.2⟩
    refine hc.trans ?_;rw[Vy,yf,qD];rfl
   ·rw[ZdA,zY,qD]
    rfl
  obtain⟨rfl,o6,rfl⟩:=hI;rw[Y2];have hrl:=ZcH l l.length;have hrl2:l.length*l.length<=10*10:=y8 (by omega) (by omega);have hL:∀p∈X6 l l.length,p.1<l.length/\p.2<l.length:=fun p hp=>ord.lt _ _ (ZcI.mp hp);have hpr:=ZjR ord;have hwb:=ZmC l;have htl:=hwb.len (by omega);have hwo:=Zd3 (n:=l.length) (L:=X6 l l.length) (by omega) (by omega) hL (rP l) hpr ord.irr s;have htn:=ZcD l.length (UF l) s (by omega) (by omega);rw[Zf3 hg] at htn;obtain⟨C,ps,hC,c1,c2,_,_⟩:=ZhO (n:=l.length) (L:=X6 l l.length) (by omega) (by omega) hL (rP l) hpr ord.irr s;have hmk:=ZaV (BT l.length (rP l)) (show l.length<=24 by omega);have hup:=ZjP ord c1 hmk.1 c2;have hClt:∀a∈C,a<l.length:=fun a ha=>(Ul.mp hmk.1).2.1 a (c1.mem_iff.mp ha);have hCl:C.length=om l.length (Yh l.length (rP l)):=by rw[c1.length_eq,<-Zdy (BT _ _) (by omega)]
  have htp:=ZhS (by omega) hg hCl hup hClt s;have hmo:=Ze1 (BT l.length (rP l)) (by omega) s;generalize U6 l.length (Yh l.length (rP l)) ps=hs at hC;generalize XR l.length (Yh l.length (rP l))=MK at hmo;generalize (X6 l l.length).map ZJ=RD at hwo hC;refine Ok.seq (.sset (.eq (Yl (Zh rfl rfl) (ZmB l (by omega) s)) ?_));refine Ok.seq (.sif (.eq (a:=false) (Y8 (ZB (d:=ZX l.length (Yh l.length (rP l))) (e:=ZX l.length (Yh l.length (rP l))) (Yl (Zh rfl (Zh rfl rfl)) hwo) (Yl (Zh rfl rfl) htn) (ZkK (ZhK _ _) (qZ (Zkn _ _) (by omega))))) (.next ?_)));refine Ok.seq (.sunp (.eq (Yl (Zh rfl (Zh rfl rfl)) hC) ⟨_,rfl,?_⟩));refine Ok.seq (.sif (.bor (.eq (a:=false) (Y8 (ZB (d:=nD (om l.length (Yh l.length (rP l)))) (e:=nD (om l.length (Yh l.length (rP l)))) rfl (Yl (Zh rfl rfl) htp) (by rw[B0];simp))) ?_)));rw[if_neg (by decide)];refine .eq (a:=false) (Y8 (ZB (d:=nD (om l.length (Yh l.length (rP l)))) (e:=nD (om l.length (Yh l.length (rP l)))) (ZB (Yl (Zh (Yl (Zh rfl rfl) htn) rfl) hmo) rfl (U2 _ _)) rfl (by rw[B0];simp))) ?_;rw[if_neg (by decide)];refine .next ?_;refine Ok.seq (.sfor (fun k ρ s'=>s=s'/\∃o6 o11,ρ=[none,some .pen,some (nD i),some (.lst (l.map ZS)),some (nD l.length),some (.lst RD),o6,some (ZX l.length (UF l)),some (nD (om l.length (Yh l.length (rP l)))),some (.lst (C.map nD)),some (XE hs),o11]) (.eq (a:=WL (C.map nD) ((C.drop 1).map nD)) ?_ ⟨⟨rfl,o6,o11,rfl⟩,fun k d ρ s' hd hI=>?_,fun ρ' s' hI=>?_⟩))
  ·exact Zk1 rfl ((ZhN (ds:=C.map nD) (lo:=some 1) (hi:=none) rfl rfl rfl).trans (by rw[cut1]))
  ·obtain⟨rfl,o6,o11,rfl⟩:=hI
   obtain⟨j,h1,h2,rfl⟩:=Zk0 (zF hd);have hrr:=WC.mp (zt.mp hup j (j+1) h1 h2 (by omega));refine⟨_,rfl,?_⟩;refine Ok.seq (.sif (.eq (a:=false) (Y8 (ZB (ZB (ZB rfl rfl (ZgE l _ hrr.1)) rfl (Jm _)) (ZB (ZB rfl rfl (ZgE l _ hrr.2.1)) rfl (pc0 _)) (by
    show some (D.bl (decide _))=_;rw[decide_eq_false (by have:=hrr.2.2;omega)]))) (.next (.next ⟨_,rfl,rfl,_,_,rfl⟩))))
  obtain⟨rfl,o6,o11,rfl⟩:=hI;exact .next ⟨_,rfl,ok4.mono (by omega),_,_,_,_,_,_,_,_,_,_,rfl⟩
 ·obtain⟨ok,o2,o3,o4,o5,o6,o7,o8,o9,o10,o11,rfl⟩:=hI
  exact Ok.seq (.sret (.eq rfl rfl))
end K56
namespace K56
open L2 TF TQ
open TP
open TP2
open TP3
set_option maxHeartbeats 4000000 in
theorem ZmJ {P:Program}{w:World}{K:qf}{mg:Str->Option Value}{base:Heap}{kf a_p:Addr}{jO fd_p:FuncData}{L:List (Addr×Str)}(lo:Wt L)(F:Fun K "law" "law" s_law kf jO)(T:Txt mg)(FP:FnOk P w K mg base ZO 1 a_p fd_p ["script"] (Zli K))(hmp:mg "_law_tpen" = some (.ref a_p))(hkp:zR K (.ref a_p)=true)(hbp:Xz K fd_p ["script"] [])(kc:ZT P w K mg base 1 "_law_tapart" 1 false Z6 Uc)(ka:ZT P w K mg base 2 "_law_tpieces" 2 true (W7 Vs L) Jq)(kd:ZT P w K mg base 56 "chains_told" 2 false (YB L) Bo)(kC:ZT P w K mg base 55 "most" 1 true (YB L) VB)(kh:ZT P w K mg base 6 "turned" 1 false (YB L) Vc)(kb:ZT P w K mg base 7 "web_of_order" 2 false (YB L) Bn)(j6:ZT P w K mg base 6 "web_of_pieces" 1 false Z6 Jo) :
  FnOk P w K mg base ZO 57 kf jO ["script"] (ZfJ K L):=by
 have nd:=ZfT.nd;refine F.ok ZfT (fun vs H Q E h=>?_) fun cdv A outer s0 H vs Q E hr h=>?_
 ·obtain⟨a,ns,rfl,_⟩:=h
  rfl
 ·obtain⟨a,ns,rfl,sq,hl,hTb,hQ⟩:=h
  refine⟨_,WS (Um (i:=1) nd rfl (qM rfl) (Zf6 (FP.mono (by decide)) hr rfl hmp hkp hbp .nil Zig (Y4 (pv 0) Xs))) (ZiK (GG:=(W7 Vs L)) fun G hG=>ZkI lo T hr kc ka kd kC kh kb j6 G hG),?_⟩;refine⟨.ref a,rfl,a,ns,rfl,sq,hl,fun p wa m H' st kp hp hw=>?_⟩;obtain⟨s',hs'⟩:=ZjS m (WY ns);exact Zhu (n:=10) st hTb kp hp hw hQ hs'
noncomputable def Zlz:List DRow:=[dR "pairs_of" 4 225 7 1 40 232 true "tiefold.things" 223,
 dR "near" 6 237 14 2 47 240 false "tiefold.webs" 235,
 dR "all_near" 7 243 16 1 52 246 false "tiefold.webs" 235,
 dR "are_tied" 8 249 19 3 57 255 true "tiefold.webs" 235,
 dR "marked_ties" 9 258 21 1 64 261 false "tiefold.webs" 235,
 dR "turned" 10 264 23 1 69 269 true "tiefold.webs" 235,
 dR "web_where" 11 272 26 2 76 275 false "tiefold.webs" 235,
 dR "most" 13 280 30 1 81 285 true "tiefold.most" 278,
 dR "heaviest_knot" 14 288 33 2 88 291 false "tiefold.most" 278,
 dR "heaviest_among" 15 294 36 3 93 297 false "tiefold.most" 278,
 dR "apart_among" 16 300 48 3 98 303 false "tiefold.most" 278,
 dR "heaviest_with" 17 306 50 4 103 309 false "tiefold.most" 278,
 dR "weighed" 18 312 53 2 108 315 false "tiefold.most" 278,
 dR "hued_along" 20 320 56 2 113 323 false "tiefold.hues" 318,
 dR "least_free" 21 326 62 1 118 329 false "tiefold.hues" 318,
 dR "web_of_order" 23 334 65 2 123 339 true "tiefold.chains" 332,
 dR "chains_told" 24 342 67 2 130 345 false "tiefold.chains" 332,
 dR "count_below" 25 348 74 3 135 351 false "tiefold.chains" 332,
 dR "web_of_below" 26 354 76 2 140 360 true "tiefold.chains" 332,
 dR "all_below" 27 363 78 2 147 366 false "tiefold.chains" 332,
 dR "web_of_pieces" 29 371 89 1 152 375 true "tiefold.pieces" 369,
 dR "do_meet" 30 378 91 2 159 383 true "tiefold.pieces" 369,
 dR "_law_tpen" 32 388 94 1 166 391 false "law_tiefold_k56_whole_pieces_as_orders" 386,
 dR "_law_tdraw" 33 394 99 2 171 402 true "law_tiefold_k56_whole_pieces_as_orders" 386,
 dR "_law_tpieces" 34 405 110 2 178 417 true "law_tiefold_k56_whole_pieces_as_orders" 386,
 dR "_law_tapart" 35 420 122 1 185 423 false "law_tiefold_k56_whole_pieces_as_orders" 386,
 dR "law" 36 426 128 1 190 429 false "law_tiefold_k56_whole_pieces_as_orders" 386]
noncomputable def KF (P:Params):qf:=Znd Z5 181 ([dE P "__name__" 165 (.str "law_tiefold_k56_whole_pieces_as_orders" 386)] ++ [dE P "__doc__" 166 (.none)] ++ [dE P "__package__" 167 (.none)] ++ [dE P "__loader__" 168 (.builtin "__main__.__loader__#opaque")] ++ [dE P "__spec__" 169 (.none)]++dRs P [nE "__annotations__" 170 6,nE "__builtins__" 171 4] ++ [dE P "__file__" 173 (.str "/claim/cut.py" 172)] ++ [dE P "__cached__" 174 (.none)]++dRs P [nE "TieError" 206 24,nE "Round" 222 37,nE "pairs_of" 234 46,nE "near" 242 51,nE "all_near" 248 56,nE "are_tied" 257 63,nE "marked_ties" 263 68,nE "turned" 271 75,nE "web_where" 277 80,nE "most" 287 87,nE "heaviest_knot" 293 92,nE "heaviest_among" 299 97,nE "apart_among" 305 102,nE "heaviest_with" 311 107,nE "weighed" 317 112,nE "hued_along" 325 117,nE "least_free" 331 122,nE "web_of_order" 341 129,nE "chains_told" 347 134,nE "count_below" 353 139,nE "web_of_below" 362 146,nE "all_below" 368 151,nE "web_of_pieces" 377 158,nE "do_meet" 385 165,nE "_law_tpen" 393 170,nE "_law_tdraw" 404 177,nE "_law_tpieces" 419 184,nE "_law_tapart" 425 189,nE "law" 431 194]) 38 Zlz
noncomputable def asF:List Addr:=[3,45,46,50,51,55,56,62,63,67,68,74,75,79,80,86,87,91,92,96,97,101,102,106,107,111,112,116,117,121,122,128,129,133,134,138,139,145,146,150,151,157,158,164,165,169,170,176,177,183,184,188,189,193,194]
theorem eF:∀P,asF=(KF P).map (·.1):=fun _=>by kernel_rfl
theorem okF (P:Params):BZ (KF P) Z5 Zlz:=by
 repeat refine⟨⟨by kernel_rfl,by kernel_rfl,by kernel_rfl⟩,?_⟩
 exact trivial
noncomputable abbrev LF:List (Addr×Str):=[(70,(qw "turned.<locals>.<lambda>")),(141,(qw "web_of_below.<locals>.<lambda>")),(131,(qw "chains_told.<locals>.<lambda>"))]
set_option maxHeartbeats 4000000 in
theorem ZmK {P:Program}{w:World}{h:Heap}{mg:Str->Option Value}{fa:Addr}(X:(KF w.params).In h)(G:h.Ns mainGlobals mg)(hfa:mg "law" = some (.ref fa)) :
  ∃fd:FuncData,(∀(s:Shared) (v:Value),BindsTo s fd ⟨[v],[]⟩ [("script",v)])/\∀base:Heap,(KF w.params).In base->base.Ns mainGlobals mg->zB base 74 70->zB base 145 141->zB base 133 131->V8 mg base->FnOk P w (KF w.params) mg base ZO 57 fa fd ["script"] (ZfJ (KF w.params) LF):=by
 have lo:Wt LF:=TF.lok_nd (by decide);have zn:∀x,qa4 (KF w.params) mainGlobals x=some none->mg x=none:=fun _ z=>PySem.W.mg_none_of X G z;have T:Txt mg:=⟨zn _ (by kernel_rfl),zn _ (by kernel_rfl),zn _ (by kernel_rfl),zn _ (by kernel_rfl),zn _ (by kernel_rfl),zn _ (by kernel_rfl),zn _ (by kernel_rfl),zn _ (by kernel_rfl),zn _ (by kernel_rfl),zn _ (by kernel_rfl),zn _ (by kernel_rfl),zn _ (by kernel_rfl)⟩;have mk:=@mkc P w (KF w.params) mg;have at_:=fun j {r} e=>@Zmr _ h mg _ _ (okF w.params) X G j r e;obtain⟨f1,_,F1,m1,_⟩:=at_ 25 rfl;obtain⟨f2,_,F2,m2,_⟩:=at_ 23 rfl;obtain⟨f3,_,F3,m3,_⟩:=at_ 24 rfl;obtain⟨f4,_,F4,m4,_⟩:=at_ 19 rfl;obtain⟨f5,_,F5,m5,_⟩:=at_ 17 rfl;obtain⟨f6,_,F6,m6,_⟩:=at_ 4 rfl;obtain⟨f7,_,F7,m7,_⟩:=at_ 3 rfl;obtain⟨f8,_,F8,m8,_⟩:=at_ 1 rfl;obtain⟨f9,_,F9,m9,_⟩:=at_ 2 rfl;obtain⟨f10,_,F10,m10,_⟩:=at_ 14 rfl;obtain⟨f11,_,F11,m11,_⟩:=at_ 13 rfl;obtain⟨f12,_,F12,m12,_⟩:=at_ 10 rfl;obtain⟨f13,_,F13,m13,_⟩:=at_ 12 rfl;obtain⟨f14,_,F14,m14,_⟩:=at_ 11 rfl;obtain⟨f15,_,F15,m15,_⟩:=at_ 9 rfl;obtain⟨f16,_,F16,m16,_⟩:=at_ 0 rfl;obtain⟨f17,_,F17,m17,_⟩:=at_ 6 rfl;obtain⟨f18,_,F18,m18,e18⟩:=at_ 5 rfl;obtain⟨f19,_,F19,m19,_⟩:=at_ 8 rfl;obtain⟨f20,_,F20,m20,_⟩:=at_ 7 rfl;obtain⟨f21,_,F21,m21,e21⟩:=at_ 18 rfl;obtain⟨f22,_,F22,m22,e22⟩:=at_ 16 rfl;obtain⟨f23,_,F23,m23,_⟩:=at_ 15 rfl;obtain⟨f24,_,F24,m24,_⟩:=at_ 21 rfl;obtain⟨f25,_,F25,m25,_⟩:=at_ 20 rfl;obtain⟨f26,_,F26,m26,_⟩:=at_ 22 rfl;obtain⟨f27,_,F27,m27,_⟩:=at_ 26 rfl
 cases hfa.symm.trans m27
 have ko:=fun b=>mk b F7 m7 (ZeT F7 T );have kF:=fun b=>mk b F16 m16 (ZeR F16 T );have kI:VF P w (KF w.params) mg 5 "web_where" 2 false (Vr P w (KF w.params) mg 4 2 Tl) Vb:=⟨f17,_,_,fun b=>ZdX F17 T (kF b),m17,F17.kp,bdc ["row","tied"] F17⟩;have kK:=fun b=>mk b F24 m24 (Zcz F24 T );have kE:CalG P w (KF w.params) mg 4 "do_meet" 2 JA:=⟨f24,_,_,_,fun b=>(Zcz F24 T ).mono (by decide),rfl,m24,F24.lk,bdc ["piece","other"] F24⟩;obtain⟨oc,od,kV,doc,pm,an,cdv,ct,osl,rfl,lk,hcd⟩:=F27.ex;refine⟨zW "law" "law" (Wx s_law) (X8 s_law) (Zx s_law) .none kV doc pm an cdv ct,fun s v=>.of_eq rfl,fun base _ _ hC18 hC21 hC22 hBm=>?_⟩;have kc:=mk base F1 m1 (Zcx F1 T );have kH:=mk base F2 m2 (ZcW F2 T );have jN:ZT P w (KF w.params) mg base 1 "_law_tdraw" 2 true (W7 Vs LF) Yf:=ZiT kH ZiU;have ka:=mk base F3 m3 (ZbQ F3 T lo jN);have kg:=mk base F4 m4 (ZdY F4 T );have kr:=mk base F5 m5 (Zcs F5 T );have j8:=mk base F6 m6 (Zct F6 T );have kD:=ko base;have kJ:=mk base F8 m8 (ZkG F8 T kD);have ki:=mk base F9 m9 (ZeU F9 T j8 kJ);have kA:=mk base F10 m10 (ZcS F10 T );have kB:=mk base F11 m11 (ZcT F11 T ki kA);have kq:=mk base F12 m12 (Zcu F12 T );have kx:=mk base F13 m13 (ZfS F13 T );have rr:∀j:Nat,ZT P w (KF w.params) mg base (1+2*j) "heaviest_among" 3 false Z6 (Ua j):=by
  intro j
  induction j with
  | zero=>exact ZT.none m15 F15.kp (bdc ["aparts","weights","places"] F15)
  | succ j ih=>
   have ke:=mk base F14 m14 (Zbz F14 T (by omega) ih);have z:ZT P w (KF w.params) mg base (1+2*j+2) "heaviest_among" 3 false Z6 (Ua (j+1)):=mk base F15 m15 (Zbl F15 T (by omega) kq ih ke kx);exact z.mono (h:=by omega)
 have jR:=(rr 26).mono (k:=53);have kG:=kF base;have jW:=kI;have kh:=mk base F18 m18 (ZhA F18 T lo j8 jW ko (tP:=70) e18 hC18 hBm (by simp));have kj:=mk base F19 m19 (ZbA F19 T lo ki jR kh);have kC:=mk base F20 m20 (ZkH F20 T lo kj);have jX:=mk base F21 m21 (ZbR F21 T lo jW (tP:=141) e21 hC21 hBm (by simp));have kd:=mk base F22 m22 (Zcw F22 T lo kg kr kB kC jX (tP:=131) e22 hC22 hBm (by simp));have kb:=mk base F23 m23 (ZbS F23 T lo kg jX);have kL:=kK base;have j6:=mk base F25 m25 (ZbB F25 T jW kE);exact ZmJ lo F27 T (ZdZ F26 T) m26 F26.kp (bdc ["script"] F26) kc ka kd kC kh kb j6
noncomputable def tb:List (Str×Addr×Addr):=[("turned",74,70),("web_of_below",145,141),("chains_told",133,131)]
theorem ZmL:∀P q,(P,q)∈LF->∃x c,(x,c,P)∈tb:=by
 intro P q h;simp only[qt,Prod.mk.injEq,ze,or_false] at h;rcases h with⟨rfl,_⟩ | ⟨rfl,_⟩ | ⟨rfl,_⟩
 ·exact⟨"turned",74,by simp[tb]⟩
 ·exact⟨"web_of_below",145,by simp[tb]⟩
 ·exact⟨"chains_told",133,by simp[tb]⟩
noncomputable def qF:Program:=PySem.W.view PySem.Challenge.pw_tiefold_k56_whole_pieces_as_orders [1,2,4,6,7,8,9,10,11,13,14,15,16,17,18,20,21,23,24,25,26,27,29,30,32,33,34,35,36]
theorem walk {loose:List Str}{XP:(Str->Option Value)->Heap->Prop}{YP:World->Heap->Prop}(hY:∀(w:World) (h:Heap),YP w h->(KF w.params).In h) :
  qbz qF loose XP YP PySem.Challenge.rw_tiefold_k56_whole_pieces_as_orders.row.toRowW (ZfU s_law) [] (fun f vs=>qbv f vs):=
 ZiX (K:=KF) (tb:=tb) (n:=63) (k:=57) (x:="script") (CX:=fun _=>ZO) (sp:=fun w=>ZfJ (KF w.params) LF) rfl (by decide) rfl ⟨rfl,by decide,by decide,rfl⟩ hY
  (z0.mpr ⟨zN.mp (by kernel_rfl),z0.mpr ⟨zN.mp (by kernel_rfl),z0.mpr ⟨zN.mp (by kernel_rfl),(fun _ h=>nomatch h)⟩⟩⟩)
  (fun w=>z0.mpr ⟨by kernel_rfl,z0.mpr ⟨by kernel_rfl,z0.mpr ⟨by kernel_rfl,(fun _ h=>nomatch h)⟩⟩⟩) (fun w=>by kernel_rfl)
  (fun w mg fa h h1 h2 h3=>let ⟨fd,hb,hF⟩:=ZmK h1 h2 h3;⟨fd,hb,fun base g1 g2 g3 g4=>hF base g1 g2 (g3 ("turned",74,70) (by simp[tb])) (g3 ("web_of_below",145,141) (by simp[tb])) (g3 ("chains_told",133,131) (by simp[tb])) g4⟩)
  (fun _ _ a ns hl hS hTb=>⟨a,ns,rfl,hS,hl,ZfK (tb:=tb) ZmL hTb,fun _=>rfl⟩) fun _ _ _ _ _ z=>z
theorem left:PySem.W.LeftO PySem.Challenge.rw_tiefold_k56_whole_pieces_as_orders.prog qF [] (fun s=>PySem.W.xlAt qF [] s&&PySem.W.recOk PySem.Challenge.rw_tiefold_k56_whole_pieces_as_orders.row.records s) (yB KF asF eF).obs (yB KF asF eF).val 2578:=fun w=>by kernel_rfl
theorem said:PySem.Challenge.rw_tiefold_k56_whole_pieces_as_orders.wellSaid=true:=by kernel_rfl
end K56
open PySem.W
set_option maxRecDepth 100000 in
set_option maxHeartbeats 0 in
theorem PySem.Challenge.cw_tiefold_k56_whole_pieces_as_orders_holds : PySem.Challenge.rw_tiefold_k56_whole_pieces_as_orders.Holds := by
 refine TF.head_of (q:=K56.qF) (K:=K56.KF) (st:=K56.s_law) K56.said K56.left (by kernel_rfl) (by kernel_rfl) (by kernel_rfl) (by decide +kernel) ⟨rfl,rfl,rfl,rfl,rfl,by decide +kernel⟩ ?hw rfl (K56.walk fun w h Y=>kIn_of Y)
 case hw=>w_witness2
