import PyProof.Rows.All
import Wide.All
import OpenK.AllK
import Wide.FinOn
import Lean
import PyProof.EqAt
import PyProof.EqKinds
import PyProof.TupleCall
import KE.KLam
import PyProof.ZipIter
import PyProof.WalksEnum
import PyProof.WalkInts
import PyProof.SeqI3
import PyProof.Rows.SeqMore
import PyProof.Rows.SortWalk
import PyProof.Draws
import PyProof.EnumMake
import PyProof.DictIter
import KE.KSortTup
import PyProof.Rows.SeqMore2
import PyProof.Rows.RuleIs
import PyProof.Rows.SetFrom
import PyProof.WalksMore
import PyProof.MinMaxWalk
import OpenK.KMore
import PyProof.Rows.SortRuns
import PyProof.Rows.SortRunsK
import KE.KMinKey
import KE.KDictSum
import PySem.Challenge.RW_tiefold_k52_whole_pieces_moved
-- CHANGE: your row's module here,as the last of these rows
open List renaming length_map->qd,getD_eq_getElem?_getD->qf,mem_append_right->qj,getElem?_eq_getElem->qm,range->qp,mem_cons->qu,mem_map->qy,replicate->qz,mem_filter->qA,mem_range->qB,size_toArray->qC,getElem?_map->qD,map_map->qG,length_range->qJ,mem_cons_of_mem->qK,getElem?_eq_some_iff->qL,mem_singleton->qN,mem_append->qP,length_cons->qR,getElem?_set_ne->qS,toArray->qU,length_append->qY,map_cons->zb,lookup_cons->zc,all_eq_true->zd,append_nil->zf,filter_sublist->zg,mem_append_left->zh,getElem?_set_self->zj,length_filter_le->zr,map_congr_left->zt,getElem_mem->zu,pairwise_iff_getElem->zw,nodup_cons->zx,mem_cons_self->zC,map_append->zD,length_take->zE,getElem?_append_left->zF,pairwise_cons->zO,length_eq_zero_iff->zP,Pairwise->zQ,replicate_succ->zT,filter_eq_self->zU,nodup_range->zZ,mem_of_getElem?->z5,getElem?_range->z6,getElem?_append_right->z8,take_length->z9,length_singleton->ya,filter_map->yg,forall_mem_cons->yh,getElem?_replicate->yk,filter_cons_of_neg->ym,not_mem_nil->yo,length_nil->yt,find?_cons->yu,flatten_cons->yw,pairwise_map->yz,take_succ_eq_append_getElem->yE,filterMap_cons->yF,mem_map_of_mem->yG,findSome?_cons->yH,range_succ_eq_map->yN,length_drop->yQ,mem_reverse->yS,pairwise_append->yT,perm_ext_iff_of_nodup->yW,length->yX,getElem_of_mem->yZ,drop_eq_getElem_cons->y6,getElem?_zip_eq_some->y8,mem_filterMap->qaa,getElem?_take_of_lt->qab,idxOf_lt_length_iff->qah,filter_cons_of_pos->qaq,append_assoc->qar,filter_congr->qat,nodup_append->qau,take_of_length_le->qay,any_cons->qaA,pairwise_reverse->qaF,of_mem_zip->qaH,map_nil->qaI,foldl->qaJ,drop_eq_nil_iff->qaL,nodup_nil->qaP,getD->qaQ,filter_append->qaR,Perm->qaS,all_cons->qaX,take_sublist->qa0,cons_append->qa7,all_map->qa9,map_id'->qbc,ext_getElem->qbe,filter_cons->qbh,getElem_map->qbi,nil_append->qbp,forIn_cons->qbr,range_succ->qbs,drop_of_length_le->qbv,getElem?_eq_none->qbA,length_eraseIdx->qbI,mem_iff_getElem->qbJ,map_eq_nil_iff->qbO,lookup->qbY
open PySem.W renaming Frag->qk,kla_fn->qW,CodeHd->zL,kia_one->zN,envX->zY,keepIn->z0,fnOf->yd,kHook->yL,codeIn->qai,tabObj->qaj,callWith_of->qaO,methodObj->qaZ,nsIn->qbg,instObj->qbn,cellsFrom_some->qbu,lookIn->qbw,hideAll_size->qbC,hideAll_none->qbD,WalkO->qbK,hideAll_get->qbL
open PySem.Heap renaming get?_push_of_some->qq,lt_size->qH,get?_push_size->qI,get?_update_ne->zG,get?_update_other->zR,get?_update_self->qaE,SameBut->qbR
open Nat renaming le_refl->qw,ne_of_lt->qQ,lt_of_lt_of_le->qT,le_trans->qZ,zero_le->zk,lt_irrefl->yj,lt_succ_of_lt->yy,lt_succ_self->yR,le_antisymm->y9,le_succ_of_le->qav,max_eq_right->qaD,min_eq_left->qaN,lt_trichotomy->qa4,zero_add->qbb,mul_le_mul->qbx,le_of_ble_eq_true->qbB,le_of_lt->qbQ,mul_comm->qbS,lt_trans->qbT,le_of_eq->qbU,sub_self->qbV,le_succ->qbX
open PySem.Str renaming ofString->qE,ofString->qaT
open PySem.Value renaming ref->qM,none->ze,bool->zH,type->qaG,int->qbm,notImplemented->qbF,str->qbP
open Or renaming inl->qO,inr->yb
open PySem.F renaming plain_max_loop->qV,entry_max_loop->zS,slot_int_rmul->ye,slot_tuple_mul->yp,plainAttrs_list->yJ,args_tuple_add_2->qac,slot_list_getattribute->qae,args_tuple_mul_2->qaf,entry_tuple_add->qal,entry_tuple_mul->qao,args_int_rmul_2->qas,slot_tuple_add->qaw,slot_int_index->qaB,entry_int_rmul->qaC,fills_int_mul->qaK,slot_tuple_rmul->qbk,slot_list_index->qbl,slot_list_pop->qby,type_list_pop->qbz
open Bool renaming and_eq_true->qX,eq_iff_iff->zo,false_ne_true->zX,false_eq_true->yc,and_eq_true_iff->yf,true_and->yV,not_eq_true'->qa5,or_eq_true->qbq,or_eq_true_iff->qbM
open Array renaming length_toList->za,toList_append->qbN
open Option.some renaming inj->zi,injEq->qa3
open PySem.Obj renaming mapSeq->zl
open Ne renaming symm->zm
open Sum renaming inl->zp,inr->yn
open PySem.Around renaming under_plainId->zq,frames_deeper->qbE
open PySem renaming mem_of_lookup->zy,call->qbG
open PyProof.Rows renaming slot_tuple_getitem->zB,callWith_type1->yq
open False renaming elim->zI
open PySem.NameKind renaming free->zJ,cell->yU
open Option renaming isSome_iff_exists->zK,map_some->zV,bind_eq_some_iff->yK,isSome_map->qa1,bind_some->qa8
open List.Pairwise renaming imp_of_mem->zM,nil->qa2
open PySem.PassesOwn renaming never->zW
open True renaming intro->z7
open Int renaming toNat_natCast->yi,le_refl->yY,emod_lt_of_pos->qag,eq_ofNat_of_zero_le->qap,emod_nonneg->qaM,toNat->qbW
open PySem.Builtin.Builtins renaming bindParams->yr
open PySem.Builtin.Slice renaming slicePlaces->yA,sliceAdjust->y4,sliceApplied->qaV
open Iff renaming rfl->yB
open PySem.AutoSeq1 renaming sub_tuple_tuple->yC,sub_tuple_list->qam,sub_list_tuple->qan,sub_list_list->qax,idx_int->qbd
open PySem.Builtin.Tuple renaming tupleExact->yD,tupleItemsOf->qaW,tupleTooMany->qaY
open PySem.Builtin.Range renaming rangeSize->yI
open ForInStep renaming yield->yM
open PySem.Builtin.List renaming listExtendWith->yO,listTooLong->qad
open PySem.SeqAt renaming EqAt->yP,RcNeAt->qba,RcAt->qbH
open PySem.Keeper renaming machine->qak
open PySem.Paired renaming length->qaz
open PySem.Calls renaming Name_function_global->qaU
open PySem.Walks renaming list->qa6
open Nat.succ renaming inj->qbf
open PySem.Builtin.Dict renaming updateFrom->qbj
open PyProof.Rows.IsTup renaming new->qbo
open Sum.inl renaming inj->qbt
open PySem PySem.Spec PyProof.Rows
set_option genSizeOfSpec false
set_option bootstrap.genMatcherCode false
set_option Elab.async false
set_option linter.all false
set_option maxRecDepth 100000
namespace L2
noncomputable abbrev Zt:=Sum Int Str
noncomputable def JO:Zt->Value->Bool
 | .inl k,v=>Value.isInt k v
 | .inr x,v=>Value.isStrOf x v
noncomputable def keyH (w:World):Zt->Int
 | .inl k=>hashInt k
 | .inr x=>hashStr w x
theorem VS:∀{k:Zt} {v:Value},JO k v=true->(∃i t,k=zp i/\v=qbm i t)∨(∃x t,k=yn x/\v=qbP x t)
 | .inl i,v,h=>by
  obtain⟨t,e⟩:=Value.isInt_shape (k:=i) (v:=v) h;exact .inl ⟨i,t,rfl,e⟩
 | .inr x,v,h=>by
  obtain⟨t,e⟩:=Value.isStrOf_shape (x:=x) (v:=v) h;exact .inr ⟨x,t,rfl,e⟩
theorem Zi6 (i:Int)(t:Tok):JO (.inl i) (.int i t)=true:=by simp[JO,Value.isInt]
theorem Zi7 (x:Str)(t:Tok):JO (.inr x) (.str x t)=true:=by simp[JO,Value.isStrOf]
theorem Zou (a b:Int):decide ((zp a:Zt)=zp b)=(a==b):=by
 by_cases e:a=b
 ·subst e;simp
 ·have h:¬(zp a:Zt)=zp b:=fun q=>e (qbt q)
  rw[decide_eq_false h];exact(beq_eq_false_iff_ne.mpr e).symm
theorem Zov (a b:Str):decide ((yn a:Zt)=yn b)=decide (a=b):=by
 by_cases e:a=b
 ·subst e;simp
 ·have h:¬(yn a:Zt)=yn b:=fun q=>e (yn.inj q)
  rw[decide_eq_false h,decide_eq_false e]
theorem Zow (a:Int)(b:Str):decide ((zp a:Zt)=yn b)=false:=decide_eq_false (fun q=>nomatch q)
theorem Zox (a:Str)(b:Int):decide ((yn a:Zt)=zp b)=false:=decide_eq_false (fun q=>nomatch q)
noncomputable def X5 (prog:Program)(w:World):PySem.KeyKind prog w Zt where
 is:=JO
 hash:=keyH w
 inj:=fun v a b ha hb=>by
  rcases VS ha with⟨i,t,rfl,rfl⟩ | ⟨x,t,rfl,rfl⟩
  ·rcases VS hb with⟨j,u,rfl,e⟩ | ⟨y,u,rfl,e⟩
   ·injection e with e1 _;rw[e1]
   ·exact nomatch e
  ·rcases VS hb with⟨j,u,rfl,e⟩ | ⟨y,u,rfl,e⟩
   ·exact nomatch e
   ·injection e with e1 _;rw[e1]
 byValue:=fun k v h=>by
  rcases VS h with⟨i,t,rfl,rfl⟩ | ⟨x,t,rfl,rfl⟩ <;> rfl
 pyHash:=fun hv h=>by
  rcases VS hv with⟨i,t,rfl,rfl⟩ | ⟨x,t,rfl,rfl⟩
  ·exact wpAny_pyHash_int h
  ·exact wpAny_pyHash_str h
 eqBool:=fun hu hv h=>by
  rcases VS hu with⟨i,t,rfl,rfl⟩ | ⟨x,t,rfl,rfl⟩
  ·rcases VS hv with⟨j,u,rfl,rfl⟩ | ⟨y,u,rfl,rfl⟩
   ·rw[Zou] at h;exact wpAny_eqBool_int h
   ·rw[Zow] at h;exact yP.int_str i t y u _ _ _ _ h
  ·rcases VS hv with⟨j,u,rfl,rfl⟩ | ⟨y,u,rfl,rfl⟩
   ·rw[Zox] at h;exact yP.str_int x t j u _ _ _ _ h
   ·rw[Zov] at h;exact wpAny_eqBool_str h
 «strs»:=fun k x t v h=>by
  rcases VS h with⟨i,u,rfl,e⟩ | ⟨y,u,rfl,e⟩
  ·exact nomatch e
  ·injection e with e1 _
   subst e1
   cases v <;> rfl
theorem ZfC (prog:Program)(w:World)(i:Int)(t:Tok):(X5 prog w).is (.inl i) (.int i t)=true:=Zi6 i t
theorem ZfD (prog:Program)(w:World)(x:Str)(t:Tok):(X5 prog w).is (.inr x) (.str x t)=true:=Zi7 x t
end L2
namespace L2
inductive V where
 | non | bl (b:Bool) | int (i:Int) | str (x:Str) | byt (b:Array UInt8) | flt (b:UInt64) | ref (a:Addr) | ty (n:String)
 deriving DecidableEq
noncomputable def ZC:V->Value->Prop
 | .non,u=>u=ze
 | .bl b,u=>u=zH b
 | .int i,u=>∃t,u=qbm i t
 | .str x,u=>∃t,u=qbP x t
 | .byt b,u=>∃t,u=Value.bytes b t
 | .flt b,u=>∃t,u=Value.float b t
 | .ref a,u=>u=qM a
 | .ty n,u=>u=qaG n
noncomputable abbrev Zw:List V->List Value->Prop:=Paired ZC
theorem Zw.length {xs:List V}{us:List Value}(r:Zw xs us):xs.length=us.length:=qaz r
theorem Zw.get:∀{xs:List V} {us:List Value} {i:Nat} {x:V},Zw xs us->xs[i]?=some x->∃u,us[i]?=some u/\ZC x u
 | _,_,_,_,.nil,e=>by simp at e
 | _,_,0,_,.cons r _,e=>by simp at e;subst e;exact⟨_,rfl,r⟩
 | _,_,i+1,x,.cons _ t,e=>by
  obtain⟨u,h1,h2⟩:=Zw.get (i:=i) (x:=x) t (by simpa using e);exact⟨u,by simpa using h1,h2⟩
theorem Zw.set {x:V}{u:Value}(r:ZC x u):∀{xs:List V} {us:List Value} (i:Nat),Zw xs us->Zw (xs.set i x) (us.set i u)
 | _,_,_,.nil=>.nil
 | _,_,0,.cons _ t=>.cons r t
 | _,_,i+1,.cons q t=>.cons q (Zw.set r i t)
theorem Zw.append:∀{xs ys:List V} {us ws:List Value},Zw xs us->Zw ys ws->Zw (xs++ys) (us++ws)
 | _,_,_,_,.nil,s=>s
 | _,_,_,_,.cons r t,s=>.cons r (Zw.append t s)
theorem Zw.take:∀{xs:List V} {us:List Value} (n:Nat),Zw xs us->Zw (xs.take n) (us.take n)
 | _,_,0,_=>.nil
 | _,_,_+1,.nil=>.nil
 | _,_,n+1,.cons r t=>.cons r (Zw.take n t)
theorem Zw.drop:∀{xs:List V} {us:List Value} (n:Nat),Zw xs us->Zw (xs.drop n) (us.drop n)
 | _,_,0,r=>r
 | _,_,_+1,.nil=>.nil
 | _,_,n+1,.cons _ t=>Zw.drop n t
noncomputable def Uv:Option V->Option Value->Prop
 | some v,some u=>ZC v u
 | none,none=>True
 | _,_=>False
noncomputable def KV {κ:Type}:List (κ×V)->List (κ×Value)->Prop:=Paired fun(p:κ×V) (q:κ×Value)=>p.1=q.1/\ZC p.2 q.2
noncomputable def kV:Zt->V
 | .inl i=>.int i
 | .inr x=>.str x
inductive HO where
 | lst (xs:List V)
 | tup (xs:List V)
 | dK (kvs:List (Zt×V)) | dT (kvs:List (List Zt×V))
 | set (S:Int->Bool) (n:Nat)
 | ins (C dx:Addr) (fs:List (Str×V))
 | own (x:Addr)
 | xd (fs:List (Str×V))
 | met (f x:Addr)
 | rng (lo hi:Int)
 | frz (o:Obj) (u:HO)
 | tbl (ps:Array Value)
 | ext (φ:Heap->Prop)
noncomputable abbrev Hp:=Addr->Option HO
noncomputable def Zm (H:Hp)(a:Addr)(o:HO):Hp:=fun b=>if b=a then some o else H b
theorem ZO {H:Hp}{a:Addr}{o:HO}:Zm H a o a=some o:=by unfold Zm;rw[if_pos rfl]
theorem Zp {H:Hp}{a b:Addr}{o:HO}(h:b≠a):Zm H a o b=H b:=by unfold Zm;rw[if_neg h]
theorem ZeD {H:Hp}{a:Addr}{o u:HO}:Zm (Zm H a o) a u=Zm H a u:=by
 funext b;unfold Zm;split <;> rfl
theorem ZnU {H:Hp}{a b:Addr}{o u:HO}(h:H a=some o)(h':H b=some u)(d:o≠u):a≠b:=by
 intro e;subst e;rw[h] at h';exact d (zi h')
theorem Z6 {H:Hp}{a b:Addr}{o:HO}(h:H a=some o)(h':H b=none):a≠b:=by
 intro e;subst e;rw[h] at h';cases h'
section
variable (P:Program)(w:World)
noncomputable def YC (H:Hp)(h:Heap)(a:Addr):HO->Prop
 | .lst xs=>xs.length<=sizeLine/\∃(jL:List Value) (n:Nat),Zw xs jL/\h.get? a=some { cls:=.type "list",data:=.seq jL.toArray n }
 | .tup xs=>xs.length<=sizeLine/\∃jL:List Value,Zw xs jL/\IsTup h a jL.toArray
 | .dK kvs=>kvs.length<=sizeLine/\(a==sysModules)=false/\∃vs,KV kvs vs/\h.DictOf (X5 P w) a vs
 | .dT kvs=>kvs.length<=sizeLine/\(a==sysModules)=false/\∃xs:List (List Zt×Addr×Value),
   Paired (fun(p:List Zt×V) (q:List Zt×Addr×Value)=>p.1=q.1/\H q.2.1=some (.tup (p.1.map kV))/\ZC p.2 q.2.2) kvs xs/\
   ∃o es ep,h.get? a=some o/\o.ExactDict/\o.data=.dict es ep/\es.toList=xs.map (entryOfKey (tupleKind (X5 P w)))/\(xs.map (·.1)).Nodup
 | .set S n=>h.SetOf (intKind P w) a S n
 | .ins C dx fs=>H dx=some (.own a)/\fs.length<=1000/\dx≠a/\h.get? a=some (qbn C dx)/\
   ∃mA,h.Ns1 dx mA/\(∀f,Uv (fs.lookup f) (mA f))/\PySem.Within mA (fs.map (·.1))
 | .own _=>∃o,h.get? a=some o
 | .xd fs=>∃mA,h.Ns1 a mA/\∀f,Uv (fs.lookup f) (mA f)
 | .rng lo hi=>∃t u v,h.get? a=some { cls:=.type "range",data:=.fields #[.int lo t,.int hi u,.int 1 v] }
 | .frz o u=>h.get? a=some o/\YC H h a u
 | .tbl ps=>h.get? a=some { cls:=.none,data:=.fields ps }
 | .met f x=>h.get? a=some (qaZ (.ref f) (.ref x))
 | .ext φ=>φ h/\(∃o,h.get? a=some o)/\∀h1 h2:Heap,φ h1->(∀o,h1.get? a=some o->h2.get? a=some o)->φ h2
noncomputable def Ys (H:Hp)(h:Heap):Prop:=∀a o,H a=some o->YC P w H h a o
end
section
variable {P:Program}{w:World}{H H':Hp}{h h':Heap}{a:Addr}{o:HO}
theorem YC.lt (x:YC P w H h a o):a<h.objs.size:=by
 cases o with
 | lst xs=>obtain⟨_,_,_,_,e⟩:=x;exact qH e
 | tup xs=>obtain⟨_,_,_,p⟩:=x;exact p.lt
 | dK kvs=>obtain⟨_,_,_,_,o,_,_,e,_⟩:=x;exact qH e
 | dT kvs=>obtain⟨_,_,_,_,o,_,_,e,_⟩:=x;exact qH e
 | set S n=>obtain⟨o,_,_,_,e,_⟩:=x;exact qH e
 | ins C dx fs=>obtain⟨_,_,_,e,_⟩:=x;exact qH e
 | own y=>obtain⟨_,e⟩:=x;exact qH e
 | xd fs=>obtain⟨_,⟨_,_,_,e,_⟩,_⟩:=x;exact qH e
 | rng lo hi=>obtain⟨_,_,_,e⟩:=x;exact qH e
 | frz ob u=>obtain⟨e,_⟩:=x;exact qH e
 | tbl ps=>exact qH (show h.get? a=some _ from x)
 | met f y=>exact qH (show h.get? a=some _ from x)
 | ext φ=>obtain⟨_,⟨_,e⟩,_⟩:=x;exact qH e
theorem jv {α β:Type}{F G:α->β->Prop}:∀{l₁:List α} {l₂:List β},Paired F l₁ l₂->(∀a b,F a b->G a b)->Paired G l₁ l₂
 | _,_,.nil,_=>.nil
 | _,_,.cons r t,f=>.cons (f _ _ r) (jv t f)
theorem YC.stay (x:YC P w H h a o)(k:∀b u,(b=a∨H b=some (.own a))->h.get? b=some u->h'.get? b=some u)
  (ho:∀b,H b=some (.own a)->H' b=some (.own a)) (ht:∀b xs,H b=some (.tup xs)->H' b=some (.tup xs)):YC P w H' h' a o:=by
 induction o with
 | lst xs=>obtain⟨z,jL,n,r,e⟩:=x;exact⟨z,jL,n,r,k _ _ (.inl rfl) e⟩
 | tup xs=>obtain⟨z,jL,r,ob,e,c⟩:=x;exact⟨z,jL,r,ob,k _ _ (.inl rfl) e,c⟩
 | dK kvs=>obtain⟨z,y,vs,r,ob,es,ep,e,c⟩:=x;exact⟨z,y,vs,r,ob,es,ep,k _ _ (.inl rfl) e,c⟩
 | dT kvs=>
  obtain⟨z,y,xs,r,ob,es,ep,e,c⟩:=x;exact⟨z,y,xs,jv r fun p q z=>⟨z.1,ht _ _ z.2.1,z.2.2⟩,ob,es,ep,k _ _ (.inl rfl) e,c⟩
 | set S n=>obtain⟨ob,es,ep,t,e,c⟩:=x;exact⟨ob,es,ep,t,k _ _ (.inl rfl) e,c⟩
 | ins C dx fs=>
  obtain⟨d,z,ne,e,mA,⟨od,es,ep,e2,c⟩,r⟩:=x;exact⟨ho _ d,z,ne,k _ _ (.inl rfl) e,mA,⟨od,es,ep,k _ _ (.inr d) e2,c⟩,r⟩
 | own y=>obtain⟨ob,e⟩:=x;exact⟨ob,k _ _ (.inl rfl) e⟩
 | xd fs=>obtain⟨mA,⟨od,es,ep,e,c⟩,r⟩:=x;exact⟨mA,⟨od,es,ep,k _ _ (.inl rfl) e,c⟩,r⟩
 | rng lo hi=>obtain⟨t,u,v,e⟩:=x;exact⟨t,u,v,k _ _ (.inl rfl) e⟩
 | frz ob u ih=>obtain⟨e,q⟩:=x;exact⟨k _ _ (.inl rfl) e,ih q⟩
 | tbl ps=>
  have e:h.get? a=some { cls:=.none,data:=.fields ps }:=x;show h'.get? a=some { cls:=.none,data:=.fields ps };exact k a _ (.inl rfl) e
 | met f y=>
  have e:h.get? a=some (qaZ (.ref f) (.ref y)):=x;show h'.get? a=some (qaZ (.ref f) (.ref y));exact k a _ (.inl rfl) e
 | ext φ=>obtain⟨p,⟨o,e⟩,st⟩:=x;exact⟨st _ _ p fun o q=>k _ _ (.inl rfl) q,⟨o,k _ _ (.inl rfl) e⟩,st⟩
theorem Ys.lt (x:Ys P w H h)(e:H a=some o):a<h.objs.size:=(x a o e).lt
theorem Ys.fresh (x:Ys P w H h)(e:h.objs.size<=a):H a=none:=by
 cases q:H a with
 | none=>rfl
 | some u=>exact absurd (qT (x.lt q) e) (yj _)
theorem Ys.kept (x:Ys P w H h)(k:∀b u,h.get? b=some u->h'.get? b=some u):Ys P w H h':=fun a o e=>
 (x a o e).stay (fun b u _ q=>k b u q) (fun _ q=>q) fun _ _ q=>q
theorem Ys.laid (x:Ys P w H h)(k:∀b u,h.get? b=some u->h'.get? b=some u)(hp:h.objs.size<=a)(new:YC P w (Zm H a o) h' a o):Ys P w (Zm H a o) h':=fun b u e=>by
 have hn:=x.fresh hp;by_cases hb:b=a
 ·subst hb;rw[ZO] at e;cases e;exact new
 ·rw[Zp hb] at e
  exact(x b u e).stay (fun c v _ q=>k c v q) (fun c q=>by rw[Zp (Z6 q hn)];exact q) fun c xs q=>by rw[Zp (Z6 q hn)];exact q
end
noncomputable def Rd (H:Hp)(a:Addr)(u:HO):Prop:=H a=some u∨∃o,H a=some (.frz o u)
theorem Rd.ok {P:Program}{w:World}{H:Hp}{h:Heap}{a:Addr}{u:HO}(r:Rd H a u)(x:Ys P w H h):YC P w H h a u:=by
 rcases r with r | ⟨o,r⟩
 ·exact x a u r
 ·obtain⟨_,q⟩:=x a _ r
  exact q
noncomputable def BZ:Option HO->Prop
 | some (.lst _)=>True
 | some (.dK _)=>True
 | some (.dT _)=>True
 | some (.set _ _)=>True
 | some (.ins _ _ _)=>True
 | some (.ext _)=>True
 | _=>False
section
variable {P:Program}{w:World}{H:Hp}{h h':Heap}{x e:Addr}{o':HO}
theorem Ys.write (ok:Ys P w H h)(mu:BZ (H x))(he:e=x∨H e=some (.own x))(k:∀b u,b≠e->h.get? b=some u->h'.get? b=some u)(heo:∃u,h'.get? e=some u)
  (new:YC P w (Zm H x o') h' x o'):Ys P w (Zm H x o') h':=fun b u q=>by
 have nown:∀c y,H c=some (.own y)->c≠x:=fun c y r z=>by subst z;rw[r] at mu;exact mu
 have ntup:∀c xs,H c=some (.tup xs)->c≠x:=fun c xs r z=>by subst z;rw[r] at mu;exact mu
 by_cases hb:b=x
 ·subst hb;rw[ZO] at q;cases q;exact new
 ·rw[Zp hb] at q
  by_cases hbe:b=e
  ·have q':H b=some (.own x):=by
    rcases he with z | z
    ·exact absurd (hbe.trans z) hb
    ·rw[hbe];exact z
   rw[q] at q';cases q';obtain⟨v,hv⟩:=heo;exact⟨v,by rw[hbe];exact hv⟩
  ·refine(ok b u q).stay (fun c v hc r=>k c v ?_ r) (fun c r=>by rw[Zp (nown c b r)];exact r) fun c xs r=>by rw[Zp (ntup c xs r)];exact r
   rcases hc with rfl | hc
   ·exact hbe
   ·rintro rfl
    rcases he with z | z
    ·exact nown c b hc z
    ·rw[hc] at z;cases z;exact hb rfl
end
structure Un (fs ex:List Addr)(H H':Hp)(h h':Heap):Prop where
 keep:∀b o,h.get? b=some o->H b=none->b∉fs->b∉ex->h'.get? b=some o
 slot:∀b o,h.get? b=some o->H b=none->b∈fs->b∉ex->∃sl,h'.get? b=some { o with slots:=sl }
 free:∀b o,h.get? b=some o->H b=none->b∉ex->H' b=none
 there:∀b o,h.get? b=some o->b∉ex->∃o',h'.get? b=some o'
 tups:∀b xs,H b=some (.tup xs)->H' b=some (.tup xs)
 frzs:∀b o u,H b=some (.frz o u)->H' b=some (.frz o u)
 tbls:∀b ps,H b=some (.tbl ps)->∃more,H' b=some (.tbl (ps++more))
section
variable {fs fs' ex ex':List Addr}{H H1 H2:Hp}{h h1 h2 h':Heap}{a x e:Addr}{o:HO}
theorem Un.any (u:Un fs ex H H1 h h1){b:Addr}{ob:Obj}(q:h.get? b=some ob)(n:H b=none)(hx:b∉ex):∃sl,h1.get? b=some { ob with slots:=sl }:=by
 by_cases hb:b∈fs
 ·exact u.slot b ob q n hb hx
 ·exact⟨ob.slots,u.keep b ob q n hb hx⟩
theorem Un.kept (k:∀b u,h.get? b=some u->h'.get? b=some u):Un fs ex H H h h':=
 ⟨fun b ob q _ _ _=>k b ob q,fun b ob q _ _ _=>⟨ob.slots,k b ob q⟩,fun _ _ _ n _=>n,fun b ob q _=>⟨ob,k b ob q⟩,fun _ _ q=>q,fun _ _ _ q=>q,fun _ ps q=>⟨#[],by rw[q];simp⟩⟩
theorem Un.refl:Un fs ex H H h h:=Un.kept fun _ _ q=>q
theorem Un.laid (k:∀b u,h.get? b=some u->h'.get? b=some u)(hp:h.objs.size<=a)(hn:H a=none):Un fs ex H (Zm H a o) h h' where
 keep:=fun b u q _ _ _=>k b u q
 slot:=fun b u q _ _ _=>⟨u.slots,k b u q⟩
 free:=fun b u q n _=>by rw[Zp (qQ (qT (qH q) hp))];exact n
 there:=fun b u q _=>⟨u,k b u q⟩
 tups:=fun b xs q=>by rw[Zp (Z6 q hn)];exact q
 frzs:=fun b u xs q=>by rw[Zp (Z6 q hn)];exact q
 tbls:=fun b ps q=>⟨#[],by rw[Zp (Z6 q hn),q];simp⟩
theorem Un.write (mu:BZ (H x))(he:e=x∨H e=some (.own x))(k:∀b u,b≠e->h.get? b=some u->h'.get? b=some u)(heo:∃u,h'.get? e=some u):Un fs ex H (Zm H x o) h h':=by
 have hx:∀b,H b=none->b≠x:=fun b n z=>by subst z;rw[n] at mu;exact mu
 have hb:∀b,H b=none->b≠e:=fun b n z=>by
  subst z;rcases he with r | r
  ·exact hx b n r
  ·rw[n] at r;cases r
 have hm:∀b u,H b=some u->¬BZ (some u)->b≠x:=fun b u q nm z=>by subst z;rw[q] at mu;exact nm mu
 refine⟨fun b u q n _ _=>k b u (hb b n) q,fun b u q n _ _=>⟨u.slots,k b u (hb b n) q⟩,fun b u q n _=>by rw[Zp (hx b n)];exact n,fun b u q _=>?_,
  fun b xs q=>by rw[Zp (hm b _ q fun z=>z)];exact q,fun b u xs q=>by rw[Zp (hm b _ q fun z=>z)];exact q,fun b ps q=>⟨#[],by rw[Zp (hm b _ q fun z=>z),q];simp⟩⟩
 by_cases hbe:b=e
 ·subst hbe;exact heo
 ·exact⟨u,k b u hbe q⟩
end
noncomputable def trk (h:Heap)(H:Hp):List Addr:=(qp h.objs.size).filter fun a=>(H a).isSome
noncomputable def Vo (h:Heap)(H:Hp):Heap:=PySem.W.hideAll h (trk h H)
theorem Zi8 (h:Heap)(H:Hp):(Vo h H).objs.size=h.objs.size:=qbC _ _
theorem Zkz {h:Heap}{H:Hp}{b:Addr}{o:Obj}(e:h.get? b=some o)(n:H b=none):(Vo h H).get? b=some o:=
 qbL _ e fun hm=>by
  have q:(H b).isSome=true:=(qA.mp hm).2;rw[n] at q;simp at q
theorem ZmK {h:Heap}{H:Hp}{b:Addr}{o:Obj}(e:(Vo h H).get? b=some o):h.get? b=some o/\H b=none:=by
 have e':h.get? b=some o:=PySem.W.of_hideAll (trk h H) e;refine⟨e',?_⟩
 cases q:H b with
 | none=>rfl
 | some x=>
  have hm:b∈trk h H:=qA.mpr ⟨qB.mpr (qH e'),by simp[q]⟩;have z:(Vo h H).get? b=none:=qbD (trk h H) hm;rw[z] at e;cases e
end L2
namespace L2
structure Mod (K:qk)(mg:Str->Option Value)(base:Heap):Prop where
 kin:K.In base
 glob:base.Ns mainGlobals mg
 blt:∃mb,base.Ns builtinsNs mb/\∀x:Str,x≠"__name__"->mb x=bootBuiltins x
 nolimit:base.NoLimit
structure Cx where
 prog:Program
 w:World
 K:qk
 mg:Str->Option Value
 base:Heap
 A:Around
 N:List Str
 s₀:Shared
 H₀:Hp
 env:Env
 outer:List Env
 stack:List Env
 ex:List Addr
 fn:Str->Bool
 calm:Bool
 pn:List (Addr×Obj)
 xe:Value->Shared->Prop
noncomputable def X0 (l:List Env):List Addr:=l.filterMap (·.frame)
noncomputable abbrev Cx.fs (X:Cx):List Addr:=X0 X.outer
noncomputable def JZ (sc:Scope)(x:Str):Prop:=sc.names.lookup x=some .local∨sc.names.lookup x=some .cell∨sc.names.lookup x=some .free
noncomputable def Wy (sc:Scope)(x:Str):Prop:=sc.names.lookup x=some .local∨sc.names.lookup x=some .cell
noncomputable def Look (env:Env)(h:Heap)(m:Str->Option Value)(x:Str)(u:Value):Prop:=
 (env.kindOf x=some .local/\m x=some u)∨((env.kindOf x=some .cell∨env.kindOf x=some .free)/\∃c,env.cells.lookup x=some c/\h.IsCell c (some u))
structure Cx.Ok (X:Cx):Prop where
 mod:Mod X.K X.mg X.base
 kind:X.env.scope.kind=.function
 glob:X.env.globals=mainGlobals
 blt:X.env.builtins=builtinsNs
 above:X.s₀.heap.objs.size<=X.env.locals
 inj:∀x y c,X.env.cells.lookup x=some c->X.env.cells.lookup y=some c->x=y
 has:∀x,(X.env.kindOf x=some .cell∨X.env.kindOf x=some .free)->∃c,X.env.cells.lookup x=some c
 cab:∀x c,X.fn x=true->X.env.cells.lookup x=some c->X.s₀.heap.objs.size<=c
 hd:X.calm=true->X.A.handled=none
 frames:X.A.frames=some X.stack
 stk:X.stack=X.outer∨(X.stack=X.env::X.outer/\X.env.frame=some X.env.locals)
 exf:∀b∈X.ex,b≠X.env.locals/\∀x c,X.env.cells.lookup x=some c->c≠b
 bs:∀b o,X.base.get? b=some o->X.s₀.heap.get? b=some o/\X.H₀ b=none
 bsz:X.base.objs.size<=X.s₀.heap.objs.size
 noex:∀b o,X.base.get? b=some o->b∉X.ex
 exfs:∀b∈X.ex,b∉X.fs
 funs:X.s₀.heap.FunFrames X.base X.outer
 frf:∀b∈X.fs,X.H₀ b=none
structure Inv (X:Cx)(jJ:List (Addr×Obj))(σ:List (Option V))(H:Hp)(s:Shared):Prop where
 ok:X.Ok
 os:s.os=X.s₀.os
 bare:AllBare s.gens
 base:Un X.fs X.ex X.H₀ H X.s₀.heap s.heap
 loc:∃m,s.heap.Ns X.env.locals m/\∀(i:Nat) (x:Str) (v:V),X.N[i]?=some x->σ[i]?=some (some v)->JZ X.env.scope x->∃u,ZC v u/\Look X.env s.heap m x u
 cell:∀x c,X.env.cells.lookup x=some c->∃v,s.heap.IsCell c v
 free:H X.env.locals=none
 freeC:∀x c,X.env.cells.lookup x=some c->H c=none
 pin:∀p∈X.pn++jJ,s.heap.get? p.1=some p.2/\H p.1=none/\p.1≠X.env.locals/\p.1∉X.fs/\∀v,p.2.data≠.cell v
 hok:Ys X.prog X.w H s.heap
 len:σ.length=X.N.length
section
variable {X:Cx}{jJ:List (Addr×Obj)}{σ:List (Option V)}{H H':Hp}{s:Shared}{h':Heap}
theorem Cx.Ok.nofr (ok:X.Ok){b:Addr}{o:Obj}(e:X.base.get? b=some o):b∉X.fs:=fun hb=>by
 have:=(ok.funs.mem hb).1;rw[e] at this;cases this
theorem Inv.bs (I:Inv X jJ σ H s):∀b o,X.base.get? b=some o->s.heap.get? b=some o/\H b=none:=fun b o e=>
 ⟨I.base.keep b o (I.ok.bs b o e).1 (I.ok.bs b o e).2 (I.ok.nofr e) (I.ok.noex b o e),I.base.free b o (I.ok.bs b o e).1 (I.ok.bs b o e).2 (I.ok.noex b o e)⟩
theorem Inv.bk (I:Inv X jJ σ H s):∀b o,X.base.get? b=some o->s.heap.get? b=some o:=fun b o e=>(I.bs b o e).1
theorem Inv.mod (I:Inv X jJ σ H s):Mod X.K X.mg X.base:=I.ok.mod
theorem Inv.kIn (I:Inv X jJ σ H s):X.K.In s.heap:=I.ok.mod.kin.keeps I.bk
theorem Inv.lt (I:Inv X jJ σ H s):X.env.locals<s.heap.objs.size:=let ⟨_,hn,_⟩:=I.loc;hn.lt
theorem Inv.sz (I:Inv X jJ σ H s):X.s₀.heap.objs.size<=s.heap.objs.size:=qZ I.ok.above (qbQ I.lt)
theorem Inv.nofs (I:Inv X jJ σ H s){a:Addr}(h:s.heap.objs.size<=a):a∉X.fs:=fun hb=>by
 obtain⟨_,o,ho,_⟩:=I.ok.funs.mem hb;exact absurd (qT (qH ho) (qZ I.sz h)) (yj _)
theorem Inv.cne (I:Inv X jJ σ H s):∀x c,X.env.cells.lookup x=some c->c≠X.env.locals:=fun x c e z=>by
 obtain⟨v,o,ho,hd⟩:=I.cell x c e;obtain⟨m,⟨o',es,ep,ho',hd',_⟩,_⟩:=I.loc;rw[z,ho'] at ho;cases ho;rw[hd'] at hd;cases hd
theorem Inv.funs (I:Inv X jJ σ H s):s.heap.FunFrames X.base X.outer:=by
 have all:∀(l:List Env),(∀b∈X0 l,b∈X.fs)->X.s₀.heap.FunFrames X.base l->s.heap.FunFrames X.base l:=by
  intro l
  induction l with
  | nil=>intro _ _;trivial
  | cons env r ih=>
   intro hs hl;obtain⟨hk,⟨L,o,hf,hn,ho,hd⟩,hr⟩:=hl;have hL:L∈X.fs:=hs L (by unfold X0;rw[yF,hf];exact zC);obtain⟨sl,e⟩:=I.base.slot L o ho (I.ok.frf L hL) hL fun z=>I.ok.exfs L z hL;exact⟨hk,⟨L,_,hf,hn,e,hd⟩,ih (fun b hb=>hs b (by unfold X0;rw[yF,hf];exact qK _ hb)) hr⟩
 exact all X.outer (fun _ hb=>hb) I.ok.funs
theorem Inv.stack (I:Inv X jJ σ H s):s.heap.FunFrames X.base X.stack:=by
 rcases I.ok.stk with e | ⟨e,hf⟩
 ·rw[e];exact I.funs
 ·rw[e]
  obtain⟨m,hn,_⟩:=I.loc;refine .cons (by rw[I.ok.kind];decide) hf hn ?_ I.funs;exact Heap.get?_none_of_le (qZ I.ok.bsz I.ok.above)
theorem Inv.stkSub (I:Inv X jJ σ H s):∀b∈X0 X.stack,b∈X.env.locals::X.fs:=fun b hb=>by
 rcases I.ok.stk with e | ⟨e,hf⟩
 ·rw[e] at hb;exact qK _ hb
 ·rw[e] at hb
  unfold X0 at hb;rw[yF,hf] at hb;exact hb
theorem Inv.stkFree (I:Inv X jJ σ H s):∀b∈X0 X.stack,H b=none:=fun b hb=>by
 rcases qu.mp (I.stkSub b hb) with e | hb
 ·rw[e];exact I.free
 ·obtain⟨_,o,ho,_⟩:=I.ok.funs.mem hb
  exact I.base.free b o ho (I.ok.frf b hb) fun z=>I.ok.exfs b z hb
theorem Inv.step {g':Array GenState}{t':Nat}{d':Drawn}{ch:List Addr}(I:Inv X jJ σ H s)
  (hch:∀b∈ch,(b∈X.ex∨X.s₀.heap.objs.size<=b)/\b≠X.env.locals/\(∀x c,X.env.cells.lookup x=some c->c≠b)/\∀p∈X.pn++jJ,p.1≠b)
  (keep:∀b o,b≠X.env.locals->b∉X.fs->b∉ch->s.heap.get? b=some o->H b=none->h'.get? b=some o)
  (slot:∀b o,b≠X.env.locals->b∈X.fs->b∉ch->s.heap.get? b=some o->H b=none->∃sl,h'.get? b=some { o with slots:=sl }) (free:∀b o,b∉ch->s.heap.get? b=some o->H b=none->H' b=none)
  (there:∀b o,b∉ch->s.heap.get? b=some o->∃o',h'.get? b=some o')
  (tups:∀b xs,H b=some (.tup xs)->H' b=some (.tup xs)) (frzs:∀b o u,H b=some (.frz o u)->H' b=some (.frz o u)) (tbls:∀b ps,H b=some (.tbl ps)->∃more,H' b=some (.tbl (ps++more)))
  (ns:∀m,s.heap.Ns X.env.locals m->h'.Ns X.env.locals m) (hok:Ys X.prog X.w H' h') (hg:AllBare g') :
  Inv X jJ σ H' { s with heap:=h',gens:=g',drawn:=d',toks:=t' }:=by
 have neL:∀b o,X.s₀.heap.get? b=some o->b≠X.env.locals:=fun b o e=>qQ (qT (qH e) I.ok.above);have neC:∀b o,X.s₀.heap.get? b=some o->b∉X.ex->b∉ch:=fun b o e hx hb=>by
  rcases (hch b hb).1 with z | z
  ·exact hx z
  ·exact absurd (qT (qH e) z) (yj _)
 have cellK:∀x c,X.env.cells.lookup x=some c->∀v,s.heap.IsCell c v->h'.IsCell c v:=fun x c e v ⟨o,ho,hd⟩=>by
  have nch:c∉ch:=fun z=>(hch c z).2.2.1 x c e rfl;by_cases hc:c∈X.fs
  ·obtain⟨sl,q⟩:=slot c o (I.cne x c e) hc nch ho (I.freeC x c e)
   exact⟨_,q,hd⟩
  ·exact⟨o,keep c o (I.cne x c e) hc nch ho (I.freeC x c e),hd⟩
 refine⟨I.ok,I.os,hg,⟨fun b o e n hb hx=>?_,fun b o e n hb hx=>?_,fun b o e n hx=>?_,fun b o e hx=>?_,fun b xs e=>tups b xs (I.base.tups b xs e),fun b o xs e=>frzs b o xs (I.base.frzs b o xs e),fun b ps e=>?_⟩,?_,fun x c e=>?_,?_,fun x c e=>?_,fun p hp=>?_,hok,I.len⟩
 ·exact keep b o (neL b o e) hb (neC b o e hx) (I.base.keep b o e n hb hx) (I.base.free b o e n hx)
 ·obtain⟨sl,e1⟩:=I.base.slot b o e n hb hx
  obtain⟨sl',e2⟩:=slot b _ (neL b o e) hb (neC b o e hx) e1 (I.base.free b o e n hx);exact⟨sl',e2⟩
 ·obtain⟨o',e1⟩:=I.base.there b o e hx
  exact free b o' (neC b o e hx) e1 (I.base.free b o e n hx)
 ·obtain⟨o',e1⟩:=I.base.there b o e hx
  exact there b o' (neC b o e hx) e1
 ·obtain⟨m1,e1⟩:=I.base.tbls b ps e
  obtain⟨m2,e2⟩:=tbls b _ e1;exact⟨m1++m2,by rw[e2,Array.append_assoc]⟩
 ·obtain⟨m,hn,hl⟩:=I.loc
  refine⟨m,ns m hn,fun i x v e1 e2 e3=>?_⟩;obtain⟨u,r,l⟩:=hl i x v e1 e2 e3;refine⟨u,r,?_⟩;rcases l with l | ⟨k,c,e,z⟩
  ·exact .inl l
  ·exact .inr ⟨k,c,e,cellK x c e _ z⟩
 ·obtain⟨v,z⟩:=I.cell x c e
  exact⟨v,cellK x c e v z⟩
 ·obtain⟨m,⟨o,_,_,ho,_⟩,_⟩:=I.loc
  exact free _ o (fun z=>(hch _ z).2.1 rfl) ho I.free
 ·obtain⟨v,o,ho,hd⟩:=I.cell x c e
  exact free c o (fun z=>(hch c z).2.2.1 x c e rfl) ho (I.freeC x c e)
 ·obtain⟨e,n,ne,nf,d⟩:=I.pin p hp
  have nch:p.1∉ch:=fun z=>(hch p.1 z).2.2.2 p hp rfl;exact⟨keep p.1 p.2 ne nf nch e n,free p.1 p.2 nch e n,ne,nf,d⟩
theorem Inv.un {t':Nat}(I:Inv X jJ σ H s)(u:Un X.fs [] H H' s.heap h')(hok:Ys X.prog X.w H' h'):Inv X jJ σ H' { s with heap:=h',toks:=t' }:=by
 obtain⟨m,⟨o,es,ep,ho,r⟩,_⟩:=id I.loc;obtain⟨sl,hL⟩:=u.any ho I.free (by simp);exact I.step (g':=s.gens) (d':=s.drawn) (ch:=[]) (fun _ z=>nomatch z) (fun b o _ hb _ e n=>u.keep b o e n hb (by simp)) (fun b o _ hb _ e n=>u.slot b o e n hb (by simp)) (fun b o _ e n=>u.free b o e n (by simp)) (fun b o _ e=>u.there b o e (by simp)) u.tups u.frzs u.tbls (fun m' hm=>by
  obtain⟨o',es',ep',ho',r'⟩:=hm;rw[ho] at ho';cases ho';exact⟨_,es',ep',hL,r'⟩) hok I.bare
theorem Inv.call {g':Array GenState}{t':Nat}{d':Drawn}{ch:List Addr}(I:Inv X jJ σ H s)(u:Un (X0 X.stack) ch H H' s.heap h')(hok:Ys X.prog X.w H' h')(hg:AllBare g')
  (hch:∀b∈ch,(b∈X.ex∨X.s₀.heap.objs.size<=b)/\b≠X.env.locals/\(∀x c,X.env.cells.lookup x=some c->c≠b)/\∀p∈X.pn++jJ,p.1≠b) :
  Inv X jJ σ H' { s with heap:=h',gens:=g',drawn:=d',toks:=t' }:=by
 obtain⟨m,⟨o,es,ep,ho,r⟩,_⟩:=id I.loc;obtain⟨sl,hL⟩:=u.any ho I.free fun z=>(hch _ z).2.1 rfl;exact I.step (ch:=ch) hch (fun b o hL hb hc e n=>u.keep b o e n (fun z=>(qu.mp (I.stkSub b z)).elim hL hb) hc) (fun b o _ _ hc e n=>u.any e n hc) (fun b o hc e n=>u.free b o e n hc) (fun b o hc e=>u.there b o e hc) u.tups u.frzs u.tbls (fun m' hm=>by
  obtain⟨o',es',ep',ho',r'⟩:=hm;rw[ho] at ho';cases ho';exact⟨_,es',ep',hL,r'⟩) hok hg
theorem Inv.turned {t':Nat}{it:Addr}(I:Inv X jJ σ H s)(k:∀b o,b≠it->s.heap.get? b=some o->h'.get? b=some o)(hn:H it=none)(hL:it≠X.env.locals)
  (h1:it∈X.ex∨X.s₀.heap.objs.size<=it) (h2:∀x c,X.env.cells.lookup x=some c->c≠it) (h3:∀p∈X.pn++jJ,p.1≠it):Inv X jJ σ H { s with heap:=h',toks:=t' }:=by
 have nit:∀b u,H b=some u->b≠it:=fun b u e z=>by rw[z,hn] at e;cases e
 refine I.step (g':=s.gens) (d':=s.drawn) (ch:=[it]) (fun b hb=>?_) (fun b o _ _ hc e _=>k b o (fun z=>hc (by simp[z])) e) (fun b o _ _ hc e _=>⟨o.slots,k b o (fun z=>hc (by simp[z])) e⟩) (fun _ _ _ _ n=>n)
  (fun b o hc e=>⟨o,k b o (fun z=>hc (by simp[z])) e⟩) (fun _ _ e=>e) (fun _ _ _ e=>e) (fun b ps e=>⟨#[],by rw[e];simp⟩) (fun m hm=>?_) (fun b u e=>?_) I.bare
 ·have e:b=it:=by simpa using hb
  subst e;exact⟨h1,hL,h2,h3⟩
 ·obtain⟨o,es,ep,ho,r⟩:=hm
  exact⟨o,es,ep,k _ o (zm hL) ho,r⟩
 ·refine(I.hok b u e).stay (fun c v hc q=>k c v ?_ q) (fun _ q=>q) fun _ _ q=>q
  rcases hc with z | z
  ·rw[z];exact nit b u e
  ·exact nit c _ z
theorem Inv.tok (I:Inv X jJ σ H s)(t:Nat):Inv X jJ σ H { s with toks:=t }:=I.un (h':=s.heap) (t':=t) Un.refl I.hok
theorem Inv.kept {t':Nat}(I:Inv X jJ σ H s)(k:∀b u,s.heap.get? b=some u->h'.get? b=some u):Inv X jJ σ H { s with heap:=h',toks:=t' }:=I.un (Un.kept k) (I.hok.kept k)
theorem Inv.laid {a:Addr}{o:HO}{t':Nat}(I:Inv X jJ σ H s)(k:∀b u,s.heap.get? b=some u->h'.get? b=some u)(hp:s.heap.objs.size<=a)(new:YC X.prog X.w (Zm H a o) h' a o) :
  Inv X jJ σ (Zm H a o) { s with heap:=h',toks:=t' }:=I.un (Un.laid k hp (I.hok.fresh hp)) (I.hok.laid k hp new)
theorem Inv.write {x e:Addr}{o:HO}{t':Nat}(I:Inv X jJ σ H s)(mu:BZ (H x))(he:e=x∨H e=some (.own x))(k:∀b u,b≠e->s.heap.get? b=some u->h'.get? b=some u)(heo:∃u,h'.get? e=some u)
  (new:YC X.prog X.w (Zm H x o) h' x o):Inv X jJ σ (Zm H x o) { s with heap:=h',toks:=t' }:=I.un (Un.write mu he k heo) (I.hok.write mu he k heo new)
theorem Inv.pins_of {pins':List (Addr×Obj)}(I:Inv X jJ σ H s)(h:∀p∈pins',s.heap.get? p.1=some p.2/\H p.1=none/\p.1≠X.env.locals/\p.1∉X.fs/\∀v,p.2.data≠.cell v):Inv X pins' σ H s:=
 ⟨I.ok,I.os,I.bare,I.base,I.loc,I.cell,I.free,I.freeC,fun p hp=>(qP.mp hp).elim (fun z=>I.pin p (zh _ z)) (h p),I.hok,I.len⟩
theorem ZfE {N:List Str}(hN:N.Nodup){i j:Nat}{x:Str}(a:N[i]?=some x)(b:N[j]?=some x):i=j:=by
 obtain⟨h1,e1⟩:=qL.mp a;obtain⟨h2,e2⟩:=qL.mp b;exact(List.getElem_inj hN).mp (e1.trans e2.symm)
theorem Zi9 {M:Model}{A:Around}{E:Value->Shared->Prop}{i:Nat}{x:Str}{v:V}{u:Value}{Q:Unit->Shared->Prop}(I:Inv X jJ σ H s)(hN:X.N.Nodup)(hi:X.N[i]?=some x)(hx:Wy X.env.scope x)(r:ZC v u)
  (h:∀s',Inv X jJ (σ.set i (some v)) H s'->(∃a,qbR a s.heap s'.heap/\(a=X.env.locals∨X.env.cells.lookup x=some a))->Q () s') (hf:X.fn x=true∨X.env.scope.names.lookup x=some .local:=by first | exact .inl rfl | exact .inr rfl | assumption):wpAny M A (storeName X.env x u) Q E s:=by
 obtain⟨m,hn,hl⟩:=id I.loc;have hcls:(X.env.scope.kind == .class||(X.env.scope.kind == .module&&X.env.locals != X.env.globals))=false:=by rw[I.ok.kind];rfl
 have hiσ:i < σ.length:=by rw[I.len];exact(qL.mp hi).1
 have cne:=I.cne;have tracked:∀{a:Addr} {h':Heap},(∃o,s.heap.get? a=some o/\H a=none)->qbR a s.heap h'->Ys X.prog X.w H h':=fun {a h'} ha hs b ob e=>by
  obtain⟨_,_,hfree⟩:=ha;refine(I.hok b ob e).stay (fun c w' hc q=>(hs.2 c ?_).trans q) (fun _ q=>q) fun _ _ q=>q;rintro rfl;rcases hc with rfl | hc
  ·rw[hfree] at e;cases e
  ·rw[hfree] at hc;cases hc
 rcases hx with hk | hk
 ·refine wpAny_storeName_local hk hn (fun h' hn' hs=>?_) hcls
  obtain⟨oL,_,_,hoL,_⟩:=id hn;refine h _ ⟨I.ok,I.os,I.bare,⟨fun b o e n hb hx=>?_,fun b o e n hb hx=>?_,I.base.free,fun b o e hx=>?_,I.base.tups,I.base.frzs,I.base.tbls⟩,⟨_,hn',fun j y v' e1 e2 e3=>?_⟩,fun y c e=>?_,I.free,I.freeC,fun p hp=>?_,tracked ⟨oL,hoL,I.free⟩ hs,by simpa using I.len⟩ ⟨_,hs,.inl rfl⟩
  ·exact(hs.2 b (qQ (qT (qH e) I.ok.above))).trans (I.base.keep b o e n hb hx)
  ·obtain⟨sl,e1⟩:=I.base.slot b o e n hb hx
   exact⟨sl,(hs.2 b (qQ (qT (qH e) I.ok.above))).trans e1⟩
  ·obtain⟨o',e1⟩:=I.base.there b o e hx
   exact⟨o',(hs.2 b (qQ (qT (qH e) I.ok.above))).trans e1⟩
  ·by_cases hj:j=i
   ·subst hj
    rw[hi] at e1;cases e1;rw[zj hiσ] at e2
    cases e2
    exact⟨u,r,.inl ⟨hk,by simp⟩⟩
   ·rw[qS (zm hj)] at e2
    obtain⟨u',r',q⟩:=hl j y v' e1 e2 e3;refine⟨u',r',?_⟩;rcases q with⟨k,e⟩ | ⟨k,c,e,z⟩
    ·refine .inl ⟨k,?_⟩
     have:y≠x:=fun e=>hj (ZfE hN e1 (e▸hi));simp[this,e]
    ·exact .inr ⟨k,c,e,z.sameBut hs (cne y c e)⟩
  ·obtain⟨w',z⟩:=I.cell y c e
   exact⟨w',z.sameBut hs (cne y c e)⟩
  ·obtain⟨e,n,ne,nf,d⟩:=I.pin p hp
   exact⟨(hs.2 p.1 ne).trans e,n,ne,nf,d⟩
 ·have hfn:X.fn x=true:=by
   rcases hf with z | z
   ·exact z
   ·rw[z] at hk;cases hk
  obtain⟨c,hc⟩:=I.ok.has x (.inl hk);obtain⟨w',z⟩:=I.cell x c hc;refine wpAny_storeName_cell I.ok.kind hk hc z (fun h' hc' hs=>?_);obtain⟨oc,hoc,hocd⟩:=id z;refine h { s with heap:=h' } ⟨I.ok,I.os,I.bare,⟨fun b o e n hb hx=>?_,fun b o e n hb hx=>?_,I.base.free,fun b o e hx=>?_,I.base.tups,I.base.frzs,I.base.tbls⟩,⟨m,hn.sameBut hs (zm (cne x c hc)),fun j y v' e1 e2 e3=>?_⟩,fun y c' e=>?_,I.free,I.freeC,fun p hp=>?_,tracked ⟨oc,hoc,I.freeC x c hc⟩ hs,by simpa using I.len⟩ ⟨c,hs,.inr hc⟩
  ·exact(hs.2 b (qQ (qT (qH e) (I.ok.cab x c hfn hc)))).trans (I.base.keep b o e n hb hx)
  ·obtain⟨sl,e1⟩:=I.base.slot b o e n hb hx
   exact⟨sl,(hs.2 b (qQ (qT (qH e) (I.ok.cab x c hfn hc)))).trans e1⟩
  ·obtain⟨o',e1⟩:=I.base.there b o e hx
   exact⟨o',(hs.2 b (qQ (qT (qH e) (I.ok.cab x c hfn hc)))).trans e1⟩
  ·by_cases hj:j=i
   ·subst hj
    rw[hi] at e1;cases e1;rw[zj hiσ] at e2
    cases e2
    exact⟨u,r,.inr ⟨.inl hk,c,hc,hc'⟩⟩
   ·rw[qS (zm hj)] at e2
    obtain⟨u',r',q⟩:=hl j y v' e1 e2 e3;refine⟨u',r',?_⟩;rcases q with q | ⟨k,c',e,z'⟩
    ·exact .inl q
    ·refine .inr ⟨k,c',e,z'.sameBut hs ?_⟩
     rintro rfl;exact hj (ZfE hN e1 (I.ok.inj _ _ _ e hc▸hi))
  ·by_cases hcc:c'=c
   ·subst hcc;exact⟨_,hc'⟩
   ·obtain⟨w2,z2⟩:=I.cell y c' e
    exact⟨w2,z2.sameBut hs hcc⟩
  ·obtain⟨e,n,ne,nf,d⟩:=I.pin p hp
   refine⟨(hs.2 p.1 ?_).trans e,n,ne,nf,d⟩;intro q;rw[q,hoc] at e;have q':oc=p.2:=zi e;exact d w' (by rw[<-q'];exact hocd)
theorem ZcO {M:Model}{A:Around}{E:Value->Shared->Prop}{i:Nat}{x:Str}{v:V}{u:Value}{Q:Unit->Shared->Prop}(I:Inv X jJ σ H s)(hN:X.N.Nodup)(hi:X.N[i]?=some x)(hx:Wy X.env.scope x)(r:ZC v u)
  (h:∀s',Inv X jJ (σ.set i (some v)) H s'->Q () s') (hf:X.fn x=true∨X.env.scope.names.lookup x=some .local:=by first | exact .inl rfl | exact .inr rfl | assumption):wpAny M A (storeName X.env x u) Q E s:=
 Zi9 I hN hi hx r (fun s' I' _=>h s' I') hf
theorem Inv.call' {s':Shared}{ch:List Addr}(I:Inv X jJ σ H s)(ho:s'.os=s.os)(u:Un (X0 X.stack) ch H H' s.heap s'.heap)(hok:Ys X.prog X.w H' s'.heap)(hg:AllBare s'.gens)
  (hch:∀b∈ch,(b∈X.ex∨X.s₀.heap.objs.size<=b)/\b≠X.env.locals/\(∀x c,X.env.cells.lookup x=some c->c≠b)/\∀p∈X.pn++jJ,p.1≠b):Inv X jJ σ H' s':=by
 obtain⟨h',g',d',t',o'⟩:=s';have e:o'=s.os:=ho;subst e;exact I.call (g':=g') (t':=t') (d':=d') u hok hg hch
end
noncomputable abbrev XK:=Value->Option Addr->Hp->Prop
noncomputable abbrev St:=List (Option V)
noncomputable abbrev VK:=V->Hp->Prop
noncomputable abbrev TE:=St->Hp->VK->Prop
noncomputable abbrev TT:=St->Hp->(Bool->Hp->Prop)->Prop
noncomputable abbrev TA:=St->Hp->(List V->Hp->Prop)->Prop
structure Ends where
 nx:St->Hp->Prop
 rt:VK
 bk:St->Hp->Prop:=fun _ _=>False
 ct:St->Hp->Prop:=fun _ _=>False
noncomputable abbrev TS:=Ends->St->Hp->Prop
noncomputable def EP (X:Cx)(jJ:List (Addr×Obj))(σ:St)(Q:VK)(u:Value)(s':Shared):Prop:=∃v H',Inv X jJ σ H' s'/\ZC v u/\Q v H'
noncomputable def TP (X:Cx)(jJ:List (Addr×Obj))(σ:St)(Q:Bool->Hp->Prop)(b:Bool)(s':Shared):Prop:=∃H',Inv X jJ σ H' s'/\Q b H'
noncomputable def AP (X:Cx)(jJ:List (Addr×Obj))(σ:St)(Q:List V->Hp->Prop)(us:List Value)(s':Shared):Prop:=∃vs H',Inv X jJ σ H' s'/\Zw vs us/\Q vs H'
noncomputable def SP (X:Cx)(jJ:List (Addr×Obj))(D:Ends)(f:Flow)(s':Shared):Prop:=
 match f with
 | .next=>∃σ' H',Inv X jJ σ' H' s'/\D.nx σ' H'
 | .brk=>∃σ' H',Inv X jJ σ' H' s'/\D.bk σ' H'
 | .cont=>∃σ' H',Inv X jJ σ' H' s'/\D.ct σ' H'
 | .ret u=>∃v σ' H',Inv X jJ σ' H' s'/\ZC v u/\D.rt v H'
noncomputable def PE (X:Cx)(e:Expr)(t:TE):Prop:=
 ∀(jJ:List (Addr×Obj)) (s:Shared) (σ:St) (H:Hp) (Q:VK),Inv X jJ σ H s->t σ H Q->wpAny (model X.prog X.w) X.A (eval e X.env) (EP X jJ σ Q) X.xe s
noncomputable def PT (X:Cx)(e:Expr)(t:TT):Prop:=
 ∀(jJ:List (Addr×Obj)) (s:Shared) (σ:St) (H:Hp) (Q:Bool->Hp->Prop),Inv X jJ σ H s->t σ H Q->wpAny (model X.prog X.w) X.A (isTrue e X.env (eval e X.env)) (TP X jJ σ Q) X.xe s
noncomputable def PW (X:Cx)(e:Expr)(t:TT):Prop:=
 ∀(whole:Sem Value) (jJ:List (Addr×Obj)) (s:Shared) (σ:St) (H:Hp) (Q:Bool->Hp->Prop),Inv X jJ σ H s->t σ H Q->wpAny (model X.prog X.w) X.A (isTrue e X.env whole) (TP X jJ σ Q) X.xe s
theorem PW.pt {X:Cx}{e:Expr}{t:TT}(h:PW X e t):PT X e t:=h _
noncomputable def PA (X:Cx)(es:List Expr)(t:TA):Prop:=
 ∀(pos:Pos) (jJ:List (Addr×Obj)) (s:Shared) (σ:St) (H:Hp) (Q:List V->Hp->Prop),Inv X jJ σ H s->t σ H Q->wpAny (model X.prog X.w) X.A (spliced (backTo pos (starEach es X.env))) (AP X jJ σ Q) X.xe s
noncomputable def PS (X:Cx)(st:Stmt)(t:TS):Prop:=
 ∀(jJ:List (Addr×Obj)) (s:Shared) (σ:St) (H:Hp) (D:Ends),Inv X jJ σ H s->t D σ H->wpAny (model X.prog X.w) X.A (exec st X.env) (SP X jJ D) X.xe s
noncomputable def Wk (X:Cx)(st:List Stmt)(t:TS):Prop:=
 ∀(jJ:List (Addr×Obj)) (s:Shared) (σ:St) (H:Hp) (D:Ends),Inv X jJ σ H s->t D σ H->wpAny (model X.prog X.w) X.A (execs st X.env) (SP X jJ D) X.xe s
theorem ZE {α:Type}{t:Sem α}{Q Q':α->Shared->Prop}{M:Model}{A:Around}{E:Value->Shared->Prop}{s:Shared}(h:wpAny M A t Q E s)(hQ:∀a s,Q a s->Q' a s):wpAny M A t Q' E s:=wpAny_mono h hQ fun _ _ x=>x
end L2
namespace L2
section
variable {X:Cx}
noncomputable def Yn (i:Nat):TE:=fun σ H Q=>∃v,σ[i]?=some (some v)/\Q v H
noncomputable def tC (v:V):TE:=fun _ H Q=>Q v H
theorem Zoy {i:Nat}{x:Str}{pos:Pos}(hN:X.N[i]?=some x)(hv:JZ X.env.scope x)(hd:(x==("__debug__" : Str))=false:=by decide)(hcd:(x==("__classdict__" : Str))=false:=by decide):PE X (.Name x pos) (Yn i):=by
 intro jJ s σ H Q I h;obtain⟨v,e,h⟩:=h;obtain⟨m,hn,hl⟩:=I.loc;obtain⟨u,r,l⟩:=hl i x v hN e hv;have fin:EP X jJ σ Q u s:=⟨v,H,I,r,h⟩;rcases l with⟨hk,hm⟩ | ⟨hk,c,hc,hcell⟩
 ·exact wpAny_Name (wpAny_loadName_local I.ok.kind hk hn hm fin) hd
 ·rcases hk with hk | hk
  ·exact wpAny_Name (wpAny_loadName_cell I.ok.kind hk hc hcell fin) hd
  ·exact wpAny_Name (wpAny_loadName_free I.ok.kind hk hc hcell fin hcd) hd
theorem Y0 {i j pos}:PE X (.Constant (.int i) j pos) (tC (.int i)):=fun _ _ _ H _ I h=>wpAny_Constant_int ⟨.int i,H,I.tok _,⟨_,rfl⟩,h⟩
theorem ZpF {b j pos}:PE X (.Constant (.bool b) j pos) (tC (.bl b)):=fun _ _ _ H _ I h=>Constant_bool ⟨.bl b,H,I,rfl,h⟩
theorem Zoz {j pos}:PE X (.Constant .none j pos) (tC .non):=fun _ _ _ H _ I h=>Constant_none ⟨.non,H,I,rfl,h⟩
theorem X6 {x j pos}:PE X (.Constant (.str x) j pos) (tC (.str x)):=fun _ _ _ H _ I h=>Calls.Constant_str ⟨.str x,H,I.tok _,⟨_,rfl⟩,h⟩
noncomputable def Gl (X:Cx)(x:Str):Prop:=X.env.kindOf x=some .globalImplicit
theorem ZeE {E:Value->Shared->Prop}{jJ:List (Addr×Obj)}{s:Shared}{σ:St}{H:Hp}{x:Str}{u:Value}{pos:Pos}{Q:Value->Shared->Prop}(I:Inv X jJ σ H s)(hg:Gl X x)(hm:X.mg x=some u)(h:Q u s)
  (hd:(x==("__debug__" : Str))=false:=by decide):wpAny (model X.prog X.w) X.A (eval (.Name x pos) X.env) Q E s:=
 qaU I.ok.kind hg (Calls.loadGlobal_global (by rw[I.ok.glob];exact I.mod.glob.keeps I.bk) hm h) hd
theorem V5 {E:Value->Shared->Prop}{jJ:List (Addr×Obj)}{s:Shared}{σ:St}{H:Hp}{x:Str}{u:Value}{pos:Pos}{Q:Value->Shared->Prop}(I:Inv X jJ σ H s)(hg:Gl X x)(hm:X.mg x=none)(hv:bootBuiltins x=some u)(h:Q u s)
  (hn:x≠"__name__":=by decide) (hd:(x==("__debug__" : Str))=false:=by decide):wpAny (model X.prog X.w) X.A (eval (.Name x pos) X.env) Q E s:=by
 obtain⟨mb,h1,h2⟩:=I.mod.blt;exact qaU I.ok.kind hg (Calls.loadGlobal_builtin (by rw[I.ok.glob];exact I.mod.glob.keeps I.bk) hm (by rw[I.ok.blt];exact h1.keeps I.bk) ((h2 x hn).trans hv) h) hd
theorem ZmL {x:Str}{v:V}{u:Value}{pos:Pos}(hg:Gl X x)(hm:X.mg x=some u)(r:ZC v u)(hd:(x==("__debug__" : Str))=false:=by decide):PE X (.Name x pos) (tC v):=
 fun _ _ _ H _ I h=>ZeE I hg hm ⟨v,H,I,r,h⟩ hd
theorem ZmM {x:Str}{v:V}{u:Value}{pos:Pos}(hg:Gl X x)(hm:X.mg x=none)(hv:bootBuiltins x=some u)(r:ZC v u)(hn:x≠"__name__":=by decide)(hd:(x==("__debug__" : Str))=false:=by decide):PE X (.Name x pos) (tC v):=
 fun _ _ _ H _ I h=>V5 I hg hm hv ⟨v,H,I,r,h⟩ hn hd
variable {a b:Expr}{ta tb:TE}{pos:Pos}
noncomputable def tB (t:TE):TT:=fun σ H Q=>t σ H fun x H1=>∃c,x=.bl c/\Q c H1
theorem ZoA {e:Expr}{t:TE}(h:PE X e t)(he:∀whole,isTrue e X.env whole=(do let v<-whole;standAt e.pos;holding [v] (truthy v)):=by intro _;rfl):PT X e (tB t):=by
 intro jJ s σ H Q I hw;refine isTrue_plain (ZE (h jJ s σ H _ I hw) fun v s1 ⟨x,H1,I1,r1,q1⟩=>?_) (he _);obtain⟨d,rfl,q⟩:=q1
 cases r1
 exact wpAny_truthy_bool ⟨H1,I1,q⟩
variable {tA tB':TT}{rest:List Expr}
noncomputable def tAnd (t u:TT):TT:=fun σ H Q=>t σ H fun c H1=>if c=true then u σ H1 Q else Q false H1
noncomputable def tOr (t u:TT):TT:=fun σ H Q=>t σ H fun c H1=>if c=true then Q true H1 else u σ H1 Q
noncomputable def tNot (t:TT):TT:=fun σ H Q=>t σ H fun c H1=>Q (!c) H1
theorem Zia (ha:PT X a tA):PW X (.BoolOp .And [a] pos) tA:=by
 intro wh jJ s σ H Q I h;refine isTrue_and (ZE (ha jJ s σ H Q I h) fun c s1 e=>?_)
 cases c with
 | true=>exact isTrue_and_nil e
 | false=>exact e
theorem ZoB (ha:PT X a tA):PW X (.BoolOp .Or [a] pos) tA:=by
 intro wh jJ s σ H Q I h;refine isTrue_or (ZE (ha jJ s σ H Q I h) fun c s1 e=>?_)
 cases c with
 | false=>exact isTrue_or_nil e
 | true=>exact e
theorem ZkA (ha:PT X a tA)(hb:PW X (.BoolOp .And (b::rest) pos) tB'):PW X (.BoolOp .And (a::b::rest) pos) (tAnd tA tB'):=by
 intro wh jJ s σ H Q I h;refine isTrue_and (ZE (ha jJ s σ H _ I h) fun c s1 ⟨H1,I1,q1⟩=>?_)
 cases c with
 | true=>exact hb wh jJ s1 σ H1 Q I1 q1
 | false=>exact⟨H1,I1,q1⟩
theorem ZpG (ha:PT X a tA)(hb:PW X (.BoolOp .Or (b::rest) pos) tB'):PW X (.BoolOp .Or (a::b::rest) pos) (tOr tA tB'):=by
 intro wh jJ s σ H Q I h;refine isTrue_or (ZE (ha jJ s σ H _ I h) fun c s1 ⟨H1,I1,q1⟩=>?_)
 cases c with
 | true=>exact⟨H1,I1,q1⟩
 | false=>exact hb wh jJ s1 σ H1 Q I1 q1
theorem ZoC (ha:PT X a tA):PT X (.UnaryOp .Not a pos) (tNot tA):=by
 intro jJ s σ H Q I h;exact isTrue_not (ha jJ s σ H (fun c H1=>Q (!c) H1) I h)
noncomputable def ZpH (ta tb:TE):TE:=fun σ H Q=>ta σ H fun x H1=>∃c,x=.bl c/\if c=true then tb σ H1 Q else Q (.bl false) H1
noncomputable def ZpI (ta:TE):TE:=fun σ H Q=>ta σ H fun x H1=>∃c,x=.bl c/\Q (.bl (!c)) H1
theorem ZoD {op}{t:TE}(h:PE X a t):PE X (.BoolOp op [a] pos) t:=fun jJ s σ H Q I hw=>BoolOp_one (h jJ s σ H Q I hw)
theorem ZoE (ha:PE X a ta)(hb:PE X (.BoolOp .And (b::rest) pos) tb):PE X (.BoolOp .And (a::b::rest) pos) (ZpH ta tb):=by
 intro jJ s σ H Q I h;refine BoolOp_and (ZE (ha jJ s σ H _ I h) fun v s1 ⟨x,H1,I1,r1,q1⟩=>?_);obtain⟨c,rfl,q1⟩:=q1
 cases r1
 refine wpAny_truthy_bool ?_
 cases c with
 | true=>exact hb jJ s1 σ H1 Q I1 q1
 | false=>exact⟨.bl false,H1,I1,rfl,q1⟩
theorem ZoF (ha:PE X a ta):PE X (.UnaryOp .Not a pos) (ZpI ta):=by
 intro jJ s σ H Q I h;refine UnaryOp_ (ZE (ha jJ s σ H _ I h) fun v s1 ⟨x,H1,I1,r1,q1⟩=>?_);obtain⟨c,rfl,q1⟩:=q1
 cases r1
 exact not_of (wpAny_truthy_bool ⟨.bl (!c),H1,I1,rfl,q1⟩)
noncomputable def tIf (t:TT)(ta tb:TE):TE:=fun σ H Q=>t σ H fun c H1=>if c=true then ta σ H1 Q else tb σ H1 Q
theorem ZkB {c:Expr}(hc:PT X c tA)(ha:PE X a ta)(hb:PE X b tb):PE X (.IfExp c a b pos) (tIf tA ta tb):=by
 intro jJ s σ H Q I h;refine wpAny_IfExp (ZE (hc jJ s σ H _ I h) fun d s1 ⟨H1,I1,q1⟩=>?_)
 cases d with
 | true=>exact ha jJ s1 σ H1 Q I1 q1
 | false=>exact hb jJ s1 σ H1 Q I1 q1
end
end L2
namespace L2
noncomputable def ZH (K:qk)(H:Hp)(a:Addr)(xs:List V):Prop:=
 Rd H a (.lst xs)∨
  ∃(o:Obj) (jL:Array Value) (n:Nat),K.lookup a=some o/\o.cls=.type "list"/\o.dict=none/\o.data=.seq jL n/\jL.size<=sizeLine/\Zw xs jL.toList
noncomputable def ZU (K:qk)(H:Hp)(a:Addr)(xs:List V):Prop:=
 Rd H a (.tup xs)∨
  ∃(o:Obj) (jL:Array Value) (n:Nat),K.lookup a=some o/\o.cls=.type "tuple"/\o.data=.seq jL n/\jL.size<=sizeLine/\Zw xs jL.toList
noncomputable def absV:Value->Option V
 | .none=>some .non
 | .bool b=>some (.bl b)
 | .int i _=>some (.int i)
 | .str x _=>some (.str x)
 | .bytes b _=>some (.byt b)
 | .float b _=>some (.flt b)
 | .ref a=>some (.ref a)
 | .type n=>some (.ty n)
 | _=>none
theorem ZC.abs {x:V}{u:Value}(r:ZC x u):absV u=some x:=by
 cases x with
 | non=>cases r;rfl
 | bl _=>cases r;rfl
 | int _=>obtain⟨t,rfl⟩:=r;rfl
 | str _=>obtain⟨t,rfl⟩:=r;rfl
 | byt _=>obtain⟨t,rfl⟩:=r;rfl
 | flt _=>obtain⟨t,rfl⟩:=r;rfl
 | ref _=>cases r;rfl
 | ty _=>cases r;rfl
theorem ZC.inj {x y:V}{u:Value}(r:ZC x u)(q:ZC y u):x=y:=zi (r.abs.symm.trans q.abs)
theorem Zw.inj:∀{xs ys:List V} {us:List Value},Zw xs us->Zw ys us->xs=ys
 | _,_,_,.nil,.nil=>rfl
 | _,_,_,.cons r t,.cons r' t'=>by rw[r.inj r',Zw.inj t t']
section
variable {X:Cx}{jJ:List (Addr×Obj)}{σ:St}{H:Hp}{s:Shared}{a:Addr}{xs ys:List V}
theorem ZH.of {K:qk}(h:H a=some (.lst xs)):ZH K H a xs:=.inl (.inl h)
theorem ZU.of {K:qk}(h:H a=some (.tup xs)):ZU K H a xs:=.inl (.inl h)
theorem Inv.list (I:Inv X jJ σ H s)(h:ZH X.K H a xs):∃jL:List Value,Zw xs jL/\PlainL s.heap a jL.toArray/\xs.length<=sizeLine:=by
 rcases h with h | ⟨o,jL,n,hk,hc,hd,hs,hz,r⟩
 ·obtain⟨z,jL,n,r,e⟩:=h.ok I.hok
  exact⟨jL,r,⟨_,n,e,rfl,rfl,rfl⟩,z⟩
 ·refine⟨jL.toList,r,⟨o,n,I.kIn a o hk,hc,hd,by simpa using hs⟩,?_⟩
  have e:=r.length;simp only[za] at e;omega
theorem Inv.tuple (I:Inv X jJ σ H s)(h:ZU X.K H a xs):∃jL:List Value,Zw xs jL/\IsTup s.heap a jL.toArray/\xs.length<=sizeLine:=by
 rcases h with h | ⟨o,jL,n,hk,hc,hs,hz,r⟩
 ·obtain⟨z,jL,r,p⟩:=h.ok I.hok
  exact⟨jL,r,p,z⟩
 ·refine⟨jL.toList,r,⟨o,I.kIn a o hk,hc,n,by simpa using hs⟩,?_⟩
  have e:=r.length;simp only[za] at e;omega
theorem Inv.list_inj (I:Inv X jJ σ H s)(h:ZH X.K H a xs)(h':ZH X.K H a ys):xs=ys:=by
 obtain⟨jL,r,⟨o,n,e,_,_,d⟩,_⟩:=I.list h;obtain⟨its',r',⟨o',n',e',_,_,d'⟩,_⟩:=I.list h';rw[e] at e';cases e';rw[d] at d';injection d' with d1 _;have:jL=its':=by simpa using congrArg Array.toList d1
 subst this;exact r.inj r'
theorem Inv.tuple_inj (I:Inv X jJ σ H s)(h:ZU X.K H a xs)(h':ZU X.K H a ys):xs=ys:=by
 obtain⟨jL,r,⟨o,e,_,n,d⟩,_⟩:=I.tuple h;obtain⟨its',r',⟨o',e',_,n',d'⟩,_⟩:=I.tuple h';rw[e] at e';cases e';rw[d] at d';injection d' with d1 _;have:jL=its':=by simpa using congrArg Array.toList d1
 subst this;exact r.inj r'
end
noncomputable abbrev Cx.wish (X:Cx)(E:Value->Shared->Prop):Cx:={ X with xe:=E }
noncomputable abbrev Cx.nox (X:Cx):Cx:=X.wish fun _ _=>False
theorem Cx.Ok.wish {X:Cx}(ok:X.Ok)(E:Value->Shared->Prop):(X.wish E).Ok:=
 ⟨ok.mod,ok.kind,ok.glob,ok.blt,ok.above,ok.inj,ok.has,ok.cab,ok.hd,ok.frames,ok.stk,ok.exf,ok.bs,ok.bsz,ok.noex,ok.exfs,ok.funs,ok.frf⟩
theorem Cx.Ok.unwish {X:Cx}{E:Value->Shared->Prop}(ok:(X.wish E).Ok):X.Ok:=
 ⟨ok.mod,ok.kind,ok.glob,ok.blt,ok.above,ok.inj,ok.has,ok.cab,ok.hd,ok.frames,ok.stk,ok.exf,ok.bs,ok.bsz,ok.noex,ok.exfs,ok.funs,ok.frf⟩
section
variable {X:Cx}{jJ:List (Addr×Obj)}{σ:St}{H:Hp}{s:Shared}{E:Value->Shared->Prop}
theorem Inv.wish (I:Inv X jJ σ H s)(E:Value->Shared->Prop):Inv (X.wish E) jJ σ H s:=⟨I.ok.wish E,I.os,I.bare,I.base,I.loc,I.cell,I.free,I.freeC,I.pin,I.hok,I.len⟩
theorem Inv.unwish (I:Inv (X.wish E) jJ σ H s):Inv X jJ σ H s:=⟨I.ok.unwish,I.os,I.bare,I.base,I.loc,I.cell,I.free,I.freeC,I.pin,I.hok,I.len⟩
theorem SP.unwish {D:Ends}{f:Flow}{s':Shared}(h:SP (X.wish E) jJ D f s'):SP X jJ D f s':=by
 cases f with
 | next=>obtain⟨σ',H',I,q⟩:=h;exact⟨σ',H',I.unwish,q⟩
 | brk=>obtain⟨σ',H',I,q⟩:=h;exact⟨σ',H',I.unwish,q⟩
 | cont=>obtain⟨σ',H',I,q⟩:=h;exact⟨σ',H',I.unwish,q⟩
 | ret u=>obtain⟨v,σ',H',I,r,q⟩:=h;exact⟨v,σ',H',I.unwish,r,q⟩
theorem PE.nox {e:Expr}{t:TE}(h:PE X.nox e t):PE X e t:=fun jJ s σ H Q I hw=>
 wpAny_mono (h jJ s σ H Q (I.wish _) hw) (fun _ _ ⟨v,H',I',r,q⟩=>⟨v,H',I'.unwish,r,q⟩) fun _ _ z=>zI z
theorem Wk.nox {st:List Stmt}{t:TS}(h:Wk X.nox st t):Wk X st t:=fun jJ s σ H D I hw=>
 wpAny_mono (h jJ s σ H D (I.wish _) hw) (fun _ _ q=>q.unwish) fun _ _ z=>zI z
end
section
variable {X:Cx}{st:Stmt}{rest:List Stmt}{t u:TS}{e:Expr}{te:TE}{pos:Pos}
noncomputable def ZkC:TS:=fun D σ H=>D.nx σ H
noncomputable def Vp (t u:TS):TS:=fun D σ H=>t { D with nx:=u D } σ H
theorem ZeF:Wk X [] ZkC:=fun _ _ σ H _ I h=>wpAny_execs_nil ⟨σ,H,I,h⟩
theorem WU (h1:PS X st t)(h2:Wk X rest u):Wk X (st::rest) (Vp t u):=by
 intro jJ s σ H D I h;refine wpAny_execs_cons (ZE (h1 jJ s σ H { D with nx:=u D } I h) fun f s1 q=>?_)
 cases f with
 | next=>
  obtain⟨σ',H',I',q⟩:=q;exact h2 jJ s1 σ' H' D I' q
 | ret v=>exact q
 | brk=>exact q
 | cont=>exact q
theorem Jx (h1:PS X st t):Wk X [st] t:=by
 intro jJ s σ H D I h;refine wpAny_execs_cons (ZE (h1 jJ s σ H D I h) fun f s1 q=>?_)
 cases f with
 | next=>exact wpAny_execs_nil q
 | ret v=>exact q
 | brk=>exact q
 | cont=>exact q
theorem Inv.quiet {jJ:List (Addr×Obj)}{σ:St}{H:Hp}{s:Shared}(I:Inv X jJ σ H s):interactive X.env=false:=by simp[interactive,I.ok.kind]
noncomputable def BK (te:TE):TS:=fun D σ H=>te σ H fun _ H1=>D.nx σ H1
theorem Zib (he:PE X e te)(hs:swapsWith e none pos.line X.env=pure false:=by rfl):PS X (.Expr e pos) (BK te):=by
 intro jJ s σ H D I h;exact wpAny_Expr_any (ZE (he jJ s σ H _ I h) fun v s1 ⟨x,H1,I1,r1,q1⟩=>⟨σ,H1,I1,q1⟩) I.quiet hs
noncomputable def BT (te:TE):TS:=fun D σ H=>te σ H D.rt
theorem JC (he:PE X e te):PS X (.Return (some e) pos) (BT te):=by
 intro jJ s σ H D I h;exact wpAny_Return_some (ZE (he jJ s σ H _ I h) fun v s1 ⟨x,H1,I1,r1,q1⟩=>⟨x,σ,H1,I1,r1,q1⟩)
noncomputable def tIfS (c:TT)(t u:TS):TS:=fun D σ H=>c σ H fun b H1=>if b=true then t D σ H1 else u D σ H1
theorem ZkD {c:Expr}{a b:List Stmt}{tc:TT}(hc:PT X c tc)(ha:Wk X a t)(hb:Wk X b u):PS X (.If c a b pos) (tIfS tc t u):=by
 intro jJ s σ H D I h;refine wpAny_If (ZE (hc jJ s σ H _ I h) fun d s1 ⟨H1,I1,q1⟩=>?_)
 cases d with
 | true=>exact ha jJ s1 σ H1 D I1 q1
 | false=>exact hb jJ s1 σ H1 D I1 q1
end
noncomputable abbrev TG:=V->St->Hp->(St->Hp->Prop)->Prop
noncomputable abbrev Je:=List V->St->Hp->(St->Hp->Prop)->Prop
noncomputable def PG (X:Cx)(target:Expr)(t:TG):Prop:=
 ∀(jJ:List (Addr×Obj)) (s:Shared) (σ:St) (H:Hp) (v:V) (u:Value) (Q:St->Hp->Prop),Inv X jJ σ H s->ZC v u->t v σ H Q->
  wpAny (model X.prog X.w) X.A (assign target X.env u) (fun _ s'=>∃σ' H',Inv X jJ σ' H' s'/\Q σ' H') X.xe s
noncomputable def J0 (X:Cx)(ts:List Expr)(t:Je):Prop:=
 ∀(jJ:List (Addr×Obj)) (s:Shared) (σ:St) (H:Hp) (vs:List V) (us:List Value) (Q:St->Hp->Prop),Inv X jJ σ H s->Zw vs us->t vs σ H Q->
  wpAny (model X.prog X.w) X.A (assignInOrder ((assignEach ts X.env).map (·.2)) us) (fun _ s'=>∃σ' H',Inv X jJ σ' H' s'/\Q σ' H') X.xe s
noncomputable abbrev TSet:=V->V->V->Hp->(Hp->Prop)->Prop
noncomputable def PSet (X:Cx)(t:TSet):Prop:=
 ∀(jJ:List (Addr×Obj)) (s:Shared) (σ:St) (H:Hp) (o i v:V) (ov iv u:Value) (Q:Hp->Prop),Inv X jJ σ H s->ZC o ov->ZC i iv->ZC v u->t o i v H Q->
  wpAny (model X.prog X.w) X.A (setItem ov iv u) (fun _ s'=>∃H',Inv X jJ σ H' s'/\Q H') X.xe s
noncomputable abbrev TIp:=V->V->Hp->VK->Prop
noncomputable def PIp (X:Cx)(op:Operator)(t:TIp):Prop:=
 ∀(jJ:List (Addr×Obj)) (s:Shared) (σ:St) (H:Hp) (x y:V) (v u:Value) (Q:VK),Inv X jJ σ H s->ZC x v->ZC y u->t x y H Q->
  wpAny (model X.prog X.w) X.A (inplaceOp op v u) (EP X jJ σ Q) X.xe s
section
variable {X:Cx}{pos:Pos}
noncomputable def XM (i:Nat):TG:=fun v σ H Q=>Q (σ.set i (some v)) H
theorem Wg {i:Nat}{x:Str}(hN:X.N.Nodup)(hi:X.N[i]?=some x)(hx:Wy X.env.scope x)(hf:X.fn x=true∨X.env.scope.names.lookup x=some .local:=by first | exact .inl rfl | exact .inr rfl | assumption):PG X (.Name x pos) (XM i):=by
 intro jJ s σ H v u Q I r h;exact wpAny_assign_Name (ZcO I hN hi hx r (fun s' I'=>⟨_,H,I',h⟩) hf)
noncomputable def gNil:Je:=fun vs σ H Q=>vs=[]/\Q σ H
noncomputable def UY (t:TG)(u:Je):Je:=fun vs σ H Q=>∃v r,vs=v::r/\t v σ H fun σ' H'=>u r σ' H' Q
theorem Zcv:J0 X [] gNil:=by
 intro jJ s σ H vs us Q I r h;obtain⟨e,h⟩:=h;subst e
 cases r
 exact assignInOrder_nil ⟨σ,H,I,h⟩
theorem Vw {e:Expr}{es:List Expr}{t:TG}{u:Je}(h1:PG X e t)(h2:J0 X es u)
  (hs:(assignEach (e::es) X.env).map (·.2)=assign e X.env::(assignEach es X.env).map (·.2):=by rfl):J0 X (e::es) (UY t u):=by
 intro jJ s σ H vs us Q I r h;obtain⟨v,vr,e1,h⟩:=h;subst e1
 cases r with
 | cons r rr=>
  rw[hs];refine assignInOrder_cons (ZE (h1 jJ s σ H _ _ _ I r h) fun _ s1 ⟨σ1,H1,I1,q1⟩=>?_);exact h2 jJ s1 σ1 H1 _ _ Q I1 rr q1
noncomputable def gTup (K:qk)(n:Nat)(t:Je):TG:=fun v σ H Q=>∃a xs,v=.ref a/\ZU K H a xs/\xs.length=n/\t xs σ H Q
theorem ZkE {es:List Expr}{k:Nat}{t:Je}{n:Nat}(hc:X.calm=true)(h:J0 X es t)
  (hn:(assignEach es X.env).length=n:=by rfl) (hst:(assignEach es X.env).findIdx? (·.1)=none:=by rfl):PG X (.Tuple es k pos) (gTup X.K n t):=by
 intro jJ s σ H v u Q I r hw;obtain⟨a,xs,e1,hq,hl,hw⟩:=hw;subst e1
 cases r
 obtain⟨jL,rv,ht,hz⟩:=I.tuple hq;refine assign_Tuple_tuple (I.ok.hd hc) ht (by simp[hn,<-hl,rv.length]) hst fun h' hx=>?_;have I1:Inv X jJ σ H { s with heap:=h' }:=I.kept (t':=s.toks) fun b o e=>hx b o (qQ (qH e)) e;exact h jJ _ σ H xs _ Q I1 (by simpa using rv) hw
noncomputable def gSub (to ti:TE)(t:TSet):TG:=fun v σ H Q=>to σ H fun o H1=>ti σ H1 fun i H2=>t o i v H2 fun H3=>Q σ H3
theorem ZkF {o i:Expr}{to ti:TE}{t:TSet}(ho:PE X o to)(hi:PE X i ti)(hs:PSet X t)
  (ha:∀v,assign (.Subscript o i pos) X.env v=(do
   let ov<-holding [v] (eval o X.env)
   let iv<-holding [v,ov] (eval i X.env)
   standAt pos
   holding [v,ov,iv] (setItem ov iv v)
   release [v,ov,iv] []):=by intro _;rfl):PG X (.Subscript o i pos) (gSub to ti t):=by
 intro jJ s σ H v u Q I r h;rw[ha];refine wpAny_bind (wpAny_holding (ZE (ho jJ s σ H _ I h) fun ov s1 ⟨x,H1,I1,r1,q1⟩=>?_));refine wpAny_bind (wpAny_holding (ZE (hi jJ s1 σ H1 _ I1 q1) fun iv s2 ⟨y,H2,I2,r2,q2⟩=>?_));refine wpAny_bind (wpAny_standAt (wpAny_bind (wpAny_holding (ZE (hs jJ s2 σ H2 x y v ov iv u _ I2 r1 r2 r q2) fun _ s3 ⟨H3,I3,q3⟩=>?_))));exact wpAny_release ⟨σ,H3,I3,q3⟩
noncomputable def V8 (te:TE)(g:TG):TS:=fun D σ H=>te σ H fun x H1=>g x σ H1 D.nx
theorem ZgY {tg e:Expr}{te:TE}{g:TG}(he:PE X e te)(hg:PG X tg g)(hs:swapsWithSole [tg] e pos.line X.env=pure false:=by rfl)(hw:swappedStores [tg] e X.env=pure none:=by rfl)
  (h1:(assignEach [tg] X.env).map (·.2)=[assign tg X.env]:=by rfl):PS X (.Assign [tg] e pos) (V8 te g):=by
 intro jJ s σ H D I h;refine wpAny_Assign_stores (ZE (he jJ s σ H _ I h) fun v s1 ⟨x,H1,I1,r1,q1⟩=>?_) hs hw;rw[h1];exact ZE (hg jJ s1 σ H1 x v _ I1 r1 q1) fun _ s2 q=>q
theorem Um {i:Nat}{x:Str}{e:Expr}{te:TE}{pos':Pos}(hN:X.N.Nodup)(hi:X.N[i]?=some x)(hx:Wy X.env.scope x)(he:PE X e te)(hs:swapsWith e (some (.Name x pos')) pos.line X.env=pure false:=by rfl)(hf:X.fn x=true∨X.env.scope.names.lookup x=some .local:=by first | exact .inl rfl | exact .inr rfl | assumption) :
  PS X (.Assign [.Name x pos'] e pos) (V8 te (XM i)):=by
 intro jJ s σ H D I h;refine wpAny_Assign_Name (ZE (he jJ s σ H _ I h) fun v s1 ⟨y,H1,I1,r1,q1⟩=>?_) hs;exact ZcO I1 hN hi hx r1 (fun s2 I2=>⟨_,H1,I2,q1⟩) hf
noncomputable def tAug (i:Nat)(te:TE)(ti:TIp):TS:=fun D σ H=>∃x,σ[i]?=some (some x)/\te σ H fun y H1=>ti x y H1 fun z H2=>D.nx (σ.set i (some z)) H2
theorem ZoG {i:Nat}{x:Str}{e:Expr}{te:TE}{op:Operator}{ti:TIp}{pos':Pos}(hN:X.N.Nodup)(hi:X.N[i]?=some x)(hx:Wy X.env.scope x)(he:PE X e te)(ho:PIp X op ti)(hf:X.fn x=true∨X.env.scope.names.lookup x=some .local:=by first | exact .inl rfl | exact .inr rfl | assumption) :
  PS X (.AugAssign (.Name x pos') op e pos) (tAug i te ti):=by
 intro jJ s σ H D I h;obtain⟨v,e1,h⟩:=h;obtain⟨m,hn,hl⟩:=I.loc;have vis:JZ X.env.scope x:=by rcases hx with k | k;exact .inl k;exact .inr (.inl k)
 obtain⟨u,r,l⟩:=hl i x v hi e1 vis;refine wpAny_AugAssign_Name ?_;have go:wpAny (model X.prog X.w) X.A (eval e X.env) (fun w s₂=>wpAny (model X.prog X.w) X.A (inplaceOp op u w) (fun r s₃=>wpAny (model X.prog X.w) X.A (storeName X.env x r) (fun _=>SP X jJ D .next) X.xe s₃) X.xe s₂) X.xe s:=by
  refine ZE (he jJ s σ H _ I h) fun w s1 ⟨y,H1,I1,r1,q1⟩=>?_;refine ZE (ho jJ s1 σ H1 v y u w _ I1 r r1 q1) fun z s2 ⟨zv,H2,I2,r2,q2⟩=>?_;exact ZcO I2 hN hi hx r2 (fun s3 I3=>⟨_,H2,I3,q2⟩) hf
 rcases l with⟨hk,hm⟩ | ⟨hk,c,hc,hcell⟩
 ·exact wpAny_loadName_local I.ok.kind hk hn hm go
 ·rcases hk with hk | hk
  ·exact wpAny_loadName_cell I.ok.kind hk hc hcell go
  ·rcases hx with k | k
   ·have:X.env.scope.names.lookup x=some .free:=hk
    rw[k] at this;cases this
   ·have:X.env.scope.names.lookup x=some .free:=hk
    rw[k] at this;cases this
noncomputable def ipI (f:Int->Int->Int):TIp:=fun x y H Q=>∃i j,x=.int i/\y=.int j/\Q (.int (f i j)) H
theorem ZoH:PIp X .Add (ipI fun i j=>i+j):=by
 intro jJ s σ H x y v u Q I r1 r2 h;obtain⟨i,j,e1,e2,q⟩:=h;subst e1;subst e2;obtain⟨t,rfl⟩:=r1;obtain⟨t',rfl⟩:=r2;exact iadd_int ⟨.int _,H,I.tok _,⟨_,rfl⟩,q⟩
end
section
variable {X:Cx}{pos:Pos}
noncomputable def ZoI (c:TT)(tb:TS):TS:=fun D σ H=>∃W:Nat->St->Hp->Prop,(∃m,W m σ H)/\∀m σ H,W m σ H->
 c σ H fun b H1=>if b=true then ∃N:St->Hp->Prop,(∀σ' H',N σ' H'->∃m',m'<m/\W m' σ' H')/\tb { D with nx:=N,ct:=N,bk:=D.nx } σ H1 else D.nx σ H1
theorem ZkG {c:Expr}{body:List Stmt}{tc:TT}{tb:TS}(hp:PassesOwn (model X.prog X.w) X.A X.env X.xe)(hc:PT X c tc)(hb:Wk X body tb):PS X (.While c body [] pos) (ZoI tc tb):=by
 intro jJ s σ H D I h;obtain⟨W,⟨m0,w0⟩,turn⟩:=h;refine wpAny_While (codeAny_whileLoop (fun n s'=>∃σ' H',Inv X jJ σ' H' s'/\W n σ' H') ?_ m0 ⟨σ,H,I,w0⟩);rintro n s1 ⟨σ1,H1,I1,w1⟩;refine wpAny_passesOwn hp (ZE (hc jJ s1 σ1 H1 _ I1 (turn n σ1 H1 w1)) fun b s2 ⟨H2,I2,q2⟩=>?_)
 cases b with
 | true=>
  obtain⟨N,hN,q2⟩:=q2;rw[if_pos rfl];refine wpAny_passesOwn hp (ZE (hb jJ s2 σ1 H2 _ I2 q2) fun f s3 q3=>?_)
  cases f with
  | next=>
   obtain⟨σ3,H3,I3,n3⟩:=q3;obtain⟨m',hm,w3⟩:=hN σ3 H3 n3;exact⟨m',hm,σ3,H3,I3,w3⟩
  | cont=>
   obtain⟨σ3,H3,I3,n3⟩:=q3;obtain⟨m',hm,w3⟩:=hN σ3 H3 n3;exact⟨m',hm,σ3,H3,I3,w3⟩
  | brk=>exact q3
  | ret v=>exact q3
 | false=>
  rw[if_neg zX];exact wpAny_execs_nil ⟨σ1,H2,I2,q2⟩
end
structure It where
 go:Nat->Hp->Prop
 yld:Nat->Hp->V->Hp->Prop
 stop:Nat->Hp->Prop
noncomputable def WK (X:Cx)(jJ:List (Addr×Obj))(H:Hp)(b:Addr):Prop:=
 H b=none/\b≠X.env.locals/\b∉X.fs/\(b∈X.ex∨X.s₀.heap.objs.size<=b)/\(∀x c,X.env.cells.lookup x=some c->c≠b)/\∀p∈X.pn++jJ,p.1≠b
theorem Inv.fpOk {X:Cx}{jJ:List (Addr×Obj)}{σ:St}{H H':Hp}{s:Shared}{b:Addr}(I:Inv X jJ σ H s)(hb:s.heap.objs.size<=b)(hn:H' b=none):WK X jJ H' b:=by
 refine⟨hn,Nat.ne_of_gt (qT I.lt hb),I.nofs hb,.inr (qZ I.sz hb),fun x c e z=>?_,fun p hp z=>?_⟩
 ·obtain⟨v,q⟩:=I.cell x c e
  exact absurd (qT q.lt (by rw[z];exact hb)) (yj _)
 ·exact absurd (qT (qH (I.pin p hp).1) (by rw[z];exact hb)) (yj _)
structure Turn (P:Program)(w:World)(K:qk)(tg:Expr)(J:It)(fp:List Addr)(it:Addr)(tn:Nat->Heap->Prop):Prop where
 mem:it∈fp
 obj:∀i h,tn i h->∀b∈fp,∃o,h.get? b=some o/\∀v,o.data≠.cell v
 keep:∀i h h',tn i h->(∀b∈fp,∀o,h.get? b=some o->h'.get? b=some o)->tn i h'
 item:∀(X:Cx),X.prog=P->X.w=w->X.K=K->X.calm=true->∀(i:Nat) (jJ:List (Addr×Obj)) (s:Shared) (σ:St) (H:Hp) (E:Value->Shared->Prop),Inv X jJ σ H s->(∀b∈fp,WK X jJ H b)->tn i s.heap->J.go i H->
  wpAny (model P w) X.A (pyNext (.ref it)) (fun r s1=>∃u,r=some u/\
   wpAny (model P w) X.A (letOwnedTupleGo tg (.ref it) u) (fun _ s2=>∃x H',Inv X jJ σ H' s2/\ZC x u/\J.yld i H x H'/\tn (i+1) s2.heap/\∀b∈fp,H' b=none) E s1) E s
 done:∀(X:Cx),X.prog=P->X.w=w->X.K=K->X.calm=true->∀(i:Nat) (jJ:List (Addr×Obj)) (s:Shared) (σ:St) (H:Hp) (E:Value->Shared->Prop),Inv X jJ σ H s->(∀b∈fp,WK X jJ H b)->tn i s.heap->J.stop i H->
  wpAny (model P w) X.A (pyNext (.ref it)) (fun r s1=>r=none/\Inv X jJ σ H s1) E s
 self:∀(A:Around) (i:Nat) (s:Shared) (Q:Value->Shared->Prop) (E:Value->Shared->Prop),tn i s.heap->Q (.ref it) s->wpAny (model P w) A (pyIter (.ref it)) Q E s
noncomputable abbrev TI:=St->Hp->(It->Hp->Prop)->Prop
noncomputable def PIE (X:Cx)(jJ:List (Addr×Obj))(σ:St)(tg:Expr)(R:It->Hp->Prop)(itv:Value)(s2:Shared):Prop:=
 ∃(it:Addr) (fp:List Addr) (tn:Nat->Heap->Prop) (J:It) (H':Hp),itv=.ref it/\Inv X jJ σ H' s2/\Turn X.prog X.w X.K tg J fp it tn/\tn 0 s2.heap/\(∀b∈fp,WK X jJ H' b)/\R J H'
noncomputable def PI (X:Cx)(tg iter:Expr)(wi:TI):Prop:=
 ∀(jJ:List (Addr×Obj)) (s:Shared) (σ:St) (H:Hp) (R:It->Hp->Prop),Inv X jJ σ H s->wi σ H R->
  wpAny (model X.prog X.w) X.A (eval iter X.env) (fun v s1=>wpAny (model X.prog X.w) X.A (pyIter v) (PIE X jJ σ tg R) X.xe s1) X.xe s
theorem ZkH {M : Model}{A : Around}{E : Value -> Shared -> Prop}{s : Shared}{tg : Expr}{it : Addr}{u : Value}{o : Obj}{n : String}{vs : Array Value}{Q : Unit -> Shared -> Prop}(ho : s.heap.get? it = some o)(hc : o.cls = .type n)(hd : o.data = .fields vs)
    (hn : ["enumerate", "zip", "dict_itemiterator", "dict_reverseitemiterator", "odict_iterator", "itertools.zip_longest", "itertools.pairwise"].contains n = false) (hQ : Q () s) : wpAny M A (letOwnedTupleGo tg (.ref it) u) Q E s := by
  unfold letOwnedTupleGo
  cases tg <;> first
    | exact wpAny_pure hQ
    | (cases u <;> first
        | exact wpAny_pure hQ
        | (refine wpAny_bind (wpAny_load ho ?_)
           rw[hc, hd];show wpAny M A (if (["enumerate", "zip", "dict_itemiterator", "dict_reverseitemiterator", "odict_iterator", "itertools.zip_longest", "itertools.pairwise"].contains n && vs[0]? == some (rawInt _)) = true then _ else _) Q E s;rw[if_neg (by intro h; rw[hn, Bool.false_and] at h; cases h)];exact wpAny_pure hQ))
noncomputable def Itl (K:qk)(a:Addr):It:=
 ⟨fun i H=>∃xs x,ZH K H a xs/\xs[i]?=some x,fun i H x H'=>H'=H/\∀xs,ZH K H a xs->xs[i]?=some x,fun i H=>∃xs,ZH K H a xs/\xs.length<=i⟩
noncomputable def Itt (K:qk)(a:Addr):It:=
 ⟨fun i H=>∃xs x,ZU K H a xs/\xs[i]?=some x,fun i H x H'=>H'=H/\∀xs,ZU K H a xs->xs[i]?=some x,fun i H=>∃xs,ZU K H a xs/\xs.length<=i⟩
noncomputable def B0 (lo:Int)(n:Nat):It:=⟨fun i _=>i<n,fun i H x H'=>H'=H/\x=.int (lo+i),fun i _=>n<=i⟩
theorem Zja {P:Program}{w:World}{K:qk}{tg:Expr}(a it:Addr):Turn P w K tg (Itl K a) [it] it (fun i h=>h.IsListIter it a i) where
 mem:=by simp
 obj:=fun i h st b hb=>by
  have e:b=it:=by simpa using hb
  subst e;obtain⟨o,e,c,d⟩:=st;exact⟨o,e,fun v z=>by rw[d] at z;cases z⟩
 keep:=fun i h h' st k=>st.at fun o e=>k it (by simp) o e
 item:=by
  intro X hP hw hK hc i jJ s σ H E I hf st hg;subst hP hw hK;obtain⟨xs,x,hq,hx⟩:=hg;obtain⟨jL,rv,p,hz⟩:=I.list hq;obtain⟨u,hu,ru⟩:=rv.get hx;obtain⟨f0,f1,f2,f3,f4,f5⟩:=hf it (by simp);refine wpAny_pyNext_list_item st p.isList (x:=u) (by simpa using hu) fun h' st' sb=>?_;have I1:Inv X jJ σ H { s with heap:=h' }:=I.turned (t':=s.toks) (fun b o hb e=>(sb.2 b hb).trans e) f0 f1 f3 f4 f5;obtain⟨o,e,c,d⟩:=id st';exact⟨u,rfl,ZkH (s:={ s with heap:=h' }) e c d (by decide) ⟨x,H,I1,ru,⟨rfl,fun ys hy=>by rw[I.list_inj hy hq];exact hx⟩,st',fun b hb=>(hf b hb).1⟩⟩
 done:=by
  intro X hP hw hK hc i jJ s σ H E I hf st hg;subst hP hw hK;obtain⟨xs,hq,hx⟩:=hg;obtain⟨jL,rv,p,hz⟩:=I.list hq;obtain⟨f0,f1,f2,f3,f4,f5⟩:=hf it (by simp);have hl:=rv.length;exact wpAny_pyNext_list_end (I.ok.hd hc) st p.isList (by simp;omega) fun h' eb=>⟨rfl,I.turned (t':=s.toks) (fun b o hb e=>eb b o hb e) f0 f1 f3 f4 f5⟩
 self:=fun _ _ _ _ _ st h=>wpAny_pyIter_listiter st h
theorem ZgZ {P:Program}{w:World}{K:qk}{tg:Expr}(a it:Addr):Turn P w K tg (Itt K a) [it] it (fun i h=>h.IsTupleIter it a i) where
 mem:=by simp
 obj:=fun i h st b hb=>by
  have e:b=it:=by simpa using hb
  subst e;obtain⟨o,e,c,d⟩:=st;exact⟨o,e,fun v z=>by rw[d] at z;cases z⟩
 keep:=fun i h h' st k=>st.at fun o e=>k it (by simp) o e
 item:=by
  intro X hP hw hK hc i jJ s σ H E I hf st hg;subst hP hw hK;obtain⟨xs,x,hq,hx⟩:=hg;obtain⟨jL,rv,p,hz⟩:=I.tuple hq;obtain⟨u,hu,ru⟩:=rv.get hx;obtain⟨f0,f1,f2,f3,f4,f5⟩:=hf it (by simp);refine wpAny_pyNext_tuple_item st (show s.heap.IsTuple a jL.toArray from p) (x:=u) (by simpa using hu) fun h' st' sb=>?_;have I1:Inv X jJ σ H { s with heap:=h' }:=I.turned (t':=s.toks) (fun b o hb e=>(sb.2 b hb).trans e) f0 f1 f3 f4 f5;obtain⟨o,e,c,d⟩:=id st';exact⟨u,rfl,ZkH (s:={ s with heap:=h' }) e c d (by decide) ⟨x,H,I1,ru,⟨rfl,fun ys hy=>by rw[I.tuple_inj hy hq];exact hx⟩,st',fun b hb=>(hf b hb).1⟩⟩
 done:=by
  intro X hP hw hK hc i jJ s σ H E I hf st hg;subst hP hw hK;obtain⟨xs,hq,hx⟩:=hg;obtain⟨jL,rv,p,hz⟩:=I.tuple hq;obtain⟨f0,f1,f2,f3,f4,f5⟩:=hf it (by simp);have hl:=rv.length;exact wpAny_pyNext_tuple_end (I.ok.hd hc) st (show s.heap.IsTuple a jL.toArray from p) (by simp;omega) fun h' eb=>⟨rfl,I.turned (t':=s.toks) (fun b o hb e=>eb b o hb e) f0 f1 f3 f4 f5⟩
 self:=fun _ _ _ _ _ st h=>wpAny_pyIter_tupleiter st h
theorem Zg0 {P:Program}{w:World}{K:qk}{tg:Expr}(it:Addr)(lo:Int)(n:Nat):Turn P w K tg (B0 lo n) [it] it (fun i h=>IsRangeIter h it (lo+(i:Nat)*1) ((n:Int)-(i:Nat)) 1) where
 mem:=by simp
 obj:=fun i h st b hb=>by
  have e:b=it:=by simpa using hb
  subst e;exact⟨_,st,fun v z=>by
   have z':Data.fields _=Data.cell v:=z
   cases z'⟩
 keep:=fun i h h' st k=>k it (by simp) _ st
 item:=by
  intro X hP hw hK hc i jJ s σ H E I hf st hg;subst hP hw hK;obtain⟨f0,f1,f2,f3,f4,f5⟩:=hf it (by simp);have W:=Walks.range (prog:=X.prog) (w:=X.w) (I.ok.hd hc) it lo 1 n;refine W.item i s _ _ hg st fun v h' tk hv st' kk=>?_;obtain⟨t,rfl⟩:=hv;have I1:Inv X jJ σ H { s with heap:=h',toks:=tk }:=I.turned (fun b o hb e=>kk b o (by simpa using hb) e) f0 f1 f3 f4 f5;refine⟨_,rfl,ZkH (s:={ s with heap:=h',toks:=tk }) (n:="range_iterator") st' rfl rfl (by decide) ⟨.int (lo+i),H,I1,⟨t,?_⟩,⟨rfl,rfl⟩,st',fun b hb=>(hf b hb).1⟩⟩;rw[Int.mul_one]
 done:=by
  intro X hP hw hK hc i jJ s σ H E I hf st hg;subst hP hw hK;obtain⟨f0,f1,f2,f3,f4,f5⟩:=hf it (by simp);exact wpAny_pyNext_range_end (I.ok.hd hc) st (by have:n<=i:=hg;omega) fun h' eb=>⟨rfl,I.turned (t':=s.toks) (fun b o hb e=>eb b o hb e) f0 f1 f3 f4 f5⟩
 self:=fun _ _ _ _ _ st h=>wpAny_pyIter_rangeiter st h
end L2
namespace L2
section
variable {X:Cx}{tg:Expr}
noncomputable def ZkI (K:qk)(tl:TE):TI:=fun σ H R=>tl σ H fun x H1=>∃a,x=.ref a/\(∃xs,ZH K H1 a xs)/\R (Itl K a) H1
noncomputable def iTup (K:qk)(tl:TE):TI:=fun σ H R=>tl σ H fun x H1=>∃a,x=.ref a/\(∃xs,ZU K H1 a xs)/\R (Itt K a) H1
theorem ZeG {l:Expr}{tl:TE}(hl:PE X l tl):PI X tg l (ZkI X.K tl):=by
 intro jJ s σ H R I h;refine ZE (hl jJ s σ H _ I h) fun v s1 ⟨x,H1,I1,r1,q1⟩=>?_;obtain⟨a,e,⟨xs,hq⟩,q⟩:=q1;subst e
 cases r1
 obtain⟨jL,rv,p,hz⟩:=I1.list hq;refine wpAny_pyIter_list p.isList ?_;refine⟨s1.heap.objs.size,[s1.heap.objs.size],_,_,H1,rfl,I1.kept (t':=s1.toks) fun b o e=>qq _ e,Zja a _,⟨_,qI _ rfl,rfl,rfl⟩,fun b hb=>?_,q⟩;have e:b=s1.heap.objs.size:=by simpa using hb
 subst e;exact I1.fpOk (qw _) (I1.hok.fresh (qw _))
theorem ZoJ {l:Expr}{tl:TE}(hl:PE X l tl):PI X tg l (iTup X.K tl):=by
 intro jJ s σ H R I h;refine ZE (hl jJ s σ H _ I h) fun v s1 ⟨x,H1,I1,r1,q1⟩=>?_;obtain⟨a,e,⟨xs,hq⟩,q⟩:=q1;subst e
 cases r1
 obtain⟨jL,rv,p,hz⟩:=I1.tuple hq;refine wpAny_pyIter_tuple (show s1.heap.IsTuple a jL.toArray from p) ?_;refine⟨s1.heap.objs.size,[s1.heap.objs.size],_,_,H1,rfl,I1.kept (t':=s1.toks) fun b o e=>qq _ e,ZgZ a _,⟨_,qI _ rfl,rfl,rfl⟩,fun b hb=>?_,q⟩;have e:b=s1.heap.objs.size:=by simpa using hb
 subst e;exact I1.fpOk (qw _) (I1.hok.fresh (qw _))
theorem ZfF {jJ:List (Addr×Obj)}{σ:St}{H:Hp}{s:Shared}{R:It->Hp->Prop}{E:Value->Shared->Prop}{lo hi:Int}{t u v:Tok}{tk:Nat}(I:Inv X jJ σ H s)(h1:-(2 ^ 62)<=lo)(h2:lo<2 ^ 62)(h3:-(2 ^ 62)<=hi)(h4:hi<2 ^ 62)
  (q:R (B0 lo (hi-lo).toNat) H):wpAny (model X.prog X.w) X.A (pyIter (.ref s.heap.objs.size)) (PIE X jJ σ tg R) E { s with heap:=s.heap.push { cls:=.type "range",data:=.fields #[.int lo t,.int hi u,.int 1 v] },toks:=tk }:=by
 refine wpAny_pyIter_range (IsRange.new ..) (small_one h1 h2 h3 h4) ?_;have I1:Inv X jJ σ H { s with heap:=s.heap.push { cls:=.type "range",data:=.fields #[.int lo t,.int hi u,.int 1 v] },toks:=tk }:=I.kept fun b o e=>qq _ e;refine⟨(s.heap.push { cls:=.type "range",data:=.fields #[.int lo t,.int hi u,.int 1 v] }).objs.size,[(s.heap.push { cls:=.type "range",data:=.fields #[.int lo t,.int hi u,.int 1 v] }).objs.size],_,_,H,rfl,
  I1.kept (t':=tk) fun b o e=>qq _ e,Zg0 _ lo (hi-lo).toNat,?_,fun b hb=>?_,q⟩
 ·have e1:lo+((0:Nat):Int)*1=lo:=by simp
  have e2:(((hi-lo).toNat:Nat):Int)-((0:Nat):Int)=yI lo hi 1:=by rw[rangeSize_one];split <;> omega
  show IsRangeIter _ _ (lo+((0:Nat):Int)*1) ((((hi-lo).toNat:Nat):Int)-((0:Nat):Int)) 1;rw[e1,e2];exact qI _ rfl
 ·have e:b=(s.heap.push { cls:=.type "range",data:=.fields #[.int lo t,.int hi u,.int 1 v] }).objs.size:=by simpa using hb
  subst e;exact I1.fpOk (qw _) (I1.hok.fresh (qw _))
noncomputable def ZnV (ta:TA):TI:=fun σ H R=>ta σ H fun vs H1=>∃j:Int,vs=[.int j]/\-(2 ^ 62)<=j/\j<2 ^ 62/\R (B0 0 j.toNat) H1
noncomputable def ZpJ (ta:TA):TI:=fun σ H R=>ta σ H fun vs H1=>∃i j:Int,vs=[.int i,.int j]/\(-(2 ^ 62)<=i/\i<2 ^ 62/\-(2 ^ 62)<=j/\j<2 ^ 62)/\R (B0 i (j-i).toNat) H1
theorem ZbQ {a:Expr}{ta:TA}{p pos:Pos}(hg:Gl X "range")(hm:X.mg "range" = none)(ha:PA X [a] ta)(hs:starEach [a] X.env=[(false,eval a X.env)]:=by rfl):PI X tg (.Call (.Name "range" p) [a] [] pos) (ZnV ta):=by
 intro jJ s σ H R I h;refine Call_ (V5 I hg hm boot_range (yq (ZE (ha pos jJ s σ H _ I h) fun us s1 ⟨vs,H1,I1,r1,q1⟩=>?_) hs rfl));obtain⟨j,e,q1,q2,q⟩:=q1;subst e
 cases r1 with
 | cons r rr=>
  cases rr
  obtain⟨t,rfl⟩:=r;exact call_range_1 (ZfF I1 (by omega) (by omega) q1 q2 (by simpa using q))
theorem Zjb {a b:Expr}{ta:TA}{p pos:Pos}(hg:Gl X "range")(hm:X.mg "range" = none)(ha:PA X [a,b] ta)(hs:starEach [a,b] X.env=[(false,eval a X.env),(false,eval b X.env)]:=by rfl)(hs2:starEach [b] X.env=[(false,eval b X.env)]:=by rfl) :
  PI X tg (.Call (.Name "range" p) [a,b] [] pos) (ZpJ ta):=by
 intro jJ s σ H R I h;refine Call_ (V5 I hg hm boot_range (yq (ZE (ha pos jJ s σ H _ I h) fun us s1 ⟨vs,H1,I1,r1,q1⟩=>?_) (by rw[hs,hs2]) (by rw[hs2];rfl)));obtain⟨i,j,e,⟨q1,q2,q3,q4⟩,q⟩:=q1;subst e
 cases r1 with
 | cons r rr=>
  cases rr with
  | cons r' rr=>
   cases rr
   obtain⟨t,rfl⟩:=r;obtain⟨t',rfl⟩:=r';exact call_range_2 (ZfF I1 q1 q2 q3 q4 q)
noncomputable def tFor (wi:TI)(g:TG)(tb:TS):TS:=fun D σ H=>wi σ H fun J H1=>∃W:Nat->Nat->St->Hp->Prop,(∃m,W 0 m σ H1)/\∀i m σ H,W i m σ H->
 (J.stop i H/\D.nx σ H)∨(J.go i H/\∃N:St->Hp->Prop,(∀σ' H',N σ' H'->∃m',m'<m/\W (i+1) m' σ' H')/\∀x H',J.yld i H x H'->g x σ H' fun σ2 H2=>tb { D with nx:=N,ct:=N,bk:=D.nx } σ2 H2)
noncomputable def BB (fp:List Addr)(h:Heap):List (Addr×Obj):=fp.filterMap fun b=>(h.get? b).map fun o=>(b,o)
theorem Jo {fp:List Addr}{h:Heap}{b:Addr}{o:Obj}(hb:b∈fp)(e:h.get? b=some o):(b,o)∈BB fp h:=qaa.mpr ⟨b,hb,by rw[e];rfl⟩
theorem Zjc {fp:List Addr}{h:Heap}{p:Addr×Obj}(hp:p∈BB fp h):p.1∈fp/\h.get? p.1=some p.2:=by
 obtain⟨b,hb,e⟩:=qaa.mp hp
 cases q:h.get? b with
 | none=>rw[q] at e;cases e
 | some o=>
  rw[q] at e;have e':(b,o)=p:=zi e;subst e';exact⟨hb,q⟩
theorem Inv.pinned {jJ:List (Addr×Obj)}{σ:St}{H:Hp}{s:Shared}{fp:List Addr}(I:Inv X jJ σ H s)(hf:∀b∈fp,WK X jJ H b)(ho:∀b∈fp,∃o,s.heap.get? b=some o/\∀v,o.data≠.cell v):Inv X (jJ++BB fp s.heap) σ H s:=
 I.pins_of fun p hp=>(qP.mp hp).elim (fun z=>I.pin p (qj _ z)) fun z=>by
  obtain⟨hb,e⟩:=Zjc z;obtain⟨f0,f1,f2,_⟩:=hf p.1 hb;obtain⟨o,e',d⟩:=ho p.1 hb;rw[e] at e';cases e';exact⟨e,f0,f1,f2,d⟩
theorem Inv.unpinned {jJ pl:List (Addr×Obj)}{σ:St}{H:Hp}{s:Shared}(I:Inv X (jJ++pl) σ H s):Inv X jJ σ H s:=I.pins_of fun p hp=>I.pin p (qj _ (zh _ hp))
theorem ZkJ {iter:Expr}{body:List Stmt}{wi:TI}{g:TG}{tb:TS}{pos:Pos}(hp:PassesOwn (model X.prog X.w) X.A X.env X.xe)(hc:X.calm=true)(hi:PI X tg iter wi)(hg:PG X tg g)(hb:Wk X body tb)
  (hs:∀x,foldedSetIterable iter X.env x=pure x:=by intro _;rfl):PS X (.For tg iter body [] pos) (tFor wi g tb):=by
 intro jJ s σ H D I h;refine wpAny_For (ZE (hi jJ s σ H _ I h) fun v s1 h1=>ZE h1 fun itv s2 h2=>?_) hs;obtain⟨it,fp,tn,J,H2,e,I2,T,jX,f2,W,⟨m0,w0⟩,turn⟩:=h2;subst e
 -- what stays true of the iterator's objects through the loop
 have stat:∀{H':Hp},(∀b∈fp,H' b=none)->∀b∈fp,WK X jJ H' b:=fun hn b hb=>⟨hn b hb,(f2 b hb).2⟩;refine codeAny_forLoop_any (fun n s'=>∃i σ' H',Inv X jJ σ' H' s'/\tn i s'.heap/\(∀b∈fp,H' b=none)/\W i n σ' H') ?_ m0 ⟨0,σ,H2,I2,jX,fun b hb=>(f2 b hb).1,w0⟩;rintro n s3 ⟨i,σ3,H3,I3,st3,fr3,w3⟩;rcases turn i n σ3 H3 w3 with⟨stop,qn⟩ | ⟨go,N,hN,step⟩
 ·refine wpAny_passesOwn hp (ZE (T.done X rfl rfl rfl hc i jJ s3 σ3 H3 X.xe I3 (stat fr3) st3 stop) fun r s4 ⟨hr,I4⟩=>?_)
  subst hr;exact wpAny_execs_nil ⟨σ3,H3,I4,qn⟩
 ·refine wpAny_passesOwn hp (ZE (T.item X rfl rfl rfl hc i jJ s3 σ3 H3 X.xe I3 (stat fr3) st3 go) fun r s4 ⟨u,hr,h4⟩=>?_)
  subst hr;refine wpAny_passesOwn hp (ZE h4 fun _ s5 ⟨x,H5,I5,r5,y5,st5,fr5⟩=>?_);have I5':=I5.pinned (stat fr5) (T.obj _ _ st5);refine wpAny_passesOwn hp (ZE (hg _ s5 σ3 H5 x u _ I5' r5 (step x H5 y5)) fun _ s6 ⟨σ6,H6,I6,q6⟩=>?_);refine wpAny_passesOwn hp (ZE (hb _ s6 σ6 H6 _ I6 q6) fun f s7 q7=>?_);have again:∀{σ7:St} {H7:Hp},Inv X (jJ++BB fp s5.heap) σ7 H7 s7->N σ7 H7->∃m,m<n/\∃i σ' H',Inv X jJ σ' H' s7/\tn i s7.heap/\(∀b∈fp,H' b=none)/\W i m σ' H':=fun {σ7 H7} I7 n7=>by
   obtain⟨m',hm,w7⟩:=hN σ7 H7 n7;refine⟨m',hm,i+1,σ7,H7,I7.unpinned,T.keep _ _ _ st5 fun b hb o e=>(I7.pin (b,o) (qj _ (qj _ (Jo hb e)))).1,fun b hb=>?_,w7⟩;obtain⟨o,e,d⟩:=T.obj _ _ st5 b hb;exact(I7.pin (b,o) (qj _ (qj _ (Jo hb e)))).2.1
  cases f with
  | next=>obtain⟨σ7,H7,I7,n7⟩:=q7;exact again I7 n7
  | cont=>obtain⟨σ7,H7,I7,n7⟩:=q7;exact again I7 n7
  | brk=>obtain⟨σ7,H7,I7,q7⟩:=q7;exact⟨σ7,H7,I7.unpinned,q7⟩
  | ret v=>obtain⟨x7,σ7,H7,I7,r7,q7⟩:=q7;exact⟨x7,σ7,H7,I7.unpinned,r7,q7⟩
end
end L2
namespace L2
noncomputable abbrev R2:=V->V->Hp->VK->Prop
noncomputable def Yd (X:Cx)(f:Value->Value->Sem Value)(r:R2):Prop:=
 ∀(jJ:List (Addr×Obj)) (s:Shared) (σ:St) (H:Hp) (x y:V) (v u:Value) (Q:VK),Inv X jJ σ H s->ZC x v->ZC y u->r x y H Q->
  wpAny (model X.prog X.w) X.A (f v u) (EP X jJ σ Q) X.xe s
noncomputable def UnR (X:Cx)(f:Value->Sem Value)(r:V->Hp->VK->Prop):Prop:=
 ∀(jJ:List (Addr×Obj)) (s:Shared) (σ:St) (H:Hp) (x:V) (v:Value) (Q:VK),Inv X jJ σ H s->ZC x v->r x H Q->
  wpAny (model X.prog X.w) X.A (f v) (EP X jJ σ Q) X.xe s
noncomputable def XT (X:Cx)(f:Value)(r:List V->Hp->VK->Prop):Prop:=
 ∀(jJ:List (Addr×Obj)) (s:Shared) (σ:St) (H:Hp) (xs:List V) (us:List Value) (Q:VK),Inv X jJ σ H s->Zw xs us->r xs H Q->
  wpAny (model X.prog X.w) X.A (call f us) (EP X jJ σ Q) X.xe s
noncomputable def YD (r:R2)(ta tb:TE):TE:=fun σ H Q=>ta σ H fun x H1=>tb σ H1 fun y H2=>r x y H2 Q
noncomputable def tUn (r:V->Hp->VK->Prop)(ta:TE):TE:=fun σ H Q=>ta σ H fun x H1=>r x H1 Q
noncomputable def rI (C:Int->Int->Prop)(g:Int->Int->V):R2:=fun x y H Q=>∃i j,x=.int i/\y=.int j/\C i j/\Q (g i j) H
noncomputable def Xr (g:Int->Int->V):R2:=fun x y H Q=>∃i j,x=.int i/\y=.int j/\Q (g i j) H
noncomputable def rU (g:Int->V):V->Hp->VK->Prop:=fun x H Q=>∃i,x=.int i/\Q (g i) H
section
variable {X:Cx}{a b c:Expr}{ta tb tc:TE}{pos:Pos}
theorem binT (ha:PE X a ta)(hb:PE X b tb){jJ:List (Addr×Obj)}{s:Shared}{σ:St}{H:Hp}{R:V->V->Hp->Prop}(I:Inv X jJ σ H s)
  (h:ta σ H fun x H1=>tb σ H1 fun y H2=>R x y H2) {Q:Value->Shared->Prop} {f:Value->Value->Sem Value}
  (hf:∀v u s2 x y H2,Inv X jJ σ H2 s2->ZC x v->ZC y u->R x y H2->wpAny (model X.prog X.w) X.A (f v u) Q X.xe s2) :
  wpAny (model X.prog X.w) X.A (eval a X.env) (fun v s₁=>wpAny (model X.prog X.w) X.A (eval b X.env) (fun u s₂=>wpAny (model X.prog X.w) X.A (f v u) Q X.xe s₂) X.xe s₁) X.xe s:=by
 refine ZE (ha jJ s σ H _ I h) fun v s1 ⟨x,H1,I1,r1,q1⟩=>?_;refine ZE (hb jJ s1 σ H1 _ I1 q1) fun u s2 ⟨y,H2,I2,r2,q2⟩=>?_;exact hf v u s2 x y H2 I2 r1 r2 q2
theorem Xa {op:Operator}{r:R2}(ho:Yd X (binaryOp op) r)(ha:PE X a ta)(hb:PE X b tb):PE X (.BinOp a op b pos) (YD r ta tb):=by
 intro jJ s σ H Q I h;exact wpAny_BinOp (binT ha hb I h fun v u s2 x y H2 I2 rx ry q=>ho jJ s2 σ H2 x y v u Q I2 rx ry q)
theorem ZnW {op:UnaryOp}{r:V->Hp->VK->Prop}(ho:UnR X (unaryOp op) r)(ha:PE X a ta):PE X (.UnaryOp op a pos) (tUn r ta):=by
 intro jJ s σ H Q I h;exact UnaryOp_ (ZE (ha jJ s σ H _ I h) fun v s1 ⟨x,H1,I1,r1,q1⟩=>ho jJ s1 σ H1 x v Q I1 r1 q1)
theorem opI {f:Value->Value->Sem Value}{C:Int->Int->Prop}{g:Int->Int->Int}
  (rule:∀(i j:Int) (t u:Tok) (s:Shared) (Q:Value->Shared->Prop) (E:Value->Shared->Prop),C i j->Q (.int (g i j) s.toks) { s with toks:=s.toks+1 }->wpAny (model X.prog X.w) X.A (f (.int i t) (.int j u)) Q E s) :
  Yd X f (rI C fun i j=>.int (g i j)):=by
 intro jJ s σ H x y v u Q I rx ry h;obtain⟨i,j,rfl,rfl,hc,q⟩:=h;obtain⟨t,rfl⟩:=rx;obtain⟨t',rfl⟩:=ry;exact rule i j t t' s _ _ hc ⟨.int (g i j),H,I.tok _,⟨_,rfl⟩,q⟩
theorem opI0 {f:Value->Value->Sem Value}{g:Int->Int->Int}
  (rule:∀(i j:Int) (t u:Tok) (s:Shared) (Q:Value->Shared->Prop) (E:Value->Shared->Prop),Q (.int (g i j) s.toks) { s with toks:=s.toks+1 }->wpAny (model X.prog X.w) X.A (f (.int i t) (.int j u)) Q E s) :
  Yd X f (Xr fun i j=>.int (g i j)):=by
 intro jJ s σ H x y v u Q I rx ry h;obtain⟨i,j,rfl,rfl,q⟩:=h;obtain⟨t,rfl⟩:=rx;obtain⟨t',rfl⟩:=ry;exact rule i j t t' s _ _ ⟨.int (g i j),H,I.tok _,⟨_,rfl⟩,q⟩
theorem opB0 {f:Value->Value->Sem Value}{g:Int->Int->Bool}
  (rule:∀(i j:Int) (t u:Tok) (s:Shared) (Q:Value->Shared->Prop) (E:Value->Shared->Prop),Q (.bool (g i j)) s->wpAny (model X.prog X.w) X.A (f (.int i t) (.int j u)) Q E s) :
  Yd X f (Xr fun i j=>.bl (g i j)):=by
 intro jJ s σ H x y v u Q I rx ry h;obtain⟨i,j,rfl,rfl,q⟩:=h;obtain⟨t,rfl⟩:=rx;obtain⟨t',rfl⟩:=ry;exact rule i j t t' s _ _ ⟨.bl (g i j),H,I,rfl,q⟩
noncomputable def CDiv (i j:Int):Prop:=0<j/\j<1073741824
noncomputable def CPow (i j:Int):Prop:=0<=j/\j<=1000000/\i.natAbs<2 ^ 64
noncomputable def V9 (i j:Int):Prop:=(-(2 ^ 64)<i/\i<2 ^ 64)∨(-(2 ^ 64)<j/\j<2 ^ 64)
theorem V9.ok {i j:Int}(h:V9 i j):IntMulOk i j:=by
 rcases h with⟨h1,h2⟩ | ⟨h1,h2⟩
 ·exact .of_left (intBits_le_64 h1 h2)
 ·exact .of_right (intBits_le_64 h1 h2)
theorem Uo:Yd X (binaryOp .Add) (Xr fun i j=>.int (i+j)):=opI0 fun _ _ _ _ _ _ _ q=>add_int q
theorem ZoK:Yd X (binaryOp .Sub) (Xr fun i j=>.int (i-j)):=opI0 fun _ _ _ _ _ _ _ q=>sub_int q
theorem UR:Yd X (binaryOp .Mult) (rI V9 fun i j=>.int (i*j)):=opI fun _ _ _ _ _ _ _ hc q=>mul_int q hc.ok
theorem Zic:Yd X (binaryOp .FloorDiv) (rI CDiv fun i j=>.int (i / j)):=opI fun i j _ _ _ _ _ hc q=>by
 have h1:(0:Int)<j:=hc.1;have h2:j<1073741824:=hc.2;exact floordiv_int (by omega) (by rw[Int.fdiv_eq_ediv_of_nonneg i (by omega)];exact q) (.inl (PyProof.noPylong_small (by omega)))
theorem US:Yd X (binaryOp .Mod) (rI (fun _ j=>0<j) fun i j=>.int (i % j)):=opI fun i j _ _ _ _ _ hc q=>by
 have h1:(0:Int)<j:=hc;exact mod_int' (by omega) (by rw[Int.fmod_eq_emod_of_nonneg i (by omega)];exact q)
theorem ZkK:Yd X (binaryOp .Pow) (rI CPow fun i j=>.int (i ^ j.toNat)):=opI fun _ _ _ _ _ _ _ hc q=>pow_int_small hc.1 hc.2.1 hc.2.2 q
theorem unI {f:Value->Sem Value}{g:Int->Int}
  (rule:∀(i:Int) (t:Tok) (s:Shared) (Q:Value->Shared->Prop) (E:Value->Shared->Prop),Q (.int (g i) s.toks) { s with toks:=s.toks+1 }->wpAny (model X.prog X.w) X.A (f (.int i t)) Q E s) :
  UnR X f (rU fun i=>.int (g i)):=by
 intro jJ s σ H x v Q I rx h;obtain⟨i,rfl,q⟩:=h;obtain⟨t,rfl⟩:=rx;exact rule i t s _ _ ⟨.int (g i),H,I.tok _,⟨_,rfl⟩,q⟩
theorem ZkL:UnR X (unaryOp .USub) (rU fun i=>.int (-i)):=unI fun _ _ _ _ _ q=>neg_int q
end
section
variable {X:Cx}{a b c:Expr}{ta tb tc:TE}{pos:Pos}
theorem ZkM {jJ:List (Addr×Obj)}{σ:St}{H:Hp}{s:Shared}{Q:VK}{k k':Bool}(I:Inv X jJ σ H s)(q:Q (.bl k) H)(e:k=k'):EP X jJ σ Q (.bool k') s:=by
 subst e;exact⟨.bl k,H,I,rfl,q⟩
theorem ZnX:Yd X (compareOp .Lt) (Xr fun i j=>.bl (decide (i<j))):=opB0 fun _ _ _ _ _ _ _ q=>lt_int q
theorem ZpK:Yd X (compareOp .LtE) (Xr fun i j=>.bl (decide (i<=j))):=opB0 fun _ _ _ _ _ _ _ q=>le_int q
theorem ZnY:Yd X (compareOp .Gt) (Xr fun i j=>.bl (decide (j<i))):=opB0 fun _ _ _ _ _ _ _ q=>gt_int q
theorem ZnZ:Yd X (compareOp .GtE) (Xr fun i j=>.bl (decide (j<=i))):=opB0 fun _ _ _ _ _ _ _ q=>ge_int q
theorem ZoL:Yd X (compareOp .Is) (fun x y H Q=>y=.non/\Q (.bl (decide (x=.non))) H):=by
 intro jJ s σ H x y v u Q I rx ry h;obtain⟨rfl,q⟩:=h
 cases ry
 refine is_none_gen (ZkM I q ?_)
 cases x <;> first
  | (cases rx;rfl)
  | (obtain⟨t,rfl⟩:=rx;rfl)
theorem ZmN:Yd X (compareOp .IsNot) (fun x y H Q=>y=.non/\Q (.bl (!decide (x=.non))) H):=by
 intro jJ s σ H x y v u Q I rx ry h;obtain⟨rfl,q⟩:=h
 cases ry
 refine isnot_none_gen (ZkM I q ?_)
 cases x <;> first
  | (cases rx;rfl)
  | (obtain⟨t,rfl⟩:=rx;rfl)
theorem Yd.or {f:Value->Value->Sem Value}{r r':R2}(h:Yd X f r)(h':Yd X f r'):Yd X f (fun x y H Q=>r x y H Q∨r' x y H Q):=by
 intro jJ s σ H x y v u Q I rx ry q;rcases q with q | q
 ·exact h jJ s σ H x y v u Q I rx ry q
 ·exact h' jJ s σ H x y v u Q I rx ry q
theorem JD (b:Expr){op:CmpOp}(h:op≠.In:=by decide)(h2:op≠.NotIn:=by decide):behindInMarks op b=false:=by
 have e1:(op==CmpOp.In)=false:=by cases op <;> first | rfl | exact absurd rfl h
 have e2:(op==CmpOp.NotIn)=false:=by cases op <;> first | rfl | exact absurd rfl h2
 cases b <;> simp[behindInMarks,e1,e2]
theorem ZmO {op:CmpOp}{r:R2}(ho:Yd X (compareOp op) r)(ha:PE X a ta)(hb:PE X b tb)(hm:behindInMarks op b=false):PE X (.Compare a [op] [b] pos) (YD r ta tb):=by
 intro jJ s σ H Q I h;exact wpAny_Compare1 (binT ha hb I h fun v u s2 x y H2 I2 rx ry q=>ho jJ s2 σ H2 x y v u Q I2 rx ry q) hm
noncomputable def BL (t:TE):TT:=fun σ H Q=>t σ H fun x H'=>∃k,x=.bl k/\Q k H'
theorem Br {op:CmpOp}{r:R2}(ho:Yd X (compareOp op) r)(ha:PE X a ta)(hb:PE X b tb)(hm:behindInMarks op b=false):PT X (.Compare a [op] [b] pos) (BL (YD r ta tb)):=by
 intro jJ s σ H Q I h;refine wpAny_isTrue_Compare1 (ZE (ha jJ s σ H _ I h) fun v s1 ⟨x,H1,I1,r1,q1⟩=>ZE (hb jJ s1 σ H1 _ I1 q1) fun u s2 ⟨y,H2,I2,r2,q2⟩=>
  ZE (ho jJ s2 σ H2 x y v u _ I2 r1 r2 q2) fun c s3 ⟨z,H3,I3,r3,k,e,q3⟩=>?_) hm
 subst e
 cases r3
 exact wpAny_truthy_bool ⟨H3,I3,q3⟩
theorem BC:(sizeLine:Nat)<2 ^ 63:=by rw[sizeLine_eq];decide
theorem XU {x:V}{us:List Value}(r:Zw [x] us):∃u,us=[u]/\ZC x u:=by
 cases r with
 | cons r1 r2=>cases r2;exact⟨_,rfl,r1⟩
theorem Zid {x y:V}{us:List Value}(r:Zw [x,y] us):∃u w',us=[u,w']/\ZC x u/\ZC y w':=by
 cases r with
 | cons r1 r2=>
  cases r2 with
  | cons r3 r4=>cases r4;exact⟨_,_,rfl,r1,r3⟩
theorem Zjd (hc:X.calm=true):XT X (.builtin "max") (fun xs H Q=>∃i j,xs=[.int i,.int j]/\Q (.int (if j > i then j else i)) H):=by
 intro jJ s σ H xs us Q I r h;obtain⟨i,j,rfl,q⟩:=h;obtain⟨u,w',rfl,⟨t,rfl⟩,⟨t',rfl⟩⟩:=Zid r;refine max_two_ints (I.ok.hd hc) fun h' tk k=>⟨_,H,I.kept k,?_,q⟩;by_cases hj:j > i
 ·rw[if_pos hj,if_pos hj];exact⟨_,rfl⟩
 ·rw[if_neg hj,if_neg hj];exact⟨_,rfl⟩
theorem Zje (hc:X.calm=true):XT X (.builtin "min") (fun xs H Q=>∃i j,xs=[.int i,.int j]/\Q (.int (if j<i then j else i)) H):=by
 intro jJ s σ H xs us Q I r h;obtain⟨i,j,rfl,q⟩:=h;obtain⟨u,w',rfl,⟨t,rfl⟩,⟨t',rfl⟩⟩:=Zid r;refine min_two_ints (I.ok.hd hc) fun h' tk k=>⟨_,H,I.kept k,?_,q⟩;by_cases hj:j<i
 ·rw[if_pos hj,if_pos hj];exact⟨_,rfl⟩
 ·rw[if_neg hj,if_neg hj];exact⟨_,rfl⟩
theorem Zjf:XT X (.type "int") (fun xs H Q=>(∃i,xs=[.int i]/\Q (.int i) H)∨∃k,xs=[.bl k]/\Q (.int (if k then 1 else 0)) H):=by
 intro jJ s σ H xs us Q I r h;rcases h with⟨i,rfl,q⟩ | ⟨k,rfl,q⟩
 ·obtain⟨u,rfl,t,rfl⟩:=XU r
  exact call_int_int ⟨.int i,H,I,⟨_,rfl⟩,q⟩
 ·obtain⟨u,rfl,r1⟩:=XU r
  cases r1
  exact call_int_bool ⟨.int (if k then 1 else 0),H,I.tok _,⟨_,rfl⟩,q⟩
end
end L2
namespace L2
structure ObjM (h:Heap)(x dx C:Addr)(mA:Str->Option Value):Prop where
 obj:h.get? x=some (qbn C dx)
 ns:h.Ns1 dx mA
 ne:dx≠x
theorem Zjg {h:Heap}{dx:Addr}{mA:Str->Option Value}(n:h.Ns1 dx mA):∃od,h.get? dx=some od/\∀name,qbw name od=some (mA name):=by
 obtain⟨o,es,ep,ho,hd,hk,_,hm⟩:=n;refine⟨o,ho,fun name=>?_⟩;have e:=hm name;unfold nsFind findBy at e;rw[<-Array.find?_toList] at e;unfold qbw;rw[hd];dsimp only;split
 ·rename_i y q
  rw[q] at e;exact congrArg some e
 ·rename_i q
  rw[q] at e;have a:es.toList.any (·.refKey)=false:=by
   rw[List.any_eq_false];intro y hy;obtain⟨z,t,hkey⟩:=hk y (Array.mem_toList_iff.mp hy);simp[DictEntry.refKey,hkey]
  have a':¬es.toList.any (·.refKey)=true:=by rw[a];exact zX
  rw[if_neg a'];exact congrArg some e
theorem ObjM.look {h:Heap}{x dx C:Addr}{mA:Str->Option Value}(I:ObjM h x dx C mA):∃od,PySem.W.InstAt h x (qbn C dx) C (some od)/\∀name,qbw name od=some (mA name):=
 let ⟨od,ho,hl⟩:=Zjg I.ns
 ⟨od,⟨I.obj,rfl,rfl,ho⟩,hl⟩
section
variable {prog:Program}{w:World}{A:Around}{E:Value->Shared->Prop}{s:Shared}{K:qk}{x dx C f:Addr}{mA:Str->Option Value}{name:Str}{v:Value}
end
theorem jy {v:V}{o:Option Value}(r:Uv (some v) o):∃u,o=some u/\ZC v u:=by
 cases o with
 | none=>exact(show False from r).elim
 | some u=>exact⟨u,rfl,r⟩
section
variable {P:Program}{w:World}{H H':Hp}{h h':Heap}{a C dx:Addr}{fs fs':List (Str×V)}
theorem ZmP (hok:Ys P w H h)(e:H a=some (.ins C dx fs)):∃mA,ObjM h a dx C mA/\(∀f,Uv (fs.lookup f) (mA f))/\PySem.Within mA (fs.map (·.1))/\fs.length<=1000/\H dx=some (.own a):=by
 obtain⟨d,z,ne,ob,mA,n,r,q⟩:=(show YC P w H h a (.ins C dx fs) from hok a _ e);exact⟨mA,⟨ob,n,ne⟩,r,q,z,d⟩
end
structure Cls (K:qk)(C:Addr):Prop where
 pg:PySem.W.plainGet K C Str.empty=true
 hd:PySem.W.hasDictIn K C=true
 po:PySem.W.plainOver K C=true
 sa:PySem.W.findIn K (.ref C) "__setattr__" = some (some (.builtin "object.__setattr__"))
theorem Cls.get {K:qk}{C:Addr}(c:Cls K C)(f:Str):PySem.W.plainGet K C f=true:=c.pg
section
variable {X:Cx}{jJ:List (Addr×Obj)}{σ:St}{H:Hp}{s:Shared}{a C dx:Addr}{fs:List (Str×V)}{f:Str}{v:V}{A:Around}{E:Value->Shared->Prop}
end
section
variable {X:Cx}{o e value:Expr}{f:Str}{pos pos' tpos:Pos}{ta tv:TE}
end
section
variable {X:Cx}{jJ:List (Addr×Obj)}{σ:St}{H:Hp}{s:Shared}{A:Around}{E:Value->Shared->Prop}{Q:Value->Shared->Prop}{c:Value}{b:Bool}
inductive TyOf (K:qk)(H:Hp):V->Value->Prop where
 | non:TyOf K H .non (.type "NoneType")
 | bl (x:Bool):TyOf K H (.bl x) (.type "bool")
 | int (i:Int):TyOf K H (.int i) (.type "int")
 | str (x:Str):TyOf K H (.str x) (.type "str")
 | flt (x:UInt64):TyOf K H (.flt x) (.type "float")
 | lst {a:Addr} {xs:List V} (e:H a=some (.lst xs)):TyOf K H (.ref a) (.type "list")
 | frz {a:Addr} {o:Obj} {xs:List V} (e:H a=some (.frz o (.lst xs))):TyOf K H (.ref a) (.type "list")
 | tup {a:Addr} {xs:List V} (e:H a=some (.tup xs)):TyOf K H (.ref a) (.type "tuple")
 | dK {a:Addr} {kvs:List (Zt×V)} (e:H a=some (.dK kvs)):TyOf K H (.ref a) (.type "dict")
 | dT {a:Addr} {kvs:List (List Zt×V)} (e:H a=some (.dT kvs)):TyOf K H (.ref a) (.type "dict")
 | ins {a C dx:Addr} {fs:List (Str×V)} (e:H a=some (.ins C dx fs)) (cl:Cls K C) (ha:PySem.W.findIn K (.ref C) "__class__" = some (some (.builtin "object.__class__")))
   (hn:PySem.W.specialIn K (.builtin "object.__class__") "__get__" = some (some (.builtin "getset_descriptor.__get__"))) (htk:PySem.W.takesIn K (.builtin "object.__class__")=some true)
   (hm:PySem.W.mroIn K C (.type "object")=some true):TyOf K H (.ref a) (.ref C)
theorem Zjh {x:V}{u t:Value}(I:Inv X jJ σ H s)(rx:ZC x u)(ty:TyOf X.K H x t)(e:PySem.W.kitOne X.K t c=some b)(h:∀tk,Q (.bool b) { s with toks:=tk }) :
  wpAny (model X.prog X.w) A (call (.builtin "isinstance") [u,c]) Q E s:=by
 cases ty with
 | non=>cases (show u=ze from rx);exact zN PySem.W.kitx_none I.kIn z7 e (fun z=>nomatch z) h
 | bl y=>cases (show u=zH y from rx);exact zN PySem.W.kitx_bool I.kIn z7 e (fun z=>nomatch z) h
 | int i=>obtain⟨t,q⟩:=(show ∃t,u=qbm i t from rx);cases q;exact zN PySem.W.kitx_int I.kIn z7 e (fun z=>nomatch z) h
 | str y=>obtain⟨t,q⟩:=(show ∃t,u=qbP y t from rx);cases q;exact zN PySem.W.kitx_str I.kIn z7 e (fun z=>nomatch z) h
 | flt y=>obtain⟨t,q⟩:=(show ∃t,u=Value.float y t from rx);cases q;exact zN PySem.W.kitx_float I.kIn z7 e (fun z=>nomatch z) h
 | @lst a xs ea=>
  cases (show u=qM a from rx)
  obtain⟨_,_,n,_,h1⟩:=(show YC X.prog X.w H s.heap a (.lst xs) from I.hok a _ ea);exact zN PySem.W.kitx_list I.kIn ⟨_,h1,rfl⟩ e (fun z=>nomatch z) h
 | @frz a ob xs ea=>
  cases (show u=qM a from rx)
  obtain⟨_,_,_,n,_,h1⟩:=(show YC X.prog X.w H s.heap a (.frz ob (.lst xs)) from I.hok a _ ea);exact zN PySem.W.kitx_list I.kIn ⟨_,h1,rfl⟩ e (fun z=>nomatch z) h
 | @tup a xs ea=>
  cases (show u=qM a from rx)
  obtain⟨_,_,_,p⟩:=(show YC X.prog X.w H s.heap a (.tup xs) from I.hok a _ ea);obtain⟨o,h1,h2,_⟩:=p;exact zN PySem.W.kitx_tuple I.kIn ⟨o,h1,h2⟩ e (fun z=>nomatch z) h
 | @dK a kvs ea=>
  cases (show u=qM a from rx)
  obtain⟨_,_,vs,_,p⟩:=(show YC X.prog X.w H s.heap a (.dK kvs) from I.hok a _ ea);obtain⟨o,es,ep,h1,h2,_⟩:=p;exact zN PySem.W.kitx_dict I.kIn ⟨o,h1,h2.1⟩ e (fun z=>nomatch z) h
 | @dT a kvs ea=>
  cases (show u=qM a from rx)
  obtain⟨_,_,xs,_,o,es,ep,h1,h2,_⟩:=(show YC X.prog X.w H s.heap a (.dT kvs) from I.hok a _ ea);exact zN PySem.W.kitx_dict I.kIn ⟨o,h1,h2.1⟩ e (fun z=>nomatch z) h
 | @ins a C dx fs ea cl ha hn htk hm=>
  cases (show u=qM a from rx)
  obtain⟨mA,O,_⟩:=ZmP I.hok ea;obtain⟨od,J,_⟩:=O.look;exact zN (PySem.W.kitx_own (cl.get _) cl.hd ha hn htk hm) I.kIn J e (fun z=>nomatch z) h
end
end L2
namespace L2
structure Room (k:Nat)(A:Around):Prop where
 hd:A.handled=none
 dp:A.depth+3*k+5<recursionLimit
 un:A.units+16*k+200<cLine
 gd:A.guards=some []
theorem Room.mono {j k:Nat}{A:Around}(r:Room k A)(h:j<=k):Room j A:=⟨r.hd,by have:=r.dp;omega,by have:=r.un;omega,r.gd⟩
theorem Room.deeper {k:Nat}{A:Around}(r:Room (k+1) A)(env:Env):Room k (A.deeper env):=
 ⟨r.hd,by have:=r.dp;show A.depth+1+3*k+5<_;omega,by have:=r.un;show A.units+3+16*k+200<_;omega,r.gd⟩
theorem Room.in1 {k:Nat}{A:Around}(r:Room (k+1) A):Room k A.in1:=
 ⟨r.hd,by have:=r.dp;show A.depth+3*k+5<_;omega,by have:=r.un;show A.units+1+16*k+200<_;omega,r.gd⟩
theorem Room.depth {k:Nat}{A:Around}(r:Room k A):A.depth<recursionLimit:=by have:=r.dp;omega
theorem Room.units {k:Nat}{A:Around}(r:Room k A):A.units+64<cLine:=by have:=r.un;omega
theorem Room.units0 {k:Nat}{A:Around}(r:Room k A):A.units<cLine:=by have:=r.un;omega
noncomputable def Xx:TA:=fun _ H Q=>Q [] H
noncomputable def Xi (ta:TE)(tr:TA):TA:=fun σ H Q=>ta σ H fun x H1=>tr σ H1 fun xs H2=>Q (x::xs) H2
section
variable {X:Cx}{e:Expr}{es:List Expr}{te:TE}{t:TA}{pos:Pos}
theorem Y8:PA X [] Xx:=fun _ _ _ _ H Q I h=>Calls.spliced_nil ⟨[],H,I,.nil,h⟩
theorem YS (ha:PE X e te)(hr:PA X es t)(hs:starEach (e::es) X.env=(false,eval e X.env)::starEach es X.env:=by rfl):PA X (e::es) (Xi te t):=by
 intro pos jJ s σ H Q I h;rw[hs];show wpAny _ _ (spliced ((false,eval e X.env)::backTo pos (starEach es X.env))) _ _ s;refine Calls.spliced_cons (ZE (ha jJ s σ H _ I h) fun u s1 ⟨x,H1,I1,r1,q1⟩=>?_);exact ZE (hr pos jJ s1 σ H1 _ I1 q1) fun us s2 ⟨xs,H2,I2,r2,q2⟩=>⟨x::xs,H2,I2,.cons r1 r2,q2⟩
noncomputable def tTup (t:TA):TE:=fun σ H Q=>t σ H fun xs H1=>xs.length<=sizeLine/\∀p,H1 p=none->Q (.ref p) (Zm H1 p (.tup xs))
noncomputable def tLst (t:TA):TE:=fun σ H Q=>t σ H fun xs H1=>xs.length<=sizeLine/\∀p,H1 p=none->Q (.ref p) (Zm H1 p (.lst xs))
theorem ZoM {x1}(h:PA X es t):PE X (.Tuple es x1 pos) (tTup t):=by
 intro jJ s σ H Q I hq;refine wpAny_Tuple_spliced (ZE (h pos jJ s σ H _ I hq) fun us s1 ⟨xs,H1,I1,r,z,q⟩=>⟨by rw[<-r.length];exact z,?_⟩);have hf:H1 s1.heap.objs.size=none:=I1.hok.fresh (qw _);refine⟨.ref s1.heap.objs.size,Zm H1 s1.heap.objs.size (.tup xs),I1.laid (t':=s1.toks) (fun b u e=>qq _ e) (qw _) ?_,rfl,q _ hf⟩;exact⟨z,us,r,⟨_,qI _ rfl,rfl,_,rfl⟩⟩
theorem ZoN (h:PA X es t):PE X (.List es pos) (tLst t):=by
 intro jJ s σ H Q I hq;refine wpAny_List_spliced (ZE (h pos jJ s σ H _ I hq) fun us s1 ⟨xs,H1,I1,r,z,q⟩=>⟨by rw[<-r.length];exact z,?_⟩);have hf:H1 s1.heap.objs.size=none:=I1.hok.fresh (qw _);refine⟨.ref s1.heap.objs.size,Zm H1 s1.heap.objs.size (.lst xs),I1.laid (t':=s1.toks) (fun b u e=>qq _ e) (qw _) ?_,rfl,q _ hf⟩;exact⟨z,us,0,r,qI _ rfl⟩
end
noncomputable abbrev Sp:=List V->Hp->VK->XK->Prop
noncomputable abbrev X1:=List Env->Hp->Shared->XK->Value->Shared->Prop
structure Env0 (P:Program)(w:World)(K:qk)(mg:Str->Option Value)(base:Heap)(A:Around)(outer:List Env)(s:Shared)(H:Hp):Prop where
 frames:A.frames=some outer
 mod:Mod K mg base
 bs:∀b o,base.get? b=some o->s.heap.get? b=some o/\H b=none
 bsz:base.objs.size<=s.heap.objs.size
 funs:s.heap.FunFrames base outer
 frf:∀b∈X0 outer,H b=none
 hok:Ys P w H s.heap
 bare:AllBare s.gens
noncomputable def CE (outer:List Env)(P:Program)(w:World)(H:Hp)(s:Shared)(Q:VK)(u:Value)(s':Shared):Prop:=
 ∃v H',s'.os=s.os/\AllBare s'.gens/\Un (X0 outer) [] H H' s.heap s'.heap/\Ys P w H' s'.heap/\ZC v u/\Q v H'
noncomputable def CR (CX:X1)(outer:List Env)(P:Program)(w:World)(H:Hp)(s:Shared)(Q:VK)(E:XK)(r:Result)(s':Shared):Prop:=
 match r with
 | .ok (.ret u)=>CE outer P w H s Q u s'
 | .ok _=>False
 | .error e=>CX outer H s E e s'
structure FnOk (P:Program)(w:World)(K:qk)(mg:Str->Option Value)(base:Heap)(CX:X1)(k:Nat)(f:Addr)(fd:FuncData)(ps:List Str)(sp:Sp):Prop where
 len:∀vs H Q E,sp vs H Q E->vs.length=ps.length
 run:∀(A:Around) (outer:List Env) (s:Shared) (H:Hp) (args:Args) (us:List Value) (vs:List V) (Q:VK) (E:XK),Room k A->Env0 P w K mg base A outer s H->BindsTo s fd args (ps.zip us)->Zw vs us->sp vs H Q E->
  codeAny (model P w) A (.call (.ref f) args) (CR CX outer P w H s Q E) s
theorem FnOk.mono {P:Program}{w:World}{K:qk}{mg:Str->Option Value}{base:Heap}{CX:X1}{j k:Nat}{f:Addr}{fd:FuncData}{ps:List Str}{sp:Sp}(F:FnOk P w K mg base CX j f fd ps sp)(h:j<=k) :
  FnOk P w K mg base CX k f fd ps sp:=⟨F.len,fun A outer s H args us vs Q E hr=>F.run A outer s H args us vs Q E (hr.mono h)⟩
theorem FnOk.imp {P:Program}{w:World}{K:qk}{mg:Str->Option Value}{base:Heap}{CX:X1}{k:Nat}{f:Addr}{fd:FuncData}{ps:List Str}{sp sp':Sp}(F:FnOk P w K mg base CX k f fd ps sp)
  (h:∀vs H Q E,sp' vs H Q E->sp vs H Q E):FnOk P w K mg base CX k f fd ps sp':=
 ⟨fun vs H Q E q=>F.len vs H Q E (h _ _ _ _ q),fun A outer s H args us vs Q E hr he hb hv hs=>F.run A outer s H args us vs Q E hr he hb hv (h _ _ _ _ hs)⟩
theorem Env0.in1 {P:Program}{w:World}{K:qk}{mg:Str->Option Value}{base:Heap}{A:Around}{outer:List Env}{s:Shared}{H:Hp}(e:Env0 P w K mg base A outer s H) :
  Env0 P w K mg base A.in1 outer s H:=⟨e.frames,e.mod,e.bs,e.bsz,e.funs,e.frf,e.hok,e.bare⟩
section
variable {X:Cx}{jJ:List (Addr×Obj)}{σ:St}{H:Hp}{s s':Shared}
theorem Inv.env0 (I:Inv X jJ σ H s):Env0 X.prog X.w X.K X.mg X.base X.A X.stack s H:=
 ⟨I.ok.frames,I.ok.mod,I.bs,qZ I.ok.bsz I.sz,I.stack,I.stkFree,I.hok,I.bare⟩
theorem Inv.after {Q:VK}{u:Value}(I:Inv X jJ σ H s)(h:CE X.stack X.prog X.w H s Q u s'):EP X jJ σ Q u s':=by
 obtain⟨v,H',os,bare,un,hok,r,q⟩:=h;obtain⟨hh,g,d,t,os'⟩:=s';obtain rfl:os'=s.os:=os;exact⟨v,H',I.call (h':=hh) (g':=g) (d':=d) (t':=t) (ch:=[]) un hok bare (fun b z=>absurd z (by simp)),r,q⟩
end
noncomputable def Zn0 (sp:Sp)(dvs:List V)(E:XK)(t:TA):TE:=fun σ H Q=>t σ H fun vs H1=>sp (vs++dvs) H1 Q E
noncomputable def XV (K:qk)(fd:FuncData)(ps:List Str)(ds:List Value):Prop:=
 ∀(s:Shared) (us:List Value),K.In s.heap->(us++ds).length=ps.length->BindsTo s fd ⟨us,[]⟩ (ps.zip (us++ds))
theorem XV.all {K:qk}{fd:FuncData}{ps:List Str}(h:∀us:List Value,us.length=ps.length->bindArgs fd ⟨us,[]⟩=pure (ps.zip us)):XV K fd ps []:=fun s us _ hl=>by
 rw[zf] at hl⊢;exact .of_eq (h us hl)
noncomputable def ZeH (CX:X1)(X:Cx)(E:XK):Prop:=∀(jJ:List (Addr×Obj)) (σ:St) (H:Hp) (s:Shared) (e:Value) (s':Shared),Inv X jJ σ H s->CX X.stack H s E e s'->X.xe e s'
section
variable {X:Cx}{CX:X1}{k:Nat}{f C:Addr}{fd:FuncData}{ps:List Str}{sp:Sp}{dvs:List V}{ds:List Value}{E:XK}{x m:Str}{p pos apos:Pos}{e o:Expr}{es:List Expr}{ta:TE}{t:TA}
theorem ZkN {jJ:List (Addr×Obj)}{σ:St}{H:Hp}{s:Shared}{Q:VK}{us:List Value}{vs:List V}(F:FnOk X.prog X.w X.K X.mg X.base CX k f fd ps sp)(hr:Room k X.A)(hb:XV X.K fd ps ds)(hd:Zw dvs ds)(hx:ZeH CX X E)
  (I:Inv X jJ σ H s) (r:Zw vs us) (h:sp (vs++dvs) H Q E):wpAny (model X.prog X.w) X.A (call (.ref f) us) (EP X jJ σ Q) X.xe s:=by
 have r2:Zw (vs++dvs) (us++ds):=r.append hd;have hl:(us++ds).length=ps.length:=by rw[<-r2.length];exact F.len _ _ _ _ h
 refine wpAny_call (codeAny_mono (F.run X.A X.stack s H ⟨us,[]⟩ (us++ds) (vs++dvs) Q E hr I.env0 (hb s us I.kIn hl) r2 h) fun r s' hq=>?_)
 cases r with
 | error e=>exact hx jJ σ H s e s' I hq
 | ok fl=>
  cases fl with
  | ret u=>exact I.after hq
  | next=>exact zI hq
  | brk=>exact zI hq
  | cont=>exact zI hq
theorem ZeI (F:FnOk X.prog X.w X.K X.mg X.base CX k f fd ps sp)(hr:Room k X.A)(hg:Gl X x)(hm:X.mg x=some (.ref f))(hk:z0 X.K (.ref f)=true)(hb:XV X.K fd ps ds)(hd:Zw dvs ds)(hx:ZeH CX X E)
  (ha:PA X (e::es) t) (hdb:(x==("__debug__" : Str))=false:=by decide) (he:starEach (e::es) X.env=(false,eval e X.env)::starEach es X.env:=by rfl) (hpl:(backTo pos (starEach es X.env)).any (·.1)=false:=by rfl) :
  PE X (.Call (.Name x p) (e::es) [] pos) (Zn0 sp dvs E t):=by
 intro jJ s σ H Q I h;refine wpAny_Call_Name_kw (ZeE I hg hm ?_ hdb);refine PySem.W.callWith_K (h₀:=X.base) I.ok.mod.kin hk (ZE (ha pos jJ s σ H _ I h) fun us s1 ⟨vs,H1,I1,r,q⟩=>⟨I1.kIn,?_⟩) he hpl;exact ZkN F hr hb hd hx I1 r q
end
noncomputable def PK (X:Cx)(kws:List Keyword)(t:TA):Prop:=
 ∀(pos:Pos) (jJ:List (Addr×Obj)) (s:Shared) (σ:St) (H:Hp) (Q:List V->Hp->Prop),Inv X jJ σ H s->t σ H Q->wpAny (model X.prog X.w) X.A (evalAll ((backToKw pos (keywordEach kws X.env)).map (·.2))) (AP X jJ σ Q) X.xe s
section
variable {X:Cx}{CX:X1}{k:Nat}{f C:Addr}{fd:FuncData}{ps ks:List Str}{sp:Sp}{E:XK}{x m:Str}{p pos apos kpos:Pos}{e o:Expr}{es:List Expr}{kws:List Keyword}{te ta:TE}{t tk:TA}{nm:Option Str}
theorem Zg1:PK X [] Xx:=fun _ _ _ _ H Q I h=>wpAny_evalAll_nil ⟨[],H,I,.nil,h⟩
theorem Zcw (ha:PE X e te)(hr:PK X kws t):PK X (⟨nm,e,kpos⟩::kws) (Xi te t):=by
 intro pos jJ s σ H Q I h;show wpAny _ _ (evalAll ((do let v<-eval e X.env;standAt pos;pure v)::(backToKw pos (keywordEach kws X.env)).map (·.2))) _ _ s;refine wpAny_evalAll_cons (wpAny_bind (ZE (ha jJ s σ H _ I h) fun u s1 ⟨x,H1,I1,r1,q1⟩=>wpAny_bind (wpAny_standAt (wpAny_pure ?_))));exact ZE (hr pos jJ s1 σ H1 _ I1 q1) fun us s2 ⟨xs,H2,I2,r2,q2⟩=>⟨x::xs,H2,I2,.cons r1 r2,q2⟩
variable {g:List Value->List Value->List Value}{gV:List V->List V->List V}
end
structure FnScope (N P:List Str)(sc:Scope):Prop where
 kind:sc.kind=.function
 co:sc.isCoroutine=false
 gen:sc.isGenerator=false
 nd:N.Nodup
 pre:N.take P.length=P
 par:∀x∈P,sc.names.lookup x=some .local∨sc.names.lookup x=some .cell
 nofree:∀y∈sc.names,y.2≠.free
theorem Zd1 {kindOf:Str->Option NameKind}{x:Str}:∀{binds:List (Str×Value)} {m:Str->Option Value},(∀v,(x,v)∉binds)->bindL kindOf binds m x=m x
 | [],_,_=>rfl
 | (n,v)::r,m,h=>by
  unfold bindL;rw[Zd1 fun w hw=>h w (qK _ hw)];split
  ·have:x≠n:=by rintro rfl;exact h v zC
   simp[this]
  ·rfl
theorem Zd2 {kindOf:Str->Option NameKind}{x:Str}:∀{binds:List (Str×Value)} {m:Str->Option Value},(∀v,(x,v)∉binds)->bindC kindOf binds m x=m x
 | [],_,_=>rfl
 | (n,v)::r,m,h=>by
  unfold bindC;rw[Zd2 fun w hw=>h w (qK _ hw)];split
  ·rfl
  ·have:x≠n:=by rintro rfl;exact h v zC
   simp[this]
theorem Zd3 {kindOf:Str->Option NameKind}{x:Str}{v:Value}:∀{P:List Str} {vs:List Value} {i:Nat} {m:Str->Option Value},P.Nodup->P[i]?=some x->vs[i]?=some v->kindOf x=some .local->
  bindL kindOf (P.zip vs) m x=some v
 | [],_,_,_,_,h,_,_=>by simp at h
 | _::_,[],_,_,_,_,h,_=>by simp at h
 | p::P,w::vs,0,m,nd,h1,h2,hk=>by
  simp at h1 h2;subst h1;subst h2;show bindL kindOf ((p,w)::P.zip vs) m p=_;unfold bindL;rw[Zd1 fun v hv=>(zx.mp nd).1 (qaH hv).1,if_pos hk];simp
 | p::P,w::vs,i+1,m,nd,h1,h2,hk=>by
  show bindL kindOf ((p,w)::P.zip vs) m x=_;unfold bindL;exact Zd3 (i:=i) (zx.mp nd).2 (by simpa using h1) (by simpa using h2) hk
theorem Zd4 {kindOf:Str->Option NameKind}{x:Str}{v:Value}:∀{P:List Str} {vs:List Value} {i:Nat} {m:Str->Option Value},P.Nodup->P[i]?=some x->vs[i]?=some v->kindOf x≠some .local->
  bindC kindOf (P.zip vs) m x=some v
 | [],_,_,_,_,h,_,_=>by simp at h
 | _::_,[],_,_,_,_,h,_=>by simp at h
 | p::P,w::vs,0,m,nd,h1,h2,hk=>by
  simp at h1 h2;subst h1;subst h2;show bindC kindOf ((p,w)::P.zip vs) m p=_;unfold bindC;rw[Zd2 fun v hv=>(zx.mp nd).1 (qaH hv).1,if_neg hk];simp
 | p::P,w::vs,i+1,m,nd,h1,h2,hk=>by
  show bindC kindOf ((p,w)::P.zip vs) m x=_;unfold bindC;exact Zd4 (i:=i) (zx.mp nd).2 (by simpa using h1) (by simpa using h2) hk
noncomputable def start (N:List Str)(vs:List V):St:=vs.map some++qz (N.length-vs.length) none
noncomputable def W3 (CX:X1)(P:Program)(w:World)(K:qk)(mg:Str->Option Value)(base:Heap)(N:List Str)(qual:Str)(scope:Scope)(f:Addr)(cd:Value)(A:Around)(outer:List Env)(s:Shared)(H:Hp)(E:XK):Cx where
 prog:=P
 w:=w
 K:=K
 mg:=mg
 base:=base
 A:=A.deeper (envOfC qual scope s.heap.objs.size f cd)
 N:=N
 s₀:=s
 H₀:=H
 env:=envOfC qual scope s.heap.objs.size f cd
 outer:=outer
 stack:=envOfC qual scope s.heap.objs.size f cd::outer
 ex:=[]
 calm:=true
 fn:=fun _=>true
 pn:=[]
 xe:=fun e s'=>wpAny (model P w) (A.deeper (envOfC qual scope s.heap.objs.size f cd)) (leaving (envOfC qual scope s.heap.objs.size f cd) e) (fun _ s''=>CX outer H s E e s'') (fun e' s''=>CX outer H s E e' s'') s'
theorem ZfG {sc:Scope}{n:Nat}{x:Str}(h:sc.names.lookup x=some .cell):∃c,(cellsFrom n sc.names []).lookup x=some c:=by
 have q:=qbu sc.names n [] (.inl h);exact zK.mp q
theorem Zji {CX:X1}{P:Program}{w:World}{K:qk}{mg:Str->Option Value}{base:Heap}{N ps:List Str}{qual:Str}{scope:Scope}{f:Addr}{cd:Value}{A:Around}{outer:List Env}{s s1:Shared}{H:Hp}{E:XK}{us:List Value}{vs:List V}
  (S:FnScope N ps scope) (hd:A.handled=none) (e0:Env0 P w K mg base A outer s H) (hl:vs.length=ps.length) (r:Zw vs us)
  (x:InCallC s s.heap.objs.size (bindL (envOfC qual scope s.heap.objs.size f cd).kindOf (ps.zip us) fun _=>none) (cellsFrom (s.heap.objs.size+1) scope.names []) (bindC (envOfC qual scope s.heap.objs.size f cd).kindOf (ps.zip us) fun _=>none) s1) :
  Inv (W3 CX P w K mg base N qual scope f cd A outer s H E) [] (start N vs) H s1:=by
 have hpl:ps.length<=N.length:=by have:=congrArg yX S.pre;rw[zE] at this;omega
 obtain⟨h1,tk,rfl,hk⟩:=x.done;have noA:∀b:Addr,b∉(W3 CX P w K mg base N qual scope f cd A outer s H E).ex:=fun b z=>absurd (show b∈([]:List Addr) from z) (by simp);refine⟨⟨e0.mod,S.kind,rfl,rfl,qw _,fun y z c h1 h2=>?_,fun y hy=>?_,fun y c _ h=>?_,fun _=>hd,qbE e0.frames,.inr ⟨rfl,rfl⟩,fun b z=>absurd z (noA b),e0.bs,e0.bsz,fun b _ _=>noA b,fun b z=>absurd z (noA b),e0.funs,e0.frf⟩,
  rfl,e0.bare,Un.kept hk,⟨_,x.toInCall.ns,fun i y v h1 h2 h3=>?_⟩,fun y c h=>⟨_,x.cell y c h⟩,e0.hok.fresh (qw _),fun y c h=>?_,fun p hp=>absurd (show p∈([]:List (Addr×Obj)) from hp) (by simp),e0.hok.kept hk,?_⟩
 ·exact name_of_addr x.apart (zy h1) (zy h2)
 ·have hy:scope.names.lookup y=some .cell∨scope.names.lookup y=some .free:=hy
  rcases hy with hy | hy
  ·exact ZfG hy
  ·exact absurd rfl (S.nofree _ (zy hy))
 ·exact qbQ (x.above y c (zy h))
 ·have hi:i<vs.length:=by
   unfold start at h2;by_cases hi:i<vs.length
   ·exact hi
   ·rw[z8 (by simpa using hi)] at h2
    rw[yk] at h2;split at h2 <;> cases h2
  have ha:vs[i]?=some v:=by
   unfold start at h2;rw[zF (by simpa using hi),qD] at h2
   cases e:vs[i]? with
   | none=>rw[e] at h2;cases h2
   | some a=>rw[e] at h2;cases h2;rfl
  obtain⟨u,hu,rv⟩:=r.get ha;have hp:ps[i]?=some y:=by
   rw[<-S.pre,qab (by omega)];exact h1
  have ndP:ps.Nodup:=by rw[<-S.pre];exact S.nd.sublist (qa0 _ _)
  refine⟨u,rv,?_⟩;rcases S.par y (z5 hp) with k | k
  ·exact .inl ⟨k,Zd3 ndP hp hu k⟩
  ·obtain⟨c,e⟩:=ZfG (n:=s.heap.objs.size+1) k
   refine .inr ⟨.inl k,c,e,?_⟩;have q:=x.cell y c e;rw[Zd4 ndP hp hu (by show scope.names.lookup y≠_;rw[k];decide)] at q;exact q
 ·exact e0.hok.fresh (qbQ (x.above y c (zy h)))
 ·unfold start
  show _=N.length;rw[qY,qd,List.length_replicate];omega
theorem Zn1 {CX:X1}{P:Program}{w:World}{K:qk}{mg:Str->Option Value}{base:Heap}{k:Nat}{f:Addr}{name qual:Str}{params:Arguments}{body:List Stmt}{scope:Scope}{dV kV doc pm cdv ct oc:Value}{an od:Option Addr}
  {osl:Array (Option Value)} {N ps:List Str} {sp:Sp} (lk:K.lookup f=some ⟨oc,od,.func (yd name qual params body scope dV kV doc pm an cdv ct),osl⟩) (hcd:qai K cdv qual=true) (S:FnScope N ps scope)
  (len:∀vs H Q E,sp vs H Q E->vs.length=ps.length)
  (hbody:∀(A:Around) (outer:List Env) (s:Shared) (H:Hp) (vs:List V) (Q:VK) (E:XK),Room k (A.deeper (envOfC qual scope s.heap.objs.size f cdv))->sp vs H Q E->
   ∃t,Wk (W3 CX P w K mg base N qual scope f cdv A outer s H E) body t/\t { nx:=fun _ H'=>Q .non H',rt:=Q } (start N vs) H) :
  FnOk P w K mg base CX (k+1) f (yd name qual params body scope dV kV doc pm an cdv ct) ps sp:=by
 refine⟨len,fun A outer s H args us vs Q E hr e0 hb r hsp=>?_⟩;have hl:=len _ _ _ _ hsp;have KX:K.In s.heap:=e0.mod.kin.keeps fun b o e=>(e0.bs b o e).1;have lim:s.heap.NoLimit:=e0.mod.nolimit.keeps fun b o e=>(e0.bs b o e).1;have hkind:∀y∈ps.zip us,scope.names.lookup y.1=some .local∨(scope.names.lookup y.1=some .cell/\((cellsFrom (s.heap.objs.size+1) scope.names []).lookup y.1).isSome=true):=fun⟨n,v⟩ hy=>by
  rcases S.par n (qaH hy).1 with q | q
  ·exact .inl q
  ·exact .inr ⟨q,qbu _ _ _ (.inl q)⟩
 refine codeAny_call_function hr.depth (KX _ _ lk) rfl S.co S.gen rfl (PySem.W.codeRec_of KX hcd) (hb _ _ _ _ ?_);refine wpAny_newFunctionEnv_cells S.kind hkind fun env he s1 x=>?_;subst he;refine⟨lim.keeps x.toInCall.keep,codeAny_func ?_⟩;obtain⟨t,ht,hq⟩:=hbody A outer s H vs Q E (hr.deeper _) hsp;have I:Inv (W3 CX P w K mg base N qual scope f cdv A outer s H E) [] (start N vs) H s1:=Zji S hr.hd e0 hl r x;refine wpAny_mono (ht [] s1 (start N vs) H _ I hq) (fun fl s' hs=>?_) fun e s' hs=>hs;have fin:∀{σ':St} {H':Hp} {v:V} {u:Value},Inv (W3 CX P w K mg base N qual scope f cdv A outer s H E) [] σ' H' s'->ZC v u->Q v H'->CE outer P w H s Q u s':=
  fun {σ' H' v u} J rv q=>⟨v,H',J.os,J.bare,J.base,J.hok,rv,q⟩
 cases fl with
 | ret u=>
  obtain⟨v,σ',H',J,rv,q⟩:=hs;exact fin J rv q
 | next=>
  obtain⟨σ',H',J,q⟩:=hs;exact fin (v:=V.non) (u:=ze) J rfl q
 | brk=>
  obtain⟨_,_,_,q⟩:=hs;exact zI q
 | cont=>
  obtain⟨_,_,_,q⟩:=hs;exact zI q
end L2
namespace L2
section
variable {X:Cx}{x:Str}{p pos:Pos}{e:Expr}{es:List Expr}{t:TA}{id T:String}{r:List V->Hp->VK->Prop}
noncomputable def B1 (r:List V->Hp->VK->Prop)(t:TA):TE:=fun σ H Q=>t σ H fun vs H1=>r vs H1 Q
theorem Zbr (hc:XT X (.builtin id) r)(hg:Gl X x)(hm:X.mg x=none)(hv:bootBuiltins x=some (.builtin id))(ha:PA X (e::es) t)(hn:x≠"__name__":=by decide)(hdb:(x==("__debug__" : Str))=false:=by decide)
  (he:starEach (e::es) X.env=(false,eval e X.env)::starEach es X.env:=by rfl) (hpl:(backTo pos (starEach es X.env)).any (·.1)=false:=by rfl):PE X (.Call (.Name x p) (e::es) [] pos) (B1 r t):=by
 intro jJ s σ H Q I h;refine wpAny_Call_Name_kw (V5 I hg hm hv ?_ hn hdb);exact PyProof.Rows.callWith_builtin1 (ZE (ha pos jJ s σ H _ I h) fun us s1 ⟨vs,H1,I1,r1,q1⟩=>hc jJ s1 σ H1 vs us Q I1 r1 q1) he hpl
theorem ZbR (hc:XT X (.type T) r)(hg:Gl X x)(hm:X.mg x=none)(hv:bootBuiltins x=some (.type T))(ha:PA X (e::es) t)(hn:x≠"__name__":=by decide)(hdb:(x==("__debug__" : Str))=false:=by decide)
  (he:starEach (e::es) X.env=(false,eval e X.env)::starEach es X.env:=by rfl) (hpl:(backTo pos (starEach es X.env)).any (·.1)=false:=by rfl):PE X (.Call (.Name x p) (e::es) [] pos) (B1 r t):=by
 intro jJ s σ H Q I h;refine wpAny_Call_Name_kw (V5 I hg hm hv ?_ hn hdb);exact yq (ZE (ha pos jJ s σ H _ I h) fun us s1 ⟨vs,H1,I1,r1,q1⟩=>hc jJ s1 σ H1 vs us Q I1 r1 q1) he hpl
end
end L2
namespace HT
noncomputable def lexLt:List Int->List Int->Bool
 | [],[]=>false
 | [],_::_=>true
 | _::_,[]=>false
 | x::xs,y::ys=>if x=y then lexLt xs ys else decide (x<y)
theorem Zg2 (x y:Int)(xs ys:List Int):lexLt (x::xs) (y::ys)=if x=y then lexLt xs ys else decide (x<y):=rfl
theorem ZdL:lexLt [] []=false:=rfl
theorem ZcP (y:Int)(ys:List Int):lexLt [] (y::ys)=true:=rfl
theorem ZcQ (x:Int)(xs:List Int):lexLt (x::xs) []=false:=rfl
theorem ZkO (A:Around)(s:Shared)(a:Int)(t:Tok)(c:Int)(u:Tok):∃e,yP A s (.int a t) (.int c u) e/\(e=true↔a=c):=
 ⟨(a==c),yP.int_int a t c u,by simp⟩
theorem ZkP (A:Around)(s:Shared)(a:Int)(t:Tok)(c:Int)(u:Tok)(prog:Program)(w:World)(E:Value->Shared->Prop)(Q:Value->Shared->Prop)(h:Q (.bool (decide (a<c))) s) :
  wpAny (model prog w) A (richCompare .Lt (.int a t) (.int c u)) Q E s:=
 (PyProof.Rows.lt_int h:wpAny (model prog w) A (compareOp .Lt (.int a t) (.int c u)) Q E s)
section
open PySem.SeqAt
open PySem.AutoSeq1 (wpAny_loadPart')
open PySem.MeetsSeq PySem.MeetsSeq2 PySem.MeetsSeq3
theorem ZdM (l b:Addr)(items items2:Array Value)(n n2:Nat)(dd dd2:Option Addr)(sl sl2:Array (Option Value))(ns ms:List Int)(hi:IntsAre items.toList ns)(hj:IntsAre items2.toList ms) :
  Meets (Builtin.«tuple.__lt__» ⟨[.ref l,.ref b],[]⟩)
   (fun _ R s=>s.heap.get? l=some { cls:=.type "tuple",dict:=dd,data:=.seq items n,slots:=sl }/\s.heap.get? b=some { cls:=.type "tuple",dict:=dd2,data:=.seq items2 n2,slots:=sl2 }/\
    R (.ok (.ret (.bool (lexLt ns ms)))) s):=
 .of_wp fun prog w A R s h=>by
  obtain⟨hp,g,d,tk,os⟩:=s;obtain⟨hl,hb,h⟩:=h;have f2:=yC;have z1:items.size=ns.length:=by rw[<-hi.length];simp
  have z2:items2.size=ms.length:=by rw[<-hj.length];simp
  wp_walk using wpAny_loadPart' hl,wpAny_loadPart' hb,wpAny_forIn_list _ (fun rest b s'=>b.1=none/\s'=⟨hp,g,d,tk,os⟩/\∃(vs ws:List Value) (ns' ms':List Int),rest=vs.zip ws/\
   IntsAre vs ns'/\IntsAre ws ms'/\ns'.length+items2.size=ms'.length+items.size/\R (.ok (.ret (.bool (lexLt ns' ms')))) ⟨hp,g,d,tk,os⟩) _
  case turn=>
   rintro⟨y,x⟩ rest b s' ⟨hb',rfl,vs,ws,ns',ms',hz,hvi,hwi,jS,hR⟩
   cases hvi with
   | nil=>rw[List.zip_nil_left] at hz;cases hz
   | cons a t hvi'=>
    cases hwi with
    | nil=>rw[List.zip_nil_right] at hz;cases hz
    | cons c u hwi'=>
     rw[List.zip_cons_cons] at hz;injection hz with hyx hrest;injection hyx with hy hx;subst hy hx;rw[Zg2] at hR;simp only[qR] at jS;obtain⟨e,he,hiff⟩:=ZkO A.in1 ⟨hp,g,d,tk,os⟩ a t c u;refine wpAny_bind (he prog w _ _ ?_)
     cases e with
     | true=>
      rw[if_pos (hiff.mp rfl)] at hR
      wp_walk
      exact⟨rfl,rfl,_,_,_,_,hrest,hvi',hwi',by omega,hR⟩
     | false=>
      rw[if_neg (fun q=>absurd (hiff.mpr q) zX)] at hR;have hri:=ZkP A.in1 ⟨hp,g,d,tk,os⟩ a t c u prog w
      wp_walk using hri
      exact⟨_,rfl,by simpa using hR⟩
  case fin=>
   rintro⟨b1,b2⟩ s' ⟨hb',rfl,vs,ws,ns',ms',hz,hvi,hwi,jS,hR⟩;simp only at hb';subst hb';have hv:lexLt ns' ms'=decide (items.size<items2.size):=by
    cases hvi with
    | nil=>
     cases hwi with
     | nil=>
      simp only[yt] at jS;rw[ZdL];exact(decide_eq_false (by omega)).symm
     | cons c u hw=>
      simp only[yt,qR] at jS;rw[ZcP];exact(decide_eq_true (by omega)).symm
    | cons a t hv=>
     cases hwi with
     | nil=>
      simp only[yt,qR] at jS;rw[ZcQ];exact(decide_eq_false (by omega)).symm
     | cons c u hw=>
      rw[List.zip_cons_cons] at hz
      cases hz
   rw[hv] at hR
   wp_walk
   exact⟨_,rfl,by simpa[Builtin.Tuple.tupleCompareSizes] using hR⟩
  case h=>
   exact⟨rfl,rfl,items.toList,items2.toList,ns,ms,rfl,hi,hj,by omega,h⟩
end
section
variable {prog:Program}{w:World}{A:Around}{E:Value->Shared->Prop}{s:Shared}
theorem lt_tupInts {l b:Addr}{items items2:Array Value}{ns ms:List Int}{Q:Value->Shared->Prop}(hl:IsTup s.heap l items)(hb:IsTup s.heap b items2)(hi:IntsAre items.toList ns)(hj:IntsAre items2.toList ms)
  (hu:A.units<cLine) (h:Q (.bool (lexLt ns ms)) s):wpAny (model prog w) A (compareOp .Lt (.ref l) (.ref b)) Q E s:=by
 obtain⟨⟨cls,dd,data,sl⟩,ho,hc,n,hd⟩:=id hl;obtain⟨⟨cls2,dd2,data2,sl2⟩,ho2,hc2,n2,hd2⟩:=id hb;simp only at hc hd hc2 hd2;subst hc hd hc2 hd2;exact richCompare_meets_room (op:=.Lt) ⟨_,ho,rfl⟩ ⟨_,ho2,rfl⟩ PySem.F.slot_tuple_lt PySem.F.entry_tuple_lt (PySem.F.args_tuple_lt_2 _ _) (ZdM l b items items2 n n2 dd dd2 sl sl2 ns ms hi hj)
  ⟨ho,ho2,show zH (lexLt ns ms)≠qbF/\Q (.bool (lexLt ns ms)) s from⟨(fun x=>nomatch x),h⟩⟩ hu
theorem cat_tup {t b:Addr}{vs ws:List Value}{Q:Value->Shared->Prop}(ht:IsTup s.heap t vs.toArray)(hb:IsTup s.heap b ws.toArray)(hv:vs≠[])
  (h1:ws=[]->Q (.ref t) s) (h2:ws≠[]->Q (.ref s.heap.objs.size) { s with heap:=s.heap.push { cls:=.type "tuple",data:=.seq (vs++ws).toArray } })
  (hsz:vs.length+ws.length<=sizeLine):wpAny (model prog w) A (binaryOp .Add (.ref t) (.ref b)) Q E s:=by
 obtain⟨⟨cls,dd,data,sl⟩,ho,hc,n,hd⟩:=id ht;obtain⟨⟨cls2,dd2,data2,sl2⟩,ho2,hc2,n2,hd2⟩:=id hb;simp only at hc hd hc2 hd2;subst hc hd hc2 hd2;have e:vs.toArray++ws.toArray=(vs++ws).toArray:=by simp
 by_cases hw:ws=[]
 ·exact concat_meets ⟨_,ho,rfl⟩ ⟨_,ho2,rfl⟩ noFill_tuple_add seq_tuple_add qaw qal (qac _ _)
   (tuple_addW1 t b vs.toArray ws.toArray n n2 dd dd2 sl sl2 (by simpa using hv) (by simp[hw])) ⟨ho,ho2,h1 hw⟩
 ·refine concat_meets ⟨_,ho,rfl⟩ ⟨_,ho2,rfl⟩ noFill_tuple_add seq_tuple_add qaw qal (qac _ _)
   (tuple_addW2 t b vs.toArray ws.toArray n n2 dd dd2 sl sl2 (by simpa using hv) (by simpa using hw) (by rw[qC,qC];exact hsz)) ⟨ho,ho2,?_⟩
  rw[e];exact h2 hw
noncomputable def sIx (n d:Nat):Option Int->Nat
 | none=>d
 | some v=>if v<0 then (v+(n:Int)).toNat else min v.toNat n
theorem sIx_none (n d:Nat):sIx n d none=d:=rfl
theorem sIx_nat (n d k:Nat):sIx n d (some (k:Int))=min k n:=by
 show(if (k:Int)<0 then ((k:Int)+(n:Int)).toNat else min (k:Int).toNat n)=min k n;rw[if_neg (by omega),yi]
theorem ZoO (n d:Nat)(hd:d<=n)(o:Option Int):sIx n d o<=n:=by
 cases o with
 | none=>exact hd
 | some v=>
  show(if v<0 then (v+(n:Int)).toNat else min v.toNat n)<=n;by_cases hv:v<0
  ·rw[if_pos hv];omega
  ·rw[if_neg hv];exact Nat.min_le_right _ _
theorem Zie (v:Int)(n d:Nat):(if v<0 then max (v+(n:Int)) 0 else min v (n:Int))=((sIx n d (some v):Nat):Int):=by
 show(if v<0 then max (v+(n:Int)) 0 else min v (n:Int))=(((if v<0 then (v+(n:Int)).toNat else min v.toNat n):Nat):Int);by_cases hv:v<0
 ·simp only[if_pos hv];omega
 ·simp only[if_neg hv];omega
theorem Zg3 (lo hi:Option Int)(n:Nat):y4 lo hi 1 (n:Int)=(((sIx n 0 lo:Nat):Int),((sIx n n hi:Nat):Int)):=by
 have h1:¬((1:Int)<0):=by omega
 unfold y4;simp only[h1,if_false];refine Prod.ext ?_ ?_
 ·cases lo with
  | none=>rfl
  | some v=>exact Zie v n 0
 ·cases hi with
  | none=>rfl
  | some v=>exact Zie v n n
theorem Zg4 (i j:Nat):yA (i:Int) (j:Int) 1=j-i:=by
 unfold yA;have h1:(1:Int) > 0:=by omega
 simp only[h1,if_true,Int.ediv_one];split <;> omega
theorem ZcR {v:Value}{o:Option Int}{Q:Option Int->Shared->Prop}(p:IsPart v o)(h:Q o s):wpAny (model prog w) A (Builtin.Slice.slicePartIndex v) Q E s:=by
 cases p with
 | none=>exact slicePart_none h
 | int i t=>exact slicePart_int h
theorem ZaF {sl:Addr}{vl vu:Value}{lo hi:Option Int}{n:Nat}{Q:Int×Int×Nat->Shared->Prop}(hs:s.heap.IsSliceOf sl vl vu .none)(pl:IsPart vl lo)(pu:IsPart vu hi)
  (h:Q (((sIx n 0 lo:Nat):Int),1,sIx n n hi-sIx n 0 lo) s):wpAny (model prog w) A (qaV (.ref sl) (pure (n:Int))) Q E s:=by
 obtain⟨os,hos,hcs,hds⟩:=id hs;unfold qaV Builtin.Slice.sliceFields;refine wpAny_bind (wpAny_bind (wpAny_field hos hds (x:=vl) rfl (wpAny_bind (wpAny_field hos hds (x:=vu) rfl (wpAny_bind (wpAny_field hos hds (x:=.none) rfl (wpAny_pure ?_)))))));refine wpAny_bind (slicePart_none ?_);show wpAny _ _ (if ((1:Int)==0)=true then _ else _) _ _ s;rw[if_neg (by decide)];refine wpAny_bind (ZcR pl (wpAny_bind (ZcR pu (wpAny_bind (wpAny_pure ?_)))));show wpAny _ _ (match y4 lo hi 1 (n:Int) with | (lo,hi)=>pure (lo,(1:Int),yA lo hi 1)) _ _ s;rw[Zg3 lo hi n];show wpAny _ _ (pure (((sIx n 0 lo:Nat):Int),(1:Int),yA ((sIx n 0 lo:Nat):Int) ((sIx n n hi:Nat):Int) 1)) _ _ s;rw[Zg4];exact wpAny_pure h
theorem ZkQ (xs:Array Value)(i k:Nat):((qp k).filterMap fun(m:Nat)=>xs[((i:Int)+(m:Int)*1).toNat]?).toArray=((xs.toList.drop i).take k).toArray:=by
 have e:(fun(m:Nat)=>xs[((i:Int)+(m:Int)*1).toNat]?)=fun m=>xs[i+m]?:=by
  funext m;have:((i:Int)+(m:Int)*1).toNat=i+m:=by omega
  rw[this]
 rw[e];have:=pick_run xs i k;rw[List.filterMap_map] at this;have e2:((fun x=>xs[x]?)∘fun x=>i+x)=fun m=>xs[i+m]?:=rfl;rw[e2] at this;rw[this]
theorem getItem_tuple_cut {t sl:Addr}{items:Array Value}{vl vu:Value}{lo hi:Option Int}{Q:Value->Shared->Prop}(ht:IsTup s.heap t items)(hs:s.heap.IsSliceOf sl vl vu .none)(pl:IsPart vl lo)(pu:IsPart vu hi)
  (hw:¬(sIx items.size 0 lo=0/\sIx items.size items.size hi=items.size))
  (h:Q (.ref s.heap.objs.size) { s with heap:=s.heap.push { cls:=.type "tuple",data:=.seq ((items.toList.drop (sIx items.size 0 lo)).take (sIx items.size items.size hi-sIx items.size 0 lo)).toArray } })
  (hsz:items.size<=sizeLine):wpAny (model prog w) A (getItem (.ref t) (.ref sl)) Q E s:=by
 have htake:sizeOk (.seq ((items.toList.drop (sIx items.size 0 lo)).take (sIx items.size items.size hi-sIx items.size 0 lo)).toArray):=by
  show((items.toList.drop (sIx items.size 0 lo)).take (sIx items.size items.size hi-sIx items.size 0 lo)).toArray.size<=sizeLine;rw[qC,zE,yQ,za];omega
 have hj:sIx items.size items.size hi<=items.size:=ZoO _ _ (qw _) hi;obtain⟨os,hos,hcs,hds⟩:=id hs;have hTs:s.TypeIs (.ref sl) "slice":=⟨os,hos,hcs⟩;unfold getItem
 try with_reducible refine wpAny_holding ?_
 first | refine wpAny_bind (wpAny_pure ?_) | skip
 refine wpAny_bind (wpAny_sequenceKey ht.typeIs (by decide) ?_);refine wpAny_bind (wpAny_callSpecial?_slot (name:=qE "__getitem__") ht.typeIs zB
  (wpAny_call_entry zB ht.typeIs entry_tuple_getitem ?_ (args_tuple_getitem _ _)))
 show wpAny _ _ (qaW (.ref t) >>= _) _ _ s;refine wpAny_bind (tupleItemsOf_ ht ?_);refine wpAny_bind (wpAny_typeOf hTs ?_);rw[if_pos (by decide)];refine wpAny_bind (ZaF hs pl pu ?_);have hno:¬((((sIx items.size 0 lo:Nat):Int)==0&&(1:Int)==1&&(sIx items.size items.size hi-sIx items.size 0 lo)==items.size)=true):=by
  intro q;rw[qX,qX] at q;have q1:((sIx items.size 0 lo:Nat):Int)=0:=eq_of_beq q.1.1;have q2:sIx items.size items.size hi-sIx items.size 0 lo=items.size:=eq_of_beq q.2;exact hw ⟨by omega,by omega⟩
 show wpAny _ _ (if (((sIx items.size 0 lo:Nat):Int)==0&&(1:Int)==1&&(sIx items.size items.size hi-sIx items.size 0 lo)==items.size)=true then _ else _) _ _ s;rw[if_neg hno,ZkQ]
 first
  | exact wpAny_bind (m:=yD _) (wpAny_newObj_type (wpAny_pure ⟨_,rfl,wpAny_pure h⟩) htake)
  | exact wpAny_bind (m:=yD _) (wpAny_newObj_type (wpAny_bind (wpAny_pure (wpAny_pure ⟨_,rfl,wpAny_pure h⟩))) htake)
  | exact wpAny_bind (wpAny_bind (m:=yD _) (wpAny_newObj_type (wpAny_pure (wpAny_pure ⟨_,rfl,wpAny_pure h⟩)) htake))
  | exact wpAny_bind (wpAny_bind (m:=yD _) (wpAny_newObj_type (wpAny_pure ⟨_,rfl,wpAny_pure h⟩) htake))
end
end HT
namespace L2
noncomputable abbrev TO:=St->Hp->(Option Int->Hp->Prop)->Prop
noncomputable def PO (X:Cx)(e:Option Expr)(t:TO):Prop:=
 ∀(jJ:List (Addr×Obj)) (s:Shared) (σ:St) (H:Hp) (Q:Option Int->Hp->Prop),Inv X jJ σ H s->t σ H Q->
  wpAny (model X.prog X.w) X.A (evalPart e X.env) (fun u s'=>∃o H',Inv X jJ σ H' s'/\IsPart u o/\Q o H') X.xe s
noncomputable def ZmQ:TO:=fun _ H Q=>Q none H
noncomputable def ZpL (t:TE):TO:=fun σ H Q=>t σ H fun x H1=>∃i,x=.int i/\Q (some i) H1
theorem Ve {ns:List Int}:∀{us:List Value},Zw (ns.map V.int) us->IntsAre us ns:=by
 induction ns with
 | nil=>intro us r;rw[qaI] at r;cases r;exact .nil
 | cons n ns ih=>
  intro us r;rw[zb] at r
  cases r with
  | cons r1 r2=>
   obtain⟨t,e⟩:=r1;subst e;exact .cons n t (ih r2)
section
variable {X:Cx}{e:Expr}{te:TE}{lo hi:Option Expr}{tl th:TO}{pos p2:Pos}
theorem ZmR:PO X none ZmQ:=by
 intro jJ s σ H Q I h;rw[evalPart_none];exact wpAny_pure ⟨none,H,I,.none,h⟩
theorem ZmS (h:PE X e te):PO X (some e) (ZpL te):=by
 intro jJ s σ H Q I hw;rw[evalPart_some];refine ZE (h jJ s σ H _ I hw) fun u s1 ⟨x,H1,I1,r1,q1⟩=>?_;obtain⟨i,rfl,q⟩:=q1;obtain⟨t,rfl⟩:=r1;exact⟨some i,H1,I1,.int i t,q⟩
noncomputable def Uy (X:Cx)(r:V->Option Int->Option Int->Hp->VK->Prop):Prop:=
 ∀(jJ:List (Addr×Obj)) (s:Shared) (σ:St) (H:Hp) (x:V) (v vl vu:Value) (lo hi:Option Int) (sl:Addr) (Q:VK),Inv X jJ σ H s->ZC x v->s.heap.IsSliceOf sl vl vu .none->IsPart vl lo->IsPart vu hi->r x lo hi H Q->
  ∃T id,typeLookup (.type T) "__getitem__" = pure (some (.builtin id))/\s.TypeIs v T/\wpAny (model X.prog X.w) X.A (getItem v (.ref sl)) (EP X jJ σ Q) X.xe s
theorem Uy.or {r r':V->Option Int->Option Int->Hp->VK->Prop}(h:Uy X r)(h':Uy X r'):Uy X (fun x lo hi H Q=>r x lo hi H Q∨r' x lo hi H Q):=by
 intro jJ s σ H x v vl vu lo hi sl Q I rx hs pl pu q;rcases q with q | q
 ·exact h jJ s σ H x v vl vu lo hi sl Q I rx hs pl pu q
 ·exact h' jJ s σ H x v vl vu lo hi sl Q I rx hs pl pu q
noncomputable def tSl (r:V->Option Int->Option Int->Hp->VK->Prop)(te:TE)(tl th:TO):TE:=fun σ H Q=>te σ H fun x H1=>tl σ H1 fun l H2=>th σ H2 fun u H3=>r x l u H3 Q
theorem ZkR {r:V->Option Int->Option Int->Hp->VK->Prop}(hr:Uy X r)(he:PE X e te)(hl:PO X lo tl)(hu:PO X hi th):PE X (.Subscript e (.Slice lo hi none p2) pos) (tSl r te tl th):=by
 intro jJ s σ H Q I h;refine Subscript_ (ZE (he jJ s σ H _ I h) fun v s1 ⟨x,H1,I1,r1,q1⟩=>?_);refine wpAny_Slice (ZE (hl jJ s1 σ H1 _ I1 q1) fun vl s2 ⟨l,H2,I2,pl,q2⟩=>ZE (hu jJ s2 σ H2 _ I2 q2) fun vu s3 ⟨u,H3,I3,pu,q3⟩=>?_);rw[evalPart_none];refine wpAny_pure ?_;have I4:Inv X jJ σ H3 { s3 with heap:=s3.heap.push { cls:=.type "slice",data:=.fields #[vl,vu,.none] } }:=I3.kept (t':=s3.toks) fun b ob q=>qq _ q;obtain⟨T,id,hT,ht,hg⟩:=hr jJ { s3 with heap:=s3.heap.push { cls:=.type "slice",data:=.fields #[vl,vu,.none] } } σ H3 x v vl vu l u s3.heap.objs.size Q I4 r1 (Heap.IsSliceOf.new ..) pl pu q3;show wpAny (model X.prog X.w) X.A (subscriptTail e (.Slice lo hi none p2) v (.ref s3.heap.objs.size)) (EP X jJ σ Q) X.xe { s3 with heap:=s3.heap.push { cls:=.type "slice",data:=.fields #[vl,vu,.none] } };exact tail_any (ops:=[.ref s3.heap.objs.size,v]) ht hT hg (by with_unfolding_all rfl)
noncomputable def VL (xs:List V)(lo hi:Option Int):List V:=(xs.drop (HT.sIx xs.length 0 lo)).take (HT.sIx xs.length xs.length hi-HT.sIx xs.length 0 lo)
theorem Zb9 (xs:List V)(lo hi:Option Int):(VL xs lo hi).length<=xs.length:=by
 unfold VL;rw[zE,yQ];omega
noncomputable def rSlT (K:qk):V->Option Int->Option Int->Hp->VK->Prop:=fun x lo hi H Q=>∃a xs,x=.ref a/\ZU K H a xs/\
 ¬(HT.sIx xs.length 0 lo=0/\HT.sIx xs.length xs.length hi=xs.length)/\∀p,H p=none->Q (.ref p) (Zm H p (.tup (VL xs lo hi)))
theorem ZoP:Uy X (rSlT X.K):=by
 intro jJ s σ H x v vl vu lo hi sl Q I rx hs pl pu h;obtain⟨a,xs,rfl,hx,hw,q⟩:=h
 cases rx
 obtain⟨jL,r,ht,hz⟩:=I.tuple hx;have jS:jL.toArray.size=xs.length:=by rw[qC];exact r.length.symm
 refine⟨"tuple",_,zB.lookup,ht.typeIs,?_⟩;refine HT.getItem_tuple_cut ht hs pl pu (by rw[jS];exact hw) ?_ (by rw[jS];exact hz);rw[jS];refine⟨.ref s.heap.objs.size,_,I.laid (t':=s.toks) (o:=.tup (VL xs lo hi)) (fun b ob q=>qq _ q) (qw _) ?_,rfl,q _ (I.hok.fresh (qw _))⟩;exact⟨qZ (Zb9 xs lo hi) hz,_,(r.drop (HT.sIx xs.length 0 lo)).take (HT.sIx xs.length xs.length hi-HT.sIx xs.length 0 lo),qbo _ _⟩
noncomputable def rLtT (K:qk):R2:=fun x y H Q=>∃a b ns ms,x=.ref a/\y=.ref b/\ZU K H a (ns.map V.int)/\ZU K H b (ms.map V.int)/\Q (.bl (HT.lexLt ns ms)) H
theorem ZoQ (hu:X.A.units<cLine):Yd X (compareOp .Lt) (rLtT X.K):=by
 intro jJ s σ H x y v u Q I rx ry h;obtain⟨a,b,ns,ms,rfl,rfl,ha,hb,q⟩:=h
 cases rx
 cases ry
 obtain⟨jL,r1,p1,_⟩:=I.tuple ha;obtain⟨ke,r2,p2,_⟩:=I.tuple hb;have i1:IntsAre jL.toArray.toList ns:=Ve r1;have i2:IntsAre ke.toArray.toList ms:=Ve r2;exact HT.lt_tupInts p1 p2 i1 i2 hu ⟨.bl (HT.lexLt ns ms),H,I,rfl,q⟩
noncomputable def ZpM (K:qk):R2:=fun x y H Q=>∃a b xs ys,x=.ref a/\y=.ref b/\ZU K H a xs/\ZU K H b ys/\xs≠[]/\xs.length+ys.length<=sizeLine/\
 (ys=[]->Q (.ref a) H)/\(ys≠[]->∀p,H p=none->Q (.ref p) (Zm H p (.tup (xs++ys))))
theorem Zw.nil_iff {xs:List V}{us:List Value}(r:Zw xs us):us=[]↔xs=[]:=by
 cases r with
 | nil=>simp
 | cons _ _=>simp
theorem ZmT:Yd X (binaryOp .Add) (ZpM X.K):=by
 intro jJ s σ H x y v u Q I rx ry h;obtain⟨a,b,xs,ys,rfl,rfl,ha,hb,hx,hz,q1,q2⟩:=h
 cases rx
 cases ry
 obtain⟨jL,r1,p1,_⟩:=I.tuple ha;obtain⟨ke,r2,p2,_⟩:=I.tuple hb;refine HT.cat_tup p1 p2 (fun z=>hx (r1.nil_iff.mp z)) (fun z=>⟨.ref a,H,I,rfl,q1 (r2.nil_iff.mp z)⟩) (fun z=>?_) (by rw[<-r1.length,<-r2.length];exact hz);refine⟨.ref s.heap.objs.size,_,I.laid (t':=s.toks) (o:=.tup (xs++ys)) (fun b ob q=>qq _ q) (qw _) ?_,rfl,q2 (fun w=>z (r2.nil_iff.mpr w)) _ (I.hok.fresh (qw _))⟩;exact⟨by rw[qY];exact hz,_,r1.append r2,qbo _ _⟩
end
end L2
namespace L2
noncomputable def Wd (n:Nat)(i:Int):Option Nat:=if 0<=i then (if i<n then some i.toNat else none) else if -(n:Int)<=i then some (i+n).toNat else none
noncomputable def XD {α:Type}(xs:List α)(i:Int):Option α:=(Wd xs.length i).bind fun j=>xs[j]?
theorem Zif {n:Nat}{i:Int}{j:Nat}(h:Wd n i=some j):seqIndex? i n=some j/\j<n/\-(n:Int)<=i/\i<n:=by
 unfold Wd at h;by_cases h0:0<=i
 ·rw[if_pos h0] at h
  by_cases h1:i<n
  ·rw[if_pos h1] at h
   have e:i.toNat=j:=zi h;exact⟨by rw[seqIndex_of h0 h1,e],by omega,by omega,h1⟩
  ·rw[if_neg h1] at h;cases h
 ·rw[if_neg h0] at h
  by_cases h1:-(n:Int)<=i
  ·rw[if_pos h1] at h
   have e:(i+n).toNat=j:=zi h;exact⟨by rw[seqIndex_neg (by omega) h1,e],by omega,h1,by omega⟩
  ·rw[if_neg h1] at h;cases h
theorem Zig {α:Type}{xs:List α}{i:Int}{v:α}(h:XD xs i=some v):∃j,seqIndex? i xs.length=some j/\xs[j]?=some v/\j<xs.length/\-(xs.length:Int)<=i/\i<xs.length:=by
 unfold XD at h
 cases e:Wd xs.length i with
 | none=>rw[e] at h;cases h
 | some j=>
  rw[e] at h;obtain⟨h1,h2,h3,h4⟩:=Zif e;exact⟨j,h1,h,h2,h3,h4⟩
theorem WC {α:Type}{xs:List α}{j:Nat}{v:α}(h:xs[j]?=some v):XD xs (j:Int)=some v:=by
 have hj:j<xs.length:=(qL.mp h).1;have e:Wd xs.length (j:Int)=some j:=by
  unfold Wd;rw[if_pos (by omega),if_pos (by omega)];simp
 unfold XD;rw[e];exact h
noncomputable def Zih (b:Expr):Prop:=∀o i,subscripted b false o i=operate [o,i] (getItem o i)
noncomputable def Uz (X:Cx)(r:R2):Prop:=
 ∀(value slice:Expr) (jJ:List (Addr×Obj)) (s:Shared) (σ:St) (H:Hp) (x y:V) (v u:Value) (Q:VK),Inv X jJ σ H s->ZC x v->ZC y u->r x y H Q->
  subscripted slice false v u=operate [v,u] (getItem v u)->wpAny (model X.prog X.w) X.A (subscriptTail value slice v u) (EP X jJ σ Q) X.xe s
noncomputable def MtR (X:Cx)(id:String)(r:V->List V->Hp->VK->Prop):Prop:=
 ∀(jJ:List (Addr×Obj)) (s:Shared) (σ:St) (H:Hp) (x:V) (xs:List V) (v:Value) (us:List Value) (Q:VK),Inv X jJ σ H s->ZC x v->Zw xs us->r x xs H Q->
  wpAny (model X.prog X.w) X.A (call (.builtin id) (v::us)) (EP X jJ σ Q) X.xe s
section
variable {X:Cx}{a b:Expr}{ta tb:TE}{pos:Pos}
theorem Uz.or {r r':R2}(h:Uz X r)(h':Uz X r'):Uz X (fun x y H Q=>r x y H Q∨r' x y H Q):=by
 intro value slice jJ s σ H x y v u Q I rx ry q hs;rcases q with q | q
 ·exact h value slice jJ s σ H x y v u Q I rx ry q hs
 ·exact h' value slice jJ s σ H x y v u Q I rx ry q hs
theorem Zii {r:R2}(hr:Uz X r)(ha:PE X a ta)(hb:PE X b tb)(hs:Zih b):PE X (.Subscript a b pos) (YD r ta tb):=by
 intro jJ s σ H Q I h;exact Subscript_ (binT ha hb I h fun v u s2 x y H2 I2 rx ry q=>hr a b jJ s2 σ H2 x y v u Q I2 rx ry q (hs _ _))
noncomputable def rIxL (K:qk):R2:=fun x y H Q=>∃p xs i v,x=.ref p/\y=.int i/\ZH K H p xs/\XD xs i=some v/\Q v H
noncomputable def rIxT (K:qk):R2:=fun x y H Q=>∃p xs i v,x=.ref p/\y=.int i/\ZU K H p xs/\XD xs i=some v/\Q v H
theorem Zcx:Uz X (rIxL X.K):=by
 intro value slice jJ s σ H x y v u Q I rx ry h hs;obtain⟨p,xs,i,z,rfl,rfl,hq,he,q⟩:=h
 cases rx
 obtain⟨t,rfl⟩:=ry;obtain⟨jL,r,pl,hz⟩:=I.list hq;obtain⟨j,h1,h2,h3,h4,h5⟩:=Zig he;obtain⟨w,ew,rw'⟩:=r.get h2;have hl:=r.length;have hn:=BC;have fin:EP X jJ σ Q w s:=⟨z,H,I,rw',q⟩;by_cases h0:0<=i
 ·have hj:i.toNat=j:=by
   rw[seqIndex_of h0 h5] at h1;exact zi h1
  exact item_listR pl.isList h0 (by omega) (by rw[hj];simpa using ew) fin hs
 ·have hj:(i+(jL.toArray.size:Int)).toNat=j:=by
   rw[seqIndex_neg (by omega) h4] at h1;rw[qC,<-hl];exact zi h1
  exact subscriptTail_builtinR (x:=w) pl.isList.typeIs slot_list_getitem.lookup
   (wpAny_getItem_list_neg (Q:=fun r s'=>r=w/\EP X jJ σ Q r s') pl.isList (by omega) (by rw[qC] <;> omega) (by omega) (by rw[hj];simpa using ew) ⟨rfl,fin⟩) hs
theorem ZoR:Uz X (rIxT X.K):=by
 intro value slice jJ s σ H x y v u Q I rx ry h hs;obtain⟨p,xs,i,z,rfl,rfl,hq,he,q⟩:=h
 cases rx
 obtain⟨t,rfl⟩:=ry;obtain⟨jL,r,pl,hz⟩:=I.tuple hq;obtain⟨j,h1,h2,h3,h4,h5⟩:=Zig he;obtain⟨w,ew,rw'⟩:=r.get h2;have hl:=r.length;have hn:=BC;have fin:EP X jJ σ Q w s:=⟨z,H,I,rw',q⟩;exact subscriptTail_builtinR (x:=w) pl.typeIs slot_tuple_getitem.lookup
  (getItem_tuple (j:=j) (Q:=fun r s'=>r=w/\EP X jJ σ Q r s') pl (by omega) (by omega) (by rw[qC,<-hl];exact h1) (by simpa using ew) ⟨rfl,fin⟩) hs
theorem Zg5 (jL:List Value)(n j:Nat)(u:Value):zl (·.setIfInBounds j u) { cls:=.type "list",data:=.seq jL.toArray n } = { cls:=.type "list",data:=.seq (jL.set j u).toArray n }:=by
 simp[zl]
theorem Inv.lst {jJ:List (Addr×Obj)}{σ:St}{H:Hp}{s:Shared}{p:Addr}{xs:List V}(I:Inv X jJ σ H s)(h:H p=some (.lst xs)) :
  ∃(jL:List Value) (n:Nat),Zw xs jL/\s.heap.get? p=some { cls:=.type "list",data:=.seq jL.toArray n }/\xs.length<=sizeLine:=by
 obtain⟨z,jL,n,r,e⟩:=I.hok p _ h;exact⟨jL,n,r,e,z⟩
theorem Inv.lstUpd {jJ:List (Addr×Obj)}{σ:St}{H:Hp}{s:Shared}{p:Addr}{xs ys:List V}{jL its':List Value}{n n':Nat}{f:Obj->Obj}(I:Inv X jJ σ H s)(h:H p=some (.lst xs))
  (ho:s.heap.get? p=some { cls:=.type "list",data:=.seq jL.toArray n }) (hf:f { cls:=.type "list",data:=.seq jL.toArray n } = { cls:=.type "list",data:=.seq its'.toArray n' }) (r:Zw ys its') (hz:ys.length<=sizeLine) (t:Nat) :
  Inv X jJ σ (Zm H p (.lst ys)) { s with heap:=s.heap.update p f,toks:=t }:=by
 have e:(s.heap.update p f).get? p=some { cls:=.type "list",data:=.seq its'.toArray n' }:=by
  rw[qaE f ho (by rw[hf] <;> rfl),hf]
 refine I.write (x:=p) (e:=p) (by rw[h];trivial) (.inl rfl) (fun b u hb q=>(zR _ _ (zm hb)).trans q) ⟨_,e⟩ ?_;exact⟨hz,its',n',r,e⟩
noncomputable def Zn2:V->V->V->Hp->(Hp->Prop)->Prop:=fun o i v H Q=>∃p xs k j,o=.ref p/\i=.int k/\H p=some (.lst xs)/\Wd xs.length k=some j/\Q (Zm H p (.lst (xs.set j v)))
theorem ZfH:PSet X Zn2:=by
 intro jJ s σ H o i v ov iv u Q I ro ri rv h;obtain⟨p,xs,k,j,rfl,rfl,hp,hj,q⟩:=h
 cases ro
 obtain⟨t,rfl⟩:=ri;obtain⟨jL,n,r,ho,hz⟩:=I.lst hp;obtain⟨h1,h2,h3,h4⟩:=Zif hj;have hl:=r.length;have hn:=BC;have I':Inv X jJ σ (Zm H p (.lst (xs.set j v))) { s with heap:=s.heap.update p (zl (·.setIfInBounds j u)) }:=
  I.lstUpd hp ho (Zg5 jL n j u) (r.set rv j) (by rw[List.length_set];exact hz) s.toks
 by_cases h0:0<=k
 ·have hk:k.toNat=j:=by
   rw[seqIndex_of h0 h4] at h1;exact zi h1
  exact PySem.W.ki_setAt ho h0 (by omega) (by rw[qC,<-hl];exact h4) (by rw[hk];exact⟨_,I',q⟩)
 ·have hk:(k+(jL.toArray.size:Int)).toNat=j:=by
   rw[seqIndex_neg (by omega) h3] at h1;rw[qC,<-hl];exact zi h1
  exact PySem.W.ki_setBack ho (by omega) (by rw[qC,<-hl];exact h3) (by omega) (by rw[hk];exact⟨_,I',q⟩)
theorem ZeJ (lo hi:Option Int)(n:Nat):(sliceBounds lo hi none n).1=((HT.sIx n 0 lo:Nat):Int)/\(sliceBounds lo hi none n).2.1=((HT.sIx n n hi:Nat):Int)/\(sliceBounds lo hi none n).2.2=1:=by
 refine⟨?_,?_,rfl⟩
 ·cases lo with
  | none=>simp[sliceBounds,HT.sIx]
  | some i=>
   simp only[sliceBounds,HT.sIx,Option.getD_none,show(1:Int) > 0 by decide,if_true];by_cases h:i<0
   ·simp only[h,if_true] <;> omega
   ·simp only[h,if_false] <;> omega
 ·cases hi with
  | none=>simp[sliceBounds,HT.sIx]
  | some i=>
   simp only[sliceBounds,HT.sIx,Option.getD_none,show(1:Int) > 0 by decide,if_true];by_cases h:i<0
   ·simp only[h,if_true] <;> omega
   ·simp only[h,if_false] <;> omega
theorem ZdN (jL:List Value)(lo hi:Option Int):slicePick jL.toArray lo hi none=((jL.drop (HT.sIx jL.length 0 lo)).take (HT.sIx jL.length jL.length hi-HT.sIx jL.length 0 lo)).toArray:=by
 obtain⟨h1,h2,h3⟩:=ZeJ lo hi jL.toArray.size;unfold slicePick;rw[h1,h2,h3];simp only[sliceRange_one,pick_run,qC] <;> rfl
noncomputable def rSlL (K:qk):V->Option Int->Option Int->Hp->VK->Prop:=fun x lo hi H Q=>∃a xs,x=.ref a/\ZH K H a xs/\∀p,H p=none->Q (.ref p) (Zm H p (.lst (VL xs lo hi)))
theorem ZmU:Uy X (rSlL X.K):=by
 intro jJ s σ H x v vl vu lo hi sl Q I rx hs pl pu h;obtain⟨a,xs,rfl,hx,q⟩:=h
 cases rx
 obtain⟨jL,r,ht,hz⟩:=I.list hx;have jS:=r.length;refine⟨"list",_,slot_list_getitem.lookup,ht.isList.typeIs,?_⟩;refine wpAny_getItem_list_slice ht.isList hs pl pu .none (by simp) ?_ (by rw[qC] <;> omega);rw[ZdN,<-jS];refine⟨.ref s.heap.objs.size,_,I.laid (t':=s.toks) (o:=.lst (VL xs lo hi)) (fun b ob q=>qq _ q) (qw _) ?_,rfl,q _ (I.hok.fresh (qw _))⟩;exact⟨qZ (Zb9 xs lo hi) hz,_,0,(r.drop (HT.sIx xs.length 0 lo)).take (HT.sIx xs.length xs.length hi-HT.sIx xs.length 0 lo),qI _ rfl⟩
theorem Zam:XT X (.builtin "len") (fun xs H Q=>∃p ys,xs=[.ref p]/\(ZH X.K H p ys∨ZU X.K H p ys)/\Q (.int ys.length) H):=by
 intro jJ s σ H xs us Q I r h;obtain⟨p,ys,rfl,hq,q⟩:=h;obtain⟨u,rfl,rx⟩:=XU r
 cases rx
 have hn:=BC;rcases hq with hq | hq
 ·obtain⟨jL,r',pl,hz⟩:=I.list hq
  have jS:=r'.length;exact Calls.call_len_list pl.isList (by simp only[qC] <;> omega) ⟨.int ys.length,H,I.tok _,⟨s.toks+1,by rw[qC,jS]⟩,q⟩
 ·obtain⟨jL,r',pl,hz⟩:=I.tuple hq
  have jS:=r'.length;exact len_tuple pl (by simp only[qC] <;> omega) ⟨.int ys.length,H,I.tok _,⟨s.toks+1,by rw[qC,jS]⟩,q⟩
theorem ZdO:XT X (.type "tuple") (fun xs H Q=>∃p ys,xs=[.ref p]/\((ZH X.K H p ys/\∀l,H l=none->Q (.ref l) (Zm H l (.tup ys)))∨(ZU X.K H p ys/\Q (.ref p) H))):=by
 intro jJ s σ H xs us Q I r h;obtain⟨p,ys,rfl,h⟩:=h;obtain⟨u,rfl,rx⟩:=XU r
 cases rx
 rcases h with⟨hq,q⟩ | ⟨hq,q⟩
 ·obtain⟨jL,r',pl,hz⟩:=I.list hq
  have jS:=r'.length;refine call_tuple_list pl.isList (fun h' kp=>?_) (by simp only[qC] <;> omega);have I1:Inv X jJ σ H { s with heap:=h' }:=I.kept (t':=s.toks) kp;have I2:Inv X jJ σ (Zm H h'.objs.size (.tup ys)) { s with heap:=h'.push { cls:=.type "tuple",data:=.seq jL.toArray } }:=
   I1.laid (t':=s.toks) (fun b o e=>qq _ e) (qw _) (show YC X.prog X.w _ _ _ (.tup ys) from⟨hz,jL,r',qbo _ _⟩)
  exact⟨.ref h'.objs.size,_,I2,rfl,q _ (I1.hok.fresh (qw _))⟩
 ·obtain⟨jL,r',pl,hz⟩:=I.tuple hq
  exact call_tuple_same pl ⟨.ref p,H,I,rfl,q⟩
noncomputable def tyV (K:qk)(T:String)(x:V)(H:Hp):Prop:=match x with
 | .str _=>T = "str"
 | .int _=>T = "int"
 | .ref p=>(T = "list"/\∃xs,ZH K H p xs)∨(T = "tuple"/\∃o,K.lookup p=some o/\o.cls=.type "tuple"/\o.dict=none)∨
   (T = "dict"/\((∃kvs,H p=some (.dK kvs))∨∃kvs,H p=some (.dT kvs)))∨(T = "set"/\∃S n,H p=some (.set S n))
 | _=>False
theorem ZoS {jJ:List (Addr×Obj)}{σ:St}{H:Hp}{s:Shared}{T:String}{x:V}{v:Value}(I:Inv X jJ σ H s)(r:ZC x v)(ty:tyV X.K T x H) :
  s.TypeIs v T/\∀a,v=.ref a->∃ob,s.heap.get? a=some ob/\ob.dict=none:=by
 cases x with
 | str z=>
  obtain⟨t,rfl⟩:=r
  cases (show T = "str" from ty)
  exact⟨typeIs_str s z t,fun _ e=>nomatch e⟩
 | int i=>
  obtain⟨t,rfl⟩:=r
  cases (show T = "int" from ty)
  exact⟨typeIs_int s i t,fun _ e=>nomatch e⟩
 | ref p=>
  cases r
  rcases ty with⟨rfl,xs,hq⟩ | ⟨rfl,o,hk,hc,hd⟩ | ⟨rfl,hk⟩ | ⟨rfl,S,n,hk⟩
  ·obtain⟨jL,_,pl,_⟩:=I.list hq
   refine⟨pl.isList.typeIs,fun a e=>?_⟩
   cases e
   obtain⟨o,n,e,c,hd,_⟩:=pl;exact⟨o,e,hd⟩
  ·refine⟨⟨o,I.kIn p o hk,hc⟩,fun a e=>?_⟩
   cases e
   exact⟨o,I.kIn _ o hk,hd⟩
  ·have z:∃o,s.heap.get? p=some o/\o.ExactDict:=by
    rcases hk with⟨kvs,hk⟩ | ⟨kvs,hk⟩
    ·obtain⟨_,_,_,_,o,_,_,e,ex,_⟩:=I.hok p _ hk
     exact⟨o,e,ex⟩
    ·obtain⟨_,_,_,_,o,_,_,e,ex,_⟩:=I.hok p _ hk
     exact⟨o,e,ex⟩
   obtain⟨o,e,ex⟩:=z;refine⟨⟨o,e,ex.1⟩,fun a e2=>?_⟩
   cases e2
   exact⟨o,e,ex.2.1⟩
  ·obtain⟨o,_,_,_,e,ex,_⟩:=I.hok p _ hk
   refine⟨⟨o,e,ex.1⟩,fun a e2=>?_⟩
   cases e2
   exact⟨o,e,ex.2.1⟩
 | _=>exact zI ty
noncomputable def J3 (K:qk)(T:String)(r:V->List V->Hp->VK->Prop)(to:TE)(t:TA):TE:=fun σ H Q=>to σ H fun x H1=>tyV K T x H1/\t σ H1 fun xs H2=>r x xs H2 Q
variable {o e:Expr}{es:List Expr}{to:TE}{t:TA}{name:Str}{apos cpos:Pos}{T id:String}{r:V->List V->Hp->VK->Prop}
theorem Zij (pa:PlainAttrs T)(slot:Slot T name id)(hty:typeOf (.builtin id)=pure (.type "method_descriptor"))(hm:MtR X id r)(ho:PE X o to)(ha:PA X (e::es) t)
  (hbase:attributeBase o name X.env (eval o X.env)=eval o X.env:=by rfl)
  (hfew:((backTo cpos (starEach (e::es) X.env)).all (fun x=>!x.1)&&(backToKw cpos (keywordEach [] X.env)).all (fun x=>x.1.isSome)
   && decide ((e::es).length+([]:List Keyword).length+(if ([]:List Keyword).isEmpty then 0 else 1)<30))=true:=by rfl)
  (hline:(apos.endLine==cpos.line)=true:=by rfl) (hs:starEach (e::es) X.env=(false,eval e X.env)::starEach es X.env:=by rfl) (hplain:(backTo cpos (starEach es X.env)).any (·.1)=false:=by rfl) :
  PE X (.Call (.Attribute o name apos) (e::es) [] cpos) (J3 X.K T r to t):=by
 intro jJ s σ H Q I h;refine wpAny_Call_method_late hbase hfew hline rfl (ZE (ho jJ s σ H _ I h) fun v s1 ⟨x,H1,I1,r1,ty,q1⟩=>?_);obtain⟨h1,h2⟩:=ZoS I1 r1 ty;refine⟨T,id,pa,slot,hty,h1,h2,?_⟩;have hA:=ha cpos jJ s1 σ H1 _ I1 q1;rw[hs] at hA⊢;refine Calls.callWith_builtin (by show(false||(backTo cpos (starEach es X.env)).any (·.1))=false;rw[hplain] <;> rfl) (Calls.evalArgs_plain ?_);exact ZE hA fun us s2 ⟨vs,H2,I2,r2,q2⟩=>hm jJ s2 σ H2 x vs v us Q I2 r1 r2 q2
end
end L2
namespace L2
noncomputable def MtM (X:Cx)(id:String)(r:V->List V->Hp->VK->Prop):Prop:=
 ∀(jJ:List (Addr×Obj)) (s:Shared) (σ:St) (H:Hp) (x:V) (xs:List V) (v:Value) (us:List Value) (Q:VK),Inv X jJ σ H s->ZC x v->Zw xs us->r x xs H Q->
  wpAny (model X.prog X.w) X.A (call (.builtin id) (v::us)) (EP X jJ σ Q) X.xe s
theorem Zw.one:∀{x:V} {us:List Value},Zw [x] us->∃u,us=[u]/\ZC x u
 | _,_,.cons r .nil=>⟨_,rfl,r⟩
theorem Zw.two:∀{x y:V} {us:List Value},Zw [x,y] us->∃u v,us=[u,v]/\ZC x u/\ZC y v
 | _,_,_,.cons r (.cons q .nil)=>⟨_,_,rfl,r,q⟩
theorem Zw.eraseIdx:∀{xs:List V} {us:List Value} (i:Nat),Zw xs us->Zw (xs.eraseIdx i) (us.eraseIdx i)
 | _,_,_,.nil=>.nil
 | _,_,0,.cons _ t=>t
 | _,_,i+1,.cons r t=>.cons r (Zw.eraseIdx i t)
theorem Zw.rep {xs:List V}{us:List Value}(h:Zw xs us):∀k:Nat,Zw (qz k xs).flatten (qz k us).flatten
 | 0=>.nil
 | k+1=>by
  rw[zT,zT,yw,yw];exact Zw.append h (Zw.rep h k)
theorem Zd5 {α:Type}:∀(l:List α) (i:Nat),(l.eraseIdx i).length<=l.length
 | [],_=>qw _
 | _::_,0=>qbX _
 | _::r,i+1=>Nat.succ_le_succ (Zd5 r i)
theorem ZbS (jL:List Value):∀(k:Nat) (jR:List Value),
  qaJ (fun x1 x2=>x1++x2) jR.toArray (qz k jL.toArray)=(jR++(qz k jL).flatten).toArray
 | 0,jR=>by simp
 | k+1,jR=>by
  have e:jR.toArray++jL.toArray=(jR++jL).toArray:=by simp
  have e2:(jR++jL)++(qz k jL).flatten=jR++(qz (k+1) jL).flatten:=by
   rw[zT,yw,qar]
  rw[<-e2,<-ZbS jL k (jR++jL),<-e,zT,List.foldl_cons]
section
variable {X:Cx}{jJ:List (Addr×Obj)}{σ:St}{H:Hp}{s:Shared}{l b:Addr}{xs ys zs:List V}
theorem Inv.lset {jL its':List Value}{n:Nat}{f:Array Value->Array Value}{t':Nat}(I:Inv X jJ σ H s)(hH:H l=some (.lst xs))
  (e:s.heap.get? l=some { cls:=.type "list",data:=.seq jL.toArray n }) (hf:f jL.toArray=its'.toArray) (hv:Zw ys its') (hz:ys.length<=sizeLine) :
  Inv X jJ σ (Zm H l (.lst ys)) { s with heap:=s.heap.update l (zl f),toks:=t' }:=by
 have q:=PySem.IsL.update e f;rw[hf] at q;refine I.write (x:=l) (e:=l) (by rw[hH];exact trivial) (.inl rfl) (fun b' u hb hu=>(zR s.heap (zl f) (zm hb)).trans hu) ⟨_,q⟩ ?_;exact⟨hz,its',_,hv,q⟩
theorem Inv.lnew {jL:List Value}{t':Nat}(I:Inv X jJ σ H s)(hv:Zw ys jL)(hz:ys.length<=sizeLine) :
  Inv X jJ σ (Zm H s.heap.objs.size (.lst ys)) { s with heap:=s.heap.push { cls:=.type "list",data:=.seq jL.toArray },toks:=t' }:=
 I.laid (fun _ _ q=>qq _ q) (qw _) ⟨hz,jL,0,hv,qI _ rfl⟩
theorem Inv.fresh (I:Inv X jJ σ H s):H s.heap.objs.size=none:=I.hok.fresh (qw _)
theorem Inv.lstM (I:Inv X jJ σ H s)(hH:H l=some (.lst xs)):xs.length<=sizeLine/\∃(jL:List Value) (n:Nat),Zw xs jL/\xs.length=jL.length/\s.heap.get? l=some { cls:=.type "list",data:=.seq jL.toArray n }:=by
 obtain⟨z,jL,n,r,e⟩:=I.hok l _ hH;exact⟨z,jL,n,r,r.length,e⟩
theorem ZkS {n:Nat}(h:n<=sizeLine):qad n=false:=by
 unfold qad;exact decide_eq_false (by omega)
end
section
variable {X:Cx}
noncomputable def Zcy:V->List V->Hp->VK->Prop:=fun x vs H Q=>∃l xs y,x=.ref l/\vs=[y]/\H l=some (.lst xs)/\xs.length<sizeLine/\Q .non (Zm H l (.lst (xs ++ [y])))
theorem Zd6:MtM X "list.append" Zcy:=by
 intro jJ s σ H x vs v us Q I rx rv h;obtain⟨l,xs,y,rfl,rfl,hH,hz,q⟩:=h
 cases rx
 obtain⟨u,rfl,ru⟩:=rv.one;obtain⟨z,jL,n,r,hl,e⟩:=I.lstM hH;refine call_meets F.slot_list_append ⟨_,e,rfl⟩ F.entry_list_append (F.args_list_append_2 _ _) (PySem.list_append l jL.toArray n u (by rw[qC];omega)) ⟨e,?_⟩;refine⟨.non,_,I.lset (its':=jL ++ [u]) hH e (by simp) (r.append (.cons ru .nil)) ?_,rfl,q⟩;rw[qY,ya];omega
noncomputable def Zg6:V->List V->Hp->VK->Prop:=fun x vs H Q=>∃l xs i k y,x=.ref l/\vs=[.int i]/\H l=some (.lst xs)/\-(2 ^ 63)<=i/\i<2 ^ 63/\seqIndex? i xs.length=some k/\xs[k]?=some y/\Q y (Zm H l (.lst (xs.eraseIdx k)))
theorem ZfI:MtM X "list.pop" Zg6:=by
 intro jJ s σ H x vs v us Q I rx rv h;obtain⟨l,xs,i,k,y,rfl,rfl,hH,h1,h2,hk,hy,q⟩:=h
 cases rx
 obtain⟨u,rfl,ru⟩:=rv.one;obtain⟨t,rfl⟩:=ru;obtain⟨z,jL,n,r,hl,e⟩:=I.lstM hH;obtain⟨w,hw,rw'⟩:=r.get hy;refine call_meets F.slot_list_pop ⟨_,e,rfl⟩ F.entry_list_pop (F.args_list_pop_2 _ _)
  (MeetsSeq.list_pop_at l jL.toArray n i t k w (fitsIndex_both h1 h2) (by rw[qC,<-hl];exact hk) (by rw[<-Array.getElem?_toList];exact hw) (by rw[qC];omega)) ⟨e,?_⟩
 refine⟨y,_,I.lset (its':=jL.eraseIdx k) hH e ?_ (r.eraseIdx k) ?_,rw',q⟩
 ·show jL.toArray.eraseIdxIfInBounds k=(jL.eraseIdx k).toArray
  rw[List.eraseIdxIfInBounds_toArray]
 ·have:=Zd5 xs k
  omega
noncomputable def rCat:R2:=fun x y H Q=>∃l b xs zs,x=.ref l/\y=.ref b/\H l=some (.lst xs)/\H b=some (.lst zs)/\xs.length+zs.length<=sizeLine/\∀p,H p=none->Q (.ref p) (Zm H p (.lst (xs++zs)))
theorem ZoT:Yd X (binaryOp .Add) rCat:=by
 intro jJ s σ H x y v u Q I rx ry h;obtain⟨l,b,xs,zs,rfl,rfl,hH,hB,hz,q⟩:=h
 cases rx
 cases ry
 obtain⟨z,jL,n,r,hl,e⟩:=I.lstM hH;obtain⟨z2,ke,n2,r2,hl2,e2⟩:=I.lstM hB;refine PySem.P.add_list e e2 ?_ (by rw[qC,qC];omega);have ea:jL.toArray++ke.toArray=(jL++ke).toArray:=by simp
 rw[ea];exact⟨.ref _,_,I.lnew (t':=s.toks) (r.append r2) (by rw[qY];omega),rfl,q _ I.fresh⟩
noncomputable def rRep:R2:=fun x y H Q=>∃l k xs,x=.ref l/\y=.int k/\H l=some (.lst xs)/\-(2 ^ 63)<=k/\k<2 ^ 63/\xs.length*k.toNat<=sizeLine/\
 ∀p,H p=none->Q (.ref p) (Zm H p (.lst (qz k.toNat xs).flatten))
theorem ZeK {α:Type}(xs:List α)(k:Nat):(qz k xs).flatten.length=k*xs.length:=by
 induction k with
 | zero=>simp
 | succ k ih=>rw[zT,yw,qY,ih,Nat.succ_mul,Nat.add_comm]
theorem ZoU:Yd X (binaryOp .Mult) rRep:=by
 intro jJ s σ H x y v u Q I rx ry h;obtain⟨l,k,xs,rfl,rfl,hH,h1,h2,hz,q⟩:=h
 cases rx
 obtain⟨t,rfl⟩:=ry;obtain⟨z,jL,n,r,hl,e⟩:=I.lstM hH;have jS:jL.toArray.size*k.toNat<=sizeLine:=by rw[qC,<-hl];exact hz
 have hcap:¬jL.toArray.size*k.toNat > (2 ^ 63-1) / 8:=by
  have:(sizeLine:Nat)<=(2 ^ 63-1) / 8:=by decide
  omega
 have hfit:¬(!Builtin.List.listFitsIndex k)=true:=by
  rw[fitsIndex_both h1 h2];exact zX
 have hlong:¬qad (jL.toArray.size*k.toNat)=true:=by
  rw[ZkS jS];exact zX
 have hnew:qaJ (fun x1 x2=>x1++x2) #[] (qz (if jL.toArray.isEmpty=true then 0 else k.toNat) jL.toArray)=(qz k.toNat jL).flatten.toArray:=by
  have f0:∀m:Nat,qaJ (fun x1 x2=>x1++x2) #[] (qz m jL.toArray)=(qz m jL).flatten.toArray:=fun m=>by
   have:=ZbS jL m [];rw[qbp] at this;exact this
  rw[f0]
  cases jL with
  | nil=>simp
  | cons a r'=>rw[if_neg (by simp)]
 refine wpAny_binaryOp_repeat_ref (T:="list") (U:="int") (by decide) ⟨_,e,rfl⟩ (fun s'=>typeIs_int s' k t) noFill_list_mul qaK ye repeat_list qaB.lookup
  (call_meets ye (typeIs_int s k t) qaC (qas _ _) (int___rmul___int_list k t l jL.toArray n)
   ⟨e,rfl,⟨_,e,rfl⟩,call_meets F.slot_list_mul ⟨_,e,rfl⟩ F.entry_list_mul (F.args_list_mul_2 _ _) (AutoListH.list___mul___list_int_3 l jL.toArray n k t hfit hcap hlong) ⟨e,?_⟩⟩)
 rw[hnew];exact⟨.ref _,_,I.lnew (t':=s.toks) (r.rep k.toNat) (by rw[ZeK,qbS];exact hz),rfl,q _ I.fresh⟩
end
section
variable {prog:Program}{w:World}{A:Around}{E:Value->Shared->Prop}{s:Shared}
end
section
variable {X:Cx}
end
end L2
namespace L2
section
variable {κ:Type}[DecidableEq κ]
noncomputable def ZZ (kvs:List (κ×V))(k:κ):Option V:=(kvs.find? fun kv=>decide (kv.1=k)).map (·.2)
noncomputable def Yo (kvs:List (κ×V))(k:κ)(v:V):List (κ×V):=
 if (kvs.any fun kv=>decide (kv.1=k))=true then kvs.map (fun kv=>if kv.1=k then (kv.1,v) else kv) else kvs ++ [(k,v)]
theorem X3 {p:κ×V}{r:List (κ×V)}{k:κ}(e:p.1=k):ZZ (p::r) k=some p.2:=by simp[ZZ,yu,e]
theorem X4 {p:κ×V}{r:List (κ×V)}{k:κ}(e:¬p.1=k):ZZ (p::r) k=ZZ r k:=by simp[ZZ,yu,e]
theorem Bq (k:κ):∀kvs:List (κ×V),(kvs.any fun kv=>decide (kv.1=k))=(ZZ kvs k).isSome
 | []=>rfl
 | p::r=>by
  rw[qaA];by_cases e:p.1=k
  ·simp only[X3 e,decide_eq_true e,Bool.true_or,Option.isSome_some]
  ·rw[X4 e,decide_eq_false e,Bool.false_or];exact Bq k r
theorem ZfJ (k j:κ)(y:V):∀kvs:List (κ×V),ZZ (kvs.map fun kv=>if kv.1=k then (kv.1,y) else kv) j=(ZZ kvs j).map fun x=>if j=k then y else x
 | []=>rfl
 | p::r=>by
  have ih:=ZfJ k j y r;rw[zb];by_cases h:p.1=k
  ·rw[if_pos h]
   by_cases e:p.1=j
   ·rw[X3 (p:=(p.1,y)) e,X3 e,zV,if_pos (e.symm.trans h)]
   ·rw[X4 (p:=(p.1,y)) e,X4 e,ih]
  ·rw[if_neg h]
   by_cases e:p.1=j
   ·rw[X3 (p:=p) e,X3 e,zV,if_neg (fun z=>h (e.trans z))]
   ·rw[X4 (p:=p) e,X4 e,ih]
theorem Zd7 (k j:κ)(y:V):∀kvs:List (κ×V),ZZ kvs k=none->ZZ (kvs ++ [(k,y)]) j=if j=k then some y else ZZ kvs j
 | [],_=>by
  by_cases e:k=j
  ·rw[if_pos e.symm];exact X3 (p:=(k,y)) e
  ·rw[if_neg (fun z=>e z.symm)];exact X4 (p:=(k,y)) e
 | p::r,hn=>by
  rw[qa7];have hk:¬p.1=k:=fun z=>by rw[X3 z] at hn;cases hn
  rw[X4 hk] at hn;have ih:=Zd7 k j y r hn;by_cases e:p.1=j
  ·rw[X3 e,X3 e,if_neg (fun z=>hk (e.trans z))]
  ·rw[X4 e,X4 e,ih]
theorem ZfK (kvs:List (κ×V))(k j:κ)(y:V):ZZ (Yo kvs k y) j=if j=k then some y else ZZ kvs j:=by
 unfold Yo;by_cases a:(kvs.any fun kv=>decide (kv.1=k))=true
 ·rw[if_pos a,ZfJ]
  rw[Bq] at a;by_cases e:j=k
  ·obtain⟨x,hx⟩:=zK.mp a
   rw[if_pos e,e,hx,zV,if_pos rfl]
  ·rw[if_neg e]
   cases ZZ kvs j with
   | none=>rfl
   | some x=>rw[zV,if_neg e]
 ·rw[if_neg a]
  refine Zd7 k j y kvs ?_;rw[Bq] at a
  cases q:ZZ kvs k with
  | none=>rfl
  | some x=>rw[q] at a;exact(a rfl).elim
theorem UG (kvs:List (κ×V))(k:κ)(v:V):(Yo kvs k v).length<=kvs.length+1:=by
 unfold Yo;split
 ·rw[qd];omega
 ·rw[qY,qR,yt];omega
theorem ZfL {kvs:List (κ×V)}{k:κ}(v:V)(h:ZZ kvs k=none):Yo kvs k v=kvs ++ [(k,v)]:=by
 unfold Yo;rw[Bq,h];exact if_neg (by decide)
theorem Uv.isSome_eq {o:Option V}{u:Option Value}(r:Uv o u):o.isSome=u.isSome:=by
 cases o with
 | none=>cases u with
  | none=>rfl
  | some _=>exact(show False from r).elim
 | some _=>cases u with
  | none=>exact(show False from r).elim
  | some _=>rfl
theorem KV.val {kvs:List (κ×V)}{vs:List (κ×Value)}(r:KV kvs vs)(k:κ):Uv (ZZ kvs k) (valueAt vs k):=by
 unfold KV at r
 induction r with
 | nil=>exact z7
 | @cons p q ps qs h t ih=>
  obtain⟨h1,h2⟩:=h;by_cases e:p.1=k
  ·have e':q.1=k:=h1.symm.trans e
   have b:valueAt (q::qs) k=some q.2:=by simp[valueAt,yu,e']
   rw[X3 e,b];exact h2
  ·have e':¬q.1=k:=fun z=>e (h1.trans z)
   have b:valueAt (q::qs) k=valueAt qs k:=by simp[valueAt,yu,e']
   rw[X4 e,b];exact ih
theorem KV.any {kvs:List (κ×V)}{vs:List (κ×Value)}(r:KV kvs vs)(k:κ):(kvs.any fun kv=>decide (kv.1=k))=vs.any fun kv=>decide (kv.1=k):=by
 unfold KV at r
 induction r with
 | nil=>rfl
 | cons h t ih=>rw[qaA,qaA,ih,h.1]
theorem KV.repl {kvs:List (κ×V)}{vs:List (κ×Value)}(r:KV kvs vs)(k:κ){y:V}{u:Value}(ry:ZC y u) :
  KV (kvs.map fun kv=>if kv.1=k then (kv.1,y) else kv) (vs.map fun kv=>if kv.1=k then (kv.1,u) else kv):=by
 unfold KV at r⊢
 induction r with
 | nil=>exact .nil
 | @cons p q ps qs h t ih=>
  rw[zb,zb];refine .cons ?_ ih;obtain⟨h1,h2⟩:=h;by_cases e:p.1=k
  ·rw[if_pos e,if_pos (h1.symm.trans e)];exact⟨h1,ry⟩
  ·rw[if_neg e,if_neg (fun z=>e (h1.trans z))];exact⟨h1,h2⟩
theorem KV.put {kvs:List (κ×V)}{vs:List (κ×Value)}(r:KV kvs vs)(k:κ){y:V}{u:Value}(ry:ZC y u):KV (Yo kvs k y) (stored vs k u):=by
 unfold Yo stored;rw[r.any k];by_cases e:(vs.any fun kv=>decide (kv.1=k))=true
 ·rw[if_pos e,if_pos e];exact r.repl k ry
 ·rw[if_neg e,if_neg e];exact Paired.snoc r ⟨rfl,ry⟩
theorem KV.length {kvs:List (κ×V)}{vs:List (κ×Value)}(r:KV kvs vs):kvs.length=vs.length:=qaz r
end
theorem UZ {P:Program}{w:World}{k:Zt}{u:Value}(r:ZC (kV k) u):(X5 P w).is k u=true:=by
 cases k with
 | inl i=>obtain⟨t,e⟩:=(show ∃t,u=qbm i t from r);subst e;exact ZfC P w i t
 | inr x=>obtain⟨t,e⟩:=(show ∃t,u=qbP x t from r);subst e;exact ZfD P w x t
theorem Zd8 {P:Program}{w:World}:∀{ks:List Zt} {us:List Value},Zw (ks.map kV) us->ItemsAre (X5 P w) ks us
 | [],_,r=>by rw[qaI] at r;cases r;exact .nil
 | k::ks,_,r=>by
  rw[zb] at r
  cases r with
  | cons h t=>exact .cons (UZ h) (Zd8 t)
noncomputable abbrev KT (H:Hp):List (List Zt×V)->List (List Zt×Addr×Value)->Prop:=Paired fun p q=>p.1=q.1/\H q.2.1=some (.tup (p.1.map kV))/\ZC p.2 q.2.2
theorem KT.val {H:Hp}{kvs:List (List Zt×V)}{xs:List (List Zt×Addr×Value)}(r:KT H kvs xs)(k:List Zt):Uv (ZZ kvs k) ((atKey xs k).map (·.2)):=by
 induction r with
 | nil=>exact z7
 | @cons p q ps qs h t ih=>
  obtain⟨h1,_,h2⟩:=h;by_cases e:p.1=k
  ·have e':q.1=k:=h1.symm.trans e
   have b:atKey (q::qs) k=some q.2:=by simp[atKey,yu,e']
   rw[X3 e,b];exact h2
  ·have e':¬q.1=k:=fun z=>e (h1.trans z)
   have b:atKey (q::qs) k=atKey qs k:=by simp[atKey,yu,e']
   rw[X4 e,b];exact ih
theorem KT.repl {H:Hp}{kvs:List (List Zt×V)}{xs:List (List Zt×Addr×Value)}(r:KT H kvs xs)(k:List Zt){y:V}{u:Value}(ry:ZC y u) :
  KT H (kvs.map fun kv=>if kv.1=k then (kv.1,y) else kv) (xs.map (putAt k u)):=by
 induction r with
 | nil=>exact .nil
 | @cons p q ps qs h t ih=>
  rw[zb,zb];refine .cons ?_ ih;obtain⟨h1,h2,h3⟩:=h;unfold putAt;by_cases e:p.1=k
  ·rw[if_pos e,if_pos (h1.symm.trans e)];exact⟨h1,h2,ry⟩
  ·rw[if_neg e,if_neg (fun z=>e (h1.trans z))];exact⟨h1,h2,h3⟩
theorem KT.put {H:Hp}{kvs:List (List Zt×V)}{xs:List (List Zt×Addr×Value)}(r:KT H kvs xs)(k:List Zt){b:Addr}{y:V}{u:Value}(hb:H b=some (.tup (k.map kV)))(ry:ZC y u) :
  KT H (Yo kvs k y) (storedH xs k b u):=by
 have e:(kvs.any fun kv=>decide (kv.1=k))=(atKey xs k).isSome:=by
  rw[Bq,(r.val k).isSome_eq,qa1]
 unfold Yo storedH;rw[e];by_cases q:(atKey xs k).isSome=true
 ·rw[if_pos q,if_pos q];exact r.repl k ry
 ·rw[if_neg q,if_neg q];exact Paired.snoc r ⟨rfl,hb,ry⟩
theorem KT.keeps {H H':Hp}{kvs:List (List Zt×V)}{xs:List (List Zt×Addr×Value)}(r:KT H kvs xs)(ht:∀b ys,H b=some (.tup ys)->H' b=some (.tup ys)):KT H' kvs xs:=
 jv r fun _ _ z=>⟨z.1,ht _ _ z.2.1,z.2.2⟩
section
variable {P:Program}{w:World}{H:Hp}{h:Heap}{a:Addr}
theorem Zn3 {u:HO}(ok:Ys P w H h)(e:Rd H a u):YC P w H h a u:=e.ok ok
theorem BM {kvs:List (Zt×V)}(ok:Ys P w H h)(e:Rd H a (.dK kvs)):kvs.length<=sizeLine/\(a==sysModules)=false/\∃vs,KV kvs vs/\h.DictOf (X5 P w) a vs:=
 show YC P w H h a (.dK kvs) from Zn3 ok e
theorem ZkT {kvs:List (Zt×V)}(ok:Ys P w H h)(e:H a=some (.dK kvs)):kvs.length<=sizeLine/\(a==sysModules)=false/\∃vs,KV kvs vs/\h.DictOf (X5 P w) a vs:=BM ok (.inl e)
theorem JE {ks:List Zt}(ok:Ys P w H h)(e:H a=some (.tup (ks.map kV))):(tupleKind (X5 P w)).is h ks a:=by
 obtain⟨_,jL,r,o,h1,h2,n,h3⟩:=(show YC P w H h a (.tup (ks.map kV)) from ok a _ e);exact⟨o,jL.toArray,n,h1,h2,h3,by simpa using Zd8 r⟩
theorem BN {kvs:List (List Zt×V)}(ok:Ys P w H h)(e:Rd H a (.dT kvs)):kvs.length<=sizeLine/\(a==sysModules)=false/\
  ∃xs,KT H kvs xs/\h.DictOfH (tupleKind (X5 P w)) a xs:=by
 obtain⟨z,y,xs,r,o,es,ep,h1,h2,h3,h4,h5⟩:=(show YC P w H h a (.dT kvs) from Zn3 ok e);refine⟨z,y,xs,r,o,es,ep,h1,h2,h3,h4,fun x hx=>?_,h5⟩;have all:∀{l:List (List Zt×V)} {m:List (List Zt×Addr×Value)},KT H l m->∀x∈m,(tupleKind (X5 P w)).is h x.1 x.2.1:=by
  intro l m q
  induction q with
  | nil=>intro x hx;exact nomatch hx
  | @cons p q ps qs hq t ih=>
   intro x hx;rcases qu.mp hx with e | hx
   ·subst e
    exact JE ok (by rw[<-hq.1];exact hq.2.1)
   ·exact ih x hx
 exact all r x hx
theorem Zn4 {kvs:List (List Zt×V)}(ok:Ys P w H h)(e:H a=some (.dT kvs)):kvs.length<=sizeLine/\(a==sysModules)=false/\
  ∃xs,KT H kvs xs/\h.DictOfH (tupleKind (X5 P w)) a xs:=BN ok (.inl e)
end
noncomputable def Xk (H:Hp)(a:Addr)(y:V)(r:Option V):Prop:=
 (∃kvs k,Rd H a (.dK kvs)/\y=kV k/\r=ZZ kvs k)∨∃kvs k b,Rd H a (.dT kvs)/\y=.ref b/\H b=some (.tup (k.map kV))/\r=ZZ kvs k
noncomputable def Ws (H:Hp)(a:Addr)(y v:V)(H':Hp):Prop:=
 (∃kvs k,H a=some (.dK kvs)/\y=kV k/\kvs.length<sizeLine/\H'=Zm H a (.dK (Yo kvs k v)))∨
 ∃kvs k b,H a=some (.dT kvs)/\y=.ref b/\H b=some (.tup (k.map kV))/\kvs.length<sizeLine/\H'=Zm H a (.dT (Yo kvs k v))
theorem Xk.k {H:Hp}{a:Addr}{kvs:List (Zt×V)}{k:Zt}(e:H a=some (.dK kvs)):Xk H a (kV k) (ZZ kvs k):=.inl ⟨kvs,k,.inl e,rfl,rfl⟩
theorem Xk.t {H:Hp}{a b:Addr}{kvs:List (List Zt×V)}{k:List Zt}(e:H a=some (.dT kvs))(eb:H b=some (.tup (k.map kV))):Xk H a (.ref b) (ZZ kvs k):=.inr ⟨kvs,k,b,.inl e,rfl,eb,rfl⟩
theorem Ws.k {H:Hp}{a:Addr}{kvs:List (Zt×V)}{k:Zt}{v:V}(e:H a=some (.dK kvs))(hl:kvs.length<sizeLine):Ws H a (kV k) v (Zm H a (.dK (Yo kvs k v))):=.inl ⟨kvs,k,e,rfl,hl,rfl⟩
theorem Ws.t {H:Hp}{a b:Addr}{kvs:List (List Zt×V)}{k:List Zt}{v:V}(e:H a=some (.dT kvs))(eb:H b=some (.tup (k.map kV)))(hl:kvs.length<sizeLine) :
  Ws H a (.ref b) v (Zm H a (.dT (Yo kvs k v))):=.inr ⟨kvs,k,b,e,rfl,eb,hl,rfl⟩
section
variable {X:Cx}{jJ:List (Addr×Obj)}{σ:St}{H:Hp}{s:Shared}{a:Addr}{y v:V}{u r:Value}{o:Option V}{A:Around}{E:Value->Shared->Prop}
theorem Inv.big (I:Inv X jJ σ H s):sysModules<s.heap.objs.size:=by
 have h:mainGlobals<s.heap.objs.size:=(I.mod.glob.keeps I.bk).lt;exact qbT (by decide) h
theorem Zjj {Q:Value->Shared->Prop}(hu:A.units+1<cLine)(I:Inv X jJ σ H s)(g:Xk H a y (some v))(ry:ZC y u)(h:∀w' s',Inv X jJ σ H s'->ZC v w'->Q w' s') :
  wpAny (model X.prog X.w) A (getItem (.ref a) u) Q E s:=by
 rcases g with⟨kvs,k,e,ey,l⟩ | ⟨kvs,k,b,e,ey,eb,l⟩
 ·subst ey
  obtain⟨z,hd,vs,rel,dd⟩:=BM I.hok e;obtain⟨w',hw,rw'⟩:=jy (v:=v) (o:=valueAt vs k) (by rw[l];exact rel.val k);exact wpAny_getItem_of (UZ ry) dd.mapOf hw (h w' _ (I.tok _) rw')
 ·subst ey
  cases (show u=qM b from ry)
  obtain⟨z,hd,xs,rel,dd⟩:=BN I.hok e;obtain⟨w',hw,rw'⟩:=jy (v:=v) (o:=(atKey xs k).map (·.2)) (by rw[l];exact rel.val k);obtain⟨p,hp,hp2⟩:=Option.map_eq_some_iff.mp hw;refine wpAny_getItem_heap (tupleKind_room_in1 hu) (JE I.hok eb) dd hp ?_;rw[hp2];exact h w' _ (I.tok _) rw'
theorem d_in {Q:Value->Shared->Prop}(hu:A.units+1<cLine)(I:Inv X jJ σ H s)(g:Xk H a y o)(ry:ZC y u)(h:∀s',Inv X jJ σ H s'->Q (.bool o.isSome) s') :
  wpAny (model X.prog X.w) A (compareOp .In u (.ref a)) Q E s:=by
 rcases g with⟨kvs,k,e,ey,l⟩ | ⟨kvs,k,b,e,ey,eb,l⟩
 ·subst ey
  obtain⟨z,hd,vs,rel,dd⟩:=BM I.hok e;refine wpAny_in_of (UZ ry) hd dd.mapOf ?_;rw[<-(rel.val k).isSome_eq,<-l];exact h _ (I.tok _)
 ·subst ey
  cases (show u=qM b from ry)
  obtain⟨z,hd,xs,rel,dd⟩:=BN I.hok e;refine wpAny_in_heap (tupleKind_room_in1 hu) (JE I.hok eb) hd dd ?_;have q:=(rel.val k).isSome_eq;rw[qa1] at q;rw[<-q,<-l];exact h _ (I.tok _)
theorem ZmV {Q:Value->Shared->Prop}(hu:A.units+1<cLine)(I:Inv X jJ σ H s)(g:Xk H a y o)(ry:ZC y u)(h:∀s',Inv X jJ σ H s'->Q (.bool (!o.isSome)) s') :
  wpAny (model X.prog X.w) A (compareOp .NotIn u (.ref a)) Q E s:=by
 rcases g with⟨kvs,k,e,ey,l⟩ | ⟨kvs,k,b,e,ey,eb,l⟩
 ·subst ey
  obtain⟨z,hd,vs,rel,dd⟩:=BM I.hok e;refine wpAny_notIn_of (UZ ry) hd dd.mapOf ?_;rw[<-(rel.val k).isSome_eq,<-l];exact h _ (I.tok _)
 ·subst ey
  cases (show u=qM b from ry)
  obtain⟨z,hd,xs,rel,dd⟩:=BN I.hok e;refine wpAny_notIn_heap (tupleKind_room_in1 hu) (JE I.hok eb) hd dd ?_;have q:=(rel.val k).isSome_eq;rw[qa1] at q;rw[<-q,<-l];exact h _ (I.tok _)
theorem Bs {h':Heap}{t':Nat}{ob:HO}(I:Inv X jJ σ H s)(mu:BZ (H a))(hs:qbR a s.heap h')(he:∃q,h'.get? a=some q)(new:YC X.prog X.w (Zm H a ob) h' a ob) :
  Inv X jJ σ (Zm H a ob) { s with heap:=h',toks:=t' }:=
 I.write (x:=a) (e:=a) mu (.inl rfl) (fun b q hb z=>(hs.2 b hb).trans z) he new
theorem Zg7 {P:Program}{w:World}{H':Hp}{h':Heap}{kvs:List (Zt×V)}{vs:List (Zt×Value)}(z:kvs.length<=sizeLine)(hd:(a==sysModules)=false)(rel:KV kvs vs)(dd:h'.DictOf (X5 P w) a vs) :
  YC P w H' h' a (.dK kvs):=⟨z,hd,vs,rel,dd⟩
theorem Zjk {H':Hp}{Q:Unit->Shared->Prop}(hu:A.units+1<cLine)(I:Inv X jJ σ H s)(g:Ws H a y v H')(ry:ZC y u)(rv:ZC v r)(h:∀s',Inv X jJ σ H' s'->Q () s') :
  wpAny (model X.prog X.w) A (setItem (.ref a) u r) Q E s:=by
 rcases g with⟨kvs,k,e,ey,l,eH⟩ | ⟨kvs,k,b,e,ey,eb,l,eH⟩
 ·subst ey eH
  obtain⟨z,hd,vs,rel,dd⟩:=ZkT I.hok e;have hz:vs.length<=sizeLine:=by rw[<-rel.length];exact z
  have hl:(Yo kvs k v).length<=sizeLine:=by have:=UG kvs k v;omega
  refine wpAny_setItem_pairs (hsz:=hz) (UZ ry) dd fun h' dd' hs=>h _ ?_;have he:∃q,h'.get? a=some q:=let ⟨q,_,_,hq,_⟩:=dd';⟨q,hq⟩;exact Bs I (by rw[e];exact z7) hs he (Zg7 hl hd (rel.put k rv) dd')
 ·subst ey eH
  cases (show u=qM b from ry)
  obtain⟨z,hd,xs,rel,dd⟩:=Zn4 I.hok e;have hz:xs.length<=sizeLine:=by rw[<-qaz rel];exact z
  have hl:(Yo kvs k v).length<=sizeLine:=by have:=UG kvs k v;omega
  refine wpAny_setItem_heap (hsz:=hz) (tupleKind_room_in1 hu) (JE I.hok eb) dd fun h' dd' hs=>h _ ?_;obtain⟨q,es,ep,hq,h2,h3,h4,_,h5⟩:=dd';refine Bs I (by rw[e];exact z7) hs ⟨q,hq⟩ ⟨hl,hd,_,(rel.put k eb rv).keeps fun c ys ec=>?_,q,es,ep,hq,h2,h3,h4,h5⟩;rw[Zp (ZnU ec e (fun z=>nomatch z))];exact ec
end
section
variable {X:Cx}{jJ:List (Addr×Obj)}{σ:St}{H:Hp}{s:Shared}{a:Addr}{kvs:List (Zt×V)}{k:Zt}{u:Value}{A:Around}{E:Value->Shared->Prop}
end
noncomputable def NoSl (i:Expr):Prop:=∀ov iv,subscripted i false ov iv=operate [ov,iv] (getItem ov iv)
theorem ZmW {prog:Program}{w:World}{A:Around}{E:Value->Shared->Prop}{s:Shared}{env:Env}{value slice:Expr}{pos:Pos}{T id:String}{Q:Value->Shared->Prop}
  (hl:typeLookup (.type T) "__getitem__" = pure (some (.builtin id))) (hs:NoSl slice)
  (h:wpAny (model prog w) A (eval value env) (fun o s₁=>wpAny (model prog w) A (eval slice env) (fun i s₂=>s₂.TypeIs o T/\wpAny (model prog w) A (getItem o i) Q E s₂) E s₁) E s) :
  wpAny (model prog w) A (eval (.Subscript value slice pos) env) Q E s:=by
 refine Subscript_ (wpAny_mono h (fun o s₁ h₁=>wpAny_mono h₁ (fun i s₂ h₂=>?_) fun _ _ x=>x) fun _ _ x=>x);obtain⟨hT,h₂⟩:=h₂;unfold subscriptTail;refine wpAny_bind ?_;rw[getitemInPython_of_ne hT.not_modules];refine wpAny_bind (wpAny_specialOf hT hl ?_);have fin:wpAny (model prog w) A (subscripted slice false o i) (fun r s₃=>wpAny (model prog w) A (letTemporaryGo value o r >>= fun _=>pure r) Q E s₃) E s₂:=by
  rw[hs o i];exact wpAny_operating (wpAny_mono h₂ (fun r s₃ h₃=>wpAny_bind (wpAny_letTemporaryGo (wpAny_pure h₃))) fun _ _ x=>x)
 first
  | exact wpAny_pure (wpAny_bind fin)
  | exact wpAny_bind (wpAny_pure (wpAny_bind fin))
  | exact wpAny_bind fin
theorem ZfM {X:Cx}{jJ:List (Addr×Obj)}{σ:St}{H:Hp}{s:Shared}{a:Addr}{y:V}{o:Option V}(I:Inv X jJ σ H s)(g:Xk H a y o):s.TypeIs (.ref a) "dict":=by
 rcases g with⟨kvs,k,e,_,_⟩ | ⟨kvs,k,b,e,_,_,_⟩
 ·obtain⟨_,_,vs,_,dd⟩:=BM I.hok e
  exact dd.typeIs
 ·obtain⟨_,_,xs,_,dd⟩:=BN I.hok e
  exact dd.typeIs
noncomputable def Zik (td ty:TE):TE:=fun σ H Q=>td σ H fun x H1=>ty σ H1 fun y H2=>∃a v,x=.ref a/\Xk H2 a y (some v)/\Q v H2
noncomputable def Zn5 (td ty tv:TE):TS:=fun D σ H=>tv σ H fun v H1=>td σ H1 fun x H2=>ty σ H2 fun y H3=>∃a H4,x=.ref a/\Ws H3 a y v H4/\D.nx σ H4
section
variable {X:Cx}{o i e value:Expr}{pos pos' tpos:Pos}{td ty tv:TE}
theorem WD (hu:X.A.units+1<cLine)(ho:PE X o td)(hi:PE X i ty)(hs:NoSl i):PE X (.Subscript o i pos) (Zik td ty):=by
 intro jJ s σ H Q I h;refine ZmW PySem.F.slot_dict_getitem.lookup hs (ZE (ho jJ s σ H _ I h) fun u s1 ⟨x,H1,I1,rx,q1⟩=>ZE (hi jJ s1 σ H1 _ I1 q1) fun iv s2 ⟨y,H2,I2,ry,a,v,ex,g,q2⟩=>?_);subst ex;obtain rfl:u=qM a:=rx;exact⟨ZfM I2 g,Zjj hu I2 g ry fun w' s3 I3 rw'=>⟨v,H2,I3,rw',q2⟩⟩
theorem Zil (hu:X.A.units+1<cLine)(ho:PE X o td)(hi:PE X i ty)(hv:PE X value tv)(hs:swapsWith value (some (.Subscript o i pos')) pos.line X.env=pure false) :
  PS X (.Assign [.Subscript o i pos'] value pos) (Zn5 td ty tv):=by
 intro jJ s σ H D I h;refine wpAny_Assign_Subscript (ZE (hv jJ s σ H _ I h) fun r s1 ⟨v,H1,I1,rv,q1⟩=>ZE (ho jJ s1 σ H1 _ I1 q1) fun u s2 ⟨x,H2,I2,rx,q2⟩=>ZE (hi jJ s2 σ H2 _ I2 q2) fun iv s3 ⟨y,H3,I3,ry,a,H4,ex,g,q3⟩=>?_) hs;subst ex;obtain rfl:u=qM a:=rx;exact Zjk hu I3 g ry rv fun s4 I4=>⟨σ,H4,I4,q3⟩
end
theorem ZcS {P:Program}{w:World}{H:Hp}(h:Heap)(hb:sysModules<h.objs.size):YC P w H (h.push { cls:=.type "dict",data:=.dict #[] }) h.objs.size (.dK []):=
 ⟨zk _,beq_eq_false_iff_ne.mpr (zm (qQ hb)),[],.nil,Heap.DictOf.new h⟩
theorem ZkU {P:Program}{w:World}{H:Hp}(h:Heap)(hb:sysModules<h.objs.size):YC P w H (h.push { cls:=.type "dict",data:=.dict #[] }) h.objs.size (.dT []):=
 ⟨zk _,beq_eq_false_iff_ne.mpr (zm (qQ hb)),[],.nil,_,#[],0,qI _ rfl,⟨rfl,rfl,rfl⟩,rfl,rfl,qaP⟩
noncomputable def ZoV:TE:=fun _ H Q=>∀p,H p=none->Q (.ref p) (Zm H p (.dK []))
section
variable {X:Cx}{pos:Pos}
theorem ZkV:PE X (.Dict [] [] pos) ZoV:=fun jJ s σ H Q I h=>
 wpAny_Dict_empty ⟨.ref s.heap.objs.size,_,I.laid (a:=s.heap.objs.size) (o:=.dK []) (t':=s.toks) (fun _ _ q=>qq _ q) (qw _) (ZcS s.heap I.big),rfl,h _ (I.hok.fresh (qw _))⟩
end
noncomputable def Zg8:List (TE×TE)->St->Hp->(List (V×V)->Hp->Prop)->Prop
 | [],_,H,Q=>Q [] H
 | (tk,tv)::r,σ,H,Q=>tk σ H fun x H1=>tv σ H1 fun y H2=>Zg8 r σ H2 fun ps H3=>Q ((x,y)::ps) H3
noncomputable abbrev VV:List (V×V)->List (Value×Value)->Prop:=Paired fun p q=>ZC p.1 q.1/\ZC p.2 q.2
noncomputable def PPs (X:Cx)(pos:Pos)(keys:List (Option Expr))(values:List Expr)(trs:List (TE×TE)):Prop:=
 ∀(jJ:List (Addr×Obj)) (s:Shared) (σ:St) (H:Hp) (Q:List (V×V)->Hp->Prop),Inv X jJ σ H s->Zg8 trs σ H Q->
  wpAny (model X.prog X.w) X.A (evalPairs (pairTrees keys values X.env pos)) (fun vs s'=>∃ps H',Inv X jJ σ H' s'/\VV ps vs/\Q ps H') X.xe s
theorem ZmX {X:Cx}{pos:Pos}:PPs X pos [] [] []:=fun jJ s σ H Q I h=>pairTrees_nil_walk ⟨[],H,I,.nil,h⟩
theorem ZcT {X:Cx}{pos:Pos}{k v:Expr}{ks:List (Option Expr)}{vs:List Expr}{tk tv:TE}{trs:List (TE×TE)}(hk:PE X k tk)(hv:PE X v tv)(hr:PPs X pos ks vs trs) :
  PPs X pos (some k::ks) (v::vs) ((tk,tv)::trs):=fun jJ s σ H Q I h=>
 pairTrees_cons_walk (ZE (hk jJ s σ H _ I h) fun u s1 ⟨x,H1,I1,rx,q1⟩=>ZE (hv jJ s1 σ H1 _ I1 q1) fun w2 s2 ⟨y,H2,I2,ry,q2⟩=>
  ZE (hr jJ s2 σ H2 _ I2 q2) fun ws s3 ⟨ps,H3,I3,rel,q3⟩=>⟨(x,y)::ps,H3,I3,.cons ⟨rx,ry⟩ rel,q3⟩)
noncomputable def Up (kvs more:List (Zt×V)):List (Zt×V):=more.foldl (fun jR kv=>Yo jR kv.1 kv.2) kvs
theorem KV.merge:∀{more:List (Zt×V)} {rs:List (Zt×Value)} {kvs:List (Zt×V)} {vs:List (Zt×Value)},KV more rs->KV kvs vs->KV (Up kvs more) (merged vs rs):=by
 intro more rs kvs vs r;unfold KV at r
 induction r generalizing kvs vs with
 | nil=>intro q;exact q
 | @cons p q ps qs h t ih=>
  intro r0;have e:KV (Yo kvs p.1 p.2) (stored vs q.1 q.2):=by
   have:=r0.put p.1 h.2;rw[<-h.1];exact this
  exact ih e
theorem Zbd:∀(more kvs:List (Zt×V)),(Up kvs more).length<=kvs.length+more.length
 | [],kvs=>by show kvs.length<=kvs.length+0;omega
 | p::r,kvs=>by
  have h1:=Zbd r (Yo kvs p.1 p.2);have h2:=UG kvs p.1 p.2;show(Up (Yo kvs p.1 p.2) r).length<=_;rw[qR];omega
theorem ZcU {P:Program}{w:World}:∀{kvs:List (Zt×V)} {ws:List (Value×Value)},VV (kvs.map fun kv=>(kV kv.1,kv.2)) ws->∃rs,Carries (X5 P w) ws rs/\KV kvs rs
 | [],_,r=>by rw[qaI] at r;cases r;exact⟨[],z7,.nil⟩
 | p::kvs,_,r=>by
  rw[zb] at r
  cases r with
  | @cons a b as bs h t=>
   obtain⟨rs,c,q⟩:=ZcU (P:=P) (w:=w) t;obtain⟨b1,b2⟩:=b;exact⟨(p.1,b2)::rs,⟨UZ h.1,rfl,c⟩,.cons ⟨rfl,h.2⟩ q⟩
noncomputable def Zn6 (trs:List (TE×TE)):TE:=fun σ H Q=>∀p,H p=none->Zg8 trs σ (Zm H p (.dK [])) fun ps H2=>H2 p=some (.dK [])/\∃kvs:List (Zt×V),ps=kvs.map (fun kv=>(kV kv.1,kv.2))/\kvs.length<=15/\Q (.ref p) (Zm H2 p (.dK (Up [] kvs)))
theorem ZmY {X:Cx}{pos:Pos}{keys:List (Option Expr)}{values:List Expr}{trs:List (TE×TE)}(h:PPs X pos keys values trs)(hall:keys.all (·.isSome)=true)(hl:keys.length=values.length)(h0:keys≠[])
  (h15:keys.length<=15):PE X (.Dict keys values pos) (Zn6 trs):=by
 intro jJ s σ H Q I q;have hn:=I.hok.fresh (qw s.heap.objs.size);have I1:=I.laid (a:=s.heap.objs.size) (o:=.dK []) (h':=s.heap.push { cls:=.type "dict",data:=.dict #[] }) (t':=s.toks) (fun _ _ q=>qq _ q) (qw _) (ZcS s.heap I.big);refine wpAny_Dict_walk (knd:=X5 X.prog X.w) hall hl h0 h15 (ZE (h jJ _ σ _ _ I1 (q _ hn)) fun ws s2 ⟨ps,H2,I2,rel,e,kvs,ep,lk,q2⟩=>?_);subst ep;obtain⟨rs,c,rk⟩:=ZcU (P:=X.prog) (w:=X.w) rel;obtain⟨z,hd,vs0,r0,dd⟩:=ZkT I2.hok e
 cases r0
 refine⟨rs,c,dd,fun h' dd' hs=>⟨.ref s.heap.objs.size,_,?_,rfl,q2⟩⟩;have hz:(Up [] kvs).length<=sizeLine:=by
  have h1:=Zbd kvs [];rw[yt] at h1;rw[sizeLine_eq];omega
 have he:∃q,h'.get? s.heap.objs.size=some q:=let ⟨q,_,_,hq,_⟩:=dd';⟨q,hq⟩;exact Bs I2 (by rw[e];exact z7) hs he (Zg7 hz hd (rk.merge .nil) dd')
section
variable {X:Cx}{jJ:List (Addr×Obj)}{σ:St}{H:Hp}{s:Shared}{a:Addr}{y d:V}{u r:Value}{o:Option V}{A:Around}{E:Value->Shared->Prop}
end
section
variable {X:Cx}{o e f:Expr}{apos cpos:Pos}{td ty tx:TE}
end
section
variable {X:Cx}{jJ:List (Addr×Obj)}{σ:St}{H:Hp}{s:Shared}{a:Addr}{kvs:List (Zt×V)}{A:Around}{E:Value->Shared->Prop}
end
section
variable {X:Cx}{jJ:List (Addr×Obj)}{σ:St}{H:Hp}{s:Shared}{a:Addr}{y:V}{u:Value}{A:Around}{E:Value->Shared->Prop}
end
end L2
namespace Att
open PySem.W PySem.Calls
theorem Zcq {P:Params}{h:Heap}:∀(ns:List Int) (vs:List Value),WellAll P h vs (ns.map WData.int)->IntsAre vs ns:=by
 intro ns
 induction ns with
 | nil=>
  intro vs w;rw[qaI] at w
  cases w
  exact .nil
 | cons n ns ih=>
  intro vs w;rw[zb] at w
  cases w with
  | cons a b=>
   cases a
   exact .cons _ _ (ih _ b)
theorem Zjl {l:OpenLaw}{n:Nat}(hn:l.most=some n){P:Params}{h:Heap}{args:List WData}{vals:List Value}
  (hpre:l.row.toRowW.claim.pre args=true) (hwl:WellAll P h vals args) :
  ∃a vs ns,vals=[qM a]/\args=[WData.list (ns.map WData.int)]/\h.get? a=some { cls:=.type "list",data:=.seq vs.toArray }/\IntsAre vs ns/\ns.length<=n:=by
 have hsh:WShape.hasAll [] args [.list .int]=true:=(pre_splitW hpre).1;have hc:l.pre.holds [] { args:=args }=true:=(pre_splitW hpre).2;obtain⟨d,r,rfl,h1,h2⟩:=hasAllW_cons hsh;obtain rfl:=hasAllW_nil h2;obtain⟨xs,rfl,h3⟩:=hasW_list h1;obtain⟨ns,rfl⟩:=items_int h3;have jS:ns.length<=n:=by
  unfold OpenLaw.pre at hc;have h4:(WTm.not (.lt (.lit (.int (n:Int))) (.len (.arg 0)))).holds [] { args:=[.list (ns.map .int)] }=true:=by
   have h4:=(holds_andW hc).1;rw[hn] at h4;exact h4
  have h5:=condW_of h4 (w_not (w_lt w_lit (w_len_list (w_arg rfl))));rw[qd] at h5;refine Nat.le_of_not_lt fun q=>?_;have q':(n:Int)<((ns.length:Nat):Int):=by omega
  first
   | (rw[decide_eq_true q'] at h5;exact absurd h5 (by decide))
   | (simp at h5;omega)
 cases hwl with
 | cons w1 w2=>
  cases w2
  cases w1 with
  | list ho hall=>exact⟨_,_,ns,rfl,rfl,ho,Zcq ns _ hall,jS⟩
theorem Zjm (l:OpenLaw)(args:List WData):l.row.toRowW.claim.post args (.bool true) args=true:=
 postW_of (r:=l.row.toRowW) (X:=(true==true))
  (show WShape.has [] (.bool true) .bool=true by first | rfl | decide | simp[WShape.has,WShape.arms,WShape.armsAll])
  (show(WTm.eq .res (.lit (.bool true))).value [] { args:=args,res:=some (.bool true),after:=args }=some (.bool (true==true)) from w_eq_bool (w_res rfl) w_lit) rfl
theorem attach_call {l:OpenLaw}{n:Nat}{q:Program}{loose:List Str}{XP:(Str->Option Value)->Heap->Prop}{YP:World->Heap->Prop}{d:DefRec}
  (hn:l.most=some n) (hdf:d.params.defaults=[])
  (call:∀(w:World) (s₀ s₁:Shared) (mg mb:Str->Option Value) (fa:Addr) (o:Obj) (pm cd doc:Value) (a:Addr) (vs:List Value) (ns:List Int),
   Ground q loose [] XP w s₀ mg mb s₁.heap->YP w s₁.heap->
   s₁.heap.get? fa=some o->o.data=.func (docDef d.name d.params d.body d.scope pm cd doc)->s₁.heap.CodeRec cd d.name->mg d.name=some (.ref fa)->
   s₁.heap.get? a=some { cls:=.type "list",data:=.seq vs.toArray }->IntsAre vs ns->ns.length<=n->s₁.gens = #[]->
   codeAny (model l.prog w) callerA (.call (.ref fa) ⟨[.ref a],[]⟩) (fun r s'=>r=.ok (.ret (.bool true))/\OldK s₁.heap s'.heap/\s'.os=s₁.os/\AllBare s'.gens) s₁) :
  WalkO q loose XP YP l.row.toRowW d [] (fun f vs=>qbG f vs):=by
 intro w s₀ s₁ mg mb G Y fa o pm cd doc dV kV ho hd hcd hD hmg hg args vals as hpre hlay hrd hwl hlo;obtain rfl:dV=.none:=Dflts.none hD hdf;obtain rfl:kV=.none:=Dflts.noKw hD;obtain⟨a,vs,ns,rfl,rfl,hobj,hints,jS⟩:=Zjl hn hpre hwl;refine enter_call (codeAny_mono (call w s₀ s₁ mg mb fa o pm cd doc a vs ns G Y ho (fd_plain hd) hcd hmg hobj hints jS hg) fun r s' hq=>?_);obtain⟨rfl,h2,h3,h4⟩:=hq;exact⟨.inl ⟨.bool true,.bool true,[],rfl,fun _=>rfl,.bool true,Zjm l _,fun _=>⟨qa2,fun _ hm=>(nomatch hm)⟩⟩,h2,h3,h4⟩
section
variable {prog:Program}{w:World}{A:Around}{E:Value->Shared->Prop}{s:Shared}{K:Frag}
end
end Att
namespace L2
theorem Zd9:∀{vs:List Value} {ns:List Int},IntsAre vs ns->Zw (ns.map V.int) vs
 | _,_,.nil=>.nil
 | _,_,.cons n t h=>.cons ⟨t,rfl⟩ (Zd9 h)
end L2
namespace L2
end L2
namespace L2
noncomputable def WW (s:Stmt):Arguments:=match s with
 | .FunctionDef _ a _ _ _ _ _ _ _ _=>a
 | _=>{ posonlyargs:=[],args:=[],vararg:=none,kwonlyargs:=[],kw_defaults:=[],kwarg:=none,defaults:=[] }
noncomputable def Wp (s:Stmt):List Stmt:=match s with
 | .FunctionDef _ _ b _ _ _ _ _ _ _=>b
 | _=>[]
noncomputable def Zx (s:Stmt):Scope:=match s with
 | .FunctionDef _ _ _ _ _ _ sc _ _ _=>sc
 | _=>{ kind:=.function,names:=[],isGenerator:=false,isCoroutine:=false }
noncomputable abbrev ZQ:X1:=fun _ _ _ _ _ _=>False
noncomputable abbrev E0:XK:=fun _ _ _=>False
theorem Zim {X:Cx}:ZeH ZQ X E0:=fun _ _ _ _ _ _ _ h=>h.elim
structure Fun (K:qk)(x qual:Str)(st:Stmt)(f:Addr)(fd:FuncData):Prop where
 ex:∃(oc:Value) (od:Option Addr) (kV doc pm:Value) (an:Option Addr) (cdv ct:Value) (osl:Array (Option Value)),
  fd=yd x qual (WW st) (Wp st) (Zx st) .none kV doc pm an cdv ct/\K.lookup f=some ⟨oc,od,.func fd,osl⟩/\qai K cdv qual=true
 kp:z0 K (.ref f)=true
section
variable {P:Program}{w:World}{K:qk}{mg:Str->Option Value}{base:Heap}
theorem Fun.ok {x qual:Str}{st:Stmt}{f:Addr}{fd:FuncData}{N ps:List Str}{k:Nat}{sp:Sp}(F:Fun K x qual st f fd)(S:FnScope N ps (Zx st))(len:∀vs H Q E,sp vs H Q E->vs.length=ps.length)
  (hbody:∀(cdv:Value) (A:Around) (outer:List Env) (s:Shared) (H:Hp) (vs:List V) (Q:VK) (E:XK),Room k (A.deeper (envOfC qual (Zx st) s.heap.objs.size f cdv))->sp vs H Q E->
   ∃t,Wk (W3 ZQ P w K mg base N qual (Zx st) f cdv A outer s H E).nox (Wp st) t/\t { nx:=fun _ H'=>Q .non H',rt:=Q } (start N vs) H):FnOk P w K mg base ZQ (k+1) f fd ps sp:=by
 obtain⟨oc,od,kV,doc,pm,an,cdv,ct,osl,rfl,lk,hcd⟩:=F.ex;refine Zn1 lk hcd S len fun A outer s H vs Q E hr hsp=>?_;obtain⟨t,h,q⟩:=hbody cdv A outer s H vs Q E hr hsp;exact⟨t,h.nox,q⟩
theorem Fun.binds {x qual:Str}{st:Stmt}{f:Addr}{fd:FuncData}{ps:List Str}(F:Fun K x qual st f fd)
  (h:∀(kV doc pm:Value) (an:Option Addr) (cdv ct:Value) (us:List Value),us.length=ps.length->bindArgs (yd x qual (WW st) (Wp st) (Zx st) .none kV doc pm an cdv ct) ⟨us,[]⟩=pure (ps.zip us)):XV K fd ps []:=by
 obtain⟨oc,od,kV,doc,pm,an,cdv,ct,osl,rfl,lk,hcd⟩:=F.ex;exact .all (h kV doc pm an cdv ct)
theorem ZoW {x qual:Str}{st:Stmt}{f:Addr}{oc:Value}{od an:Option Addr}{osl:Array (Option Value)}{kV doc pm cdv ct:Value}(l:K.lookup f=some ⟨oc,od,.func (yd x qual (WW st) (Wp st) (Zx st) .none kV doc pm an cdv ct),osl⟩)
  (c:qai K cdv qual=true) (k:z0 K (.ref f)=true):Fun K x qual st f (yd x qual (WW st) (Wp st) (Zx st) .none kV doc pm an cdv ct):=⟨⟨oc,od,kV,doc,pm,an,cdv,ct,osl,rfl,l,c⟩,k⟩
end
theorem hu_of {A:Around}{k:Nat}(hr:Room k A):A.units+1<cLine:=Nat.lt_of_le_of_lt (Nat.add_le_add_left (by decide:1<=64) _) hr.units
section
variable {X:Cx}
theorem pv (i:Nat){x:Str}{pos:Pos}(hN:X.N[i]?=some x:=by rfl)(hv:JZ X.env.scope x:=by first | exact qO rfl | exact yb (qO rfl) | exact yb (yb rfl))(hd:(x==("__debug__" : Str))=false:=by decide)
  (hcd:(x==("__classdict__" : Str))=false:=by decide):PE X (.Name x pos) (Yn i):=Zoy hN hv hd hcd
end
theorem VM {A B:Prop}(h:B):if false=true then A else B:=by
 rw[if_neg zX];exact h
theorem VN {A B:Prop}(h:A):if true=true then A else B:=by
 rw[if_pos rfl];exact h
section
variable {X:Cx}
end
section
variable {κ:Type}[DecidableEq κ]
end
end L2
namespace L2
theorem ZfN {prog:Program}{w:World}{A:Around}{R:Result->Shared->Prop}{s:Shared}{elt target iter:Expr}{ifs:List Expr}{scope:Scope}{pos:Pos}{it jR:Value}{env:Env}(I:Nat->Shared->Prop)
  (turn:∀n s,I n s->wpAny (model prog w) A (pyNext it) (fun r s₁=>match r with
   | none=>R (.ok .next) s₁
   | some v=>wpAny (model prog w) A (letOwnedTupleGo target it v) (fun _ s₁'=>wpAny (model prog w) A (assign target env v) (fun _ s₂=>
     wpAny (model prog w) A (forIn ifs true fun c r=>if r=true then do let ok<-isTrue c env (eval c env);pure (yM ok) else pure (yM r)) (fun ok s₃=>
      if ok=true then wpAny (model prog w) A (eval elt env) (fun x s₄=>
       wpAny (model prog w) A (call (.builtin "list.append") [jR,x]) (fun _ s₅=>∃m,m<n/\I m s₅) (notedBy (model prog w) A env fun e s'=>R (.error e) s') s₄) (notedBy (model prog w) A env fun e s'=>R (.error e) s') s₃
      else ∃m,m<n/\I m s₃) (notedBy (model prog w) A env fun e s'=>R (.error e) s') s₂) (notedBy (model prog w) A env fun e s'=>R (.error e) s') s₁') (notedBy (model prog w) A env fun e s'=>R (.error e) s') s₁) (notedBy (model prog w) A env fun e s'=>R (.error e) s') s)
  (n:Nat) (h:I n s) :
  codeAny (model prog w) A (.compLoop (.ListComp elt [⟨target,iter,ifs,0⟩] scope pos) 0 it jR env) R s:=by
 refine codeAny_loop rfl I (fun n s hI=>?_) n h;show wpAny _ A ((compTurn (.ListComp elt [⟨target,iter,ifs,0⟩] scope pos) 0 it jR env).onRaise (fun x=>do noteFrame x env;theTreesLotGoes x)) _ _ s;refine wpAny_noted ?_;rw[compTurn_list];refine wpAny_bind (wpAny_standAt (wpAny_bind (wpAny_mono (turn n s hI) (fun r s₁ h₁=>?_) fun _ _ h'=>h')))
 cases r with
 | none=>exact wpAny_pure h₁
 | some v=>
  refine wpAny_bind (wpAny_mono h₁ (fun _ s₁' h₁'=>?_) fun _ _ h'=>h');refine wpAny_bind (wpAny_mono h₁' (fun _ s₂ h₂=>wpAny_bind (wpAny_mono h₂ (fun ok s₃ h₃=>?_) fun _ _ h'=>h')) fun _ _ h'=>h')
  cases ok with
  | false=>exact wpAny_pure ⟨rfl,h₃⟩
  | true=>
   exact wpAny_bind (wpAny_bind (wpAny_mono h₃ (fun x s₄ h₄=>wpAny_bind (wpAny_mono h₄ (fun _ s₅ h₅=>wpAny_pure (wpAny_pure ⟨rfl,h₅⟩)) fun _ _ h'=>h')) fun _ _ h'=>h'))
noncomputable def blk (X:Cx)(jJ:List (Addr×Obj))(N':List Str)(scope:Scope)(cl:List (Str×Addr))(C:Addr)(s:Shared)(H:Hp)(fp:List Addr):Cx where
 prog:=X.prog
 w:=X.w
 K:=X.K
 mg:=X.mg
 base:=X.base
 A:=X.A
 N:=N'
 s₀:=s
 H₀:=H
 env:=compEnvC scope cl C X.env
 outer:=X.stack
 stack:=X.stack
 ex:=fp
 fn:=fun _=>false
 calm:=X.calm
 pn:=X.pn++jJ
 xe:=fun _ _=>False
noncomputable def Vq (X:Cx)(ifs:List Expr)(t:TT):Prop:=
 ∀(jJ:List (Addr×Obj)) (s:Shared) (σ:St) (H:Hp) (Q:Bool->Hp->Prop),Inv X jJ σ H s->t σ H Q->
  wpAny (model X.prog X.w) X.A (forIn ifs true fun c r=>if r=true then do let ok<-isTrue c X.env (eval c X.env);pure (yM ok) else pure (yM r)) (TP X jJ σ Q) X.xe s
noncomputable def Zin:TT:=fun _ H Q=>Q true H
theorem ZfO {X:Cx}:Vq X [] Zin:=fun _ _ _ H _ I h=>wpAny_pure ⟨H,I,h⟩
theorem ZfP {X:Cx}{c:Expr}{t:TT}(h:PT X c t):Vq X [c] t:=fun jJ s σ H Q I hq=>wpAny_tests_one (h jJ s σ H Q I hq)
structure BlkOk (X:Cx)(N':List Str)(src:List (Option Nat))(scope:Scope)(cl:List (Str×Addr)):Prop where
 clos:closureFor scope X.env=pure cl
 nocell:∀y∈scope.names,y.2≠.cell
 kind:scope.kind=.function
 names:∀y∈scope.names,y.2=.local->scope.names.lookup y.1=some .local
 len:src.length=N'.length
 cells:∀x c,cl.lookup x=some c->X.env.cells.lookup x=some c
 has:∀x,((relabel scope X.env).names.lookup x=some .cell∨(relabel scope X.env).names.lookup x=some .free)->∃c,cl.lookup x=some c
 from_:∀(i j:Nat) x,src[i]?=some (some j)->N'[i]?=some x->X.N[j]?=some x/\(X.env.kindOf x=some .cell∨X.env.kindOf x=some .free)/\((relabel scope X.env).names.lookup x=some .cell∨(relabel scope X.env).names.lookup x=some .free)
noncomputable def VD (src:List (Option Nat))(σ:St):St:=src.map fun o=>o.bind fun j=>(σ[j]?).bind id
theorem ZmZ {X:Cx}{jJ:List (Addr×Obj)}{σ:St}{H:Hp}{s s1:Shared}{N':List Str}{src:List (Option Nat)}{scope:Scope}{cl:List (Str×Addr)}{C:Addr}{fp:List Addr}{m:Str->Option Value}
  (B:BlkOk X N' src scope cl) (I:Inv X jJ σ H s) (hf:∀b∈fp,WK X jJ H b) (hC:s.heap.objs.size<=C) (hCf:∀b∈fp,b≠C)
  (hs:s1.os=s.os) (hg:s1.gens=s.gens) (hk:∀b o,s.heap.get? b=some o->s1.heap.get? b=some o) (hn:s1.heap.Ns C m):Inv (blk X jJ N' scope cl C s H fp) [] (VD src σ) H s1:=by
 have noC:∀b o,s.heap.get? b=some o->b≠C:=fun b o e=>qQ (qT (qH e) hC);refine⟨⟨I.ok.mod,B.kind,I.ok.glob,I.ok.blt,hC,fun x y c h1 h2=>I.ok.inj x y c (B.cells _ _ h1) (B.cells _ _ h2),fun x hx=>B.has x hx,fun x c hf _=>(by cases hf),I.ok.hd,I.ok.frames,.inl rfl,fun b hb=>?_,I.bs,qZ I.ok.bsz I.sz,fun b o e hb=>?_,fun b hb z=>?_,I.stack,I.stkFree⟩,
  hs,by rw[hg];exact I.bare,Un.kept hk,⟨m,hn,fun i x v h1 h2 h3=>?_⟩,fun x c e=>?_,I.hok.fresh hC,fun x c e=>I.freeC x c (B.cells _ _ e),fun p hp=>?_,I.hok.kept hk,?_⟩
 ·obtain⟨f0,f1,f2,f3,f4,f5⟩:=hf b hb
  exact⟨hCf b hb,fun x c e=>f4 x c (B.cells _ _ e)⟩
 ·obtain⟨f0,f1,f2,f3,f4,f5⟩:=hf b hb
  rcases f3 with z | z
  ·exact I.ok.noex b o e z
  ·exact absurd (qT (qH (I.ok.bs b o e).1) z) (yj _)
 ·obtain⟨f0,f1,f2,f3,f4,f5⟩:=hf b hb
  rcases qu.mp (I.stkSub b z) with e | e
  ·exact f1 e
  ·exact f2 e
 ·have h2':(VD src σ)[i]?=some (some v):=h2
  unfold VD at h2';rw[qD] at h2'
  cases e:src[i]? with
  | none=>rw[e] at h2';cases h2'
  | some o=>
   rw[e] at h2'
   cases o with
   | none=>simp at h2'
   | some j=>
    obtain⟨q1,q2,q3⟩:=B.from_ i j x e h1;have hj:σ[j]?=some (some v):=by
     simp only[zV,qa8,qa3] at h2'
     cases e2:σ[j]? with
     | none=>rw[e2] at h2';cases h2'
     | some o2=>rw[e2] at h2';simp at h2';rw[h2']
    obtain⟨mm,hnn,hl⟩:=I.loc;have vis:JZ X.env.scope x:=by
     rcases q2 with z | z
     ·exact .inr (.inl z)
     ·exact .inr (.inr z)
    obtain⟨u,r,l⟩:=hl j x v q1 hj vis;refine⟨u,r,?_⟩;rcases l with⟨k,_⟩ | ⟨_,c,ec,z⟩
    ·rcases q2 with z | z <;> rw[z] at k <;> cases k
    ·obtain⟨c',ec'⟩:=B.has x q3
     have ee:c'=c:=by
      have:=B.cells _ _ ec';rw[ec] at this;exact(zi this).symm
     subst ee;obtain⟨o,ho,hd⟩:=z;exact .inr ⟨q3,c',ec',o,hk _ _ ho,hd⟩
 ·obtain⟨v,o,ho,hd⟩:=I.cell x c (B.cells _ _ e)
  exact⟨v,o,hk _ _ ho,hd⟩
 ·have hp':p∈X.pn++jJ:=by simpa[blk] using hp
  obtain⟨e,n,ne,nf,d⟩:=I.pin p hp';refine⟨hk _ _ e,n,noC _ _ e,fun z=>?_,d⟩;rcases qu.mp (I.stkSub p.1 z) with q | q
  ·exact ne q
  ·exact nf q
 ·show(VD src σ).length=N'.length
  unfold VD;rw[qd,B.len]
noncomputable def JP (src:List (Option Nat))(wi:TI)(g:TG)(tt:TT)(te:TE):TE:=fun σ H Q=>wi σ H fun J H1=>∀p,H1 p=none->
 ∃W:Nat->Nat->St->Hp->Prop,(∃m,W 0 m (VD src σ) (Zm H1 p (.lst [])))/\∀i m σ2 H2,W i m σ2 H2->
  (J.stop i H2/\Q (.ref p) H2)∨(J.go i H2/\∀x H3,J.yld i H2 x H3->g x σ2 H3 fun σ4 H4=>tt σ4 H4 fun ok H5=>
   if ok=true then te σ4 H5 fun y H6=>∃xs,H6 p=some (.lst xs)/\xs.length<sizeLine/\∃m',m'<m/\W (i+1) m' σ4 (Zm H6 p (.lst (xs ++ [y])))
   else ∃m',m'<m/\W (i+1) m' σ4 H5)
theorem Zea {X:Cx}{elt tg iter:Expr}{ifs:List Expr}{scope:Scope}{pos:Pos}{N':List Str}{src:List (Option Nat)}{cl:List (Str×Addr)}{g:TG}{tt:TT}{te:TE}
  {jJ:List (Addr×Obj)} {σ:St} {H2:Hp} {s₂:Shared} {it:Addr} {fp:List Addr} {tn:Nat->Heap->Prop} {J:It} {Qp:Addr->Hp->Prop} {RR:Value->Addr->Result->Shared->Prop} {E:Value->Shared->Prop}
  (hc:X.calm=true) (B:BlkOk X N' src scope cl)
  (hg:∀jJ C s H fp,PG (blk X jJ N' scope cl C s H fp) tg g) (ht:∀jJ C s H fp,Vq (blk X jJ N' scope cl C s H fp) ifs tt) (he:∀jJ C s H fp,PE (blk X jJ N' scope cl C s H fp) elt te)
  (I2:Inv X jJ σ H2 s₂) (T:Turn X.prog X.w X.K tg J fp it tn) (jX:tn 0 s₂.heap) (f2:∀b∈fp,WK X jJ H2 b)
  (q2:∀p,H2 p=none->∃W:Nat->Nat->St->Hp->Prop,(∃m,W 0 m (VD src σ) (Zm H2 p (.lst [])))/\∀i m σ2 H2,W i m σ2 H2->
   (J.stop i H2/\Qp p H2)∨(J.go i H2/\∀x H3,J.yld i H2 x H3->g x σ2 H3 fun σ4 H4=>tt σ4 H4 fun ok H5=>
    if ok=true then te σ4 H5 fun y H6=>∃xs,H6 p=some (.lst xs)/\xs.length<sizeLine/\∃m',m'<m/\W (i+1) m' σ4 (Zm H6 p (.lst (xs ++ [y])))
    else ∃m',m'<m/\W (i+1) m' σ4 H5))
  (hfin:∀p C s6 H5 mm,Inv X jJ σ H5 s6->s6.heap.Ns C mm->WK X jJ H5 C->Qp p H5->RR (.ref p) C (.ok .next) s6) :
  wpAny (model X.prog X.w) X.A (newList []) (fun jR s₃=>wpAny (model X.prog X.w) X.A (newFunctionEnv scope X.env.globals cl [] X.env.qual none .none (some X.env)) (fun cenv s₄=>
   codeAny (model X.prog X.w) X.A (.compStart (.ListComp elt [⟨tg,iter,ifs,0⟩] scope pos) 0 (.ref it) jR { cenv with scope:=relabel scope X.env }) (RR jR cenv.locals) s₄) E s₃) E s₂:=by
 have fpold:∀b∈fp,b<s₂.heap.objs.size:=fun b hb=>by
  obtain⟨o,e,_⟩:=T.obj _ _ jX b hb;exact qH e
 have q2:=q2 s₂.heap.objs.size (I2.hok.fresh (qw _));obtain⟨W,⟨m0,w0⟩,turn⟩:=q2
 -- the new list
 refine wpAny_newObj_type ?_;have I3:Inv X jJ σ (Zm H2 s₂.heap.objs.size (.lst [])) { s₂ with heap:=s₂.heap.push { cls:=.type "list",dict:=none,data:=.seq ([]:List Value).toArray } }:=
  I2.lnew (t':=s₂.toks) (ys:=[]) .nil (zk _)
 have st3:tn 0 (s₂.heap.push { cls:=.type "list",dict:=none,data:=.seq ([]:List Value).toArray }):=T.keep _ _ _ jX fun b _ o e=>qq _ e;have f3:∀b∈fp,WK X jJ (Zm H2 s₂.heap.objs.size (.lst [])) b:=fun b hb=>by
  obtain⟨f0,f1⟩:=f2 b hb;exact⟨by rw[Zp (qQ (fpold b hb))];exact f0,f1⟩
 generalize hs3:({ s₂ with heap:=s₂.heap.push { cls:=.type "list",dict:=none,data:=.seq ([]:List Value).toArray } }:Shared)=s₃ at I3;have st3':tn 0 s₃.heap:=by rw[<-hs3];exact st3
 have lt3:s₂.heap.objs.size<s₃.heap.objs.size:=by rw[<-hs3];show _<(Heap.push _ _).objs.size;rw[Heap.size_push];exact yR _
 refine wpAny_newFunctionEnv B.nocell (by intro y hy;simp at hy) (fun h₁ hns₁ hsb₁=>?_) B.kind;have kp1:∀b o,s₃.heap.get? b=some o->h₁.get? b=some o:=fun b o e=>hsb₁.extBut b o (qQ (qH e)) (qq _ e);have I4:=ZmZ (s1:={ s₃ with heap:=h₁,toks:=s₃.toks+([]:List (Str×Value)).length }) (C:=s₃.heap.objs.size) B I3 f3 (qw _) (fun b hb=>qQ (qbT (fpold b hb) lt3)) rfl rfl kp1 hns₁;have st4:tn 0 h₁:=T.keep _ _ _ st3' fun b _ o e=>kp1 b o e;show codeAny (model X.prog X.w) X.A (.compStart (.ListComp elt [⟨tg,iter,ifs,0⟩] scope pos) 0 (.ref it) (.ref s₂.heap.objs.size) (compEnvC scope cl s₃.heap.objs.size X.env)) (RR (.ref s₂.heap.objs.size) s₃.heap.objs.size) _;generalize hs4:({ s₃ with heap:=h₁,toks:=s₃.toks+([]:List (Str×Value)).length }:Shared)=s₄ at I4;have st4':tn 0 s₄.heap:=by rw[<-hs4];exact st4
 have blkX:∀{b:Addr} {H':Hp},b∈fp->H' b=none->WK (blk X jJ N' scope cl s₃.heap.objs.size s₃ (Zm H2 s₂.heap.objs.size (.lst [])) fp) [] H' b:=fun {b H'} hb hn=>by
  obtain⟨f0,f1,f2',f3',f4',f5'⟩:=f3 b hb;refine⟨hn,qQ (qbT (fpold b hb) lt3),fun z=>?_,.inl hb,fun x c e=>f4' x c (B.cells _ _ e),fun p hp=>?_⟩
  ·rcases qu.mp (I3.stkSub b z) with e | e
   ·exact f1 e
   ·exact f2' e
  ·exact f5' p (by simpa[blk] using hp)
 have loop:codeAny (model X.prog X.w) X.A (.compLoop (.ListComp elt [⟨tg,iter,ifs,0⟩] scope pos) 0 (.ref it) (.ref s₂.heap.objs.size) (compEnvC scope cl s₃.heap.objs.size X.env)) (RR (.ref s₂.heap.objs.size) s₃.heap.objs.size) s₄:=by
  refine ZfN (fun n s'=>∃i σ' H',Inv (blk X jJ N' scope cl s₃.heap.objs.size s₃ (Zm H2 s₂.heap.objs.size (.lst [])) fp) [] σ' H' s'/\tn i s'.heap/\(∀b∈fp,H' b=none)/\W i n σ' H') ?_ m0 ⟨0,_,_,I4,st4',fun b hb=>(f3 b hb).1,w0⟩;rintro n s5 ⟨i,σ5,H5,I5,st5,fr5,w5⟩;rcases turn i n σ5 H5 w5 with⟨stop,qn⟩ | ⟨go,step⟩
  ·refine wpAny_mono (T.done (blk X jJ N' scope cl s₃.heap.objs.size s₃ (Zm H2 s₂.heap.objs.size (.lst [])) fp) rfl rfl rfl hc i [] s5 σ5 H5 (fun _ _=>False) I5 (fun b hb=>blkX hb (fr5 b hb)) st5 stop) (fun r s6 ⟨hr,I6⟩=>?_) fun _ _ f=>f.elim
   subst hr;obtain⟨mm,hnn,_⟩:=id I6.loc;have nC:H5 s₃.heap.objs.size=none:=I6.free;have J1:Inv X jJ σ H5 s6:=by
    refine I3.call' (ch:=fp) I6.os I6.base I6.hok I6.bare fun b hb=>?_;obtain⟨f0,f1,f2',f3',f4',f5'⟩:=f3 b hb;exact⟨f3',f1,f4',f5'⟩
   exact hfin _ _ s6 H5 mm J1 hnn (I3.fpOk (qw _) nC) qn
  ·refine wpAny_mono (T.item (blk X jJ N' scope cl s₃.heap.objs.size s₃ (Zm H2 s₂.heap.objs.size (.lst [])) fp) rfl rfl rfl hc i [] s5 σ5 H5 (fun _ _=>False) I5 (fun b hb=>blkX hb (fr5 b hb)) st5 go) (fun r s6 ⟨u,hr,h6⟩=>?_) fun _ _ f=>f.elim
   subst hr;refine wpAny_mono h6 (fun _ s7 ⟨x,H7,I7,r7,y7,st7,fr7⟩=>?_) fun _ _ f=>f.elim;have I7':=I7.pinned (fun b hb=>blkX hb (fr7 b hb)) (T.obj _ _ st7);refine wpAny_mono (hg _ _ _ _ _ _ s7 σ5 H7 x u _ I7' r7 (step x H7 y7)) (fun _ s8 ⟨σ8,H8,I8,q8⟩=>?_) fun _ _ f=>f.elim;refine wpAny_mono (ht _ _ _ _ _ _ s8 σ8 H8 _ I8 q8) (fun ok s9 ⟨H9,I9,q9⟩=>?_) fun _ _ f=>f.elim;have again:∀{σ7:St} {H7:Hp} {sz:Shared},Inv (blk X jJ N' scope cl s₃.heap.objs.size s₃ (Zm H2 s₂.heap.objs.size (.lst [])) fp) ([]++BB fp s7.heap) σ7 H7 sz->(∃m',m'<n/\W (i+1) m' σ7 H7)->
     ∃m,m<n/\∃i σ' H',Inv (blk X jJ N' scope cl s₃.heap.objs.size s₃ (Zm H2 s₂.heap.objs.size (.lst [])) fp) [] σ' H' sz/\tn i sz.heap/\(∀b∈fp,H' b=none)/\W i m σ' H':=fun {σ7 H7 sz} Iz ⟨m',hm,wz⟩=>by
    refine⟨m',hm,i+1,σ7,H7,Iz.unpinned,T.keep _ _ _ st7 fun b hb o e=>(Iz.pin (b,o) (qj _ (qj _ (Jo hb e)))).1,fun b hb=>?_,wz⟩;obtain⟨o,e,d⟩:=T.obj _ _ st7 b hb;exact(Iz.pin (b,o) (qj _ (qj _ (Jo hb e)))).2.1
   cases ok with
   | false=>
    show ∃m,m<n/\_;exact again I9 (by simpa using q9)
   | true=>
    have q9':te σ8 H9 fun y H6=>∃xs,H6 s₂.heap.objs.size=some (.lst xs)/\xs.length<sizeLine/\∃m',m'<n/\W (i+1) m' σ8 (Zm H6 s₂.heap.objs.size (.lst (xs ++ [y]))):=by simpa using q9
    show wpAny _ _ _ _ _ _;refine wpAny_mono (he _ _ _ _ _ _ s9 σ8 H9 _ I9 q9') (fun y sA ⟨yv,HA,IA,rA,xs,eA,zA,mA⟩=>?_) fun _ _ f=>f.elim;refine wpAny_mono (Zd6 (X:=blk X jJ N' scope cl s₃.heap.objs.size s₃ (Zm H2 s₂.heap.objs.size (.lst [])) fp) _ sA σ8 HA (.ref s₂.heap.objs.size) [yv] (.ref s₂.heap.objs.size) [y] (fun _ HB=>HB=Zm HA s₂.heap.objs.size (.lst (xs ++ [yv]))) IA rfl (.cons rA .nil) ⟨_,xs,yv,rfl,rfl,eA,zA,rfl⟩) (fun _ sB ⟨_,HB,IB,_,eB⟩=>?_) fun _ _ f=>f.elim;subst eB;exact again IB mA
 exact codeAny_compStart_list loop (T.self _ 0 _ _ _ st4' loop)
theorem Zio {X:Cx}{elt tg iter:Expr}{ifs:List Expr}{scope:Scope}{pos:Pos}{N':List Str}{src:List (Option Nat)}{cl:List (Str×Addr)}{wi:TI}{g:TG}{tt:TT}{te:TE}
  (hc:X.calm=true) (B:BlkOk X N' src scope cl) (hi:PI X tg iter wi)
  (hg:∀jJ C s H fp,PG (blk X jJ N' scope cl C s H fp) tg g) (ht:∀jJ C s H fp,Vq (blk X jJ N' scope cl C s H fp) ifs tt) (he:∀jJ C s H fp,PE (blk X jJ N' scope cl C s H fp) elt te)
  (hs:∀x,foldedSetIterable iter X.env x=pure x:=by intro _;rfl):PE X (.ListComp elt [⟨tg,iter,ifs,0⟩] scope pos) (JP src wi g tt te):=by
 intro jJ s σ H Q I h;rw[eval_ListComp];refine wpAny_comprehension_free (use:=none) rfl hs B.clos B.kind B.names (wpAny_mono (hi jJ s σ H _ I h) (fun xv s₁ h₁=>wpAny_mono h₁ (fun it s₂ h₂=>?_) fun _ _ e=>e) fun _ _ e=>e);obtain⟨it,fp,tn,J,H2,e,I2,T,jX,f2,q2⟩:=h₂;subst e;refine Zea (RR:=fun jR C=>compPost (model X.prog X.w) X.A X.xe none (EP X jJ σ Q) jR C) (Qp:=fun p H=>Q (.ref p) H) hc B hg ht he I2 T jX f2 q2 ?_;intro p C s6 H5 mm J1 hnn fC qn;refine⟨mm,hnn,fun h' sb=>?_⟩;obtain⟨c0,c1,c2,c3,c4,c5⟩:=fC;exact⟨.ref p,H5,J1.turned (t':=s6.toks) (it:=C) (fun b o hb e=>(sb.2 b hb).trans e) c0 c1 c3 c4 c5,rfl,qn⟩
theorem Zm0 {X:Cx}{elt tg iter:Expr}{ifs:List Expr}{scope:Scope}{pos pos' spos:Pos}{N':List Str}{src:List (Option Nat)}{cl:List (Str×Addr)}{wi:TI}{g:TG}{tt:TT}{te:TE}{i:Nat}{x:Str}
  (hN:X.N.Nodup) (hi':X.N[i]?=some x) (hx:Wy X.env.scope x)
  (hc:X.calm=true) (B:BlkOk X N' src scope cl) (hi:PI X tg iter wi)
  (hg:∀jJ C s H fp,PG (blk X jJ N' scope cl C s H fp) tg g) (ht:∀jJ C s H fp,Vq (blk X jJ N' scope cl C s H fp) ifs tt) (he:∀jJ C s H fp,PE (blk X jJ N' scope cl C s H fp) elt te)
  (hsw:swapsWith (.ListComp elt [⟨tg,iter,ifs,0⟩] scope pos) (some (.Name x pos')) spos.line X.env=pure true:=by rfl)
  (hs:∀x,foldedSetIterable iter X.env x=pure x:=by intro _;rfl)
  (hf:X.fn x=true∨X.env.scope.names.lookup x=some .local:=by first | exact .inl rfl | exact .inr rfl | assumption) :
  PS X (.Assign [.Name x pos'] (.ListComp elt [⟨tg,iter,ifs,0⟩] scope pos) spos) (fun D σ H=>JP src wi g tt te σ H fun y H1=>D.nx (σ.set i (some y)) H1):=by
 intro jJ s σ H D I h;rw[exec_Assign_Name_used _ _ _ _ hsw];refine wpAny_bind (wpAny_standAt (wpAny_bind ?_));show wpAny _ _ (do let _<-comprehension (.ListComp elt [⟨tg,iter,ifs,0⟩] scope pos) scope X.env _ (newList []) false (eval iter X.env) (some (assign (.Name x pos') X.env))) _ _ s;refine wpAny_bind (wpAny_mono (wpAny_comprehension_free (use:=some (assign (.Name x pos') X.env)) (Q:=fun _ s'=>SP X jJ D .next s') rfl hs B.clos B.kind B.names
  (wpAny_mono (hi jJ s σ H _ I h) (fun xv s₁ h₁=>wpAny_mono h₁ (fun it s₂ h₂=>?_) fun _ _ e=>e) fun _ _ e=>e)) (fun _ s' hq=>wpAny_pure (wpAny_pure hq)) fun _ _ e=>e)
 obtain⟨it,fp,tn,J,H2,e,I2,T,jX,f2,q2⟩:=h₂;subst e;refine Zea (RR:=fun jR C=>compPost (model X.prog X.w) X.A X.xe (some (assign (.Name x pos') X.env)) (fun _ s'=>SP X jJ D .next s') jR C) (Qp:=fun p H=>D.nx (σ.set i (some (.ref p))) H) hc B hg ht he I2 T jX f2 q2 ?_;intro p C s6 H5 mm J1 hnn fC qn;obtain⟨oC,es,ep,hoC,hdC,hrC⟩:=id hnn;have fC':∀b∈[C],WK X jJ H5 b:=by
  intro b hb;have e:b=C:=by simpa using hb
  rw[e];exact fC
 have oC':∀b∈[C],∃o,s6.heap.get? b=some o/\∀v,o.data≠.cell v:=by
  intro b hb;have e:b=C:=by simpa using hb
  rw[e];exact⟨oC,hoC,fun v z=>by rw[hdC] at z;cases z⟩
 have J2:=J1.pinned (fp:=[C]) fC' oC';show wpAny _ _ (assign (.Name x pos') X.env (.ref p)) _ _ _;refine wpAny_mono (Wg (X:=X) (pos:=pos') hN hi' hx hf _ s6 σ H5 (.ref p) (.ref p) (fun σ' H'=>σ'=σ.set i (some (.ref p))/\H'=H5) J2 rfl ⟨rfl,rfl⟩) (fun _ s7 ⟨σ7,H7,I7,e7,e7'⟩=>?_) fun _ _ e=>e;subst e7 e7';have pC:=I7.pin (C,oC) (qj _ (qj _ (Jo (by simp) hoC)));refine⟨mm,⟨oC,es,ep,pC.1,hdC,hrC⟩,fun h' sb=>?_⟩;obtain⟨c0,c1,c2,c3,c4,c5⟩:=fC;exact⟨_,_,(I7.unpinned).turned (t':=s7.toks) (it:=C) (fun b o hb e=>(sb.2 b hb).trans e) c0 c1 c3 c4 c5,qn⟩
end L2
namespace TF
open L2
inductive D where
 | non | bl (b:Bool) | int (i:Int) | str (x:Str) | tup (xs:List D) | lst (xs:List D)
 | dk (kvs:List (Zt×V)) | dt (kvs:List (List Zt×V)) | du (kvs:List (List Zt×V)) | df (kvs:List (Zt×V)) | pen | ty (n:String) | clo (t:Nat) (caps:List D)
noncomputable abbrev St:=L2.St
noncomputable abbrev Pn:=List Int×List Int
noncomputable abbrev M (α:Type):=Pn->Option (α×Pn)
noncomputable abbrev Zb:=List (Option D)
noncomputable def ZB {α:Type}(a:α):M α:=fun s=>some (a,s)
noncomputable def Zn {α β:Type}(m:M α)(k:α->M β):M β:=fun s=>match m s with | none=>none | some p=>k p.1 p.2
noncomputable def ZG {α:Type}:M α:=fun _=>none
noncomputable def YR {α:Type}(o:Option α):M α:=fun s=>match o with | none=>none | some a=>some (a,s)
theorem Zy {α β:Type}{m:M α}{k:α->M β}{s s':Pn}{b:β}(h:Zn m k s=some (b,s')):∃a s1,m s=some (a,s1)/\k a s1=some (b,s'):=by
 unfold Zn at h
 cases e:m s with
 | none=>rw[e] at h;cases h
 | some p=>rw[e] at h;exact⟨p.1,p.2,rfl,h⟩
theorem ZL {α:Type}{a b:α}{s s':Pn}(h:ZB a s=some (b,s')):b=a/\s'=s:=by
 unfold ZB at h
 cases h
 exact⟨rfl,rfl⟩
theorem Wf {α:Type}{o:Option α}{b:α}{s s':Pn}(h:YR o s=some (b,s')):o=some b/\s'=s:=by
 unfold YR at h
 cases e:o with
 | none=>rw[e] at h;cases h
 | some a=>rw[e] at h;cases h;exact⟨rfl,rfl⟩
structure Gh where
 fp:Addr->Prop
 rd:Addr->Prop
 pen:V
 st:Pn->Hp->Prop
 mono:∀s H H',st s H->(∀b o,rd b->H b=some o->H' b=some o)->(∀b φ,H b=some (.ext φ)->H' b=some (.ext φ))->st s H'
 sub:∀b,fp b->rd b
 dom:∀s H b,st s H->rd b->∃o,H b=some o
 ntp:∀s H b vs,st s H->fp b->H b≠some (.tup vs)
 clo:Nat->V->List V->Prop:=fun _ _ _=>False
mutual
noncomputable def Zk (G:Gh)(H:Hp):D->V->Prop
 | .non,v=>v=.non
 | .bl b,v=>v=.bl b
 | .int i,v=>v=.int i
 | .str x,v=>v=.str x
 | .tup ds,v=>∃a vs,v=.ref a/\¬G.fp a/\H a=some (.tup vs)/\Zi G H ds vs
 | .lst ds,v=>∃a vs,v=.ref a/\¬G.fp a/\H a=some (.lst vs)/\Zi G H ds vs
 | .dk kvs,v=>∃a,v=.ref a/\¬G.fp a/\H a=some (.dK kvs)
 | .dt kvs,v=>∃a o,v=.ref a/\¬G.fp a/\H a=some (.frz o (.dT kvs))
 | .du kvs,v=>∃a,v=.ref a/\¬G.fp a/\H a=some (.dT kvs)
 | .df kvs,v=>∃a o,v=.ref a/\¬G.fp a/\H a=some (.frz o (.dK kvs))
 | .pen,v=>v=G.pen
 | .ty n,v=>v=.ty n
 | .clo t ds,v=>∃vs,G.clo t v vs/\Zi G H ds vs
noncomputable def Zi (G:Gh)(H:Hp):List D->List V->Prop
 | [],vs=>vs=[]
 | d::ds,vs=>∃v r,vs=v::r/\Zk G H d v/\Zi G H ds r
end
noncomputable def Zz (G:Gh)(H H':Hp):Prop:=∀b o,¬G.fp b->H b=some o->H' b=some o
theorem Zz.refl (G:Gh)(H:Hp):Zz G H H:=fun _ _ _ e=>e
theorem Zz.trans {G:Gh}{H H1 H2:Hp}(a:Zz G H H1)(b:Zz G H1 H2):Zz G H H2:=fun c o n e=>b c o n (a c o n e)
mutual
theorem Zk.ext {G:Gh}{H H':Hp}(e:Zz G H H'):∀{d:D} {v:V},Zk G H d v->Zk G H' d v
 | .non,_,h=>h
 | .bl _,_,h=>h
 | .int _,_,h=>h
 | .str _,_,h=>h
 | .tup ds,v,h=>by
  unfold Zk at h⊢;obtain⟨a,vs,e1,n,e2,r⟩:=h;exact⟨a,vs,e1,n,e _ _ n e2,Zi.ext e r⟩
 | .lst ds,v,h=>by
  unfold Zk at h⊢;obtain⟨a,vs,e1,n,e2,r⟩:=h;exact⟨a,vs,e1,n,e _ _ n e2,Zi.ext e r⟩
 | .dk kvs,v,h=>by
  unfold Zk at h⊢;obtain⟨a,e1,n,e2⟩:=h;exact⟨a,e1,n,e _ _ n e2⟩
 | .dt kvs,v,h=>by
  unfold Zk at h⊢;obtain⟨a,o,e1,n,e2⟩:=h;exact⟨a,o,e1,n,e _ _ n e2⟩
 | .df kvs,v,h=>by
  unfold Zk at h⊢;obtain⟨a,o,e1,n,e2⟩:=h;exact⟨a,o,e1,n,e _ _ n e2⟩
 | .du kvs,v,h=>by
  unfold Zk at h⊢;obtain⟨a,e1,n,e2⟩:=h;exact⟨a,e1,n,e _ _ n e2⟩
 | .pen,_,h=>h
 | .ty _,_,h=>h
 | .clo t ds,v,h=>by
  unfold Zk at h⊢;obtain⟨vs,c,r⟩:=h;exact⟨vs,c,Zi.ext e r⟩
theorem Zi.ext {G:Gh}{H H':Hp}(e:Zz G H H'):∀{ds:List D} {vs:List V},Zi G H ds vs->Zi G H' ds vs
 | [],_,h=>h
 | d::ds,vs,h=>by
  unfold Zi at h⊢;obtain⟨v,r,e1,r1,r2⟩:=h;exact⟨v,r,e1,Zk.ext e r1,Zi.ext e r2⟩
end
section
variable {G:Gh}{H:Hp}
theorem jb {ds:List D}{v:V}:Zk G H (.tup ds) v↔∃a vs,v=.ref a/\¬G.fp a/\H a=some (.tup vs)/\Zi G H ds vs:=by unfold Zk;exact yB
theorem jc {ds:List D}{v:V}:Zk G H (.lst ds) v↔∃a vs,v=.ref a/\¬G.fp a/\H a=some (.lst vs)/\Zi G H ds vs:=by unfold Zk;exact yB
theorem jk {kvs:List (Zt×V)}{v:V}:Zk G H (.dk kvs) v↔∃a,v=.ref a/\¬G.fp a/\H a=some (.dK kvs):=by unfold Zk;exact yB
theorem jl {kvs:List (List Zt×V)}{v:V}:Zk G H (.dt kvs) v↔∃a o,v=.ref a/\¬G.fp a/\H a=some (.frz o (.dT kvs)):=by unfold Zk;exact yB
theorem jm {kvs:List (List Zt×V)}{v:V}:Zk G H (.du kvs) v↔∃a,v=.ref a/\¬G.fp a/\H a=some (.dT kvs):=by unfold Zk;exact yB
theorem jr {kvs:List (Zt×V)}{v:V}:Zk G H (.df kvs) v↔∃a o,v=.ref a/\¬G.fp a/\H a=some (.frz o (.dK kvs)):=by unfold Zk;exact yB
theorem ja {i:Int}{v:V}:Zk G H (.int i) v↔v=.int i:=by unfold Zk;exact yB
theorem je {b:Bool}{v:V}:Zk G H (.bl b) v↔v=.bl b:=by unfold Zk;exact yB
theorem jh {b:Str}{v:V}:Zk G H (.str b) v↔v=.str b:=by unfold Zk;exact yB
theorem jg {v:V}:Zk G H .non v↔v=.non:=by unfold Zk;exact yB
theorem jp {v:V}:Zk G H .pen v↔v=G.pen:=by unfold Zk;exact yB
theorem js {n:String}{v:V}:Zk G H (.ty n) v↔v=.ty n:=by unfold Zk;exact yB
theorem jw {t:Nat}{ds:List D}{v:V}:Zk G H (.clo t ds) v↔∃vs,G.clo t v vs/\Zi G H ds vs:=by unfold Zk;exact yB
theorem Zi.nil_iff {vs:List V}:Zi G H [] vs↔vs=[]:=by unfold Zi;exact yB
theorem jd {d:D}{ds:List D}{vs:List V}:Zi G H (d::ds) vs↔∃v r,vs=v::r/\Zk G H d v/\Zi G H ds r:=by
 constructor
 ·intro h;unfold Zi at h;exact h
 ·intro h;unfold Zi;exact h
theorem Zi.length:∀{ds:List D} {vs:List V},Zi G H ds vs->ds.length=vs.length
 | [],vs,h=>by rw[Zi.nil_iff.mp h];rfl
 | d::ds,vs,h=>by
  obtain⟨v,r,rfl,_,h2⟩:=jd.mp h;simp[Zi.length h2]
theorem Zi.get:∀{ds:List D} {vs:List V} {i:Nat} {d:D},Zi G H ds vs->ds[i]?=some d->∃v,vs[i]?=some v/\Zk G H d v
 | [],_,_,_,_,e=>by simp at e
 | d::ds,vs,0,d',h,e=>by
  obtain⟨v,r,rfl,h1,_⟩:=jd.mp h;simp at e;subst e;exact⟨v,rfl,h1⟩
 | d::ds,vs,i+1,d',h,e=>by
  obtain⟨v,r,rfl,_,h2⟩:=jd.mp h;obtain⟨u,e1,e2⟩:=Zi.get h2 (i:=i) (d:=d') (by simpa using e);exact⟨u,by simpa using e1,e2⟩
theorem Zi.append:∀{ds es:List D} {vs us:List V},Zi G H ds vs->Zi G H es us->Zi G H (ds++es) (vs++us)
 | [],es,vs,us,h,h'=>by rw[Zi.nil_iff.mp h];exact h'
 | d::ds,es,vs,us,h,h'=>by
  obtain⟨v,r,rfl,h1,h2⟩:=jd.mp h;exact jd.mpr ⟨v,r++us,rfl,h1,Zi.append h2 h'⟩
theorem Zi.one {d:D}{v:V}(h:Zk G H d v):Zi G H [d] [v]:=jd.mpr ⟨v,[],rfl,h,Zi.nil_iff.mpr rfl⟩
theorem Zi.cons {d:D}{v:V}{ds:List D}{vs:List V}(h:Zk G H d v)(h2:Zi G H ds vs):Zi G H (d::ds) (v::vs):=jd.mpr ⟨v,vs,rfl,h,h2⟩
theorem Zi.set:∀{ds:List D} {vs:List V} {d:D} {v:V} (i:Nat),Zi G H ds vs->Zk G H d v->Zi G H (ds.set i d) (vs.set i v)
 | [],vs,d,v,i,h,_=>by rw[Zi.nil_iff.mp h];exact Zi.nil_iff.mpr (by simp)
 | e::ds,vs,d,v,0,h,h'=>by
  obtain⟨u,r,rfl,h1,h2⟩:=jd.mp h;exact Zi.cons h' h2
 | e::ds,vs,d,v,i+1,h,h'=>by
  obtain⟨u,r,rfl,h1,h2⟩:=jd.mp h;exact Zi.cons h1 (Zi.set i h2 h')
theorem Zi.take:∀{ds:List D} {vs:List V} (n:Nat),Zi G H ds vs->Zi G H (ds.take n) (vs.take n)
 | _,_,0,_=>Zi.nil_iff.mpr (by simp)
 | [],vs,n+1,h=>by rw[Zi.nil_iff.mp h];exact Zi.nil_iff.mpr (by simp)
 | d::ds,vs,n+1,h=>by
  obtain⟨u,r,rfl,h1,h2⟩:=jd.mp h;exact Zi.cons h1 (Zi.take n h2)
theorem Zi.drop:∀{ds:List D} {vs:List V} (n:Nat),Zi G H ds vs->Zi G H (ds.drop n) (vs.drop n)
 | _,_,0,h=>h
 | [],vs,n+1,h=>by rw[Zi.nil_iff.mp h];exact Zi.nil_iff.mpr (by simp)
 | d::ds,vs,n+1,h=>by
  obtain⟨u,r,rfl,h1,h2⟩:=jd.mp h;exact Zi.drop n h2
end
noncomputable def Nt (o:Option HO):Prop:=∃u,o=some u/\∀vs,u≠.tup vs
theorem Nt.no {o:Option HO}(h:Nt o)(e:o=none):False:=by
 obtain⟨u,q,_⟩:=h;rw[e] at q;cases q
structure Gr (G:Gh)(Hf H Hf' H':Hp):Prop where
 hh:Zz G H H'
 ff:Zz G Hf Hf'
 fh:Zz G Hf' H'
 nw:∀b,¬G.fp b->Hf b=none->Nt (H b)->Hf' b=none
theorem Gr.refl {G:Gh}{Hf H:Hp}(e:Zz G Hf H):Gr G Hf H Hf H:=⟨.refl _ _,.refl _ _,e,fun _ _ h _=>h⟩
theorem Gr.trans {G:Gh}{Hf H jT H1 j7 H2:Hp}(a:Gr G Hf H jT H1)(b:Gr G jT H1 j7 H2):Gr G Hf H j7 H2:=
 ⟨a.hh.trans b.hh,a.ff.trans b.ff,b.fh,fun c n h1 h2=>b.nw c n (a.nw c n h1 h2) (let ⟨u,e,nt⟩:=h2;⟨u,a.hh c u n e,nt⟩)⟩
theorem Gr.new {G:Gh}{Hf H:Hp}{p:Addr}{o:HO}(e:Zz G Hf H)(hp:H p=none)(nf:¬G.fp p):Gr G Hf H (Zm Hf p o) (Zm H p o) where
 hh:=fun b u n q=>by rw[Zp (Z6 q hp)];exact q
 ff:=fun b u n q=>by rw[Zp (Z6 (e b u n q) hp)];exact q
 fh:=fun b u n q=>by
  by_cases hb:b=p
  ·subst hb;rw[ZO] at q⊢;exact q
  ·rw[Zp hb] at q⊢;exact e b u n q
 nw:=fun b n h1 h2=>by
  by_cases hb:b=p
  ·subst hb;exact(h2.no hp).elim
  ·rw[Zp hb];exact h1
theorem Gh.nofp {G:Gh}{s:Pn}{H:Hp}{p:Addr}(h:G.st s H)(hp:H p=none):¬G.fp p:=fun f=>by
 obtain⟨o,e⟩:=G.dom s H p h (G.sub p f);rw[hp] at e;cases e
theorem jC {G:Gh}{s:Pn}{H:Hp}{p:Addr}(h:G.st s H)(hp:H p=none):¬G.rd p:=fun f=>by
 obtain⟨o,e⟩:=G.dom s H p h f;rw[hp] at e;cases e
theorem Gh.grow {G:Gh}{s:Pn}{H:Hp}{p:Addr}{o:HO}(h:G.st s H)(hp:H p=none):G.st s (Zm H p o):=G.mono s H _ h (fun b u _ q=>by
 rw[Zp (Z6 q hp)];exact q) fun b φ q=>by
 rw[Zp (Z6 q hp)];exact q
noncomputable def U0:D->Prop
 | .lst _=>True
 | .dk _=>True
 | .dt _=>True
 | .du _=>True
 | _=>False
noncomputable def YB (G:Gh)(H Hf':Hp)(d:D)(v:V):Prop:=∀a,v=.ref a->U0 d->H a=none/\∀ds,d=.lst ds->∃vs Hm,Hf' a=some (.lst vs)/\Hm a=none/\Zz G Hm Hf'/\Zi G Hm ds vs
theorem jo {G:Gh}{H H' Hf':Hp}{d:D}{v:V}(e:Zz G H H')(r:∀a,v=.ref a->U0 d->¬G.fp a)(h:YB G H' Hf' d v):YB G H Hf' d v:=fun a ea m=>by
 refine⟨?_,(h a ea m).2⟩
 cases q:H a with
 | none=>rfl
 | some o=>
  have:=e a o (r a ea m) q;rw[(h a ea m).1] at this;cases this
theorem Zk.nofp {G:Gh}{H:Hp}{d:D}{v:V}(r:Zk G H d v):∀a,v=.ref a->U0 d->¬G.fp a:=fun a e m=>by
 cases d with
 | lst ds=>obtain⟨b,vs,e1,n,_⟩:=jc.mp r;rw[e] at e1;cases e1;exact n
 | dk ds=>obtain⟨b,e1,n,_⟩:=jk.mp r;rw[e] at e1;cases e1;exact n
 | dt ds=>obtain⟨b,_,e1,n,_⟩:=jl.mp r;rw[e] at e1;cases e1;exact n
 | du ds=>obtain⟨b,e1,n,_⟩:=jm.mp r;rw[e] at e1;cases e1;exact n
 | _=>exact m.elim
noncomputable def YM (G:Gh)(H:Hp)(σ:St)(ρ:Zb):Prop:=∀(i:Nat) (d:D),ρ[i]?=some (some d)->∃v,σ[i]?=some (some v)/\Zk G H d v
theorem YM.ext {G:Gh}{H H':Hp}{σ:St}{ρ:Zb}(h:YM G H σ ρ)(e:Zz G H H'):YM G H' σ ρ:=fun i d q=>let ⟨v,a,b⟩:=h i d q;⟨v,a,b.ext e⟩
noncomputable def PD (X:Cx)(G:Gh)(fr:Bool)(e:Expr)(f:Zb->M D):Prop:=
 ∃t,PE X e t/\∀(σ:St) (Hf H:Hp) (ρ:Zb) (s:Pn) (d:D) (s':Pn) (Q:VK),Zz G Hf H->YM G Hf σ ρ->G.st s H->f ρ s=some (d,s')->
  (∀v Hf' H',Gr G Hf H Hf' H'->G.st s' H'->Zk G Hf' d v->(fr=true->YB G H Hf' d v)->Q v H')->t σ H Q
noncomputable def X2 (X:Cx)(G:Gh)(e:Expr)(f:Zb->M Bool):Prop:=
 ∃t,PT X e t/\∀(σ:St) (Hf H:Hp) (ρ:Zb) (s:Pn) (b:Bool) (s':Pn) (Q:Bool->Hp->Prop),Zz G Hf H->YM G Hf σ ρ->G.st s H->f ρ s=some (b,s')->
  (∀Hf' H',Gr G Hf H Hf' H'->G.st s' H'->Q b H')->t σ H Q
noncomputable def W9 (X:Cx)(G:Gh)(es:List Expr)(f:Zb->M (List D)):Prop:=
 ∃t,PA X es t/\∀(σ:St) (Hf H:Hp) (ρ:Zb) (s:Pn) (ds:List D) (s':Pn) (Q:List V->Hp->Prop),Zz G Hf H->YM G Hf σ ρ->G.st s H->f ρ s=some (ds,s')->
  (∀vs Hf' H',Gr G Hf H Hf' H'->G.st s' H'->Zi G Hf' ds vs->Q vs H')->t σ H Q
section
variable {X:Cx}{G:Gh}
theorem PD.weak {e:Expr}{f:Zb->M D}{fr:Bool}(h:PD X G fr e f):PD X G false e f:=by
 obtain⟨t,p,q⟩:=h;exact⟨t,p,fun σ Hf H ρ s d s' Q e1 e2 e3 e4 k=>q σ Hf H ρ s d s' Q e1 e2 e3 e4 fun v Hf' H' g1 g2 g3 _=>k v Hf' H' g1 g2 g3 (fun z=>by cases z)⟩
noncomputable def Za (i:Nat):Zb->M D:=fun ρ=>YR ((ρ[i]?).bind id)
noncomputable def dC (d:D):Zb->M D:=fun _=>ZB d
theorem ZoX (i:Nat){x:Str}{pos:Pos}(h:PE X (.Name x pos) (Yn i)):PD X G false (.Name x pos) (Za i):=by
 refine⟨_,h,fun σ Hf H ρ s d s' Q e1 e2 e3 e4 k=>?_⟩;obtain⟨e,rfl⟩:=Wf e4;have e':ρ[i]?=some (some d):=by
  cases q:ρ[i]? with
  | none=>rw[q] at e;cases e
  | some o=>rw[q] at e;simp at e;rw[e]
 obtain⟨v,h1,h2⟩:=e2 i d e';exact⟨v,h1,k v Hf H (.refl e1) e3 h2 (fun z=>by cases z)⟩
theorem YB.scal {H Hf':Hp}{d:D}{v:V}(h:U0 d->False):YB G H Hf' d v:=fun _ _ m=>(h m).elim
theorem ZK {i:Int}{j pos}:PD X G true (.Constant (.int i) j pos) (dC (.int i)):=by
 refine⟨_,Y0,fun σ Hf H ρ s d s' Q e1 e2 e3 e4 k=>?_⟩;obtain⟨rfl,rfl⟩:=ZL e4;exact k _ Hf H (.refl e1) e3 (ja.mpr rfl) fun _=>.scal fun z=>z
theorem WG {b:Bool}{j pos}:PD X G true (.Constant (.bool b) j pos) (dC (.bl b)):=by
 refine⟨_,ZpF,fun σ Hf H ρ s d s' Q e1 e2 e3 e4 k=>?_⟩;obtain⟨rfl,rfl⟩:=ZL e4;exact k _ Hf H (.refl e1) e3 (je.mpr rfl) fun _=>.scal fun z=>z
theorem Zg9 {j pos}:PD X G true (.Constant .none j pos) (dC .non):=by
 refine⟨_,Zoz,fun σ Hf H ρ s d s' Q e1 e2 e3 e4 k=>?_⟩;obtain⟨rfl,rfl⟩:=ZL e4;exact k _ Hf H (.refl e1) e3 (jg.mpr rfl) fun _=>.scal fun z=>z
noncomputable def Ze:Zb->M (List D):=fun _=>ZB []
noncomputable def Zc (f:Zb->M D)(g:Zb->M (List D)):Zb->M (List D):=fun ρ=>Zn (f ρ) fun d=>Zn (g ρ) fun ds=>ZB (d::ds)
theorem Zl:W9 X G [] Ze:=by
 refine⟨_,Y8,fun σ Hf H ρ s d s' Q e1 e2 e3 e4 k=>?_⟩;obtain⟨rfl,rfl⟩:=ZL e4;exact k _ Hf H (.refl e1) e3 (Zi.nil_iff.mpr rfl)
theorem Zf {e:Expr}{es:List Expr}{f:Zb->M D}{g:Zb->M (List D)}{fr:Bool}(h:PD X G fr e f)(hr:W9 X G es g)(hs:starEach (e::es) X.env=(false,eval e X.env)::starEach es X.env:=by rfl):W9 X G (e::es) (Zc f g):=by
 obtain⟨t,p,q⟩:=h;obtain⟨u,p2,q2⟩:=hr;refine⟨_,YS p p2 hs,fun σ Hf H ρ s ds s' Q e1 e2 e3 e4 k=>?_⟩;obtain⟨d,s1,a1,a2⟩:=Zy e4;obtain⟨r,s2,a3,a4⟩:=Zy a2;obtain⟨rfl,rfl⟩:=ZL a4;refine q σ Hf H ρ s d s1 _ e1 e2 e3 a1 fun v jT H1 g1 j6 r1 _=>?_;refine q2 σ jT H1 ρ s1 r _ _ g1.fh (e2.ext g1.ff) j6 a3 fun vs j7 H2 g2 jX r2=>?_;exact k _ j7 H2 (g1.trans g2) jX (Zi.cons (r1.ext g2.ff) r2)
noncomputable def Yc (f:Zb->M (List D)):Zb->M D:=fun ρ=>Zn (f ρ) fun ds=>if ds.length<=sizeLine then ZB (.tup ds) else ZG
noncomputable def YX (f:Zb->M (List D)):Zb->M D:=fun ρ=>Zn (f ρ) fun ds=>if ds.length<=sizeLine then ZB (.lst ds) else ZG
theorem Y7 {α:Type}{c:Prop}[Decidable c]{a:M α}{s s':Pn}{b:α}(h:(if c then a else ZG) s=some (b,s')):c/\a s=some (b,s'):=by
 split at h
 ·rename_i hc;exact⟨hc,h⟩
 ·cases h
theorem YB.mk {Hf H:Hp}{p:Addr}{vs:List V}{ds:List D}(e:Zz G Hf H)(hp:H p=none)(nf:¬G.fp p)(r:Zi G Hf ds vs):YB G H (Zm Hf p (.lst vs)) (.lst ds) (.ref p):=fun a ea _=>by
 cases ea
 refine⟨hp,fun ds' ed=>?_⟩
 cases ed
 have hf:Hf p=none:=by
  cases q:Hf p with
  | none=>rfl
  | some o=>rw[e p o nf q] at hp;cases hp
 exact⟨vs,Hf,ZO,hf,fun b o n q=>by rw[Zp (Z6 q hf)];exact q,r⟩
theorem XJ {es:List Expr}{f:Zb->M (List D)}{x1:Nat}{pos:Pos}(h:W9 X G es f):PD X G true (.Tuple es x1 pos) (Yc f):=by
 obtain⟨t,p,q⟩:=h;refine⟨_,ZoM p,fun σ Hf H ρ s d s' Q e1 e2 e3 e4 k=>?_⟩;obtain⟨ds,s1,a1,a2⟩:=Zy e4;obtain⟨hl,a3⟩:=Y7 a2;obtain⟨rfl,rfl⟩:=ZL a3;refine q σ Hf H ρ s ds s' _ e1 e2 e3 a1 fun vs jT H1 g1 j6 r1=>⟨by rw[<-r1.length];exact hl,fun p hp=>?_⟩;have nf:=Gh.nofp j6 hp;have g2:=Gr.new (o:=.tup vs) g1.fh hp nf;exact k (.ref p) _ _ (g1.trans g2) (Gh.grow j6 hp) (jb.mpr ⟨p,vs,rfl,nf,ZO,r1.ext g2.ff⟩) fun _=>.scal fun z=>z
theorem WY {es:List Expr}{f:Zb->M (List D)}{pos:Pos}(h:W9 X G es f):PD X G true (.List es pos) (YX f):=by
 obtain⟨t,p,q⟩:=h;refine⟨_,ZoN p,fun σ Hf H ρ s d s' Q e1 e2 e3 e4 k=>?_⟩;obtain⟨ds,s1,a1,a2⟩:=Zy e4;obtain⟨hl,a3⟩:=Y7 a2;obtain⟨rfl,rfl⟩:=ZL a3;refine q σ Hf H ρ s ds s' _ e1 e2 e3 a1 fun vs jT H1 g1 j6 r1=>⟨by rw[<-r1.length];exact hl,fun p hp=>?_⟩;have nf:=Gh.nofp j6 hp;have g2:=Gr.new (o:=.lst vs) g1.fh hp nf;refine k (.ref p) _ _ (g1.trans g2) (Gh.grow j6 hp) (jc.mpr ⟨p,vs,rfl,nf,ZO,r1.ext g2.ff⟩) fun _=>jo g1.hh (fun a ea _=>by cases ea;exact nf) (YB.mk g1.fh hp nf r1)
noncomputable def Xf (X:Cx)(G:Gh)(f:Value->Value->Sem Value)(g:D->D->Option D):Prop:=
 ∃r,Yd X f r/\∀(Hf H:Hp) (s:Pn) (x y:V) (d e c:D) (Q:VK),Zz G Hf H->G.st s H->Zk G Hf d x->Zk G Hf e y->g d e=some c->
  (∀v Hf' H',Gr G Hf H Hf' H'->G.st s H'->Zk G Hf' c v->YB G H Hf' c v->Q v H')->r x y H Q
noncomputable def Zd (g:D->D->Option D)(a b:Zb->M D):Zb->M D:=fun ρ=>Zn (a ρ) fun d=>Zn (b ρ) fun e=>YR (g d e)
theorem op2D {fa fb:Zb->M D}{g:D->D->Option D}{ta tb:TE}{r:R2}
  (qa:∀(σ:St) (Hf H:Hp) (ρ:Zb) (s:Pn) (d:D) (s':Pn) (Q:VK),Zz G Hf H->YM G Hf σ ρ->G.st s H->fa ρ s=some (d,s')->(∀v Hf' H',Gr G Hf H Hf' H'->G.st s' H'->Zk G Hf' d v->Q v H')->ta σ H Q)
  (qb:∀(σ:St) (Hf H:Hp) (ρ:Zb) (s:Pn) (d:D) (s':Pn) (Q:VK),Zz G Hf H->YM G Hf σ ρ->G.st s H->fb ρ s=some (d,s')->(∀v Hf' H',Gr G Hf H Hf' H'->G.st s' H'->Zk G Hf' d v->Q v H')->tb σ H Q)
  (qo:∀(Hf H:Hp) (s:Pn) (x y:V) (d e c:D) (Q:VK),Zz G Hf H->G.st s H->Zk G Hf d x->Zk G Hf e y->g d e=some c->(∀v Hf' H',Gr G Hf H Hf' H'->G.st s H'->Zk G Hf' c v->YB G H Hf' c v->Q v H')->r x y H Q)
  (σ:St) (Hf H:Hp) (ρ:Zb) (s:Pn) (d:D) (s':Pn) (Q:VK) (e1:Zz G Hf H) (e2:YM G Hf σ ρ) (e3:G.st s H) (e4:Zd g fa fb ρ s=some (d,s'))
  (k:∀v Hf' H',Gr G Hf H Hf' H'->G.st s' H'->Zk G Hf' d v->YB G H Hf' d v->Q v H'):YD r ta tb σ H Q:=by
 obtain⟨da,s1,a1,a2⟩:=Zy e4;obtain⟨db,s2,a3,a4⟩:=Zy a2;obtain⟨a5,rfl⟩:=Wf a4;refine qa σ Hf H ρ s da s1 _ e1 e2 e3 a1 fun x jT H1 g1 j6 r1=>?_;refine qb σ jT H1 ρ s1 db _ _ g1.fh (e2.ext g1.ff) j6 a3 fun y j7 H2 g2 jX r2=>?_;refine qo j7 H2 _ x y da db d Q g2.fh jX (r1.ext g2.ff) r2 a5 fun v Hf3 H3 g3 st3 r3 fz=>?_;exact k v Hf3 H3 ((g1.trans g2).trans g3) st3 r3 (jo (g1.hh.trans g2.hh) r3.nofp fz)
theorem PD.drop {e:Expr}{f:Zb->M D}{fr:Bool}(h:PD X G fr e f):∃t,PE X e t/\∀(σ:St) (Hf H:Hp) (ρ:Zb) (s:Pn) (d:D) (s':Pn) (Q:VK),Zz G Hf H->YM G Hf σ ρ->G.st s H->f ρ s=some (d,s')->
  (∀v Hf' H',Gr G Hf H Hf' H'->G.st s' H'->Zk G Hf' d v->Q v H')->t σ H Q:=by
 obtain⟨t,p,q⟩:=h;exact⟨t,p,fun σ Hf H ρ s d s' Q a b c d' k=>q σ Hf H ρ s d s' Q a b c d' fun v Hf' H' g1 g2 g3 _=>k v Hf' H' g1 g2 g3⟩
theorem YG {a b:Expr}{op:Operator}{pos:Pos}{fa fb:Zb->M D}{g:D->D->Option D}{r1 r2:Bool}(ho:Xf X G (binaryOp op) g)(ha:PD X G r1 a fa)(hb:PD X G r2 b fb):PD X G true (.BinOp a op b pos) (Zd g fa fb):=by
 obtain⟨r,po,qo⟩:=ho;obtain⟨ta,pa,qa⟩:=ha.drop;obtain⟨tb,pb,qb⟩:=hb.drop;exact⟨_,Xa po pa pb,fun σ Hf H ρ s d s' Q e1 e2 e3 e4 k=>op2D qa qb qo σ Hf H ρ s d s' Q e1 e2 e3 e4 fun v Hf' H' g1 g2 g3 fz=>k v Hf' H' g1 g2 g3 fun _=>fz⟩
theorem Vz {a b:Expr}{op:CmpOp}{pos:Pos}{fa fb:Zb->M D}{g:D->D->Option D}{r1 r2:Bool}(ho:Xf X G (compareOp op) g)(ha:PD X G r1 a fa)(hb:PD X G r2 b fb)
  (hm:behindInMarks op b=false:=by first | exact JD _ | with_unfolding_all rfl):PD X G true (.Compare a [op] [b] pos) (Zd g fa fb):=by
 obtain⟨r,po,qo⟩:=ho;obtain⟨ta,pa,qa⟩:=ha.drop;obtain⟨tb,pb,qb⟩:=hb.drop;exact⟨_,ZmO po pa pb hm,fun σ Hf H ρ s d s' Q e1 e2 e3 e4 k=>op2D qa qb qo σ Hf H ρ s d s' Q e1 e2 e3 e4 fun v Hf' H' g1 g2 g3 fz=>k v Hf' H' g1 g2 g3 fun _=>fz⟩
noncomputable def asB (f:Zb->M D):Zb->M Bool:=fun ρ=>Zn (f ρ) fun d=>match d with | .bl b=>ZB b | _=>ZG
theorem ZfQ {f:Zb->M D}{ρ:Zb}{s s':Pn}{b:Bool}(h:asB f ρ s=some (b,s')):f ρ s=some (.bl b,s'):=by
 obtain⟨d,s1,a1,a2⟩:=Zy h
 cases d with
 | bl c=>obtain⟨rfl,rfl⟩:=ZL a2;exact a1
 | _=>cases a2
theorem YZ {a b:Expr}{op:CmpOp}{pos:Pos}{fa fb:Zb->M D}{g:D->D->Option D}{r1 r2:Bool}(ho:Xf X G (compareOp op) g)(ha:PD X G r1 a fa)(hb:PD X G r2 b fb)
  (hm:behindInMarks op b=false:=by first | exact JD _ | with_unfolding_all rfl):X2 X G (.Compare a [op] [b] pos) (asB (Zd g fa fb)):=by
 obtain⟨r,po,qo⟩:=ho;obtain⟨ta,pa,qa⟩:=ha.drop;obtain⟨tb,pb,qb⟩:=hb.drop;refine⟨_,Br po pa pb hm,fun σ Hf H ρ s c s' Q e1 e2 e3 e4 k=>?_⟩;exact op2D qa qb qo σ Hf H ρ s (.bl c) s' _ e1 e2 e3 (ZfQ e4) fun v Hf' H' g1 g2 g3 fz=>⟨c,je.mp g3,k Hf' H' g1 g2⟩
theorem V3 {e:Expr}{f:Zb->M D}{fr:Bool}(h:PD X G fr e f)(he:∀whole,isTrue e X.env whole=(do let v<-whole;standAt e.pos;holding [v] (truthy v)):=by intro _;rfl):X2 X G e (asB f):=by
 obtain⟨t,p,q⟩:=h;refine⟨_,ZoA p he,fun σ Hf H ρ s c s' Q e1 e2 e3 e4 k=>?_⟩;exact q σ Hf H ρ s (.bl c) s' _ e1 e2 e3 (ZfQ e4) fun v Hf' H' g1 g2 g3 fz=>⟨c,je.mp g3,k Hf' H' g1 g2⟩
noncomputable def X9 (f:Zb->M Bool):Zb->M Bool:=fun ρ=>Zn (f ρ) fun b=>ZB (!b)
theorem Uk {a:Expr}{pos:Pos}{f:Zb->M Bool}(h:X2 X G a f):X2 X G (.UnaryOp .Not a pos) (X9 f):=by
 obtain⟨t,p,q⟩:=h;refine⟨_,ZoC p,fun σ Hf H ρ s c s' Q e1 e2 e3 e4 k=>?_⟩;obtain⟨b,s1,a1,a2⟩:=Zy e4;obtain⟨rfl,rfl⟩:=ZL a2;exact q σ Hf H ρ s b s' _ e1 e2 e3 a1 fun Hf' H' g1 g2=>k Hf' H' g1 g2
noncomputable def Wt (f g:Zb->M Bool):Zb->M Bool:=fun ρ=>Zn (f ρ) fun b=>if b=true then g ρ else ZB false
noncomputable def Vu (f g:Zb->M Bool):Zb->M Bool:=fun ρ=>Zn (f ρ) fun b=>if b=true then ZB true else g ρ
noncomputable def Wz (X:Cx)(G:Gh)(e:Expr)(f:Zb->M Bool):Prop:=
 ∃t,PW X e t/\∀(σ:St) (Hf H:Hp) (ρ:Zb) (s:Pn) (b:Bool) (s':Pn) (Q:Bool->Hp->Prop),Zz G Hf H->YM G Hf σ ρ->G.st s H->f ρ s=some (b,s')->
  (∀Hf' H',Gr G Hf H Hf' H'->G.st s' H'->Q b H')->t σ H Q
theorem Wz.pt {e:Expr}{f:Zb->M Bool}(h:Wz X G e f):X2 X G e f:=by
 obtain⟨t,p,q⟩:=h;exact⟨t,p.pt,q⟩
theorem ZcV {a:Expr}{pos:Pos}{f:Zb->M Bool}(h:X2 X G a f):Wz X G (.BoolOp .And [a] pos) f:=by
 obtain⟨t,p,q⟩:=h;exact⟨t,Zia p,q⟩
theorem ZeL {a:Expr}{pos:Pos}{f:Zb->M Bool}(h:X2 X G a f):Wz X G (.BoolOp .Or [a] pos) f:=by
 obtain⟨t,p,q⟩:=h;exact⟨t,ZoB p,q⟩
theorem ZeM {a b:Expr}{rest:List Expr}{pos:Pos}{f g:Zb->M Bool}(h:X2 X G a f)(h2:Wz X G (.BoolOp .And (b::rest) pos) g):Wz X G (.BoolOp .And (a::b::rest) pos) (Wt f g):=by
 obtain⟨t,p,q⟩:=h;obtain⟨u,p2,q2⟩:=h2;refine⟨_,ZkA p p2,fun σ Hf H ρ s c s' Q e1 e2 e3 e4 k=>?_⟩;obtain⟨b,s1,a1,a2⟩:=Zy e4;refine q σ Hf H ρ s b s1 _ e1 e2 e3 a1 fun jT H1 g1 j6=>?_
 cases b with
 | true=>exact q2 σ jT H1 ρ s1 c s' _ g1.fh (e2.ext g1.ff) j6 a2 fun j7 H2 g2 jX=>k j7 H2 (g1.trans g2) jX
 | false=>obtain⟨rfl,rfl⟩:=ZL a2;exact k jT H1 g1 j6
theorem ZeN {a b:Expr}{rest:List Expr}{pos:Pos}{f g:Zb->M Bool}(h:X2 X G a f)(h2:Wz X G (.BoolOp .Or (b::rest) pos) g):Wz X G (.BoolOp .Or (a::b::rest) pos) (Vu f g):=by
 obtain⟨t,p,q⟩:=h;obtain⟨u,p2,q2⟩:=h2;refine⟨_,ZpG p p2,fun σ Hf H ρ s c s' Q e1 e2 e3 e4 k=>?_⟩;obtain⟨b,s1,a1,a2⟩:=Zy e4;refine q σ Hf H ρ s b s1 _ e1 e2 e3 a1 fun jT H1 g1 j6=>?_
 cases b with
 | true=>obtain⟨rfl,rfl⟩:=ZL a2;exact k jT H1 g1 j6
 | false=>exact q2 σ jT H1 ρ s1 c s' _ g1.fh (e2.ext g1.ff) j6 a2 fun j7 H2 g2 jX=>k j7 H2 (g1.trans g2) jX
noncomputable def Wu (f g:Zb->M D):Zb->M D:=fun ρ=>Zn (f ρ) fun d=>match d with | .bl true=>g ρ | .bl false=>ZB (.bl false) | _=>ZG
noncomputable def vOr (f g:Zb->M D):Zb->M D:=fun ρ=>Zn (f ρ) fun d=>match d with | .bl true=>ZB (.bl true) | .bl false=>g ρ | _=>ZG
noncomputable def JT (f:Zb->M D):Zb->M D:=fun ρ=>Zn (f ρ) fun d=>match d with | .bl b=>ZB (.bl (!b)) | _=>ZG
theorem ZeO {op}{a:Expr}{pos:Pos}{fr:Bool}{f:Zb->M D}(h:PD X G fr a f):PD X G false (.BoolOp op [a] pos) f:=by
 obtain⟨t,p,q⟩:=h.weak;exact⟨t,ZoD p,q⟩
theorem BD {a b:Expr}{rest:List Expr}{pos:Pos}{r1 r2:Bool}{f g:Zb->M D}(h:PD X G r1 a f)(h2:PD X G r2 (.BoolOp .And (b::rest) pos) g):PD X G false (.BoolOp .And (a::b::rest) pos) (Wu f g):=by
 obtain⟨t,p,q⟩:=h.drop;obtain⟨u,p2,q2⟩:=h2.drop;refine⟨_,ZoE p p2,fun σ Hf H ρ s c s' Q e1 e2 e3 e4 k=>?_⟩;obtain⟨d,s1,a1,a2⟩:=Zy e4;refine q σ Hf H ρ s d s1 _ e1 e2 e3 a1 fun v jT H1 g1 j6 r1=>?_
 cases d with
 | bl b=>
  cases b with
  | true=>exact⟨true,je.mp r1,VN (q2 σ jT H1 ρ s1 c s' _ g1.fh (e2.ext g1.ff) j6 a2 fun v j7 H2 g2 jX r2=>k v j7 H2 (g1.trans g2) jX r2 (fun z=>by cases z))⟩
  | false=>obtain⟨rfl,rfl⟩:=ZL a2;exact⟨false,je.mp r1,VM (k _ jT H1 g1 j6 (je.mpr rfl) (fun z=>by cases z))⟩
 | _=>cases a2
theorem ZkW {a:Expr}{pos:Pos}{r1:Bool}{f:Zb->M D}(h:PD X G r1 a f):PD X G true (.UnaryOp .Not a pos) (JT f):=by
 obtain⟨t,p,q⟩:=h.drop;refine⟨_,ZoF p,fun σ Hf H ρ s c s' Q e1 e2 e3 e4 k=>?_⟩;obtain⟨d,s1,a1,a2⟩:=Zy e4;refine q σ Hf H ρ s d s1 _ e1 e2 e3 a1 fun v jT H1 g1 j6 r1=>?_
 cases d with
 | bl b=>obtain⟨rfl,rfl⟩:=ZL a2;exact⟨b,je.mp r1,k _ jT H1 g1 j6 (je.mpr rfl) fun _=>.scal fun z=>z⟩
 | _=>cases a2
noncomputable def B2 (c:Zb->M Bool)(f g:Zb->M D):Zb->M D:=fun ρ=>Zn (c ρ) fun b=>if b=true then f ρ else g ρ
theorem ZpN {c a b:Expr}{pos:Pos}{r1 r2:Bool}{fc:Zb->M Bool}{f g:Zb->M D}(hc:X2 X G c fc)(ha:PD X G r1 a f)(hb:PD X G r2 b g):PD X G false (.IfExp c a b pos) (B2 fc f g):=by
 obtain⟨tc,pc,qc⟩:=hc;obtain⟨ta,pa,qa⟩:=ha.drop;obtain⟨tb,pb,qb⟩:=hb.drop;refine⟨_,ZkB pc pa pb,fun σ Hf H ρ s d s' Q e1 e2 e3 e4 k=>?_⟩;obtain⟨b,s1,a1,a2⟩:=Zy e4;refine qc σ Hf H ρ s b s1 _ e1 e2 e3 a1 fun jT H1 g1 j6=>?_
 cases b with
 | true=>exact VN (qa σ jT H1 ρ s1 d s' _ g1.fh (e2.ext g1.ff) j6 a2 fun v j7 H2 g2 jX r2=>k v j7 H2 (g1.trans g2) jX r2 (fun z=>by cases z))
 | false=>exact VM (qb σ jT H1 ρ s1 d s' _ g1.fh (e2.ext g1.ff) j6 a2 fun v j7 H2 g2 jX r2=>k v j7 H2 (g1.trans g2) jX r2 (fun z=>by cases z))
noncomputable def Wi (X:Cx)(G:Gh)(f:Value)(g:List D->Option D):Prop:=
 ∃r,XT X f r/\∀(Hf H:Hp) (s:Pn) (xs:List V) (ds:List D) (c:D) (Q:VK),Zz G Hf H->G.st s H->Zi G Hf ds xs->g ds=some c->
  (∀v Hf' H',Gr G Hf H Hf' H'->G.st s H'->Zk G Hf' c v->YB G H Hf' c v->Q v H')->r xs H Q
noncomputable def ZA (g:List D->Option D)(fs:Zb->M (List D)):Zb->M D:=fun ρ=>Zn (fs ρ) fun ds=>YR (g ds)
theorem XO {id:String}{x:Str}{p pos:Pos}{e:Expr}{es:List Expr}{g:List D->Option D}{fs:Zb->M (List D)}(hc:Wi X G (.builtin id) g)(hg:Gl X x)(hm:X.mg x=none)(hv:bootBuiltins x=some (.builtin id))(ha:W9 X G (e::es) fs)
  (hn:x≠"__name__":=by decide) (hdb:(x==("__debug__" : Str))=false:=by decide)
  (he:starEach (e::es) X.env=(false,eval e X.env)::starEach es X.env:=by rfl) (hpl:(backTo pos (starEach es X.env)).any (·.1)=false:=by rfl):PD X G true (.Call (.Name x p) (e::es) [] pos) (ZA g fs):=by
 obtain⟨r,pr,qr⟩:=hc;obtain⟨t,pa,qa⟩:=ha;refine⟨_,Zbr pr hg hm hv pa hn hdb he hpl,fun σ Hf H ρ s d s' Q e1 e2 e3 e4 k=>?_⟩;obtain⟨ds,s1,a1,a2⟩:=Zy e4;obtain⟨a3,rfl⟩:=Wf a2;refine qa σ Hf H ρ s ds _ _ e1 e2 e3 a1 fun vs jT H1 g1 j6 r1=>?_;exact qr jT H1 _ vs ds d Q g1.fh j6 r1 a3 fun v j7 H2 g2 jX r2 fz=>k v j7 H2 (g1.trans g2) jX r2 fun _=>jo g1.hh r2.nofp fz
theorem UJ {T:String}{x:Str}{p pos:Pos}{e:Expr}{es:List Expr}{g:List D->Option D}{fs:Zb->M (List D)}(hc:Wi X G (.type T) g)(hg:Gl X x)(hm:X.mg x=none)(hv:bootBuiltins x=some (.type T))(ha:W9 X G (e::es) fs)
  (hn:x≠"__name__":=by decide) (hdb:(x==("__debug__" : Str))=false:=by decide)
  (he:starEach (e::es) X.env=(false,eval e X.env)::starEach es X.env:=by rfl) (hpl:(backTo pos (starEach es X.env)).any (·.1)=false:=by rfl):PD X G true (.Call (.Name x p) (e::es) [] pos) (ZA g fs):=by
 obtain⟨r,pr,qr⟩:=hc;obtain⟨t,pa,qa⟩:=ha;refine⟨_,ZbR pr hg hm hv pa hn hdb he hpl,fun σ Hf H ρ s d s' Q e1 e2 e3 e4 k=>?_⟩;obtain⟨ds,s1,a1,a2⟩:=Zy e4;obtain⟨a3,rfl⟩:=Wf a2;refine qa σ Hf H ρ s ds _ _ e1 e2 e3 a1 fun vs jT H1 g1 j6 r1=>?_;exact qr jT H1 _ vs ds d Q g1.fh j6 r1 a3 fun v j7 H2 g2 jX r2 fz=>k v j7 H2 (g1.trans g2) jX r2 fun _=>jo g1.hh r2.nofp fz
noncomputable def IxD (X:Cx)(G:Gh)(g:D->D->Option D):Prop:=
 ∃r,Uz X r/\∀(Hf H:Hp) (s:Pn) (x y:V) (d e c:D) (Q:VK),Zz G Hf H->G.st s H->Zk G Hf d x->Zk G Hf e y->g d e=some c->
  (∀v,Zk G Hf c v->Q v H)->r x y H Q
theorem ZV {a b:Expr}{pos:Pos}{fa fb:Zb->M D}{g:D->D->Option D}{r1 r2:Bool}(ho:IxD X G g)(ha:PD X G r1 a fa)(hb:PD X G r2 b fb)(hs:Zih b:=by intro _ _;rfl):PD X G false (.Subscript a b pos) (Zd g fa fb):=by
 obtain⟨r,po,qo⟩:=ho;obtain⟨ta,pa,qa⟩:=ha.drop;obtain⟨tb,pb,qb⟩:=hb.drop;refine⟨_,Zii po pa pb hs,fun σ Hf H ρ s d s' Q e1 e2 e3 e4 k=>?_⟩;obtain⟨da,s1,a1,a2⟩:=Zy e4;obtain⟨db,s2,a3,a4⟩:=Zy a2;obtain⟨a5,rfl⟩:=Wf a4;refine qa σ Hf H ρ s da s1 _ e1 e2 e3 a1 fun x jT H1 g1 j6 r1=>?_;refine qb σ jT H1 ρ s1 db _ _ g1.fh (e2.ext g1.ff) j6 a3 fun y j7 H2 g2 jX r2=>?_;exact qo j7 H2 _ x y da db d Q g2.fh jX (r1.ext g2.ff) r2 a5 fun v r3=>k v j7 H2 (g1.trans g2) jX r3 (fun z=>by cases z)
noncomputable def Ya (n:Nat)(fr:Bool)(GG:Gh->Prop)(F:List D->M D):Sp:=fun vs H Q _=>∃(G:Gh) (Hf:Hp) (ds:List D) (s:Pn) (d:D) (s':Pn),GG G/\vs.length=n/\Zz G Hf H/\Zi G Hf ds vs/\G.st s H/\F ds s=some (d,s')/\
 ∀v Hf' H',Gr G Hf H Hf' H'->G.st s' H'->Zk G Hf' d v->(fr=true->YB G H Hf' d v)->Q v H'
noncomputable def Zo (F:List D->M D)(fs:Zb->M (List D)):Zb->M D:=fun ρ=>Zn (fs ρ) F
theorem Zm1 {CX:X1}{k:Nat}{f:Addr}{fd:FuncData}{ps:List Str}{n:Nat}{fr:Bool}{GG:Gh->Prop}{F:List D->M D}{E:XK}{x:Str}{p pos:Pos}{e:Expr}{es:List Expr}{fs:Zb->M (List D)}
  (FN:FnOk X.prog X.w X.K X.mg X.base CX k f fd ps (Ya n fr GG F)) (hG:GG G) (hr:Room k X.A) (hg:Gl X x) (hm:X.mg x=some (.ref f)) (hk:z0 X.K (.ref f)=true) (hb:XV X.K fd ps []) (hx:ZeH CX X E)
  (ha:W9 X G (e::es) fs) (jS:(e::es).length=n:=by rfl) (hal:∀ρ s ds s',fs ρ s=some (ds,s')->ds.length=(e::es).length)
  (hdb:(x==("__debug__" : Str))=false:=by decide) (he:starEach (e::es) X.env=(false,eval e X.env)::starEach es X.env:=by rfl) (hpl:(backTo pos (starEach es X.env)).any (·.1)=false:=by rfl) :
  PD X G fr (.Call (.Name x p) (e::es) [] pos) (Zo F fs):=by
 obtain⟨t,pa,qa⟩:=ha;refine⟨_,ZeI FN hr hg hm hk hb .nil hx pa hdb he hpl,fun σ Hf H ρ s d s' Q e1 e2 e3 e4 k=>?_⟩;obtain⟨ds,s1,a1,a2⟩:=Zy e4;refine qa σ Hf H ρ s ds _ _ e1 e2 e3 a1 fun vs jT H1 g1 j6 r1=>?_;refine⟨G,jT,ds,s1,d,s',hG,by rw[zf,<-r1.length,hal _ _ _ _ a1];exact jS,g1.fh,by rw[zf];exact r1,j6,a2,fun v j7 H2 g2 jX r2 fz=>?_⟩;exact k v j7 H2 (g1.trans g2) jX r2 fun z=>jo g1.hh r2.nofp (fz z)
theorem Xc {f:Zb->M D}{g:Zb->M (List D)}{n:Nat}(h:∀ρ s ds s',g ρ s=some (ds,s')->ds.length=n):∀ρ s ds s',Zc f g ρ s=some (ds,s')->ds.length=n+1:=fun ρ s ds s' q=>by
 obtain⟨d,s1,a1,a2⟩:=Zy q;obtain⟨r,s2,a3,a4⟩:=Zy a2;obtain⟨rfl,rfl⟩:=ZL a4;simp[h _ _ _ _ a3]
theorem UN:∀ρ s ds s',Ze ρ s=some (ds,s')->ds.length=0:=fun ρ s ds s' q=>by
 obtain⟨rfl,rfl⟩:=ZL q;rfl
end
mutual
noncomputable def XW:D->Bool
 | .tup ds=>JF ds
 | .lst _=>false
 | .dk _=>false
 | .dt _=>false
 | .du _=>false
 | .df _=>false
 | .clo _ _=>false
 | _=>true
noncomputable def JF:List D->Bool
 | []=>true
 | d::ds=>XW d&&JF ds
end
mutual
theorem Zk.only {G:Gh}{H H':Hp}(e:∀b vs,¬G.fp b->H b=some (.tup vs)->H' b=some (.tup vs)):∀{d:D} {v:V},XW d=true->Zk G H d v->Zk G H' d v
 | .non,_,_,h=>h
 | .bl _,_,_,h=>h
 | .int _,_,_,h=>h
 | .str _,_,_,h=>h
 | .tup ds,v,n,h=>by
  obtain⟨a,vs,e1,nf,e2,r⟩:=jb.mp h;exact jb.mpr ⟨a,vs,e1,nf,e _ _ nf e2,Zi.only e (by simpa[XW] using n) r⟩
 | .lst ds,v,n,h=>by simp[XW] at n
 | .dk kvs,v,n,h=>by simp[XW] at n
 | .dt kvs,v,n,h=>by simp[XW] at n
 | .du kvs,v,n,h=>by simp[XW] at n
 | .df kvs,v,n,h=>by simp[XW] at n
 | .pen,_,_,h=>h
 | .ty _,_,_,h=>h
 | .clo _ _,v,n,h=>by simp[XW] at n
theorem Zi.only {G:Gh}{H H':Hp}(e:∀b vs,¬G.fp b->H b=some (.tup vs)->H' b=some (.tup vs)):∀{ds:List D} {vs:List V},JF ds=true->Zi G H ds vs->Zi G H' ds vs
 | [],_,_,h=>h
 | d::ds,vs,n,h=>by
  obtain⟨v,r,e1,r1,r2⟩:=jd.mp h;have n':XW d=true/\JF ds=true:=by simpa[JF] using n
  exact jd.mpr ⟨v,r,e1,Zk.only e n'.1 r1,Zi.only e n'.2 r2⟩
end
noncomputable def V6 (G:Gh)(Hf H:Hp)(a:Addr):D->Prop
 | .lst ds=>∃vs,H a=some (.lst vs)/\Zi G Hf ds vs
 | .dk kvs=>H a=some (.dK kvs)
 | .dt kvs=>∃o,H a=some (.frz o (.dT kvs))
 | .du kvs=>H a=some (.dT kvs)
 | _=>False
theorem V6.there {G:Gh}{Hf H:Hp}{a:Addr}{d:D}(h:V6 G Hf H a d):∃o,H a=some o/\∀vs,o≠.tup vs:=by
 cases d with
 | lst ds=>obtain⟨vs,e,_⟩:=h;exact⟨_,e,fun _ z=>by cases z⟩
 | dk kvs=>exact⟨_,h,fun _ z=>by cases z⟩
 | dt kvs=>obtain⟨o,h⟩:=h;exact⟨_,h,fun _ z=>by cases z⟩
 | du kvs=>exact⟨_,h,fun _ z=>by cases z⟩
 | _=>exact h.elim
theorem V6.keep {G:Gh}{Hf H Hf' H':Hp}{a:Addr}{d:D}(h:V6 G Hf H a d)(e:Zz G Hf Hf')(ha:∀o,H a=some o->H' a=some o):V6 G Hf' H' a d:=by
 cases d with
 | lst ds=>obtain⟨vs,q,r⟩:=h;exact⟨vs,ha _ q,r.ext e⟩
 | dk kvs=>exact ha _ h
 | dt kvs=>obtain⟨o,h⟩:=h;exact⟨o,ha _ h⟩
 | du kvs=>exact ha _ h
 | _=>exact h.elim
theorem V6.rep {G:Gh}{Hf H Hf':Hp}{a:Addr}{d:D}(h:V6 G Hf H a d)(nf:¬G.fp a)(e:Zz G Hf Hf')(ha:∀o,H a=some o->Hf' a=some o):Zk G Hf' d (.ref a):=by
 cases d with
 | lst ds=>obtain⟨vs,q,r⟩:=h;exact jc.mpr ⟨a,vs,rfl,nf,ha _ q,r.ext e⟩
 | dk kvs=>exact jk.mpr ⟨a,rfl,nf,ha _ h⟩
 | dt kvs=>obtain⟨o,h⟩:=h;exact jl.mpr ⟨a,o,rfl,nf,ha _ h⟩
 | du kvs=>exact jm.mpr ⟨a,rfl,nf,ha _ h⟩
 | _=>exact h.elim
structure Jf (G:Gh)(own:List Nat)(kn jV H0:Hp)(σ:St)(Hf H:Hp)(ρ:Zb):Prop where
 len:σ.length=ρ.length
 kn:Zz G kn Hf
 gr:Gr G jV H0 Hf H
 fz:∀(i:Nat) (d:D),i∉own->ρ[i]?=some (some d)->∃v,σ[i]?=some (some v)/\Zk G Hf d v
 ow:∀(i:Nat) (d:D),i∈own->ρ[i]?=some (some d)->∃a,σ[i]?=some (some (.ref a))/\¬G.rd a/\Hf a=none/\H0 a=none/\V6 G Hf H a d
 ne:∀(i j:Nat) (a:Addr) (di dj:D),i∈own->j∈own->i≠j->ρ[i]?=some (some di)->ρ[j]?=some (some dj)->σ[i]?=some (some (.ref a))->σ[j]?=some (some (.ref a))->False
noncomputable def J (G:Gh)(own:List Nat)(kn jV H0:Hp)(σ:St)(H:Hp)(ρ:Zb):Prop:=∃Hf,Jf G own kn jV H0 σ Hf H ρ
noncomputable def YN (own:List Nat)(ρ:Zb):Zb:=ρ.mapIdx fun i o=>if i∈own then none else o
theorem ZcW (ρ:Zb):YN [] ρ=ρ:=by
 unfold YN;apply List.ext_getElem?;intro i;simp
theorem ZkX {own:List Nat}{ρ:Zb}{i:Nat}{d:D}(h:(YN own ρ)[i]?=some (some d)):i∉own/\ρ[i]?=some (some d):=by
 unfold YN at h;rw[List.getElem?_mapIdx] at h
 cases e:ρ[i]? with
 | none=>rw[e] at h;cases h
 | some o=>
  rw[e] at h;simp only[zV,qa3] at h;split at h
  ·cases h
  ·rename_i hn;exact⟨hn,by rw[h]⟩
section
variable {X:Cx}{G:Gh}{own:List Nat}{kn jV H0 Hf H:Hp}{σ:St}{ρ:Zb}
theorem Jf.envA (j:Jf G own kn jV H0 σ Hf H ρ):YM G Hf σ (YN own ρ):=fun i d e=>by
 obtain⟨n,q⟩:=ZkX e;exact j.fz i d n q
theorem jt {G:Gh}{a:Addr}(h:¬G.rd a):¬G.fp a:=fun z=>h (G.sub a z)
theorem Jf.grow {Hf' H':Hp}(j:Jf G own kn jV H0 σ Hf H ρ)(g:Gr G Hf H Hf' H'):Jf G own kn jV H0 σ Hf' H' ρ where
 len:=j.len
 kn:=j.kn.trans g.ff
 gr:=j.gr.trans g
 fz:=fun i d n e=>let ⟨v,a,b⟩:=j.fz i d n e;⟨v,a,b.ext g.ff⟩
 ow:=fun i d m e=>by
  obtain⟨a,h1,h2,h3,h4,h5⟩:=j.ow i d m e;have nf:=jt h2;refine⟨a,h1,h2,?_,h4,h5.keep g.ff fun o q=>g.hh a o nf q⟩;exact g.nw a nf h3 h5.there
 ne:=j.ne
noncomputable def wide (jV H0 H:Hp):Hp:=fun b=>open Classical in if jV b=none/\Nt (H0 b) then none else H b
theorem UO {jV H0 H:Hp}:Zz G (wide jV H0 H) H:=fun b o _ e=>by
 unfold wide at e;split at e
 ·cases e
 ·exact e
theorem Jf.wideF (j:Jf G own kn jV H0 σ Hf H ρ):Zz G Hf (wide jV H0 H):=fun b o n e=>by
 unfold wide;split
 ·rename_i h
  rw[j.gr.nw b n h.1 h.2] at e;cases e
 ·exact j.gr.fh b o n e
theorem Jf.envB (j:Jf G own kn jV H0 σ Hf H ρ):YM G (wide jV H0 H) σ ρ:=fun i d e=>by
 by_cases m:i∈own
 ·obtain⟨a,h1,h2,h3,h4,h5⟩:=j.ow i d m e
  refine⟨_,h1,h5.rep (jt h2) j.wideF fun o q=>?_⟩;unfold wide;rw[if_neg (fun z=>z.2.no h4)];exact q
 ·obtain⟨v,h1,h2⟩:=j.fz i d m e
  exact⟨v,h1,h2.ext j.wideF⟩
theorem Jf.grW {Hf' H':Hp}(j:Jf G own kn jV H0 σ Hf H ρ)(g:Gr G (wide jV H0 H) H Hf' H'):Gr G jV H0 Hf' H' where
 hh:=j.gr.hh.trans g.hh
 ff:=fun b o n e=>g.ff b o n (j.wideF b o n (j.gr.ff b o n e))
 fh:=g.fh
 nw:=fun b n h1 h2=>g.nw b n (by unfold wide;rw[if_pos ⟨h1,h2⟩]) (let ⟨u,e,nt⟩:=h2;⟨u,j.gr.hh b u n e,nt⟩)
noncomputable def J4:D->Bool
 | .lst ds=>JF ds
 | .dk _=>true
 | .dt _=>true
 | .du _=>true
 | _=>false
theorem Zm2 {d:D}(h:J4 d=true):U0 d:=by
 cases d <;> first | trivial | (simp[J4] at h)
theorem Jf.growB {Hf' H':Hp}(j:Jf G own kn jV H0 σ Hf H ρ)(g:Gr G (wide jV H0 H) H Hf' H') :
  ∃Hf'',Jf G own kn jV H0 σ Hf'' H' ρ/\Zz G Hf Hf''/\(∀d v,XW d=true->Zk G Hf' d v->Zk G Hf'' d v)/\∀d v,J4 d=true->YB G H Hf' d v->Zk G Hf' d v->Zk G Hf'' d v/\YB G H Hf'' d v:=by
 classical
 -- the owned addresses are left out again
 let OA:Addr->Prop:=fun b=>∃i d,i∈own/\ρ[i]?=some (some d)/\σ[i]?=some (some (.ref b))
 have oaH:∀b,OA b->Hf b=none/\¬G.rd b/\∃o,H b=some o/\∀vs,o≠.tup vs:=fun b ⟨i,d,m,e,q⟩=>by
  obtain⟨a,h1,h2,h3,h4,h5⟩:=j.ow i d m e;rw[q] at h1;cases h1;exact⟨h3,h2,h5.there⟩
 have W:=j.grW g;refine⟨fun b=>if OA b then none else Hf' b,?_⟩;have fF:Zz G Hf (fun b=>if OA b then none else Hf' b):=fun b o n e=>by
  have:¬OA b:=fun z=>by rw[(oaH b z).1] at e;cases e
  show(if OA b then none else Hf' b)=_;rw[if_neg this];exact g.ff b o n (j.wideF b o n e)
 have Fh:Zz G (fun b=>if OA b then none else Hf' b) H':=fun b o n e=>by
  have e':(if OA b then none else Hf' b)=some o:=e;split at e'
  ·cases e'
  ·exact g.fh b o n e'
 have tupK:∀b vs,¬G.fp b->Hf' b=some (.tup vs)->(if OA b then none else Hf' b)=some (.tup vs):=fun b vs nf e=>by
  have:¬OA b:=fun z=>by
   obtain⟨_,_,o,q,nt⟩:=oaH b z;have q1:=g.hh b o nf q;have q2:=g.fh b _ nf e;rw[q1] at q2;exact nt vs (zi q2)
  rw[if_neg this];exact e
 have frK:∀a,H a=none->¬OA a:=fun a e z=>by
  obtain⟨_,_,o,q,nt⟩:=oaH a z;rw[e] at q;cases q
 refine⟨⟨j.len,j.kn.trans fF,⟨W.hh,j.gr.ff.trans fF,Fh,fun b n h1 h2=>?_⟩,fun i d n e=>?_,fun i d m e=>?_,j.ne⟩,fF,fun d v n r=>Zk.only tupK n r,fun d v ok fr r=>?_⟩
 ·show(if OA b then none else Hf' b)=none
  split
  ·rfl
  ·exact W.nw b n h1 h2
 ·obtain⟨v,a,b⟩:=j.fz i d n e
  exact⟨v,a,b.ext fF⟩
 ·obtain⟨a,h1,h2,h3,h4,h5⟩:=j.ow i d m e
  refine⟨a,h1,h2,?_,h4,h5.keep fF fun o q=>g.hh a o (jt h2) q⟩;show(if OA a then none else Hf' a)=none;rw[if_pos ⟨i,d,m,e,h1⟩]
 ·cases d with
  | lst ds=>
   obtain⟨a,vs,e,n,q,r'⟩:=jc.mp r;have na:=frK a (fr a e trivial).1;have ea:(if OA a then none else Hf' a)=some (.lst vs):=by rw[if_neg na];exact q
   refine⟨jc.mpr ⟨a,vs,e,n,ea,Zi.only tupK ok r'⟩,fun b eb m=>?_⟩;rw[e] at eb;cases eb;refine⟨(fr a e trivial).1,fun ds' ed=>?_⟩
   cases ed
   refine⟨vs,fun b=>if b=a then none else if OA b then none else Hf' b,ea,if_pos rfl,fun b o nb eb=>?_,?_⟩
   ·have eb':(if b=a then none else if OA b then none else Hf' b)=some o:=eb
    split at eb'
    ·cases eb'
    ·exact eb'
   ·refine Zi.only (fun b ws nb eb=>?_) ok r'
    have hba:b≠a:=fun z=>by rw[z,q] at eb;cases eb
    show(if b=a then none else if OA b then none else Hf' b)=_;rw[if_neg hba];exact tupK b ws nb eb
  | dk ds=>
   obtain⟨a,e,n,q⟩:=jk.mp r;have na:=frK a (fr a e trivial).1;refine⟨jk.mpr ⟨a,e,n,?_⟩,fun b eb m=>⟨(fr b eb m).1,fun ds' ed=>by cases ed⟩⟩;show(if OA a then none else Hf' a)=_;rw[if_neg na];exact q
  | dt ds=>
   obtain⟨a,o,e,n,q⟩:=jl.mp r;have na:=frK a (fr a e trivial).1;refine⟨jl.mpr ⟨a,o,e,n,?_⟩,fun b eb m=>⟨(fr b eb m).1,fun ds' ed=>by cases ed⟩⟩;show(if OA a then none else Hf' a)=_;rw[if_neg na];exact q
  | du ds=>
   obtain⟨a,e,n,q⟩:=jm.mp r;have na:=frK a (fr a e trivial).1;refine⟨jm.mpr ⟨a,e,n,?_⟩,fun b eb m=>⟨(fr b eb m).1,fun ds' ed=>by cases ed⟩⟩;show(if OA a then none else Hf' a)=_;rw[if_neg na];exact q
  | _=>exact absurd (Zm2 ok) (fun z=>z)
theorem Jf.set {i:Nat}{d:D}{v:V}{own':List Nat}(j:Jf G own kn jV H0 σ Hf H ρ)(ho:∀k,k∈own'->k≠i/\k∈own)(hk:∀k,k∈own->k≠i->k∈own')(r:Zk G Hf d v):Jf G own' kn jV H0 (σ.set i (some v)) Hf H (ρ.set i (some d)) where
 len:=by simp[j.len]
 kn:=j.kn
 gr:=j.gr
 fz:=fun k c n e=>by
  by_cases h:i=k
  ·subst h
   have hl:i < ρ.length:=by
    have:=(qL.mp e).1;simpa using this
   rw[zj hl] at e
   cases e
   exact⟨v,zj (by rw[j.len];exact hl),r⟩
  ·rw[qS h] at e⊢
   exact j.fz k c (fun z=>n (hk k z (zm h))) e
 ow:=fun k c m e=>by
  have h:i≠k:=zm (ho k m).1;rw[qS h] at e⊢;exact j.ow k c (ho k m).2 e
 ne:=fun k l a dk dl mk ml n ek el sk sl=>by
  have h:i≠k:=zm (ho k mk).1;have h':i≠l:=zm (ho l ml).1;rw[qS h] at ek sk;rw[qS h'] at el sl;exact j.ne k l a dk dl (ho k mk).2 (ho l ml).2 n ek el sk sl
noncomputable def BE:D->Bool
 | .lst _=>true
 | .dk _=>true
 | .dt _=>true
 | .du _=>true
 | _=>false
theorem Zha {d:D}(h:BE d=true):U0 d:=by
 cases d <;> first | trivial | (simp[BE] at h)
theorem Jf.setOwn {i:Nat}{d:D}{v:V}{Hb Hq:Hp}{s:Pn}{own':List Nat}(j0:Jf G own kn jV H0 σ Hq Hb ρ)(j:Jf G own kn jV H0 σ Hf H ρ)(ho:∀k,k∈own'↔k=i∨k∈own)(st:G.st s Hb)(hb:Zz G Hb H)(hq:Zz G Hq Hf)
  (r:Zk G Hf d v) (fr:YB G Hb Hf d v) (ok:BE d=true):∃Hf',Jf G own' kn jV H0 (σ.set i (some v)) Hf' H (ρ.set i (some d)):=by
 classical
 have mu:=Zha ok;obtain⟨a,ea,nfa⟩:∃a,v=.ref a/\¬G.fp a:=by
  cases d with
  | lst ds=>obtain⟨a,vs,e,n,_⟩:=jc.mp r;exact⟨a,e,n⟩
  | dk ds=>obtain⟨a,e,n,_⟩:=jk.mp r;exact⟨a,e,n⟩
  | dt ds=>obtain⟨a,_,e,n,_⟩:=jl.mp r;exact⟨a,e,n⟩
  | du ds=>obtain⟨a,e,n,_⟩:=jm.mp r;exact⟨a,e,n⟩
  | _=>exact mu.elim
 subst ea;have fra:Hb a=none:=(fr a rfl mu).1;have hqa:Hq a=none:=by
  cases e:Hq a with
  | none=>rfl
  | some o=>rw[j0.gr.fh a o nfa e] at fra;cases fra
 have h0a:H0 a=none:=by
  cases e:H0 a with
  | none=>rfl
  | some o=>rw[j0.gr.hh a o nfa e] at fra;cases fra
 have qF:Zz G Hq (fun b=>if b=a then none else Hf b):=fun b o n e=>by
  have:b≠a:=fun z=>by rw[z,hqa] at e;cases e
  show(if b=a then none else Hf b)=_;rw[if_neg this];exact hq b o n e
 have oldA:∀k c,k∈own->ρ[k]?=some (some c)->σ[k]?≠some (some (.ref a)):=fun k c m e z=>by
  obtain⟨b,h1,_,_,_,h5⟩:=j0.ow k c m e;rw[z] at h1;cases h1;obtain⟨o,q,_⟩:=h5.there;rw[fra] at q;cases q
 refine⟨fun b=>if b=a then none else Hf b,by simp[j.len],j0.kn.trans qF,⟨j.gr.hh,j0.gr.ff.trans qF,fun b o n e=>?_,fun b n h1 h2=>?_⟩,fun k c n e=>?_,fun k c m e=>?_,fun k l b dk dl mk ml n ek el sk sl=>?_⟩
 ·have e':(if b=a then none else Hf b)=some o:=e
  split at e'
  ·cases e'
  ·exact j.gr.fh b o n e'
 ·show(if b=a then none else Hf b)=none
  split
  ·rfl
  ·exact j.gr.nw b n h1 h2
 ·have h:i≠k:=fun z=>n ((ho k).mpr (.inl z.symm))
  rw[qS h] at e⊢;obtain⟨v,q1,q2⟩:=j0.fz k c (fun z=>n ((ho k).mpr (.inr z))) e;exact⟨v,q1,q2.ext qF⟩
 ·by_cases h:i=k
  ·subst h
   have hl:i < ρ.length:=by
    have:=(qL.mp e).1;simpa using this
   rw[zj hl] at e
   cases e
   refine⟨a,zj (by rw[j.len];exact hl),jC st fra,by show(if a=a then none else Hf a)=none;rw[if_pos rfl],h0a,?_⟩
   cases d with
   | lst ds=>
    obtain⟨a',vs,e',n',q',r'⟩:=jc.mp r
    cases e'
    obtain⟨ws,Hm,f1,f2,f3,f4⟩:=(fr a rfl mu).2 ds rfl;rw[q'] at f1;cases f1;refine⟨vs,j.gr.fh a _ n' q',f4.ext fun b o nb eb=>?_⟩;have:b≠a:=fun z=>by rw[z,f2] at eb;cases eb
    show(if b=a then none else Hf b)=_;rw[if_neg this];exact f3 b o nb eb
   | dk ds=>obtain⟨a',e',n',q'⟩:=jk.mp r;cases e';exact j.gr.fh a _ n' q'
   | dt ds=>obtain⟨a',o',e',n',q'⟩:=jl.mp r;cases e';exact⟨o',j.gr.fh a _ n' q'⟩
   | du ds=>obtain⟨a',e',n',q'⟩:=jm.mp r;cases e';exact j.gr.fh a _ n' q'
   | _=>exact mu.elim
  ·have m':k∈own:=((ho k).mp m).resolve_left (zm h)
   rw[qS h] at e⊢;obtain⟨b,h1,h2,h3,h4,h5⟩:=j0.ow k c m' e;obtain⟨b',g1,g2,g3,g4,g5⟩:=j.ow k c m' e;rw[h1] at g1;cases g1;refine⟨b,h1,h2,?_,h4,h5.keep qF fun o q=>hb b o (jt h2) q⟩;show(if b=a then none else Hf b)=none;split
   ·rfl
   ·exact g3
 ·by_cases hk:i=k
  ·subst hk
   have h':i≠l:=n;have hl:i < σ.length:=by
    have:=(qL.mp sk).1;simpa using this
   rw[zj hl] at sk
   cases sk
   rw[qS h'] at el sl;exact oldA l dl (((ho l).mp ml).resolve_left (zm h')) el sl
  ·by_cases hl':i=l
   ·subst hl'
    have hl:i < σ.length:=by
     have:=(qL.mp sl).1;simpa using this
    rw[zj hl] at sl
    cases sl
    rw[qS hk] at ek sk;exact oldA k dk (((ho k).mp mk).resolve_left (zm hk)) ek sk
   ·rw[qS hk] at ek sk
    rw[qS hl'] at el sl;exact j.ne k l b dk dl (((ho k).mp mk).resolve_left (zm hk)) (((ho l).mp ml).resolve_left (zm hl')) n ek el sk sl
theorem Jf.freeze {own':List Nat}(j:Jf G own kn jV H0 σ Hf H ρ)(ho:∀k,k∈own'->k∈own):∃Hf',Jf G own' kn jV H0 σ Hf' H ρ:=by
 classical
 let OA:Addr->Prop:=fun b=>∃i d,i∈own/\i∉own'/\ρ[i]?=some (some d)/\σ[i]?=some (some (.ref b))
 have oaH:∀b,OA b->Hf b=none/\H0 b=none:=fun b ⟨i,d,m,_,e,q⟩=>by
  obtain⟨a,h1,h2,h3,h4,h5⟩:=j.ow i d m e;rw[q] at h1;cases h1;exact⟨h3,h4⟩
 have fF:Zz G Hf (fun b=>if OA b then H b else Hf b):=fun b o n e=>by
  have:¬OA b:=fun z=>by rw[(oaH b z).1] at e;cases e
  show(if OA b then H b else Hf b)=_;rw[if_neg this];exact e
 refine⟨fun b=>if OA b then H b else Hf b,j.len,j.kn.trans fF,⟨j.gr.hh,j.gr.ff.trans fF,fun b o n e=>?_,fun b n h1 h2=>?_⟩,fun k c n e=>?_,fun k c m e=>?_,fun k l b dk dl mk ml=>j.ne k l b dk dl (ho k mk) (ho l ml)⟩
 ·have e':(if OA b then H b else Hf b)=some o:=e
  split at e'
  ·exact e'
  ·exact j.gr.fh b o n e'
 ·have:¬OA b:=fun z=>h2.no (oaH b z).2
  show(if OA b then H b else Hf b)=none;rw[if_neg this];exact j.gr.nw b n h1 h2
 ·by_cases m:k∈own
  ·obtain⟨a,h1,h2,h3,h4,h5⟩:=j.ow k c m e
   refine⟨_,h1,h5.rep (jt h2) fF fun o q=>?_⟩;show(if OA a then H a else Hf a)=_;rw[if_pos ⟨k,c,m,n,e,h1⟩];exact q
  ·obtain⟨v,h1,h2⟩:=j.fz k c m e
   exact⟨v,h1,h2.ext fF⟩
 ·obtain⟨a,h1,h2,h3,h4,h5⟩:=j.ow k c (ho k m) e
  refine⟨a,h1,h2,?_,h4,h5.keep fF fun o q=>q⟩;have:¬OA a:=fun⟨i,d,mi,ni,ei,qi⟩=>j.ne i k a d c mi (ho k m) (fun z=>ni (z▸m)) ei e qi h1;show(if OA a then H a else Hf a)=none;rw[if_neg this];exact h3
end
theorem Jf.setF {G:Gh}{own:List Nat}{kn jV H0 Hf H:Hp}{σ:St}{ρ:Zb}{i:Nat}{d:D}{v:V}(j:Jf G own kn jV H0 σ Hf H ρ)(hi:i∉own)(r:Zk G Hf d v):Jf G own kn jV H0 (σ.set i (some v)) Hf H (ρ.set i (some d)):=
 j.set (own':=own) (fun k m=>⟨fun z=>hi (by rw[<-z];exact m),m⟩) (fun k m _=>m) r
noncomputable def Wl (G:Gh)(fr:Bool)(t:TE)(f:Zb->M D):Prop:=
 ∀(σ:St) (Hf H:Hp) (ρ:Zb) (s:Pn) (d:D) (s':Pn) (Q:VK),Zz G Hf H->YM G Hf σ ρ->G.st s H->f ρ s=some (d,s')->
  (∀v Hf' H',Gr G Hf H Hf' H'->G.st s' H'->Zk G Hf' d v->(fr=true->YB G H Hf' d v)->Q v H')->t σ H Q
noncomputable def Ua (G:Gh)(own:List Nat)(fr:Bool)(t:TE)(f:Zb->M D):Prop:=
 ∀(kn jV H0:Hp) (σ:St) (Hf H:Hp) (ρ:Zb) (s:Pn) (d:D) (s':Pn) (Q:VK),Jf G own kn jV H0 σ Hf H ρ->G.st s H->f ρ s=some (d,s')->
  (∀v Hf' H',Jf G own kn jV H0 σ Hf' H' ρ->Zz G Hf Hf'->Zz G H H'->G.st s' H'->Zk G Hf' d v->(fr=true->YB G H Hf' d v)->Q v H')->t σ H Q
section
variable {X:Cx}{G:Gh}{own:List Nat}{fr:Bool}{t:TE}{f:Zb->M D}
theorem Wl.a (h:Wl G fr t f):Ua G own fr t (fun ρ=>f (YN own ρ)):=fun kn jV H0 σ Hf H ρ s d s' Q j st e k=>
 h σ Hf H (YN own ρ) s d s' Q j.gr.fh j.envA st e fun v Hf' H' g st' r fz=>k v Hf' H' (j.grow g) g.ff g.hh st' r fz
theorem Wl.n (h:Wl G fr t f):Ua G [] fr t f:=fun kn jV H0 σ Hf H ρ s d s' Q j st e k=>
 h.a kn jV H0 σ Hf H ρ s d s' Q j st (by show f (YN [] ρ) s=_;rw[ZcW];exact e) k
theorem Zjn {d:D}(h:XW d=true):¬U0 d:=by
 cases d <;> first | exact(fun z=>z) | (simp[XW] at h)
noncomputable def WA (fr:Bool)(f:Zb->M D):Zb->M D:=fun ρ=>Zn (f ρ) fun d=>if (XW d||(fr&&J4 d))=true then ZB d else ZG
theorem ZoY {fr:Bool}{f:Zb->M D}{ρ:Zb}{s s':Pn}{d:D}(h:f ρ s=some (d,s'))(c:(XW d||(fr&&J4 d))=true):WA fr f ρ s=some (d,s'):=by
 unfold WA Zn;rw[h];show(if (XW d||(fr&&J4 d))=true then ZB d else ZG) s'=_;rw[if_pos c];rfl
theorem Wl.b (h:Wl G fr t f):Ua G own fr t (WA fr f):=fun kn jV H0 σ Hf H ρ s d s' Q j st e k=>by
 obtain⟨d1,s1,a1,a2⟩:=Zy e;obtain⟨c,a3⟩:=Y7 a2;obtain⟨rfl,rfl⟩:=ZL a3;refine h σ _ H ρ s d s' Q UO j.envB st a1 fun v Hf' H' g st' r fz=>?_;obtain⟨F,j',fF,q1,q2⟩:=j.growB g;rcases qbM.mp c with c | c
 ·exact k v F H' j' fF g.hh st' (q1 d v c r) fun z a ea m=>absurd m (Zjn c)
 ·obtain⟨c1,c2⟩:=yf.mp c
  obtain⟨x1,x2⟩:=q2 d v c2 (fz c1) r;exact k v F H' j' fF g.hh st' x1 fun _=>x2
inductive Out where
 | nx (ρ:Zb) | rt (d:D) | bk (ρ:Zb) | ct (ρ:Zb)
noncomputable def Post (G:Gh)(ob own':List Nat)(kn jV H0:Hp)(fr:Bool)(out:Out)(s':Pn)(E:Ends):Prop:=match out with
 | .nx ρ=>∀σ H,J G own' kn jV H0 σ H ρ->G.st s' H->E.nx σ H
 | .bk ρ=>∀σ H,J G ob kn jV H0 σ H ρ->G.st s' H->E.bk σ H
 | .ct ρ=>∀σ H,J G ob kn jV H0 σ H ρ->G.st s' H->E.ct σ H
 | .rt d=>∀v Hf' H',Gr G jV H0 Hf' H'->G.st s' H'->Zk G Hf' d v->(fr=true->YB G H0 Hf' d v)->E.rt v H'
noncomputable def Dos (G:Gh)(ob own own':List Nat)(fr:Bool)(t:TS)(g:Zb->M Out):Prop:=
 ∀(kn jV H0:Hp) (σ:St) (H:Hp) (ρ:Zb) (s:Pn) (out:Out) (s':Pn) (E:Ends),J G own kn jV H0 σ H ρ->G.st s H->g ρ s=some (out,s')->Post G ob own' kn jV H0 fr out s' E->t E σ H
noncomputable def Xm (X:Cx)(G:Gh)(ob own own':List Nat)(fr:Bool)(st:Stmt)(g:Zb->M Out):Prop:=∃t,PS X st t/\Dos G ob own own' fr t g
noncomputable def Wa (X:Cx)(G:Gh)(ob own own':List Nat)(fr:Bool)(sts:List Stmt)(g:Zb->M Out):Prop:=∃t,Wk X sts t/\Dos G ob own own' fr t g
variable {ob own' own2:List Nat}
noncomputable def Zs:Zb->M Out:=fun ρ=>ZB (.nx ρ)
noncomputable def Zh (g1 g2:Zb->M Out):Zb->M Out:=fun ρ=>Zn (g1 ρ) fun o=>match o with | .nx ρ'=>g2 ρ' | .rt d=>ZB (.rt d) | .bk ρ'=>ZB (.bk ρ') | .ct ρ'=>ZB (.ct ρ')
theorem YY (hs:∀k,k∈own'->k∈own:=by decide):Wa X G ob own own' fr [] Zs:=⟨_,ZeF,fun kn jV H0 σ H ρ s out s' E ⟨Hf,j⟩ st e p=>by
 obtain⟨rfl,rfl⟩:=ZL e;exact p σ H (j.freeze hs) st⟩
theorem XG {st:Stmt}{sts:List Stmt}{g1 g2:Zb->M Out}(h:Xm X G ob own own2 fr st g1)(h2:Wa X G ob own2 own' fr sts g2):Wa X G ob own own' fr (st::sts) (Zh g1 g2):=by
 obtain⟨t,p,q⟩:=h;obtain⟨u,p2,q2⟩:=h2;refine⟨_,WU p p2,fun kn jV H0 σ H ρ s out s' E j st e po=>?_⟩;obtain⟨o,s1,a1,a2⟩:=Zy e;refine q kn jV H0 σ H ρ s o s1 _ j st a1 ?_
 cases o with
 | nx ρ1=>exact fun σ1 H1 j1 j6=>q2 kn jV H0 σ1 H1 ρ1 s1 out s' E j1 j6 a2 po
 | rt d=>obtain⟨rfl,rfl⟩:=ZL a2;exact po
 | bk ρ1=>obtain⟨rfl,rfl⟩:=ZL a2;exact po
 | ct ρ1=>obtain⟨rfl,rfl⟩:=ZL a2;exact po
noncomputable def ZP (f:Zb->M D):Zb->M Out:=fun ρ=>Zn (f ρ) fun d=>ZB (.rt d)
theorem Yb {e:Expr}{pos:Pos}(h:PD X G fr e f):Xm X G ob own own' fr (.Return (some e) pos) (ZP f):=by
 obtain⟨t,p,q⟩:=h;refine⟨_,JC p,fun kn jV H0 σ H ρ s out s' E ⟨Hf,j⟩ st e po=>?_⟩;obtain⟨d,s1,a1,a2⟩:=Zy e;obtain⟨rfl,rfl⟩:=ZL a2;exact q σ _ H ρ s d s' _ UO j.envB st a1 fun v Hf' H' g st' r fz=>po v Hf' H' (j.grW g) st' r fun z=>jo j.gr.hh r.nofp (fz z)
theorem ZcX {i:Nat}{x:Str}{pos pos':Pos}(hi:i∈own)(h:PE X (.Name x pos') (Yn i)):Xm X G ob own own' true (.Return (some (.Name x pos')) pos) (ZP (Za i)):=by
 refine⟨_,JC h,fun kn jV H0 σ H ρ s out s' E ⟨Hf,j⟩ st e po=>?_⟩;obtain⟨d,s1,a1,a2⟩:=Zy e;obtain⟨rfl,rfl⟩:=ZL a2;obtain⟨e1,rfl⟩:=Wf a1;have e':ρ[i]?=some (some d):=by
  cases q:ρ[i]? with
  | none=>rw[q] at e1;cases e1
  | some o=>rw[q] at e1;simp at e1;rw[e1]
 obtain⟨v,h1,h2⟩:=j.envB i d e';obtain⟨a,g1,g2,g3,g4,g5⟩:=j.ow i d hi e';rw[g1] at h1;cases h1;refine⟨_,g1,po (.ref a) _ H (j.grW (.refl UO)) st h2 fun _ b eb _=>?_⟩
 cases eb
 refine⟨g4,fun ds ed=>?_⟩;subst ed;obtain⟨vs,q1,q2⟩:=g5;refine⟨vs,Hf,?_,g3,j.wideF,q2⟩;unfold wide;rw[if_neg (fun z=>z.2.no g4)];exact q1
noncomputable def YJ (c:Zb->M Bool)(g1 g2:Zb->M Out):Zb->M Out:=fun ρ=>Zn (c ρ) fun b=>if b=true then g1 ρ else g2 ρ
theorem ZkY {c:Expr}{a b:List Stmt}{pos:Pos}{fc:Zb->M Bool}{g1 g2:Zb->M Out}(hc:X2 X G c fc)(ha:Wa X G ob own own' fr a g1)(hb:Wa X G ob own own' fr b g2):Xm X G ob own own' fr (.If c a b pos) (YJ fc g1 g2):=by
 obtain⟨tc,pc,qc⟩:=hc;obtain⟨ta,pa,qa⟩:=ha;obtain⟨tb,pb,qb⟩:=hb;refine⟨_,ZkD pc pa pb,fun kn jV H0 σ H ρ s out s' E ⟨Hf,j⟩ st e po=>?_⟩;obtain⟨b,s1,a1,a2⟩:=Zy e;refine qc σ _ H ρ s b s1 _ UO j.envB st a1 fun Hf' H' g st'=>?_;obtain⟨F,j',fF,q1,q2⟩:=j.growB g
 cases b with
 | true=>exact VN (qa kn jV H0 σ H' ρ s1 out s' E ⟨F,j'⟩ st' a2 po)
 | false=>exact VM (qb kn jV H0 σ H' ρ s1 out s' E ⟨F,j'⟩ st' a2 po)
noncomputable def JU (X:Cx)(G:Gh)(fr:Bool)(i:Nat)(st:Stmt)(f:Zb->M D):Prop:=∃te,PS X st (fun E σ H=>te σ H fun y H1=>E.nx (σ.set i (some y)) H1)/\Wl G fr te f
theorem Yz {i:Nat}{x:Str}{e:Expr}{pos pos':Pos}(hN:X.N.Nodup)(hi:X.N[i]?=some x)(hx:Wy X.env.scope x)(he:PD X G fr e f)(hs:swapsWith e (some (.Name x pos')) pos.line X.env=pure false:=by rfl)
  (hf:X.fn x=true∨X.env.scope.names.lookup x=some .local:=by first | exact .inl rfl | exact .inr rfl | assumption):JU X G fr i (.Assign [.Name x pos'] e pos) f:=by
 obtain⟨t,p,q⟩:=he;exact⟨t,Um hN hi hx p hs hf,q⟩
noncomputable def ZT (i:Nat)(f:Zb->M D):Zb->M Out:=fun ρ=>Zn (f ρ) fun d=>ZB (.nx (ρ.set i (some d)))
theorem ZcY {i:Nat}{st:Stmt}{te:TE}(hp:PS X st (fun E σ H=>te σ H fun y H1=>E.nx (σ.set i (some y)) H1))(hy:Ua G own fr te f)(hi:i∉own){fr':Bool}:Xm X G ob own own fr' st (ZT i f):=
 ⟨_,hp,fun kn jV H0 σ H ρ s out s' E ⟨Hf,j⟩ st e po=>by
  obtain⟨d,s1,a1,a2⟩:=Zy e;obtain⟨rfl,rfl⟩:=ZL a2;exact hy kn jV H0 σ Hf H ρ s d s' _ j st a1 fun v Hf' H' j' e1 e2 st' r fz=>po _ H' ⟨Hf',j'.setF hi r⟩ st'⟩
theorem YA {i:Nat}{st:Stmt}{fr':Bool}(h:JU X G fr i st f):Xm X G ob [] [] fr' st (ZT i f):=let ⟨_,p,q⟩:=h;ZcY p q.n (by simp)
theorem ZkZ {i:Nat}{st:Stmt}{fr':Bool}(h:JU X G fr i st f)(hi:i∉own:=by decide):Xm X G ob own own fr' st (ZT i (fun ρ=>f (YN own ρ))):=let ⟨_,p,q⟩:=h;ZcY p q.a hi
theorem Zk0 {i:Nat}{st:Stmt}{fr':Bool}(h:JU X G fr i st f)(hi:i∉own:=by decide):Xm X G ob own own fr' st (ZT i (WA fr f)):=let ⟨_,p,q⟩:=h;ZcY p q.b hi
noncomputable def U8 (i:Nat)(f:Zb->M D):Zb->M Out:=fun ρ=>Zn (f ρ) fun d=>if BE d=true then ZB (.nx (ρ.set i (some d))) else ZG
theorem Zk1 {i:Nat}{st:Stmt}{te:TE}(hp:PS X st (fun E σ H=>te σ H fun y H1=>E.nx (σ.set i (some y)) H1))(hy:Ua G own true te f)(ho:∀k,k∈own'↔k=i∨k∈own){fr':Bool}:Xm X G ob own own' fr' st (U8 i f):=
 ⟨_,hp,fun kn jV H0 σ H ρ s out s' E ⟨Hf,j⟩ st e po=>by
  obtain⟨d,s1,a1,a2⟩:=Zy e;obtain⟨ok,a3⟩:=Y7 a2;obtain⟨rfl,rfl⟩:=ZL a3;exact hy kn jV H0 σ Hf H ρ s d s' _ j st a1 fun v Hf' H' j' e1 e2 st' r fz=>po _ H' (j.setOwn j' ho st e2 e1 r (fz rfl) ok) st'⟩
theorem ZcZ {i:Nat}{st:Stmt}{fr':Bool}(h:JU X G true i st f):Xm X G ob [] [i] fr' st (U8 i f):=let ⟨_,p,q⟩:=h;Zk1 p q.n (by intro k;simp)
inductive Sets (G:Gh)(Hf:Hp)(ok:Nat->Prop):St->Zb->St->Zb->Prop
 | nil {σ ρ}:Sets G Hf ok σ ρ σ ρ
 | cons {σ ρ σ' ρ'} {i:Nat} {d:D} {v:V}:ok i->Zk G Hf d v->Sets G Hf ok (σ.set i (some v)) (ρ.set i (some d)) σ' ρ'->Sets G Hf ok σ ρ σ' ρ'
noncomputable def Va (X:Cx)(G:Gh)(tg:Expr)(ok:Nat->Prop)(τ:D->Zb->Option Zb):Prop:=
 ∃g,PG X tg g/\∀(x:V) (σ:St) (Hf H:Hp) (d:D) (ρ ρ':Zb) (Q:St->Hp->Prop),Zz G Hf H->Zk G Hf d x->τ d ρ=some ρ'->(∀σ',Sets G Hf ok σ ρ σ' ρ'->Q σ' H)->g x σ H Q
noncomputable def ZD (i:Nat):D->Zb->Option Zb:=fun d ρ=>some (ρ.set i (some d))
theorem V2 {i:Nat}{x:Str}{pos:Pos}{ok:Nat->Prop}(hN:X.N.Nodup)(hi:X.N[i]?=some x)(hx:Wy X.env.scope x)(oi:ok i)(hf:X.fn x=true∨X.env.scope.names.lookup x=some .local:=by first | exact .inl rfl | exact .inr rfl | assumption):Va X G (.Name x pos) ok (ZD i):=
 ⟨_,Wg hN hi hx hf,fun x σ Hf H d ρ ρ' Q e r q k=>by
  cases q
  exact k _ (.cons oi r .nil)⟩
noncomputable def VE (i j:Nat):D->Zb->Option Zb:=fun d ρ=>match d with | .tup [a,b]=>some ((ρ.set i (some a)).set j (some b)) | _=>none
theorem Zc0 {i j:Nat}{x y:Str}{pos px py:Pos}{k:Nat}{ok:Nat->Prop}(hc:X.calm=true)(hN:X.N.Nodup)(hi:X.N[i]?=some x)(hj:X.N[j]?=some y)(hx:Wy X.env.scope x)(hy:Wy X.env.scope y)(oi:ok i)(oj:ok j)
  (hfx:X.fn x=true∨X.env.scope.names.lookup x=some .local:=by first | exact .inl rfl | exact .inr rfl | assumption) (hfy:X.fn y=true∨X.env.scope.names.lookup y=some .local:=by first | exact .inl rfl | exact .inr rfl | assumption)
  (hn:(assignEach [.Name x px,.Name y py] X.env).length=2:=by rfl) (hst:(assignEach [.Name x px,.Name y py] X.env).findIdx? (·.1)=none:=by rfl)
  (hp:J0 X [.Name x px,.Name y py] (UY (XM i) (UY (XM j) gNil))):Va X G (.Tuple [.Name x px,.Name y py] k pos) ok (VE i j):=
 ⟨_,ZkE hc hp hn hst,fun x σ Hf H d ρ ρ' Q e r q k=>by
  match d,q,r with
  | .tup [a,b],q,r=>
   cases q
   obtain⟨ad,vs,rfl,n,h,rl⟩:=jb.mp r;obtain⟨v1,r1,rfl,q1,q2⟩:=jd.mp rl;obtain⟨v2,r2,rfl,q3,q4⟩:=jd.mp q2;have:=Zi.nil_iff.mp q4;subst this;exact⟨ad,_,rfl,ZU.of (e _ _ n h),rfl,v1,_,rfl,v2,_,rfl,rfl,k _ (.cons oi q1 (.cons oj q3 .nil))⟩⟩
theorem Sets.jf {kn jV H0 Hf H:Hp}{σ σ':St}{ρ ρ':Zb}(h:Sets G Hf (fun i=>i∉own) σ ρ σ' ρ'):Jf G own kn jV H0 σ Hf H ρ->Jf G own kn jV H0 σ' Hf H ρ':=by
 induction h with
 | nil=>exact fun j=>j
 | cons o r _ ih=>exact fun j=>ih (j.setF o r)
noncomputable def Ub (G:Gh)(J:It)(Hf':Hp)(ds:List D):Prop:=
 ∀(i:Nat) (j7 H2:Hp) (s:Pn),Zz G Hf' j7->Zz G j7 H2->G.st s H2->
  (∀d,ds[i]?=some d->J.go i H2/\∀x H3,J.yld i H2 x H3->∃Hf3,Gr G j7 H2 Hf3 H3/\G.st s H3/\Zk G Hf3 d x)/\(i=ds.length->J.stop i H2)
noncomputable def Vb (X:Cx)(G:Gh)(tg iter:Expr)(f:Zb->M (List D)):Prop:=
 ∃wi,PI X tg iter wi/\∀(σ:St) (Hf H:Hp) (ρ:Zb) (s:Pn) (ds:List D) (s':Pn) (R:It->Hp->Prop),Zz G Hf H->YM G Hf σ ρ->G.st s H->f ρ s=some (ds,s')->
  (∀J Hf' H',Gr G Hf H Hf' H'->G.st s' H'->Ub G J Hf' ds->R J H')->wi σ H R
theorem Ub.range {lo:Int}{n:Nat}{Hf:Hp}{ds:List D}(e:ds=(qp n).map fun(i:Nat)=>D.int (lo+i)):Ub G (B0 lo n) Hf ds:=fun i j7 H2 s e1 e2 st=>by
 subst e;refine⟨fun d q=>?_,fun q=>by show n<=i;rw[q];simp⟩;have hi:i<n:=by
  have:=(qL.mp q).1;simpa using this
 have hd:d=.int (lo+i):=by
  rw[qD,z6 hi] at q;simp at q;exact q.symm
 subst hd;refine⟨hi,fun x H3 y=>?_⟩;obtain⟨y1,y2⟩:=y;subst y1 y2;exact⟨j7,.refl e2,st,ja.mpr rfl⟩
theorem Ub.list {K:qk}{a:Addr}{vs:List V}{Hf:Hp}{ds:List D}(nf:¬G.fp a)(h:Hf a=some (.lst vs))(r:Zi G Hf ds vs):Ub G (Itl K a) Hf ds:=fun i j7 H2 s e1 e2 st=>by
 have h2:ZH K H2 a vs:=ZH.of (e2 _ _ nf (e1 _ _ nf h));refine⟨fun d q=>?_,fun q=>⟨vs,h2,by rw[q,r.length];exact qw _⟩⟩;obtain⟨v,q1,q2⟩:=r.get q;refine⟨⟨vs,v,h2,q1⟩,fun x H3 ⟨y1,y2⟩=>?_⟩;subst y1;have e:=y2 vs h2;rw[q1] at e;cases e;exact⟨j7,.refl e2,st,q2.ext e1⟩
theorem Ub.tup {K:qk}{a:Addr}{vs:List V}{Hf:Hp}{ds:List D}(nf:¬G.fp a)(h:Hf a=some (.tup vs))(r:Zi G Hf ds vs):Ub G (Itt K a) Hf ds:=fun i j7 H2 s e1 e2 st=>by
 have h2:ZU K H2 a vs:=ZU.of (e2 _ _ nf (e1 _ _ nf h));refine⟨fun d q=>?_,fun q=>⟨vs,h2,by rw[q,r.length];exact qw _⟩⟩;obtain⟨v,q1,q2⟩:=r.get q;refine⟨⟨vs,v,h2,q1⟩,fun x H3 ⟨y1,y2⟩=>?_⟩;subst y1;have e:=y2 vs h2;rw[q1] at e;cases e;exact⟨j7,.refl e2,st,q2.ext e1⟩
noncomputable def Ye (lo:Int)(n:Nat):List D:=(qp n).map fun(i:Nat)=>D.int (lo+i)
noncomputable def YO (f:Zb->M D):Zb->M (List D):=fun ρ=>Zn (f ρ) fun d=>match d with | .int j=>if -(2 ^ 62)<=j/\j<2 ^ 62 then ZB (Ye 0 j.toNat) else ZG | _=>ZG
theorem UH {tg a:Expr}{p pos:Pos}{r1:Bool}(hg:Gl X "range")(hm:X.mg "range" = none)(ha:PD X G r1 a f)(hs:starEach [a] X.env=[(false,eval a X.env)]:=by rfl):Vb X G tg (.Call (.Name "range" p) [a] [] pos) (YO f):=by
 obtain⟨t,pa,qa⟩:=ha.drop;refine⟨_,ZbQ hg hm (YS pa Y8 (by rw[hs];rfl)) hs,fun σ Hf H ρ s ds s' R e1 e2 e3 e4 k=>?_⟩;obtain⟨d,s1,a1,a2⟩:=Zy e4
 cases d with
 | int j=>
  obtain⟨c,a3⟩:=Y7 a2;obtain⟨rfl,rfl⟩:=ZL a3;refine qa σ Hf H ρ s _ _ _ e1 e2 e3 a1 fun v jT H1 g st r=>?_;rw[ja.mp r];exact⟨j,rfl,c.1,c.2,k _ jT H1 g st (.range rfl)⟩
 | _=>cases a2
noncomputable def Zcz (f g:Zb->M D):Zb->M (List D):=fun ρ=>Zn (f ρ) fun d=>Zn (g ρ) fun e=>match d,e with | .int i,.int j=>if -(2 ^ 62)<=i/\i<2 ^ 62/\-(2 ^ 62)<=j/\j<2 ^ 62 then ZB (Ye i (j-i).toNat) else ZG | _,_=>ZG
noncomputable def ZX (f:Zb->M D):Zb->M (List D):=fun ρ=>Zn (f ρ) fun d=>match d with | .lst ds=>ZB ds | _=>ZG
noncomputable def Wq (f:Zb->M D):Zb->M (List D):=fun ρ=>Zn (f ρ) fun d=>match d with | .tup ds=>ZB ds | _=>ZG
theorem XH {tg l:Expr}{r1:Bool}(hl:PD X G r1 l f):Vb X G tg l (ZX f):=by
 obtain⟨t,pa,qa⟩:=hl.drop;refine⟨_,ZeG pa,fun σ Hf H ρ s ds s' R e1 e2 e3 e4 k=>?_⟩;obtain⟨d,s1,a1,a2⟩:=Zy e4
 cases d with
 | lst es=>
  obtain⟨rfl,rfl⟩:=ZL a2;refine qa σ Hf H ρ s _ _ _ e1 e2 e3 a1 fun v jT H1 g st r=>?_;obtain⟨a,vs,rfl,nf,h,rl⟩:=jc.mp r;exact⟨a,rfl,⟨vs,ZH.of (g.fh _ _ nf h)⟩,k _ jT H1 g st (.list nf h rl)⟩
 | _=>cases a2
theorem ZcA {tg l:Expr}{r1:Bool}(hl:PD X G r1 l f):Vb X G tg l (Wq f):=by
 obtain⟨t,pa,qa⟩:=hl.drop;refine⟨_,ZoJ pa,fun σ Hf H ρ s ds s' R e1 e2 e3 e4 k=>?_⟩;obtain⟨d,s1,a1,a2⟩:=Zy e4
 cases d with
 | tup es=>
  obtain⟨rfl,rfl⟩:=ZL a2;refine qa σ Hf H ρ s _ _ _ e1 e2 e3 a1 fun v jT H1 g st r=>?_;obtain⟨a,vs,rfl,nf,h,rl⟩:=jb.mp r;exact⟨a,rfl,⟨vs,ZU.of (g.fh _ _ nf h)⟩,k _ jT H1 g st (.tup nf h rl)⟩
 | _=>cases a2
noncomputable def Wv (τ:D->Zb->Option Zb)(body:Zb->M Out):List D->Zb->M Out
 | [],ρ=>ZB (.nx ρ)
 | d::ds,ρ=>Zn (YR (τ d ρ)) fun ρ1=>Zn (body ρ1) fun o=>match o with | .nx ρ2=>Wv τ body ds ρ2 | .ct ρ2=>Wv τ body ds ρ2 | .bk ρ2=>ZB (.nx ρ2) | .rt d=>ZB (.rt d)
noncomputable def Ww (fi:Zb->M (List D))(τ:D->Zb->Option Zb)(body:Zb->M Out):Zb->M Out:=fun ρ=>Zn (fi ρ) fun ds=>Wv τ body ds ρ
noncomputable def BU (X:Cx)(G:Gh)(own:List Nat)(tg iter:Expr)(f:Zb->M (List D)):Prop:=
 ∃wi,PI X tg iter wi/\∀(kn jV H0:Hp) (σ:St) (Hf H:Hp) (ρ:Zb) (s:Pn) (ds:List D) (s':Pn) (R:It->Hp->Prop),Jf G own kn jV H0 σ Hf H ρ->G.st s H->f ρ s=some (ds,s')->
  (∀J Hf' H',Jf G own kn jV H0 σ Hf' H' ρ->Zz G Hf Hf'->G.st s' H'->Ub G J Hf' ds->R J H')->wi σ H R
theorem Vb.a {tg iter:Expr}{fi:Zb->M (List D)}(h:Vb X G tg iter fi):BU X G own tg iter (fun ρ=>fi (YN own ρ)):=by
 obtain⟨wi,p,q⟩:=h;exact⟨wi,p,fun kn jV H0 σ Hf H ρ s ds s' R j st e k=>q σ Hf H _ s ds s' R j.gr.fh j.envA st e fun J Hf' H' g st' it=>k J Hf' H' (j.grow g) g.ff st' it⟩
theorem Vb.n {tg iter:Expr}{fi:Zb->M (List D)}(h:Vb X G tg iter fi):BU X G [] tg iter fi:=by
 obtain⟨wi,p,q⟩:=h.a (own:=[]);exact⟨wi,p,fun kn jV H0 σ Hf H ρ s ds s' R j st e k=>q kn jV H0 σ Hf H ρ s ds s' R j st (by show fi (YN [] ρ) s=_;rw[ZcW];exact e) k⟩
theorem Bd {tg a:Expr}{p pos:Pos}{r1:Bool}(hg:Gl X "range")(hm:X.mg "range" = none)(ha:PD X G r1 a f)(hs:starEach [a] X.env=[(false,eval a X.env)]:=by rfl):BU X G own tg (.Call (.Name "range" p) [a] [] pos) (YO f):=by
 obtain⟨t,pa,qa⟩:=ha.drop;refine⟨_,ZbQ hg hm (YS pa Y8 (by rw[hs];rfl)) hs,fun kn jV H0 σ Hf H ρ s ds s' R j st e4 k=>?_⟩;obtain⟨d,s1,a1,a2⟩:=Zy e4
 cases d with
 | int i=>
  obtain⟨c,a3⟩:=Y7 a2;obtain⟨rfl,rfl⟩:=ZL a3;refine qa σ _ H ρ s _ _ _ UO j.envB st a1 fun v jT H1 g st r=>?_;obtain⟨F,j',fF,q1,q2⟩:=j.growB g;rw[ja.mp r];exact⟨i,rfl,c.1,c.2,k _ F H1 j' fF st (.range rfl)⟩
 | _=>cases a2
theorem ZfR {tg a b:Expr}{p pos:Pos}{r1 r2:Bool}{f2:Zb->M D}(hg:Gl X "range")(hm:X.mg "range" = none)(ha:PD X G r1 a f)(hb:PD X G r2 b f2)
  (hs:starEach [a,b] X.env=[(false,eval a X.env),(false,eval b X.env)]:=by rfl) (hs2:starEach [b] X.env=[(false,eval b X.env)]:=by rfl):BU X G own tg (.Call (.Name "range" p) [a,b] [] pos) (Zcz f f2):=by
 obtain⟨t,pa,qa⟩:=ha.drop;obtain⟨u,pb,qb⟩:=hb.drop;refine⟨_,Zjb hg hm (YS pa (YS pb Y8 (by rw[hs2];rfl)) (by rw[hs,hs2])) hs hs2,fun kn jV H0 σ Hf H ρ s ds s' R j st e4 k=>?_⟩;obtain⟨d,s1,a1,a2⟩:=Zy e4;obtain⟨d2,s2,a3,a4⟩:=Zy a2
 match d,d2,a4,a1,a3 with
 | .int i,.int l,a4,a1,a3=>
  obtain⟨c,a5⟩:=Y7 a4;obtain⟨rfl,rfl⟩:=ZL a5;refine qa σ _ H ρ s _ _ _ UO j.envB st a1 fun v jT H1 g st r=>?_;refine qb σ jT H1 ρ s1 _ _ _ g.fh (j.envB.ext g.ff) st a3 fun v2 j7 H2 g2 jX r2=>?_;obtain⟨F,j',fF,q1,q2⟩:=j.growB (g.trans g2);rw[ja.mp r,ja.mp r2];exact⟨i,l,rfl,c,k _ F H2 j' fF jX (.range rfl)⟩
theorem Jf.weak {kn kn' jV H0 Hf H:Hp}{σ:St}{ρ:Zb}(j:Jf G own kn' jV H0 σ Hf H ρ)(e:Zz G kn kn'):Jf G own kn jV H0 σ Hf H ρ:=⟨j.len,e.trans j.kn,j.gr,j.fz,j.ow,j.ne⟩
theorem Ul {tg iter:Expr}{body:List Stmt}{pos:Pos}{fi:Zb->M (List D)}{τ:D->Zb->Option Zb}{g:Zb->M Out}(hp:PassesOwn (model X.prog X.w) X.A X.env X.xe)(hc:X.calm=true)(hi:BU X G own tg iter fi)(hg:Va X G tg (fun i=>i∉own) τ)(hb:Wa X G own own own fr body g)
  (hs:∀x,foldedSetIterable iter X.env x=pure x:=by intro _;rfl):Xm X G ob own own fr (.For tg iter body [] pos) (Ww fi τ g):=by
 obtain⟨wi,pi,qi⟩:=hi;obtain⟨gt,pg,qg⟩:=hg;obtain⟨tb,pb,qb⟩:=hb;refine⟨_,ZkJ hp hc pi pg pb hs,fun kn jV H0 σ H ρ s out s' E ⟨Hf,j⟩ st e po=>?_⟩;obtain⟨ds,s1,a1,a2⟩:=Zy e;refine qi kn jV H0 σ Hf H ρ s ds s1 _ j st a1 fun Jt jT H1 j1 e1 j6 it=>?_;refine⟨fun i m σ2 H2=>∃ρ2 s2,J G own jT jV H0 σ2 H2 ρ2/\G.st s2 H2/\Wv τ g (ds.drop i) ρ2 s2=some (out,s')/\i<=ds.length/\m=ds.length-i,⟨_,ρ,s1,⟨jT,⟨j1.len,.refl _ _,j1.gr,j1.fz,j1.ow,j1.ne⟩⟩,j6,a2,zk _,rfl⟩,?_⟩;rintro i m σ2 H2 ⟨ρ2,s2,⟨j7,j2⟩,jX,eq2,hle,rfl⟩;obtain⟨i1,i2⟩:=it i j7 H2 s2 j2.kn j2.gr.fh jX;by_cases hlt:i<ds.length
 ·have hd:ds.drop i=ds[i]::ds.drop (i+1):=y6 hlt
  rw[hd] at eq2;obtain⟨ρ3,s3,b1,b2⟩:=Zy eq2;obtain⟨b1',e3⟩:=Wf b1;subst e3;obtain⟨o,s4,b3,b4⟩:=Zy b2;obtain⟨go,yl⟩:=i1 ds[i] (by simp[hlt]);refine .inr ⟨go,fun σ' H'=>∃ρ5 s5,J G own jT jV H0 σ' H' ρ5/\G.st s5 H'/\Wv τ g (ds.drop (i+1)) ρ5 s5=some (out,s'),fun σ' H' ⟨ρ5,s5,j5,st5,q5⟩=>⟨_,by omega,ρ5,s5,j5,st5,q5,hlt,rfl⟩,fun x H3 y3=>?_⟩;obtain⟨Hf3,g3,st3,r3⟩:=yl x H3 y3;have j3:=j2.grow g3;refine qg x σ2 Hf3 H3 ds[i] ρ2 ρ3 _ g3.fh r3 b1' fun σ3 sets=>?_;have j4:=sets.jf j3;refine qb jT jV H0 σ3 H3 ρ3 s3 o s4 _ ⟨Hf3,j4⟩ st3 b3 ?_
  cases o with
  | nx ρ5=>exact fun σ5 H5 j5 st5=>⟨ρ5,s4,j5,st5,b4⟩
  | ct ρ5=>exact fun σ5 H5 j5 st5=>⟨ρ5,s4,j5,st5,b4⟩
  | bk ρ5=>
   obtain⟨rfl,rfl⟩:=ZL b4;exact fun σ5 H5 ⟨Hf5,j5⟩ st5=>po σ5 H5 ⟨Hf5,j5.weak (j.kn.trans e1)⟩ st5
  | rt d=>
   obtain⟨rfl,rfl⟩:=ZL b4;exact po
 ·have hd:ds.drop i=[]:=qaL.mpr (by omega)
  rw[hd] at eq2;obtain⟨rfl,rfl⟩:=ZL eq2;exact .inl ⟨i2 (by omega),po σ2 H2 ⟨j7,j2.weak (j.kn.trans e1)⟩ jX⟩
end
noncomputable def runB (n k:Nat)(g:Zb->M Out):List D->M D:=fun ds=>if ds.length=k then Zn (g (ds.map some++qz (n-k) none)) fun o=>match o with | .rt d=>ZB d | .nx _=>ZB .non | _=>ZG else ZG
theorem YU {P:Program}{w:World}{K:qk}{mg:Str->Option Value}{base:Heap}{x qual:Str}{st:Stmt}{f:Addr}{fd:FuncData}{N ps:List Str}{k:Nat}{own:List Nat}{fr:Bool}{GG:Gh->Prop}{g:Zb->M Out}
  (F:Fun K x qual st f fd) (S:FnScope N ps (Zx st))
  (hb:∀(cdv:Value) (A:Around) (outer:List Env) (s:Shared) (H:Hp) (E:XK),Room k (A.deeper (envOfC qual (Zx st) s.heap.objs.size f cdv))->∀G,GG G->Wa (W3 ZQ P w K mg base N qual (Zx st) f cdv A outer s H E).nox G [] [] own fr (Wp st) g) :
  FnOk P w K mg base ZQ (k+1) f fd ps (Ya ps.length fr GG (runB N.length ps.length g)):=by
 refine F.ok S (fun vs H Q E h=>?_) fun cdv A outer s H vs Q E hr h=>?_
 ·obtain⟨G,Hf,ds,pn,d,pn',_,e,_⟩:=h
  exact e
 ·obtain⟨G,Hf,ds,pn,d,pn',hG,el,e1,r,st',eF,k'⟩:=h
  obtain⟨t,p,q⟩:=hb cdv A outer s H E hr G hG;refine⟨t,p,?_⟩;obtain⟨hl,a0⟩:=Y7 eF;obtain⟨o,s1,a1,a2⟩:=Zy a0;have hpl:ps.length<=N.length:=by have:=congrArg yX S.pre;rw[zE] at this;omega
  have j0:Jf G [] Hf Hf H (L2.start N vs) Hf H (ds.map some++qz (N.length-ps.length) none):=by
   refine⟨?_,.refl _ _,.refl e1,fun i d n e=>?_,fun i d m e=>?_,fun i j a di dj mi mj n e=>?_⟩
   ·unfold L2.start;simp;omega
   ·have hi:i<ds.length:=by
     by_cases hi:i<ds.length
     ·exact hi
     ·rw[z8 (by simpa using hi),yk] at e
      split at e <;> cases e
    have e':ds[i]?=some d:=by
     rw[zF (by simpa using hi),qD] at e
     cases q:ds[i]? with
     | none=>rw[q] at e;cases e
     | some c=>rw[q] at e;simp at e;rw[e]
    obtain⟨v,h1,h2⟩:=r.get e';refine⟨v,?_,h2⟩;unfold L2.start;rw[zF (by simp;rw[<-r.length];exact hi),qD,h1];rfl
   ·exact absurd m (by simp)
   ·exact absurd mi (by simp)
  refine q Hf Hf H (L2.start N vs) H _ pn o s1 _ ⟨Hf,j0⟩ st' a1 ?_
  cases o with
  | rt c=>
   obtain⟨rfl,rfl⟩:=ZL a2;exact fun v Hf' H' g' jX r2 fz=>k' v Hf' H' g' jX r2 fz
  | nx ρ'=>
   obtain⟨rfl,rfl⟩:=ZL a2;exact fun σ' H' ⟨Hf',j'⟩ jX=>k' .non Hf' H' j'.gr jX (jg.mpr rfl) fun _=>.scal fun z=>z
  | bk ρ'=>cases a2
  | ct ρ'=>cases a2
noncomputable def tOf (G:Gh)(fr:Bool)(f:Zb->M D):TE:=fun σ H Q=>∃(Hf:Hp) (ρ:Zb) (s:Pn) (d:D) (s':Pn),Zz G Hf H/\YM G Hf σ ρ/\G.st s H/\f ρ s=some (d,s')/\
 ∀v Hf' H',Gr G Hf H Hf' H'->G.st s' H'->Zk G Hf' d v->(fr=true->YB G H Hf' d v)->Q v H'
noncomputable def U9 (G:Gh)(f:Zb->M Bool):TT:=fun σ H Q=>∃(Hf:Hp) (ρ:Zb) (s:Pn) (b:Bool) (s':Pn),Zz G Hf H/\YM G Hf σ ρ/\G.st s H/\f ρ s=some (b,s')/\
 ∀Hf' H',Gr G Hf H Hf' H'->G.st s' H'->Q b H'
noncomputable def gOf (G:Gh)(ok:Nat->Prop)(τ:D->Zb->Option Zb):TG:=fun x σ H Q=>∃(Hf:Hp) (d:D) (ρ ρ':Zb),Zz G Hf H/\Zk G Hf d x/\τ d ρ=some ρ'/\∀σ',Sets G Hf ok σ ρ σ' ρ'->Q σ' H
section
variable {X:Cx}{G:Gh}{own:List Nat}{fr:Bool}{f:Zb->M D}
theorem PD.canon {e:Expr}(h:PD X G fr e f):PE X e (tOf G fr f):=by
 obtain⟨t,p,q⟩:=h;exact fun jJ s σ H Q I ⟨Hf,ρ,pn,d,pn',a1,a2,a3,a4,k⟩=>p jJ s σ H Q I (q σ Hf H ρ pn d pn' Q a1 a2 a3 a4 k)
theorem X2.canon {e:Expr}{f:Zb->M Bool}(h:X2 X G e f):PT X e (U9 G f):=by
 obtain⟨t,p,q⟩:=h;exact fun jJ s σ H Q I ⟨Hf,ρ,pn,d,pn',a1,a2,a3,a4,k⟩=>p jJ s σ H Q I (q σ Hf H ρ pn d pn' Q a1 a2 a3 a4 k)
theorem Va.canon {tg:Expr}{ok:Nat->Prop}{τ:D->Zb->Option Zb}(h:Va X G tg ok τ):PG X tg (gOf G ok τ):=by
 obtain⟨t,p,q⟩:=h;exact fun jJ s σ H v u Q I r ⟨Hf,d,ρ,ρ',a1,a2,a3,k⟩=>p jJ s σ H v u Q I r (q v σ Hf H d ρ ρ' Q a1 a2 a3 k)
noncomputable def X7 (src:List (Option Nat))(ρ:Zb):Zb:=src.map fun o=>o.bind fun j=>(ρ[j]?).bind id
theorem Zhb {Hf:Hp}{σ:St}{ρ:Zb}{src:List (Option Nat)}(h:YM G Hf σ ρ):YM G Hf (VD src σ) (X7 src ρ):=fun i d e=>by
 unfold X7 at e;rw[qD] at e
 cases q:src[i]? with
 | none=>rw[q] at e;cases e
 | some o=>
  rw[q] at e
  cases o with
  | none=>simp at e
  | some j=>
   simp only[zV,qa8,qa3] at e;have hj:ρ[j]?=some (some d):=by
    cases e2:ρ[j]? with
    | none=>rw[e2] at e;cases e
    | some o2=>rw[e2] at e;simp at e;rw[e]
   obtain⟨v,h1,h2⟩:=h j d hj;refine⟨v,?_,h2⟩;unfold VD;rw[qD,q];simp[h1]
theorem Sets.len {Hf:Hp}{ok:Nat->Prop}{σ σ':St}{ρ ρ':Zb}(h:Sets G Hf ok σ ρ σ' ρ'):(σ.length=ρ.length->σ'.length=ρ'.length)/\σ'.length=σ.length:=by
 induction h with
 | nil=>exact⟨fun e=>e,rfl⟩
 | cons _ _ _ ih=>exact⟨fun e=>ih.1 (by simp[e]),ih.2.trans (by simp)⟩
theorem Sets.env {Hf:Hp}{ok:Nat->Prop}{σ σ':St}{ρ ρ':Zb}(h:Sets G Hf ok σ ρ σ' ρ'):σ.length=ρ.length->YM G Hf σ ρ->YM G Hf σ' ρ':=by
 induction h with
 | nil=>exact fun _ e=>e
 | @cons σ ρ σ' ρ' i d v o r _ ih=>
  intro hl he;refine ih (by simp[hl]) fun k c e=>?_;by_cases h:i=k
  ·subst h
   have hk:i < ρ.length:=by
    have:=(qL.mp e).1;simpa using this
   rw[zj hk] at e
   cases e
   exact⟨v,zj (by rw[hl];exact hk),r⟩
  ·rw[qS h] at e⊢
   exact he k c e
theorem Sets.envOld {Hf:Hp}{ok:Nat->Prop}{σ σ':St}{ρ ρ' ρ0:Zb}(h:Sets G Hf ok σ ρ σ' ρ')(h0:∀i d,ok i->ρ0[i]?≠some (some d)):YM G Hf σ ρ0->YM G Hf σ' ρ0:=by
 induction h with
 | nil=>exact fun e=>e
 | @cons σ ρ σ' ρ' i d v o r _ ih=>
  intro he;refine ih fun k c e=>?_;have hne:i≠k:=fun z=>h0 k c (z▸o) e;rw[qS hne];exact he k c e
noncomputable def U1 (τ:D->Zb->Option Zb)(ft:Zb->M Bool)(fe:Zb->M D)(ρ:Zb):List D->M (List D)
 | []=>ZB []
 | d::ds=>Zn (YR (τ d ρ)) fun ρ1=>Zn (ft ρ1) fun b=>if b=true then Zn (fe ρ1) fun c=>Zn (U1 τ ft fe ρ ds) fun r=>ZB (c::r) else U1 τ ft fe ρ ds
noncomputable def ZY (src:List (Option Nat))(fi:Zb->M (List D))(τ:D->Zb->Option Zb)(ft:Zb->M Bool)(fe:Zb->M D):Zb->M D:=fun ρ=>
 Zn (fi ρ) fun ds=>if ds.length<=sizeLine then Zn (U1 τ ft fe (X7 src ρ) ds) fun r=>ZB (.lst r) else ZG
noncomputable def Z2:Zb->M Bool:=fun _=>ZB true
theorem ZfS {src:List (Option Nat)}{wi:TI}{fi:Zb->M (List D)}{τ:D->Zb->Option Zb}{ft:Zb->M Bool}{fe:Zb->M D}{r1:Bool}
  (qi:∀(σ:St) (Hf H:Hp) (ρ:Zb) (s:Pn) (ds:List D) (s':Pn) (R:It->Hp->Prop),Zz G Hf H->YM G Hf σ ρ->G.st s H->fi ρ s=some (ds,s')->
   (∀J Hf' H',Gr G Hf H Hf' H'->G.st s' H'->Ub G J Hf' ds->R J H')->wi σ H R) :
  Wl G true (JP src wi (gOf G (fun i=>src[i]?=some none) τ) (U9 G ft) (tOf G r1 fe)) (ZY src fi τ ft fe):=by
 intro σ Hf H ρ s d s' Q e1 e2 e3 e4 k;obtain⟨ds,s1,a1,a2⟩:=Zy e4;obtain⟨hz,a3⟩:=Y7 a2;obtain⟨r,s2,a4,a5⟩:=Zy a3;obtain⟨rfl,rfl⟩:=ZL a5;refine qi σ Hf H ρ s ds s1 _ e1 e2 e3 a1 fun Jt jT H1 g1 j6 it=>?_;intro p hp;have nrp:=jC j6 hp;have nfp:=jt nrp;have hf1p:jT p=none:=by
  cases e:jT p with
  | none=>rfl
  | some o=>rw[g1.fh p o nfp e] at hp;cases hp
 have h0:∀(i:Nat) (d:D),src[i]?=some none->(X7 src ρ)[i]?≠some (some d):=fun i d e q=>by
  unfold X7 at q;rw[qD,e] at q;simp at q
 refine⟨fun i m σ2 H2=>∃(j7:Hp) (s2:Pn) (vs:List V) (jR rest:List D),i<=ds.length/\m=ds.length-i/\Gr G jT H1 j7 H2/\YM G j7 σ2 (X7 src ρ)/\σ2.length=(X7 src ρ).length/\G.st s2 H2/\j7 p=none/\H2 p=some (.lst vs)/\Zi G j7 jR vs/\jR.length<=i/\
  U1 τ ft fe (X7 src ρ) (ds.drop i) s2=some (rest,s')/\jR++rest=r,⟨_,jT,s1,[],[],r,zk _,rfl,?_,?_,?_,Gh.grow j6 hp,hf1p,ZO,Zi.nil_iff.mpr rfl,qw _,a4,rfl⟩,?_⟩
 ·refine⟨fun b o n e=>?_,.refl _ _,fun b o n e=>?_,fun b n h1 h2=>h1⟩
  ·rw[Zp (Z6 e hp)];exact e
  ·rw[Zp (Z6 e hf1p)];exact g1.fh b o n e
 ·exact Zhb (e2.ext g1.ff)
 ·unfold VD X7;simp
 ·rintro i m σ2 H2 ⟨j7,sz,vs,jR,rest,hle,rfl,g2,env2,len2,jX,hfp2,hp2,racc,hacc,eq2,hr⟩
  obtain⟨i1,i2⟩:=it i j7 H2 sz g2.ff g2.fh jX;by_cases hlt:i<ds.length
  ·have hd:ds.drop i=ds[i]::ds.drop (i+1):=y6 hlt
   rw[hd] at eq2;obtain⟨ρ3,s3,b1,b2⟩:=Zy eq2;obtain⟨b1',e3'⟩:=Wf b1;subst e3';obtain⟨bo,s4,b3,b4⟩:=Zy b2;obtain⟨go,yl⟩:=i1 ds[i] (by simp[hlt]);refine .inr ⟨go,fun x H3 y3=>?_⟩;obtain⟨Hf3,g3,st3,r3⟩:=yl x H3 y3;refine⟨Hf3,ds[i],X7 src ρ,ρ3,g3.fh,r3,b1',fun σ4 sets=>?_⟩;have env2':=env2.ext g3.ff;have env4:=sets.env len2 env2';have env4':=sets.envOld h0 env2';refine⟨Hf3,ρ3,s3,bo,s4,g3.fh,env4,st3,b3,fun Hf5 H5 g5 st5=>?_⟩;have g25:=g3.trans g5;have hfp5:Hf5 p=none:=g25.nw p nfp hfp2 ⟨_,hp2,fun _ z=>by cases z⟩;have hp5:H5 p=some (.lst vs):=g25.hh p _ nfp hp2
   cases bo with
   | false=>
    refine VM ⟨ds.length-(i+1),by omega,Hf5,s4,vs,jR,rest,hlt,rfl,g2.trans g25,env4'.ext g5.ff,by rw[<-len2];exact sets.len.2,st5,hfp5,hp5,racc.ext g25.ff,by omega,?_,hr⟩;exact b4
   | true=>
    have b4':Zn (fe ρ3) (fun c=>Zn (U1 τ ft fe (X7 src ρ) (ds.drop (i+1))) fun r=>ZB (c::r)) s4=some (rest,s'):=b4;obtain⟨c,s6,b5,b6⟩:=Zy b4';obtain⟨rr,s7,b7,b8⟩:=Zy b6;obtain⟨rfl,rfl⟩:=ZL b8;refine VN ⟨Hf5,ρ3,s4,c,s6,g5.fh,env4.ext g5.ff,st5,b5,fun v Hf6 H6 g6 st6 r6 _=>?_⟩;have hfp6:Hf6 p=none:=g6.nw p nfp hfp5 ⟨_,hp5,fun _ z=>by cases z⟩;have hp6:H6 p=some (.lst vs):=g6.hh p _ nfp hp5;have hl:vs.length<sizeLine:=by rw[<-racc.length];omega
    refine⟨vs,hp6,hl,ds.length-(i+1),by omega,Hf6,s6,vs ++ [v],jR ++ [c],rr,hlt,rfl,?_,(env4'.ext g5.ff).ext g6.ff,by rw[<-len2];exact sets.len.2,?_,hfp6,ZO,(racc.ext (g25.ff.trans g6.ff)).append (.one r6),by simp;omega,b7,by rw[<-hr];simp⟩
    ·have gg:=(g2.trans g25).trans g6
     refine⟨fun b o n e=>?_,gg.ff,fun b o n e=>?_,gg.nw⟩
     ·rw[Zp (Z6 e hp)];exact gg.hh b o n e
     ·rw[Zp (Z6 e hfp6)];exact gg.fh b o n e
    ·refine G.mono _ _ _ st6 (fun b o rb e=>?_) fun b φ e=>?_
     ·have:b≠p:=fun z=>nrp (z▸rb)
      rw[Zp this];exact e
     ·have:b≠p:=fun z=>by rw[z,hp6] at e;cases e
      rw[Zp this];exact e
  ·have hd:ds.drop i=[]:=qaL.mpr (by omega)
   rw[hd] at eq2;obtain⟨rfl,rfl⟩:=ZL eq2;refine .inl ⟨i2 (by omega),?_⟩;rw[zf] at hr;subst hr;refine k (.ref p) (Zm j7 p (.lst vs)) H2 (g1.trans ⟨g2.hh,fun b o n e=>?_,fun b o n e=>?_,fun b n h1 h2=>?_⟩) jX (jc.mpr ⟨p,vs,rfl,nfp,ZO,racc.ext fun b o n e=>?_⟩) fun _ a ea _=>?_
   ·rw[Zp (Z6 (g2.ff b o n e) hfp2)];exact g2.ff b o n e
   ·by_cases hb:b=p
    ·subst hb;rw[ZO] at e;rw[hp2];exact e
    ·rw[Zp hb] at e;exact g2.fh b o n e
   ·have:b≠p:=fun z=>h2.no (z▸hp)
    rw[Zp this];exact g2.nw b n h1 h2
   ·rw[Zp (Z6 e hfp2)];exact e
   ·cases ea
    refine⟨?_,fun ds' ed=>?_⟩
    ·cases q:H p with
     | none=>rfl
     | some o=>rw[g1.hh p o nfp q] at hp;cases hp
    ·cases ed
     exact⟨vs,j7,ZO,hfp2,fun b o n e=>by rw[Zp (Z6 e hfp2)];exact e,racc⟩
theorem XX:Vq X [] (U9 G Z2):=fun jJ s σ H Q I ⟨Hf,ρ,pn,b,pn',a1,a2,a3,a4,k⟩=>by
 obtain⟨rfl,rfl⟩:=ZL a4;exact ZfO jJ s σ H Q I (k Hf H (.refl a1) a3)
theorem VF {c:Expr}{ft:Zb->M Bool}(h:X2 X G c ft):Vq X [c] (U9 G ft):=ZfP h.canon
theorem Jf.put {kn jV H0 Hf H:Hp}{σ:St}{ρ:Zb}{i:Nat}{a:Addr}{d d':D}{o':HO}(j:Jf G own kn jV H0 σ Hf H ρ)(hi:i∈own)(e:ρ[i]?=some (some d))(sa:σ[i]?=some (some (.ref a)))
  (new:V6 G Hf (Zm H a o') a d'):Jf G own kn jV H0 σ Hf (Zm H a o') (ρ.set i (some d')):=by
 obtain⟨a',h1,h2,h3,h4,h5⟩:=j.ow i d hi e;rw[sa] at h1;cases h1;have il:i < ρ.length:=(qL.mp e).1;refine⟨by simp[j.len],j.kn,⟨fun b o n q=>?_,j.gr.ff,fun b o n q=>?_,j.gr.nw⟩,fun k c n q=>?_,fun k c m q=>?_,fun k l b dk dl mk ml n ek el sk sl=>?_⟩
 ·rw[Zp (Z6 q h4)];exact j.gr.hh b o n q
 ·rw[Zp (Z6 q h3)];exact j.gr.fh b o n q
 ·have hne:i≠k:=fun z=>n (z▸hi)
  rw[qS hne] at q;exact j.fz k c n q
 ·by_cases hk:i=k
  ·subst hk
   rw[zj il] at q
   cases q
   exact⟨a,sa,h2,h3,h4,new⟩
  ·rw[qS hk] at q
   obtain⟨b,g1,g2,g3,g4,g5⟩:=j.ow k c m q;have hab:b≠a:=fun z=>j.ne i k a d c hi m hk e q sa (z▸g1);exact⟨b,g1,g2,g3,g4,g5.keep (.refl _ _) fun o z=>by rw[Zp hab];exact z⟩
 ·have ek':∃d,ρ[k]?=some (some d):=by
   by_cases hk:i=k
   ·exact⟨d,hk▸e⟩
   ·rw[qS hk] at ek;exact⟨_,ek⟩
  have el':∃d,ρ[l]?=some (some d):=by
   by_cases hl:i=l
   ·exact⟨d,hl▸e⟩
   ·rw[qS hl] at el;exact⟨_,el⟩
  obtain⟨_,ek'⟩:=ek';obtain⟨_,el'⟩:=el';exact j.ne k l b _ _ mk ml n ek' el' sk sl
theorem ZcB {kn jV H0 Hf H:Hp}{σ:St}{ρ:Zb}{i:Nat}{ds:List D}(j:Jf G own kn jV H0 σ Hf H ρ)(hi:i∈own)(e:ρ[i]?=some (some (.lst ds))) :
  ∃a vs,σ[i]?=some (some (.ref a))/\¬G.rd a/\H a=some (.lst vs)/\Zi G Hf ds vs:=by
 obtain⟨a,h1,h2,h3,h4,vs,h5,h6⟩:=j.ow i _ hi e;exact⟨a,vs,h1,h2,h5,h6⟩
theorem ZcC {ρ:Zb}{i:Nat}{d:D}(h:(ρ[i]?).bind id=some d):ρ[i]?=some (some d):=by
 cases q:ρ[i]? with
 | none=>rw[q] at h;cases h
 | some o=>rw[q] at h;simp at h;rw[h]
theorem ju {s:Pn}{H:Hp}{a:Addr}{o:HO}(st:G.st s H)(h:¬G.rd a)
  (hx:∀φ,H a≠some (.ext φ):=by intro φ z;first | (have z2:=z.symm.trans (by assumption:_=some (L2.HO.lst _));cases z2) | (have z2:=z.symm.trans (by assumption:_=some (L2.HO.dK _));cases z2) | (have z2:=z.symm.trans (by assumption:_=some (L2.HO.dT _));cases z2)):G.st s (Zm H a o):=G.mono _ _ _ st (fun b u rb e=>by
 have:b≠a:=fun z=>h (z▸rb);rw[Zp this];exact e) fun b φ e=>by
 have:b≠a:=fun z=>hx φ (z▸e);rw[Zp this];exact e
noncomputable def JV (i:Nat)(f:Zb->M D):Zb->M Out:=fun ρ=>Zn (f ρ) fun d=>match (ρ[i]?).bind id with
 | some (.lst ds)=>if ds.length<sizeLine then ZB (.nx (ρ.set i (some (.lst (ds ++ [d]))))) else ZG
 | _=>ZG
theorem Zm3 {i:Nat}{ob:List Nat}{te:TE}{r1:Bool}(hi:i∈own)(hy:Ua G own r1 te f) :
  Dos G ob own own fr (BK (J3 X.K "list" Zcy (Yn i) (Xi te Xx))) (JV i f):=fun kn jV H0 σ H ρ s out s' E ⟨Hf,j⟩ st e po=>by
 obtain⟨d,s1,a1,a2⟩:=Zy e
 cases hb:(ρ[i]?).bind id with
 | none=>rw[hb] at a2;cases a2
 | some c=>
  rw[hb] at a2
  cases c with
  | lst ds=>
   have a2':(if ds.length<sizeLine then ZB (.nx (ρ.set i (some (.lst (ds ++ [d]))))) else ZG) s1=some (out,s'):=a2;obtain⟨c2,a3⟩:=Y7 a2';obtain⟨rfl,rfl⟩:=ZL a3;have ei:=ZcC hb;obtain⟨a,vs,h1,h2,h3,h4⟩:=ZcB j hi ei;refine⟨_,h1,.inl ⟨rfl,vs,ZH.of h3⟩,?_⟩;refine hy kn jV H0 σ Hf H ρ s d s' _ j st a1 fun v Hf' H' j' e1 e2 st' r fz=>?_;obtain⟨a',vs',h1',h2',h3',h4'⟩:=ZcB j' hi ei;rw[h1] at h1';cases h1';refine⟨a,vs',v,rfl,rfl,h3',by rw[<-h4'.length];exact c2,?_⟩;exact po σ _ ⟨Hf',j'.put hi ei h1 ⟨vs' ++ [v],ZO,h4'.append (.one r)⟩⟩ (ju st' h2)
  | _=>cases a2
theorem Zeb {i:Nat}{x:Str}{e:Expr}{pos p1 p2 p3:Pos}{te:TE}(hv:PE X (.Name x p1) (Yn i))(p:PE X e te)
  (hbase:attributeBase (.Name x p1) "append" X.env (eval (.Name x p1) X.env)=eval (.Name x p1) X.env:=by rfl)
  (hfew:((backTo p3 (starEach [e] X.env)).all (fun x=>!x.1)&&(backToKw p3 (keywordEach [] X.env)).all (fun x=>x.1.isSome)
   && decide ([e].length+([]:List Keyword).length+(if ([]:List Keyword).isEmpty then 0 else 1)<30))=true:=by rfl)
  (hline:(p2.endLine==p3.line)=true:=by rfl) (hs:starEach [e] X.env=(false,eval e X.env)::starEach [] X.env:=by rfl)
  (hsw:swapsWith (.Call (.Attribute (.Name x p1) "append" p2) [e] [] p3) none pos.line X.env=pure false:=by rfl) :
  PS X (.Expr (.Call (.Attribute (.Name x p1) "append" p2) [e] [] p3) pos) (BK (J3 X.K "list" Zcy (Yn i) (Xi te Xx))):=
 Zib (Zij yJ PySem.F.slot_list_append PySem.F.type_list_append Zd6 hv (YS p Y8 hs) hbase hfew hline hs rfl) hsw
section
variable {i:Nat}{x:Str}{e:Expr}{pos p1 p2 p3:Pos}{r1:Bool}{ob:List Nat}{st:Stmt}
theorem ZfT (hi:i∈own)(he:PD X G r1 e f)(hp:∀te,PE X e te->PS X st (BK (J3 X.K "list" Zcy (Yn i) (Xi te Xx)))):Xm X G ob own own fr st (JV i (fun ρ=>f (YN own ρ))):=by
 obtain⟨t,p,q⟩:=he;exact⟨_,hp t p,Zm3 hi (Wl.a q)⟩
end
end
section
variable {X:Cx}{G:Gh}
noncomputable def dI (C:Int->Int->Bool)(g:Int->Int->D):D->D->Option D
 | .int i,.int j=>if C i j=true then some (g i j) else none
 | _,_=>none
theorem ZeP {C:Int->Int->Bool}{g:Int->Int->D}{d e c:D}(h:dI C g d e=some c):∃i j,d=.int i/\e=.int j/\C i j=true/\c=g i j:=by
 match d,e,h with
 | .int i,.int j,h=>
  have h':(if C i j=true then some (g i j) else none)=some c:=h;split at h'
  ·rename_i hc;cases h';exact⟨i,j,rfl,rfl,hc,rfl⟩
  ·cases h'
theorem Zn7 {f:Value->Value->Sem Value}{C:Int->Int->Prop}{Cb:Int->Int->Bool}{g:Int->Int->Int}(h:Yd X f (rI C fun i j=>.int (g i j)))(hc:∀i j,Cb i j=true->C i j):Xf X G f (dI Cb fun i j=>.int (g i j)):=
 ⟨_,h,fun Hf H s x y d e c Q e1 st rx ry q k=>by
  obtain⟨i,j,rfl,rfl,hcb,rfl⟩:=ZeP q;exact⟨i,j,ja.mp rx,ja.mp ry,hc i j hcb,k _ Hf H (.refl e1) st (ja.mpr rfl) (.scal fun z=>z)⟩⟩
theorem ZoZ {f:Value->Value->Sem Value}{g:Int->Int->Int}(h:Yd X f (Xr fun i j=>.int (g i j))):Xf X G f (dI (fun _ _=>true) fun i j=>.int (g i j)):=
 ⟨_,h,fun Hf H s x y d e c Q e1 st rx ry q k=>by
  obtain⟨i,j,rfl,rfl,hcb,rfl⟩:=ZeP q;exact⟨i,j,ja.mp rx,ja.mp ry,k _ Hf H (.refl e1) st (ja.mpr rfl) (.scal fun z=>z)⟩⟩
theorem Zk2 {f:Value->Value->Sem Value}{g:Int->Int->Bool}(h:Yd X f (Xr fun i j=>.bl (g i j))):Xf X G f (dI (fun _ _=>true) fun i j=>.bl (g i j)):=
 ⟨_,h,fun Hf H s x y d e c Q e1 st rx ry q k=>by
  obtain⟨i,j,rfl,rfl,hcb,rfl⟩:=ZeP q;exact⟨i,j,ja.mp rx,ja.mp ry,k _ Hf H (.refl e1) st (je.mpr rfl) (.scal fun z=>z)⟩⟩
noncomputable def W4:=dI (fun _ _=>true) fun i j=>.int (i-j)
noncomputable def U2 (i j:Int):Bool:=(decide (-(2 ^ 64)<i)&&decide (i<2 ^ 64))||(decide (-(2 ^ 64)<j)&&decide (j<2 ^ 64))
noncomputable def W5:=dI U2 fun i j=>.int (i*j)
noncomputable def dMod:=dI (fun _ j=>decide (0<j)) fun i j=>.int (i % j)
noncomputable def W6:=dI (fun i j=>decide (0<=j)&&decide (j<=1000000)&&decide (i.natAbs<2 ^ 64)) fun i j=>.int (i ^ j.toNat)
theorem Bt:Xf X G (binaryOp .Sub) W4:=ZoZ ZoK
theorem Bu:Xf X G (binaryOp .Mult) W5:=Zn7 UR fun i j h=>by
 simp only[U2,qbq,qX,decide_eq_true_eq] at h;exact h
theorem Bv:Xf X G (binaryOp .Pow) W6:=Zn7 ZkK fun i j h=>by
 simp only[qX,decide_eq_true_eq] at h;exact⟨h.1.1,h.1.2,h.2⟩
noncomputable def WM:=dI (fun _ _=>true) fun i j=>.bl (decide (i<=j))
noncomputable def Jg:=dI (fun _ _=>true) fun i j=>.bl (decide (j<=i))
theorem JG:Xf X G (compareOp .LtE) WM:=Zk2 ZpK
theorem Zo0:Xf X G (compareOp .GtE) Jg:=Zk2 ZnZ
noncomputable def ZR:List D->Option (List Int)
 | []=>some []
 | .int i::ds=>(ZR ds).map (i :: ·)
 | _::_=>none
theorem WR:∀{ds:List D} {ns:List Int},ZR ds=some ns->ds=ns.map D.int
 | [],ns,h=>by simp[ZR] at h;subst h;rfl
 | .int i::ds,ns,h=>by
  cases e:ZR ds with
  | none=>simp[ZR,e] at h
  | some ms=>simp[ZR,e] at h;subst h;simp[WR e]
 | .non::_,_,h=>by simp[ZR] at h
 | .bl _::_,_,h=>by simp[ZR] at h
 | .str _::_,_,h=>by simp[ZR] at h
 | .tup _::_,_,h=>by simp[ZR] at h
 | .lst _::_,_,h=>by simp[ZR] at h
 | .dk _::_,_,h=>by simp[ZR] at h
 | .dt _::_,_,h=>by simp[ZR] at h
 | .du _::_,_,h=>by simp[ZR] at h
 | .df _::_,_,h=>by simp[ZR] at h
 | .pen::_,_,h=>by simp[ZR] at h
 | .ty _::_,_,h=>by simp[ZR] at h
theorem Zbj (ns:List Int):ZR (ns.map D.int)=some ns:=by
 induction ns with
 | nil=>rfl
 | cons n ns ih=>simp[ZR,ih]
theorem jn {H:Hp}:∀{ns:List Int} {vs:List V},Zi G H (ns.map D.int) vs->vs=ns.map V.int
 | [],vs,h=>Zi.nil_iff.mp h
 | n::ns,vs,h=>by
  obtain⟨v,r,rfl,h1,h2⟩:=jd.mp h;rw[ja.mp h1,jn h2];rfl
noncomputable def WN:D->D->Option D
 | .int i,.int j=>some (.bl (decide (i<j)))
 | .tup a,.tup b=>match ZR a,ZR b with | some ns,some ms=>some (.bl (HT.lexLt ns ms)) | _,_=>none
 | _,_=>none
theorem JH (hu:X.A.units<cLine):Xf X G (compareOp .Lt) WN:=
 ⟨_,ZnX.or (ZoQ hu),fun Hf H s x y d e c Q e1 st rx ry q k=>by
  match d,e,q,rx,ry with
  | .int i,.int j,q,rx,ry=>
   cases q
   exact .inl ⟨i,j,ja.mp rx,ja.mp ry,k _ Hf H (.refl e1) st (je.mpr rfl) (.scal fun z=>z)⟩
  | .tup a,.tup b,q,rx,ry=>
   have q:(match ZR a,ZR b with | some ns,some ms=>some (D.bl (HT.lexLt ns ms)) | _,_=>none)=some c:=q
   cases ea:ZR a with
   | none=>rw[ea] at q;simp at q
   | some ns=>
    cases eb:ZR b with
    | none=>rw[ea,eb] at q;simp at q
    | some ms=>
     rw[ea,eb] at q
     cases q
     rw[WR ea] at rx;rw[WR eb] at ry;obtain⟨p,vs,rfl,np,hp,rp⟩:=jb.mp rx;obtain⟨p2,vs2,rfl,np2,hp2,rp2⟩:=jb.mp ry;rw[jn rp] at hp;rw[jn rp2] at hp2;exact .inr ⟨p,p2,ns,ms,rfl,rfl,ZU.of (e1 _ _ np hp),ZU.of (e1 _ _ np2 hp2),k _ Hf H (.refl e1) st (je.mpr rfl) (.scal fun z=>z)⟩⟩
theorem Zm4:Yd X (binaryOp .Add) (fun x y H Q=>∃a b ys,x=.ref a/\y=.ref b/\ZU X.K H a []/\ZU X.K H b ys/\Q (.ref b) H):=by
 intro jJ s σ H x y v u Q I rx ry h;obtain⟨a,b,ys,rfl,rfl,ha,hb,q⟩:=h
 cases rx
 cases ry
 obtain⟨jL,r1,p1,_⟩:=I.tuple ha;obtain⟨ke,r2,p2,_⟩:=I.tuple hb;have e0:jL=[]:=by cases r1;rfl
 subst e0;obtain⟨⟨cls,dd,data,sl⟩,ho,hc,n,hd⟩:=id p1;obtain⟨⟨cls2,dd2,data2,sl2⟩,ho2,hc2,n2,hd2⟩:=id p2;simp only at hc hd hc2 hd2;subst hc hd hc2 hd2;exact concat_meets ⟨_,ho,rfl⟩ ⟨_,ho2,rfl⟩ noFill_tuple_add seq_tuple_add qaw qal (qac _ _)
   (tuple_addW0 a b ([]:List Value).toArray ke.toArray n n2 dd dd2 sl sl2 rfl) ⟨ho,ho2,⟨.ref b,H,I,rfl,q⟩⟩
noncomputable def Yp:D->D->Option D
 | .int i,.int j=>some (.int (i+j))
 | .tup a,.tup b=>if a.length+b.length<=sizeLine then some (.tup (a++b)) else none
 | .lst a,.lst b=>if a.length+b.length<=sizeLine then some (.lst (a++b)) else none
 | _,_=>none
theorem XQ:Xf X G (binaryOp .Add) Yp:=
 ⟨_,Uo.or (ZoT.or (ZmT.or Zm4)),fun Hf H s x y d e c Q e1 st rx ry q k=>by
  match d,e,q,rx,ry with
  | .int i,.int j,q,rx,ry=>
   cases q
   exact .inl ⟨i,j,ja.mp rx,ja.mp ry,k _ Hf H (.refl e1) st (ja.mpr rfl) (.scal fun z=>z)⟩
  | .lst a,.lst b,q,rx,ry=>
   have q:(if a.length+b.length<=sizeLine then some (D.lst (a++b)) else none)=some c:=q;split at q
   ·rename_i hz
    cases q
    obtain⟨p,vs,rfl,np,hp,rp⟩:=jc.mp rx;obtain⟨p2,vs2,rfl,np2,hp2,rp2⟩:=jc.mp ry;refine .inr (.inl ⟨p,p2,vs,vs2,rfl,rfl,e1 _ _ np hp,e1 _ _ np2 hp2,by rw[<-rp.length,<-rp2.length];exact hz,fun l hl=>?_⟩);have nf:=Gh.nofp st hl;have g2:=Gr.new (o:=.lst (vs++vs2)) e1 hl nf;have rr:=rp.append rp2;exact k (.ref l) _ _ g2 (Gh.grow st hl) (jc.mpr ⟨l,_,rfl,nf,ZO,rr.ext g2.ff⟩) (YB.mk e1 hl nf rr)
   ·cases q
  | .tup a,.tup b,q,rx,ry=>
   have q:(if a.length+b.length<=sizeLine then some (D.tup (a++b)) else none)=some c:=q;split at q
   ·rename_i hz
    cases q
    obtain⟨p,vs,rfl,np,hp,rp⟩:=jb.mp rx;obtain⟨p2,vs2,rfl,np2,hp2,rp2⟩:=jb.mp ry;by_cases hv:vs=[]
    ·subst hv
     have ea:a=[]:=zP.mp (by rw[rp.length];rfl);subst ea;exact .inr (.inr (.inr ⟨p,p2,vs2,rfl,rfl,ZU.of (e1 _ _ np hp),ZU.of (e1 _ _ np2 hp2),k _ Hf H (.refl e1) st ry (.scal fun z=>z)⟩))
    ·refine .inr (.inr (.inl ⟨p,p2,vs,vs2,rfl,rfl,ZU.of (e1 _ _ np hp),ZU.of (e1 _ _ np2 hp2),hv,by rw[<-rp.length,<-rp2.length];exact hz,fun z=>?_,fun _ l hl=>?_⟩))
     ·subst z
      have eb:b=[]:=zP.mp (by rw[rp2.length];rfl);subst eb;rw[zf] at k;exact k _ Hf H (.refl e1) st rx (.scal fun z=>z)
     ·have nf:=Gh.nofp st hl
      have g2:=Gr.new (o:=.tup (vs++vs2)) e1 hl nf;exact k (.ref l) _ _ g2 (Gh.grow st hl) (jb.mpr ⟨l,_,rfl,nf,ZO,(rp.append rp2).ext g2.ff⟩) (.scal fun z=>z)
   ·cases q⟩
noncomputable def Zj:D->D->Option D
 | .lst ds,.int i=>XD ds i
 | .tup ds,.int i=>XD ds i
 | _,_=>none
theorem Zip {Hf:Hp}{ds:List D}{vs:List V}{i:Int}{c:D}(r:Zi G Hf ds vs)(h:XD ds i=some c):∃v,XD vs i=some v/\Zk G Hf c v:=by
 unfold XD at h⊢;rw[<-r.length]
 cases e:Wd ds.length i with
 | none=>rw[e] at h;cases h
 | some j=>
  rw[e] at h;obtain⟨v,h1,h2⟩:=r.get (i:=j) (d:=c) h;exact⟨v,h1,h2⟩
theorem ZW:IxD X G Zj:=
 ⟨_,Zcx.or ZoR,fun Hf H s x y d e c Q e1 st rx ry q k=>by
  match d,e,q,rx,ry with
  | .lst ds,.int i,q,rx,ry=>
   obtain⟨p,vs,rfl,np,hp,rp⟩:=jc.mp rx;obtain⟨v,h1,h2⟩:=Zip rp q;exact .inl ⟨p,vs,i,v,rfl,ja.mp ry,ZH.of (e1 _ _ np hp),h1,k v h2⟩
  | .tup ds,.int i,q,rx,ry=>
   obtain⟨p,vs,rfl,np,hp,rp⟩:=jb.mp rx;obtain⟨v,h1,h2⟩:=Zip rp q;exact .inr ⟨p,vs,i,v,rfl,ja.mp ry,ZU.of (e1 _ _ np hp),h1,k v h2⟩⟩
theorem ji {H:Hp}{d:D}{xs:List V}(h:Zi G H [d] xs):∃v,xs=[v]/\Zk G H d v:=by
 obtain⟨v,r,rfl,h1,h2⟩:=jd.mp h;rw[Zi.nil_iff.mp h2];exact⟨v,rfl,h1⟩
theorem jq {H:Hp}{d e:D}{xs:List V}(h:Zi G H [d,e] xs):∃v w,xs=[v,w]/\Zk G H d v/\Zk G H e w:=by
 obtain⟨v,r,rfl,h1,h2⟩:=jd.mp h;obtain⟨w,rfl,h3⟩:=ji h2;exact⟨v,w,rfl,h1,h3⟩
noncomputable def Z3:List D->Option D
 | [.lst ds]=>some (.int ds.length)
 | [.tup ds]=>some (.int ds.length)
 | _=>none
theorem Zhc:Wi X G (.builtin "len") Z3:=
 ⟨_,Zam,fun Hf H s xs ds c Q e1 st r q k=>by
  match ds,q,r with
  | [.lst es],q,r=>
   cases q
   obtain⟨v,rfl,rv⟩:=ji r;obtain⟨p,vs,rfl,np,hp,rp⟩:=jc.mp rv;exact⟨p,vs,rfl,.inl (ZH.of (e1 _ _ np hp)),k _ Hf H (.refl e1) st (ja.mpr (by rw[rp.length])) (.scal fun z=>z)⟩
  | [.tup es],q,r=>
   cases q
   obtain⟨v,rfl,rv⟩:=ji r;obtain⟨p,vs,rfl,np,hp,rp⟩:=jb.mp rv;exact⟨p,vs,rfl,.inr (ZU.of (e1 _ _ np hp)),k _ Hf H (.refl e1) st (ja.mpr (by rw[rp.length])) (.scal fun z=>z)⟩⟩
noncomputable def UT:List D->Option D
 | [.lst ds]=>some (.tup ds)
 | [.tup ds]=>some (.tup ds)
 | _=>none
theorem Zan:Wi X G (.type "tuple") UT:=
 ⟨_,ZdO,fun Hf H s xs ds c Q e1 st r q k=>by
  match ds,q,r with
  | [.lst es],q,r=>
   cases q
   obtain⟨v,rfl,rv⟩:=ji r;obtain⟨p,vs,rfl,np,hp,rp⟩:=jc.mp rv;refine⟨p,vs,rfl,.inl ⟨ZH.of (e1 _ _ np hp),fun l hl=>?_⟩⟩;have nf:=Gh.nofp st hl;have g2:=Gr.new (o:=.tup vs) e1 hl nf;exact k (.ref l) _ _ g2 (Gh.grow st hl) (jb.mpr ⟨l,_,rfl,nf,ZO,rp.ext g2.ff⟩) (.scal fun z=>z)
  | [.tup es],q,r=>
   cases q
   obtain⟨v,rfl,rv⟩:=ji r;obtain⟨p,vs,rfl,np,hp,rp⟩:=jb.mp rv;exact⟨p,vs,rfl,.inr ⟨ZU.of (e1 _ _ np hp),k _ Hf H (.refl e1) st rv (.scal fun z=>z)⟩⟩⟩
noncomputable def Zk3:List D->Option D
 | [.int i,.int j]=>some (.int (if j > i then j else i))
 | _=>none
noncomputable def U3:List D->Option D
 | [.int i,.int j]=>some (.int (if j<i then j else i))
 | _=>none
theorem Zhd (hc:X.calm=true):Wi X G (.builtin "max") Zk3:=
 ⟨_,Zjd hc,fun Hf H s xs ds c Q e1 st r q k=>by
  match ds,q,r with
  | [.int i,.int j],q,r=>
   cases q
   obtain⟨v,w,rfl,rv,rw'⟩:=jq r;rw[ja.mp rv,ja.mp rw'];exact⟨i,j,rfl,k _ Hf H (.refl e1) st (ja.mpr rfl) (.scal fun z=>z)⟩⟩
theorem Zc1 (hc:X.calm=true):Wi X G (.builtin "min") U3:=
 ⟨_,Zje hc,fun Hf H s xs ds c Q e1 st r q k=>by
  match ds,q,r with
  | [.int i,.int j],q,r=>
   cases q
   obtain⟨v,w,rfl,rv,rw'⟩:=jq r;rw[ja.mp rv,ja.mp rw'];exact⟨i,j,rfl,k _ Hf H (.refl e1) st (ja.mpr rfl) (.scal fun z=>z)⟩⟩
noncomputable def Zk4:List D->Option D
 | [.int i]=>some (.int i)
 | [.bl b]=>some (.int (if b then 1 else 0))
 | _=>none
theorem Zhe:Wi X G (.type "int") Zk4:=
 ⟨_,Zjf,fun Hf H s xs ds c Q e1 st r q k=>by
  match ds,q,r with
  | [.int i],q,r=>
   cases q
   obtain⟨v,rfl,rv⟩:=ji r;rw[ja.mp rv];exact .inl ⟨i,rfl,k _ Hf H (.refl e1) st (ja.mpr rfl) (.scal fun z=>z)⟩
  | [.bl i],q,r=>
   cases q
   obtain⟨v,rfl,rv⟩:=ji r;rw[je.mp rv];exact .inr ⟨i,rfl,k _ Hf H (.refl e1) st (ja.mpr rfl) (.scal fun z=>z)⟩⟩
noncomputable def Xh:List D->Option (List Bool)
 | []=>some []
 | .bl b::ds=>(Xh ds).map (b :: ·)
 | _::_=>none
theorem Zc2:∀{ds:List D} {ns:List Bool},Xh ds=some ns->ds=ns.map D.bl
 | [],ns,h=>by simp[Xh] at h;subst h;rfl
 | .bl i::ds,ns,h=>by
  cases e:Xh ds with
  | none=>simp[Xh,e] at h
  | some ms=>simp[Xh,e] at h;subst h;simp[Zc2 e]
 | .non::_,_,h=>by simp[Xh] at h
 | .int _::_,_,h=>by simp[Xh] at h
 | .str _::_,_,h=>by simp[Xh] at h
 | .tup _::_,_,h=>by simp[Xh] at h
 | .lst _::_,_,h=>by simp[Xh] at h
 | .dk _::_,_,h=>by simp[Xh] at h
 | .dt _::_,_,h=>by simp[Xh] at h
 | .du _::_,_,h=>by simp[Xh] at h
 | .df _::_,_,h=>by simp[Xh] at h
 | .pen::_,_,h=>by simp[Xh] at h
 | .ty _::_,_,h=>by simp[Xh] at h
theorem ZfU (ns:List Bool):Xh (ns.map D.bl)=some ns:=by
 induction ns with
 | nil=>rfl
 | cons n ns ih=>simp[Xh,ih]
theorem jA {H:Hp}:∀{ns:List Bool} {vs:List V},Zi G H (ns.map D.bl) vs->vs=ns.map V.bl
 | [],vs,h=>Zi.nil_iff.mp h
 | n::ns,vs,h=>by
  obtain⟨v,r,rfl,h1,h2⟩:=jd.mp h;rw[je.mp h1,jA h2];rfl
theorem Zc3:∀{bs:List Bool} {us:List Value},Zw (bs.map V.bl) us->us=bs.map zH
 | [],_,.nil=>rfl
 | b::bs,_,.cons r t=>by
  cases (show _=zH b from r)
  rw[Zc3 t];rfl
theorem Zhf {hc:X.calm=true}{jJ:List (Addr×Obj)}{s:Shared}{σ:St}{H:Hp}{p:Addr}{bs:List Bool}{Q:Value->Shared->Prop}{E:Value->Shared->Prop}(fin:Bool)(I:Inv X jJ σ H s)(h:H p=some (.lst (bs.map V.bl)))
  (fn:(Nat->Bool)->List Nat->Bool) (hq:∀s',Inv X jJ σ H s'->Q (.bool (fn (fun i=>bs.getD i false) (qp bs.length))) s') :
  wpAny (model X.prog X.w) X.A.in1 (pyIter (.ref p)) (fun it s₂=>∃I fp wr n P St tr,it=.ref I/\Walks X.prog X.w X.A.in1 I fp wr n P St/\St 0 s₂.heap/\TruthOf X.prog X.w X.A.in1 P tr/\
   ∀h' tk,(∀b o,b∉wr->s₂.heap.get? b=some o->h'.get? b=some o)->Q (.bool (fn tr (qp n))) { s₂ with heap:=h',toks:=tk }) E s:=by
 obtain⟨jL,rv,pl,hz⟩:=I.list (ZH.of h);have eu:=Zc3 rv;subst eu;refine wpAny_pyIter_list pl.isList ?_;have hne:p≠s.heap.objs.size:=qQ (by
  obtain⟨o,ho,_⟩:=pl.isList;exact qH ho)
 refine⟨s.heap.objs.size,_,_,_,_,_,fun i=>bs.getD i false,rfl,qa6 (A:=X.A.in1) (I.ok.hd hc) s.heap.objs.size p hne _,⟨⟨_,qI _ rfl,rfl,rfl⟩,pl.isList.at fun o e=>qq _ e⟩,?_,?_⟩
 ·intro i v s' Q' E' hP hQ'
  have hv:v=.bool (bs.getD i false):=by
   have e:(bs.map zH).toArray[i]?=some v:=hP;rw[List.getElem?_toArray,qD] at e
   cases q:bs[i]? with
   | none=>rw[q] at e;cases e
   | some b=>rw[q] at e;cases e;simp[qaQ,q]
  subst hv;exact wpAny_truthy_bool hQ'
 ·intro h' tk hk
  have:(List.map zH bs).toArray.size=bs.length:=by simp
  rw[this];have I1:Inv X jJ σ H { s with heap:=s.heap.push { cls:=.type "list_iterator",data:=.fields #[.ref p,.int 0 0] } }:=I.kept (t':=s.toks) fun b o e=>qq _ e;refine hq _ (I.kept (t':=tk) fun b o e=>hk b o ?_ (qq _ e));have:=qQ (qH e);simpa using this
theorem Zk5 (bs:List Bool):(qp bs.length).all (fun i=>bs.getD i false)=bs.all id:=by
 induction bs with
 | nil=>rfl
 | cons b bs ih=>
  rw[qR,yN,qaX,qa9];show(b&&(qp bs.length).all fun i=>bs.getD i false)=_;rw[ih];rfl
theorem Zjo (hc:X.calm=true):XT X (.builtin "all") (fun xs H Q=>∃(p:Addr) (bs:List Bool),xs=[.ref p]/\H p=some (.lst (bs.map V.bl))/\Q (.bl (bs.all id)) H):=by
 intro jJ s σ H xs us Q I r h;obtain⟨p,bs,rfl,hp,q⟩:=h;obtain⟨u,rfl,ru⟩:=XU r
 cases ru
 refine call_all_walk (Zhf (hc:=hc) true I hp (fun t l=>l.all t) fun s' I'=>⟨.bl (bs.all id),H,I',?_,q⟩);show zH _=_;rw[Zk5]
noncomputable def VO:List D->Option D
 | [.lst ds]=>(Xh ds).map fun bs=>.bl (bs.all id)
 | _=>none
theorem Bj (hc:X.calm=true):Wi X G (.builtin "all") VO:=
 ⟨_,Zjo hc,fun Hf H s xs ds c Q e1 st r q k=>by
  match ds,q,r with
  | [.lst es],q,r=>
   obtain⟨v,rfl,rv⟩:=ji r;obtain⟨p,vs,rfl,np,hp,rp⟩:=jc.mp rv
   cases e:Xh es with
   | none=>simp[VO,e] at q
   | some bs=>
    simp[VO,e] at q;subst q;rw[Zc2 e] at rp;rw[jA rp] at hp;exact⟨p,bs,rfl,e1 _ _ np hp,k _ Hf H (.refl e1) st (je.mpr rfl) (.scal fun z=>z)⟩⟩
theorem Ziq {x:Str}{n:String}{pos:Pos}(hg:Gl X x)(hm:X.mg x=none)(hv:bootBuiltins x=some (.type n))(hn:x≠"__name__":=by decide)(hd:(x==("__debug__" : Str))=false:=by decide):PD X G true (.Name x pos) (dC (.ty n)):=by
 refine⟨_,ZmM (v:=.ty n) hg hm hv rfl hn hd,fun σ Hf H ρ s d s' Q e1 e2 e3 e4 k=>?_⟩;obtain⟨rfl,rfl⟩:=ZL e4;exact k _ Hf H (.refl e1) e3 (js.mpr rfl) fun _=>.scal fun z=>z
noncomputable def ZeQ:D->Option String
 | .non=>some "NoneType"
 | .bl _=>some "bool"
 | .int _=>some "int"
 | .str _=>some "str"
 | .tup _=>some "tuple"
 | .lst _=>some "list"
 | .dk _=>some "dict"
 | .dt _=>none
 | .du _=>none
 | .df _=>none
 | _=>none
noncomputable def BO:List String:=["int","bool","str","tuple","list","dict"]
noncomputable def Uc:List D->Option D
 | [d,.ty T]=>match ZeQ d with
  | some n=>if BO.contains T then some (.bl (n==T||(n == "bool" && T == "int"))) else none
  | none=>none
 | _=>none
theorem Zm5 (K:qk):∀n∈["NoneType","bool","int","str","tuple","list","dict"],∀T∈BO,PySem.W.kitOne K (.type n) (.type T)=some (n==T||(n == "bool" && T == "int")):=by
 intro n hn T hT;simp only[BO,qu,yo,or_false] at hn hT;rcases hn with rfl | rfl | rfl | rfl | rfl | rfl | rfl <;> rcases hT with rfl | rfl | rfl | rfl | rfl | rfl <;> rfl
theorem Zjp {Hf H:Hp}{d:D}{v:V}{n:String}(e1:Zz G Hf H)(r:Zk G Hf d v)(h:ZeQ d=some n):TyOf X.K H v (.type n)/\n∈["NoneType","bool","int","str","tuple","list","dict"]:=by
 cases d with
 | non=>cases h;rw[jg.mp r];exact⟨.non,by decide⟩
 | bl b=>cases h;rw[je.mp r];exact⟨.bl b,by decide⟩
 | int b=>cases h;rw[ja.mp r];exact⟨.int b,by decide⟩
 | str b=>cases h;rw[jh.mp r];exact⟨.str b,by decide⟩
 | tup ds=>cases h;obtain⟨p,vs,rfl,np,hp,rp⟩:=jb.mp r;exact⟨.tup (e1 _ _ np hp),by decide⟩
 | lst ds=>cases h;obtain⟨p,vs,rfl,np,hp,rp⟩:=jc.mp r;exact⟨.lst (e1 _ _ np hp),by decide⟩
 | dk ds=>cases h;obtain⟨p,rfl,np,hp⟩:=jk.mp r;exact⟨.dK (e1 _ _ np hp),by decide⟩
 | dt ds=>cases h
 | du ds=>cases h
 | df ds=>cases h
 | pen=>cases h
 | ty _=>cases h
 | clo _ _=>cases h
theorem Zjq:XT X (.builtin "isinstance") (fun xs H Q=>∃x n T,xs=[x,.ty T]/\TyOf X.K H x (.type n)/\n∈["NoneType","bool","int","str","tuple","list","dict"]/\T∈BO/\Q (.bl (n==T||(n == "bool" && T == "int"))) H):=by
 intro jJ s σ H xs us Q I r h;obtain⟨x,n,T,rfl,ty,hn,hT,q⟩:=h;obtain⟨u,w',rfl,ru,rw'⟩:=Zid r
 cases (show w'=qaG T from rw')
 exact Zjh I ru ty (Zm5 X.K n hn T hT) fun tk=>⟨.bl _,H,I.tok tk,rfl,q⟩
theorem Za7:Wi X G (.builtin "isinstance") Uc:=
 ⟨_,Zjq,fun Hf H s xs ds c Q e1 st r q k=>by
  match ds,q,r with
  | [d,.ty T],q,r=>
   obtain⟨v,w,rfl,rv,rw'⟩:=jq r;rw[js.mp rw'];have q:(match ZeQ d with | some n=>if BO.contains T then some (D.bl (n==T||(n == "bool" && T == "int"))) else none | none=>none)=some c:=q
   cases e:ZeQ d with
   | none=>rw[e] at q;cases q
   | some n=>
    rw[e] at q;simp only at q;split at q
    ·rename_i hk
     cases q
     obtain⟨t1,t2⟩:=Zjp (X:=X) e1 rv e;exact⟨v,n,T,rfl,t1,t2,by simpa using hk,k _ Hf H (.refl e1) st (je.mpr rfl) (.scal fun z=>z)⟩
    ·cases q⟩
end
mutual
noncomputable def Zq:D->Bool
 | .non=>true
 | .bl _=>true
 | .int _=>true
 | .str _=>true
 | .tup ds=>Yw ds
 | .lst ds=>Yw ds
 | _=>false
noncomputable def Yw:List D->Bool
 | []=>true
 | d::ds=>Zq d&&Yw ds
end
mutual
noncomputable def Yg:D->Nat
 | .tup ds=>Xl ds+1
 | .lst ds=>Xl ds+1
 | _=>0
noncomputable def Xl:List D->Nat
 | []=>0
 | d::ds=>max (Yg d) (Xl ds)
end
theorem Jy:∀{ds:List D} {d:D},d∈ds->Yg d<=Xl ds
 | e::ds,d,h=>by
  rcases qu.mp h with rfl | h
  ·simp only[Xl];omega
  ·have:=Jy h
   simp only[Xl];omega
theorem UK:∀{ds:List D} {d:D},Yw ds=true->d∈ds->Zq d=true
 | e::ds,d,n,h=>by
  have n':Zq e=true/\Yw ds=true:=by simpa[Yw] using n
  rcases qu.mp h with rfl | h
  ·exact n'.1
  ·exact UK n'.2 h
mutual
noncomputable def ZM:D->D->Bool
 | .non,.non=>true
 | .bl a,.bl b=>a==b
 | .bl a,.int i=>(if a then 1 else 0)==i
 | .int i,.bl b=>i==(if b then 1 else 0)
 | .int i,.int j=>i==j
 | .str x,.str y=>x==y
 | .tup a,.tup b=>Xy a b
 | .lst a,.lst b=>Xy a b
 | _,_=>false
noncomputable def Xy:List D->List D->Bool
 | [],[]=>true
 | a::as,b::bs=>ZM a b&&Xy as bs
 | _,_=>false
end
mutual
theorem Zc4:∀d:D,Zq d=true->ZM d d=true
 | .non,_=>by simp[ZM]
 | .bl _,_=>by simp[ZM]
 | .int _,_=>by simp[ZM]
 | .str _,_=>by simp[ZM]
 | .tup ds,h=>by simp only[ZM];exact ZbT ds (by simpa[Zq] using h)
 | .lst ds,h=>by simp only[ZM];exact ZbT ds (by simpa[Zq] using h)
 | .dk _,h=>by simp[Zq] at h
 | .dt _,h=>by simp[Zq] at h
 | .du _,h=>by simp[Zq] at h
 | .df _,h=>by simp[Zq] at h
 | .pen,h=>by simp[Zq] at h
 | .ty _,h=>by simp[Zq] at h
 | .clo _ _,h=>by simp[Zq] at h
theorem ZbT:∀ds:List D,Yw ds=true->Xy ds ds=true
 | [],_=>by simp[Xy]
 | d::ds,h=>by
  have n':Zq d=true/\Yw ds=true:=by simpa[Yw] using h
  simp only[Xy,Zc4 d n'.1,ZbT ds n'.2,Bool.and_self]
end
theorem Zc5:∀{a b:List D},Xy a b=true->a.length=b.length
 | [],[],_=>rfl
 | a::as,b::bs,h=>by
  have:ZM a b=true/\Xy as bs=true:=by simpa[Xy] using h
  simp[Zc5 this.2]
 | [],_::_,h=>by simp[Xy] at h
 | _::_,[],h=>by simp[Xy] at h
theorem Zbk:∀(a b:List D),a.length=b.length->(qp a.length).all (fun j=>ZM (a.getD j .non) (b.getD j .non))=Xy a b
 | [],[],_=>rfl
 | a::as,b::bs,h=>by
  have h':as.length=bs.length:=by simpa using h
  rw[qR,yN,qaX,qa9,Xy,<-Zbk as bs h'];rfl
 | [],_::_,h=>by simp at h
 | _::_,[],h=>by simp at h
theorem ZfV:∀(a b:List D),((qp (min a.length b.length)).all (fun j=>ZM (a.getD j .non) (b.getD j .non))&&a.length==b.length)=Xy a b:=fun a b=>by
 by_cases h:a.length=b.length
 ·rw[<-Zbk a b h,h];simp
 ·have:Xy a b=false:=by
   cases e:Xy a b with
   | false=>rfl
   | true=>exact absurd (Zc5 e) h
  rw[this];simp[h]
mutual
theorem Zk.inj {G:Gh}{H:Hp}:∀{d e:D} {v:V},Zq d=true->Zq e=true->Zk G H d v->Zk G H e v->d=e
 | .non,e,v,_,pe,h,h'=>by
  rw[jg.mp h] at h'
  cases e <;> first | rfl | (simp[Zq] at pe;done) | (simp[Zk] at h')
 | .bl b,e,v,_,pe,h,h'=>by
  rw[je.mp h] at h'
  cases e <;> first | (simp[Zq] at pe;done) | (simp[Zk] at h';rw[h']) | (simp[Zk] at h')
 | .int b,e,v,_,pe,h,h'=>by
  rw[ja.mp h] at h'
  cases e <;> first | (simp[Zq] at pe;done) | (simp[Zk] at h';rw[h']) | (simp[Zk] at h')
 | .str b,e,v,_,pe,h,h'=>by
  rw[jh.mp h] at h'
  cases e <;> first | (simp[Zq] at pe;done) | (simp[Zk] at h';rw[h']) | (simp[Zk] at h')
 | .tup ds,e,v,pd,pe,h,h'=>by
  obtain⟨a,vs,rfl,n,q,r⟩:=jb.mp h
  cases e with
  | tup es=>
   obtain⟨a',vs',e',n',q',r'⟩:=jb.mp h'
   cases e'
   rw[q] at q';cases q';rw[Zi.inj (by simpa[Zq] using pd) (by simpa[Zq] using pe) r r']
  | lst es=>
   obtain⟨a',vs',e',n',q',r'⟩:=jc.mp h'
   cases e'
   rw[q] at q';cases q'
  | _=>first | (simp[Zk] at h';done) | (simp[Zq] at pe;done)
 | .lst ds,e,v,pd,pe,h,h'=>by
  obtain⟨a,vs,rfl,n,q,r⟩:=jc.mp h
  cases e with
  | lst es=>
   obtain⟨a',vs',e',n',q',r'⟩:=jc.mp h'
   cases e'
   rw[q] at q';cases q';rw[Zi.inj (by simpa[Zq] using pd) (by simpa[Zq] using pe) r r']
  | tup es=>
   obtain⟨a',vs',e',n',q',r'⟩:=jb.mp h'
   cases e'
   rw[q] at q';cases q'
  | _=>first | (simp[Zk] at h';done) | (simp[Zq] at pe;done)
 | .dk _,_,_,pd,_,_,_=>by simp[Zq] at pd
 | .dt _,_,_,pd,_,_,_=>by simp[Zq] at pd
 | .du _,_,_,pd,_,_,_=>by simp[Zq] at pd
 | .df _,_,_,pd,_,_,_=>by simp[Zq] at pd
 | .pen,_,_,pd,_,_,_=>by simp[Zq] at pd
 | .ty _,_,_,pd,_,_,_=>by simp[Zq] at pd
 | .clo _ _,_,_,pd,_,_,_=>by simp[Zq] at pd
theorem Zi.inj {G:Gh}{H:Hp}:∀{ds es:List D} {vs:List V},Yw ds=true->Yw es=true->Zi G H ds vs->Zi G H es vs->ds=es
 | [],es,vs,_,pe,h,h'=>by
  rw[Zi.nil_iff.mp h] at h'
  cases es with
  | nil=>rfl
  | cons e es=>obtain⟨v,r,e1,_⟩:=jd.mp h';cases e1
 | d::ds,es,vs,pd,pe,h,h'=>by
  obtain⟨v,r,rfl,r1,r2⟩:=jd.mp h;have pd':Zq d=true/\Yw ds=true:=by simpa[Yw] using pd
  cases es with
  | nil=>have:=Zi.nil_iff.mp h';cases this
  | cons e es=>
   obtain⟨v',r',e1,r1',r2'⟩:=jd.mp h'
   cases e1
   have pe':Zq e=true/\Yw es=true:=by simpa[Yw] using pe
   rw[Zk.inj pd'.1 pe'.1 r1 r1',Zi.inj pd'.2 pe'.2 r2 r2']
end
section
variable {X:Cx}{G:Gh}{jJ:List (Addr×Obj)}{σ:St}{Hf H:Hp}{s:Shared}
theorem Bk (A:Around):A.in1.units=A.units+1:=rfl
theorem ZcD {ds:List D}{vs:List V}{us:List Value}(r:Zi G Hf ds vs)(rv:Zw vs us){j:Nat}(h:j<us.toArray.size):∃v,Zk G Hf (ds.getD j .non) v/\ZC v us.toArray[j]/\ds.getD j .non∈ds:=by
 have hl:j<ds.length:=by rw[r.length,rv.length];simpa using h
 have e:ds[j]?=some (ds.getD j .non):=by simp[qaQ,hl]
 obtain⟨v,h1,h2⟩:=r.get e;obtain⟨u,h3,h4⟩:=rv.get h1;refine⟨v,h2,?_,?_⟩
 ·have:us.toArray[j]=u:=by
   have h':j<us.length:=by simpa using h
   have q:us[j]?=some us[j]:=by simp[h']
   rw[h3] at q;simpa using(zi q).symm
  rw[this];exact h4
 ·simp[qaQ,hl]
theorem Zk6 (I:Inv X jJ σ H s)(e1:Zz G Hf H):∀(n:Nat) (A:Around) (d e:D) (x y:V) (u v:Value),Yg d<=n->Yg e<=n->A.units+n+1<cLine->Zq d=true->Zq e=true->Zk G Hf d x->Zk G Hf e y->ZC x u->ZC y v->
  yP A s u v (ZM d e)/\qbH A s u v (ZM d e)/\qba A s u v (!ZM d e):=by
 intro n
 induction n with
 | zero=>
  intro A d e x y u v hd he hu pd pe rd re ru rv;have hu':A.units<cLine:=by omega
  cases d with
  | tup ds=>simp[Yg] at hd
  | lst ds=>simp[Yg] at hd
  | dk _=>simp[Zq] at pd
  | dt _=>simp[Zq] at pd
  | du _=>simp[Zq] at pd
  | df _=>simp[Zq] at pd
  | pen=>simp[Zq] at pd
  | ty _=>simp[Zq] at pd
  | clo _ _=>simp[Zq] at pd
  | non=>
   rw[jg.mp rd] at ru
   cases (show u=ze from ru)
   cases e with
   | tup ds=>simp[Yg] at he
   | lst ds=>simp[Yg] at he
   | dk _=>simp[Zq] at pe
   | dt _=>simp[Zq] at pe
   | du _=>simp[Zq] at pe
   | df _=>simp[Zq] at pe
   | pen=>simp[Zq] at pe
   | ty _=>simp[Zq] at pe
   | clo _ _=>simp[Zq] at pe
   | non=>rw[jg.mp re] at rv;cases (show v=ze from rv);simp only[ZM];exact⟨.same _,.none_none,.none_none⟩
   | bl b=>rw[je.mp re] at rv;cases (show v=zH b from rv);simp only[ZM];exact⟨.none_bool b,.none_bool b,.none_bool b⟩
   | int b=>rw[ja.mp re] at rv;obtain⟨t,rfl⟩:=rv;simp only[ZM];exact⟨.none_int b t,.none_int b t,.none_int b t⟩
   | str b=>rw[jh.mp re] at rv;obtain⟨t,rfl⟩:=rv;simp only[ZM];exact⟨.none_str b t,.none_str b t,.none_str b t⟩
  | bl a=>
   rw[je.mp rd] at ru
   cases (show u=zH a from ru)
   cases e with
   | tup ds=>simp[Yg] at he
   | lst ds=>simp[Yg] at he
   | dk _=>simp[Zq] at pe
   | dt _=>simp[Zq] at pe
   | du _=>simp[Zq] at pe
   | df _=>simp[Zq] at pe
   | pen=>simp[Zq] at pe
   | ty _=>simp[Zq] at pe
   | clo _ _=>simp[Zq] at pe
   | non=>rw[jg.mp re] at rv;cases (show v=ze from rv);simp only[ZM];exact⟨.bool_none a,.bool_none a,.bool_none a⟩
   | bl b=>rw[je.mp re] at rv;cases (show v=zH b from rv);simp only[ZM];exact⟨.bool_bool a b,.bool_bool a b,.bool_bool a b⟩
   | int b=>rw[ja.mp re] at rv;obtain⟨t,rfl⟩:=rv;simp only[ZM];exact⟨.bool_int a b t,.bool_int a b t,.bool_int a b t⟩
   | str b=>rw[jh.mp re] at rv;obtain⟨t,rfl⟩:=rv;simp only[ZM];exact⟨.bool_str a b t,.bool_str a b t,.bool_str a b t⟩
  | int a=>
   rw[ja.mp rd] at ru;obtain⟨ta,rfl⟩:=ru
   cases e with
   | tup ds=>simp[Yg] at he
   | lst ds=>simp[Yg] at he
   | dk _=>simp[Zq] at pe
   | dt _=>simp[Zq] at pe
   | du _=>simp[Zq] at pe
   | df _=>simp[Zq] at pe
   | pen=>simp[Zq] at pe
   | ty _=>simp[Zq] at pe
   | clo _ _=>simp[Zq] at pe
   | non=>rw[jg.mp re] at rv;cases (show v=ze from rv);simp only[ZM];exact⟨.int_none a ta,.int_none a ta,.int_none a ta⟩
   | bl b=>rw[je.mp re] at rv;cases (show v=zH b from rv);simp only[ZM];exact⟨.int_bool a ta b,.int_bool a ta b,.int_bool a ta b⟩
   | int b=>rw[ja.mp re] at rv;obtain⟨t,rfl⟩:=rv;simp only[ZM];exact⟨.int_int a ta b t,.int_int a ta b t,.int_int a ta b t⟩
   | str b=>rw[jh.mp re] at rv;obtain⟨t,rfl⟩:=rv;simp only[ZM];exact⟨.int_str a ta b t,.int_str a ta b t,.int_str a ta b t⟩
  | str a=>
   rw[jh.mp rd] at ru;obtain⟨ta,rfl⟩:=ru
   cases e with
   | tup ds=>simp[Yg] at he
   | lst ds=>simp[Yg] at he
   | dk _=>simp[Zq] at pe
   | dt _=>simp[Zq] at pe
   | du _=>simp[Zq] at pe
   | df _=>simp[Zq] at pe
   | pen=>simp[Zq] at pe
   | ty _=>simp[Zq] at pe
   | clo _ _=>simp[Zq] at pe
   | non=>rw[jg.mp re] at rv;cases (show v=ze from rv);simp only[ZM];exact⟨.str_none a ta,.str_none a ta,.str_none a ta⟩
   | bl b=>rw[je.mp re] at rv;cases (show v=zH b from rv);simp only[ZM];exact⟨.str_bool a ta b,.str_bool a ta b,.str_bool a ta b⟩
   | int b=>rw[ja.mp re] at rv;obtain⟨t,rfl⟩:=rv;simp only[ZM];exact⟨.str_int a ta b t,.str_int a ta b t,.str_int a ta b t⟩
   | str b=>rw[jh.mp re] at rv;obtain⟨t,rfl⟩:=rv;simp only[ZM];exact⟨.str_str a ta b t,.str_str a ta b t,.str_str a ta b t⟩
 | succ n ih=>
  intro A d e x y u v hd he hu pd pe rd re ru rv;have hu':A.units<cLine:=by omega
  by_cases hs:Yg d<=n/\Yg e<=n
  ·exact ih A d e x y u v hs.1 hs.2 (by omega) pd pe rd re ru rv
  -- two refs
  have same:∀{l b:Addr},x=.ref l->y=.ref b->l=b->ZM d e=true:=fun ex ey el=>by
   subst ex ey el;have:=Zk.inj pd pe rd re;subst this;exact Zc4 d pd
  cases d with
  | dk _=>simp[Zq] at pd
  | dt _=>simp[Zq] at pd
  | du _=>simp[Zq] at pd
  | df _=>simp[Zq] at pd
  | pen=>simp[Zq] at pd
  | ty _=>simp[Zq] at pd
  | clo _ _=>simp[Zq] at pd
  | tup ds=>
   obtain⟨l,vs,rfl,nl,hl,rl⟩:=jb.mp rd
   cases (show u=qM l from ru)
   obtain⟨jL,rits,pits,_⟩:=I.tuple (ZU.of (K:=X.K) (e1 _ _ nl hl));have il:s.heap.IsTuple l jL.toArray:=pits
   cases e with
   | dk _=>simp[Zq] at pe
   | dt _=>simp[Zq] at pe
   | du _=>simp[Zq] at pe
   | df _=>simp[Zq] at pe
   | pen=>simp[Zq] at pe
   | ty _=>simp[Zq] at pe
   | clo _ _=>simp[Zq] at pe
   | non=>rw[jg.mp re] at rv;cases (show v=ze from rv);simp only[ZM];exact⟨.tuple_none il hu',.tuple_none il hu',.tuple_none il hu'⟩
   | bl b=>rw[je.mp re] at rv;cases (show v=zH b from rv);simp only[ZM];exact⟨.tuple_bool b il hu',.tuple_bool b il hu',.tuple_bool b il hu'⟩
   | int b=>rw[ja.mp re] at rv;obtain⟨t,rfl⟩:=rv;simp only[ZM];exact⟨.tuple_int b t il hu',.tuple_int b t il hu',.tuple_int b t il hu'⟩
   | str b=>rw[jh.mp re] at rv;obtain⟨t,rfl⟩:=rv;simp only[ZM];exact⟨.tuple_str b t il hu',.tuple_str b t il hu',.tuple_str b t il hu'⟩
   | lst es=>
    obtain⟨b,ws,rfl,nb,hb,rb⟩:=jc.mp re
    cases (show v=qM b from rv)
    obtain⟨ke,kq,ka,_⟩:=I.list (ZH.of (K:=X.K) (e1 _ _ nb hb));simp only[ZM];exact⟨.tuple_list il ka.isList hu',.tuple_list il ka.isList hu',.tuple_list il ka.isList hu'⟩
   | tup es=>
    obtain⟨b,ws,rfl,nb,hb,rb⟩:=jb.mp re
    cases (show v=qM b from rv)
    obtain⟨ke,kq,ka,_⟩:=I.tuple (ZU.of (K:=X.K) (e1 _ _ nb hb));have ib:s.heap.IsTuple b ke.toArray:=ka;have hit:∀j (h1:j<jL.toArray.size) (h2:j<ke.toArray.size),yP A.in1 s jL.toArray[j] ke.toArray[j] ((fun j=>ZM (ds.getD j .non) (es.getD j .non)) j):=fun j h1 h2=>by
     obtain⟨v1,a1,a2,a3⟩:=ZcD rl rits h1;obtain⟨v2,b1,b2,b3⟩:=ZcD rb kq h2;exact(ih A.in1 _ _ v1 v2 _ _ (qZ (Jy a3) (by simp[Yg] at hd;omega)) (qZ (Jy b3) (by simp[Yg] at he;omega)) (by rw[Bk];omega)
      (UK (by simpa[Zq] using pd) a3) (UK (by simpa[Zq] using pe) b3) a1 b1 a2 b2).1
    have sz1:jL.toArray.size=ds.length:=by rw[rl.length,rits.length];simp
    have sz2:ke.toArray.size=es.length:=by rw[rb.length,kq.length];simp
    have rc:=qbH.tuples (e:=fun j=>ZM (ds.getD j .non) (es.getD j .non)) il ib hu' hit;have rn:=qba.tuples (e:=fun j=>ZM (ds.getD j .non) (es.getD j .non)) il ib hu' hit;rw[sz1,sz2,ZfV] at rc rn;simp only[ZM];refine⟨?_,rc,rn⟩;by_cases hlb:l=b
    ·have q:=same rfl rfl hlb
     simp only[ZM] at q;subst hlb;rw[q];exact .same _
    ·exact .of_refs hlb rc
  | lst ds=>
   obtain⟨l,vs,rfl,nl,hl,rl⟩:=jc.mp rd
   cases (show u=qM l from ru)
   obtain⟨jL,rits,pits,_⟩:=I.list (ZH.of (K:=X.K) (e1 _ _ nl hl));have il:=pits.isList
   cases e with
   | dk _=>simp[Zq] at pe
   | dt _=>simp[Zq] at pe
   | du _=>simp[Zq] at pe
   | df _=>simp[Zq] at pe
   | pen=>simp[Zq] at pe
   | ty _=>simp[Zq] at pe
   | clo _ _=>simp[Zq] at pe
   | non=>rw[jg.mp re] at rv;cases (show v=ze from rv);simp only[ZM];exact⟨.list_none il hu',.list_none il hu',.list_none il hu'⟩
   | bl b=>rw[je.mp re] at rv;cases (show v=zH b from rv);simp only[ZM];exact⟨.list_bool b il hu',.list_bool b il hu',.list_bool b il hu'⟩
   | int b=>rw[ja.mp re] at rv;obtain⟨t,rfl⟩:=rv;simp only[ZM];exact⟨.list_int b t il hu',.list_int b t il hu',.list_int b t il hu'⟩
   | str b=>rw[jh.mp re] at rv;obtain⟨t,rfl⟩:=rv;simp only[ZM];exact⟨.list_str b t il hu',.list_str b t il hu',.list_str b t il hu'⟩
   | tup es=>
    obtain⟨b,ws,rfl,nb,hb,rb⟩:=jb.mp re
    cases (show v=qM b from rv)
    obtain⟨ke,kq,ka,_⟩:=I.tuple (ZU.of (K:=X.K) (e1 _ _ nb hb));have ib:s.heap.IsTuple b ke.toArray:=ka;simp only[ZM];exact⟨.list_tuple il ib hu',.list_tuple il ib hu',.list_tuple il ib hu'⟩
   | lst es=>
    obtain⟨b,ws,rfl,nb,hb,rb⟩:=jc.mp re
    cases (show v=qM b from rv)
    obtain⟨ke,kq,ka,_⟩:=I.list (ZH.of (K:=X.K) (e1 _ _ nb hb));have ib:=ka.isList;have hit:∀j (h1:j<jL.toArray.size) (h2:j<ke.toArray.size),yP A.in1 s jL.toArray[j] ke.toArray[j] ((fun j=>ZM (ds.getD j .non) (es.getD j .non)) j):=fun j h1 h2=>by
     obtain⟨v1,a1,a2,a3⟩:=ZcD rl rits h1;obtain⟨v2,b1,b2,b3⟩:=ZcD rb kq h2;exact(ih A.in1 _ _ v1 v2 _ _ (qZ (Jy a3) (by simp[Yg] at hd;omega)) (qZ (Jy b3) (by simp[Yg] at he;omega)) (by rw[Bk];omega)
      (UK (by simpa[Zq] using pd) a3) (UK (by simpa[Zq] using pe) b3) a1 b1 a2 b2).1
    have sz1:jL.toArray.size=ds.length:=by rw[rl.length,rits.length];simp
    have sz2:ke.toArray.size=es.length:=by rw[rb.length,kq.length];simp
    have key:qbH A s (.ref l) (.ref b) (Xy ds es)/\qba A s (.ref l) (.ref b) (!Xy ds es):=by
     by_cases hsz:ds.length=es.length
     ·have rc:=qbH.lists (e:=fun j=>ZM (ds.getD j .non) (es.getD j .non)) il ib (by rw[sz1,sz2];exact hsz) hu' hit
      have rn:=qba.lists (e:=fun j=>ZM (ds.getD j .non) (es.getD j .non)) il ib (by rw[sz1,sz2];exact hsz) hu' hit;rw[sz1,Zbk ds es hsz] at rc rn;exact⟨rc,rn⟩
     ·have hne:(jL.toArray.size != ke.toArray.size)=true:=by rw[sz1,sz2];simpa using hsz
      have hf:Xy ds es=false:=by
       cases e:Xy ds es with
       | false=>rfl
       | true=>exact absurd (Zc5 e) hsz
      rw[hf];exact⟨.lists_lengths il ib hne hu',.lists_lengths il ib hne hu'⟩
    simp only[ZM];refine⟨?_,key.1,key.2⟩;by_cases hlb:l=b
    ·have q:=same rfl rfl hlb
     simp only[ZM] at q;subst hlb;rw[q];exact .same _
    ·exact .of_refs hlb key.1
  | non=>
   rw[jg.mp rd] at ru
   cases (show u=ze from ru)
   cases e with
   | tup es=>
    obtain⟨b,ws,rfl,nb,hb,rb⟩:=jb.mp re
    cases (show v=qM b from rv)
    obtain⟨ke,kq,ka,_⟩:=I.tuple (ZU.of (K:=X.K) (e1 _ _ nb hb));have ib:s.heap.IsTuple b ke.toArray:=ka;simp only[ZM];exact⟨.none_tuple ib hu',.none_tuple ib hu',.none_tuple ib hu'⟩
   | lst es=>
    obtain⟨b,ws,rfl,nb,hb,rb⟩:=jc.mp re
    cases (show v=qM b from rv)
    obtain⟨ke,kq,ka,_⟩:=I.list (ZH.of (K:=X.K) (e1 _ _ nb hb));have ib:=ka.isList;simp only[ZM];exact⟨.none_list ib hu',.none_list ib hu',.none_list ib hu'⟩
   | _=>simp[Yg] at hs
  | bl a=>
   rw[je.mp rd] at ru
   cases (show u=zH a from ru)
   cases e with
   | tup es=>
    obtain⟨b,ws,rfl,nb,hb,rb⟩:=jb.mp re
    cases (show v=qM b from rv)
    obtain⟨ke,kq,ka,_⟩:=I.tuple (ZU.of (K:=X.K) (e1 _ _ nb hb));have ib:s.heap.IsTuple b ke.toArray:=ka;simp only[ZM];exact⟨.bool_tuple a ib hu',.bool_tuple a ib hu',.bool_tuple a ib hu'⟩
   | lst es=>
    obtain⟨b,ws,rfl,nb,hb,rb⟩:=jc.mp re
    cases (show v=qM b from rv)
    obtain⟨ke,kq,ka,_⟩:=I.list (ZH.of (K:=X.K) (e1 _ _ nb hb));have ib:=ka.isList;simp only[ZM];exact⟨.bool_list a ib hu',.bool_list a ib hu',.bool_list a ib hu'⟩
   | _=>simp[Yg] at hs
  | int a=>
   rw[ja.mp rd] at ru;obtain⟨ta,rfl⟩:=ru
   cases e with
   | tup es=>
    obtain⟨b,ws,rfl,nb,hb,rb⟩:=jb.mp re
    cases (show v=qM b from rv)
    obtain⟨ke,kq,ka,_⟩:=I.tuple (ZU.of (K:=X.K) (e1 _ _ nb hb));have ib:s.heap.IsTuple b ke.toArray:=ka;simp only[ZM];exact⟨.int_tuple a ta ib hu',.int_tuple a ta ib hu',.int_tuple a ta ib hu'⟩
   | lst es=>
    obtain⟨b,ws,rfl,nb,hb,rb⟩:=jc.mp re
    cases (show v=qM b from rv)
    obtain⟨ke,kq,ka,_⟩:=I.list (ZH.of (K:=X.K) (e1 _ _ nb hb));have ib:=ka.isList;simp only[ZM];exact⟨.int_list a ta ib hu',.int_list a ta ib hu',.int_list a ta ib hu'⟩
   | _=>simp[Yg] at hs
  | str a=>
   rw[jh.mp rd] at ru;obtain⟨ta,rfl⟩:=ru
   cases e with
   | tup es=>
    obtain⟨b,ws,rfl,nb,hb,rb⟩:=jb.mp re
    cases (show v=qM b from rv)
    obtain⟨ke,kq,ka,_⟩:=I.tuple (ZU.of (K:=X.K) (e1 _ _ nb hb));have ib:s.heap.IsTuple b ke.toArray:=ka;simp only[ZM];exact⟨.str_tuple a ta ib hu',.str_tuple a ta ib hu',.str_tuple a ta ib hu'⟩
   | lst es=>
    obtain⟨b,ws,rfl,nb,hb,rb⟩:=jc.mp re
    cases (show v=qM b from rv)
    obtain⟨ke,kq,ka,_⟩:=I.list (ZH.of (K:=X.K) (e1 _ _ nb hb));have ib:=ka.isList;simp only[ZM];exact⟨.str_list a ta ib hu',.str_list a ta ib hu',.str_list a ta ib hu'⟩
   | _=>simp[Yg] at hs
end
section
variable {X:Cx}{G:Gh}
noncomputable def W7 (d e:D):Bool:=Zq d&&Zq e&&decide (Yg d<=60)&&decide (Yg e<=60)
theorem Zec {d e:D}(h:W7 d e=true):Zq d=true/\Zq e=true/\Yg d<=60/\Yg e<=60:=by
 simp only[W7,qX,decide_eq_true_eq] at h;exact⟨h.1.1.1,h.1.1.2,h.1.2,h.2⟩
noncomputable def XY (d e:D):Option D:=if W7 d e=true then some (.bl (ZM d e)) else none
noncomputable def YT (d e:D):Option D:=if W7 d e=true then some (.bl (!ZM d e)) else none
noncomputable def rEqD (G:Gh)(Ug:Bool):R2:=fun x y H Q=>∃Hf d e,Zz G Hf H/\W7 d e=true/\Zk G Hf d x/\Zk G Hf e y/\Q (.bl (if Ug then !ZM d e else ZM d e)) H
theorem Zo1 (hu:X.A.units+64<cLine):Yd X (compareOp .Eq) (rEqD G false):=by
 intro jJ s σ H x y v u Q I rx ry h;obtain⟨Hf,d,e,e1,ok,rd,re,q⟩:=h;obtain⟨o1,o2,o3,o4⟩:=Zec ok;exact(Zk6 I e1 60 X.A d e x y v u o3 o4 (by omega) o1 o2 rd re rx ry).2.1 _ _ _ _ ⟨.bl (ZM d e),H,I,rfl,q⟩
theorem Zo2 (hu:X.A.units+64<cLine):Yd X (compareOp .NotEq) (rEqD G true):=by
 intro jJ s σ H x y v u Q I rx ry h;obtain⟨Hf,d,e,e1,ok,rd,re,q⟩:=h;obtain⟨o1,o2,o3,o4⟩:=Zec ok;exact(Zk6 I e1 60 X.A d e x y v u o3 o4 (by omega) o1 o2 rd re rx ry).2.2 _ _ _ _ ⟨.bl (!ZM d e),H,I,rfl,q⟩
theorem BF (hu:X.A.units+64<cLine):Xf X G (compareOp .Eq) XY:=
 ⟨_,Zo1 (G:=G) hu,fun Hf H s x y d e c Q e1 st rx ry q k=>by
  unfold XY at q;split at q
  ·rename_i ok
   cases q
   exact⟨Hf,d,e,e1,ok,rx,ry,k _ Hf H (.refl e1) st (je.mpr rfl) (.scal fun z=>z)⟩
  ·cases q⟩
theorem Vg (hu:X.A.units+64<cLine):Xf X G (compareOp .NotEq) YT:=
 ⟨_,Zo2 (G:=G) hu,fun Hf H s x y d e c Q e1 st rx ry q k=>by
  unfold YT at q;split at q
  ·rename_i ok
   cases q
   exact⟨Hf,d,e,e1,ok,rx,ry,k _ Hf H (.refl e1) st (je.mpr rfl) (.scal fun z=>z)⟩
  ·cases q⟩
noncomputable def Vr (x:D)(ds:List D):Bool:=Zq x&&Yw ds&&decide (Yg x<=60)&&decide (Xl ds<=60)
noncomputable def Vv (x:D)(ds:List D):Bool:=ds.any fun d=>ZM d x
theorem Zjr {x:D}{ds:List D}(h:Vr x ds=true):Zq x=true/\Yw ds=true/\Yg x<=60/\Xl ds<=60:=by
 simp only[Vr,qX,decide_eq_true_eq] at h;exact⟨h.1.1.1,h.1.1.2,h.1.2,h.2⟩
open Classical in
noncomputable def Ja (G:Gh)(Hf:Hp)(x:D)(u:Value):Bool:=if h:∃d v,Zq d=true/\Zk G Hf d v/\ZC v u then ZM h.choose x else false
theorem Zir {Hf:Hp}{x d:D}{v:V}{u:Value}(pd:Zq d=true)(r:Zk G Hf d v)(ru:ZC v u):Ja G Hf x u=ZM d x:=by
 have h:∃d v,Zq d=true/\Zk G Hf d v/\ZC v u:=⟨d,v,pd,r,ru⟩;unfold Ja;rw[dif_pos h];obtain⟨v',p',r',ru'⟩:=h.choose_spec;have ev:v'=v:=ZC.inj ru' ru;subst ev;rw[Zk.inj p' pd r' r]
theorem ZfW {Hf:Hp}{x:D}:∀{ds:List D} {vs:List V} {us:List Value},Yw ds=true->Zi G Hf ds vs->Zw vs us->us.any (Ja G Hf x)=Vv x ds
 | [],vs,us,_,r,rv=>by
  rw[Zi.nil_iff.mp r] at rv
  cases rv
  rfl
 | d::ds,vs,us,p,r,rv=>by
  obtain⟨v,rr,rfl,r1,r2⟩:=jd.mp r;have p':Zq d=true/\Yw ds=true:=by simpa[Yw] using p
  cases rv with
  | cons a b=>
   rw[qaA,Zir p'.1 r1 a,ZfW p'.2 r2 b];rfl
theorem ZfX {Hf:Hp}:∀{ds:List D} {vs:List V} {us:List Value} {u:Value},Zi G Hf ds vs->Zw vs us->u∈us->∃d v,d∈ds/\Zk G Hf d v/\ZC v u
 | [],vs,us,u,r,rv,m=>by
  rw[Zi.nil_iff.mp r] at rv
  cases rv
  simp at m
 | d::ds,vs,us,u,r,rv,m=>by
  obtain⟨v,rr,rfl,r1,r2⟩:=jd.mp r
  cases rv with
  | cons a b=>
   rcases qu.mp m with e | m
   ·subst e;exact⟨d,v,by simp,r1,a⟩
   ·obtain⟨d',v',m',h1,h2⟩:=ZfX r2 b m
    exact⟨d',v',by simp[m'],h1,h2⟩
noncomputable def rInD (G:Gh)(Ug:Bool):R2:=fun x y H Q=>∃Hf d ds,Zz G Hf H/\Vr d ds=true/\Zk G Hf d x/\(Zk G Hf (.lst ds) y∨Zk G Hf (.tup ds) y)/\Q (.bl (if Ug then !Vv d ds else Vv d ds)) H
theorem ZcE {jJ:List (Addr×Obj)}{s:Shared}{σ:St}{Hf H:Hp}{d:D}{ds:List D}{x:V}{v:Value}{vs:List V}{jL:List Value}(hu:X.A.units+64<cLine)(I:Inv X jJ σ H s)(e1:Zz G Hf H)(ok:Vr d ds=true)(rd:Zk G Hf d x)(rx:ZC x v)
  (rl:Zi G Hf ds vs) (rv:Zw vs jL):(∀y,y∈jL.toArray->yP X.A.in1 s y v (Ja G Hf d y))/\jL.toArray.any (Ja G Hf d)=Vv d ds:=by
 obtain⟨o1,o2,o3,o4⟩:=Zjr ok;refine⟨fun y hy=>?_,?_⟩
 ·obtain⟨c,w,m,h1,h2⟩:=ZfX rl rv (by simpa using hy)
  rw[Zir (UK o2 m) h1 h2];exact(Zk6 I e1 60 X.A.in1 c d w x y v (qZ (Jy m) o4) o3 (by rw[Bk];omega) (UK o2 m) o1 h1 rd h2 rx).1
 ·rw[show jL.toArray.any (Ja G Hf d)=jL.any (Ja G Hf d) by simp,ZfW o2 rl rv]
theorem Zo3 (hu:X.A.units+64<cLine):Yd X (compareOp .In) (rInD G false):=by
 intro jJ s σ H x y v u Q I rx ry h;obtain⟨Hf,d,ds,e1,ok,rd,hl,q⟩:=h;rcases hl with hl | hl
 ·obtain⟨p,vs,rfl,np,hp,rp⟩:=jc.mp hl
  cases (show u=qM p from ry)
  obtain⟨jL,rv,pl,hz⟩:=I.list (ZH.of (K:=X.K) (e1 _ _ np hp));obtain⟨c1,c2⟩:=ZcE hu I e1 ok rd rx rp rv;refine SeqAt.in_listAt _ pl.isList c1 ⟨.bl _,H,I,rfl,?_⟩;rw[c2];exact q
 ·obtain⟨p,vs,rfl,np,hp,rp⟩:=jb.mp hl
  cases (show u=qM p from ry)
  obtain⟨jL,rv,pl,hz⟩:=I.tuple (ZU.of (K:=X.K) (e1 _ _ np hp));obtain⟨c1,c2⟩:=ZcE hu I e1 ok rd rx rp rv;refine SeqAt.in_tupleAt _ pl c1 ⟨.bl _,H,I,rfl,?_⟩;rw[c2];exact q
theorem Zjs (hu:X.A.units+64<cLine):Yd X (compareOp .NotIn) (rInD G true):=by
 intro jJ s σ H x y v u Q I rx ry h;obtain⟨Hf,d,ds,e1,ok,rd,hl,q⟩:=h;rcases hl with hl | hl
 ·obtain⟨p,vs,rfl,np,hp,rp⟩:=jc.mp hl
  cases (show u=qM p from ry)
  obtain⟨jL,rv,pl,hz⟩:=I.list (ZH.of (K:=X.K) (e1 _ _ np hp));obtain⟨c1,c2⟩:=ZcE hu I e1 ok rd rx rp rv;refine SeqAt.notIn_listAt _ pl.isList c1 ⟨.bl _,H,I,rfl,?_⟩;rw[c2];exact q
 ·obtain⟨p,vs,rfl,np,hp,rp⟩:=jb.mp hl
  cases (show u=qM p from ry)
  obtain⟨jL,rv,pl,hz⟩:=I.tuple (ZU.of (K:=X.K) (e1 _ _ np hp));obtain⟨c1,c2⟩:=ZcE hu I e1 ok rd rx rp rv;refine SeqAt.notIn_tupleAt _ pl c1 ⟨.bl _,H,I,rfl,?_⟩;rw[c2];exact q
end
theorem Zjt:typeLookup (.type "list") "keys" = pure none:=by rw[typeLookup_type,builtinLookup_eq_fast];kernel_rfl
theorem Zat:entryFor table "dict.update.loop" = some Builtin.«dict.update.loop»:=entryFor_of_tree (by kernel_rfl)
theorem Zaa:plainId "dict.update.loop" = true:=by decide +kernel
set_option maxHeartbeats 4000000 in
theorem Zbl {prog:Program}{w:World}{A:Around}{E:Value->Shared->Prop}{s:Shared}{a:Addr}{o:Obj}{xs:Array Value}{k:Nat}{Q:Option Value->Shared->Prop}
  (hx:s.heap.get? a=some o) (hc:o.cls=.type "list") (hdat:o.data=.seq xs k) (hd:o.dict=none) (hA:A.handled=none)
  (h:∀h' tk,(∀b o,s.heap.get? b=some o->h'.get? b=some o)->Q none { s with heap:=h',toks:=tk }) :
  wpAny (model prog w) A (getAttr? (.ref a) "keys") Q E s:=by
 have hmiss:=Zjt;have hname:(["__module__","__name__","__qualname__","__doc__","__annotations__"]:List Str).contains ("keys" : Str)=false:=by decide +kernel
 have hsz:("keys" : Str).length+100<=sizeLine:=by decide +kernel
 obtain⟨c,dct,dat,sl⟩:=o;simp only at hc hdat hd;subst hc hdat hd;obtain⟨hp,g,d,tk,os⟩:=s;have hT:∀tk',(⟨hp,g,d,tk',os⟩:Shared).TypeIs (.ref a) "list":=fun _=>⟨_,hx,rfl⟩;have f1:=sub_AttributeError;have f3:=qae.lookup;have f4:=qae.bind (.ref a);have f5:=am_list_getattr_none;unfold getAttr? getAttrBy?;refine wpAny_bind ?_;refine wpAny_mkText ?_;refine wpAny_bind (wpAny_attempt ?_);unfold getAttrBy
 repeat (any_goals (first | assumption | exact hT _ | ((with_reducible show wpAny _ _ (call (Value.builtin "list.__getattribute__") _ _) _ _ _);refine call_meets qae (hT _) am_entry_list_getattribute (F.args_list_getattribute_2 _ _) (meets_getattribute_miss_list a xs k sl "keys" _ hmiss hname hsz) ⟨hx,hA,fun h' tk' e hx'=>?_⟩) | wp_step))
 obtain⟨t',u',he⟩:=hx'.there;have hTe:∀tk',(⟨h',g,d,tk',os⟩:Shared).TypeIs (.ref e) "AttributeError":=fun _=>⟨_,he,rfl⟩;have fin:∀tk',wpAny (model prog w) A (do
   let b<-isInstance (.ref e) (.type "AttributeError")
   if b=true then pure none else throw (.ref e)) Q E ⟨h',g,d,tk',os⟩:=fun tk'=>by
  refine wpAny_bind (wpAny_isInstance (hTe _) f1 ?_);simp only[if_true];exact wpAny_pure (h h' tk' hx'.of.keeps)
 show wpAny _ _ (getattributeRaised _ _ _ _ _ _ _) _ _ _;unfold getattributeRaised
 repeat (any_goals (first | assumption | exact fin _ | wp_step))
section
variable {X:Cx}{jJ:List (Addr×Obj)}{σ:St}{H:Hp}{s:Shared}{A:Around}{E:Value->Shared->Prop}{a:Addr}{y v:V}{u r:Value}
theorem Zju {H':Hp}{Q:Unit->Shared->Prop}(hu:A.units<cLine)(I:Inv X jJ σ H s)(g:Ws H a y v H')(ry:ZC y u)(rv:ZC v r)(h:∀s',Inv X jJ σ H' s'->Q () s') :
  wpAny (model X.prog X.w) A (dictSet a u r) Q E s:=by
 rcases g with⟨kvs,k,e,ey,l,eH⟩ | ⟨kvs,k,b,e,ey,eb,l,eH⟩
 ·subst ey eH
  obtain⟨z,hd,vs,rel,dd⟩:=ZkT I.hok e;have hz:vs.length<=sizeLine:=by rw[<-rel.length];exact z
  have hl:(Yo kvs k v).length<=sizeLine:=by have:=UG kvs k v;omega
  refine wpAny_dictSet_pairs (hsz:=hz) (UZ ry) dd fun h' dd' hs=>h _ ?_;have he:∃q,h'.get? a=some q:=let ⟨q,_,_,hq,_⟩:=dd';⟨q,hq⟩;exact Bs I (by rw[e];exact z7) hs he (Zg7 hl hd (rel.put k rv) dd')
 ·subst ey eH
  cases (show u=qM b from ry)
  obtain⟨z,hd,xs,rel,dd⟩:=Zn4 I.hok e;have hz:xs.length<=sizeLine:=by rw[<-qaz rel];exact z
  have hl:(Yo kvs k v).length<=sizeLine:=by have:=UG kvs k v;omega
  refine wpAny_dictSet_heap (hsz:=hz) (knd:=tupleKind (X5 X.prog X.w)) hu (JE I.hok eb) dd fun h' dd' hs=>h _ ?_;obtain⟨q,es,ep,hq,h2,h3,h4,_,h5⟩:=dd';refine Bs I (by rw[e];exact z7) hs ⟨q,hq⟩ ⟨hl,hd,_,(rel.put k eb rv).keeps fun c ys ec=>?_,q,es,ep,hq,h2,h3,h4,h5⟩;rw[Zp (ZnU ec e (fun z=>nomatch z))];exact ec
end
section
variable {X:Cx}{jJ:List (Addr×Obj)}{σ:St}
inductive Puts (d:Addr):Hp->List V->Hp->Prop
 | nil {H:Hp}:Puts d H [] H
 | cons {H H1 H2:Hp} {b:Addr} {k v:V} {r:List V}:H b=some (.tup [k,v])->Ws H d k v H1->Puts d H1 r H2->Puts d H (.ref b::r) H2
theorem Zk7 {d l it:Addr}{vs:List V}{E:Value->Shared->Prop}{Q:Shared->Prop}{H':Hp}{A:Around}(hA:A.handled=none)(hu:A.units+1<cLine)
  (hQ:∀s',Inv X jJ σ H' s'->Q s') (hfp:∀Hx:Hp,Hx it=none->WK X jJ Hx it) :
  ∀(k i:Nat) (s:Shared) (H:Hp),vs.length-i=k->i<=vs.length->Inv X jJ σ H s->H it=none->s.heap.IsListIter it l i->H l=some (.lst vs)->l≠d->(∀Hx Hy y v,Ws Hx d y v Hy->Hx l=some (.lst vs)->Hy l=some (.lst vs))->Puts d H (vs.drop i) H'->
   codeAny (model X.prog X.w) A (.builtin "dict.update.loop" ⟨[.ref d,.ref it,rawInt i,.none],[]⟩) (wants (fun r s₂=>r=.none/\Q s₂) E) s:=by
 intro k
 induction k with
 | zero=>
  intro i s H hk hi I hit st hl hne hkeep hp;have hil:i=vs.length:=by omega
  obtain⟨jL,rv,pl,hz⟩:=I.list (ZH.of (K:=X.K) hl);refine codeAny_builtin Zat ?_;rw[zq Zaa _];show wpAny _ A.in1 (pyNext (.ref it) >>= _) _ _ s;obtain⟨f0,f1,f2,f3,f4,f5⟩:=hfp H hit;have jS:=rv.length;refine wpAny_bind (wpAny_pyNext_list_end (A:=A.in1) hA st pl.isList (by simp;omega) fun h' eb=>?_);have I2:Inv X jJ σ H { s with heap:=h' }:=I.turned (t':=s.toks) (fun b o hb e=>eb b o hb e) f0 f1 f3 f4 f5;have e0:vs.drop i=[]:=by rw[hil];simp
  rw[e0] at hp
  cases hp
  show wpAny _ _ (Builtin.Dict.addKeywords d [] >>= _) _ _ _;refine wpAny_bind (wpAny_pure ?_);exact wpAny_pure ⟨rfl,hQ _ I2⟩
 | succ k ih=>
  intro i s H hk hi I hit st hl hne hkeep hp;have hlt:i<vs.length:=by omega
  obtain⟨jL,rv,pl,hz⟩:=I.list (ZH.of (K:=X.K) hl);have jS:=rv.length;refine codeAny_builtin Zat ?_;rw[zq Zaa _];show wpAny _ A.in1 (pyNext (.ref it) >>= _) _ _ s;obtain⟨f0,f1,f2,f3,f4,f5⟩:=hfp H hit;have hd:vs.drop i=vs[i]::vs.drop (i+1):=y6 hlt;rw[hd] at hp;generalize hvi:vs[i]=x at hp;generalize hrest:vs.drop (i+1)=rest at hp
  cases hp with
  | @cons _ H1 _ b k0 v0 _ hb hput hrec=>
   have gx:vs[i]?=some (.ref b):=by rw[qm hlt,hvi]
   obtain⟨u,hu1,ru⟩:=rv.get gx
   cases (show u=qM b from ru)
   refine wpAny_bind (wpAny_pyNext_list_item (A:=A.in1) st pl.isList (x:=.ref b) (by simpa using hu1) fun h' st' sb=>?_);have I1:Inv X jJ σ H { s with heap:=h' }:=I.turned (t':=s.toks) (fun c o hc e=>(sb.2 c hc).trans e) f0 f1 f3 f4 f5;obtain⟨ke,rv2,pt,_⟩:=I1.tuple (ZU.of (K:=X.K) hb);obtain⟨ku,vu,e2,rk,rvv⟩:=rv2.two;subst e2;obtain⟨o,ho,hoc,n,hod⟩:=id pt;show wpAny _ _ (holding [qM b] _ >>= _) _ _ _;refine wpAny_bind (wpAny_holding ?_);refine wpAny_bind (wpAny_tryCatch ?_);unfold Builtin.Dict.pairItems;refine wpAny_bind (wpAny_typeOf (T:="tuple") ⟨o,ho,hoc⟩ ?_);rw[if_pos (by decide)];refine wpAny_bind (wpAny_seqItems ho hod ?_);refine wpAny_pure ?_;show wpAny _ _ (holding [ku,vu] (dictSet d ku vu)) _ _ _;refine wpAny_holding ?_;obtain⟨oi,hoi,ci,di⟩:=id st';have Ip:=I1.pinned (fp:=[it]) (fun c hc=>by
    have e:c=it:=by simpa using hc
    subst e;exact hfp H hit) (fun c hc=>by
    have e:c=it:=by simpa using hc
    subst e;exact⟨oi,hoi,fun w z=>by rw[di] at z;cases z⟩)
   refine Zju (by rw[Bk];exact hu) Ip hput rk rvv fun s2 I2=>?_;have pit:=I2.pin (it,oi) (qj _ (qj _ (Jo (by simp) hoi)));have ec:((i:Int)+1)=((i+1:Nat):Int):=by push_cast;rfl
   show wpAny _ _ (again (.builtin "dict.update.loop" ⟨[.ref d,.ref it,rawInt ((i:Int)+1),.none],[]⟩)) _ _ _;rw[ec];refine wpAny_pure ⟨plainId_quiet Zaa _,?_⟩;refine ih (i+1) s2 H1 (by omega) hlt I2.unpinned pit.2.1 ⟨oi,pit.1,ci,di⟩ (hkeep _ _ _ _ hput hl) hne hkeep ?_;rw[hrest];exact hrec
theorem Zc6 (hc:X.calm=true)(hu:X.A.units+64<cLine)(tk:Bool):XT X (.type "dict") (fun xs H Q=>∃l vs,xs=[.ref l]/\H l=some (.lst vs)/\∀p,H p=none->∃H',Puts p (Zm H p (if tk then .dT [] else .dK [])) vs H'/\Q (.ref p) H'):=by
 intro jJ s σ H xs us Q I r h;obtain⟨l,vs,rfl,hl,q⟩:=h;obtain⟨u,rfl,ru⟩:=XU r
 cases (show u=qM l from ru)
 obtain⟨H',puts,q'⟩:=q s.heap.objs.size (I.hok.fresh (qw _));have hA:=I.ok.hd hc;refine callType_codes (Q₁:=fun obj s₁=>obj=.ref s.heap.objs.size/\s₁ = { s with heap:=s.heap.push { cls:=.type "dict",data:=.dict #[] } }) F.kt_called_dict (F.kt_typeCall_dict_1 _) F.entry_dict_init (kt_code_dict_new _ ⟨rfl,rfl⟩) ?_;rintro obj s₁ ⟨rfl,rfl⟩;have hbig:=I.big;have I1:Inv X jJ σ (Zm H s.heap.objs.size (if tk then .dT [] else .dK [])) { s with heap:=s.heap.push { cls:=.type "dict",data:=.dict #[] } }:=
  I.laid (t':=s.toks) (fun b o e=>qq _ e) (qw _) (by
   cases tk
   ·exact ZcS s.heap hbig
   ·exact ZkU s.heap hbig)
 have hnew:(s.heap.push { cls:=.type "dict",data:=.dict #[] }).get? s.heap.objs.size=some { cls:=.type "dict",data:=.dict #[] }:=qI _ rfl;have hTd:({ s with heap:=s.heap.push { cls:=.type "dict",data:=.dict #[] } }:Shared).TypeIs (.ref s.heap.objs.size) "dict":=⟨_,hnew,rfl⟩;have hld:l≠s.heap.objs.size:=Z6 hl (I.hok.fresh (qw _));have hl1:(Zm H s.heap.objs.size (if tk then HO.dT [] else HO.dK [])) l=some (.lst vs):=by rw[Zp hld];exact hl
 obtain⟨zz,jL,n,rits,hlo⟩:=(show YC X.prog X.w _ _ l (.lst vs) from I1.hok l _ hl1);refine⟨hTd,F.args_dict_init_2 _ _,?_⟩;unfold Builtin.«dict.__init__»;refine wpAny_bind ?_;unfold Builtin.Dict.selfAndRest;refine wpAny_bind (wpAny_notOrdered_dict hTd ?_);show wpAny _ _ (pure (s.heap.objs.size,[qM l])) _ _ _;refine wpAny_pure ?_;show wpAny _ _ (qbj "dict.__init__" s.heap.objs.size (.ref l) [] .none) _ _ _;unfold qbj;have hTl:({ s with heap:=s.heap.push { cls:=.type "dict",data:=.dict #[] } }:Shared).TypeIs (.ref l) "list":=⟨_,hlo,rfl⟩;refine wpAny_bind (wpAny_typeOf hTl ?_);rw[if_pos (by decide)];refine wpAny_bind (Zbl hlo rfl rfl rfl hA fun h2 tk2 kp2=>?_);simp only[Option.isNone_none,if_true];refine wpAny_bind (wpAny_rule ?_);have I2:Inv X jJ σ (Zm H s.heap.objs.size (if tk then .dT [] else .dK [])) { s with heap:=h2,toks:=tk2 }:=I1.kept kp2;obtain⟨its',rv',pl',hz'⟩:=I2.list (ZH.of (K:=X.K) hl1);refine wpAny_bind (wpAny_pyIter_list pl'.isList ?_);refine wpAny_pure ⟨plainId_quiet Zaa _,?_⟩;have I3:Inv X jJ σ (Zm H s.heap.objs.size (if tk then .dT [] else .dK [])) { s with heap:=h2.push { cls:=.type "list_iterator",data:=.fields #[.ref l,.int 0 0] },toks:=tk2 }:=I2.kept (t':=tk2) fun b o e=>qq _ e;have hfresh:(Zm H s.heap.objs.size (if tk then HO.dT [] else HO.dK [])) h2.objs.size=none:=I2.hok.fresh (qw _);have hst:(h2.push { cls:=.type "list_iterator",data:=.fields #[.ref l,.int 0 0] }).IsListIter h2.objs.size l 0:=⟨_,qI _ rfl,rfl,rfl⟩;refine Zk7 (l:=l) (vs:=vs) (H':=H') (A:=X.A.in1) (jJ:=jJ) (σ:=σ) hA (by rw[Bk];omega) (fun s' I'=>⟨.ref s.heap.objs.size,H',I',rfl,q'⟩) (fun Hx hn=>I2.fpOk (qw _) hn) vs.length 0 _ _ rfl (zk _) I3 hfresh hst hl1 hld ?_ puts;intro Hx Hy y v hput hxl;rcases hput with⟨kvs,k,e,ey,l',eH⟩ | ⟨kvs,k,b,e,ey,eb,l',eH⟩
 ·subst eH;rw[Zp hld];exact hxl
 ·subst eH;rw[Zp hld];exact hxl
end
section
variable {X:Cx}{G:Gh}
noncomputable def Xw:D->Option Zt
 | .int i=>some (.inl i)
 | .str x=>some (.inr x)
 | _=>none
noncomputable def Xq:List D->Option (List Zt)
 | []=>some []
 | d::ds=>match Xw d,Xq ds with | some k,some ks=>some (k::ks) | _,_=>none
noncomputable def WH:D->Option V
 | .int i=>some (.int i)
 | .bl b=>some (.bl b)
 | .str x=>some (.str x)
 | .non=>some .non
 | _=>none
theorem Jr {H:Hp}{d:D}{v:V}{k:Zt}(h:Xw d=some k)(r:Zk G H d v):v=kV k:=by
 cases d with
 | int i=>cases h;rw[ja.mp r];rfl
 | str i=>cases h;rw[jh.mp r];rfl
 | _=>cases h
theorem Jp {H:Hp}:∀{ds:List D} {vs:List V} {ks:List Zt},Xq ds=some ks->Zi G H ds vs->vs=ks.map kV
 | [],vs,ks,h,r=>by cases h;exact Zi.nil_iff.mp r
 | d::ds,vs,ks,h,r=>by
  obtain⟨v,rr,rfl,r1,r2⟩:=jd.mp r;unfold Xq at h
  cases e1:Xw d with
  | none=>rw[e1] at h;cases h
  | some k=>
   cases e2:Xq ds with
   | none=>rw[e1,e2] at h;cases h
   | some ks'=>
    rw[e1,e2] at h
    cases h
    rw[Jr e1 r1,Jp e2 r2];rfl
theorem ZbU {H:Hp}{d:D}{v w:V}(h:WH d=some w)(r:Zk G H d v):v=w:=by
 cases d with
 | int i=>cases h;exact ja.mp r
 | str i=>cases h;exact jh.mp r
 | bl i=>cases h;exact je.mp r
 | non=>cases h;exact jg.mp r
 | _=>cases h
noncomputable def Zis:D->Option (List Zt×V)
 | .tup [.tup ks,v]=>match Xq ks,WH v with | some k,some w=>some (k,w) | _,_=>none
 | _=>none
noncomputable def Zk8:D->Option (Zt×V)
 | .tup [k,v]=>match Xw k,WH v with | some k,some w=>some (k,w) | _,_=>none
 | _=>none
noncomputable def Vj:List (List Zt×V)->List D->Option (List (List Zt×V))
 | jR,[]=>some jR
 | jR,d::ds=>match Zis d with | some (k,v)=>Vj (Yo jR k v) ds | none=>none
noncomputable def W0:List (Zt×V)->List D->Option (List (Zt×V))
 | jR,[]=>some jR
 | jR,d::ds=>match Zk8 d with | some (k,v)=>W0 (Yo jR k v) ds | none=>none
theorem Zhg {d:D}{k:List Zt}{v:V}(h:Zis d=some (k,v)):∃ks w,d=.tup [.tup ks,w]/\Xq ks=some k/\WH w=some v:=by
 match d,h with
 | .tup [.tup ks,w],h=>
  have h':(match Xq ks,WH w with | some k,some w=>some (k,w) | _,_=>none)=some (k,v):=h
  cases e1:Xq ks with
  | none=>rw[e1] at h';cases h'
  | some k'=>
   cases e2:WH w with
   | none=>rw[e1,e2] at h';cases h'
   | some w'=>rw[e1,e2] at h';cases h';exact⟨ks,w,rfl,e1,e2⟩
theorem Zhh {d:D}{k:Zt}{v:V}(h:Zk8 d=some (k,v)):∃ks w,d=.tup [ks,w]/\Xw ks=some k/\WH w=some v:=by
 match d,h with
 | .tup [ks,w],h=>
  have h':(match Xw ks,WH w with | some k,some w=>some (k,w) | _,_=>none)=some (k,v):=h
  cases e1:Xw ks with
  | none=>rw[e1] at h';cases h'
  | some k'=>
   cases e2:WH w with
   | none=>rw[e1,e2] at h';cases h'
   | some w'=>rw[e1,e2] at h';cases h';exact⟨ks,w,rfl,e1,e2⟩
theorem Zk9 {Hf H:Hp}{p:Addr}(e1:Zz G Hf H)(hp:H p=none):∀{ds:List D} {vs:List V} {jR res:List (List Zt×V)},Zi G Hf ds vs->Vj jR ds=some res->jR.length+ds.length<=sizeLine->Puts p (Zm H p (.dT jR)) vs (Zm H p (.dT res))
 | [],vs,jR,res,r,h,_=>by
  rw[Zi.nil_iff.mp r]
  cases h
  exact .nil
 | d::ds,vs,jR,res,r,h,hl=>by
  obtain⟨v,rr,rfl,r1,r2⟩:=jd.mp r;unfold Vj at h
  cases e:Zis d with
  | none=>rw[e] at h;cases h
  | some kv=>
   obtain⟨k,w⟩:=kv;rw[e] at h;have h:Vj (Yo jR k w) ds=some res:=h;obtain⟨ks,wd,rfl,q1,q2⟩:=Zhg e;obtain⟨b,ws,rfl,nb,hb,rb⟩:=jb.mp r1;obtain⟨v1,v2,rfl,rk,rv⟩:=jq rb;obtain⟨c,cs,rfl,nc,hcx,rc⟩:=jb.mp rk;have ec:=Jp q1 rc;subst ec;have ev:=ZbU q2 rv;subst ev;have hb':=e1 _ _ nb hb;have hc':=e1 _ _ nc hcx;have ll:=UG jR k v2;have hl':jR.length+(ds.length+1)<=sizeLine:=by simpa using hl
   refine .cons (by rw[Zp (Z6 hb' hp)];exact hb') (Ws.t (k:=k) ZO (by rw[Zp (Z6 hc' hp)];exact hc') (by omega)) ?_;rw[ZeD];exact Zk9 e1 hp r2 h (by omega)
theorem Zla {Hf H:Hp}{p:Addr}(e1:Zz G Hf H)(hp:H p=none):∀{ds:List D} {vs:List V} {jR res:List (Zt×V)},Zi G Hf ds vs->W0 jR ds=some res->jR.length+ds.length<=sizeLine->Puts p (Zm H p (.dK jR)) vs (Zm H p (.dK res))
 | [],vs,jR,res,r,h,_=>by
  rw[Zi.nil_iff.mp r]
  cases h
  exact .nil
 | d::ds,vs,jR,res,r,h,hl=>by
  obtain⟨v,rr,rfl,r1,r2⟩:=jd.mp r;unfold W0 at h
  cases e:Zk8 d with
  | none=>rw[e] at h;cases h
  | some kv=>
   obtain⟨k,w⟩:=kv;rw[e] at h;have h:W0 (Yo jR k w) ds=some res:=h;obtain⟨ks,wd,rfl,q1,q2⟩:=Zhh e;obtain⟨b,ws,rfl,nb,hb,rb⟩:=jb.mp r1;obtain⟨v1,v2,rfl,rk,rv⟩:=jq rb;have ek:=Jr q1 rk;subst ek;have ev:=ZbU q2 rv;subst ev;have hb':=e1 _ _ nb hb;have ll:=UG jR k v2;have hl':jR.length+(ds.length+1)<=sizeLine:=by simpa using hl
   refine .cons (by rw[Zp (Z6 hb' hp)];exact hb') (Ws.k (k:=k) ZO (by omega)) ?_;rw[ZeD];exact Zla e1 hp r2 h (by omega)
noncomputable def Zlb:List D->Option D
 | [.lst ds]=>if ds.length<=sizeLine then (Vj [] ds).map .dt else none
 | _=>none
noncomputable def ZeR:List D->Option D
 | [.lst ds]=>if ds.length<=sizeLine then (W0 [] ds).map .dk else none
 | _=>none
theorem Zhi (hc:X.calm=true)(hu:X.A.units+64<cLine):XT X (.type "dict") (fun xs H Q=>∃l vs,xs=[.ref l]/\H l=some (.lst vs)/\∀p,H p=none->∃kvs,Puts p (Zm H p (.dT [])) vs (Zm H p (.dT kvs))/\∀o,Q (.ref p) (Zm H p (.frz o (.dT kvs)))):=by
 intro jJ s σ H xs us Q I r h;obtain⟨l,vs,ex,hl,hp⟩:=h;refine ZE (Zc6 hc hu true jJ s σ H xs us (fun v H'=>∃p kvs,v=.ref p/\H'=Zm H p (.dT kvs)/\∀o,Q (.ref p) (Zm H p (.frz o (.dT kvs)))) I r ⟨l,vs,ex,hl,fun p hn=>?_⟩) fun u s1 ⟨v,H1,I1,r1,p,kvs,ev,eH,q⟩=>?_
 ·obtain⟨kvs,pu,q⟩:=hp p hn
  exact⟨_,pu,p,kvs,rfl,rfl,q⟩
 ·subst ev eH
  have ok:=I1.hok p (.dT kvs) ZO;obtain⟨_,_,xs',_,o,es,ep,h1,_⟩:=(show YC X.prog X.w _ s1.heap p (.dT kvs) from ok);have I2:=I1.write (x:=p) (e:=p) (o:=.frz o (.dT kvs)) (h':=s1.heap) (t':=s1.toks) (by rw[ZO];trivial) (.inl rfl) (fun _ _ _ e=>e) ⟨o,h1⟩ ⟨h1,ok.stay (fun _ _ _ e=>e) (fun b e=>?_) fun b xs e=>?_⟩
  ·rw[ZeD] at I2
   exact⟨.ref p,_,I2,r1,q o⟩
  ·have:b≠p:=fun z=>by rw[z,ZO] at e;cases e
   rw[Zp this];exact e
  ·have:b≠p:=fun z=>by rw[z,ZO] at e;cases e
   rw[Zp this];exact e
theorem Zhj (hc:X.calm=true)(hu:X.A.units+64<cLine):Wi X G (.type "dict") Zlb:=
 ⟨_,Zhi hc hu,fun Hf H s xs ds c Q e1 st r q k=>by
  match ds,q,r with
  | [.lst es],q,r=>
   have q:(if es.length<=sizeLine then (Vj [] es).map D.dt else none)=some c:=q;split at q
   ·rename_i hz
    cases e:Vj [] es with
    | none=>rw[e] at q;cases q
    | some res=>
     rw[e] at q
     cases q
     obtain⟨v,rfl,rv⟩:=ji r;obtain⟨l,vs,rfl,nl,hl,rl⟩:=jc.mp rv;refine⟨l,vs,rfl,e1 _ _ nl hl,fun p hp=>⟨_,Zk9 e1 hp rl e (by simpa using hz),fun o=>?_⟩⟩;have nf:=Gh.nofp st hp;have g2:=Gr.new (o:=.frz o (.dT res)) e1 hp nf;exact k (.ref p) _ _ g2 (Gh.grow st hp) (jl.mpr ⟨p,o,rfl,nf,ZO⟩) fun a ea _=>by cases ea;exact⟨hp,fun ds ed=>by cases ed⟩
   ·cases q⟩
theorem Zhk (hc:X.calm=true)(hu:X.A.units+64<cLine):Wi X G (.type "dict") ZeR:=
 ⟨_,Zc6 hc hu false,fun Hf H s xs ds c Q e1 st r q k=>by
  match ds,q,r with
  | [.lst es],q,r=>
   have q:(if es.length<=sizeLine then (W0 [] es).map D.dk else none)=some c:=q;split at q
   ·rename_i hz
    cases e:W0 [] es with
    | none=>rw[e] at q;cases q
    | some res=>
     rw[e] at q
     cases q
     obtain⟨v,rfl,rv⟩:=ji r;obtain⟨l,vs,rfl,nl,hl,rl⟩:=jc.mp rv;refine⟨l,vs,rfl,e1 _ _ nl hl,fun p hp=>⟨_,Zla e1 hp rl e (by simpa using hz),?_⟩⟩;have nf:=Gh.nofp st hp;have g2:=Gr.new (o:=.dK res) e1 hp nf;exact k (.ref p) _ _ g2 (Gh.grow st hp) (jk.mpr ⟨p,rfl,nf,ZO⟩) fun a ea _=>by cases ea;exact⟨hp,fun ds ed=>by cases ed⟩
   ·cases q⟩
theorem Zo4 (hu:X.A.units+1<cLine):Yd X (compareOp .In) (fun x y H Q=>∃a o,y=.ref a/\Xk H a x o/\Q (.bl o.isSome) H):=by
 intro jJ s σ H x y v u Q I rx ry h;obtain⟨a,o,rfl,g,q⟩:=h
 cases (show u=qM a from ry)
 exact d_in hu I g rx fun s' I'=>⟨.bl _,H,I',rfl,q⟩
theorem Zjv (hu:X.A.units+1<cLine):Yd X (compareOp .NotIn) (fun x y H Q=>∃a o,y=.ref a/\Xk H a x o/\Q (.bl (!o.isSome)) H):=by
 intro jJ s σ H x y v u Q I rx ry h;obtain⟨a,o,rfl,g,q⟩:=h
 cases (show u=qM a from ry)
 exact ZmV hu I g rx fun s' I'=>⟨.bl _,H,I',rfl,q⟩
noncomputable def Uw:D->D->Option Bool
 | x,.lst ds=>if Vr x ds=true then some (Vv x ds) else none
 | x,.tup ds=>if Vr x ds=true then some (Vv x ds) else none
 | .tup ks,.dt kvs=>(Xq ks).map fun k=>(ZZ kvs k).isSome
 | .tup ks,.du kvs=>(Xq ks).map fun k=>(ZZ kvs k).isSome
 | x,.dk kvs=>(Xw x).map fun k=>(ZZ kvs k).isSome
 | _,_=>none
noncomputable def Xn (x y:D):Option D:=(Uw x y).map .bl
noncomputable def WE (x y:D):Option D:=(Uw x y).map fun b=>.bl (!b)
theorem Zed {Hf H:Hp}{x y:V}{d e:D}{b:Bool}(e1:Zz G Hf H)(rx:Zk G Hf d x)(ry:Zk G Hf e y)(h:Uw d e=some b) :
  (∃ds,Vr d ds=true/\(Zk G Hf (.lst ds) y∨Zk G Hf (.tup ds) y)/\b=Vv d ds)∨∃a o,y=.ref a/\Xk H a x o/\b=o.isSome:=by
 cases e with
 | lst ds=>
  have h:(if Vr d ds=true then some (Vv d ds) else none)=some b:=by cases d <;> exact h
  split at h
  ·rename_i ok;cases h;exact .inl ⟨ds,ok,.inl ry,rfl⟩
  ·cases h
 | tup ds=>
  have h:(if Vr d ds=true then some (Vv d ds) else none)=some b:=by cases d <;> exact h
  split at h
  ·rename_i ok;cases h;exact .inl ⟨ds,ok,.inr ry,rfl⟩
  ·cases h
 | dt kvs=>
  obtain⟨a,o,rfl,na,ha⟩:=jl.mp ry
  cases d with
  | tup ks=>
   have h:(Xq ks).map (fun k=>(ZZ kvs k).isSome)=some b:=h
   cases q:Xq ks with
   | none=>rw[q] at h;cases h
   | some k=>
    rw[q] at h;cases h;obtain⟨c,cs,rfl,nc,hcx,rc⟩:=jb.mp rx;have ec:=Jp q rc;subst ec;exact .inr ⟨a,_,rfl,.inr ⟨kvs,k,c,.inr ⟨o,e1 _ _ na ha⟩,rfl,e1 _ _ nc hcx,rfl⟩,rfl⟩
  | _=>cases h
 | du kvs=>
  obtain⟨a,rfl,na,ha⟩:=jm.mp ry
  cases d with
  | tup ks=>
   have h:(Xq ks).map (fun k=>(ZZ kvs k).isSome)=some b:=h
   cases q:Xq ks with
   | none=>rw[q] at h;cases h
   | some k=>
    rw[q] at h;cases h;obtain⟨c,cs,rfl,nc,hcx,rc⟩:=jb.mp rx;have ec:=Jp q rc;subst ec;exact .inr ⟨a,_,rfl,Xk.t (e1 _ _ na ha) (e1 _ _ nc hcx),rfl⟩
  | _=>cases h
 | dk kvs=>
  obtain⟨a,rfl,na,ha⟩:=jk.mp ry;have h:(Xw d).map (fun k=>(ZZ kvs k).isSome)=some b:=by cases d <;> exact h
  cases q:Xw d with
  | none=>rw[q] at h;cases h
  | some k=>
   rw[q] at h;cases h;have ek:=Jr q rx;subst ek;exact .inr ⟨a,_,rfl,Xk.k (e1 _ _ na ha),rfl⟩
 | _=>cases d <;> cases h
theorem ZeS (hu:X.A.units+64<cLine):Xf X G (compareOp .In) Xn:=
 ⟨_,(Zo3 (G:=G) hu).or (Zo4 (by omega)),fun Hf H s x y d e c Q e1 st rx ry q k=>by
  unfold Xn at q
  cases h:Uw d e with
  | none=>rw[h] at q;cases q
  | some b=>
   rw[h] at q;cases q;have kk:=k (.bl b) Hf H (.refl e1) st (je.mpr rfl) (.scal fun z=>z);rcases Zed e1 rx ry h with⟨ds,ok,hl,rfl⟩ | ⟨a,o,ey,g,rfl⟩
   ·exact .inl ⟨Hf,d,ds,e1,ok,rx,hl,kk⟩
   ·exact .inr ⟨a,o,ey,g,kk⟩⟩
theorem ZbV (hu:X.A.units+64<cLine):Xf X G (compareOp .NotIn) WE:=
 ⟨_,(Zjs (G:=G) hu).or (Zjv (by omega)),fun Hf H s x y d e c Q e1 st rx ry q k=>by
  unfold WE at q
  cases h:Uw d e with
  | none=>rw[h] at q;cases q
  | some b=>
   rw[h] at q;cases q;have kk:=k (.bl (!b)) Hf H (.refl e1) st (je.mpr rfl) (.scal fun z=>z);rcases Zed e1 rx ry h with⟨ds,ok,hl,rfl⟩ | ⟨a,o,ey,g,rfl⟩
   ·exact .inl ⟨Hf,d,ds,e1,ok,rx,hl,kk⟩
   ·exact .inr ⟨a,o,ey,g,kk⟩⟩
end
section
variable {X:Cx}{G:Gh}{own ob:List Nat}{fr:Bool}{f:Zb->M D}
noncomputable def Zit (ta:TA):TE:=fun σ H Q=>ta σ H fun vs H1=>∃j:Int,vs=[.int j]/\∀p,H1 p=none->Q (.ref p) (Zm H1 p (.rng 0 j))
theorem ZbW {a:Expr}{ta:TA}{p pos:Pos}(hg:Gl X "range")(hm:X.mg "range" = none)(ha:PA X [a] ta)(hs:starEach [a] X.env=[(false,eval a X.env)]:=by rfl):PE X (.Call (.Name "range" p) [a] [] pos) (Zit ta):=by
 intro jJ s σ H Q I h;refine Call_ (V5 I hg hm boot_range (yq (ZE (ha pos jJ s σ H _ I h) fun us s1 ⟨vs,H1,I1,r1,q1⟩=>?_) hs rfl));obtain⟨j,e,q⟩:=q1;subst e
 cases r1 with
 | cons r rr=>
  cases rr
  obtain⟨t,rfl⟩:=r;refine call_range_1 ⟨.ref s1.heap.objs.size,Zm H1 s1.heap.objs.size (.rng 0 j),I1.laid (t':=s1.toks+1+1) (fun b o e=>qq _ e) (qw _) ?_,rfl,q _ (I1.hok.fresh (qw _))⟩;exact⟨_,_,_,qI _ rfl⟩
theorem Zbm:∀(ys:List Value) (lo:Int),(∀(j:Nat) v,ys[j]?=some v->∃t,v=.int (lo+j) t)->Zw ((qp ys.length).map fun(i:Nat)=>V.int (lo+i)) ys
 | [],lo,_=>.nil
 | y::ys,lo,h=>by
  obtain⟨t,e⟩:=h 0 y rfl;rw[qR,yN,zb,qG];refine .cons ⟨t,by rw[e]⟩ ?_;have q:=Zbm ys (lo+1) fun j v hv=>by
   obtain⟨t,e⟩:=h (j+1) v (by simpa using hv);exact⟨t,by rw[e];congr 1;push_cast;omega⟩
  have ee:((fun(i:Nat)=>V.int (lo+i))∘Nat.succ)=fun(i:Nat)=>V.int (lo+1+i):=by
   funext i;show V.int (lo+(Nat.succ i:Nat))=V.int (lo+1+i);congr 1;push_cast;omega
  rw[ee];exact q
theorem Zbs (hc:X.calm=true):XT X (.type "list") (fun xs H Q=>∃r j,xs=[.ref r]/\H r=some (.rng 0 j)/\-(2 ^ 62)<=j/\j<=2 ^ 24/\∀l,H l=none->Q (.ref l) (Zm H l (.lst ((qp j.toNat).map fun(i:Nat)=>V.int (0+i))))):=by
 intro jJ s σ H xs us Q I r h;obtain⟨rr,j,rfl,hr,h1,h2,q⟩:=h;obtain⟨u,rfl,ru⟩:=XU r
 cases (show u=qM rr from ru)
 obtain⟨t,u',v',hro⟩:=(show YC X.prog X.w H s.heap rr (.rng 0 j) from I.hok rr _ hr);have hn:yI 0 j 1=((j.toNat:Nat):Int):=by rw[rangeSize_one];split <;> omega
 refine call_list_range (I.ok.hd hc) (show IsRange s.heap rr 0 j 1 t u' v' from hro) (small_one (by omega) (by omega) h1 (by omega)) hn (by omega) fun h' tk acc' c' hk hS hacc=>?_;obtain⟨sz,hit⟩:=hacc;have rv:=Zbm acc'.toList 0 fun i v hv=>by
  obtain⟨t,e⟩:=hit i v (by simpa using hv);exact⟨t,by rw[e];simp⟩
 have el:acc'.toList.length=j.toNat:=by simpa using sz
 rw[el] at rv;refine⟨.ref s.heap.objs.size,Zm H s.heap.objs.size (.lst ((qp j.toNat).map fun(i:Nat)=>V.int (0+i))),I.laid hk (qw _) ?_,rfl,q _ (I.hok.fresh (qw _))⟩;refine⟨?_,acc'.toList,c',rv,?_⟩
 ·rw[qd,qJ]
  show j.toNat<=2 ^ 24;omega
 ·rw[Array.toArray_toList]
  exact hS
noncomputable def VU (f:Zb->M D):Zb->M D:=fun ρ=>Zn (f ρ) fun d=>match d with | .int j=>if -(2 ^ 62)<=j/\j<=2 ^ 24 then ZB (.lst (Ye 0 j.toNat)) else ZG | _=>ZG
theorem Zc7 {Hf:Hp}(lo:Int):∀(l:List Nat),Zi G Hf (l.map fun(i:Nat)=>D.int (lo+i)) (l.map fun(i:Nat)=>V.int (lo+i))
 | []=>Zi.nil_iff.mpr rfl
 | i::l=>Zi.cons (ja.mpr rfl) (Zc7 lo l)
theorem ZaK {a:Expr}{p1 p2 pos1 pos:Pos}{r1:Bool}(hc:X.calm=true)(hg:Gl X "range")(hm:X.mg "range" = none)(hg2:Gl X "list")(hm2:X.mg "list" = none)(hv2:bootBuiltins "list" = some (.type "list"))(ha:PD X G r1 a f)
  (hs:starEach [a] X.env=[(false,eval a X.env)]:=by rfl)
  (he:starEach [.Call (.Name "range" p1) [a] [] pos1] X.env=(false,eval (.Call (.Name "range" p1) [a] [] pos1) X.env)::starEach [] X.env:=by rfl):PD X G true (.Call (.Name "list" p2) [.Call (.Name "range" p1) [a] [] pos1] [] pos) (VU f):=by
 obtain⟨t,pa,qa⟩:=ha.drop;refine⟨_,ZbR (Zbs hc) hg2 hm2 hv2 (YS (ZbW hg hm (YS pa Y8 (by rw[hs];rfl)) hs) Y8 he) (by decide) (by decide) he rfl,fun σ Hf H ρ s d s' Q e1 e2 e3 e4 k=>?_⟩;obtain⟨dj,s1,a1,a2⟩:=Zy e4
 cases dj with
 | int j=>
  obtain⟨c,a3⟩:=Y7 a2;obtain⟨rfl,rfl⟩:=ZL a3;refine qa σ Hf H ρ s _ _ _ e1 e2 e3 a1 fun v jT H1 g st r=>?_;rw[ja.mp r];refine⟨j,rfl,fun p hp=>⟨p,j,rfl,ZO,c.1,c.2,fun l hl=>?_⟩⟩;have hlp:l≠p:=fun z=>by rw[z,ZO] at hl;cases hl
  have hl1:H1 l=none:=by rw[Zp hlp] at hl;exact hl
  have jX:G.st s' (Zm H1 p (.rng 0 j)):=Gh.grow st hp;have nf:=Gh.nofp jX hl;have fp:jT p=none:=by
   cases q:jT p with
   | none=>rfl
   | some o=>rw[g.fh p o (Gh.nofp st hp) q] at hp;cases hp
  have gA:Gr G jT H1 jT (Zm H1 p (.rng 0 j)):=⟨fun b o n q=>by rw[Zp (Z6 q hp)];exact q,.refl _ _,fun b o n q=>by rw[Zp (Z6 q fp)];exact g.fh b o n q,fun b n h1 h2=>h1⟩;have gB:=Gr.new (o:=.lst ((qp j.toNat).map fun(i:Nat)=>V.int (0+i))) gA.fh hl nf;have rr:Zi G jT (Ye 0 j.toNat) ((qp j.toNat).map fun(i:Nat)=>V.int (0+i)):=Zc7 0 _;refine k (.ref l) _ _ ((g.trans gA).trans gB) (Gh.grow jX hl) (jc.mpr ⟨l,_,rfl,nf,ZO,rr.ext gB.ff⟩) fun _=>?_;exact jo (g.trans gA).hh (fun a ea _=>by cases ea;exact nf) (YB.mk gA.fh hl nf rr)
 | _=>cases a2
end
structure BlkS (X:Cx)(XN:List Str)(NS:List (Str×NameKind))(N':List Str)(src:List (Option Nat))(scope:Scope):Prop where
 xn:X.N=XN
 ns:X.env.scope.names=NS
 nocell:∀y∈scope.names,y.2≠.cell
 kind:scope.kind=.function
 names:∀y∈scope.names,y.2=.local->scope.names.lookup y.1=some .local
 len:src.length=N'.length
 free:∀y∈scope.names,y.2=.free->NS.lookup y.1=some .cell∨NS.lookup y.1=some .free
 from_:(src.zip N').all (fun p=>match p.1 with | some j=>decide (XN[j]?=some p.2)&&(decide (NS.lookup p.2=some .cell)||decide (NS.lookup p.2=some .free))&&decide (scope.names.lookup p.2=some .free) | none=>true)=true
theorem Zak {env:Env}:∀{names:List (Str×NameKind)} {x:Str},names.lookup x=some .free->
  (names.map fun(n,k)=>if (k==zJ&&env.scope.kind == .function&&env.kindOf n==some .cell) then (n,yU) else (n,k)).lookup x=some .cell∨
  (names.map fun(n,k)=>if (k==zJ&&env.scope.kind == .function&&env.kindOf n==some .cell) then (n,yU) else (n,k)).lookup x=some .free
 | [],_,h=>by simp at h
 | (n,k)::r,x,h=>by
  have ih:=@Zak env r x;show qbY x ((if (k==zJ&&env.scope.kind == .function&&env.kindOf n==some .cell)=true then (n,yU) else (n,k))::_)=_∨qbY x ((if (k==zJ&&env.scope.kind == .function&&env.kindOf n==some .cell)=true then (n,yU) else (n,k))::_)=_
  cases hx:x==n with
  | true=>
   simp only[zc,hx] at h
   cases h
   by_cases hc:(zJ==zJ&&env.scope.kind == .function&&env.kindOf n==some .cell)=true
   ·rw[if_pos hc];left;simp[zc,hx]
   ·rw[if_neg hc];right;simp[zc,hx]
  | false=>
   simp only[zc,hx] at h;by_cases hc:(k==zJ&&env.scope.kind == .function&&env.kindOf n==some .cell)=true
   ·rw[if_pos hc];simp only[zc,hx];exact ih h
   ·rw[if_neg hc];simp only[zc,hx];exact ih h
theorem Zab {env:Env}:∀{names:List (Str×NameKind)} {x:Str} {k':NameKind},(∀y∈names,y.2≠.cell)->(k'=.cell∨k'=.free)->
  (names.map fun(n,k)=>if (k==zJ&&env.scope.kind == .function&&env.kindOf n==some .cell) then (n,yU) else (n,k)).lookup x=some k'->names.lookup x=some .free
 | [],_,_,_,_,h=>by simp at h
 | (n,k)::r,x,k',nc,hk,h=>by
  have ih:=@Zab env r x k' (fun y hy=>nc y (qK _ hy)) hk;have h:qbY x ((if (k==zJ&&env.scope.kind == .function&&env.kindOf n==some .cell)=true then (n,yU) else (n,k))::_)=_:=h
  cases hx:x==n with
  | true=>
   by_cases hc:(k==zJ&&env.scope.kind == .function&&env.kindOf n==some .cell)=true
   ·have:k=.free:=by
     simp only[qX,beq_iff_eq] at hc;exact hc.1.1
    subst this;simp[zc,hx]
   ·rw[if_neg hc] at h
    simp only[zc,hx] at h⊢
    cases h
    rcases hk with rfl | rfl
    ·exact absurd rfl (nc _ zC)
    ·rfl
  | false=>
   by_cases hc:(k==zJ&&env.scope.kind == .function&&env.kindOf n==some .cell)=true
   ·rw[if_pos hc] at h;simp only[zc,hx] at h⊢;exact ih h
   ·rw[if_neg hc] at h;simp only[zc,hx] at h⊢;exact ih h
theorem Zao {env:Env}:∀(names:List (Str×NameKind)) (jR:List (Str×Addr)),(∀y∈names,y.2=.free->∃c,env.cells.lookup y.1=some c)->
  (∀x c,jR.lookup x=some c->env.cells.lookup x=some c)->
  ∃cl,(forIn names jR fun(p:Str×NameKind) (cs:List (Str×Addr))=>(if (p.2==zJ)=true then do let a<-cellOf env p.1;pure (yM ((p.1,a)::cs)) else pure (yM cs):Sem (ForInStep (List (Str×Addr)))))=pure cl/\
   (∀x c,cl.lookup x=some c->env.cells.lookup x=some c)/\(∀x c,jR.lookup x=some c->∃c',cl.lookup x=some c')/\∀y∈names,y.2=.free->∃c,cl.lookup y.1=some c
 | [],jR,_,h2=>⟨jR,by simp,h2,fun x c h=>⟨c,h⟩,fun y hy=>by simp at hy⟩
 | (n,k)::r,jR,h1,h2=>by
  by_cases hk:k=.free
  ·subst hk
   obtain⟨c,hc⟩:=h1 (n,.free) zC rfl;have hcell:cellOf env n=pure c:=by unfold cellOf;rw[hc]
   obtain⟨cl,q1,q2,q3,q4⟩:=Zao (env:=env) r ((n,c)::jR) (fun y hy=>h1 y (qK _ hy)) fun x c' h=>by
    cases hx:x==n with
    | true=>
     simp only[zc,hx] at h
     cases h
     have:x=n:=by simpa using hx
     rw[this];exact hc
    | false=>simp only[zc,hx] at h;exact h2 x c' h
   refine⟨cl,?_,q2,fun x c' h=>?_,fun y hy hf=>?_⟩
   ·rw[qbr]
    simp only[beq_self_eq_true,if_true,hcell,pure_bind];exact q1
   ·cases hx:x==n with
    | true=>exact q3 x c (by simp[zc,hx])
    | false=>exact q3 x c' (by simp only[zc,hx];exact h)
   ·rcases qu.mp hy with e | hy
    ·subst e;exact q3 n c (by simp[zc])
    ·exact q4 y hy hf
  ·obtain⟨cl,q1,q2,q3,q4⟩:=Zao (env:=env) r jR (fun y hy=>h1 y (qK _ hy)) h2
   refine⟨cl,?_,q2,q3,fun y hy hf=>?_⟩
   ·rw[qbr]
    have:(k==zJ)=false:=by simpa using hk
    simp only[this,yc,if_false,pure_bind];exact q1
   ·rcases qu.mp hy with e | hy
    ·subst e;exact absurd hf hk
    ·exact q4 y hy hf
theorem BlkS.ok {X:Cx}{XN:List Str}{NS:List (Str×NameKind)}{N':List Str}{src:List (Option Nat)}{scope:Scope}(B:BlkS X XN NS N' src scope)(ok:X.Ok):∃cl,BlkOk X N' src scope cl:=by
 have hcells:∀y∈scope.names,y.2=.free->∃c,X.env.cells.lookup y.1=some c:=fun y hy hf=>ok.has y.1 (by
  have:=B.free y hy hf;rw[<-B.ns] at this;exact this)
 obtain⟨cl,q1,q2,q3,q4⟩:=Zao (env:=X.env) scope.names [] hcells (fun x c h=>by simp at h);refine⟨cl,?_,B.nocell,B.kind,B.names,B.len,q2,fun x hx=>?_,fun i j x e1 e2=>?_⟩
 ·unfold closureFor
  show(forIn scope.names [] _ >>= _)=_;rw[show(forIn scope.names ([]:List (Str×Addr)) fun(x:Str×NameKind) (r:List (Str×Addr))=>_)=_ from q1];rfl
 ·have hf:scope.names.lookup x=some .free:=by
   rcases hx with h | h
   ·exact Zab B.nocell (.inl rfl) h
   ·exact Zab B.nocell (.inr rfl) h
  exact q4 (x,.free) (zy hf) rfl
 ·have hm:(some j,x)∈src.zip N':=by
   have:(src.zip N')[i]?=some (some j,x):=by
    rw[y8];exact⟨e1,e2⟩
   exact z5 this
  have q:=zd.mp B.from_ _ hm;simp only[qX,qbq,decide_eq_true_eq] at q;obtain⟨⟨p1,p2⟩,p3⟩:=q;refine⟨by rw[B.xn];exact p1,?_,Zak p3⟩;show X.env.scope.names.lookup x=_∨X.env.scope.names.lookup x=_;rw[B.ns];exact p2
section
variable {X:Cx}{G:Gh}{elt tg iter:Expr}{ifs:List Expr}{scope:Scope}{pos pos' spos:Pos}{XN:List Str}{NS:List (Str×NameKind)}{N':List Str}{src:List (Option Nat)}{fi:Zb->M (List D)}{τ:D->Zb->Option Zb}{ft:Zb->M Bool}{fe:Zb->M D}{r1:Bool}{i:Nat}{x:Str}
theorem Zlc (hc:X.calm=true)(B:BlkS X XN NS N' src scope)(hi:Vb X G tg iter fi)
  (hg:∀cl jJ C s H fp,Va (blk X jJ N' scope cl C s H fp) G tg (fun i=>src[i]?=some none) τ) (ht:∀cl jJ C s H fp,Vq (blk X jJ N' scope cl C s H fp) ifs (U9 G ft)) (he:∀cl jJ C s H fp,PD (blk X jJ N' scope cl C s H fp) G r1 elt fe)
  (hs:∀x,foldedSetIterable iter X.env x=pure x:=by intro _;rfl):PD X G true (.ListComp elt [⟨tg,iter,ifs,0⟩] scope pos) (ZY src fi τ ft fe):=by
 obtain⟨wi,pi,qi⟩:=hi;refine⟨_,fun jJ s σ H Q I h=>?_,ZfS (r1:=r1) qi⟩;obtain⟨cl,B'⟩:=B.ok I.ok;exact Zio hc B' pi (fun jJ C s H fp=>(hg cl jJ C s H fp).canon) (ht cl) (fun jJ C s H fp=>(he cl jJ C s H fp).canon) hs jJ s σ H Q I h
theorem Bg (hN:X.N.Nodup)(hi':X.N[i]?=some x)(hx:Wy X.env.scope x)
  (hc:X.calm=true) (B:BlkS X XN NS N' src scope) (hi:Vb X G tg iter fi)
  (hg:∀cl jJ C s H fp,Va (blk X jJ N' scope cl C s H fp) G tg (fun i=>src[i]?=some none) τ) (ht:∀cl jJ C s H fp,Vq (blk X jJ N' scope cl C s H fp) ifs (U9 G ft)) (he:∀cl jJ C s H fp,PD (blk X jJ N' scope cl C s H fp) G r1 elt fe)
  (hsw:swapsWith (.ListComp elt [⟨tg,iter,ifs,0⟩] scope pos) (some (.Name x pos')) spos.line X.env=pure true:=by rfl)
  (hs:∀x,foldedSetIterable iter X.env x=pure x:=by intro _;rfl)
  (hf:X.fn x=true∨X.env.scope.names.lookup x=some .local:=by first | exact .inl rfl | exact .inr rfl | assumption) :
  JU X G true i (.Assign [.Name x pos'] (.ListComp elt [⟨tg,iter,ifs,0⟩] scope pos) spos) (ZY src fi τ ft fe):=by
 obtain⟨wi,pi,qi⟩:=hi;refine⟨_,fun jJ s σ H D I h=>?_,ZfS (r1:=r1) qi⟩;obtain⟨cl,B'⟩:=B.ok I.ok;exact Zm0 hN hi' hx hc B' pi (fun jJ C s H fp=>(hg cl jJ C s H fp).canon) (ht cl) (fun jJ C s H fp=>(he cl jJ C s H fp).canon) hsw hs hf jJ s σ H D I h
end
noncomputable def ZJ (P:Program)(w:World)(K:qk)(mg:Str->Option Value)(base:Heap)(k:Nat)(x:Str)(n:Nat)(fr:Bool)(GG:Gh->Prop)(F:List D->M D):Prop:=
 ∃f fd ps,FnOk P w K mg base ZQ k f fd ps (Ya n fr GG F)/\mg x=some (.ref f)/\z0 K (.ref f)=true/\XV K fd ps []
theorem ZJ.mono {P:Program}{w:World}{K:qk}{mg:Str->Option Value}{base:Heap}{j k:Nat}{x:Str}{n:Nat}{fr:Bool}{GG:Gh->Prop}{F:List D->M D}(c:ZJ P w K mg base j x n fr GG F)(h:j<=k:=by decide):ZJ P w K mg base k x n fr GG F:=
 let ⟨f,fd,ps,a,b,c,d⟩:=c
 ⟨f,fd,ps,a.mono h,b,c,d⟩
theorem Zo5 {X:Cx}{G:Gh}{k:Nat}{x:Str}{n:Nat}{fr:Bool}{GG:Gh->Prop}{F:List D->M D}{p pos:Pos}{e:Expr}{es:List Expr}{fs:Zb->M (List D)}(c:ZJ X.prog X.w X.K X.mg X.base k x n fr GG F)(hG:GG G)(hr:Room k X.A)(hg:Gl X x)
  (ha:W9 X G (e::es) fs) (hal:∀ρ s ds s',fs ρ s=some (ds,s')->ds.length=(e::es).length) (jS:(e::es).length=n:=by rfl)
  (hdb:(x==("__debug__" : Str))=false:=by decide) (he:starEach (e::es) X.env=(false,eval e X.env)::starEach es X.env:=by rfl) (hpl:(backTo pos (starEach es X.env)).any (·.1)=false:=by rfl) :
  PD X G fr (.Call (.Name x p) (e::es) [] pos) (Zo F fs):=by
 obtain⟨f,fd,ps,a,b,c,d⟩:=c;exact Zm1 a hG hr hg b c d Zim ha jS hal hdb he hpl
noncomputable def Vs (h base:Heap)(as:List Addr):Heap:=PySem.W.hideAll h ((qp h.objs.size).filter fun a=>!((base.get? a).isSome||decide (a∈as)))
theorem Zjw {h base:Heap}{as:List Addr}:(Vs h base as).objs.size=h.objs.size:=qbC _ _
theorem ZfY {h base:Heap}{as:List Addr}{b:Addr}{o:Obj}(e:h.get? b=some o)(n:(∃u,base.get? b=some u)∨b∈as):(Vs h base as).get? b=some o:=
 qbL _ e fun hm=>by
  have q:=(qA.mp hm).2;rcases n with⟨u,n⟩ | n
  ·simp[n] at q
  ·simp[n] at q
theorem Ziu {h base:Heap}{as:List Addr}{b:Addr}{o:Obj}(e:(Vs h base as).get? b=some o):h.get? b=some o/\((∃u,base.get? b=some u)∨b∈as):=by
 have e':h.get? b=some o:=PySem.W.of_hideAll _ e;refine⟨e',?_⟩;by_cases c:((base.get? b).isSome||decide (b∈as))=true
 ·rcases qbM.mp c with c | c
  ·exact .inl (zK.mp c)
  ·exact .inr (of_decide_eq_true c)
 ·have z:(Vs h base as).get? b=none:=qbD _ (qA.mpr ⟨qB.mpr (qH e'),by simpa using c⟩)
  rw[z] at e;cases e
theorem jD {P:Program}{w:World}{K:qk}{mg:Str->Option Value}{base:Heap}{A:Around}{outer:List Env}{s:Shared}{H:Hp}{as:List Addr}(e:Env0 P w K mg base A outer s H)(ha:∀b∈as,H b=none)(hf:∀b∈as,b∉X0 outer) :
  Env0 P w K mg (Vs s.heap base as) A outer s H:=by
 have up:∀b o,base.get? b=some o->(Vs s.heap base as).get? b=some o:=fun b o q=>ZfY (e.bs b o q).1 (.inl ⟨o,q⟩);refine⟨e.frames,⟨e.mod.kin.keeps up,e.mod.glob.keeps up,let ⟨mb,h1,h2⟩:=e.mod.blt;⟨mb,h1.keeps up,h2⟩,e.mod.nolimit.keeps up⟩,fun b o q=>?_,qbU Zjw,?_,e.frf,e.hok,e.bare⟩
 ·obtain⟨q1,q2⟩:=Ziu q
  refine⟨q1,?_⟩;rcases q2 with⟨u,q2⟩ | q2
  ·exact(e.bs b u q2).2
  ·exact ha b q2
 ·have all:∀l:List Env,(∀b∈X0 l,b∈X0 outer)->s.heap.FunFrames base l->s.heap.FunFrames (Vs s.heap base as) l:=by
   intro l
   induction l with
   | nil=>intro _ _;trivial
   | cons env r ih=>
    intro hs hl;obtain⟨hk,⟨L,o,hf',hn,ho,hd⟩,hr⟩:=hl;have hL:L∈X0 outer:=hs L (by unfold X0;rw[yF,hf'];exact zC);refine⟨hk,⟨L,o,hf',?_,ho,hd⟩,ih (fun b hb=>hs b (by unfold X0;rw[yF,hf'];exact qK _ hb)) hr⟩
    cases q:(Vs s.heap base as).get? L with
    | none=>rfl
    | some u=>
     rcases (Ziu q).2 with⟨u',q'⟩ | q'
     ·rw[hn] at q';cases q'
     ·exact absurd hL (hf L q')
  exact all outer (fun _ h=>h) e.funs
noncomputable def fnφ (p:Addr)(fd:FuncData):Heap->Prop:=fun h=>∃oc od sl,h.get? p=some ⟨oc,od,.func fd,sl⟩
noncomputable def codeφ (c:Addr)(q:Str):Heap->Prop:=fun h=>h.CodeRec (.ref c) q
theorem fnφ_at {P:Program}{w:World}{H:Hp}{h:Heap}{p:Addr}{fd:FuncData}(ok:Ys P w H h)(e:H p=some (.ext (fnφ p fd))):fnφ p fd h:=(ok p _ e).1
theorem codeφ_at {P:Program}{w:World}{H:Hp}{h:Heap}{c:Addr}{q:Str}(ok:Ys P w H h)(e:H c=some (.ext (codeφ c q))):h.CodeRec (.ref c) q:=(ok c _ e).1
structure CloScope (N ps:List Str)(sc:Scope):Prop where
 kind:sc.kind=.function
 co:sc.isCoroutine=false
 gen:sc.isGenerator=false
 nd:N.Nodup
 pre:N.take ps.length=ps
 par:∀x∈ps,sc.names.lookup x=some .local
 nocell:∀y∈sc.names,y.2≠.cell
noncomputable def UA (CX:X1)(P:Program)(w:World)(K:qk)(mg:Str->Option Value)(base:Heap)(N:List Str)(qual:Str)(scope:Scope)(f:Addr)(cd:Value)(cl:List (Str×Addr))(A:Around)(outer:List Env)(s:Shared)(H:Hp)(E:XK):Cx where
 prog:=P
 w:=w
 K:=K
 mg:=mg
 base:=base
 A:=A.deeper (zY qual scope s.heap.objs.size f cd cl)
 N:=N
 s₀:=s
 H₀:=H
 env:=zY qual scope s.heap.objs.size f cd cl
 outer:=outer
 stack:=zY qual scope s.heap.objs.size f cd cl::outer
 ex:=[]
 calm:=true
 fn:=fun _=>false
 pn:=[]
 xe:=fun e s'=>wpAny (model P w) (A.deeper (zY qual scope s.heap.objs.size f cd cl)) (leaving (zY qual scope s.heap.objs.size f cd cl) e) (fun _ s''=>CX outer H s E e s'') (fun e' s''=>CX outer H s E e' s'') s'
structure CloAt (base:Heap)(cl:List (Str×Addr))(sc:Scope)(N ps:List Str)(cvs:List V):Prop where
 inj:∀x y c,cl.lookup x=some c->cl.lookup y=some c->x=y
 cell:∀x c,cl.lookup x=some c->∃v,base.IsCell c v
 has:∀x,sc.names.lookup x=some .free->∃c,cl.lookup x=some c
 cap:∀(i:Nat) (x:Str) (v:V),N[ps.length+i]?=some x->cvs[i]?=some v->sc.names.lookup x=some .free/\∃c u,cl.lookup x=some c/\base.IsCell c (some u)/\ZC v u
 len:N.length=ps.length+cvs.length
theorem Zbt {α:Type}:∀{l:List (Str×α)} {x:Str} {u:α},(l.map (·.1)).Nodup->(x,u)∈l->l.lookup x=some u
 | [],_,_,_,h=>by simp at h
 | (y,w)::l,x,u,nd,h=>by
  rw[zb,zx] at nd;rcases qu.mp h with e | hm
  ·cases e;simp[zc]
  ·have hne:(x==y)=false:=by
    simp only[beq_eq_false_iff_ne];rintro rfl;exact nd.1 (yG (f:=(·.1)) hm)
   rw[zc,hne];exact Zbt nd.2 hm
theorem Zca:∀(ps:List Str) (us:List Value),((ps.zip us).map (·.1)).Sublist ps
 | [],_=>by simp
 | _::_,[]=>by simp
 | p::ps,u::us=>by simpa using Zca ps us
theorem Zc8 {ps:List Str}{us:List Value}{i:Nat}{x:Str}{u:Value}(nd:ps.Nodup)(h1:ps[i]?=some x)(h2:us[i]?=some u):(ps.zip us).reverse.lookup x=some u:=by
 refine Zbt ?_ ?_
 ·rw[List.map_reverse]
  refine qaF.mpr ?_;exact(nd.sublist (Zca _ _)).imp zm
 ·rw[yS]
  exact z5 (i:=i) (y8.mpr ⟨h1,h2⟩)
theorem Zm6 {CX:X1}{P:Program}{w:World}{K:qk}{mg:Str->Option Value}{base:Heap}{N ps:List Str}{qual:Str}{scope:Scope}{f:Addr}{cd:Value}{cl:List (Str×Addr)}{A:Around}{outer:List Env}{s:Shared}{H:Hp}{E:XK}{us:List Value}{vs cvs:List V}{h':Heap}{tk:Nat}
  (S:CloScope N ps scope) (C:CloAt base cl scope N ps cvs) (hd:A.handled=none) (e0:Env0 P w K mg base A outer s H) (hl:vs.length=ps.length) (r:Zw vs us)
  (hns:h'.Ns s.heap.objs.size (fun x=>(ps.zip us).reverse.lookup x)) (hk:∀b o,s.heap.get? b=some o->h'.get? b=some o) :
  Inv (UA CX P w K mg base N qual scope f cd cl A outer s H E) [] (vs.map some++cvs.map some) H { s with heap:=h',toks:=tk }:=by
 have noA:∀b:Addr,b∉(UA CX P w K mg base N qual scope f cd cl A outer s H E).ex:=fun b z=>absurd (show b∈([]:List Addr) from z) (by simp);have up:∀b o,base.get? b=some o->h'.get? b=some o:=fun b o q=>hk b o (e0.bs b o q).1;have cellAt:∀x c,cl.lookup x=some c->∃v,base.IsCell c v:=C.cell;refine⟨⟨e0.mod,S.kind,rfl,rfl,qw _,fun y z c h1 h2=>C.inj y z c h1 h2,fun y hy=>?_,fun y c z _=>(by cases z),fun _=>hd,qbE e0.frames,.inr ⟨rfl,rfl⟩,fun b z=>absurd z (noA b),e0.bs,e0.bsz,fun b _ _=>noA b,fun b z=>absurd z (noA b),e0.funs,e0.frf⟩,
  rfl,e0.bare,Un.kept hk,⟨_,hns,fun i y v h1 h2 h3=>?_⟩,fun y c h=>?_,e0.hok.fresh (qw _),fun y c h=>?_,fun p hp=>absurd (show p∈([]:List (Addr×Obj)) from hp) (by simp),e0.hok.kept hk,?_⟩
 ·have hy:scope.names.lookup y=some .cell∨scope.names.lookup y=some .free:=hy
  rcases hy with hy | hy
  ·exact absurd rfl (S.nocell _ (zy hy))
  ·exact C.has y hy
 ·have h1:N[i]?=some y:=h1
  by_cases hi:i<vs.length
  ·have ha:vs[i]?=some v:=by
    rw[zF (by simpa using hi),qD] at h2
    cases e:vs[i]? with
    | none=>rw[e] at h2;cases h2
    | some a=>rw[e] at h2;cases h2;rfl
   obtain⟨u,hu,rv⟩:=r.get ha;have hp:ps[i]?=some y:=by
    rw[<-S.pre,qab (by omega)];exact h1
   have ndP:ps.Nodup:=by rw[<-S.pre];exact S.nd.sublist (qa0 _ _)
   exact⟨u,rv,.inl ⟨S.par y (z5 hp),Zc8 ndP hp hu⟩⟩
  ·rw[z8 (by simpa using hi),qD,qd] at h2
   have hc:cvs[i-vs.length]?=some v:=by
    cases e:cvs[i-vs.length]? with
    | none=>rw[e] at h2;cases h2
    | some a=>rw[e] at h2;cases h2;rfl
   obtain⟨q1,c,u,q2,q3,q4⟩:=C.cap (i-vs.length) y v (by rw[show ps.length+(i-vs.length)=i by omega];exact h1) hc;exact⟨u,q4,.inr ⟨.inr q1,c,q2,q3.keeps up⟩⟩
 ·obtain⟨v,q⟩:=C.cell y c h
  exact⟨v,q.keeps up⟩
 ·obtain⟨v,o,q,_⟩:=C.cell y c h
  exact(e0.bs c o q).2
 ·show _=N.length
  rw[C.len];simp[hl]
theorem Zm7 {CX:X1}{P:Program}{w:World}{K:qk}{mg:Str->Option Value}{base:Heap}{k:Nat}{f:Addr}{name qual:Str}{params:Arguments}{body:Expr}{scope:Scope}{cl:List (Str×Addr)}{pm ct:Value}{c':Addr}{N ps:List Str}{cvs:List V}{sp:Sp}
  (S:CloScope N ps scope) (C:CloAt base cl scope N ps cvs) (len:∀vs H Q E,sp vs H Q E->vs.length=ps.length)
  (at_:∀vs H Q E,sp vs H Q E->H f=some (.ext (fnφ f (qW name qual params body scope cl pm (.ref c') ct)))/\H c'=some (.ext (codeφ c' qual)))
  (hbody:∀(A:Around) (outer:List Env) (s:Shared) (H:Hp) (vs:List V) (Q:VK) (E:XK),Room k (A.deeper (zY qual scope s.heap.objs.size f (.ref c') cl))->sp vs H Q E->
   ∃t,PE (UA CX P w K mg base N qual scope f (.ref c') cl A outer s H E) body t/\t (vs.map some++cvs.map some) H Q) :
  FnOk P w K mg base CX (k+1) f (qW name qual params body scope cl pm (.ref c') ct) ps sp:=by
 refine⟨len,fun A outer s H args us vs Q E hr e0 hb r hsp=>?_⟩;have hl:=len _ _ _ _ hsp;obtain⟨a1,a2⟩:=at_ _ _ _ _ hsp;obtain⟨oc,od,sl,ho⟩:=fnφ_at e0.hok a1;have lim:s.heap.NoLimit:=e0.mod.nolimit.keeps fun b o e=>(e0.bs b o e).1;have hkind:∀y∈ps.zip us,scope.names.lookup y.1=some .local:=fun⟨n,v⟩ hy=>S.par n (qaH hy).1;refine PySem.W.kla_callFunE hr.depth ho rfl S.co S.gen rfl (codeφ_at e0.hok a2) (hb _ _ _ _ ?_);refine wpAny_newFunctionEnv S.nocell hkind (fun h' hns hsb=>?_) S.kind;have hk:∀b o,s.heap.get? b=some o->h'.get? b=some o:=fun b o e=>hsb.extBut b o (qQ (qH e)) (qq _ e);refine⟨lim.keeps hk,?_⟩;show codeAny _ _ (.expr body (zY qual scope s.heap.objs.size f (.ref c') cl)) _ _;obtain⟨t,ht,hq⟩:=hbody A outer s H vs Q E (hr.deeper _) hsp;refine PySem.W.kla_codeExpr (wpAny_mono (ht [] _ _ H Q (Zm6 S C hr.hd e0 hl r hns hk) hq) (fun u s' hs=>?_) fun e s' hs=>hs);obtain⟨v,H',J,rv,q⟩:=hs;exact⟨v,H',J.os,J.bare,J.base,J.hok,rv,q⟩
structure Mk0 (X:Cx)(c P:Addr):Prop where
 code:X.env.code=.ref c
 hd:zL X.base c P
 bm:∃bm o,X.mg "__builtins__" = some (.ref bm)/\bm≠builtinsNs/\bm≠mainGlobals/\X.base.get? bm=some o/\o.cls=.type "module"/\o.dict=some builtinsNs/\o.data=.plain
noncomputable def Slot (P:Addr)(q:Str)(lpos:Pos)(ps:Array Value)(H Hm:Hp)(c':Addr):Prop:=
 (Hm=H/\codeAmong lpos ps.toList=some (.ref c')/\H c'=some (.ext (codeφ c' q)))∨(codeAmong lpos ps.toList=none/\H c'=none/\c'≠P/\Hm=Zm (Zm H P (.tbl (ps ++ #[rawInt lpos.line,rawInt lpos.col,.ref c']))) c' (.ext (codeφ c' q)))
noncomputable def Zn8 (P:Addr)(q:Str)(lpos:Pos)(isFd:FuncData->Addr->Prop)(H:Hp)(R:Addr->Addr->FuncData->Hp->Prop):Prop:=
 ∃ps,H P=some (.tbl ps)/\TriplesOk ps.toList/\(∀cv,codeAmong lpos ps.toList=some cv->∃c',cv=.ref c'/\H c'=some (.ext (codeφ c' q)))/\
  ∀p c' fd Hm,isFd fd c'->Slot P q lpos ps H Hm c'->Hm p=none->R p c' fd (Zm Hm p (.ext (fnφ p fd)))
section
variable {X:Cx}{jJ:List (Addr×Obj)}{σ:St}{H:Hp}{s:Shared}{c P:Addr}{ps:Array Value}
theorem Mk0.bat (M:Mk0 X c P)(I:Inv X jJ σ H s)(hP:H P=some (.tbl ps)):s.heap.BuiltinsAt X.mg P:=by
 obtain⟨bm,o,e1,e2,e3,e4,e5⟩:=M.bm;refine⟨bm,o,e1,e2,e3,fun z=>?_,I.bk _ _ e4,e5⟩;have:=(I.bs _ _ e4).2;rw[z,hP] at this;cases this
theorem gne (I:Inv X jJ σ H s)(hP:H P=some (.tbl ps)):mainGlobals≠P:=fun z=>by
 obtain⟨o,es,ep,e,_⟩:=I.mod.glob;have:=(I.bs _ _ e).2;rw[z,hP] at this;cases this
theorem Zhl {P0:Program}{w:World}{H':Hp}{h:Heap}{a:Addr}{φ:Heap->Prop}(h1:φ h)(h2:∃o,h.get? a=some o)(h3:∀h1 h2:Heap,φ h1->(∀o,h1.get? a=some o->h2.get? a=some o)->φ h2):YC P0 w H' h a (.ext φ):=⟨h1,h2,h3⟩
theorem fnφ_keep {p:Addr}{fd:FuncData}:∀h1 h2:Heap,fnφ p fd h1->(∀o,h1.get? p=some o->h2.get? p=some o)->fnφ p fd h2:=fun h1 h2 ⟨oc,od,sl,e⟩ k=>⟨oc,od,sl,k _ e⟩
theorem codeφ_keep {p:Addr}{q:Str}:∀h1 h2:Heap,codeφ p q h1->(∀o,h1.get? p=some o->h2.get? p=some o)->codeφ p q h2:=fun h1 h2 ⟨a,o,vs,t,e,e1,r⟩ k=>by
 cases e
 exact⟨p,o,vs,t,rfl,k _ e1,r⟩
theorem codeφ_there {p:Addr}{q:Str}{h:Heap}(x:codeφ p q h):∃o,h.get? p=some o:=by
 obtain⟨a,o,vs,t,e,e1,r⟩:=x
 cases e
 exact⟨o,e1⟩
theorem Zm8 {h':Heap}{tk:Nat}{c':Addr}{more:Array Value}{q:Str}(I:Inv X jJ σ H s)(hP:H P=some (.tbl ps))(hx:Heap.ExtBut P s.heap h')(hge:s.heap.objs.size<=c')(hc:h'.CodeRec (.ref c') q)(ht:h'.get? P=some (qaj (ps++more))) :
  Inv X jJ σ (Zm (Zm H P (.tbl (ps++more))) c' (.ext (codeφ c' q))) { s with heap:=h',toks:=tk }/\H c'=none/\c'≠P:=by
 have hc0:H c'=none:=I.hok.fresh hge;have hcP:c'≠P:=fun z=>by rw[z,hP] at hc0;cases hc0
 have old:∀{b:Addr} {u:HO},H b=some u->b≠c':=fun e z=>by rw[z,hc0] at e;cases e
 have get:∀{b:Addr} {u:HO},H b=some u->b≠P->Zm (Zm H P (.tbl (ps++more))) c' (.ext (codeφ c' q)) b=some u:=fun {b u} e n=>by rw[Zp (old e),Zp n];exact e
 refine⟨I.call (g':=s.gens) (d':=s.drawn) (ch:=[]) ?_ ?_ I.bare (fun b hb=>absurd hb (by simp)),hc0,hcP⟩
 ·refine⟨fun b o e n _ _=>hx b o (fun z=>by rw[z,hP] at n;cases n) e,fun b o e n _ _=>⟨o.slots,hx b o (fun z=>by rw[z,hP] at n;cases n) e⟩,fun b o e n _=>?_,fun b o e _=>?_,fun b xs e=>get e (fun z=>by rw[z,hP] at e;cases e),fun b o u e=>get e (fun z=>by rw[z,hP] at e;cases e),fun b ps' e=>?_⟩
  ·rw[Zp (qQ (qT (qH e) hge)),Zp (fun z=>by rw[z,hP] at n;cases n)];exact n
  ·by_cases hb:b=P
   ·exact⟨_,hb▸ht⟩
   ·exact⟨o,hx b o hb e⟩
  ·by_cases hb:b=P
   ·subst hb
    rw[hP] at e;cases e;exact⟨more,by rw[Zp (old hP),ZO]⟩
   ·exact⟨#[],by rw[get e hb];simp⟩
 ·intro a o e
  by_cases ha:a=c'
  ·subst ha
   rw[ZO] at e;cases e;exact Zhl hc (codeφ_there hc) codeφ_keep
  ·rw[Zp ha] at e
   by_cases hb:a=P
   ·subst hb
    rw[ZO] at e;cases e;exact ht
   ·rw[Zp hb] at e
    refine(I.hok a o e).stay (fun b u hb' r=>hx b u ?_ r) (fun b r=>get r (fun z=>by rw[z,hP] at r;cases r)) fun b xs r=>get r (fun z=>by rw[z,hP] at r;cases r);rcases hb' with rfl | hb'
    ·exact hb
    ·intro z;rw[z,hP] at hb';cases hb'
structure CloOf (X:Cx)(scope:Scope)(cl:List (Str×Addr)):Prop where
 of:∀x c,cl.lookup x=some c->X.env.cells.lookup x=some c
 has:∀y∈scope.names,y.2=.free->∃c,cl.lookup y.1=some c
theorem Zm9 {scope:Scope}(ok:X.Ok)(hfree:∀y∈scope.names,y.2=.free->X.env.kindOf y.1=some .cell∨X.env.kindOf y.1=some .free):∃cl,closureFor scope X.env=pure cl/\CloOf X scope cl:=by
 obtain⟨cl,q1,q2,q3,q4⟩:=Zao (env:=X.env) scope.names [] (fun y hy hf=>ok.has y.1 (hfree y hy hf)) (fun x c h=>by simp at h);refine⟨cl,?_,q2,q4⟩;unfold closureFor;show(forIn scope.names [] _ >>= _)=_;rw[show(forIn scope.names ([]:List (Str×Addr)) fun(x:Str×NameKind) (r:List (Str×Addr))=>_)=_ from q1];rfl
theorem Zhm {params:Arguments}{body:Expr}{scope:Scope}{lpos:Pos}{q:Str}(M:Mk0 X c P)(hq:X.env.qual ++ "<lambda>" = q)(hfree:∀y∈scope.names,y.2=.free->X.env.kindOf y.1=some .cell∨X.env.kindOf y.1=some .free)(hdef:defaultsOf params X.env=([],[]):=by rfl) :
  PE X (.Lambda params body scope lpos) (fun σ H Q=>Zn8 P q lpos (fun fd c'=>∃cl pm ctv,CloOf X scope cl/\fd=qW "<lambda>" q params body scope cl pm (.ref c') ctv) H fun p _ _ H'=>Q (.ref p) H'):=by
 intro jJ s σ H Q I ⟨ps,hP,ht,hhit,h⟩;obtain⟨cl,hcl,co⟩:=Zm9 I.ok hfree;have hP':s.heap.get? P=some (qaj ps):=I.hok P _ hP;have hg:s.heap.Ns mainGlobals X.mg:=I.mod.glob.keeps I.bk;have hb:=M.bat I hP;refine PySem.W.kla_eval hdef ?_;rw[hq]
 cases hc:codeAmong lpos ps.toList with
 | some cv=>
  obtain⟨c',rfl,hc'⟩:=hhit cv hc;refine PySem.W.kla_makeFunctionHit hcl I.ok.glob hg M.code (M.hd.keeps I.bk) hP' ht hc hb fun ctv h' tk hk hsz=>?_;refine⟨.ref h'.objs.size,Zm H h'.objs.size (.ext (fnφ _ _)),I.laid (t':=tk) (fun b u e=>qq _ (hk b u e)) hsz (Zhl ⟨_,_,_,qI _ rfl⟩ ⟨_,qI _ rfl⟩ fnφ_keep),rfl,h _ c' _ H ⟨cl,_,_,co,rfl⟩ (.inl ⟨rfl,hc,hc'⟩) (I.hok.fresh hsz)⟩
 | none=>
  refine PySem.W.kla_makeFunction hcl I.ok.glob hg M.code (M.hd.keeps I.bk) hP' ht hc (gne I hP) hb fun c' ctv h' tk hx hge hlt hrec htb=>?_;obtain⟨I1,hc0,hcP⟩:=Zm8 (tk:=tk) I hP hx hge hrec htb;refine⟨.ref h'.objs.size,Zm _ h'.objs.size (.ext (fnφ _ _)),I1.laid (t':=tk) (fun b u e=>qq _ e) (qw _) (Zhl ⟨_,_,_,qI _ rfl⟩ ⟨_,qI _ rfl⟩ fnφ_keep),rfl,h _ c' _ _ ⟨cl,_,_,co,rfl⟩ (.inr ⟨hc,hc0,hcP,rfl⟩) (I1.hok.fresh (qw _))⟩
end
structure Cells (X:Cx)(σ:St)(base':Heap):Prop where
 inj:∀x y c,X.env.cells.lookup x=some c->X.env.cells.lookup y=some c->x=y
 cell:∀x c,X.env.cells.lookup x=some c->∃v,base'.IsCell c v
 has:∀x,(X.env.kindOf x=some .cell∨X.env.kindOf x=some .free)->∃c,X.env.cells.lookup x=some c
 val:∀(i:Nat) (x:Str) (v:V),X.N[i]?=some x->σ[i]?=some (some v)->X.env.kindOf x=some .cell->∃c u,X.env.cells.lookup x=some c/\base'.IsCell c (some u)/\ZC v u
section
variable {X:Cx}{jJ:List (Addr×Obj)}{σ:St}{H:Hp}{s:Shared}
noncomputable def BP (X:Cx):List Addr:=X.env.cells.filterMap fun p=>X.env.cells.lookup p.1
theorem Zjx {x:Str}{c:Addr}(e:X.env.cells.lookup x=some c):c∈BP X:=qaa.mpr ⟨(x,c),zy e,e⟩
theorem ZfZ {c:Addr}(h:c∈BP X):∃x,X.env.cells.lookup x=some c:=by
 obtain⟨p,_,e⟩:=qaa.mp h;exact⟨p.1,e⟩
theorem Zee (I:Inv X jJ σ H s)(hfn:∀x,X.fn x=true):Env0 X.prog X.w X.K X.mg (Vs s.heap X.base (BP X)) X.A X.stack s H/\Cells X σ (Vs s.heap X.base (BP X)):=by
 have cellK:∀x c v,X.env.cells.lookup x=some c->s.heap.IsCell c v->(Vs s.heap X.base (BP X)).IsCell c v:=fun x c v e ⟨o,ho,hd⟩=>⟨o,ZfY ho (.inr (Zjx e)),hd⟩;refine⟨jD I.env0 (fun b hb=>?_) fun b hb hf=>?_,⟨I.ok.inj,fun x c e=>?_,I.ok.has,fun i x v h1 h2 h3=>?_⟩⟩
 ·obtain⟨x,e⟩:=ZfZ hb
  exact I.freeC x b e
 ·obtain⟨x,e⟩:=ZfZ hb
  rcases qu.mp (I.stkSub b hf) with z | z
  ·exact I.cne x b e z
  ·obtain⟨_,o,ho,_⟩:=I.ok.funs.mem z
   exact absurd (qT (qH ho) (I.ok.cab x b (hfn x) e)) (yj _)
 ·obtain⟨v,q⟩:=I.cell x c e
  exact⟨v,cellK x c v e q⟩
 ·obtain⟨m,_,hl⟩:=I.loc
  obtain⟨u,r,l⟩:=hl i x v h1 h2 (.inr (.inl h3));rcases l with⟨hk,_⟩ | ⟨_,c,hc,hcell⟩
  ·rw[h3] at hk;cases hk
  ·exact⟨c,u,hc,cellK x c _ hc hcell,r⟩
theorem Zf0 {x:Str}{p pos:Pos}{e:Expr}{es:List Expr}{t:TA}{k:Nat}{f:Addr}{fd:FuncData}{ps:List Str}{sp:Heap->Sp}(F:∀base,FnOk X.prog X.w X.K X.mg base ZQ k f fd ps (sp base))(hfn:∀x,X.fn x=true)(hr:Room k X.A)(hg:Gl X x)(hm:X.mg x=some (.ref f))(hk:z0 X.K (.ref f)=true)(hb:XV X.K fd ps [])
  (ha:PA X (e::es) t) (hdb:(x==("__debug__" : Str))=false:=by decide) (he:starEach (e::es) X.env=(false,eval e X.env)::starEach es X.env:=by rfl) (hpl:(backTo pos (starEach es X.env)).any (·.1)=false:=by rfl) :
  PE X (.Call (.Name x p) (e::es) [] pos) (fun σ H Q=>t σ H fun vs H1=>∀base',Cells X σ base'->sp base' vs H1 Q E0):=by
 intro jJ s σ H Q I h;refine wpAny_Call_Name_kw (ZeE I hg hm ?_ hdb);refine PySem.W.callWith_K (h₀:=X.base) I.ok.mod.kin hk (ZE (ha pos jJ s σ H _ I h) fun us s1 ⟨vs,H1,I1,r,q⟩=>⟨I1.kIn,?_⟩) he hpl;obtain⟨e0,cs⟩:=Zee I1 hfn;have q':=q _ cs;have hl:(us ++ []).length=ps.length:=by rw[zf,<-r.length];exact(F _).len _ _ _ _ q'
 refine wpAny_call (codeAny_mono ((F _).run X.A X.stack s1 H1 ⟨us,[]⟩ us vs Q E0 hr e0 (by have:=hb s1 us I1.kIn hl;rw[zf] at this;exact this) r q') fun r s' hq=>?_)
 cases r with
 | error e=>exact hq.elim
 | ok fl=>
  cases fl with
  | ret u=>exact I1.after hq
  | next=>exact zI hq
  | brk=>exact zI hq
  | cont=>exact zI hq
theorem Zld {x:Str}{p pos:Pos}{e:Expr}{es:List Expr}{t:TA}{k i:Nat}(hf:PE X (.Name x p) (Yn i))(hr:Room k X.A)(ha:PA X (e::es) t)
  (he:starEach (e::es) X.env=(false,eval e X.env)::starEach es X.env:=by rfl) (hpl:(backTo pos (starEach es X.env)).any (·.1)=false:=by rfl) :
  PE X (.Call (.Name x p) (e::es) [] pos) (fun σ H Q=>∃f fd ps sp,σ[i]?=some (some (.ref f))/\XV X.K fd ps []/\FnOk X.prog X.w X.K X.mg X.base ZQ k f fd ps sp/\(∀h:Heap,Ys X.prog X.w H h->X.K.In h->fnφ f fd h)/\
   t σ H fun vs H1=>(∀h:Heap,Ys X.prog X.w H1 h->X.K.In h->fnφ f fd h)/\sp vs H1 Q E0):=by
 intro jJ s σ H Q I ⟨f,fd,ps,sp,e,hb,F,h0,h⟩;refine wpAny_Call_Name_kw (ZE (hf jJ s σ H (fun v H'=>v=.ref f/\H'=H) I ⟨_,e,rfl,rfl⟩) fun u s1 ⟨v,H1,I1,rv,ev,eH⟩=>?_);subst ev eH
 cases (show u=qM f from rv)
 have at1:∀{jJ σ H s},Inv X jJ σ H s->(∀h:Heap,Ys X.prog X.w H h->X.K.In h->fnφ f fd h)->PySem.W.FnAt f s.heap:=fun I z=>by
  obtain⟨oc,od,sl,q⟩:=z _ I.hok I.kIn;exact⟨oc,od,fd,sl,q⟩
 refine PySem.W.callWith_F (at1 I1 h0) (ZE (ha pos jJ s1 σ _ _ I1 h) fun us s2 ⟨vs,H2,I2,r,h2,q⟩=>⟨at1 I2 h2,?_⟩) he hpl;exact ZkN F hr hb .nil Zim I2 r (by rw[zf];exact q)
end
mutual
noncomputable def Yx:D->Bool
 | .tup ds=>YF ds
 | .lst ds=>YF ds
 | .clo _ _=>false
 | _=>true
noncomputable def YF:List D->Bool
 | []=>true
 | d::ds=>Yx d&&YF ds
end
mutual
theorem Zk.re {G G':Gh}{H:Hp}(hf:G'.fp=G.fp)(hp:G'.pen=G.pen):∀{d:D} {v:V},Yx d=true->Zk G H d v->Zk G' H d v
 | .non,_,_,h=>jg.mpr (jg.mp h)
 | .bl _,_,_,h=>je.mpr (je.mp h)
 | .int _,_,_,h=>ja.mpr (ja.mp h)
 | .str _,_,_,h=>jh.mpr (jh.mp h)
 | .tup ds,v,n,h=>by
  obtain⟨a,vs,e1,nf,e2,r⟩:=jb.mp h;exact jb.mpr ⟨a,vs,e1,by rw[hf];exact nf,e2,Zi.re hf hp (by simpa[Yx] using n) r⟩
 | .lst ds,v,n,h=>by
  obtain⟨a,vs,e1,nf,e2,r⟩:=jc.mp h;exact jc.mpr ⟨a,vs,e1,by rw[hf];exact nf,e2,Zi.re hf hp (by simpa[Yx] using n) r⟩
 | .dk _,_,_,h=>by
  obtain⟨a,e1,nf,e2⟩:=jk.mp h;exact jk.mpr ⟨a,e1,by rw[hf];exact nf,e2⟩
 | .dt _,_,_,h=>by
  obtain⟨a,o,e1,nf,e2⟩:=jl.mp h;exact jl.mpr ⟨a,o,e1,by rw[hf];exact nf,e2⟩
 | .du _,_,_,h=>by
  obtain⟨a,e1,nf,e2⟩:=jm.mp h;exact jm.mpr ⟨a,e1,by rw[hf];exact nf,e2⟩
 | .df _,_,_,h=>by
  obtain⟨a,o,e1,nf,e2⟩:=jr.mp h;exact jr.mpr ⟨a,o,e1,by rw[hf];exact nf,e2⟩
 | .pen,_,_,h=>jp.mpr ((jp.mp h).trans hp.symm)
 | .ty _,_,_,h=>js.mpr (js.mp h)
 | .clo _ _,_,n,_=>by simp[Yx] at n
theorem Zi.re {G G':Gh}{H:Hp}(hf:G'.fp=G.fp)(hp:G'.pen=G.pen):∀{ds:List D} {vs:List V},YF ds=true->Zi G H ds vs->Zi G' H ds vs
 | [],_,_,h=>Zi.nil_iff.mpr (Zi.nil_iff.mp h)
 | d::ds,vs,n,h=>by
  obtain⟨v,r,e,h1,h2⟩:=jd.mp h;have n':Yx d=true/\YF ds=true:=by simpa[YF] using n
  exact jd.mpr ⟨v,r,e,Zk.re hf hp n'.1 h1,Zi.re hf hp n'.2 h2⟩
end
theorem Gr.re {G G':Gh}{Hf H Hf' H':Hp}(hf:G'.fp=G.fp)(g:Gr G Hf H Hf' H'):Gr G' Hf H Hf' H':=
 ⟨fun b o n=>g.hh b o (by rw[<-hf];exact n),fun b o n=>g.ff b o (by rw[<-hf];exact n),fun b o n=>g.fh b o (by rw[<-hf];exact n),fun b n=>g.nw b (by rw[<-hf];exact n)⟩
theorem Zz.re {G G':Gh}{H H':Hp}(hf:G'.fp=G.fp)(g:Zz G H H'):Zz G' H H':=fun b o n=>g b o (by rw[<-hf];exact n)
theorem YB.re {G G':Gh}{H Hf':Hp}{d:D}{v:V}(hf:G'.fp=G.fp)(hp:G'.pen=G.pen)(n:Yx d=true)(h:YB G H Hf' d v):YB G' H Hf' d v:=fun a e m=>by
 obtain⟨h1,h2⟩:=h a e m;refine⟨h1,fun ds ed=>?_⟩;obtain⟨vs,Hm,q1,q2,q3,q4⟩:=h2 ds ed;subst ed;exact⟨vs,Hm,q1,q2,q3.re hf,q4.re hf hp (by simpa[Yx] using n)⟩
noncomputable def UB (n:Nat)(G:Gh)(cvs:List V)(F:List D->M D):Sp:=fun us H Q _=>∃(Hf:Hp) (ds cds:List D) (s:Pn) (d:D) (s':Pn),us.length=n/\Zz G Hf H/\Zi G Hf ds us/\Zi G Hf cds cvs/\G.st s H/\F (ds++cds) s=some (d,s')/\
 ∀v Hf' H',Gr G Hf H Hf' H'->G.st s' H'->Zk G Hf' d v->Q v H'
noncomputable def VP (P:Program)(w:World)(K:qk)(mg:Str->Option Value)(k n:Nat)(T:Nat->List D->M D)(base:Heap)(G:Gh):Prop:=
 ∀t v cvs,G.clo t v cvs->∃f fd ps,v=.ref f/\ps.length=n/\XV K fd ps []/\(∀s H,G.st s H->∀h:Heap,Ys P w H h->K.In h->fnφ f fd h)/\FnOk P w K mg base ZQ k f fd ps (UB n G cvs (T t))
noncomputable def BV (T:Nat->List D->M D)(i:Nat)(fs:Zb->M (List D)):Zb->M D:=fun ρ=>Zn (Za i ρ) fun c=>Zn (fs ρ) fun ds=>match c with | .clo t cds=>T t (ds++cds) | _=>ZG
theorem Zjy {i:Nat}{ρ:Zb}{s s':Pn}{d:D}(h:Za i ρ s=some (d,s')):ρ[i]?=some (some d)/\s'=s:=by
 obtain⟨e,rfl⟩:=Wf h;refine⟨?_,rfl⟩
 cases q:ρ[i]? with
 | none=>rw[q] at e;cases e
 | some o=>rw[q] at e;simp at e;rw[e]
section
variable {X:Cx}{G:Gh}
theorem Zle {T:Nat->List D->M D}{k n i:Nat}{x:Str}{p pos:Pos}{e:Expr}{es:List Expr}{fs:Zb->M (List D)}(hG:VP X.prog X.w X.K X.mg k n T X.base G)(hr:Room k X.A)(hf:PE X (.Name x p) (Yn i))(ha:W9 X G (e::es) fs)
  (hal:∀ρ s ds s',fs ρ s=some (ds,s')->ds.length=(e::es).length) (jS:(e::es).length=n:=by rfl)
  (he:starEach (e::es) X.env=(false,eval e X.env)::starEach es X.env:=by rfl) (hpl:(backTo pos (starEach es X.env)).any (·.1)=false:=by rfl) :
  PD X G false (.Call (.Name x p) (e::es) [] pos) (BV T i fs):=by
 obtain⟨t,pa,qa⟩:=ha;refine⟨_,Zld hf hr pa he hpl,fun σ Hf H ρ s d s' Q e1 e2 e3 e4 k=>?_⟩;obtain⟨c,s0,b0,b1⟩:=Zy e4;obtain⟨a0,rfl⟩:=Zjy b0;obtain⟨ds,s1,a1,a2⟩:=Zy b1
 cases c with
 | clo t cds=>
  obtain⟨v,hσ,r⟩:=e2 i _ a0;obtain⟨cvs,hc,rc⟩:=jw.mp r;obtain⟨f,fd,ps,rfl,hl,hb,hat,F⟩:=hG t v cvs hc;refine⟨f,fd,ps,_,hσ,hb,F,hat _ H e3,qa σ Hf H ρ _ ds s1 _ e1 e2 e3 a1 fun vs jT H1 g1 j6 r1=>⟨hat _ H1 j6,jT,ds,cds,s1,d,s',?_,g1.fh,r1,rc.ext g1.ff,j6,a2,fun v j7 H2 g2 jX r2=>k v j7 H2 (g1.trans g2) jX r2 (fun z=>by cases z)⟩⟩;rw[<-r1.length,hal _ _ _ _ a1];exact jS
 | _=>cases a2
end
noncomputable def Xd (n:Nat)(f:Zb->M D):List D->M D:=fun ds=>if ds.length=n then f (ds.map some) else ZG
theorem Zna {G:Gh}{Hf:Hp}{ds:List D}{vs:List V}(r:Zi G Hf ds vs):YM G Hf (vs.map some) (ds.map some):=fun i d e=>by
 rw[qD] at e
 cases q:ds[i]? with
 | none=>rw[q] at e;cases e
 | some d'=>
  rw[q] at e;cases e;obtain⟨v,h1,h2⟩:=r.get q;exact⟨v,by rw[qD,h1];rfl,h2⟩
theorem fnKE {P:Program}{w:World}{K:qk}{mg:Str->Option Value}{base:Heap}{k:Nat}{f:Addr}{name qual:Str}{params:Arguments}{body:Expr}{scope:Scope}{cl:List (Str×Addr)}{pm ct:Value}{c':Addr}{N ps:List Str}{cvs:List V}{G:Gh}{fr:Bool}{fe:Zb->M D}
  (S:CloScope N ps scope) (C:CloAt base cl scope N ps cvs) (hG:∀s H,G.st s H->H f=some (.ext (fnφ f (qW name qual params body scope cl pm (.ref c') ct)))/\H c'=some (.ext (codeφ c' qual)))
  (hb:∀(A:Around) (outer:List Env) (s:Shared) (H:Hp) (E:XK),Room k (A.deeper (zY qual scope s.heap.objs.size f (.ref c') cl))->PD (UA ZQ P w K mg base N qual scope f (.ref c') cl A outer s H E).nox G fr body fe) :
  FnOk P w K mg base ZQ (k+1) f (qW name qual params body scope cl pm (.ref c') ct) ps (UB ps.length G cvs (Xd N.length fe)):=by
 refine Zm7 (cvs:=cvs) S C (fun vs H Q E ⟨_,_,_,_,_,_,h,_⟩=>h) (fun vs H Q E ⟨_,_,_,s,_,_,_,_,_,_,st,_⟩=>hG s H st) fun A outer s H vs Q E hr h=>?_;obtain⟨Hf,ds,cds,pn,d,pn',el,e1,r1,r2,st,eF,k'⟩:=h;obtain⟨t,p,q⟩:=hb A outer s H E hr;refine⟨t,p.nox,?_⟩;obtain⟨hl,a0⟩:=Y7 eF;have env:=Zna (r1.append r2);rw[zD] at env;exact q _ Hf H _ pn d pn' Q e1 env st a0 fun v Hf' H' g st' r _=>k' v Hf' H' g st' r
structure TabG (P:Addr)(q:Str)(G:Gh):Prop where
 get:∀s H,G.st s H->∃ps,H P=some (.tbl ps)/\TriplesOk ps.toList/\∀pos cv,codeAmong pos ps.toList=some cv->∃c',cv=.ref c'/\H c'=some (.ext (codeφ c' q))/\¬G.fp c'
 fp:G.fp P
 put:∀s H ps (pos:Pos) c',G.st s H->H P=some (.tbl ps)->H c'=none->codeAmong pos ps.toList=none->G.st s (Zm (Zm H P (.tbl (ps ++ #[rawInt pos.line,rawInt pos.col,.ref c']))) c' (.ext (codeφ c' q)))
noncomputable def Xz (G:Gh)(t:Nat)(p c':Addr)(fd:FuncData)(q:Str)(cvs:List V):Gh where
 fp:=G.fp
 rd:=G.rd
 pen:=G.pen
 st:=fun s H=>G.st s H/\H p=some (.ext (fnφ p fd))/\H c'=some (.ext (codeφ c' q))
 mono:=fun s H H' ⟨h1,h2,h3⟩ k1 k2=>⟨G.mono s H H' h1 k1 k2,k2 _ _ h2,k2 _ _ h3⟩
 sub:=G.sub
 dom:=fun s H b h=>G.dom s H b h.1
 ntp:=fun s H b vs h=>G.ntp s H b vs h.1
 clo:=fun t' v cs=>t'=t/\v=.ref p/\cs=cvs
noncomputable def JW (G:Gh)(t:Nat)(p:Addr):Gh where
 fp:=G.fp
 rd:=G.rd
 pen:=G.pen
 st:=G.st
 mono:=G.mono
 sub:=G.sub
 dom:=G.dom
 ntp:=G.ntp
 clo:=fun t' v cs=>t'=t/\v=.ref p/\cs=[]
noncomputable def Ud (P:Program)(w:World)(K:qk)(mg:Str->Option Value)(k:Nat)(x:Str)(n:Nat)(fr:Bool)(GG:Heap->Gh->Prop)(F:List D->M D):Prop:=
 ∃f fd ps,(∀base,FnOk P w K mg base ZQ k f fd ps (Ya n fr (GG base) F))/\mg x=some (.ref f)/\z0 K (.ref f)=true/\XV K fd ps []
theorem Ud.mono {P:Program}{w:World}{K:qk}{mg:Str->Option Value}{j k:Nat}{x:Str}{n:Nat}{fr:Bool}{GG:Heap->Gh->Prop}{F:List D->M D}(c:Ud P w K mg j x n fr GG F)(h:j<=k:=by decide):Ud P w K mg k x n fr GG F:=
 let ⟨f,fd,ps,a,b,c,d⟩:=c
 ⟨f,fd,ps,fun base=>(a base).mono h,b,c,d⟩
structure CapS (X:Cx)(XN:List Str)(NS:List (Str×NameKind))(N ps:List Str)(cix:List Nat)(scope:Scope):Prop where
 xn:X.N=XN
 ns:X.env.scope.names=NS
 len:N.length=ps.length+cix.length
 at_:(cix.zip (N.drop ps.length)).all (fun p=>decide (XN[p.1]?=some p.2)&&decide (NS.lookup p.2=some .cell)&&decide (scope.names.lookup p.2=some .free))=true
 free:∀y∈scope.names,y.2=.free->NS.lookup y.1=some .cell∨NS.lookup y.1=some .free
theorem CapS.hfree {X:Cx}{XN:List Str}{NS:List (Str×NameKind)}{N ps:List Str}{cix:List Nat}{scope:Scope}(B:CapS X XN NS N ps cix scope):∀y∈scope.names,y.2=.free->X.env.kindOf y.1=some .cell∨X.env.kindOf y.1=some .free:=fun y hy hf=>by
 have:=B.free y hy hf;rw[<-B.ns] at this;exact this
theorem CapS.cloAt {X:Cx}{XN:List Str}{NS:List (Str×NameKind)}{N ps:List Str}{cix:List Nat}{scope:Scope}{σ:St}{base':Heap}{cl:List (Str×Addr)}{cvs:List V}(B:CapS X XN NS N ps cix scope)(cs:Cells X σ base')(co:CloOf X scope cl)(hl:cvs.length=cix.length)
  (hv:∀(i j:Nat) (v:V),cix[i]?=some j->cvs[i]?=some v->σ[j]?=some (some v)):CloAt base' cl scope N ps cvs:=by
 refine⟨fun x y c h1 h2=>cs.inj x y c (co.of x c h1) (co.of y c h2),fun x c h=>cs.cell x c (co.of x c h),fun x h=>co.has (x,.free) (zy h) rfl,fun i x v h1 h2=>?_,by rw[B.len,hl]⟩;have hi:i<cix.length:=by rw[<-hl];exact(qL.mp h2).1
 have hj:cix[i]?=some cix[i]:=qm hi;have hx:(N.drop ps.length)[i]?=some x:=by rw[List.getElem?_drop];exact h1
 have q:=zd.mp B.at_ (cix[i],x) (z5 (i:=i) (y8.mpr ⟨hj,hx⟩));simp only[qX,decide_eq_true_eq] at q;obtain⟨⟨q1,q2⟩,q3⟩:=q;refine⟨q3,?_⟩;obtain⟨c,u,e1,e2,e3⟩:=cs.val cix[i] x v (by rw[B.xn];exact q1) (hv i _ v hj h2) (by show X.env.scope.names.lookup x=_;rw[B.ns];exact q2);obtain⟨c2,e4⟩:=co.has (x,.free) (zy q3) rfl;have e5:=co.of x c2 e4;rw[e1] at e5;cases e5;exact⟨c,u,e4,e2,e3⟩
noncomputable def Vk (ρ:Zb):List Nat->Option (List D)
 | []=>some []
 | i::r=>((ρ[i]?).bind id).bind fun d=>(Vk ρ r).map (d :: ·)
theorem Zbu {G:Gh}{Hf:Hp}{σ:St}{ρ:Zb}(e:YM G Hf σ ρ):∀{cix:List Nat} {cds:List D},Vk ρ cix=some cds->∃cvs,cvs.length=cix.length/\Zi G Hf cds cvs/\∀(i j:Nat) (v:V),cix[i]?=some j->cvs[i]?=some v->σ[j]?=some (some v)
 | [],cds,h=>by cases h;exact⟨[],rfl,Zi.nil_iff.mpr rfl,fun i j v h1=>by simp at h1⟩
 | a::r,cds,h=>by
  unfold Vk at h
  cases q:(ρ[a]?).bind id with
  | none=>rw[q] at h;cases h
  | some d=>
   rw[q] at h
   cases q2:Vk ρ r with
   | none=>rw[q2] at h;cases h
   | some ds=>
    rw[q2] at h;cases h;obtain⟨v,h1,h2⟩:=e a d (by
     cases q3:ρ[a]? with
     | none=>rw[q3] at q;cases q
     | some o=>rw[q3] at q;simp at q;rw[q])
    obtain⟨cvs,l1,l2,l3⟩:=Zbu e q2;refine⟨v::cvs,by simp[l1],Zi.cons h2 l2,fun i j u e1 e2=>?_⟩
    cases i with
    | zero=>simp at e1 e2;subst e1;subst e2;exact h1
    | succ i=>exact l3 i j u (by simpa using e1) (by simpa using e2)
noncomputable def Jb (F:List D->M D)(t:Nat)(cix:List Nat)(f:Zb->M D):Zb->M D:=fun ρ=>Zn (f ρ) fun d=>Zn (YR (Vk ρ cix)) fun cds=>if (Yx d&&YF cds)=true then Zn (F [d,.clo t cds]) fun c=>if Yx c=true then ZB c else ZG else ZG
section
variable {X:Cx}{G:Gh}{P c:Addr}{q:Str}
theorem ZeT {lpos:Pos}{ps:Array Value}{H Hm:Hp}{c':Addr}{s:Pn}(TG:TabG P q G)(st:G.st s H)(hP:H P=some (.tbl ps))(sl:Slot P q lpos ps H Hm c'):G.st s Hm/\Hm c'=some (.ext (codeφ c' q))/\Zz G H Hm:=by
 rcases sl with⟨rfl,h1,h2⟩ | ⟨h1,h2,h3,rfl⟩
 ·exact⟨st,h2,.refl _ _⟩
 ·refine⟨TG.put s H ps lpos c' st hP h2 h1,ZO,fun b o n e=>?_⟩
  rw[Zp (Z6 e h2),Zp (fun z=>n (by rw[z];exact TG.fp))];exact e
theorem ZeU {Hf H Hm:Hp}{p:Addr}{o:HO}(e1:Zz G Hf H)(ex:Zz G H Hm)(hp:Hm p=none):Gr G Hf H Hf (Zm Hm p o):=by
 have hh:Zz G H (Zm Hm p o):=fun b u n e=>by
  have:=ex b u n e;rw[Zp (Z6 this hp)];exact this
 exact⟨hh,.refl _ _,e1.trans hh,fun _ _ h _=>h⟩
theorem Zo6 {base':Heap}{k:Nat}{T:Nat->List D->M D}{t:Nat}{p c':Addr}{fd:FuncData}{cvs:List V}{ps:List Str}{F:List D->M D}(hb:XV X.K fd ps [])(hF:FnOk X.prog X.w X.K X.mg base' ZQ k p fd ps (UB ps.length (Xz G t p c' fd q cvs) cvs F))(hT:T t=F) :
  VP X.prog X.w X.K X.mg k ps.length T base' (Xz G t p c' fd q cvs):=by
 rintro t' v cs ⟨rfl,rfl,rfl⟩;exact⟨p,fd,ps,rfl,rfl,hb,fun s H st h ok _=>fnφ_at ok st.2.1,by rw[hT];exact hF⟩
variable {k kl:Nat}{x:Str}{fr frb:Bool}{F:List D->M D}{T:Nat->List D->M D}{t:Nat}{e1:Expr}{f1:Zb->M D}{r1:Bool}{params:Arguments}{scope:Scope}{lpos ppos pos:Pos}{XN N ps:List Str}{NS:List (Str×NameKind)}{cix:List Nat}
theorem ofC {t:Nat}{p c':Addr}{fd:FuncData}{cvs:List V}{H:Hp}{d:D}{v:V}(n:Yx d=true)(r:Zk (Xz G t p c' fd q cvs) H d v):Zk G H d v:=Zk.re (G:=Xz G t p c' fd q cvs) (G':=G) rfl rfl n r
theorem toC {t:Nat}{p c':Addr}{fd:FuncData}{cvs:List V}{H:Hp}{d:D}{v:V}(n:Yx d=true)(r:Zk G H d v):Zk (Xz G t p c' fd q cvs) H d v:=Zk.re (G:=G) (G':=Xz G t p c' fd q cvs) rfl rfl n r
theorem toCL {t:Nat}{p c':Addr}{fd:FuncData}{cvs:List V}{H:Hp}{d:List D}{v:List V}(n:YF d=true)(r:Zi G H d v):Zi (Xz G t p c' fd q cvs) H d v:=Zi.re (G:=G) (G':=Xz G t p c' fd q cvs) rfl rfl n r
theorem grC {t:Nat}{p c':Addr}{fd:FuncData}{cvs:List V}{Hf H Hf' H':Hp}(g:Gr (Xz G t p c' fd q cvs) Hf H Hf' H'):Gr G Hf H Hf' H':=Gr.re (G:=Xz G t p c' fd q cvs) (G':=G) rfl g
theorem frC {t:Nat}{p c':Addr}{fd:FuncData}{cvs:List V}{H Hf':Hp}{d:D}{v:V}(n:Yx d=true)(h:YB (Xz G t p c' fd q cvs) H Hf' d v):YB G H Hf' d v:=YB.re (G:=Xz G t p c' fd q cvs) (G':=G) rfl rfl n h
theorem Zc9 {body:Expr}{fe:Zb->M D}(M:Mk0 X c P)(TG:TabG P q G)(hW:Ud X.prog X.w X.K X.mg k x 2 fr (VP X.prog X.w X.K X.mg (kl+1) ps.length T) F)(hfn:∀x,X.fn x=true)(hr:Room k X.A)(hg:Gl X x)(h1:PD X G r1 e1 f1)
  (hq:X.env.qual ++ "<lambda>" = q) (S:CloScope N ps scope) (B:CapS X XN NS N ps cix scope) (hT:T t=Xd N.length fe)
  (hbind:∀(cl:List (Str×Addr)) (pm cd ct:Value) (us:List Value),us.length=ps.length->bindArgs (qW "<lambda>" q params body scope cl pm cd ct) ⟨us,[]⟩=pure (ps.zip us))
  (hb:∀(base:Heap) (f c':Addr) (cl:List (Str×Addr)) (G:Gh) (A:Around) (outer:List Env) (s:Shared) (H:Hp) (E:XK),Room kl (A.deeper (zY q scope s.heap.objs.size f (.ref c') cl))->PD (UA ZQ X.prog X.w X.K X.mg base N q scope f (.ref c') cl A outer s H E).nox G frb body fe)
  (hdef:defaultsOf params X.env=([],[]):=by rfl) (hdb:(x==("__debug__" : Str))=false:=by decide)
  (he:starEach [e1,.Lambda params body scope lpos] X.env=(false,eval e1 X.env)::starEach [.Lambda params body scope lpos] X.env:=by rfl) (he2:starEach [Expr.Lambda params body scope lpos] X.env=(false,eval (.Lambda params body scope lpos) X.env)::starEach [] X.env:=by rfl)
  (hpl:(backTo pos (starEach [Expr.Lambda params body scope lpos] X.env)).any (·.1)=false:=by rfl) :
  PD X G fr (.Call (.Name x ppos) [e1,.Lambda params body scope lpos] [] pos) (Jb F t cix f1):=by
 obtain⟨t1,p1,q1⟩:=h1.drop;obtain⟨f,fd0,ps0,FN,hm,hk,hbd⟩:=hW;refine⟨_,Zf0 FN hfn hr hg hm hk hbd (YS p1 (YS (Zhm M hq B.hfree hdef) Y8 he2) he) hdb he hpl,fun σ Hf H ρ s d s' Q x1 x2 x3 x4 k=>?_⟩;obtain⟨d1,s1,a1,a2⟩:=Zy x4;obtain⟨cds,s2,b3,a4⟩:=Zy a2;obtain⟨a3,rfl⟩:=Wf b3;obtain⟨hn,a5⟩:=Y7 a4;obtain⟨cc,s3,a6,a7⟩:=Zy a5;obtain⟨hn2,a8⟩:=Y7 a7;obtain⟨rfl,rfl⟩:=ZL a8;obtain⟨hn0,hn1⟩:=yf.mp hn;refine q1 σ Hf H ρ s d1 _ _ x1 x2 x3 a1 fun v1 jT H1 g1 j6 rv1=>?_;obtain⟨tp,hP,htr,hhit⟩:=TG.get _ H1 j6;refine⟨tp,hP,htr,fun cv h=>let ⟨c',z1,z2,_⟩:=hhit lpos cv h;⟨c',z1,z2⟩,fun p c' fd Hm ⟨cl,pm,ctv,co,efd⟩ sl hp=>?_⟩;subst efd;obtain⟨stm,hc',ex⟩:=ZeT TG j6 hP sl;have gr:=ZeU (o:=.ext (fnφ p (qW "<lambda>" q params body scope cl pm (.ref c') ctv))) g1.fh ex hp;have hcp:c'≠p:=fun z=>by rw[z,hp] at hc';cases hc'
 obtain⟨cvs,l1,l2,l3⟩:=Zbu (x2.ext g1.ff) a3;intro base' cs;have C:CloAt base' cl scope N ps cvs:=B.cloAt cs co l1 l3;refine⟨Xz G t p c' (qW "<lambda>" q params body scope cl pm (.ref c') ctv) q cvs,jT,[d1,.clo t cds],_,d,_,Zo6 (X:=X) (.all (hbind cl pm (.ref c') ctv)) (fnKE S C (fun s H st=>st.2) fun A outer s H E hr=>hb base' p c' cl _ A outer s H E hr) hT,rfl,gr.fh,?_,⟨Gh.grow stm hp,ZO,by rw[Zp hcp];exact hc'⟩,a6,fun v Hf3 H3 g3 st3 r3 fz=>?_⟩
 ·refine .cons (toC hn0 rv1) (.one (jw.mpr ⟨cvs,⟨rfl,rfl,rfl⟩,toCL hn1 l2⟩))
 ·have g3':Gr G jT _ Hf3 H3:=grC g3
  have gg:=(g1.trans gr).trans g3';have rr:Zk G Hf3 d v:=ofC hn2 r3;refine k v Hf3 H3 gg st3.1 rr fun z=>?_;exact jo (g1.hh.trans gr.hh) rr.nofp (frC hn2 (fz z))
end
theorem boot_len:bootBuiltins "len" = some (.builtin "len"):=by decide +kernel
theorem boot_isinstance:bootBuiltins "isinstance" = some (.builtin "isinstance"):=by decide +kernel
theorem boot_all:bootBuiltins "all" = some (.builtin "all"):=by decide +kernel
theorem boot_max:bootBuiltins "max" = some (.builtin "max"):=by decide +kernel
theorem boot_min:bootBuiltins "min" = some (.builtin "min"):=by decide +kernel
theorem boot_sorted:bootBuiltins "sorted" = some (.builtin "sorted"):=by decide +kernel
theorem boot_tuple:bootBuiltins "tuple" = some (.type "tuple"):=by decide +kernel
theorem boot_list:bootBuiltins "list" = some (.type "list"):=by decide +kernel
theorem boot_int:bootBuiltins "int" = some (.type "int"):=by decide +kernel
theorem boot_bool:bootBuiltins "bool" = some (.type "bool"):=by decide +kernel
theorem boot_dict:bootBuiltins "dict" = some (.type "dict"):=by decide +kernel
noncomputable abbrev ZS:Gh->Prop:=fun _=>True
noncomputable def Zn9 (G:Gh)(ob own own':List Nat)(fr:Bool)(g:Zb->M Out):TS:=fun E σ H=>∃kn jV H0 ρ s out s',J G own kn jV H0 σ H ρ/\G.st s H/\g ρ s=some (out,s')/\Post G ob own' kn jV H0 fr out s' E
end TF
namespace TF
open L2
noncomputable def Ok {α:Type}(m:M α)(s:Pn)(Q:α->Pn->Prop):Prop:=∃a s',m s=some (a,s')/\Q a s'
theorem Ok.bind {α β:Type}{m:M α}{k:α->M β}{s:Pn}{Q:β->Pn->Prop}(h:Ok m s fun a s1=>Ok (k a) s1 Q):Ok (Zn m k) s Q:=by
 obtain⟨a,s1,e,b,s2,e2,q⟩:=h;exact⟨b,s2,by unfold Zn;rw[e];exact e2,q⟩
theorem Ok.ret {α:Type}{a:α}{s:Pn}{Q:α->Pn->Prop}(h:Q a s):Ok (ZB a) s Q:=⟨a,s,rfl,h⟩
theorem Ok.eq {α:Type}{m:M α}{s s':Pn}{a:α}{Q:α->Pn->Prop}(e:m s=some (a,s'))(h:Q a s'):Ok m s Q:=⟨a,s',e,h⟩
theorem Ok.mono {α:Type}{m:M α}{s:Pn}{Q Q':α->Pn->Prop}(h:Ok m s Q)(k:∀a s',Q a s'->Q' a s'):Ok m s Q':=let ⟨a,s',e,q⟩:=h;⟨a,s',e,k a s' q⟩
theorem Ok.of {α:Type}{o:Option α}{a:α}{s:Pn}{Q:α->Pn->Prop}(e:o=some a)(h:Q a s):Ok (YR o) s Q:=⟨a,s,by unfold YR;rw[e],h⟩
theorem Ok.ite {α:Type}{c:Prop}[Decidable c]{m:M α}{s:Pn}{Q:α->Pn->Prop}(hc:c)(h:Ok m s Q):Ok (if c then m else ZG) s Q:=by rw[if_pos hc];exact h
section
variable {ρ:Zb}{s:Pn}{Q:Out->Pn->Prop}{f:Zb->M D}{g1 g2:Zb->M Out}
theorem Ok.seq (h:Ok (g1 ρ) s fun o s1=>match o with | .nx ρ'=>Ok (g2 ρ') s1 Q | .rt d=>Q (.rt d) s1 | .bk ρ'=>Q (.bk ρ') s1 | .ct ρ'=>Q (.ct ρ') s1):Ok (Zh g1 g2 ρ) s Q:=by
 refine Ok.bind (h.mono fun o s1 q=>?_)
 cases o with
 | nx ρ'=>exact q
 | rt d=>exact .ret q
 | bk ρ'=>exact .ret q
 | ct ρ'=>exact .ret q
theorem Ok.next (h:Q (.nx ρ) s):Ok (Zs ρ) s Q:=.ret h
theorem Ok.sset {i:Nat}(h:Ok (f ρ) s fun d s1=>Q (.nx (ρ.set i (some d))) s1):Ok (ZT i f ρ) s Q:=.bind (h.mono fun _ _ q=>.ret q)
theorem Ok.sown {i:Nat}(h:Ok (f ρ) s fun d s1=>BE d=true/\Q (.nx (ρ.set i (some d))) s1):Ok (U8 i f ρ) s Q:=.bind (h.mono fun _ _ q=>.ite q.1 (.ret q.2))
theorem Ok.sret (h:Ok (f ρ) s fun d s1=>Q (.rt d) s1):Ok (ZP f ρ) s Q:=.bind (h.mono fun _ _ q=>.ret q)
theorem Ok.sif {c:Zb->M Bool}(h:Ok (c ρ) s fun b s1=>if b=true then Ok (g1 ρ) s1 Q else Ok (g2 ρ) s1 Q):Ok (YJ c g1 g2 ρ) s Q:=by
 refine .bind (h.mono fun b s1 q=>?_)
 cases b with
 | true=>simpa using q
 | false=>simpa using q
theorem Ok.sapp {i:Nat}{ds:List D}(hi:(ρ[i]?).bind id=some (.lst ds))(hl:ds.length<sizeLine)(h:Ok (f ρ) s fun d s1=>Q (.nx (ρ.set i (some (.lst (ds ++ [d]))))) s1):Ok (JV i f ρ) s Q:=by
 refine .bind (h.mono fun d s1 q=>?_);simp only[hi];exact .ite hl (.ret q)
theorem Ok.loop {τ:D->Zb->Option Zb}{body:Zb->M Out}(I:Nat->Zb->Pn->Prop):∀(ds:List D) (k:Nat) (ρ:Zb) (s:Pn),I k ρ s->
  (∀i d ρ s,ds[i]?=some d->I (k+i) ρ s->∃ρ1,τ d ρ=some ρ1/\Ok (body ρ1) s fun o s'=>∃ρ',o=.nx ρ'/\I (k+i+1) ρ' s')->Ok (Wv τ body ds ρ) s fun o s'=>∃ρ',o=.nx ρ'/\I (k+ds.length) ρ' s'
 | [],k,ρ,s,h0,_=>.ret ⟨ρ,rfl,h0⟩
 | d::ds,k,ρ,s,h0,h=>by
  obtain⟨ρ1,e1,ok⟩:=h 0 d ρ s rfl h0;refine Ok.bind (.of e1 (.bind (ok.mono fun o s' q=>?_)));obtain⟨ρ',rfl,q⟩:=q;refine(Ok.loop I ds (k+1) ρ' s' q fun i d' ρ2 s2 e2 q2=>?_).mono fun o s2 q2=>?_
  ·have:=h (i+1) d' ρ2 s2 (by simpa using e2) (by rw[show k+(i+1)=k+1+i by omega];exact q2)
   rw[show k+(i+1)+1=k+1+i+1 by omega] at this;exact this
  ·rw[show k+(d::ds).length=k+1+ds.length by simp;omega]
   exact q2
theorem Ok.sfor {fi:Zb->M (List D)}{τ:D->Zb->Option Zb}{body:Zb->M Out}(I:Nat->Zb->Pn->Prop)(h:Ok (fi ρ) s fun ds s1=>I 0 ρ s1/\(∀i d ρ s,ds[i]?=some d->I i ρ s->∃ρ1,τ d ρ=some ρ1/\Ok (body ρ1) s fun o s'=>∃ρ',o=.nx ρ'/\I (i+1) ρ' s')/\
  ∀ρ' s',I ds.length ρ' s'->Q (.nx ρ') s'):Ok (Ww fi τ body ρ) s Q:=by
 refine .bind (h.mono fun ds s1 q=>?_);obtain⟨q0,q1,q2⟩:=q;refine(Ok.loop I ds 0 ρ s1 q0 fun i d ρ s e=>?_).mono fun o s' q=>?_
 ·rw[qbb];exact q1 i d ρ s e
 ·obtain⟨ρ',rfl,q⟩:=q
  rw[qbb] at q;exact q2 ρ' s' q
end
section
variable {ρ ρ':Zb}{s s1 s2:Pn}{f f2:Zb->M D}{g1 g2:Zb->M Out}{d e c:D}{r:Option (Out×Pn)}
theorem YI {n k:Nat}{g:Zb->M Out}{ds:List D}(hl:ds.length=k)(h:g (ds.map some++qz (n-k) none) s=some (.rt d,s1)):runB n k g ds s=some (d,s1):=by
 unfold runB;rw[if_pos hl];unfold Zn;rw[h];rfl
theorem YE (h:f ρ s=some (d,s1)):ZP f ρ s=some (.rt d,s1):=by unfold ZP Zn;rw[h];rfl
theorem Z8 (h:g1 ρ s=some (.rt d,s1)):Zh g1 g2 ρ s=some (.rt d,s1):=by unfold Zh Zn;rw[h];rfl
theorem YL (h:g1 ρ s=some (.nx ρ',s1))(h2:g2 ρ' s1=r):Zh g1 g2 ρ s=r:=by unfold Zh Zn;rw[h];exact h2
theorem XR {i:Nat}(h:f ρ s=some (d,s1)):ZT i f ρ s=some (.nx (ρ.set i (some d)),s1):=by unfold ZT Zn;rw[h];rfl
theorem Zr {g:D->D->Option D}(h1:f ρ s=some (d,s1))(h2:f2 ρ s1=some (e,s2))(h:g d e=some c):Zd g f f2 ρ s=some (c,s2):=by
 unfold Zd Zn;rw[h1];simp only;rw[h2];simp only;unfold YR;rw[h]
theorem Yj {g:List D->Option D}{fs:Zb->M (List D)}{ds:List D}(h1:fs ρ s=some (ds,s1))(h:g ds=some c):ZA g fs ρ s=some (c,s1):=by
 unfold ZA Zn;rw[h1];simp only;unfold YR;rw[h]
theorem Z0 {F:List D->M D}{fs:Zb->M (List D)}{ds:List D}{q:Option (D×Pn)}(h1:fs ρ s=some (ds,s1))(h:F ds s1=q):Zo F fs ρ s=q:=by
 unfold Zo Zn;rw[h1];exact h
theorem Zg {fs:Zb->M (List D)}{ds:List D}(h1:f ρ s=some (d,s1))(h2:fs ρ s1=some (ds,s2)):Zc f fs ρ s=some (d::ds,s2):=by
 unfold Zc Zn;rw[h1];simp only;rw[h2];rfl
theorem WF {fs:Zb->M (List D)}{ds:List D}(h1:fs ρ s=some (ds,s1))(hl:ds.length<=sizeLine):Yc fs ρ s=some (.tup ds,s1):=by
 unfold Yc Zn;rw[h1];simp only;rw[if_pos hl];rfl
theorem Uq {fs:Zb->M (List D)}{ds:List D}(h1:fs ρ s=some (ds,s1))(hl:ds.length<=sizeLine):YX fs ρ s=some (.lst ds,s1):=by
 unfold YX Zn;rw[h1];simp only;rw[if_pos hl];rfl
theorem Yk {b:Bool}(h:f ρ s=some (.bl b,s1)):asB f ρ s=some (b,s1):=by unfold asB Zn;rw[h];rfl
theorem Bw {fb:Zb->M Bool}{b:Bool}(h:fb ρ s=some (b,s1)):X9 fb ρ s=some (!b,s1):=by unfold X9 Zn;rw[h];rfl
end
theorem Zef {τ:D->Zb->Option Zb}{ft:Zb->M Bool}{fe:Zb->M D}{ρ:Zb}{s:Pn}(r:D->Zb)(b:D->Bool)(c:D->D):∀(ds:List D),(∀d∈ds,τ d ρ=some (r d)/\ft (r d) s=some (b d,s)/\(b d=true->fe (r d) s=some (c d,s)))->
  U1 τ ft fe ρ ds s=some ((ds.filter b).map c,s)
 | [],_=>rfl
 | d::ds,h=>by
  obtain⟨h1,h2,h3⟩:=h d (by simp);have ih:=Zef r b c ds fun d' m=>h d' (by simp[m]);unfold U1;simp only[Zn,YR,h1,h2]
  cases hb:b d with
  | true=>simp[Zn,h3 hb,ih,hb,ZB]
  | false=>simp[ih,hb]
end TF
namespace TP
open L2 TF
noncomputable def Zhn:Zb->M Out:=(Zh (U8 1 (YX Ze))
 (Zh (Ww (YO (ZA Z3 (Zc (Za 0) Ze))) (ZD 2)
 (Zh (Ww (Zcz (Zd Yp (Za 2) (dC (.int 1))) (ZA Z3 (Zc (Za 0) Ze))) (ZD 3)
 (Zh (JV 1 (fun ρ=>(Yc (Zc (Zd Zj (Za 0) (Za 2)) (Zc (Zd Zj (Za 0) (Za 3)) Ze))) (YN [1] ρ)))
 Zs))
 Zs))
 (Zh (ZP (Za 1))
 Zs)))
noncomputable def VW:List D->M D:=runB 4 1 Zhn
noncomputable def Zda:Zb->M Out:=(Zh (ZP (Zd Xn (Yc (Zc (ZA U3 (Zc (Za 1) (Zc (Za 2) Ze))) (Zc (ZA Zk3 (Zc (Za 1) (Zc (Za 2) Ze))) Ze))) (Za 0)))
 Zs)
noncomputable def WQ:List D->M D:=runB 3 3 Zda
noncomputable def Zo7:Zb->M Out:=(Zh (ZP (ZY [none,some 0,some 1] (YO (Zd Zj (Za 0) (dC (.int 0)))) (ZD 0) (asB (Zo WQ (Zc (Zd Zj (Za 1) (dC (.int 1))) (Zc (Za 2) (Zc (Za 0) Ze))))) (Za 0)))
 Zs)
noncomputable def JI:List D->M D:=runB 2 2 Zo7
noncomputable def ZdP:Zb->M Out:=(Zh (ZP (ZA Zlb (Zc (ZY [none] (Wq (Zd Zj (Za 0) (dC (.int 1)))) (ZD 0) Z2 (Yc (Zc (Za 0) (Zc (dC (.bl true)) Ze)))) Ze)))
 Zs)
noncomputable def Vd:List D->M D:=runB 1 1 ZdP
noncomputable def ZdQ:Zb->M Out:=(Zh (ZP (Wu (ZA Uc (Zc (Za 0) (Zc (dC (.ty "tuple")) Ze))) (Zd XY (ZA Z3 (Zc (Za 0) Ze)) (Za 1))))
 Zs)
noncomputable def Jk:List D->M D:=runB 2 2 ZdQ
noncomputable def Zho:Zb->M Out:=(Zh (ZP (Wu (ZA Uc (Zc (Za 0) (Zc (dC (.ty "int")) Ze))) (JT (ZA Uc (Zc (Za 0) (Zc (dC (.ty "bool")) Ze))))))
 Zs)
noncomputable def Bh:List D->M D:=runB 1 1 Zho
noncomputable def Zhp:Zb->M Out:=(Zh (ZP (Wu (Zo Bh (Zc (Za 1) Ze)) (Wu (Zd WM (dC (.int 0)) (Za 1)) (Zd WN (Za 1) (Za 0)))))
 Zs)
noncomputable def VX:List D->M D:=runB 2 2 Zhp
noncomputable def Znb:Zb->M Out:=(Zh (ZP (ZA VO (Zc (ZY [none,some 0] (YO (Zd W4 (ZA Z3 (Zc (Za 0) Ze)) (dC (.int 1)))) (ZD 0) Z2 (Zd WN (Zd Zj (Za 1) (Za 0)) (Zd Zj (Za 1) (Zd Yp (Za 0) (dC (.int 1)))))) Ze)))
 Zs)
noncomputable def Bx:List D->M D:=runB 1 1 Znb
end TP
namespace TP
open L2 TF
local macro_rules | `(tactic| walk_at "ev")=>`(tactic| simp[runB,Zh,ZP,ZT,Zs,YJ,asB,Zd,ZA,Zc,Ze,Yc,YX,Za,dC,Zo,Zn,ZB,YR,Yp,W4,dI,YN,X7,vOr,Wu,JT,Wt,Vu,X9])
noncomputable def Ym (p:Nat×Nat):D:=.tup [.int p.1,.int p.2]
noncomputable def ZF (n:Nat)(jK:List (Nat×Nat)):D:=.tup [.int n,.tup (jK.map Ym)]
noncomputable def tied (jK:List (Nat×Nat))(a b:Nat):Bool:=decide ((min a b,max a b)∈jK)
theorem Zcb:∀jK:List (Nat×Nat),Yw (jK.map Ym)=true
 | []=>by simp[Yw]
 | t::ts=>by simp[Yw,Ym,Zq,Zcb ts]
theorem Zdb:∀jK:List (Nat×Nat),Xl (jK.map Ym)<=1
 | []=>by simp[Xl]
 | t::ts=>by
  have:=Zdb ts;simp only[zb,Xl,Ym,Yg];omega
theorem V7 {α:Type}(x:α)(xs:List α):XD (x::xs) 0=some x:=WC (j:=0) rfl
theorem JQ {α:Type}(x y:α)(xs:List α):XD (x::y::xs) 1=some y:=WC (j:=1) rfl
theorem two_le:2<=sizeLine:=by decide
theorem Zhq (a b:Nat):D.tup [.int (if b<a then (b:Int) else a),.int (if a<b then (b:Int) else a)]=Ym (min a b,max a b):=by
 unfold Ym;congr 2
 ·congr 1;split <;> omega
 ·congr 2;split <;> omega
theorem YW {src:List (Option Nat)}{fi:Zb->M (List D)}{τ:D->Zb->Option Zb}{ft:Zb->M Bool}{fe:Zb->M D}{ρ:Zb}{s:Pn}{ds:List D}(r:D->Zb)(b:D->Bool)(c:D->D)(hi:fi ρ s=some (ds,s))(hl:ds.length<=sizeLine)
  (h:∀d∈ds,τ d (X7 src ρ)=some (r d)/\ft (r d) s=some (b d,s)/\(b d=true->fe (r d) s=some (c d,s))):ZY src fi τ ft fe ρ s=some (.lst ((ds.filter b).map c),s):=by
 unfold ZY;simp only[Zn,hi,hl,if_true,Zef r b c ds h,ZB]
theorem small_int (n:Nat)(h:n<=100000):-(2 ^ 62)<=(n:Int)/\(n:Int)<2 ^ 62:=by omega
theorem Yv:sizeLine=16777216:=by decide
theorem Vf {f:Zb->M D}{ρ:Zb}{s:Pn}{n:Nat}(h:f ρ s=some (.int n,s))(hn:n<=100000):YO f ρ s=some (Ye 0 n,s):=by
 unfold YO;simp only[Zn,h];show(if -(2 ^ 62)<=(n:Int)/\(n:Int)<2 ^ 62 then ZB (Ye 0 (n:Int).toNat) else ZG) s=_;rw[if_pos (small_int n hn)];rfl
theorem Zjz {f g:Zb->M D}{ρ:Zb}{s:Pn}{a n:Nat}(h:f ρ s=some (.int a,s))(h2:g ρ s=some (.int n,s))(ha:a<=100000)(hn:n<=100000):Zcz f g ρ s=some (Ye a (n-a),s):=by
 unfold Zcz;simp only[Zn,h,h2];show(if -(2 ^ 62)<=(a:Int)/\(a:Int)<2 ^ 62/\-(2 ^ 62)<=(n:Int)/\(n:Int)<2 ^ 62 then ZB (Ye a ((n:Int)-a).toNat) else ZG) s=_;rw[if_pos (by omega),show((n:Int)-(a:Int)).toNat=n-a by omega];rfl
theorem WB (lo:Int)(n:Nat):(Ye lo n).length=n:=by simp[Ye]
theorem Zbn {lo n i:Nat}{d:D}(h:(Ye lo n)[i]?=some d):i<n/\d=.int ((lo+i:Nat):Int):=by
 have hi:i<n:=by
  have:=(qL.mp h).1;simpa[Ye] using this
 refine⟨hi,?_⟩;unfold Ye at h;rw[qD,z6 hi] at h;simp at h;rw[<-h];simp
theorem UI {n:Nat}{d:D}(h:d∈Ye 0 n):∃i:Nat,i<n/\d=.int (i:Int):=by
 unfold Ye at h;obtain⟨i,hi,e⟩:=qy.mp h;exact⟨i,by simpa using hi,by rw[<-e];simp⟩
theorem V4 (n:Nat):Ye 0 n=(qp n).map fun(i:Nat)=>D.int (i:Int):=by
 unfold Ye;simp
noncomputable def Yi:D->Nat
 | .int i=>i.toNat
 | _=>0
theorem Zau (n:Nat)(p:Nat->Bool):((Ye 0 n).filter fun d=>p (Yi d)).map (fun d=>d)=((qp n).filter p).map fun(i:Nat)=>D.int (i:Int):=by
 rw[V4,yg];simp only[qbc];congr 1
end TP
namespace TP
open L2 TF
theorem jz {α:Type}{m:M α}{s s':Pn}{a:α}(h:Ok m s fun b t=>b=a/\t=s'):m s=some (a,s'):=by
 obtain⟨b,t,e,rfl,rfl⟩:=h;exact e
theorem ZeV {n:Nat}(hn:n<=100000):(Ye 0 n).length<=sizeLine:=by rw[WB,Yv];omega
noncomputable def JX (row:D)(ds:List D):Prop:=row=.lst ds∨row=.tup ds
theorem JX.len {row:D}{ds:List D}(h:JX row ds):Z3 [row]=some (.int ds.length):=by
 rcases h with rfl | rfl <;> rfl
theorem JX.ix {row:D}{ds:List D}(h:JX row ds){i:Nat}(hi:i<ds.length):Zj row (.int (i:Int))=some (ds.getD i .non):=by
 have e:ds[i]?=some (ds.getD i .non):=by simp[qaQ,hi]
 rcases h with rfl | rfl <;> exact WC e
noncomputable def WL (n i:Nat):List (Nat×Nat):=(qp i).flatMap fun a=>(qp (n-(a+1))).map fun k=>(a,a+1+k)
noncomputable def YQ (n:Nat):List (Nat×Nat):=WL n n
theorem Zeg (n i:Nat):WL n (i+1)=WL n i++(qp (n-(i+1))).map fun k=>(i,i+1+k):=by
 unfold WL;rw[qbs,List.flatMap_append];simp
theorem Zbv (n:Nat):∀i,(WL n i).length<=i*n
 | 0=>by simp[WL]
 | i+1=>by
  have:=Zbv n i;rw[Zeg,qY,qd,qJ];have e:(i+1)*n=i*n+n:=Nat.succ_mul i n;omega
noncomputable def WO (ds:List D)(p:Nat×Nat):D:=.tup [ds.getD p.1 .non,ds.getD p.2 .non]
theorem Znc (n i j:Nat)(hn:n<=1000)(hi:i<n)(hj:j<=n):(WL n i).length+j<sizeLine:=by
 have h1:=Zbv n i;have h2:i*n<=1000*1000:=qbx (by omega) hn;rw[Yv];omega
theorem Zcc (row:D)(ds:List D)(h:JX row ds)(hn:ds.length<=1000)(s:Pn):VW [row] s=some (.lst ((YQ ds.length).map (WO ds)),s):=by
 refine YI rfl (jz ?_);refine Ok.seq (.sown (.eq (a:=.lst []) rfl ⟨rfl,?_⟩));show Ok _ s _;refine Ok.seq (.sfor (fun i ρ s'=>s=s'/\∃o2 o3,ρ=[some row,some (.lst ((WL ds.length i).map (WO ds))),o2,o3]) (.eq (Vf (Yj (Zg rfl rfl) h.len) (by omega)) ⟨⟨rfl,none,none,rfl⟩,fun i d ρ s' hd hI=>?_,fun ρ' s' hI=>?_⟩))
 ·obtain⟨rfl,o2,o3,rfl⟩:=hI
  obtain⟨hi,rfl⟩:=Zbn hd;refine⟨_,rfl,?_⟩;refine Ok.seq (.sfor (fun j ρ s'=>s=s'/\∃o3,ρ=[some row,some (.lst ((WL ds.length i).map (WO ds)++(qp j).map fun k=>WO ds (i,i+1+k))),some (.int ((0+i:Nat):Int)),o3]) (.eq (Zjz (a:=i+1) (Zr (d:=.int ((0+i:Nat):Int)) (e:=.int 1) (c:=.int ((i+1:Nat):Int)) rfl rfl (by simp[Yp])) (Yj (Zg rfl rfl) h.len) (by omega) (by omega)) ⟨⟨rfl,o3,by simp⟩,fun j d ρ s' hd hJ=>?_,fun ρ' s' hJ=>?_⟩))
  ·obtain⟨rfl,o3,rfl⟩:=hJ
   obtain⟨hj,rfl⟩:=Zbn hd;refine⟨_,rfl,?_⟩;refine Ok.seq (.sapp (ds:=(WL ds.length i).map (WO ds)++(qp j).map fun k=>WO ds (i,i+1+k)) rfl (by simp only[qY,qd,qJ];exact Znc _ _ _ hn hi (by omega)) (.eq (WF (Zg (Zr (d:=row) (e:=.int ((0+i:Nat):Int)) rfl rfl (by rw[qbb];exact h.ix hi)) (Zg (Zr (d:=row) (e:=.int ((i+1+j:Nat):Int)) rfl rfl (h.ix (by omega))) rfl)) two_le) ?_));refine Ok.next ⟨_,rfl,rfl,some (.int ((i+1+j:Nat):Int)),?_⟩;rw[qbs,zD,<-qar];rfl
  ·obtain⟨rfl,o3',rfl⟩:=hJ
   refine Ok.next ⟨_,rfl,rfl,some (.int ((0+i:Nat):Int)),o3',?_⟩;rw[Zeg,zD,qG,WB];rfl
 ·obtain⟨rfl,o2,o3,rfl⟩:=hI
  refine Ok.seq (.sret (.eq rfl ⟨?_,rfl⟩));rw[WB];rfl
end TP
namespace TP
open L2 TF
noncomputable def W8 (p:Nat×Nat):List Zt:=[.inl (p.1:Int),.inl (p.2:Int)]
theorem Zlf {p q:Nat×Nat}(h:W8 p=W8 q):p=q:=by
 simp only[W8,List.cons.injEq,zp.injEq,and_true] at h;obtain⟨a,b⟩:=p;obtain⟨c,d⟩:=q;simp only at h;have h1:a=c:=by omega
 have h2:b=d:=by omega
 rw[h1,h2]
noncomputable def Xo (jR:List (List Zt×V))(jK:List (Nat×Nat)):List (List Zt×V):=jK.foldl (fun jR p=>Yo jR (W8 p) (.bl true)) jR
theorem Znd (p:Nat×Nat):Zis (.tup [Ym p,.bl true])=some (W8 p,.bl true):=rfl
theorem Zeh:∀(jK:List (Nat×Nat)) (jR:List (List Zt×V)),Vj jR (jK.map fun p=>D.tup [Ym p,.bl true])=some (Xo jR jK)
 | [],jR=>rfl
 | t::ts,jR=>by
  rw[zb];unfold Vj;rw[Znd];exact Zeh ts _
theorem Zf1 (p:Nat×Nat):∀(jK:List (Nat×Nat)) (jR:List (List Zt×V)),(ZZ (Xo jR jK) (W8 p)).isSome=(decide (p∈jK)||(ZZ jR (W8 p)).isSome)
 | [],jR=>by simp[Xo]
 | t::ts,jR=>by
  have ih:=Zf1 p ts (Yo jR (W8 t) (.bl true));have e:Xo jR (t::ts)=Xo (Yo jR (W8 t) (.bl true)) ts:=rfl;rw[e,ih,ZfK];by_cases h:p=t
  ·subst h;simp
  ·have hk:¬W8 p=W8 t:=fun z=>h (Zlf z)
   rw[if_neg hk];simp[h]
theorem Za8 (n:Nat)(jK:List (Nat×Nat))(s:Pn)(hl:jK.length<=100000):Vd [ZF n jK] s=some (.dt (Xo [] jK),s):=by
 have hc:ZY [none] (Wq (Zd Zj (Za 0) (dC (.int 1)))) (ZD 0) Z2 (Yc (Zc (Za 0) (Zc (dC (.bl true)) Ze))) [some (ZF n jK)] s=some (.lst ((jK.map Ym).map fun d=>D.tup [d,.bl true]),s):=by
  have q:=YW (src:=[none]) (fi:=Wq (Zd Zj (Za 0) (dC (.int 1)))) (τ:=ZD 0) (ft:=Z2) (fe:=Yc (Zc (Za 0) (Zc (dC (.bl true)) Ze))) (ρ:=[some (ZF n jK)]) (s:=s) (ds:=jK.map Ym) (fun d=>[some d]) (fun _=>true) (fun d=>D.tup [d,.bl true])
   (by unfold Wq Zn;rw[Zr (d:=ZF n jK) (e:=.int 1) (c:=.tup (jK.map Ym)) rfl rfl (by unfold ZF;exact JQ _ _ _)];rfl) (by rw[qd,Yv];omega)
   (fun d hd=>⟨rfl,rfl,fun _=>WF (Zg rfl (Zg rfl rfl)) two_le⟩)
  have q2:(jK.map Ym).filter (fun _=>true)=jK.map Ym:=zU.mpr (by simp);rw[q,q2]
 refine YI rfl (Z8 (YE (Yj (Zg hc rfl) ?_)));rw[qG];show(if ((jK.map ((fun d=>D.tup [d,.bl true])∘Ym)).length<=sizeLine) then (Vj [] _).map D.dt else none)=_;rw[if_pos (by rw[qd,Yv];omega)];have e:=Zeh jK [];show(Vj [] (jK.map fun p=>D.tup [Ym p,.bl true])).map D.dt=_;rw[e];rfl
theorem Zf2 {n i:Nat}{p:Nat×Nat}(h:p∈WL n i):p.1<i/\p.1<p.2/\p.2<n:=by
 unfold WL at h;obtain⟨a,ha,h⟩:=List.mem_flatMap.mp h;obtain⟨k,hk,rfl⟩:=qy.mp h;simp at ha hk;exact⟨ha,by simp;omega,by simp;omega⟩
theorem ZjA {n:Nat}{p:Nat×Nat}(h:p∈YQ n):WO (Ye 0 n) p=Ym p:=by
 obtain⟨h1,h2,h3⟩:=Zf2 h;have g:∀i,i<n->(Ye 0 n).getD i .non=.int (i:Int):=fun i hi=>by
  rw[V4];simp[qaQ,hi]
 unfold WO Ym;rw[g _ h1,g _ h3]
theorem Zf3 {n:Nat}(s:Pn)(hn:n<=1000):VW [.lst (Ye 0 n)] s=some (.lst ((YQ n).map Ym),s):=by
 rw[Zcc _ _ (.inl rfl) (by rw[WB];exact hn) s,WB];congr 3;exact zt fun p hp=>ZjA hp
theorem Zbw {f:Zb->M D}{ρ:Zb}{s:Pn}{n:Nat}(h:f ρ s=some (.int n,s))(hn:n<=1000):VU f ρ s=some (.lst (Ye 0 n),s):=by
 unfold VU Zn;rw[h];show(if -(2 ^ 62)<=(n:Int)/\(n:Int)<=2 ^ 24 then ZB (D.lst (Ye 0 (n:Int).toNat)) else ZG) s=_;rw[if_pos (by omega)];rfl
theorem Zf4 (n:Nat)(hn:n<=1000):(YQ n).length<=1000000:=by
 have h1:=Zbv n n;have h2:n*n<=1000*1000:=qbx hn hn;unfold YQ;omega
theorem ZeW (l:List (Nat×Nat))(b:D->Bool)(q:Nat×Nat->Bool)(h:∀p,b (Ym p)=q p):((l.map Ym).filter b).map (fun d=>d)=(l.filter q).map Ym:=by
 rw[yg,qbc];congr 1;exact qat fun p _=>h p
noncomputable def BW:D->Nat×Nat
 | .tup [a,b]=>(Yi a,Yi b)
 | _=>(0,0)
theorem Zei (p:Nat×Nat):BW (Ym p)=p:=rfl
end TP
namespace TF
open L2
theorem Ok.runB {n k:Nat}{g:Zb->M Out}{ds:List D}{s:Pn}{Q:D->Pn->Prop}(hl:ds.length=k)(h:Ok (g (ds.map some++qz (n-k) none)) s fun o s'=>match o with | .rt d=>Q d s' | .nx _=>Q .non s' | _=>False):Ok (runB n k g ds) s Q:=by
 unfold TF.runB;rw[if_pos hl];refine .bind (h.mono fun o s' q=>?_)
 cases o with
 | rt d=>exact .ret q
 | nx ρ=>exact .ret q
 | bk ρ=>exact q.elim
 | ct ρ=>exact q.elim
theorem Ok.bor {f g:Zb->M Bool}{ρ:Zb}{s:Pn}{Q:Bool->Pn->Prop}(h:Ok (f ρ) s fun b s1=>if b=true then Q true s1 else Ok (g ρ) s1 Q):Ok (Vu f g ρ) s Q:=by
 refine .bind (h.mono fun b s1 q=>?_)
 cases b with
 | true=>exact .ret (by simpa using q)
 | false=>simpa using q
theorem Ok.fn {F:List D->M D}{fs:Zb->M (List D)}{ρ:Zb}{s s1:Pn}{ds:List D}{Q:D->Pn->Prop}(h1:fs ρ s=some (ds,s1))(h:Ok (F ds) s1 Q):Ok (Zo F fs ρ) s Q:=by
 obtain⟨a,s',e,q⟩:=h;exact⟨a,s',Z0 h1 e,q⟩
theorem Ok.op {g:D->D->Option D}{f f2:Zb->M D}{ρ:Zb}{s:Pn}{Q:D->Pn->Prop}(h:Ok (f ρ) s fun d s1=>Ok (f2 ρ) s1 fun e s2=>∃c,g d e=some c/\Q c s2):Ok (Zd g f f2 ρ) s Q:=
 .bind (h.mono fun d s1 q=>.bind (q.mono fun e s2 q=>let ⟨c,e1,q⟩:=q;.of e1 q))
theorem Ok.cons {f:Zb->M D}{fs:Zb->M (List D)}{ρ:Zb}{s:Pn}{Q:List D->Pn->Prop}(h:Ok (f ρ) s fun d s1=>Ok (fs ρ) s1 fun ds s2=>Q (d::ds) s2):Ok (Zc f fs ρ) s Q:=
 .bind (h.mono fun d s1 q=>.bind (q.mono fun e s2 q=>.ret q))
theorem Ok.nil {ρ:Zb}{s:Pn}{Q:List D->Pn->Prop}(h:Q [] s):Ok (Ze ρ) s Q:=.ret h
theorem Ok.asB {f:Zb->M D}{ρ:Zb}{s:Pn}{Q:Bool->Pn->Prop}(h:Ok (f ρ) s fun d s1=>∃b,d=.bl b/\Q b s1):Ok (asB f ρ) s Q:=
 .bind (h.mono fun d s1 q=>by obtain⟨b,rfl,q⟩:=q;exact .ret q)
theorem Ok.bnot {f:Zb->M Bool}{ρ:Zb}{s:Pn}{Q:Bool->Pn->Prop}(h:Ok (f ρ) s fun b s1=>Q (!b) s1):Ok (X9 f ρ) s Q:=.bind (h.mono fun _ _ q=>.ret q)
end TF
namespace TP
open L2 TF
theorem Wo {n:Nat}{p:Nat×Nat}:p∈YQ n↔p.1<p.2/\p.2<n:=by
 constructor
 ·intro h;exact(Zf2 h).2
 ·intro ⟨h1,h2⟩
  unfold YQ WL;refine List.mem_flatMap.mpr ⟨p.1,by simp;omega,qy.mpr ⟨p.2-(p.1+1),by simp;omega,?_⟩⟩;obtain⟨a,b⟩:=p;simp only at h1 h2⊢;rw[show a+1+(b-(a+1))=b by omega]
theorem Zcd {n i:Nat}{d:D}(h:(Ye 0 n)[i]?=some d):i<n/\d=.int (i:Int):=by
 have:=Zbn (lo:=0) h;rw[qbb] at this;exact this
noncomputable def IsWeb (n:Nat)(jK:List (Nat×Nat)):Prop:=jK.Sublist (YQ n)
theorem IsWeb.mem {n:Nat}{jK:List (Nat×Nat)}(h:IsWeb n jK){p:Nat×Nat}(hp:p∈jK):p.1<p.2/\p.2<n:=Wo.mp (h.subset hp)
theorem IsWeb.len {n:Nat}{jK:List (Nat×Nat)}(h:IsWeb n jK)(hn:n<=24):jK.length<=576:=by
 have h1:=h.length_le;have h2:=Zbv n n;have h3:n*n<=24*24:=qbx hn hn;unfold YQ at h1;omega
theorem IsWeb.filter {n:Nat}(f:Nat×Nat->Bool):IsWeb n ((YQ n).filter f):=zg
theorem Jz {jK:List (Nat×Nat)}{a b:Nat}(h:a<b):tied jK a b=decide ((a,b)∈jK):=by
 unfold tied;rw[show min a b=a by omega,show max a b=b by omega]
theorem V0 (jK:List (Nat×Nat))(a b:Nat):tied jK a b=tied jK b a:=by
 unfold tied;rw[show min a b=min b a by omega,show max a b=max b a by omega]
theorem ZeX (n:Nat)(jK:List (Nat×Nat)):Yg (ZF n jK)<=3:=by
 have:=Zdb jK;simp only[ZF,Yg,Xl];omega
theorem Ue {n:Nat}{jK:List (Nat×Nat)}:Zj (ZF n jK) (.int 0)=some (.int n):=by unfold ZF;exact V7 _ _
theorem web1 {n:Nat}{jK:List (Nat×Nat)}:Zj (ZF n jK) (.int 1)=some (.tup (jK.map Ym)):=by unfold ZF;exact JQ _ _ _
end TP
namespace TP
open L2 TF
end TP
namespace HT
section
variable {prog:Program}{w:World}{A:Around}{E:Value->Shared->Prop}{s:Shared}
theorem getItem_tuple_whole {t sl:Addr}{items:Array Value}{vl vu:Value}{lo hi:Option Int}{Q:Value->Shared->Prop}(ht:IsTup s.heap t items)(hs:s.heap.IsSliceOf sl vl vu .none)(pl:IsPart vl lo)(pu:IsPart vu hi)
  (hw:sIx items.size 0 lo=0/\sIx items.size items.size hi=items.size)
  (h:Q (.ref t) s)
  (hsz:items.size<=sizeLine):wpAny (model prog w) A (getItem (.ref t) (.ref sl)) Q E s:=by
 obtain⟨os,hos,hcs,hds⟩:=id hs;have hTs:s.TypeIs (.ref sl) "slice":=⟨os,hos,hcs⟩;unfold getItem
 try with_reducible refine wpAny_holding ?_
 first | refine wpAny_bind (wpAny_pure ?_) | skip
 refine wpAny_bind (wpAny_sequenceKey ht.typeIs (by decide) ?_);refine wpAny_bind (wpAny_callSpecial?_slot (name:=qE "__getitem__") ht.typeIs zB
  (wpAny_call_entry zB ht.typeIs entry_tuple_getitem ?_ (args_tuple_getitem _ _)))
 show wpAny _ _ (qaW (.ref t) >>= _) _ _ s;refine wpAny_bind (tupleItemsOf_ ht ?_);refine wpAny_bind (wpAny_typeOf hTs ?_);rw[if_pos (by decide)];refine wpAny_bind (ZaF hs pl pu ?_);have hyes:((((sIx items.size 0 lo:Nat):Int)==0&&(1:Int)==1&&(sIx items.size items.size hi-sIx items.size 0 lo)==items.size)=true):=by
  rw[hw.1,hw.2];simp
 show wpAny _ _ (if (((sIx items.size 0 lo:Nat):Int)==0&&(1:Int)==1&&(sIx items.size items.size hi-sIx items.size 0 lo)==items.size)=true then _ else _) _ _ s;rw[if_pos hyes];unfold Builtin.Tuple.tupleIsExact;refine wpAny_bind (wpAny_bind (wpAny_typeOf ht.typeIs ?_));refine wpAny_pure ?_;rw[if_pos (by decide)];refine wpAny_bind (wpAny_rule ?_)
 first
  | exact wpAny_bind (wpAny_pure ⟨_,rfl,wpAny_pure h⟩)
  | exact wpAny_bind (wpAny_pure (wpAny_pure ⟨_,rfl,wpAny_pure h⟩))
end
end HT
namespace TF
open L2
noncomputable def ZpO (K:qk):V->Option Int->Option Int->Hp->VK->Prop:=fun x lo hi H Q=>∃a xs,x=.ref a/\ZU K H a xs/\
 (HT.sIx xs.length 0 lo=0/\HT.sIx xs.length xs.length hi=xs.length)/\Q (.ref a) H
section
variable {X:Cx}{G:Gh}
theorem Zne:Uy X (ZpO X.K):=by
 intro jJ s σ H x v vl vu lo hi sl Q I rx hs pl pu h;obtain⟨a,xs,rfl,hx,hw,q⟩:=h
 cases rx
 obtain⟨jL,r,ht,hz⟩:=I.tuple hx;have jS:jL.toArray.size=xs.length:=by rw[qC];exact r.length.symm
 refine⟨"tuple",_,zB.lookup,ht.typeIs,?_⟩;exact HT.getItem_tuple_whole ht hs pl pu (by rw[jS];exact hw) ⟨.ref a,H,I,rfl,q⟩ (by rw[jS];exact hz)
noncomputable def Vt (ds:List D)(lo hi:Option Int):List D:=(ds.drop (HT.sIx ds.length 0 lo)).take (HT.sIx ds.length ds.length hi-HT.sIx ds.length 0 lo)
noncomputable def POD (X:Cx)(G:Gh)(e:Option Expr)(f:Zb->M (Option Int)):Prop:=
 ∃t,PO X e t/\∀(σ:St) (Hf H:Hp) (ρ:Zb) (s:Pn) (o:Option Int) (s':Pn) (Q:Option Int->Hp->Prop),Zz G Hf H->YM G Hf σ ρ->G.st s H->f ρ s=some (o,s')->
  (∀Hf' H',Gr G Hf H Hf' H'->G.st s' H'->Q o H')->t σ H Q
noncomputable def BQ:Zb->M (Option Int):=fun _=>ZB none
noncomputable def U4 (f:Zb->M D):Zb->M (Option Int):=fun ρ=>Zn (f ρ) fun d=>match d with | .int i=>ZB (some i) | _=>ZG
theorem Zf5:POD X G none BQ:=⟨_,ZmR,fun σ Hf H ρ s o s' Q e1 e2 e3 e4 k=>by
 obtain⟨rfl,rfl⟩:=ZL e4;exact k Hf H (.refl e1) e3⟩
theorem Zf6 {e:Expr}{f:Zb->M D}{r1:Bool}(h:PD X G r1 e f):POD X G (some e) (U4 f):=by
 obtain⟨t,p,q⟩:=h.drop;refine⟨_,ZmS p,fun σ Hf H ρ s o s' Q e1 e2 e3 e4 k=>?_⟩;obtain⟨d,s1,a1,a2⟩:=Zy e4;refine q σ Hf H ρ s d s1 _ e1 e2 e3 a1 fun v jT H1 g1 j6 r1=>?_
 match d,a2,r1 with
 | .int i,a2,r1=>
  obtain⟨rfl,rfl⟩:=ZL a2;exact⟨i,ja.mp r1,k jT H1 g1 j6⟩
noncomputable def UU (f:Zb->M D)(fl fh:Zb->M (Option Int)):Zb->M D:=fun ρ=>Zn (f ρ) fun d=>Zn (fl ρ) fun lo=>Zn (fh ρ) fun hi=>match d with
 | .tup ds=>ZB (.tup (Vt ds lo hi))
 | .lst ds=>ZB (.lst (Vt ds lo hi))
 | _=>ZG
theorem Ziv {Hf:Hp}{ds:List D}{vs:List V}(r:Zi G Hf ds vs)(lo hi:Option Int):Zi G Hf (Vt ds lo hi) (VL vs lo hi):=by
 unfold Vt VL;rw[r.length];exact(r.drop _).take _
theorem Zhr {ds:List D}{lo hi:Option Int}(h:HT.sIx ds.length 0 lo=0/\HT.sIx ds.length ds.length hi=ds.length):Vt ds lo hi=ds:=by
 unfold Vt;rw[h.1,h.2];simp
theorem Zf7 {e:Expr}{lo hi:Option Expr}{p2 pos:Pos}{f:Zb->M D}{fl fh:Zb->M (Option Int)}{r1:Bool}(he:PD X G r1 e f)(hl:POD X G lo fl)(hh:POD X G hi fh):PD X G true (.Subscript e (.Slice lo hi none p2) pos) (UU f fl fh):=by
 obtain⟨t,p,q⟩:=he.drop;obtain⟨tl,pl,ql⟩:=hl;obtain⟨th,ph,qh⟩:=hh;refine⟨_,ZkR (ZmU.or (ZoP.or Zne)) p pl ph,fun σ Hf H ρ s d s' Q e1 e2 e3 e4 k=>?_⟩;obtain⟨d0,s1,a1,a2⟩:=Zy e4;obtain⟨lo',s2,a3,a4⟩:=Zy a2;obtain⟨hi',s3,a5,a6⟩:=Zy a4;refine q σ Hf H ρ s d0 s1 _ e1 e2 e3 a1 fun v jT H1 g1 j6 r1=>?_;refine ql σ jT H1 ρ s1 lo' s2 _ g1.fh (e2.ext g1.ff) j6 a3 fun j7 H2 g2 jX=>?_;refine qh σ j7 H2 ρ s2 hi' s3 _ g2.fh ((e2.ext g1.ff).ext g2.ff) jX a5 fun Hf3 H3 g3 st3=>?_;have rr:=(r1.ext g2.ff).ext g3.ff;have g:=(g1.trans g2).trans g3
 match d0,a6,rr with
 | .lst ds,a6,rr=>
  obtain⟨rfl,rfl⟩:=ZL a6;obtain⟨a,vs,rfl,na,ha,ra⟩:=jc.mp rr;refine .inl ⟨a,vs,rfl,ZH.of (g.fh _ _ na ha),fun l hl=>?_⟩;have nf:=Gh.nofp st3 hl;have g2:=Gr.new (o:=.lst (VL vs lo' hi')) g.fh hl nf;have rr:=Ziv ra lo' hi';exact k (.ref l) _ _ (g.trans g2) (Gh.grow st3 hl) (jc.mpr ⟨l,_,rfl,nf,ZO,rr.ext g2.ff⟩) fun _=>jo g.hh (fun a ea _=>by cases ea;exact nf) (YB.mk g.fh hl nf rr)
 | .tup ds,a6,rr=>
  obtain⟨rfl,rfl⟩:=ZL a6;obtain⟨a,vs,rfl,na,ha,ra⟩:=jb.mp rr;by_cases hw:HT.sIx vs.length 0 lo'=0/\HT.sIx vs.length vs.length hi'=vs.length
  ·refine .inr (.inr ⟨a,vs,rfl,ZU.of (g.fh _ _ na ha),hw,?_⟩)
   rw[<-ra.length] at hw;exact k (.ref a) _ _ g st3 (by rw[Zhr hw];exact rr) fun _=>.scal fun z=>z
  ·refine .inr (.inl ⟨a,vs,rfl,ZU.of (g.fh _ _ na ha),hw,fun l hl=>?_⟩)
   have nf:=Gh.nofp st3 hl;have g2:=Gr.new (o:=.tup (VL vs lo' hi')) g.fh hl nf;exact k (.ref l) _ _ (g.trans g2) (Gh.grow st3 hl) (jb.mpr ⟨l,_,rfl,nf,ZO,(Ziv ra lo' hi').ext g2.ff⟩) fun _=>.scal fun z=>z
noncomputable def B3 (X:Cx)(ops:List CmpOp)(rs:List Expr)(t:V->TT):Prop:=
 ∀(pos:Pos) (jJ:List (Addr×Obj)) (s:Shared) (σ:St) (H:Hp) (y:V) (v:Value) (Q:Bool->Hp->Prop),Inv X jJ σ H s->ZC y v->t y σ H Q->wpAny (model X.prog X.w) X.A (testChain pos v ops (evalEach rs X.env)) (TP X jJ σ Q) X.xe s
theorem Znf {op:CmpOp}{r:R2}{c:Expr}{tc:TE}(ho:Yd X (compareOp op) r)(hc:PE X c tc):B3 X [op] [c] (fun y σ H Q=>tc σ H fun z H1=>r y z H1 fun w H2=>∃k,w=.bl k/\Q k H2):=by
 intro pos jJ s σ H y v Q I r1 h;refine test_last (ZE (hc jJ s σ H _ I h) fun u s2 ⟨z,H2,I2,r2,q2⟩=>ZE (ho jJ s2 σ H2 y z v u _ I2 r1 r2 q2) fun d s3 ⟨z',H3,I3,r3,k,e,q3⟩=>?_);subst e
 cases r3
 exact wpAny_truthy_bool ⟨H3,I3,q3⟩
theorem Zlg {op op':CmpOp}{ops:List CmpOp}{r:R2}{b c:Expr}{rs:List Expr}{tb:TE}{t:V->TT}(ho:Yd X (compareOp op) r)(hb:PE X b tb)(hr:B3 X (op'::ops) (c::rs) t) :
  B3 X (op::op'::ops) (b::c::rs) (fun y σ H Q=>tb σ H fun z H1=>r y z H1 fun w H2=>∃k,w=.bl k/\(if k=true then t z σ H2 Q else Q false H2)):=by
 intro pos jJ s σ H y v Q I r1 h;refine test_link (ZE (hb jJ s σ H _ I h) fun u s2 ⟨z,H2,I2,r2,q2⟩=>ZE (ho jJ s2 σ H2 y z v u _ I2 r1 r2 q2) fun d s3 ⟨z',H3,I3,r3,k,e,q3⟩=>?_);subst e
 cases r3
 refine wpAny_truthy_bool ?_
 cases k with
 | false=>exact ite_ff ⟨H3,I3,q3⟩
 | true=>exact ite_tt (hr pos jJ s3 σ H3 z u Q I3 r2 q3)
theorem ZjB {op op':CmpOp}{ops:List CmpOp}{a b c:Expr}{rs:List Expr}{pos:Pos}{ta:TE}{t:V->TT}(ha:PE X a ta)(hr:B3 X (op::op'::ops) (b::c::rs) t)
  (hm:lastMarks (op::op'::ops) (b::c::rs)=false:=by with_unfolding_all rfl):PT X (.Compare a (op::op'::ops) (b::c::rs) pos) (fun σ H Q=>ta σ H fun y H1=>t y σ H1 Q):=by
 intro jJ s σ H Q I h;exact isTrue_chain (ZE (ha jJ s σ H _ I h) fun v s1 ⟨y,H1,I1,r1,q1⟩=>hr pos jJ s1 σ H1 y v Q I1 r1 q1) hm
noncomputable def PDCh (X:Cx)(G:Gh)(ops:List CmpOp)(rs:List Expr)(f:D->Zb->M Bool):Prop:=
 ∃t,B3 X ops rs t/\∀(y:V) (σ:St) (Hf H:Hp) (d:D) (ρ:Zb) (s:Pn) (b:Bool) (s':Pn) (Q:Bool->Hp->Prop),Zz G Hf H->Zk G Hf d y->YM G Hf σ ρ->G.st s H->f d ρ s=some (b,s')->
  (∀Hf' H',Gr G Hf H Hf' H'->G.st s' H'->Q b H')->t y σ H Q
noncomputable def J5 (o:Option D):M Bool:=match o with | some (.bl k)=>ZB k | _=>ZG
theorem Zf8 {o:Option D}{s s':Pn}{b:Bool}(h:J5 o s=some (b,s')):o=some (.bl b)/\s'=s:=by
 unfold J5 at h;split at h
 ·obtain⟨rfl,rfl⟩:=ZL h
  exact⟨rfl,rfl⟩
 ·cases h
noncomputable def Ziw (g:D->D->Option D)(fc:Zb->M D):D->Zb->M Bool:=fun d ρ=>Zn (fc ρ) fun e=>J5 (g d e)
noncomputable def Zix (g:D->D->Option D)(fb:Zb->M D)(f:D->Zb->M Bool):D->Zb->M Bool:=fun d ρ=>Zn (fb ρ) fun e=>Zn (J5 (g d e)) fun k=>if k=true then f e ρ else ZB false
noncomputable def ZeY (fa:Zb->M D)(f:D->Zb->M Bool):Zb->M Bool:=fun ρ=>Zn (fa ρ) fun d=>f d ρ
theorem Zlh {op:CmpOp}{g:D->D->Option D}{c:Expr}{fc:Zb->M D}{r1:Bool}(ho:Xf X G (compareOp op) g)(hc:PD X G r1 c fc):PDCh X G [op] [c] (Ziw g fc):=by
 obtain⟨r,po,qo⟩:=ho;obtain⟨tc,pc,qc⟩:=hc.drop;refine⟨_,Znf po pc,fun y σ Hf H d ρ s b s' Q e1 ry e2 e3 e4 k=>?_⟩;obtain⟨e,s1,a1,a2⟩:=Zy e4;obtain⟨a3,rfl⟩:=Zf8 a2;refine qc σ Hf H ρ s e _ _ e1 e2 e3 a1 fun z jT H1 g1 j6 r1=>?_;exact qo jT H1 _ y z d e _ _ g1.fh j6 (ry.ext g1.ff) r1 a3 fun v j7 H2 g2 jX r2 _=>⟨b,je.mp r2,k j7 H2 (g1.trans g2) jX⟩
theorem ZjC {op op':CmpOp}{ops:List CmpOp}{g:D->D->Option D}{b c:Expr}{rs:List Expr}{fb:Zb->M D}{f:D->Zb->M Bool}{r1:Bool}(ho:Xf X G (compareOp op) g)(hb:PD X G r1 b fb)(hr:PDCh X G (op'::ops) (c::rs) f) :
  PDCh X G (op::op'::ops) (b::c::rs) (Zix g fb f):=by
 obtain⟨r,po,qo⟩:=ho;obtain⟨tb,pb,qb⟩:=hb.drop;obtain⟨t,pt,qt⟩:=hr;refine⟨_,Zlg po pb pt,fun y σ Hf H d ρ s b' s' Q e1 ry e2 e3 e4 k=>?_⟩;obtain⟨e,s1,a1,a2⟩:=Zy e4;obtain⟨k1,s2,a3',a4⟩:=Zy a2;obtain⟨a3,rfl⟩:=Zf8 a3';refine qb σ Hf H ρ s e _ _ e1 e2 e3 a1 fun z jT H1 g1 j6 r1=>?_;refine qo jT H1 _ y z d e _ _ g1.fh j6 (ry.ext g1.ff) r1 a3 fun v j7 H2 g2 jX r2 _=>⟨k1,je.mp r2,?_⟩
 cases k1 with
 | false=>
  obtain⟨rfl,rfl⟩:=ZL a4;rw[if_neg (by decide)];exact k j7 H2 (g1.trans g2) jX
 | true=>
  rw[if_pos rfl] at a4⊢;exact qt z σ j7 H2 e ρ _ _ _ Q (g1.trans g2).fh (r1.ext g2.ff) ((e2.ext g1.ff).ext g2.ff) jX a4 fun Hf3 H3 g3 st3=>k Hf3 H3 ((g1.trans g2).trans g3) st3
theorem ZjD {op op':CmpOp}{ops:List CmpOp}{a b c:Expr}{rs:List Expr}{pos:Pos}{fa:Zb->M D}{f:D->Zb->M Bool}{r1:Bool}(ha:PD X G r1 a fa)(hr:PDCh X G (op::op'::ops) (b::c::rs) f)
  (hm:lastMarks (op::op'::ops) (b::c::rs)=false:=by with_unfolding_all rfl):X2 X G (.Compare a (op::op'::ops) (b::c::rs) pos) (ZeY fa f):=by
 obtain⟨ta,pa,qa⟩:=ha.drop;obtain⟨t,pt,qt⟩:=hr;refine⟨_,ZjB pa pt hm,fun σ Hf H ρ s b s' Q e1 e2 e3 e4 k=>?_⟩;obtain⟨d,s1,a1,a2⟩:=Zy e4;refine qa σ Hf H ρ s d _ _ e1 e2 e3 a1 fun y jT H1 g1 j6 r1=>?_;exact qt y σ jT H1 d ρ s1 b s' Q g1.fh r1 (e2.ext g1.ff) j6 a2 fun j7 H2 g2 jX=>k j7 H2 (g1.trans g2) jX
noncomputable def BX (τ:D->Zb->Option Zb)(f:Zb->M D):Zb->M Out:=fun ρ=>Zn (f ρ) fun d=>match τ d ρ with | some ρ'=>ZB (.nx ρ') | none=>ZG
theorem Zng {ob own:List Nat}{fr r1:Bool}{tg e:Expr}{pos:Pos}{τ:D->Zb->Option Zb}{f:Zb->M D}(he:PD X G r1 e f)(hg:Va X G tg (fun i=>i∉own) τ)(hs:swapsWithSole [tg] e pos.line X.env=pure false:=by rfl)(hw:swappedStores [tg] e X.env=pure none:=by rfl)
  (h1:(assignEach [tg] X.env).map (·.2)=[assign tg X.env]:=by rfl):Xm X G ob own own fr (.Assign [tg] e pos) (BX τ (fun ρ=>f (YN own ρ))):=by
 obtain⟨t,p,q⟩:=he;obtain⟨g,pg,qg⟩:=hg;have hy:Wl G r1 t f:=q;refine⟨_,ZgY p pg hs hw h1,fun kn jV H0 σ H ρ s out s' E ⟨Hf,j⟩ st e po=>?_⟩;obtain⟨d,s1,a1,a2⟩:=Zy e;refine hy.a kn jV H0 σ Hf H ρ s d s1 _ j st a1 fun v Hf' H' j' e1 e2 st' r fz=>?_
 cases eq:τ d ρ with
 | none=>rw[eq] at a2;cases a2
 | some ρ'=>
  rw[eq] at a2;obtain⟨rfl,rfl⟩:=ZL a2;exact qg v σ Hf' H' d ρ ρ' _ j'.gr.fh r eq fun σ' hs'=>po σ' H' ⟨Hf',hs'.jf j'⟩ st'
theorem Zf9 {ob:List Nat}{fr r1:Bool}{tg e:Expr}{pos:Pos}{τ:D->Zb->Option Zb}{f:Zb->M D}(he:PD X G r1 e f)(hg:Va X G tg (fun i=>i∉([]:List Nat)) τ)(hs:swapsWithSole [tg] e pos.line X.env=pure false:=by rfl)(hw:swappedStores [tg] e X.env=pure none:=by rfl)
  (h1:(assignEach [tg] X.env).map (·.2)=[assign tg X.env]:=by rfl):Xm X G ob [] [] fr (.Assign [tg] e pos) (BX τ f):=by
 have h:=Zng (ob:=ob) (fr:=fr) he hg hs hw h1;have e:(fun ρ=>f (YN [] ρ))=f:=by funext ρ;rw[ZcW]
 rw[e] at h;exact h
theorem ZJ.none {P:Program}{w:World}{K:qk}{mg:Str->Option Value}{base:Heap}{k:Nat}{x:Str}{n:Nat}{fr:Bool}{GG:Gh->Prop}{f:Addr}{fd:FuncData}{ps:List Str}(hm:mg x=some (.ref f))(hk:z0 K (.ref f)=true)(hb:XV K fd ps []) :
  ZJ P w K mg base k x n fr GG (fun _=>ZG):=by
 refine⟨f,fd,ps,⟨fun vs H Q E h=>?_,fun A outer s H args us vs Q E _ _ _ _ h=>?_⟩,hm,hk,hb⟩
 ·obtain⟨G,Hf,ds,s,d,s',_,_,_,_,_,h,_⟩:=h
  cases h
 ·obtain⟨G,Hf,ds,s,d,s',_,_,_,_,_,h,_⟩:=h
  cases h
end
end TF
namespace TF
open L2 PySem.SeqAt
open AutoSeq1 (wpAny_loadPart')
theorem Zhs (l:Addr)(items:Array Value)(n:Nat)(dd:Option Addr)(sl:Array (Option Value))(x:Int)(u:Tok)(hc0:¬((x < -(2 ^ 63):Bool)||(x≥2 ^ 63:Bool))=true)(hc1:¬(items.isEmpty||x==1)=true)(hc2:¬((x<=0:Bool)||items.isEmpty)=true)
  (hc3:¬((items.size:Int)*x > (2 ^ 63-1) / 8)) (hc4:¬qaY ((items.size:Int)*x)=true) (hsz:(qaJ (fun x1 x2=>x1++x2) #[] (qz x.toNat items)).size<=sizeLine) :
  Meets (Builtin.«tuple.__mul__» ⟨[.ref l,.int x u],[]⟩) (fun _ R s=>s.heap.get? l=some { cls:=.type "tuple",dict:=dd,data:=.seq items n,slots:=sl }/\R (.ok (.ret (qM s.heap.objs.size))) { s with heap:=s.heap.push { cls:=qaG "tuple",data:=Data.seq (qaJ (fun x1 x2=>x1++x2) #[] (qz x.toNat items)) },toks:=s.toks }):=
 .of_wp fun prog w A R s h=>by
  obtain⟨hp,g,d,tk,os⟩:=s;obtain⟨hl,h⟩:=h;have f1:=qbd;have f2:=yC;have f3:=qax;have f4:=qam;have f5:=qan;wp_walk using wpAny_loadPart' hl;rw[if_neg hc0];wp_walk using wpAny_loadPart' hl;rw[if_neg hc3];wp_walk using wpAny_loadPart' hl
  try (refine wpAny_ite_false (decide_eq_false (Nat.not_lt.mpr hsz)) ?_;wp_walk)
  exact⟨_,rfl,h⟩
theorem Zaf:fillsNumberSlot (.type "tuple") "mul" = pure false:=
 PySem.fillsNumberSlot_seq (id:="tuple.__mul__") (r:=some (.builtin "tuple.__rmul__")) yp.lookup (by decide +kernel) qbk.lookup (by decide +kernel)
theorem ZaL:seqRepeat? (.type "tuple")=pure (some (.builtin "tuple.__mul__")):=by
 unfold seqRepeat?;rw[PySem.seqSlot_of (T:="tuple") (name:="__mul__") (id:="tuple.__mul__") yp.lookup (by decide +kernel),PySem.seqSlot_of (T:="tuple") (name:="__rmul__") (id:="tuple.__rmul__") qbk.lookup (by decide +kernel)];rfl
theorem Zas (a:Int)(t:Tok)(l:Addr)(items:Array Value)(n:Nat)(dd:Option Addr)(sl:Array (Option Value)) :
  Meets (Builtin.«int.__rmul__» ⟨[.int a t,.ref l],[]⟩) (fun _ R s=>s.heap.get? l=some { cls:=.type "tuple",dict:=dd,data:=.seq items n,slots:=sl }/\R (.ok (.ret qbF)) s):=
 .of_wp fun prog w A R s h=>by obtain⟨hp,g,d,tk,os⟩:=s;obtain⟨hl,h⟩:=h;wp_walk;exact⟨_,rfl,h⟩
section
variable {X:Cx}{G:Gh}
noncomputable def ZpP (K:qk):R2:=fun x y H Q=>∃l k xs,x=.ref l/\y=.int k/\ZU K H l xs/\xs≠[]/\2<=k/\k<2 ^ 62/\xs.length*k.toNat<=sizeLine/\
 ∀p,H p=none->Q (.ref p) (Zm H p (.tup (qz k.toNat xs).flatten))
theorem Znh:Yd X (binaryOp .Mult) (ZpP X.K):=by
 intro jJ s σ H x y v u Q I rx ry h;obtain⟨l,k,xs,rfl,rfl,hH,hne,h1,h2,hz,q⟩:=h
 cases rx
 obtain⟨t,rfl⟩:=ry;obtain⟨jL,r,p1,_⟩:=I.tuple hH;obtain⟨⟨cls,dd,data,sl⟩,ho,hc,n,hd⟩:=id p1;simp only at hc hd;subst hc hd;have hl:=r.length;have hsz:jL.toArray.size=xs.length:=by rw[qC];exact hl.symm
 have hne':jL≠[]:=fun z=>hne (r.nil_iff.mp z);have hemp:jL.toArray.isEmpty=false:=by cases jL with | nil=>exact absurd rfl hne' | cons a b=>rfl
 have e0:((k.toNat:Nat):Int)=k:=by omega
 have hcap:((jL.toArray.size:Int)*k)=((xs.length*k.toNat:Nat):Int):=by rw[hsz,Int.natCast_mul,e0]
 have sl2:(sizeLine:Nat)=16777216:=sizeLine_eq;have hnew:qaJ (fun x1 x2=>x1++x2) #[] (qz k.toNat jL.toArray)=(qz k.toNat jL).flatten.toArray:=by
  have:=ZbS jL k.toNat [];rw[qbp] at this;exact this
 have hfl:(qz k.toNat jL).flatten.length<=sizeLine:=by rw[ZeK,qbS,<-hl];exact hz
 refine wpAny_binaryOp_repeat_ref (T:="tuple") (U:="int") (by decide) ⟨_,ho,rfl⟩ (fun s'=>typeIs_int s' k t) Zaf qaK ye ZaL qaB.lookup
  (call_meets ye (typeIs_int s k t) qaC (qas _ _) (Zas k t l jL.toArray n dd sl)
   ⟨ho,rfl,⟨_,ho,rfl⟩,call_meets yp ⟨_,ho,rfl⟩ qao (qaf _ _) (Zhs l jL.toArray n dd sl k t ?_ ?_ ?_ ?_ ?_ ?_) ⟨ho,?_⟩⟩)
 ·simp;omega
 ·rw[hemp];simp;omega
 ·rw[hemp];simp;omega
 ·rw[hcap];omega
 ·unfold qaY
  rw[hcap,decide_eq_true_eq];omega
 ·rw[hnew,qC];exact hfl
 ·rw[hnew]
  exact⟨.ref s.heap.objs.size,_,I.laid (t':=s.toks) (o:=.tup (qz k.toNat xs).flatten) (fun b ob q=>qq _ q) (qw _) ⟨by rw[ZeK,qbS];exact hz,_,r.rep k.toNat,qbo _ _⟩,rfl,q _ (I.hok.fresh (qw _))⟩
theorem Zi.rep {Hf:Hp}{ds:List D}{vs:List V}(r:Zi G Hf ds vs):∀k:Nat,Zi G Hf (qz k ds).flatten (qz k vs).flatten
 | 0=>Zi.nil_iff.mpr rfl
 | k+1=>by
  rw[zT,zT,yw,yw];exact r.append (Zi.rep r k)
noncomputable def JR:D->D->Option D
 | .int i,.int j=>if U2 i j=true then some (.int (i*j)) else none
 | .tup ds,.int k=>if ds≠[]/\2<=k/\k<2 ^ 62/\ds.length*k.toNat<=sizeLine then some (.tup (qz k.toNat ds).flatten) else none
 | .lst ds,.int k=>if -(2 ^ 63)<=k/\k<2 ^ 63/\ds.length*k.toNat<=sizeLine then some (.lst (qz k.toNat ds).flatten) else none
 | _,_=>none
theorem Zli:Xf X G (binaryOp .Mult) JR:=by
 obtain⟨r0,po,qo⟩:=Bu (X:=X) (G:=G);refine⟨_,po.or (Znh.or ZoU),fun Hf H s x y d e c Q e1 st rx ry q k=>?_⟩
 match d,e,q,rx,ry with
 | .int i,.int j,q,rx,ry=>exact .inl (qo Hf H s x y _ _ c Q e1 st rx ry q k)
 | .tup ds,.int j,q,rx,ry=>
  have q:(if ds≠[]/\2<=j/\j<2 ^ 62/\ds.length*j.toNat<=sizeLine then some (D.tup (qz j.toNat ds).flatten) else none)=some c:=q;split at q
  ·rename_i hz
   cases q
   obtain⟨p,vs,rfl,np,hp,rp⟩:=jb.mp rx;refine .inr (.inl ⟨p,j,vs,rfl,ja.mp ry,ZU.of (e1 _ _ np hp),fun z=>hz.1 (zP.mp (by rw[rp.length,z];rfl)),hz.2.1,hz.2.2.1,by rw[<-rp.length];exact hz.2.2.2,fun l hl=>?_⟩);have nf:=Gh.nofp st hl;have g2:=Gr.new (o:=.tup (qz j.toNat vs).flatten) e1 hl nf;exact k (.ref l) _ _ g2 (Gh.grow st hl) (jb.mpr ⟨l,_,rfl,nf,ZO,(rp.rep _).ext g2.ff⟩) (.scal fun z=>z)
  ·cases q
 | .lst ds,.int j,q,rx,ry=>
  have q:(if -(2 ^ 63)<=j/\j<2 ^ 63/\ds.length*j.toNat<=sizeLine then some (D.lst (qz j.toNat ds).flatten) else none)=some c:=q;split at q
  ·rename_i hz
   cases q
   obtain⟨p,vs,rfl,np,hp,rp⟩:=jc.mp rx;refine .inr (.inr ⟨p,j,vs,rfl,ja.mp ry,e1 _ _ np hp,hz.1,hz.2.1,by rw[<-rp.length];exact hz.2.2,fun l hl=>?_⟩);have nf:=Gh.nofp st hl;have g2:=Gr.new (o:=.lst (qz j.toNat vs).flatten) e1 hl nf;exact k (.ref l) _ _ g2 (Gh.grow st hl) (jc.mpr ⟨l,_,rfl,nf,ZO,(rp.rep _).ext g2.ff⟩) (YB.mk e1 hl nf (rp.rep _))
  ·cases q
end
end TF
namespace TF
open L2
section
variable {X:Cx}{G:Gh}
theorem Zht {i:Int}{j p pos}:PD X G true (.UnaryOp .USub (.Constant (.int i) j p) pos) (dC (.int (-i))):=by
 refine⟨_,ZnW ZkL Y0,fun σ Hf H ρ s d s' Q e1 e2 e3 e4 k=>?_⟩;obtain⟨rfl,rfl⟩:=ZL e4;exact⟨i,rfl,k _ Hf H (.refl e1) e3 (ja.mpr rfl) fun _=>.scal fun z=>z⟩
end
end TF
namespace TF
open L2
section
variable {f g:Zb->M D}{ρ:Zb}{s s1:Pn}{a b:Bool}{r:Option (D×Pn)}
theorem Zhu (h:f ρ s=some (.bl true,s1))(h2:g ρ s1=r):Wu f g ρ s=r:=by unfold Wu Zn;rw[h];exact h2
theorem Zhv (h:f ρ s=some (.bl false,s1)):Wu f g ρ s=some (.bl false,s1):=by unfold Wu Zn;rw[h];rfl
theorem ZeZ (h:f ρ s=some (.bl a,s))(h2:a=true->g ρ s=some (.bl b,s)):Wu f g ρ s=some (.bl (a&&b),s):=by
 cases a with
 | false=>exact Zhv h
 | true=>rw[yV];exact Zhu h (h2 rfl)
theorem Ziy (h:f ρ s=some (.bl a,s1)):JT f ρ s=some (.bl (!a),s1):=by unfold JT Zn;rw[h];rfl
end
section
variable {f g:Zb->M Bool}{ρ:Zb}{s s1:Pn}{a b:Bool}{r:Option (Bool×Pn)}
theorem Zo8 (h:f ρ s=some (false,s1)):Wt f g ρ s=some (false,s1):=by unfold Wt Zn;rw[h];rfl
theorem Zo9 (h:f ρ s=some (true,s1))(h2:g ρ s1=r):Wt f g ρ s=r:=by unfold Wt Zn;rw[h];exact h2
theorem ZpQ (h:f ρ s=some (true,s1)):Vu f g ρ s=some (true,s1):=by unfold Vu Zn;rw[h];rfl
theorem Zoa (h:f ρ s=some (false,s1))(h2:g ρ s1=r):Vu f g ρ s=r:=by unfold Vu Zn;rw[h];exact h2
theorem Ze0 (h:f ρ s=some (a,s))(h2:a=true->g ρ s=some (b,s)):Wt f g ρ s=some (a&&b,s):=by
 cases a with
 | false=>exact Zo8 h
 | true=>rw[yV];exact Zo9 h (h2 rfl)
end
section
variable {c:Zb->M Bool}{g1 g2:Zb->M Out}{ρ:Zb}{s s1:Pn}{r:Option (Out×Pn)}
theorem Vl (h:c ρ s=some (true,s1))(h2:g1 ρ s1=r):YJ c g1 g2 ρ s=r:=by unfold YJ Zn;rw[h];exact h2
theorem VG (h:c ρ s=some (false,s1))(h2:g2 ρ s1=r):YJ c g1 g2 ρ s=r:=by unfold YJ Zn;rw[h];exact h2
end
section
variable {fa fb:Zb->M D}{f:D->Zb->M Bool}{g:D->D->Option D}{ρ:Zb}{s s1 s2:Pn}{d e:D}{k:Bool}{r:Option (Bool×Pn)}
theorem ZjE (h:fa ρ s=some (d,s1))(h2:f d ρ s1=r):ZeY fa f ρ s=r:=by unfold ZeY Zn;rw[h];exact h2
theorem Zlj (h:fb ρ s=some (e,s1))(h2:g d e=some (.bl k)):Ziw g fb d ρ s=some (k,s1):=by unfold Ziw Zn;rw[h];show J5 (g d e) s1=_;rw[h2];rfl
theorem Zlk (h:fb ρ s=some (e,s))(h2:g d e=some (.bl k)){b:Bool}(h3:k=true->f e ρ s=some (b,s)):Zix g fb f d ρ s=some (k&&b,s):=by
 unfold Zix Zn;simp only[h,h2,J5,ZB]
 cases k with
 | false=>rfl
 | true=>simp[h3 rfl]
end
theorem eqi (a b:Int):XY (.int a) (.int b)=some (.bl (a==b)):=by
 unfold XY;rw[if_pos (by simp[W7,Zq,Yg])];simp[ZM]
theorem nei (a b:Int):YT (.int a) (.int b)=some (.bl (!(a==b))):=by
 unfold YT;rw[if_pos (by simp[W7,Zq,Yg])];simp[ZM]
theorem Ze1 {ds:List D}{r:Nat}(h:r<ds.length):∃d∈ds,Zj (.lst ds) (.int (r:Int))=some d:=
 ⟨ds[r],zu h,WC (qm h)⟩
theorem Zbx {τ:D->Zb->Option Zb}{body:Zb->M Out}{d:D}{ds:List D}{ρ ρ1 ρ2:Zb}{s s1:Pn}{r:Option (Out×Pn)}(h:τ d ρ=some ρ1)(hb:body ρ1 s=some (.nx ρ2,s1))(h2:Wv τ body ds ρ2 s1=r):Wv τ body (d::ds) ρ s=r:=by
 unfold Wv Zn YR;simp only[h,hb];exact h2
theorem Ze2 {τ:D->Zb->Option Zb}{body:Zb->M Out}{d e:D}{ds:List D}{ρ ρ1:Zb}{s s1:Pn}(h:τ d ρ=some ρ1)(hb:body ρ1 s=some (.rt e,s1)):Wv τ body (d::ds) ρ s=some (.rt e,s1):=by
 unfold Wv Zn YR;simp only[h,hb];rfl
theorem ZcF {fi:Zb->M (List D)}{τ:D->Zb->Option Zb}{body:Zb->M Out}{ds:List D}{ρ:Zb}{s s1:Pn}{r:Option (Out×Pn)}(h:fi ρ s=some (ds,s1))(h2:Wv τ body ds ρ s1=r):Ww fi τ body ρ s=r:=by
 unfold Ww Zn;rw[h];exact h2
theorem Ze3 {f:Zb->M D}{ρ:Zb}{s s1:Pn}{ds:List D}(h:f ρ s=some (.tup ds,s1)):Wq f ρ s=some (ds,s1):=by unfold Wq Zn;rw[h];rfl
theorem XI {f:Zb->M D}{ρ:Zb}{s s1:Pn}{ds:List D}(h:f ρ s=some (.lst ds,s1)):ZX f ρ s=some (ds,s1):=by unfold ZX Zn;rw[h];rfl
end TF
namespace TP
open L2 TF
noncomputable def VH:D->Bool
 | .non=>true | .bl _=>true | .int _=>true | .str _=>true | .tup _=>true | .lst _=>true | _=>false
noncomputable def tupB:D->Bool | .tup _=>true | _=>false
noncomputable def intB:D->Bool | .int _=>true | .bl _=>true | _=>false
noncomputable def Zob:D->Bool | .bl _=>true | _=>false
noncomputable def Zll:D->Bool | .int _=>true | _=>false
theorem ZjF {d:D}(h:VH d=true):Uc [d,.ty "tuple"]=some (.bl (tupB d)):=by
 cases d <;> first | rfl | cases h
theorem Zni {d:D}(h:VH d=true):Uc [d,.ty "int"]=some (.bl (intB d)):=by
 cases d <;> first | rfl | cases h
theorem Zlm {d:D}(h:VH d=true):Uc [d,.ty "bool"]=some (.bl (Zob d)):=by
 cases d <;> first | rfl | cases h
theorem Zga {d:D}(h:VH d=true)(s:Pn):Bh [d] s=some (.bl (Zll d),s):=by
 refine YI rfl (Z8 (YE ?_));have e:Zll d=((intB d) && !(Zob d)):=by cases d <;> rfl
 rw[e];exact ZeZ (Yj (Zg rfl (Zg rfl rfl)) (Zni h)) fun _=>Ziy (Yj (Zg rfl (Zg rfl rfl)) (Zlm h))
noncomputable def Wh (n:Int):D->Bool | .int i=>decide (0<=i)&&decide (i<n) | _=>false
theorem ZjG {n:Int}{d:D}(h:Wh n d=true):∃i,d=.int i:=by
 cases d <;> first | exact⟨_,rfl⟩ | cases h
theorem Zce {d:D}(h:VH d=true)(n:Int)(s:Pn):VX [.int n,d] s=some (.bl (Wh n d),s):=by
 refine YI rfl (Z8 (YE ?_));have hw:=Z0 (ρ:=[some (D.int n),some d]) (F:=Bh) (fs:=Zc (Za 1) Ze) (s:=s) (Zg rfl rfl) (Zga h s)
 cases d with
 | int i=>exact Zhu hw (ZeZ (Zr (d:=.int 0) (e:=.int i) rfl rfl rfl) fun _=>Zr (d:=.int i) (e:=.int n) rfl rfl rfl)
 | pen=>cases h
 | ty _=>cases h
 | clo _ _=>cases h
 | dk _=>cases h
 | dt _=>cases h
 | _=>exact Zhv hw
theorem WS {α:Type}(l:List α):l.filter (fun _=>true)=l:=zU.mpr (by simp)
noncomputable def p2:D->Int×Int | .tup [.int a,.int b]=>(a,b) | _=>(0,0)
end TP
namespace TF
open L2
section
variable {f:Zb->M D}{fs:Zb->M (List D)}{ρ:Zb}{s:Pn}
theorem Ok.tup {Q:D->Pn->Prop}(h:Ok (fs ρ) s fun ds s1=>ds.length<=sizeLine/\Q (.tup ds) s1):Ok (Yc fs ρ) s Q:=.bind (h.mono fun _ _ q=>.ite q.1 (.ret q.2))
theorem Ok.call {g:List D->Option D}{Q:D->Pn->Prop}(h:Ok (fs ρ) s fun ds s1=>∃c,g ds=some c/\Q c s1):Ok (ZA g fs ρ) s Q:=.bind (h.mono fun _ _ q=>let ⟨c,e,q⟩:=q;.of e q)
theorem Ok.sunp {τ:D->Zb->Option Zb}{Q:Out->Pn->Prop}(h:Ok (f ρ) s fun d s1=>∃ρ',τ d ρ=some ρ'/\Q (.nx ρ') s1):Ok (BX τ f ρ) s Q:=
 .bind (h.mono fun d s1 q=>by obtain⟨ρ',e,q⟩:=q;rw[e];exact .ret q)
theorem Ok.range1 {Q:List D->Pn->Prop}(h:Ok (f ρ) s fun d s1=>∃n:Nat,d=.int (n:Int)/\n<=100000/\Q (Ye 0 n) s1):Ok (YO f ρ) s Q:=
 .bind (h.mono fun d s1 q=>by
  obtain⟨n,rfl,hn,q⟩:=q;exact .ite (TP.small_int n hn) (.ret (by simpa using q)))
end
theorem Znj {f:Zb->M D}{ρ:Zb}{s:Pn}{x:D}(h1:f ρ s=some (x,s)):Yc (Zc f Ze) ρ s=some (.tup [x],s):=WF (Zg h1 rfl) (by show 1<=sizeLine;decide)
theorem Znk {f g:Zb->M D}{ρ:Zb}{s:Pn}{x y:D}(h1:f ρ s=some (x,s))(h2:g ρ s=some (y,s)):Yc (Zc f (Zc g Ze)) ρ s=some (.tup [x,y],s):=WF (Zg h1 (Zg h2 rfl)) TP.two_le
end TF
namespace TF
open L2
noncomputable def Y2 (m t:Int)(wa:Addr):List (Zt×V):=[(.inr (qE "mixed"),.int m),(.inr (qE "turn"),.int t),(.inr (qE "wide"),.ref wa)]
theorem k_mt:¬((yn (qE "mixed"):Zt)=yn (qE "turn")):=by decide
theorem k_mw:¬((yn (qE "mixed"):Zt)=yn (qE "wide")):=by decide
theorem k_tw:¬((yn (qE "turn"):Zt)=yn (qE "wide")):=by decide
theorem ZpR (m t:Int)(wa:Addr):ZZ (Y2 m t wa) (.inr (qE "mixed"))=some (.int m):=X3 rfl
theorem ZpS (m t:Int)(wa:Addr):ZZ (Y2 m t wa) (.inr (qE "turn"))=some (.int t):=(X4 k_mt).trans (X3 rfl)
theorem ZpT (m t:Int)(wa:Addr):ZZ (Y2 m t wa) (.inr (qE "wide"))=some (.ref wa):=(X4 k_mw).trans ((X4 k_tw).trans (X3 rfl))
theorem Znl (m t t':Int)(wa:Addr):Yo (Y2 m t wa) (.inr (qE "turn")) (.int t')=Y2 m t' wa:=by
 have h2:¬((yn (qE "wide"):Zt)=yn (qE "turn")):=fun z=>k_tw z.symm;unfold Yo Y2;rw[if_pos (by simp)];have h3:¬(qE "mixed" = qE "turn"):=by decide
 have h4:¬(qE "wide" = qE "turn"):=by decide
 simp[h3,h4]
noncomputable def B4 (p wa:Addr)(s:Pn)(H:Hp):Prop:=∃m t,s.1=[m,t]/\H p=some (.dK (Y2 m t wa))/\H wa=some (.lst (s.2.map V.int))/\p≠wa
noncomputable def Y4 (p wa:Addr):Gh where
 fp:=fun b=>b=p∨b=wa
 rd:=fun b=>b=p∨b=wa
 pen:=.ref p
 st:=B4 p wa
 mono:=fun s H H' ⟨m,t,e0,e1,e2,ne⟩ k _=>⟨m,t,e0,k p _ (.inl rfl) e1,k wa _ (.inr rfl) e2,ne⟩
 sub:=fun b h=>h
 dom:=fun s H b ⟨m,t,e0,e1,e2,ne⟩ hb=>by
  rcases hb with rfl | rfl
  ·exact⟨_,e1⟩
  ·exact⟨_,e2⟩
 ntp:=fun s H b vs ⟨m,t,e0,e1,e2,ne⟩ hb z=>by
  rcases hb with r | r
  ·rw[r,e1] at z;cases z
  ·rw[r,e2] at z;cases z
noncomputable def XC:Gh->Prop:=fun G=>∃p wa,G=Y4 p wa
noncomputable def Zoc (k:Int):List Int->List Int
 | c::r=>if c<k then r else c::r
 | []=>[]
noncomputable def Ziz (m t:Int):Int:=
 let one:=(m+7919*t*t) % 2147483629
 let two:=(one*one+40692*t+3) % 998244353
 (two*two+one) % 2147483587 / 16
noncomputable def VI (k m t:Int)(w:List Int):D×Pn:=match Zoc k w with
 | c::r=>(.int (c % k),([m,t],(c / k)::r))
 | []=>(.int (Ziz m (t+1) % k),([m,t+1],[]))
noncomputable def Z9:List D->M D:=fun ds s=>match ds,s with
 | [.pen,.int k],([m,t],w)=>if 0<k/\k<1073741824/\0<=t/\t<2 ^ 60 then some (VI k m t w) else none
 | _,_=>none
theorem Zdc {ds:List D}{s s':Pn}{d:D}(h:Z9 ds s=some (d,s')):∃k m t w,ds=[.pen,.int k]/\s=([m,t],w)/\0<k/\k<1073741824/\0<=t/\t<2 ^ 60/\VI k m t w=(d,s'):=by
 unfold Z9 at h;split at h
 ·split at h
  ·rename_i k m t w c
   exact⟨k,m,t,w,rfl,rfl,c.1,c.2.1,c.2.2.1,c.2.2.2,zi h⟩
  ·cases h
 ·cases h
noncomputable def Xs (T:Nat)(s:Pn):Prop:=∃m t:Int,s.1=[m,t]/\0<=t/\t<=T
theorem Xs.mono {T T':Nat}{s:Pn}(h:Xs T s)(hT:T<=T'):Xs T' s:=by
 obtain⟨m,t,e,h1,h2⟩:=h;exact⟨m,t,e,h1,by omega⟩
theorem ZiA {T:Nat}{s:Pn}{k:Int}(ok:Xs T s)(hT:T<1000000000)(h1:0<k)(h2:k<1073741824):∃r s',Z9 [.pen,.int k] s=some (.int r,s')/\0<=r/\r<k/\Xs (T+1) s':=by
 obtain⟨l,w⟩:=s;obtain⟨m,t,e,t0,tT⟩:=ok;simp only at e;subst e;have hd:Z9 [.pen,.int k] ([m,t],w)=some (VI k m t w):=if_pos ⟨h1,h2,t0,by omega⟩;unfold VI at hd;split at hd
 ·exact⟨_,_,hd,qaM _ (by omega),qag _ h1,m,t,rfl,t0,by omega⟩
 ·exact⟨_,_,hd,qaM _ (by omega),qag _ h1,m,t+1,rfl,by omega,by omega⟩
theorem Ok.drawD {fs:Zb->M (List D)}{ρ:Zb}{s:Pn}{m T:Nat}{Q:D->Pn->Prop}(ok:Xs T s)(hT:T<1000000000)(h1:fs ρ s=some ([.pen,.int (m:Int)],s))(hm:0<m)(hm2:m<1073741824)(h:∀(r:Nat) s',r<m->Xs (T+1) s'->Q (.int (r:Int)) s'):Ok (Zo Z9 fs ρ) s Q:=by
 obtain⟨r,s1,e,r0,r1,ok1⟩:=ZiA ok hT (show 0<(m:Int) by omega) (show(m:Int)<1073741824 by omega);obtain⟨n,rfl⟩:=qap r0;exact .fn h1 (.eq e (h n s1 (by omega) ok1))
theorem Zln {X:Cx}{GG:Gh->Prop}{ob own own':List Nat}{fr:Bool}{sts:List Stmt}{g:Zb->M Out}(h:∀G,GG G->Wa X G ob own own' fr sts g):Wk X sts (fun E σ H=>∃G,GG G/\Zn9 G ob own own' fr g E σ H):=by
 intro jJ s σ H D I ⟨G,hG,kn,jV,H0,ρ,pn,out,pn',j,st,e,po⟩;obtain⟨t,p,q⟩:=h G hG;exact p jJ s σ H D I (q kn jV H0 σ H ρ pn out pn' D j st e po)
noncomputable def Vh (ns:List Int):List Int:=ns.filter fun c=>decide (10 ^ 15<=c)
noncomputable def Zod (K:qk):Sp:=fun vs H Q _=>∃(a:Addr) (ns:List Int),vs=[.ref a]/\ZH K H a (ns.map V.int)/\ns.length<=63/\
 ∀(p wa:Addr) (m:Int) (H':Hp),B4 p wa ([m,0],Vh ns) H'->(∀b u,H b=some u->H' b=some u)->H p=none->H wa=none->Q (.ref p) H'
noncomputable def tW:TE:=Zik (Yn 0) (tC (.str (qE "wide")))
noncomputable def tTn:TE:=Zik (Yn 0) (tC (.str (qE "turn")))
noncomputable def tMx:TE:=Zik (Yn 0) (tC (.str (qE "mixed")))
noncomputable def Zoe (K:qk):TE:=B1 (fun xs H Q=>∃p ys,xs=[.ref p]/\(ZH K H p ys∨ZU K H p ys)/\Q (.int ys.length) H) (Xi tW Xx)
noncomputable def tW0 (K:qk):TE:=YD (rIxL K) tW (tC (.int 0))
noncomputable def Zof:TS:=Vp (Zn5 (Yn 0) (tC (.str (qE "turn"))) (YD (Xr fun i j=>.int (i+j)) tTn (tC (.int 1))))
 (Vp (V8 (YD (rI (fun _ j=>0<j) fun i j=>.int (i % j)) (YD (Xr fun i j=>.int (i+j)) tMx (YD (rI V9 fun i j=>.int (i*j)) (YD (rI V9 fun i j=>.int (i*j)) (tC (.int 7919)) tTn) tTn)) (tC (.int 2147483629))) (XM 3))
 (Vp (V8 (YD (rI (fun _ j=>0<j) fun i j=>.int (i % j)) (YD (Xr fun i j=>.int (i+j)) (YD (Xr fun i j=>.int (i+j)) (YD (rI V9 fun i j=>.int (i*j)) (Yn 3) (Yn 3)) (YD (rI V9 fun i j=>.int (i*j)) (tC (.int 40692)) tTn)) (tC (.int 3))) (tC (.int 998244353))) (XM 4))
 (BT (YD (rI (fun _ j=>0<j) fun i j=>.int (i % j)) (YD (rI CDiv fun i j=>.int (i / j)) (YD (rI (fun _ j=>0<j) fun i j=>.int (i % j)) (YD (Xr fun i j=>.int (i+j)) (YD (rI V9 fun i j=>.int (i*j)) (Yn 4) (Yn 4)) (Yn 3)) (tC (.int 2147483587))) (tC (.int 16))) (Yn 1)))))
noncomputable def Zlo (K : qk) : TS := Vp (tIfS (BL (YD (Xr fun i j => .bl (decide (j < i))) (Zoe K) (tC (.int 0))))
    (Vp (V8 (YD (rI (fun _ j => 0 < j) fun i j => .int (i % j)) (tW0 K) (Yn 1)) (XM 2)) (Vp (V8 (YD (rI CDiv fun i j => .int (i / j)) (tW0 K) (Yn 1)) (gSub tW (tC (.int 0)) Zn2)) (BT (Yn 2)))) ZkC) Zof
noncomputable def Zlp (K : qk) : TS := Vp (tIfS (tAnd (BL (YD (Xr fun i j => .bl (decide (j < i))) (Zoe K) (tC (.int 0)))) (BL (YD (Xr fun i j => .bl (decide (i < j))) (tW0 K) (Yn 1))))
    (BK (J3 K "list" Zg6 tW (Xi (tC (.int 0)) Xx))) ZkC) (Zlo K)
theorem Jc {H:Hp}{p wa:Addr}{m t:Int}(h:H p=some (.dK (Y2 m t wa))):Xk H p (.str (qE "wide")) (some (.ref wa)):=by have:=Xk.k (k:=.inr (qE "wide")) h;rwa[ZpT] at this
theorem dg_t {H:Hp}{p wa:Addr}{m t:Int}(h:H p=some (.dK (Y2 m t wa))):Xk H p (.str (qE "turn")) (some (.int t)):=by have:=Xk.k (k:=.inr (qE "turn")) h;rwa[ZpS] at this
theorem dg_m {H:Hp}{p wa:Addr}{m t:Int}(h:H p=some (.dK (Y2 m t wa))):Xk H p (.str (qE "mixed")) (some (.int m)):=by have:=Xk.k (k:=.inr (qE "mixed")) h;rwa[ZpR] at this
theorem dp_t {H:Hp}{p wa:Addr}{m t t':Int}(h:H p=some (.dK (Y2 m t wa))):Ws H p (.str (qE "turn")) (.int t') (Zm H p (.dK (Y2 m t' wa))):=by
 have:=Ws.k (k:=.inr (qE "turn")) (v:=.int t') h (by show 3<sizeLine;decide)
 rwa[Znl] at this
theorem ZjH {p wa:Addr}{m x t:Int}{Q:VK}{N:St->Hp->Prop}{H:Hp}{o2:Option V}(m0:0<m)(m1:m<1073741824)(t0:0<=t)(t1:t<2 ^ 60)(hp:H p=some (.dK (Y2 x t wa)))
  (k:Q (.int (Ziz x (t+1) % m)) (Zm H p (.dK (Y2 x (t+1) wa)))):Zof { nx:=N,rt:=Q } [some (.ref p),some (.int m),o2,none,none] H:=by
 have hp2:Zm H p (.dK (Y2 x (t+1) wa)) p=some (.dK (Y2 x (t+1) wa)):=ZO;generalize hT:t+1=T at hp2 k;have b1:∀z:Int,0<=z % 2147483629/\z % 2147483629<2147483629:=fun z=>⟨qaM _ (by decide),qag _ (by decide)⟩;have b2:∀z:Int,0<=z % 998244353/\z % 998244353<998244353:=fun z=>⟨qaM _ (by decide),qag _ (by decide)⟩;refine⟨.ref p,rfl,p,.int t,rfl,dg_t hp,t,1,rfl,rfl,.ref p,rfl,p,Zm H p (.dK (Y2 x T wa)),rfl,by rw[<-hT];exact dp_t hp,?_⟩;refine⟨.ref p,rfl,p,.int x,rfl,dg_m hp2,.ref p,rfl,p,.int T,rfl,dg_t hp2,7919,T,rfl,rfl,.inl ⟨by decide,by decide⟩,.ref p,rfl,p,.int T,rfl,dg_t hp2,7919*T,T,rfl,rfl,.inr ⟨by omega,by omega⟩,x,7919*T*T,rfl,rfl,x+7919*T*T,2147483629,rfl,rfl,(by show(0:Int)<2147483629;decide),?_⟩;have h1:=b1 (x+7919*T*T);have h2:=b2 (((x+7919*T*T) % 2147483629)*((x+7919*T*T) % 2147483629)+40692*T+3);refine⟨.int ((x+7919*T*T) % 2147483629),rfl,.int ((x+7919*T*T) % 2147483629),rfl,((x+7919*T*T) % 2147483629),((x+7919*T*T) % 2147483629),rfl,rfl,.inl ⟨by omega,by omega⟩,.ref p,rfl,p,.int T,rfl,dg_t hp2,40692,T,rfl,rfl,.inl ⟨by decide,by decide⟩,((x+7919*T*T) % 2147483629)*((x+7919*T*T) % 2147483629),40692*T,rfl,rfl,((x+7919*T*T) % 2147483629)*((x+7919*T*T) % 2147483629)+40692*T,3,rfl,rfl,((x+7919*T*T) % 2147483629)*((x+7919*T*T) % 2147483629)+40692*T+3,998244353,rfl,rfl,(by show(0:Int)<998244353;decide),?_⟩;refine⟨.int ((((x+7919*T*T) % 2147483629)*((x+7919*T*T) % 2147483629)+40692*T+3) % 998244353),rfl,.int ((((x+7919*T*T) % 2147483629)*((x+7919*T*T) % 2147483629)+40692*T+3) % 998244353),rfl,((((x+7919*T*T) % 2147483629)*((x+7919*T*T) % 2147483629)+40692*T+3) % 998244353),((((x+7919*T*T) % 2147483629)*((x+7919*T*T) % 2147483629)+40692*T+3) % 998244353),rfl,rfl,.inl ⟨by omega,by omega⟩,.int ((x+7919*T*T) % 2147483629),rfl,((((x+7919*T*T) % 2147483629)*((x+7919*T*T) % 2147483629)+40692*T+3) % 998244353)*((((x+7919*T*T) % 2147483629)*((x+7919*T*T) % 2147483629)+40692*T+3) % 998244353),((x+7919*T*T) % 2147483629),rfl,rfl,((((x+7919*T*T) % 2147483629)*((x+7919*T*T) % 2147483629)+40692*T+3) % 998244353)*((((x+7919*T*T) % 2147483629)*((x+7919*T*T) % 2147483629)+40692*T+3) % 998244353)+((x+7919*T*T) % 2147483629),2147483587,rfl,rfl,(by show(0:Int)<2147483587;decide),(((((x+7919*T*T) % 2147483629)*((x+7919*T*T) % 2147483629)+40692*T+3) % 998244353)*((((x+7919*T*T) % 2147483629)*((x+7919*T*T) % 2147483629)+40692*T+3) % 998244353)+((x+7919*T*T) % 2147483629)) % 2147483587,16,rfl,rfl,(by show(0:Int)<16/\(16:Int)<1073741824;decide),.int m,rfl,(((((x+7919*T*T) % 2147483629)*((x+7919*T*T) % 2147483629)+40692*T+3) % 998244353)*((((x+7919*T*T) % 2147483629)*((x+7919*T*T) % 2147483629)+40692*T+3) % 998244353)+((x+7919*T*T) % 2147483629)) % 2147483587 / 16,m,rfl,rfl,m0,?_⟩;exact k
theorem Zav (w:List Int):((w.map V.int).length:Int)=(w.length:Int):=by simp
theorem ix0 (c:Int)(r:List Int):Wd ((c::r).map V.int).length 0=some 0:=by
 unfold Wd;rw[if_pos (by decide),if_pos (by rw[Zav];simp)];rfl
theorem ZjI {K:qk}{p wa:Addr}{m x t:Int}{w1:List Int}{Q:VK}{N:St->Hp->Prop}{H:Hp}(m0:0<m)(m1:m<1073741824)(t0:0<=t)(t1:t<2 ^ 60)(hp:H p=some (.dK (Y2 x t wa)))(hw:H wa=some (.lst (w1.map V.int)))(ne:p≠wa)
  (k1:∀c r,w1=c::r->Q (.int (c % m)) (Zm H wa (.lst (((c / m)::r).map V.int)))) (k2:w1=[]->Q (.int (Ziz x (t+1) % m)) (Zm H p (.dK (Y2 x (t+1) wa)))) :
  Zlo K { nx:=N,rt:=Q } [some (.ref p),some (.int m),none,none,none] H:=by
 refine⟨.ref p,rfl,p,.ref wa,rfl,Jc hp,wa,w1.map V.int,rfl,.inl (ZH.of hw),_,0,rfl,rfl,_,rfl,?_⟩
 cases w1 with
 | nil=>
  refine VM ?_;exact ZjH m0 m1 t0 t1 hp (k2 rfl)
 | cons c r=>
  have e:decide ((0:Int)<(((c::r).map V.int).length:Int))=true:=by rw[decide_eq_true_eq,Zav];simp
  rw[e];refine VN ?_;have hi:XD ((c::r).map V.int) 0=some (.int c):=WC (j:=0) rfl;refine⟨.ref p,rfl,p,.ref wa,rfl,Jc hp,wa,_,0,.int c,rfl,rfl,ZH.of hw,hi,.int m,rfl,c,m,rfl,rfl,m0,?_⟩;refine⟨.ref p,rfl,p,.ref wa,rfl,Jc hp,wa,_,0,.int c,rfl,rfl,ZH.of hw,hi,.int m,rfl,c,m,rfl,rfl,⟨m0,m1⟩,.ref p,rfl,p,.ref wa,rfl,Jc hp,wa,(c::r).map V.int,0,0,rfl,rfl,hw,ix0 c r,?_⟩;exact⟨_,rfl,k1 c r rfl⟩
theorem Zlq {K:qk}{p wa:Addr}{m x t:Int}{ww:List Int}{d:D}{pn':Pn}{Q:VK}{N:St->Hp->Prop}{H:Hp}(m0:0<m)(m1:m<1073741824)(t0:0<=t)(t1:t<2 ^ 60)(eS:VI m x t ww=(d,pn'))(hp:H p=some (.dK (Y2 x t wa)))(hw:H wa=some (.lst (ww.map V.int)))(ne:p≠wa)
  (k:∀(i:Int) (H':Hp),d=.int i->(∀b,b≠p->b≠wa->H' b=H b)->B4 p wa pn' H'->Q (.int i) H') :
  Zlp K { nx:=N,rt:=Q } [some (.ref p),some (.int m),none,none,none] H:=by
 have fin:∀(H1:Hp) (w1:List Int),w1=Zoc m ww->H1 p=some (.dK (Y2 x t wa))->H1 wa=some (.lst (w1.map V.int))->(∀b,b≠p->b≠wa->H1 b=H b)->Zlo K { nx:=N,rt:=Q } [some (.ref p),some (.int m),none,none,none] H1:=by
  intro H1 w1 e1 hp1 hw1 ag;refine ZjI m0 m1 t0 t1 hp1 hw1 ne (fun c r ec=>?_) fun ec=>?_
  ·have:VI m x t ww=(.int (c % m),([x,t],(c / m)::r)):=by unfold VI;rw[<-e1,ec]
   rw[this] at eS
   cases eS
   refine k _ _ rfl (fun b h1 h2=>by rw[Zp h2];exact ag b h1 h2) ⟨x,t,rfl,by rw[Zp ne];exact hp1,ZO,ne⟩
  ·have:VI m x t ww=(.int (Ziz x (t+1) % m),([x,t+1],[])):=by unfold VI;rw[<-e1,ec]
   rw[this] at eS
   cases eS
   subst ec;refine k _ _ rfl (fun b h1 h2=>by rw[Zp h1];exact ag b h1 h2) ⟨x,t+1,rfl,ZO,by rw[Zp (zm ne)];exact hw1,ne⟩
 refine⟨.ref p,rfl,p,.ref wa,rfl,Jc hp,wa,ww.map V.int,rfl,.inl (ZH.of hw),_,0,rfl,rfl,_,rfl,?_⟩
 cases ww with
 | nil=>
  refine VM ?_;refine VM ?_;exact fin H [] rfl hp hw fun _ _ _=>rfl
 | cons c r=>
  have e:decide ((0:Int)<(((c::r).map V.int).length:Int))=true:=by rw[decide_eq_true_eq,Zav];simp
  rw[e];refine VN ?_;have hi:XD ((c::r).map V.int) 0=some (.int c):=WC (j:=0) rfl;refine⟨.ref p,rfl,p,.ref wa,rfl,Jc hp,wa,_,0,.int c,rfl,rfl,ZH.of hw,hi,.int m,rfl,c,m,rfl,rfl,_,rfl,?_⟩;by_cases hc:c<m
  ·rw[decide_eq_true hc]
   refine VN ?_;refine⟨.ref p,rfl,p,.ref wa,rfl,Jc hp,.inl ⟨rfl,_,ZH.of hw⟩,wa,(c::r).map V.int,0,0,.int c,rfl,rfl,hw,by decide,by decide,seqIndex_of (by decide) (by rw[Zav];simp),rfl,?_⟩;refine fin _ r (by show r=if c<m then r else c::r;rw[if_pos hc]) (by rw[Zp ne];exact hp) (by rw[ZO];rfl) fun b h1 h2=>by rw[Zp h2]
  ·rw[decide_eq_false hc]
   refine VM ?_;exact fin H (c::r) (by show c::r=if c<m then r else c::r;rw[if_neg hc]) hp hw fun _ _ _=>rfl
theorem Zpa {p wa:Addr}{Hf H H':Hp}(e1:Zz (Y4 p wa) Hf H)(ag:∀b,b≠p->b≠wa->H' b=H b):Gr (Y4 p wa) Hf H Hf H':=
 have no:∀b,¬(Y4 p wa).fp b->b≠p/\b≠wa:=fun b n=>⟨fun z=>n (.inl z),fun z=>n (.inr z)⟩
 ⟨fun b u n q=>by rw[ag b (no b n).1 (no b n).2];exact q,.refl _ _,fun b u n q=>by rw[ag b (no b n).1 (no b n).2];exact e1 b u n q,fun b n h1 h2=>h1⟩
theorem ZjJ {K:qk}{vs:List V}{H:Hp}{Q:VK}{E:XK}{N:St->Hp->Prop}(h:Ya 2 true XC Z9 vs H Q E):∃p m,vs=[.ref p,.int m]/\Zlp K { nx:=N,rt:=Q } [some (.ref p),some (.int m),none,none,none] H:=by
 obtain⟨G,Hf,ds,pn,d,pn',hG,el,e1,r,st',eF,k'⟩:=h;obtain⟨p,wa,rfl⟩:=hG;obtain⟨m,x,t,ww,rfl,rfl,m0,m1,t0,t1,eS⟩:=Zdc eF;obtain⟨v1,v2,rfl,r1,r2⟩:=jq r
 cases (jp.mp r1)
 cases (ja.mp r2)
 obtain⟨x',t',ea,hp,hw,ne⟩:=st';simp only[List.cons.injEq,and_true] at ea;obtain⟨rfl,rfl⟩:=ea;refine⟨p,m,rfl,Zlq m0 m1 t0 t1 eS hp hw ne fun i H' ed ag st=>?_⟩;exact k' _ Hf H' (Zpa e1 ag) st (by rw[ed];exact ja.mpr rfl) fun _=>.scal fun z=>by rw[ed] at z;exact z
theorem Zgb {X:Cx}{XN:List Str}{NS:List (Str×NameKind)}{elt tg iter:Expr}{ifs:List Expr}{scope:Scope}{pos:Pos}{N':List Str}{src:List (Option Nat)}{wi:TI}{g:TG}{tt:TT}{te:TE}(hc:X.calm=true)(B:BlkS X XN NS N' src scope)(hi:PI X tg iter wi)
  (hg:∀cl jJ C s H fp,PG (L2.blk X jJ N' scope cl C s H fp) tg g) (ht:∀cl jJ C s H fp,Vq (L2.blk X jJ N' scope cl C s H fp) ifs tt) (he:∀cl jJ C s H fp,PE (L2.blk X jJ N' scope cl C s H fp) elt te)
  (hs:∀x,foldedSetIterable iter X.env x=pure x:=by intro _;rfl):PE X (.ListComp elt [⟨tg,iter,ifs,0⟩] scope pos) (JP src wi g tt te):=by
 intro jJ s σ H Q I h;obtain⟨cl,B'⟩:=B.ok I.ok;exact Zio hc B' hi (hg cl) (ht cl) (he cl) hs jJ s σ H Q I h
noncomputable def Zlr (K:qk):TE:=JP [none] (ZkI K (Yn 0)) (XM 0) (BL (YD (Xr fun i j=>.bl (decide (j<=i))) (Yn 0) (YD (rI CPow fun i j=>.int (i ^ j.toNat)) (tC (.int 10)) (tC (.int 15))))) (Yn 0)
noncomputable def ZpU (K:qk):TS:=Vp (V8 (tC (.int 7)) (XM 1))
 (Vp (tFor (ZkI K (Yn 0)) (XM 2) (V8 (YD (rI (fun _ j=>0<j) fun i j=>.int (i % j)) (YD (Xr fun i j=>.int (i+j)) (YD (Xr fun i j=>.int (i+j)) (YD (rI V9 fun i j=>.int (i*j)) (Yn 1) (tC (.int 48271))) (YD (rI (fun _ j=>0<j) fun i j=>.int (i % j)) (Yn 2) (tC (.int 1000000007)))) (tC (.int 11))) (tC (.int 2147483629))) (XM 1)))
 (BT (Zn6 [(tC (.str (qE "mixed")),Yn 1),(tC (.str (qE "turn")),tC (.int 0)),(tC (.str (qE "wide")),Zlr K)])))
theorem Zls {K:qk}{H:Hp}{a p:Addr}{xs:List V}{o:HO}(sq:ZH K H a xs)(hp:H p=none):ZH K (Zm H p o) a xs:=by
 have hne:∀u,H a=some u->a≠p:=fun u e z=>by rw[z,hp] at e;cases e
 rcases sq with(q | ⟨o',q⟩) | q
 ·exact .inl (.inl (by rw[Zp (hne _ q)];exact q))
 ·exact .inl (.inr ⟨o',by rw[Zp (hne _ q)];exact q⟩)
 ·exact .inr q
theorem Zlt {H:Hp}{p:Addr}{o o':HO}:Zm (Zm H p o) p o'=Zm H p o':=by
 funext b;by_cases h:b=p
 ·subst h;rw[ZO,ZO]
 ·rw[Zp h,Zp h,Zp h]
theorem ZjK (m t:Int)(wa:Addr):Up [] (Y2 m t wa)=Y2 m t wa:=by
 have h3:¬(qE "mixed" = qE "turn"):=by decide
 have h4:¬(qE "mixed" = qE "wide"):=by decide
 have h5:¬(qE "turn" = qE "wide"):=by decide
 simp[Up,Y2,Yo,h3,h4,h5]
theorem ZjL (ns:List Int)(i:Nat)(c:Int)(h:ns[i]?=some c):Vh (ns.take (i+1))=Vh (ns.take i)++(if decide (10 ^ 15<=c)=true then [c] else []):=by
 unfold Vh;rw[List.take_succ,h,qaR];congr 1;by_cases hc:(10:Int) ^ 15<=c
 ·rw[if_pos (decide_eq_true hc)]
  exact qaq (decide_eq_true hc)
 ·rw[if_neg (by simpa using hc)]
  exact ym (by simpa using hc)
theorem Zlu {K:qk}{a:Addr}{ns:List Int}{H:Hp}{Q:VK}{o1 o2:Option V}(sq:ZH K H a (ns.map V.int))(hl:ns.length<=63)(k:∀p,H p=none->Q (.ref p) (Zm H p (.lst ((Vh ns).map V.int)))):Zlr K [some (.ref a),o1,o2] H Q:=by
 refine⟨.ref a,rfl,a,rfl,⟨_,sq⟩,fun p hp=>?_⟩;refine⟨fun i n σ2 H2=>i<=ns.length/\n=ns.length-i/\(∃o,σ2=[o])/\H2=Zm H p (.lst ((Vh (ns.take i)).map V.int)),⟨ns.length,zk _,by omega,⟨none,rfl⟩,rfl⟩,fun i n σ2 H2 ⟨hi,hn,⟨o,hσ⟩,hH⟩=>?_⟩;subst hσ hH;have sq2:ZH K (Zm H p (.lst ((Vh (ns.take i)).map V.int))) a (ns.map V.int):=Zls sq hp;by_cases he:i=ns.length
 ·refine .inl ⟨⟨_,sq2,by rw[qd];omega⟩,?_⟩
  subst he;rw[z9];exact k p hp
 ·have hlt:i<ns.length:=by omega
  have gi:(ns.map V.int)[i]?=some (.int ns[i]):=by rw[qD,qm hlt];rfl
  refine .inr ⟨⟨_,_,sq2,gi⟩,fun x H3 ⟨y1,y2⟩=>?_⟩;subst y1;have ex:=y2 _ sq2;rw[gi] at ex
  cases ex
  refine⟨.int ns[i],rfl,10,15,rfl,rfl,⟨by decide,by decide,by decide⟩,ns[i],10 ^ (15:Int).toNat,rfl,rfl,_,rfl,?_⟩;have ew:=ZjL ns i ns[i] (qm hlt);by_cases hc:(10:Int) ^ 15<=ns[i]
  ·have hd:decide ((10:Int) ^ (15:Int).toNat<=ns[i])=true:=decide_eq_true hc
   rw[hd];refine VN ?_;refine⟨.int ns[i],rfl,(Vh (ns.take i)).map V.int,ZO,?_,n-1,by omega,by omega,by omega,⟨_,rfl⟩,?_⟩
   ·have:(Vh (ns.take i)).length<=(ns.take i).length:=zr ..
    rw[qd,sizeLine_eq];have:=List.length_take_le i ns;omega
   ·rw[Zlt,ew,if_pos (decide_eq_true hc),zD]
    rfl
  ·have hd:decide ((10:Int) ^ (15:Int).toNat<=ns[i])=false:=decide_eq_false hc
   rw[hd];refine VM ?_;refine⟨n-1,by omega,by omega,by omega,⟨_,rfl⟩,?_⟩;rw[ew,if_neg (by simpa using hc),zf]
theorem Znm {K:qk}{a:Addr}{ns:List Int}{H:Hp}{Q:VK}{N:St->Hp->Prop}(sq:ZH K H a (ns.map V.int))(hl:ns.length<=63)(k:∀(p wa:Addr) (m:Int) (H':Hp),B4 p wa ([m,0],Vh ns) H'->(∀b u,H b=some u->H' b=some u)->H p=none->H wa=none->Q (.ref p) H') :
  ZpU K { nx:=N,rt:=Q } [some (.ref a),none,none] H:=by
 refine⟨.ref a,rfl,a,rfl,⟨_,sq⟩,?_⟩;refine⟨fun i n σ2 H2=>i<=ns.length/\n=ns.length-i/\(∃x o2,σ2=[some (.ref a),some (.int x),o2])/\H2=H,⟨ns.length,zk _,by omega,⟨7,none,rfl⟩,rfl⟩,fun i n σ2 H2 ⟨hi,hn,⟨x,o2,hσ⟩,hH⟩=>?_⟩;subst hσ hH;by_cases he:i=ns.length
 ·refine .inl ⟨⟨_,sq,by rw[qd];omega⟩,?_⟩
  intro p hp;refine⟨.int x,rfl,?_⟩;have hp2:(Zm H2 p (.dK [])) p=some (.dK []):=ZO;show Zlr K [some (.ref a),some (.int x),o2] (Zm H2 p (.dK [])) (fun y H3=>H3 p=some (.dK [])/\∃kvs:List (Zt×V),[(V.str (qE "mixed"),V.int x),(V.str (qE "turn"),V.int 0),(V.str (qE "wide"),y)]=kvs.map (fun kv=>(kV kv.1,kv.2))/\kvs.length<=15/\Q (.ref p) (Zm H3 p (.dK (Up [] kvs))));refine Zlu (Zls sq hp) hl fun wa hwa=>?_;have ne:p≠wa:=fun z=>by rw[<-z,ZO] at hwa;cases hwa
  refine⟨by rw[Zp ne];exact hp2,Y2 x 0 wa,rfl,by show 3<=15;decide,?_⟩;rw[ZjK];have hwa0:H2 wa=none:=by rw[Zp (zm ne)] at hwa;exact hwa
  exact k p wa x _ ⟨x,0,rfl,ZO,by rw[Zp (zm ne)];exact ZO,ne⟩ (fun b u e=>by rw[Zp (Z6 e hp),Zp (Z6 e hwa0),Zp (Z6 e hp)];exact e) hp hwa0
 ·have hlt:i<ns.length:=by omega
  have gi:(ns.map V.int)[i]?=some (.int ns[i]):=by rw[qD,qm hlt];rfl
  refine .inr ⟨⟨_,_,sq,gi⟩,fun σ' H'=>(∃x o2,σ'=[some (.ref a),some (.int x),o2])/\H'=H2,fun σ' H' h=>⟨n-1,by omega,by omega,by omega,h.1,h.2⟩,fun x' H' ⟨y1,y2⟩=>?_⟩;subst y1;have ex:=y2 _ sq;rw[gi] at ex
  cases ex
  refine⟨.int x,rfl,x,48271,rfl,rfl,.inr ⟨by decide,by decide⟩,.int ns[i],rfl,ns[i],1000000007,rfl,rfl,(by show(0:Int)<1000000007;decide),x*48271,ns[i] % 1000000007,rfl,rfl,x*48271+ns[i] % 1000000007,11,rfl,rfl,x*48271+ns[i] % 1000000007+11,2147483629,rfl,rfl,(by show(0:Int)<2147483629;decide),⟨_,_,rfl⟩,rfl⟩
noncomputable def XE (L:List (Addr×Str))(b:Addr):Prop:=∃q,(b,q)∈L
noncomputable def Zog (G0:Gh)(L:List (Addr×Str))(P:Addr)(q:Str)(H:Hp):Prop:=∃ps,H P=some (.tbl ps)/\TriplesOk ps.toList/\∀pos cv,codeAmong pos ps.toList=some cv->∃c',cv=.ref c'/\H c'=some (.ext (codeφ c' q))/\¬G0.fp c'/\¬XE L c'
noncomputable def U5 (G0:Gh)(L:List (Addr×Str)):Gh where
 fp:=fun b=>G0.fp b∨XE L b
 rd:=fun b=>G0.rd b∨XE L b
 pen:=G0.pen
 st:=fun s H=>G0.st s H/\∀P q,(P,q)∈L->Zog G0 L P q H
 mono:=fun s H H' ⟨h1,h2⟩ k1 k2=>⟨G0.mono s H H' h1 (fun b o r=>k1 b o (.inl r)) k2,fun P q m=>by
  obtain⟨ps,e,t,h⟩:=h2 P q m;refine⟨ps,k1 P _ (.inr ⟨q,m⟩) e,t,fun pos cv hc=>?_⟩;obtain⟨c',z1,z2,z3⟩:=h pos cv hc;exact⟨c',z1,k2 _ _ z2,z3⟩⟩
 sub:=fun b h=>h.elim (fun z=>.inl (G0.sub b z)) .inr
 dom:=fun s H b ⟨h1,h2⟩ hb=>by
  rcases hb with z | ⟨q,m⟩
  ·exact G0.dom s H b h1 z
  ·obtain⟨ps,e,_⟩:=h2 b q m
   exact⟨_,e⟩
 ntp:=fun s H b vs ⟨h1,h2⟩ hb=>by
  rcases hb with z | ⟨q,m⟩
  ·exact G0.ntp s H b vs h1 z
  ·obtain⟨ps,e,_⟩:=h2 b q m
   rw[e];intro z;cases z
theorem ZdR {pos pos':Pos}{c:Value}(l:List Value)(h:TriplesOk l){cv:Value}(hc:codeAmong pos' (l ++ [rawInt pos.line,rawInt pos.col,c])=some cv):codeAmong pos' l=some cv∨cv=c:=by
 fun_induction TriplesOk l with
 | case1=>
  simp only[qbp,rawInt,codeAmong] at hc;split at hc
  ·exact .inr (zi hc).symm
  ·cases hc
 | case2 a b d e f rest ih=>
  simp only[qa7,codeAmong] at hc⊢;split at hc
  ·rename_i h1;rw[if_pos h1];exact .inl hc
  ·rename_i h1;rw[if_neg h1];exact ih h hc
 | case3=>cases h
theorem Zgc {pos:Pos}{c:Value}(l:List Value)(h:TriplesOk l):TriplesOk (l ++ [rawInt pos.line,rawInt pos.col,c]):=by
 fun_induction TriplesOk l with
 | case1=>simp[TriplesOk,rawInt]
 | case2 a b d e f rest ih=>simp only[qa7,TriplesOk];exact ih h
 | case3=>cases h
noncomputable def Wm (L:List (Addr×Str)):Prop:=∀P q q',(P,q)∈L->(P,q')∈L->q=q'
noncomputable def Wc (GG0:Gh->Prop)(L:List (Addr×Str))(G:Gh):Prop:=∃G0,GG0 G0/\(∀b,XE L b->¬G0.rd b)/\G=U5 G0 L
theorem Znn {G0:Gh}{L:List (Addr×Str)}{P:Addr}{q:Str}(lo:Wm L)(hrd:∀b,XE L b->¬G0.rd b)(m:(P,q)∈L):TabG P q (U5 G0 L):=by
 refine⟨fun s H st=>?_,.inr ⟨q,m⟩,fun s H ps pos c' st hP hc hn=>?_⟩
 ·obtain⟨ps,e,t,h⟩:=st.2 P q m
  refine⟨ps,e,t,fun pos cv hc=>?_⟩;obtain⟨c',z1,z2,z3,z4⟩:=h pos cv hc;exact⟨c',z1,z2,fun z=>z.elim z3 z4⟩
 ·have hcP:c'≠P:=fun z=>by rw[z,hP] at hc;cases hc
  have notL:¬XE L c':=fun⟨q',m'⟩=>by
   obtain⟨_,e,_⟩:=st.2 c' q' m';rw[hc] at e;cases e
  have k2:∀b φ,H b=some (.ext φ)->Zm (Zm H P (.tbl (ps ++ #[rawInt pos.line,rawInt pos.col,.ref c']))) c' (.ext (codeφ c' q)) b=some (.ext φ):=fun b φ e=>by
   rw[Zp (Z6 e hc),Zp (fun z=>by rw[z,hP] at e;cases e)];exact e
  refine⟨G0.mono s H _ st.1 (fun b o r e=>?_) k2,fun P' q' m'=>?_⟩
  ·rw[Zp (Z6 e hc),Zp (fun z=>hrd P ⟨q,m⟩ (by rw[<-z];exact r))];exact e
  ·by_cases hb:P'=P
   ·subst hb
    have:=lo P' q q' m m';subst this;obtain⟨ps',e,t,h⟩:=st.2 P' q m;rw[hP] at e;cases e;refine⟨_,by rw[Zp (zm hcP),ZO],?_,fun pos' cv hcv=>?_⟩
    ·rw[qbN];exact Zgc _ t
    ·rw[qbN] at hcv
     rcases ZdR (pos:=pos) _ t hcv with z | z
     ·obtain⟨c2,z1,z2,z3⟩:=h pos' cv z
      exact⟨c2,z1,k2 _ _ z2,z3⟩
     ·exact⟨c',z,ZO,Gh.nofp st.1 hc,notL⟩
   ·obtain⟨ps',e,t,h⟩:=st.2 P' q' m'
    refine⟨ps',by rw[Zp (Z6 e hc),Zp hb];exact e,t,fun pos' cv hcv=>?_⟩;obtain⟨c2,z1,z2,z3⟩:=h pos' cv hcv;exact⟨c2,z1,k2 _ _ z2,z3⟩
noncomputable def Yy (L:List (Addr×Str))(G:Gh):Prop:=∀P q,(P,q)∈L->TabG P q G
theorem jB {GG0:Gh->Prop}{L:List (Addr×Str)}{G:Gh}(lo:Wm L)(h:Wc GG0 L G):Yy L G:=by
 obtain⟨G0,_,hrd,rfl⟩:=h;exact fun P q m=>Znn lo hrd m
mutual
theorem Zk.tr {G G':Gh}{H H':Hp}(h:∀a o,¬G.fp a->H a=some o->(∀ps,o≠.tbl ps)->¬G'.fp a/\H' a=some o)(hp:G'.pen=G.pen):∀{d:D} {v:V},Yx d=true->Zk G H d v->Zk G' H' d v
 | .non,_,_,r=>jg.mpr (jg.mp r)
 | .bl _,_,_,r=>je.mpr (je.mp r)
 | .int _,_,_,r=>ja.mpr (ja.mp r)
 | .str _,_,_,r=>jh.mpr (jh.mp r)
 | .tup ds,v,n,r=>by
  obtain⟨a,vs,e1,nf,e2,r⟩:=jb.mp r;obtain⟨z1,z2⟩:=h a _ nf e2 (fun _ z=>by cases z);exact jb.mpr ⟨a,vs,e1,z1,z2,Zi.tr h hp (by simpa[Yx] using n) r⟩
 | .lst ds,v,n,r=>by
  obtain⟨a,vs,e1,nf,e2,r⟩:=jc.mp r;obtain⟨z1,z2⟩:=h a _ nf e2 (fun _ z=>by cases z);exact jc.mpr ⟨a,vs,e1,z1,z2,Zi.tr h hp (by simpa[Yx] using n) r⟩
 | .dk _,_,_,r=>by
  obtain⟨a,e1,nf,e2⟩:=jk.mp r;obtain⟨z1,z2⟩:=h a _ nf e2 (fun _ z=>by cases z);exact jk.mpr ⟨a,e1,z1,z2⟩
 | .dt _,_,_,r=>by
  obtain⟨a,o,e1,nf,e2⟩:=jl.mp r;obtain⟨z1,z2⟩:=h a _ nf e2 (fun _ z=>by cases z);exact jl.mpr ⟨a,o,e1,z1,z2⟩
 | .du _,_,_,r=>by
  obtain⟨a,e1,nf,e2⟩:=jm.mp r;obtain⟨z1,z2⟩:=h a _ nf e2 (fun _ z=>by cases z);exact jm.mpr ⟨a,e1,z1,z2⟩
 | .df _,_,_,r=>by
  obtain⟨a,o,e1,nf,e2⟩:=jr.mp r;obtain⟨z1,z2⟩:=h a _ nf e2 (fun _ z=>by cases z);exact jr.mpr ⟨a,o,e1,z1,z2⟩
 | .pen,_,_,r=>jp.mpr ((jp.mp r).trans hp.symm)
 | .ty _,_,_,r=>js.mpr (js.mp r)
 | .clo _ _,_,n,_=>by simp[Yx] at n
theorem Zi.tr {G G':Gh}{H H':Hp}(h:∀a o,¬G.fp a->H a=some o->(∀ps,o≠.tbl ps)->¬G'.fp a/\H' a=some o)(hp:G'.pen=G.pen):∀{ds:List D} {vs:List V},YF ds=true->Zi G H ds vs->Zi G' H' ds vs
 | [],_,_,r=>Zi.nil_iff.mpr (Zi.nil_iff.mp r)
 | d::ds,vs,n,r=>by
  obtain⟨v,rr,e,h1,h2⟩:=jd.mp r;have n':Yx d=true/\YF ds=true:=by simpa[YF] using n
  exact jd.mpr ⟨v,rr,e,Zk.tr h hp n'.1 h1,Zi.tr h hp n'.2 h2⟩
end
open Classical in
noncomputable def Uf (L:List (Addr×Str))(H H2:Hp):Hp:=fun b=>if XE L b then H2 b else H b
theorem Zno {L:List (Addr×Str)}{H H2:Hp}{b:Addr}(h:XE L b):Uf L H H2 b=H2 b:=by unfold Uf;rw[if_pos h]
theorem WV {L:List (Addr×Str)}{H H2:Hp}{b:Addr}(h:¬XE L b):Uf L H H2 b=H b:=by unfold Uf;rw[if_neg h]
theorem Znp {P:Program}{w:World}{K:qk}{mg:Str->Option Value}{base:Heap}{k:Nat}{f:Addr}{fd:FuncData}{ps:List Str}{n:Nat}{fr:Bool}{GG0:Gh->Prop}{L:List (Addr×Str)}{F:List D->M D}(FN:FnOk P w K mg base ZQ k f fd ps (Ya n fr GG0 F))
  (hF:∀ds s d s',F ds s=some (d,s')->YF ds=true/\Yx d=true):FnOk P w K mg base ZQ k f fd ps (Ya n fr (Wc GG0 L) F):=by
 refine FN.imp fun vs H Q E h=>?_;obtain⟨G,Hf,ds,s,d,s',⟨G0,hG0,hrd,rfl⟩,hl,e1,r,st,eF,k⟩:=h;obtain⟨n1,n2⟩:=hF _ _ _ _ eF;have nfp:∀b,XE L b->¬G0.fp b:=fun b m z=>hrd b m (G0.sub b z);have e1':Zz G0 (Uf L Hf fun _=>none) H:=fun b o nb q=>by
  by_cases m:XE L b
  ·rw[Zno m] at q;cases q
  ·rw[WV m] at q;exact e1 b o (fun z=>z.elim nb m) q
 refine⟨G0,Uf L Hf fun _=>none,ds,s,d,s',hG0,hl,e1',Zi.tr (G:=U5 G0 L) (G':=G0) (fun a o na q _=>?_) rfl n1 r,st.1,eF,fun v Hf' H' g st' r' fz=>?_⟩
 ·have m:¬XE L a:=fun z=>na (.inr z)
  exact⟨fun z=>na (.inl z),by rw[WV m];exact q⟩
 ·have tab:∀b,XE L b->∃ps,H' b=some (.tbl ps):=fun b ⟨q,m⟩=>by
   obtain⟨ps,e,_⟩:=st.2 b q m;exact⟨ps,g.hh b _ (nfp b ⟨q,m⟩) e⟩
  have out:∀a o,¬G0.fp a->Hf' a=some o->(∀ps,o≠.tbl ps)->¬XE L a:=fun a o na q no m=>by
   obtain⟨ps,e⟩:=tab a m;rw[g.fh a o na q] at e;exact no ps (zi e)
  have tr:∀a o,¬G0.fp a->Hf' a=some o->(∀ps,o≠.tbl ps)->¬(U5 G0 L).fp a/\Uf L Hf' Hf a=some o:=fun a o na q no=>by
   have m:=out a o na q no;exact⟨fun z=>z.elim na m,by rw[WV m];exact q⟩
  refine k v (Uf L Hf' Hf) H' ⟨fun b o nb q=>g.hh b o (fun z=>nb (.inl z)) q,fun b o nb q=>?_,fun b o nb q=>?_,fun b nb q1 q2=>?_⟩ ⟨st',fun P q m=>?_⟩ (Zk.tr (G:=G0) (G':=U5 G0 L) tr rfl n2 r') fun z a ea mu=>?_
  ·have m:¬XE L b:=fun z=>nb (.inr z)
   rw[WV m];exact g.ff b o (fun z=>nb (.inl z)) (by rw[WV m];exact q)
  ·have m:¬XE L b:=fun z=>nb (.inr z)
   rw[WV m] at q;exact g.fh b o (fun z=>nb (.inl z)) q
  ·have m:¬XE L b:=fun z=>nb (.inr z)
   rw[WV m];exact g.nw b (fun z=>nb (.inl z)) (by rw[WV m];exact q1) q2
  ·obtain⟨ps,e,t,h⟩:=st.2 P q m
   refine⟨ps,g.hh P _ (nfp P ⟨q,m⟩) e,t,fun pos cv hc=>?_⟩;obtain⟨c',z1,z2,z3,z4⟩:=h pos cv hc;exact⟨c',z1,g.hh c' _ z3 z2,z3,z4⟩
  ·obtain⟨h1,h2⟩:=fz z a ea mu
   refine⟨h1,fun xs ed=>?_⟩;obtain⟨us,Hm,q1,q2,q3,q4⟩:=h2 xs ed;have na:¬XE L a:=fun m=>by
    obtain⟨q,m⟩:=m;obtain⟨ps,e,_⟩:=st.2 a q m;rw[h1] at e;cases e
   refine⟨us,Uf L Hm fun _=>none,by rw[WV na];exact q1,by rw[WV na];exact q2,fun b o nb q=>?_,?_⟩
   ·have m:¬XE L b:=fun z=>nb (.inr z)
    rw[WV m] at q⊢;exact q3 b o (fun z=>nb (.inl z)) q
   ·subst ed
    refine Zi.tr (G:=G0) (G':=U5 G0 L) (fun b o nb q no=>?_) rfl (by simpa[Yx] using n2) q4;have m:=out b o nb (q3 b o nb q) no;exact⟨fun z=>z.elim nb m,by rw[WV m];exact q⟩
theorem Zgd {P:Program}{w:World}{K:qk}{mg:Str->Option Value}{base:Heap}{k:Nat}{x:Str}{n:Nat}{fr:Bool}{GG0:Gh->Prop}{L:List (Addr×Str)}{F:List D->M D}(c:ZJ P w K mg base k x n fr GG0 F)(hF:∀ds s d s',F ds s=some (d,s')->YF ds=true/\Yx d=true):ZJ P w K mg base k x n fr (Wc GG0 L) F:=
 let ⟨f,fd,ps,a,b,c,d⟩:=c
 ⟨f,fd,ps,Znp a hF,b,c,d⟩
theorem Zlv:∀ds s d s',Z9 ds s=some (d,s')->YF ds=true/\Yx d=true:=fun ds s d s' h=>by
 obtain⟨k,m,t,w,rfl,rfl,_,_,_,_,e⟩:=Zdc h;refine⟨rfl,?_⟩;unfold VI at e;split at e <;> (cases e;rfl)
theorem Zlw {N ps:List Str}{own:List Nat}{fr:Bool}{G:Gh}{t:TS}{g:Zb->M Out}{vs:List V}{ds:List D}{Hf H:Hp}{pn pn':Pn}{d:D}{Q:VK}(hpl:ps.length<=N.length)(q:Dos G [] [] own fr t g)(e1:Zz G Hf H)(r:Zi G Hf ds vs)(st':G.st pn H)(eF:runB N.length ps.length g ds pn=some (d,pn'))
  (k':∀v Hf' H',Gr G Hf H Hf' H'->G.st pn' H'->Zk G Hf' d v->(fr=true->YB G H Hf' d v)->Q v H'):t { nx:=fun _ H'=>Q .non H',rt:=Q } (L2.start N vs) H:=by
 obtain⟨hl,a0⟩:=Y7 eF;obtain⟨o,s1,a1,a2⟩:=Zy a0;have j0:Jf G [] Hf Hf H (L2.start N vs) Hf H (ds.map some++qz (N.length-ps.length) none):=by
  refine⟨?_,.refl _ _,.refl e1,fun i d n e=>?_,fun i d m e=>absurd m (by simp),fun i j a di dj mi mj n e=>absurd mi (by simp)⟩
  ·have:=r.length
   unfold L2.start;simp;omega
  ·have hi:i<ds.length:=by
    by_cases hi:i<ds.length
    ·exact hi
    ·rw[z8 (by simpa using hi),yk] at e
     split at e <;> cases e
   have e':ds[i]?=some d:=by
    rw[zF (by simpa using hi),qD] at e
    cases q:ds[i]? with
    | none=>rw[q] at e;cases e
    | some c=>rw[q] at e;simp at e;rw[e]
   obtain⟨v,h1,h2⟩:=r.get e';refine⟨v,?_,h2⟩;unfold L2.start;rw[zF (by simp;rw[<-r.length];exact hi),qD,h1];rfl
 refine q Hf Hf H (L2.start N vs) H _ pn o s1 _ ⟨Hf,j0⟩ st' a1 ?_
 cases o with
 | rt c=>
  obtain⟨rfl,rfl⟩:=ZL a2;exact fun v Hf' H' g' jX r2 fz=>k' v Hf' H' g' jX r2 fz
 | nx ρ'=>
  obtain⟨rfl,rfl⟩:=ZL a2;exact fun σ' H' ⟨Hf',j'⟩ jX=>k' .non Hf' H' j'.gr jX (jg.mpr rfl) fun _=>.scal fun z=>z
 | bk ρ'=>cases a2
 | ct ρ'=>cases a2
theorem fnDC {P:Program}{w:World}{K:qk}{mg:Str->Option Value}{base:Heap}{x qual:Str}{st:Stmt}{f:Addr}{fd:FuncData}{N ps:List Str}{k:Nat}{own:List Nat}{fr:Bool}{GG:Gh->Prop}{g:Zb->M Out}
  (F:Fun K x qual st f fd) (S:FnScope N ps (Zx st))
  (hb:∀(A:Around) (outer:List Env) (s:Shared) (H:Hp) (E:XK),Room k (A.deeper (envOfC qual (Zx st) s.heap.objs.size f fd.code))->∀G,GG G->Wa (W3 ZQ P w K mg base N qual (Zx st) f fd.code A outer s H E).nox G [] [] own fr (Wp st) g) :
  FnOk P w K mg base ZQ (k+1) f fd ps (Ya ps.length fr GG (runB N.length ps.length g)):=by
 obtain⟨oc,od,kV,doc,pm,an,cdv,ct,osl,rfl,lk,hcd⟩:=F.ex;refine Zn1 lk hcd S (fun vs H Q E ⟨_,_,_,_,_,_,_,e,_⟩=>e) fun A outer s H vs Q E hr h=>?_;obtain⟨G,Hf,ds,pn,d,pn',hG,el,e1,r,st',eF,k'⟩:=h;obtain⟨t,p,q⟩:=hb A outer s H E hr G hG;exact⟨t,p.nox,Zlw (by have:=congrArg yX S.pre;rw[zE] at this;omega) q e1 r st' eF k'⟩
noncomputable def CalG (P:Program)(w:World)(K:qk)(mg:Str->Option Value)(k:Nat)(x:Str)(n:Nat)(F:List D->M D):Prop:=
 ∃f fd ps fr,(∀base,FnOk P w K mg base ZQ k f fd ps (Ya n fr ZS F))/\ps.length=n/\mg x=some (.ref f)/\(∃oc od sl,K.lookup f=some ⟨oc,od,.func fd,sl⟩)/\XV K fd ps []
section
variable {X:Cx}{G:Gh}{P c:Addr}{q:Str}{k kl n:Nat}{x:Str}{fr frb:Bool}{F:List D->M D}{T:Nat->List D->M D}{t:Nat}{e1:Expr}{f1:Zb->M D}{r1:Bool}{params:Arguments}{scope:Scope}{lpos ppos pos:Pos}{XN N ps:List Str}{NS:List (Str×NameKind)}{cix:List Nat}
theorem Zlx {P:Program}{w:World}{K:qk}{mg:Str->Option Value}{base':Heap}{y:Str}{FF:List D->M D}(h:CalG P w K mg k y n FF)(hT:T t=FF):∃f,mg y=some (.ref f)/\VP P w K mg k n T base' (JW G t f):=by
 obtain⟨f,fd,ps,fr,FN,hl,hm,⟨oc,od,sl,lk⟩,hb⟩:=h;refine⟨f,hm,?_⟩;rintro t' v cs ⟨rfl,rfl,rfl⟩;refine⟨f,fd,ps,rfl,hl,hb,fun s H st h ok KX=>⟨oc,od,sl,KX _ _ lk⟩,?_⟩;rw[hT];refine(FN base').imp fun us H Q E ⟨Hf,ds,cds,s,d,s',l,e1,r1,r2,st,eF,kk⟩=>?_;have:cds=[]:=by
  cases cds with
  | nil=>rfl
  | cons a b=>obtain⟨_,_,e,_⟩:=jd.mp r2;cases e
 subst this;rw[zf] at eF;exact⟨_,Hf,ds,s,d,s',trivial,l,e1,r1,st,eF,fun v Hf' H' g st' r _=>kk v Hf' H' g st' r⟩
theorem Zhw {y:Str}{FF:List D->M D}{ypos:Pos}(hW:Ud X.prog X.w X.K X.mg k x 2 fr (VP X.prog X.w X.K X.mg kl n T) F)(hY:CalG X.prog X.w X.K X.mg kl y n FF)(hT:T t=FF)(hfn:∀x,X.fn x=true)(hr:Room k X.A)(hg:Gl X x)(hgy:Gl X y)(h1:PD X G r1 e1 f1)
  (hdb:(x==("__debug__" : Str))=false:=by decide) (hdy:(y==("__debug__" : Str))=false:=by decide)
  (he:starEach [e1,.Name y ypos] X.env=(false,eval e1 X.env)::starEach [.Name y ypos] X.env:=by rfl) (he2:starEach [Expr.Name y ypos] X.env=(false,eval (.Name y ypos) X.env)::starEach [] X.env:=by rfl)
  (hpl:(backTo pos (starEach [Expr.Name y ypos] X.env)).any (·.1)=false:=by rfl) :
  PD X G fr (.Call (.Name x ppos) [e1,.Name y ypos] [] pos) (Jb F t [] f1):=by
 obtain⟨t1,p1,q1⟩:=h1.drop;obtain⟨f,fd0,ps0,FN,hm,hk,hbd⟩:=hW;obtain⟨fy,hmy,_⟩:=Zlx (base':=X.base) (G:=G) hY hT;refine⟨_,Zf0 FN hfn hr hg hm hk hbd (YS p1 (YS (ZmL (v:=.ref fy) hgy hmy rfl hdy) Y8 he2) he) hdb he hpl,fun σ Hf H ρ s d s' Q x1 x2 x3 x4 k=>?_⟩;obtain⟨d1,s1,a1,a2⟩:=Zy x4;obtain⟨cds,s2,b3,a4⟩:=Zy a2;obtain⟨a3,rfl⟩:=Wf b3
 cases a3
 obtain⟨hn,a5⟩:=Y7 a4;obtain⟨cc,s3,a6,a7⟩:=Zy a5;obtain⟨hn2,a8⟩:=Y7 a7;obtain⟨rfl,rfl⟩:=ZL a8;obtain⟨hn0,hn1⟩:=yf.mp hn;refine q1 σ Hf H ρ s d1 _ _ x1 x2 x3 a1 fun v1 jT H1 g1 j6 rv1=>?_;intro base' cs;obtain⟨fy2,hmy2,hC⟩:=Zlx (base':=base') (G:=G) hY hT;rw[hmy] at hmy2;cases hmy2;refine⟨JW G t fy,jT,[d1,.clo t []],_,d,_,hC,rfl,g1.fh,?_,j6,a6,fun v Hf3 H3 g3 st3 r3 fz=>?_⟩
 ·exact .cons (Zk.re (G:=G) (G':=JW G t fy) rfl rfl hn0 rv1) (.one (jw.mpr ⟨[],⟨rfl,rfl,rfl⟩,Zi.nil_iff.mpr rfl⟩))
 ·have g3':Gr G jT H1 Hf3 H3:=Gr.re (G:=JW G t fy) (G':=G) rfl g3
  have rr:Zk G Hf3 d v:=Zk.re (G:=JW G t fy) (G':=G) rfl rfl hn2 r3;exact k v Hf3 H3 (g1.trans g3') st3 rr fun z=>jo g1.hh rr.nofp (YB.re (G:=JW G t fy) (G':=G) rfl rfl hn2 (fz z))
end
noncomputable def UC (mg:Str->Option Value)(h:Heap):Prop:=∃bm o,mg "__builtins__" = some (.ref bm)/\bm≠builtinsNs/\bm≠mainGlobals/\h.get? bm=some o/\o.cls=.type "module"/\o.dict=some builtinsNs/\o.data=.plain
theorem ZjM {P:Program}{w:World}{K:qk}{mg mb:Str->Option Value}{CX:X1}{k:Nat}{fa a:Addr}{fd:FuncData}{x:Str}{sp:Sp}{s₁:Shared}{vs:List Value}{ns:List Int}{tb:List (Addr×Addr)}
  (KX:K.In s₁.heap) (hns:s₁.heap.Ns mainGlobals mg) (hb:s₁.heap.Ns builtinsNs mb) (hbb:∀x:Str,x≠"__name__"->mb x=bootBuiltins x) (hlim:s₁.heap.NoLimit) (hg:s₁.gens = #[])
  (hT:∀e∈tb,zL s₁.heap e.1 e.2/\s₁.heap.get? e.2=some (qaj #[])) (hKt:PySem.W.noTabs K=true) (hbm:UC mg s₁.heap)
  (ha:s₁.heap.get? a=some { cls:=.type "list",data:=.seq vs.toArray }) (hi:IntsAre vs ns) (hl:ns.length<=sizeLine) (hr:Room k callerA)
  (F:∀base:Heap,K.In base->base.Ns mainGlobals mg->(∀e∈tb,zL base e.1 e.2)->UC mg base->FnOk P w K mg base CX k fa fd [x] sp) (hbind:∀(s:Shared) (u:Value),BindsTo s fd ⟨[u],[]⟩ [(x,u)])
  (hsp:∀H:Hp,ZH K H a (ns.map V.int)->(∀e∈tb,H e.2=some (.tbl #[]))->sp [.ref a] H (fun v _=>v=.bl true) fun _ _ _=>False)
  (hCX:∀H e s',CX [] H s₁ (fun _ _ _=>False) e s'->False) :
  codeAny (model P w) callerA (.call (.ref fa) ⟨[.ref a],[]⟩) (fun r s'=>r=.ok (.ret (.bool true))/\OldK s₁.heap s'.heap/\s'.os=s₁.os/\AllBare s'.gens) s₁:=by
 have rv:=Zd9 hi;have lenV:=hi.length;have tabne:∀e∈tb,e.2≠a:=fun e he z=>by
  have:=(hT e he).2;rw[z,ha] at this;cases this
 have noK:∀e∈tb,K.lookup e.2=none:=fun e he=>by
  cases q:K.lookup e.2 with
  | none=>rfl
  | some o=>
   have h2:=zd.mp hKt (e.2,o) (PySem.W.mem_of_lookupK q);have e1:=KX _ _ q;rw[(hT e he).2] at e1
   cases e1
   exact absurd (show false=true from h2) zX
 have core:∀H:Hp,(∀b u,H b=some u->(b=a/\u=.frz { cls:=.type "list",data:=.seq vs.toArray } (.lst (ns.map V.int))/\K.lookup a=none)∨(u=.tbl #[]/\∃e∈tb,e.2=b))->ZH K H a (ns.map V.int)->(∀e∈tb,H e.2=some (.tbl #[]))->
   codeAny (model P w) callerA (.call (.ref fa) ⟨[.ref a],[]⟩) (fun r s'=>r=.ok (.ret (.bool true))/\OldK s₁.heap s'.heap/\s'.os=s₁.os/\AllBare s'.gens) s₁:=by
  intro H hO hS hTb;have hok:Ys P w H s₁.heap:=fun b u e=>by
   rcases hO b u e with⟨rfl,rfl,_⟩ | ⟨rfl,e',he,rfl⟩
   ·exact⟨ha,by rw[qd];exact hl,vs,_,rv,ha⟩
   ·exact(hT e' he).2
  have base_of:∀{b:Addr} {o:Obj},s₁.heap.get? b=some o->H b=none->(Vo s₁.heap H).get? b=some o:=fun e n=>Zkz e n;have noA:∀{b:Addr} {o:Obj},s₁.heap.get? b=some o->(∀vs n,o.data≠.seq vs n)->(∀vs,o.data≠.fields vs∨o.cls≠.none)->H b=none:=fun {b o} e d1 d2=>by
   cases q:H b with
   | none=>rfl
   | some u=>
    rcases hO b u q with⟨rfl,_,_⟩ | ⟨_,e',he,rfl⟩
    ·rw[ha] at e;cases e;exact absurd rfl (d1 _ _)
    ·rw[(hT e' he).2] at e;cases e
     rcases d2 #[] with z | z
     ·exact absurd rfl z
     ·exact absurd rfl z
  have nsK:∀{b:Addr} {m:Str->Option Value},s₁.heap.Ns b m->(Vo s₁.heap H).Ns b m:=fun {b m} ⟨o,es,ep,e,d,r⟩=>⟨o,es,ep,base_of e (noA e (fun _ _ z=>by rw[d] at z;cases z) fun _=>.inl fun z=>by rw[d] at z;cases z),d,r⟩;have hKb:K.In (Vo s₁.heap H):=fun b o e=>base_of (KX b o e) (by
   cases q:H b with
   | none=>rfl
   | some u=>
    rcases hO b u q with⟨rfl,_,z⟩ | ⟨_,e',he,rfl⟩
    ·rw[z] at e;cases e
    ·rw[noK e' he] at e;cases e)
  have hM:Mod K mg (Vo s₁.heap H):=⟨hKb,nsK hns,⟨mb,nsK hb,hbb⟩,let ⟨mc,h1,h2⟩:=hlim;⟨mc,nsK h1,h2⟩⟩;have e0:Env0 P w K mg (Vo s₁.heap H) callerA [] s₁ H:=⟨rfl,hM,fun b o e=>ZmK e,qbU (Zi8 _ _),trivial,fun b hb=>absurd (show b∈([]:List Addr) from hb) (by simp),hok,.of_eq hg⟩;have hCd:∀e∈tb,zL (Vo s₁.heap H) e.1 e.2:=fun e he=>by
   obtain⟨o,vs',file,tf,flags,tg,inF,text,tt,e1,r1,r2,r3⟩:=(hT e he).1;exact⟨o,vs',file,tf,flags,tg,inF,text,tt,base_of e1 (noA e1 (fun _ _ z=>by rw[r2] at z;cases z) fun _=>.inr (by rw[r1];nofun)),r1,r2,r3⟩
  have hBm:UC mg (Vo s₁.heap H):=by
   obtain⟨bm,o,e1,e2,e3,e4,e5,e6,e7⟩:=hbm;exact⟨bm,o,e1,e2,e3,base_of e4 (noA e4 (fun _ _ z=>by rw[e7] at z;cases z) fun _=>.inl fun z=>by rw[e7] at z;cases z),e5,e6,e7⟩
  refine codeAny_mono ((F _ hKb (nsK hns) hCd hBm).run callerA [] s₁ H ⟨[.ref a],[]⟩ [.ref a] [.ref a] _ _ hr e0 (hbind s₁ (.ref a)) (.cons rfl .nil) (hsp H hS hTb)) fun r s' h=>?_
  cases r with
  | error e=>exact(hCX H e s' h).elim
  | ok fl=>
   cases fl with
   | next=>exact zI h
   | brk=>exact zI h
   | cont=>exact zI h
   | ret u=>
    obtain⟨v,H',os,bare,un,hok',r',q⟩:=h;have q':v=.bl true:=q;subst q';obtain rfl:u=zH true:=r';refine⟨rfl,⟨fun b o e=>?_,fun b o e=>un.there b o e (by simp)⟩,os,bare⟩
    cases q:H b with
    | none=>exact .inl (un.keep b o e q (by intro z;exact absurd (show b∈([]:List Addr) from z) (by simp)) (by simp))
    | some u=>
     rcases hO b u q with⟨rfl,rfl,_⟩ | ⟨rfl,e',he,rfl⟩
     ·have z2:=un.frzs b _ _ q
      obtain⟨e1,_⟩:=hok b _ q;obtain⟨e2,_⟩:=hok' b _ z2;rw[e] at e1;cases e1;exact .inl e2
     ·obtain⟨more,z⟩:=un.tbls _ _ q
      have z2:s'.heap.get? e'.2=some (qaj (#[]++more)):=hok' _ _ z;have e1:=(hT e' he).2;rw[e] at e1;cases e1;exact .inr (.inl ⟨((hT e' he).1.tab (hT e' he).2).isCodeTable,rfl,#[],more,rfl,z2⟩)
 cases hk:K.lookup a with
 | some o=>
  have e:=KX a o hk;rw[ha] at e
  cases e
  refine core (fun b=>open Classical in if ∃e∈tb,e.2=b then some (.tbl #[]) else none) (fun b u z=>?_) (.inr ⟨_,vs.toArray,_,hk,rfl,rfl,rfl,by rw[qC,lenV];exact hl,by simpa using rv⟩) (fun e he=>if_pos ⟨e,he,rfl⟩);by_cases h:∃e∈tb,e.2=b
  ·rw[if_pos h] at z;cases z;exact .inr ⟨rfl,h⟩
  ·rw[if_neg h] at z;cases z
 | none=>
  refine core (fun b=>open Classical in if ∃e∈tb,e.2=b then some (.tbl #[]) else if b=a then some (.frz { cls:=.type "list",data:=.seq vs.toArray } (.lst (ns.map V.int))) else none) (fun b u z=>?_) (.inl (.inr ⟨{ cls:=.type "list",data:=.seq vs.toArray },?_⟩)) (fun e he=>if_pos ⟨e,he,rfl⟩)
  ·by_cases h:∃e∈tb,e.2=b
   ·rw[if_pos h] at z;cases z;exact .inr ⟨rfl,h⟩
   ·rw[if_neg h] at z
    by_cases hb:b=a
    ·rw[if_pos hb] at z;cases z;exact .inl ⟨hb,rfl,hk⟩
    ·rw[if_neg hb] at z;cases z
  ·show(if ∃e∈tb,e.2=a then _ else _)=_
   rw[if_neg (fun⟨e,he,z⟩=>tabne e he z),if_pos rfl]
theorem Zly {l : PySem.W.OpenLaw}{n k : Nat}{q : Program}{loose : List Str}{XP : (Str -> Option Value) -> Heap -> Prop}{YP : World -> Heap -> Prop}{d : DefRec}{K : Params -> qk}{CX : World -> X1}{sp : World -> Sp}{x : Str}{tb : List (Str × Addr × Addr)}
    (hn : l.most = some n) (hn2 : n <= sizeLine) (hdf : d.params.defaults = []) (hr : Room k callerA)
    (hY : ∀ (w : World) (h : Heap), YP w h -> (K w.params).In h)
    (hrec : ∀ e ∈ tb, ∃ d, (recsOf q).find? (fun r => r.name == e.1) = some d) (htab : ∀ w : World, ∀ e ∈ tb, PySem.W.tabIn (K w.params) e.1 = some e.2) (hno : ∀ w : World, PySem.W.noTabs (K w.params) = true)
    (F : ∀ (w : World) (mg : Str -> Option Value) (fa : Addr) (h : Heap), (K w.params).In h -> h.Ns mainGlobals mg -> mg d.name = some (.ref fa) ->
      ∃ fd : FuncData, (∀ (s : Shared) (u : Value), BindsTo s fd ⟨[u], []⟩ [(x, u)]) /\
        ∀ base : Heap, (K w.params).In base -> base.Ns mainGlobals mg -> (∀ e ∈ tb, zL base e.2.1 e.2.2) -> UC mg base -> FnOk l.prog w (K w.params) mg base (CX w) k fa fd [x] (sp w))
    (hsp : ∀ (w : World) (H : Hp) (a : Addr) (ns : List Int), ns.length <= n -> ZH (K w.params) H a (ns.map V.int) -> (∀ e ∈ tb, H e.2.2 = some (.tbl #[])) -> sp w [.ref a] H (fun v _ => v = .bl true) fun _ _ _ => False)
    (hCX : ∀ (w : World) (H : Hp) (s : Shared) (e : Value) (s' : Shared), CX w [] H s (fun _ _ _ => False) e s' -> False) :
    qbK q loose XP YP l.row.toRowW d [] (fun f vs => qbG f vs) := by
  refine Att.attach_call hn hdf fun w s₀ s₁ mg mb fa o pm cd doc a vs ns G Y ho hd hcd hmg hobj hints jS hg => ?_;have KX := hY w _ Y;obtain⟨fd, hb, hF⟩ := F w mg fa _ KX G.T.g hmg;have hT : ∀ e ∈ tb.map (·.2), zL s₁.heap e.1 e.2 /\ s₁.heap.get? e.2 = some (qaj #[]) := fun e he => by
    obtain⟨e', he', rfl⟩ := qy.mp he;obtain⟨d', hd'⟩ := hrec e' he';exact PySem.W.tab_of G.T KX hd' (htab w e' he')
  exact ZjM (tb := tb.map (·.2)) KX G.T.g G.T.b G.T.builtins G.T.nolimit hg hT (hno w) (let ⟨bm, ob, a, b, c, d, e, f⟩ := G.T.bmain; ⟨bm, ob, a, b, (fun z => by
      obtain⟨o, es, ep, e', hd', _⟩ := G.T.g;rw[z, e'] at c; cases c; rw[hd'] at f; cases f), c, d, e, f⟩) hobj hints (qZ jS hn2) hr
    (fun base h1 h2 h3 h4 => hF base h1 h2 (fun e he => h3 e.2 (yG (f := (·.2)) he)) h4) hb (fun H hS hTb => hsp w H a ns jS hS fun e he => hTb e.2 (yG (f := (·.2)) he)) fun H e s' => hCX w H s₁ e s'
end TF
namespace L2
section
variable {X:Cx}{jJ:List (Addr×Obj)}{σ:St}{H:Hp}{s:Shared}{h':Heap}
end
end L2
namespace TF
open L2
section
variable {X:Cx}{G:Gh}
end
section
variable {X:Cx}{G:Gh}
noncomputable def U6:D->Option Bool
 | .non=>some true
 | .pen=>none
 | .ty _=>none
 | .clo _ _=>none
 | _=>some false
noncomputable def dIsN (d e:D):Option D:=match e with | .non=>(U6 d).map .bl | _=>none
theorem Zej {Hf:Hp}{d:D}{v:V}{b:Bool}(h:U6 d=some b)(r:Zk G Hf d v):decide (v=.non)=b:=by
 cases d with
 | non=>cases h;rw[jg.mp r];rfl
 | bl _=>cases h;rw[je.mp r];rfl
 | int _=>cases h;rw[ja.mp r];rfl
 | str _=>cases h;rw[jh.mp r];rfl
 | tup _=>cases h;obtain⟨p,vs,rfl,_⟩:=jb.mp r;rfl
 | lst _=>cases h;obtain⟨p,vs,rfl,_⟩:=jc.mp r;rfl
 | dk _=>cases h;obtain⟨p,rfl,_⟩:=jk.mp r;rfl
 | dt _=>cases h;obtain⟨p,_,rfl,_⟩:=jl.mp r;rfl
 | du _=>cases h;obtain⟨p,rfl,_⟩:=jm.mp r;rfl
 | df _=>cases h;obtain⟨p,_,rfl,_⟩:=jr.mp r;rfl
 | pen=>cases h
 | ty _=>cases h
 | clo _ _=>cases h
theorem Znq:Xf X G (compareOp .Is) dIsN:=
 ⟨_,ZoL,fun Hf H s x y d e c Q e1 st rx ry q k=>by
  cases e with
  | non=>
   have q:(U6 d).map D.bl=some c:=q
   cases hb:U6 d with
   | none=>rw[hb] at q;cases q
   | some b=>
    rw[hb] at q
    cases q
    refine⟨jg.mp ry,?_⟩;rw[Zej hb rx];exact k _ Hf H (.refl e1) st (je.mpr rfl) (.scal fun z=>z)
  | _=>cases q⟩
noncomputable def maxI (n:Int)(r:List Int):Int:=r.foldl max n
theorem Znr (r:List Int):∀n,n<=maxI n r/\∀a∈r,a<=maxI n r:=by
 induction r with
 | nil=>intro n;exact⟨yY _,by simp⟩
 | cons b r ih=>
  intro n;obtain⟨h1,h2⟩:=ih (max n b);refine⟨?_,fun a ha=>?_⟩
  ·show n<=maxI (max n b) r;omega
  ·show a<=maxI (max n b) r
   rcases qu.mp ha with rfl | ha
   ·omega
   ·exact h2 a ha
theorem Zlz (r:List Int):∀n,maxI n r∈n::r:=by
 induction r with
 | nil=>intro n;simp[maxI]
 | cons b r ih=>
  intro n;have h:=ih (max n b);show maxI (max n b) r∈n::b::r;rcases qu.mp h with h | h
  ·rw[h]
   rcases Int.le_total n b with z | z
   ·rw[Int.max_eq_right z];simp
   ·rw[Int.max_eq_left z];simp
  ·exact qK _ (qK _ h)
theorem max_uniq {n M:Int}{r:List Int}(h1:M∈n::r)(h2:∀a∈n::r,a<=M):M=maxI n r:=by
 obtain⟨g1,g2⟩:=Znr r n;have g3:=h2 _ (Zlz r n);have g4:M<=maxI n r:=by
  rcases qu.mp h1 with h | h
  ·rw[h];exact g1
  ·exact g2 M h
 omega
noncomputable def ZiB:List D->Option D
 | [.lst ds]=>match ZR ds with | some (n::r)=>some (.int (maxI n r)) | _=>none
 | _=>none
theorem ZjN (hc:X.calm=true):XT X (.builtin "max") (fun xs H Q=>∃p n r,xs=[.ref p]/\ZH X.K H p ((n::r).map V.int)/\Q (.int (maxI n r)) H):=by
 intro jJ s σ H xs us Q I r h;obtain⟨p,n,rr,rfl,hp,q⟩:=h;obtain⟨u,rfl,ru⟩:=XU r
 cases ru
 obtain⟨jL,rv,pl,hz⟩:=I.list hp;have hi:IntsAre jL (n::rr):=Ve rv;obtain⟨xs,e⟩:=hi.allInts.items;have hns:n::rr=xs.toList.map (·.1):=by rw[<-hi.numsOf,<-nums_intItems,<-e]
 have hl:=pl.isList;rw[e] at hl;have hsz:0<xs.size:=by
  have h3:0<(n::rr).length:=by simp
  rw[hns,qd,za] at h3;exact h3
 refine max_intList (I.ok.hd hc) hl hsz fun v h' tk hv hk=>?_;obtain⟨t,rfl⟩:=intItems_at hv;obtain⟨h1,h2⟩:=argBest_gt (numAt xs) (xs.size-1);have e2:numAt xs (argBest (fun i j=>decide (numAt xs i > numAt xs j)) (xs.size-1))=maxI n rr:=by
  refine max_uniq ?_ fun a ha=>?_
  ·rw[hns,numAt_eq];exact getD_mem (by rw[qd,za];omega)
  ·rw[hns] at ha
   obtain⟨j,hj,rfl⟩:=mem_getD ha;rw[qd,za] at hj;rw[<-numAt_eq];exact h2 j (by omega)
 rw[e2];exact⟨.int (maxI n rr),H,I.kept (t':=tk) hk,⟨_,rfl⟩,q⟩
theorem Zhx (hc:X.calm=true):Wi X G (.builtin "max") ZiB:=
 ⟨_,ZjN hc,fun Hf H s xs ds c Q e1 st r q k=>by
  match ds,q,r with
  | [.lst es],q,r=>
   have q:(match ZR es with | some (n::r)=>some (D.int (maxI n r)) | _=>none)=some c:=q
   cases he:ZR es with
   | none=>rw[he] at q;cases q
   | some ns=>
    cases ns with
    | nil=>rw[he] at q;cases q
    | cons n rr=>
     rw[he] at q
     cases q
     obtain⟨v,rfl,rv⟩:=ji r;obtain⟨p,vs,rfl,np,hp,rp⟩:=jc.mp rv;rw[WR he] at rp;rw[jn rp] at hp;exact⟨p,n,rr,rfl,ZH.of (e1 _ _ np hp),k _ Hf H (.refl e1) st (ja.mpr rfl) (.scal fun z=>z)⟩⟩
noncomputable def ZiC (i:Nat)(fx fv:Zb->M D):Zb->M Out:=fun ρ=>Zn (fv ρ) fun v=>Zn (fx ρ) fun x=>match x,(ρ[i]?).bind id with
 | .int k,some (.lst ds)=>match Wd ds.length k with | some j=>ZB (.nx (ρ.set i (some (.lst (ds.set j v))))) | none=>ZG
 | _,_=>ZG
theorem ZlA {ob own:List Nat}{fr r1 r2:Bool}{i:Nat}{x:Str}{ex ev:Expr}{p1 p2 pos:Pos}{fx fv:Zb->M D}(hi:i∈own)(hn:PE X (.Name x p1) (Yn i))(hx:PD X G r1 ex fx)(hv:PD X G r2 ev fv)
  (hs:swapsWithSole [.Subscript (.Name x p1) ex p2] ev pos.line X.env=pure false:=by rfl) (hw:swappedStores [.Subscript (.Name x p1) ex p2] ev X.env=pure none:=by rfl)
  (h1:(assignEach [.Subscript (.Name x p1) ex p2] X.env).map (·.2)=[assign (.Subscript (.Name x p1) ex p2) X.env]:=by rfl)
  (ha:∀v,assign (.Subscript (.Name x p1) ex p2) X.env v=(do
   let ov<-holding [v] (eval (.Name x p1) X.env)
   let iv<-holding [v,ov] (eval ex X.env)
   standAt p2
   holding [v,ov,iv] (setItem ov iv v)
   release [v,ov,iv] []):=by intro _;rfl) :
  Xm X G ob own own fr (.Assign [.Subscript (.Name x p1) ex p2] ev pos) (ZiC i (fun ρ=>fx (YN own ρ)) (fun ρ=>fv (YN own ρ))):=by
 obtain⟨tv,pv',qv⟩:=hv;obtain⟨tx,px,qx⟩:=hx;have yv:Wl G r2 tv fv:=qv;have yx:Wl G r1 tx fx:=qx;refine⟨_,ZgY pv' (ZkF hn px ZfH ha) hs hw h1,fun kn jV H0 σ H ρ s out s' E ⟨Hf,j⟩ st e po=>?_⟩;obtain⟨v,s1,a1,a2⟩:=Zy e;obtain⟨xx,s2,a3,a4⟩:=Zy a2;refine yv.a kn jV H0 σ Hf H ρ s v s1 _ j st a1 fun w jT H1 j1 e1 e2 j6 r1 _=>?_
 match xx,a4,a3 with
 | .int k,a4,a3=>
  cases hb:(ρ[i]?).bind id with
  | none=>rw[hb] at a4;cases a4
  | some c=>
   rw[hb] at a4
   cases c with
   | lst ds=>
    have a4':(match Wd ds.length k with | some j=>ZB (Out.nx (ρ.set i (some (.lst (ds.set j v))))) | none=>ZG) s2=some (out,s'):=a4
    cases hj:Wd ds.length k with
    | none=>rw[hj] at a4';cases a4'
    | some jj=>
     rw[hj] at a4';obtain⟨rfl,rfl⟩:=ZL a4';have ei:=ZcC hb;obtain⟨a,vs,h1,h2,h3,h4⟩:=ZcB j1 hi ei;refine⟨_,h1,?_⟩;refine yx.a kn jV H0 σ jT H1 ρ s1 _ _ _ j1 j6 a3 fun w2 j7 H2 j2 e3 e4 jX r2 _=>?_;rw[ja.mp r2];obtain⟨a',vs',h1',h2',h3',h4'⟩:=ZcB j2 hi ei;rw[h1] at h1';cases h1';refine⟨a,vs',k,jj,rfl,rfl,h3',by rw[<-h4'.length];exact hj,?_⟩;exact po σ _ ⟨j7,j2.put hi ei h1 ⟨vs'.set jj w,ZO,h4'.set jj (r1.ext e3)⟩⟩ (ju jX h2)
   | _=>cases a4
end
theorem ZaU:∀{a b:List Int},a.Perm b->a.Pairwise (·<=·)->b.Pairwise (·<=·)->a=b
 | [],b,p,_,_=>(List.nil_perm.mp p).symm
 | x::a,[],p,_,_=>absurd p.length_eq (by simp)
 | x::a,y::b,p,ha,hb=>by
  have ha':=zO.mp ha;have hb':=zO.mp hb;have e:x=y:=by
   have h1:x∈y::b:=p.mem_iff.mp (by simp);have h2:y∈x::a:=p.mem_iff.mpr (by simp);rcases qu.mp h1 with h1 | h1
   ·exact h1
   ·rcases qu.mp h2 with h2 | h2
    ·exact h2.symm
    ·have:=hb'.1 x h1
     have:=ha'.1 y h2;omega
  subst e;rw[ZaU (qaS.cons_inv p) ha'.2 hb'.2]
noncomputable def W1 (ns:List Int):List Int:=ns.mergeSort fun a b=>decide (a<=b)
theorem Zdd (ns:List Int):(W1 ns).Perm ns:=List.mergeSort_perm ns _
theorem Ze4 (ns:List Int):(W1 ns).Pairwise (·<=·):=by
 have h:=List.pairwise_mergeSort (le:=fun(a b:Int)=>decide (a<=b)) (fun a b c h1 h2=>by simp at h1 h2⊢;omega) (fun a b=>by simp;omega) ns;exact h.imp fun h=>by simpa using h
theorem Zde {a ns:List Int}(p:a.Perm ns)(h:a.Pairwise (·<=·)):a=W1 ns:=ZaU (p.trans (Zdd ns).symm) h (Ze4 ns)
section
variable {X:Cx}{G:Gh}
theorem Zby:∀{vs:List Value} {ns:List Int},IntsAre vs ns->Zw (ns.map V.int) vs
 | _,_,.nil=>.nil
 | _,_,.cons n t r=>.cons ⟨t,rfl⟩ (Zby r)
theorem Zhy:XT X (.builtin "sorted") (fun xs H Q=>∃(p:Addr) (ns:List Int),xs=[.ref p]/\ZH X.K H p (ns.map V.int)/\ns.length<64/\∀l,H l=none->Q (.ref l) (Zm H l (.lst ((W1 ns).map V.int)))):=by
 intro jJ s σ H xs us Q I r h;obtain⟨p,ns,rfl,hp,h64,q⟩:=h;obtain⟨u,rfl,ru⟩:=XU r
 cases ru
 obtain⟨jL,rv,pl,hz⟩:=I.list hp;have hi:IntsAre jL ns:=Ve rv;have hl:=rv.length;rw[qd] at hl;refine sorted_ints pl.isList hi (by omega) fun out ns' a1 a2 a3=>?_;obtain⟨e,he⟩:=sortedAll_at s.heap jL out;have eo:out=out.toList.toArray:=by simp
 rw[eo] at he;have en:=Zde a2 a3;subst en;have hle:s.heap.objs.size<=s.heap.objs.size+1:=qbX _;refine⟨.ref (s.heap.objs.size+1),_,I.laid (a:=s.heap.objs.size+1) (o:=.lst ((W1 ns).map V.int)) (t':=s.toks) (fun _ _=>sortedAll_old) hle ⟨?_,out.toList,e,Zby a1,he⟩,rfl,q _ (I.hok.fresh hle)⟩;rw[qd,(Zdd ns).length_eq,sizeLine_eq];omega
noncomputable def ZcG:List D->Option D
 | [.lst ds]=>match ZR ds with | some ns=>if ns.length<64 then some (.lst ((W1 ns).map .int)) else none | none=>none
 | _=>none
theorem Js {Hf:Hp}:∀ns:List Int,Zi G Hf (ns.map D.int) (ns.map V.int)
 | []=>Zi.nil_iff.mpr rfl
 | n::ns=>.cons (ja.mpr rfl) (Js ns)
theorem Ze5:Wi X G (.builtin "sorted") ZcG:=
 ⟨_,Zhy,fun Hf H s xs ds c Q e1 st r q k=>by
  match ds,q,r with
  | [.lst es],q,r=>
   have q:(match ZR es with | some ns=>if ns.length<64 then some (D.lst ((W1 ns).map .int)) else none | none=>none)=some c:=q
   cases he:ZR es with
   | none=>rw[he] at q;cases q
   | some ns=>
    rw[he] at q;have q:(if ns.length<64 then some (D.lst ((W1 ns).map .int)) else none)=some c:=q;split at q
    ·rename_i h64
     cases q
     obtain⟨v,rfl,rv⟩:=ji r;obtain⟨p,vs,rfl,np,hp,rp⟩:=jc.mp rv;rw[WR he] at rp;rw[jn rp] at hp;refine⟨p,ns,rfl,ZH.of (e1 _ _ np hp),h64,fun l hl=>?_⟩;have nf:=Gh.nofp st hl;have g2:=Gr.new (o:=.lst ((W1 ns).map V.int)) e1 hl nf;exact k (.ref l) _ _ g2 (Gh.grow st hl) (jc.mpr ⟨l,_,rfl,nf,ZO,Js _⟩) (YB.mk e1 hl nf (Js _))
    ·cases q⟩
end
end TF
namespace HT
section
variable {prog:Program}{w:World}{A:Around}{E:Value->Shared->Prop}{s:Shared}
end
end HT
namespace TF
open L2
section
variable {X:Cx}{G:Gh}
end
end TF
namespace L2
open AutoSeq1 (wpAny_loadPart')
section
variable {prog:Program}{w:World}{A:Around}{E:Value->Shared->Prop}{s:Shared}
end
end L2
namespace TF
open L2
section
variable {X:Cx}{G:Gh}
end
section
variable {X:Cx}{G:Gh}
noncomputable def dNeg (f:Zb->M D):Zb->M D:=fun ρ=>Zn (f ρ) fun d=>match d with | .int i=>ZB (.int (-i)) | _=>ZG
theorem Zns {a:Expr}{pos:Pos}{f:Zb->M D}{r1:Bool}(ha:PD X G r1 a f):PD X G true (.UnaryOp .USub a pos) (dNeg f):=by
 obtain⟨t,p,q⟩:=ha.drop;refine⟨_,ZnW ZkL p,fun σ Hf H ρ s d s' Q e1 e2 e3 e4 k=>?_⟩;obtain⟨d0,s1,a1,a2⟩:=Zy e4;refine q σ Hf H ρ s d0 s1 _ e1 e2 e3 a1 fun v jT H1 g1 j6 r1=>?_
 match d0,a2,r1 with
 | .int i,a2,r1=>
  obtain⟨rfl,rfl⟩:=ZL a2;exact⟨i,ja.mp r1,k _ jT H1 g1 j6 (ja.mpr rfl) fun _=>.scal fun z=>z⟩
end
noncomputable def W2:Nat->List Int->M (List Int)
 | 0,_=>ZB []
 | k+1,left=>Zn (Z9 [.pen,.int (left.length:Int)]) fun d=>match d with
  | .int r=>if 0<=r then (match left[r.toNat]? with | some x=>Zn (W2 k (left.eraseIdx r.toNat)) fun xs=>ZB (x::xs) | none=>ZG) else ZG
  | _=>ZG
noncomputable def Wr (n:Nat):List Int:=(qp n).map fun(i:Nat)=>(i:Int)
noncomputable def VA:List D->M D
 | [.pen,.int n]=>if 0<=n/\n<=1000 then Zn (W2 n.toNat (Wr n.toNat)) fun xs=>ZB (.lst (xs.map D.int)) else ZG
 | _=>ZG
theorem Zhz {k:Nat}{left:List Int}{s s':Pn}{xs:List Int}(h:W2 (k+1) left s=some (xs,s')):∃r s1 x ys,Z9 [.pen,.int (left.length:Int)] s=some (.int r,s1)/\0<=r/\left[r.toNat]?=some x/\W2 k (left.eraseIdx r.toNat) s1=some (ys,s')/\xs=x::ys:=by
 obtain⟨d,s1,a1,a2⟩:=Zy h
 cases d with
 | int r=>
  obtain⟨r0,a3⟩:=Y7 (show(if 0<=r then (match left[r.toNat]? with | some x=>Zn (W2 k (left.eraseIdx r.toNat)) fun xs=>ZB (x::xs) | none=>ZG) else ZG) s1=some (xs,s') from a2)
  cases hx:left[r.toNat]? with
  | none=>rw[hx] at a3;cases a3
  | some x=>
   rw[hx] at a3;obtain⟨ys,s2,a4,a5⟩:=Zy (show Zn (W2 k (left.eraseIdx r.toNat)) (fun xs=>ZB (x::xs)) s1=some (xs,s') from a3);obtain⟨rfl,rfl⟩:=ZL a5;exact⟨r,s1,x,ys,a1,r0,hx,a4,rfl⟩
 | _=>cases a2
noncomputable def tPop (K:qk)(E:XK):TE:=J3 K "list" Zg6 (Yn 1) (Xi (Zn0 (Ya 2 true XC Z9) [] E (Xi (Yn 2) (Xi (B1 (fun xs H Q=>∃p ys,xs=[.ref p]/\(ZH K H p ys∨ZU K H p ys)/\Q (.int ys.length) H) (Xi (Yn 1) Xx)) Xx))) Xx)
noncomputable def tOrd (K:qk)(E:XK):TE:=JP [none,some 2,some 0] (ZnV (Xi (Yn 1) Xx)) (XM 0) Zin (tPop K E)
theorem Zek {α β:Type}(f:α->β):∀(l:List α) (i:Nat),(l.eraseIdx i).map f=(l.map f).eraseIdx i
 | [],i=>by simp
 | a::l,0=>by simp
 | a::l,i+1=>by simp[Zek f l i]
theorem Znt {K:qk}{E:XK}{p wa l:Addr}{n:Nat}{Hf H:Hp}{s s':Pn}{xs:List Int}{Q:VK}(hn:n<=1000)(e1:Zz (Y4 p wa) Hf H)(st:(Y4 p wa).st s H)(hl:H l=some (.lst ((Wr n).map V.int)))(nl:¬(Y4 p wa).fp l)(hfl:Hf l=none)(he:W2 n (Wr n) s=some (xs,s'))
  (k:∀(q:Addr) (H':Hp),H q=none->¬(Y4 p wa).fp q->H' q=some (.lst (xs.map V.int))->(∀b o,¬(Y4 p wa).fp b->b≠l->H b=some o->H' b=some o)->(Y4 p wa).st s' H'->Q (.ref q) H') :
  tOrd K E [some (.ref p),some (.int (n:Int)),some (.ref l)] H Q:=by
 refine⟨.int (n:Int),rfl,(n:Int),rfl,by omega,by omega,fun q hq=>?_⟩;have nq:¬(Y4 p wa).fp q:=Gh.nofp st hq;have nql:q≠l:=fun z=>by rw[z,hl] at hq;cases hq
 refine⟨fun i m σ2 H2=>∃(si:Pn) (left done rest:List Int) (o:Option V),m=n-i/\i<=n/\σ2=[o,some (.ref l),some (.ref p)]/\(Y4 p wa).st si H2/\H2 l=some (.lst (left.map V.int))/\H2 q=some (.lst (done.map V.int))/\W2 (n-i) left si=some (rest,s')/\done++rest=xs/\done.length=i/\left.length<=1000/\(∀b u,¬(Y4 p wa).fp b->b≠l->b≠q->H b=some u->H2 b=some u)/\Zz (Y4 p wa) Hf H2,?_,?_⟩
 ·refine⟨n,s,Wr n,[],xs,none,by omega,by omega,rfl,Gh.grow st hq,by rw[Zp (zm nql)];exact hl,ZO,by rw[Nat.sub_zero];exact he,rfl,rfl,by unfold Wr;simp;exact hn,fun b u nb n1 n2 hb=>by rw[Zp n2];exact hb,?_⟩
  exact fun b u nb hb=>by rw[Zp (Z6 (e1 b u nb hb) hq)];exact e1 b u nb hb
 ·rintro i m σ2 H2 ⟨si,left,done,rest,o,hm,hi,hσ,hst,hL,hD,hp,hx,hdl,hll,keep,ext⟩
  subst hσ;have sub':H2 q≠none:=by rw[hD];exact Option.some_ne_none _
  by_cases hin:i=n
  ·refine .inl ⟨by show n<=i;omega,?_⟩
   subst hin;rw[qbV] at hp;obtain⟨rfl,rfl⟩:=ZL hp;rw[zf] at hx;subst hx;exact k q H2 hq nq hD (fun b u nb n1 hb=>keep b u nb n1 (fun z=>by rw[z,hq] at hb;cases hb) hb) hst
  ·refine .inr ⟨by show i<n;omega,fun x H3 ⟨y1,y2⟩=>?_⟩
   subst y1;obtain⟨kk,hkk⟩:∃kk,n-i=kk+1:=⟨n-i-1,by omega⟩;rw[hkk] at hp;obtain⟨r,s1,y,ys,hd,r0,hy,hp2,rfl⟩:=Zhz hp;unfold XM Zin;have hrl:r.toNat<left.length:=(qL.mp hy).1;refine VN ?_;refine⟨.ref l,rfl,.inl ⟨rfl,_,ZH.of hL⟩,.ref p,rfl,.ref l,rfl,l,left.map V.int,rfl,.inl (ZH.of hL),?_⟩;refine⟨Y4 p wa,Hf,[.pen,.int (left.length:Int)],si,.int r,s1,⟨p,wa,rfl⟩,rfl,ext,?_,hst,hd,fun v Hf4 H4 g4 st4 r4 _=>?_⟩
   ·rw[zf,qd]
    exact .cons (jp.mpr rfl) (.one (ja.mpr rfl))
   ·rw[ja.mp r4]
    have hL4:H4 l=some (.lst (left.map V.int)):=g4.hh l _ nl hL;have hD4:H4 q=some (.lst (done.map V.int)):=g4.hh q _ nq hD;refine⟨l,left.map V.int,r,r.toNat,.int y,rfl,rfl,hL4,by omega,by omega,seqIndex_of r0 (by rw[qd];omega),by rw[qD,hy];rfl,?_⟩;refine⟨done.map V.int,by rw[Zp nql];exact hD4,by rw[qd,sizeLine_eq];omega,n-(i+1),by omega,s1,left.eraseIdx r.toNat,done ++ [y],ys,_,rfl,by omega,rfl,?_,?_,?_,?_,?_,?_,?_,?_,?_⟩
    ·exact ju (ju st4 nl) nq (fun φ z=>by rw[Zp nql,hD4] at z;cases z)
    ·rw[Zp (zm nql),ZO]
     congr 2;rw[Zek]
    ·rw[ZO,zD];rfl
    ·rw[show n-(i+1)=kk by omega];exact hp2
    ·rw[qar];exact hx
    ·rw[qY,hdl];rfl
    ·rw[qbI];split <;> omega
    ·intro b u nb n1 n2 hb
     rw[Zp n2,Zp n1];exact g4.hh b u nb (keep b u nb n1 n2 hb)
    ·intro b u nb hb
     have hbl:b≠l:=fun z=>by rw[z,hfl] at hb;cases hb
     have hbq:b≠q:=fun z=>by rw[z] at hb;exact absurd (e1 q u nq hb) (by rw[hq];exact fun z=>by cases z)
     rw[Zp hbq,Zp hbl];exact g4.hh b u nb (ext b u nb hb)
noncomputable def Znu (K:qk)(E:XK):TS:=Vp (V8 (B1 (fun xs H Q=>∃r j,xs=[.ref r]/\H r=some (.rng 0 j)/\-(2 ^ 62)<=j/\j<=2 ^ 24/\∀l,H l=none->Q (.ref l) (Zm H l (.lst ((qp j.toNat).map fun(i:Nat)=>V.int (0+i))))) (Xi (Zit (Xi (Yn 1) Xx)) Xx)) (XM 2)) (BT (tOrd K E))
theorem ZhA {K:qk}{E':XK}{vs:List V}{H:Hp}{Q:VK}{E:XK}{N:St->Hp->Prop}(h:Ya 2 true XC VA vs H Q E):∃p m,vs=[.ref p,.int m]/\Znu K E' { nx:=N,rt:=Q } [some (.ref p),some (.int m),none] H:=by
 obtain⟨G,Hf,ds,pn,d,pn',hG,el,e1,r,st',eF,k'⟩:=h;obtain⟨p,wa,rfl⟩:=hG;have eF0:∃(n:Nat) (xs:List Int),n<=1000/\ds=[.pen,.int (n:Int)]/\W2 n (Wr n) pn=some (xs,pn')/\d=.lst (xs.map D.int):=by
  unfold VA at eF;split at eF
  ·rename_i m
   obtain⟨c,a1⟩:=Y7 eF;obtain⟨xs,s1,a2,a3⟩:=Zy a1;obtain⟨rfl,rfl⟩:=ZL a3;obtain⟨n,rfl⟩:=qap c.1;exact⟨n,xs,by omega,rfl,a2,rfl⟩
  ·cases eF
 obtain⟨n,xs,hn,rfl,he,rfl⟩:=eF0;obtain⟨v1,v2,rfl,r1,r2⟩:=jq r
 cases (jp.mp r1)
 cases (ja.mp r2)
 refine⟨p,(n:Int),rfl,?_⟩;refine⟨.int (n:Int),rfl,(n:Int),rfl,fun g hg=>⟨g,(n:Int),rfl,ZO,by omega,by omega,fun l hl=>?_⟩⟩;have hlg:l≠g:=fun z=>by rw[z,ZO] at hl;cases hl
 have hl1:H l=none:=by rw[Zp hlg] at hl;exact hl
 have jX:(Y4 p wa).st pn (Zm H g (.rng 0 (n:Int))):=Gh.grow st' hg;have nl:¬(Y4 p wa).fp l:=Gh.nofp jX hl;have st3:(Y4 p wa).st pn (Zm (Zm H g (.rng 0 (n:Int))) l (.lst ((qp (n:Int).toNat).map fun(i:Nat)=>V.int (0+i)))):=Gh.grow jX hl;have ng:¬(Y4 p wa).fp g:=Gh.nofp st' hg;have fz:∀b,¬(Y4 p wa).fp b->H b=none->Hf b=none:=fun b nb hb=>by
  cases q:Hf b with
  | none=>rfl
  | some o=>rw[e1 b o nb q] at hb;cases hb
 have eE:Zz (Y4 p wa) Hf (Zm (Zm H g (.rng 0 (n:Int))) l (.lst ((qp (n:Int).toNat).map fun(i:Nat)=>V.int (0+i)))):=fun b u nb hb=>by
  have h1:=e1 b u nb hb;rw[Zp (Z6 h1 hl1),Zp (Z6 h1 hg)];exact h1
 have hll:(qp (n:Int).toNat).map (fun(i:Nat)=>V.int (0+i))=(Wr n).map V.int:=by
  unfold Wr;rw[qG];show(qp n).map _=_;refine zt fun i _=>?_;show V.int (0+(i:Int))=V.int (i:Int);rw[Int.zero_add]
 refine Znt hn eE st3 (by rw[ZO,hll]) nl (fz l nl hl1) he fun q H' hq nq hD keep stf=>?_;have hql:q≠l:=fun z=>by rw[z,ZO] at hq;cases hq
 have hqg:q≠g:=fun z=>by rw[z,Zp (zm hlg),ZO] at hq;cases hq
 have hqH:H q=none:=by rw[Zp hql,Zp hqg] at hq;exact hq
 have hh:Zz (Y4 p wa) H H':=fun b u nb hb=>by
  have n1:b≠l:=Z6 hb hl1;refine keep b u nb n1 ?_;rw[Zp n1,Zp (Z6 hb hg)];exact hb
 have hfq:Hf q=none:=fz q nq hqH;have rr:Zi (Y4 p wa) Hf (xs.map D.int) (xs.map V.int):=Js xs;refine k' (.ref q) (Zm Hf q (.lst (xs.map V.int))) H' ⟨hh,fun b u nb hb=>by rw[Zp (Z6 hb hfq)];exact hb,fun b u nb hb=>?_,fun b nb h1 h2=>?_⟩ stf (jc.mpr ⟨q,_,rfl,nq,ZO,Js xs⟩) fun _=>fun a ea _=>?_
 ·by_cases hb2:b=q
  ·subst hb2;rw[ZO] at hb;cases hb;exact hD
  ·rw[Zp hb2] at hb;exact hh b u nb (e1 b u nb hb)
 ·have hbq:b≠q:=fun z=>h2.no (by rw[z];exact hqH)
  rw[Zp hbq];exact h1
 ·cases ea
  exact⟨hqH,fun ds' ed=>by cases ed;exact⟨xs.map V.int,Hf,ZO,hfq,fun b u nb hb=>by rw[Zp (Z6 hb hfq)];exact hb,rr⟩⟩
theorem Zdf:∀(l:List Int) (i:Nat) (h:i<l.length),(l[i]::l.eraseIdx i).Perm l
 | [],i,h=>absurd h (by simp)
 | a::l,0,h=>qaS.refl _
 | a::l,i+1,h=>by
  have hi:i<l.length:=by simpa using h
  have:=Zdf l i hi;show(l[i]::a::l.eraseIdx i).Perm (a::l);exact(qaS.swap _ _ _).trans (qaS.cons a this)
theorem ZiD:∀(k:Nat) (left:List Int) (T:Nat) (s:Pn),left.length=k->k<=1000->Xs T s->T+k<1000000000->Ok (W2 k left) s fun xs s'=>xs.Perm left/\Xs (T+k) s'
 | 0,left,T,s,hl,_,ok,_=>by
  have:left=[]:=zP.mp hl;subst this;exact .ret ⟨qaS.refl _,ok⟩
 | k+1,left,T,s,hl,hk,ok,hT=>by
  obtain⟨r,s1,e,r0,r1,ok1⟩:=ZiA (k:=(left.length:Int)) ok (by omega) (by omega) (by omega);have hr:r.toNat<left.length:=by omega
  have hx:left[r.toNat]?=some left[r.toNat]:=qm hr;have ih:=ZiD k (left.eraseIdx r.toNat) (T+1) s1 (by rw[qbI,if_pos hr];omega) (by omega) ok1 (by omega);refine .bind (.eq e ?_);show Ok (if 0<=r then (match left[r.toNat]? with | some x=>Zn (W2 k (left.eraseIdx r.toNat)) fun xs=>ZB (x::xs) | none=>ZG) else ZG) s1 _;refine .ite r0 ?_;rw[hx];refine .bind (ih.mono fun xs s' q=>.ret ⟨?_,q.2.mono (by omega)⟩);refine(qaS.cons _ q.1).trans ?_;exact Zdf left r.toNat hr
theorem ZlB {T n:Nat}{s:Pn}(ok:Xs T s)(hT:T<900000000)(hn:n<=1000):Ok (VA [.pen,.int (n:Int)]) s fun d s'=>Xs (T+n) s'/\∃xs:List Int,d=.lst (xs.map D.int)/\xs.Perm (Wr n):=by
 show Ok (if 0<=(n:Int)/\(n:Int)<=1000 then Zn (W2 (n:Int).toNat (Wr (n:Int).toNat)) fun xs=>ZB (D.lst (xs.map D.int)) else ZG) s _;refine .ite ⟨by omega,by omega⟩ (.bind ((ZiD n (Wr n) T s (by unfold Wr;simp) hn ok (by omega)).mono fun xs s' q=>.ret ⟨q.2,xs,rfl,q.1⟩))
end TF
namespace L2
section
variable {prog:Program}{w:World}{A:Around}{E:Value->Shared->Prop}{s:Shared}
theorem ZlC {t:Addr}{vs:List Value}{Q:List Value->Shared->Prop}(ht:s.heap.IsTuple t vs.toArray)(k:Q vs { s with heap:=(s.heap.push (seqObj "list" #[] 0)).update s.heap.objs.size (zl (· ++ vs.toArray)) })(hz:vs.length<=sizeLine):wpAny (model prog w) A (collect (.ref t)) Q E s:=by
 obtain⟨o,ho,hc,n,hd⟩:=id ht;unfold collect;refine wpAny_bind (wpAny_runValue (codeAny_builtin entry_proto_collect' ?_));show wpAny _ _ (do again (.builtin "list.__iadd__" ⟨[<-newList [],.ref t],[]⟩)) _ _ s;refine wpAny_bind (wpAny_newList (wpAny_pure ⟨Code.quiet_builtin _ (by decide +kernel),codeAny_builtin entry_list_iadd' ?_⟩));show wpAny _ _ (yO (.ref s.heap.objs.size) (.ref t) (.ref s.heap.objs.size)) _ _ { s with heap:=s.heap.push (seqObj "list" #[] 0) };unfold yO;have ho':(s.heap.push (seqObj "list" #[] 0)).get? t=some o:=qq _ ho;refine wpAny_bind (wpAny_typeOf (T:="tuple") ⟨o,ho',hc⟩ ?_);have hb:(qaG "tuple" == qaG "tuple")=true:=by rfl
 rw[if_pos (by rw[hb];simp)];refine wpAny_bind (listItems_at ho' hd ?_);refine wpAny_bind (listItems_at (xs:=#[]) (n:=0) (qI _ rfl) rfl ?_);rw[if_neg (by simp)];refine wpAny_bind (listUpdate_at (xs:=#[]) (n:=0) (qI _ rfl) rfl ?_ (zk _) (by show(#[]++vs.toArray).size<=sizeLine+1;simp only[Array.size_append,qC,yt];omega));refine wpAny_pure ?_;show wpAny (model prog w) A (do let o<-load s.heap.objs.size;match o.data with | .seq xs _=>pure xs.toList | _=>unsupported "internal:collect") Q E { s with heap:=(s.heap.push (seqObj "list" #[] 0)).update s.heap.objs.size (zl (· ++ vs.toArray)) };refine wpAny_bind (wpAny_load (get?_update_seq (qI _ rfl) _) ?_);show wpAny _ _ (pure ((#[]:Array Value)++vs.toArray).toList) Q E _;rw[show((#[]:Array Value)++vs.toArray).toList=vs by simp];exact wpAny_pure k
end
end L2
namespace TF
open L2
section
variable {X:Cx}{G:Gh}
end
end TF
namespace L2
end L2
namespace TF
open L2
section
variable {X:Cx}{G:Gh}
end
end TF
namespace L2
section
variable {prog:Program}{w:World}{A:Around}{E:Value->Shared->Prop}{s:Shared}{o:Obj}{es:Array DictEntry}{d it:Addr}{ep i:Nat}
end
section
variable {X:Cx}{tg:Expr}
end
end L2
namespace TF
open L2
section
variable {X:Cx}{G:Gh}
end
end TF
namespace L2
section
variable {prog:Program}{w:World}{A:Around}{E:Value->Shared->Prop}{s:Shared}{z TI TO i1 i2:Addr}{f1 f2:List Addr}{n1 n2 k:Nat}{P1 P2:Nat->Value->Prop}{S1 S2:Nat->Heap->Prop}{a b:Value}
end
section
variable {prog:Program}{w:World}{A:Around}{E:Value->Shared->Prop}{s:Shared}
end
end L2
namespace L2
end L2
namespace TF
open L2
section
variable {X:Cx}{G:Gh}
end
end TF
namespace TS
open PySem.W
noncomputable def Yh {α:Type}(lt:Nat->Nat->Bool)(n:Nat):KasT α->(α->Prop)->Prop
 | .ret a,Q=>Q a
 | .ask i j k,Q=>i<n/\j<n/\Yh lt n (k (lt i j)) Q
theorem Yh.bind {α β:Type}{lt:Nat->Nat->Bool}{n:Nat}{f:α->KasT β}{Q:β->Prop}:∀{t:KasT α},Yh lt n t (fun a=>Yh lt n (f a) Q)->Yh lt n (t.bind f) Q
 | .ret _,h=>h
 | .ask i j k,h=>⟨h.1,h.2.1,Yh.bind (t:=k (lt i j)) h.2.2⟩
theorem Yh.mono {α:Type}{lt:Nat->Nat->Bool}{n:Nat}{Q R:α->Prop}(hr:∀a,Q a->R a):∀{t:KasT α},Yh lt n t Q->Yh lt n t R
 | .ret _,h=>hr _ h
 | .ask i j k,h=>⟨h.1,h.2.1,Yh.mono hr (t:=k (lt i j)) h.2.2⟩
theorem jE {α:Type}{lt:Nat->Nat->Bool}{n:Nat}{Q:α->Prop}{R:α->Shared->Prop}{s:Shared}{cmp:Nat->Nat->(Bool->Shared->Prop)->Shared->Prop}(hc:∀i j,i<n->j<n->∀C:Bool->Shared->Prop,C (lt i j) s->cmp i j C s)(hr:∀a,Q a->R a s):∀{t:KasT α},Yh lt n t Q->t.kasWp cmp R s
 | .ret _,h=>hr _ h
 | .ask i j k,h=>hc i j h.1 h.2.1 _ (jE hc hr (t:=k (lt i j)) h.2.2)
noncomputable def g (p:Array Nat)(k:Nat):Nat:=p.getD k 0
theorem Jd {p q:Array Nat}{i j:Nat}(h:p[i]?=q[j]?):g p i=g q j:=by
 have e:∀(r:Array Nat) (k:Nat),g r k=(r[k]?).getD 0:=fun r k=>by unfold g;simp[Array.getD_eq_getD_getElem?]
 rw[e,e,h]
structure Pm (n:Nat)(p:Array Nat):Prop where
 pos:0<n
 pm:p.toList.Perm (qp n)
section
variable {lt:Nat->Nat->Bool}{n:Nat}{p q:Array Nat}
theorem Pm.size (h:Pm n p):p.size=n:=by
 have:=h.pm.length_eq;simpa using this
theorem Pm.of (h:Pm n p)(e:q.Perm p):Pm n q:=⟨h.pos,(Array.perm_iff_toList_perm.mp e).trans h.pm⟩
theorem Pm.bd (h:Pm n p)(k:Nat):g p k<n:=by
 unfold g;by_cases hk:k<p.size
 ·have:p.getD k 0=p[k]:=by simp[Array.getD,hk]
  rw[this];have m:p[k]∈p.toList:=by simp
  have:=h.pm.mem_iff.mp m;simpa using this
 ·have:p.getD k 0=0:=by simp[Array.getD,hk]
  rw[this];exact h.pos
theorem Zoh (hj:q.size=n){m:Nat}(hm:m<=n)(k:Nat):g (kas_rev q 0 m) k=if k<m then g q (m-1-k) else g q k:=by
 have e:=getElem?_mirror_all (xs:=q) (i:=0) (j:=m) (by omega) k;unfold kas_rev;by_cases hk:k<m
 ·rw[if_pos ⟨by omega,hk⟩] at e
  rw[if_pos hk];exact Jd (by rw[e];congr 1;omega)
 ·rw[if_neg (fun z=>hk z.2)] at e
  rw[if_neg hk];exact Jd e
end
end TS
namespace TS
open PySem.W
noncomputable def XA:List Int->List Int->Bool
 | [],[]=>false
 | [],_::_=>true
 | _::_,[]=>false
 | a::as,b::bs=>if a=b then XA as bs else decide (a<b)
theorem Zge:∀a,XA a a=false
 | []=>rfl
 | a::as=>by unfold XA;rw[if_pos rfl];exact Zge as
theorem Ze6:∀a b c,XA a b=true->XA b c=true->XA a c=true
 | [],[],_,h,_=>by cases h
 | [],_::_,[],_,h=>by cases h
 | [],_::_,_::_,_,_=>rfl
 | _::_,[],_,h,_=>by cases h
 | _::_,_::_,[],_,h=>by cases h
 | a::as,b::bs,c::cs,h1,h2=>by
  unfold XA at h1 h2⊢;split at h1
  ·rename_i e;subst e
   split at h2
   ·rename_i e;subst e;rw[if_pos rfl];exact Ze6 as bs cs h1 h2
   ·rename_i e;rw[if_neg e];exact h2
  ·rename_i e1
   split at h2
   ·rename_i e;subst e;rw[if_neg e1];exact h1
   ·rename_i e2
    simp at h1 h2;rw[if_neg (by omega)];simp;omega
theorem Ze7:∀a b,a≠b->XA a b=false->XA b a=true
 | [],[],n,_=>absurd rfl n
 | [],_::_,_,h=>by cases h
 | _::_,[],_,_=>rfl
 | a::as,b::bs,n,h=>by
  unfold XA at h⊢;split at h
  ·rename_i e;subst e;rw[if_pos rfl]
   exact Ze7 as bs (fun z=>n (by rw[z])) h
  ·rename_i e
   simp at h;rw[if_neg (zm e)];simp;omega
theorem Zgf {a b:List Int}(h:XA a b=true):XA b a=false:=by
 cases e:XA b a with
 | false=>rfl
 | true=>have:=Ze6 _ _ _ h e;rw[Zge] at this;cases this
noncomputable def Jh (a b:List Int):Bool:=!XA b a
theorem Zpb (a b c:List Int)(h1:Jh a b=true)(h2:Jh b c=true):Jh a c=true:=by
 unfold Jh at h1 h2⊢;simp at h1 h2⊢;by_cases e1:a=b
 ·subst e1;exact h2
 ·by_cases e2:b=c
  ·subst e2;exact h1
  ·exact Zgf (Ze6 _ _ _ (Ze7 b a (zm e1) h1) (Ze7 c b (zm e2) h2))
noncomputable def BR (h:Heap)(v:Value)(ns:List Int):Prop:=∃a xs,v=.ref a/\h.IsTuple a (qU xs)/\IntsAre xs ns
section
variable {prog:Program}{w:World}{A:Around}{E:Value->Shared->Prop}{s:Shared}
theorem Zoi {fin:Bool}{Q:Bool->Shared->Prop}:∀{as bs:List Int} {xs ys:List Value} (i:Nat),IntsAre xs as->IntsAre ys bs->fin=decide (as.length<bs.length)->Q (XA as bs) s->KatLex prog w A true fin Q (xs.zip ys) i s
 | [],[],_,_,i,.nil,.nil,e,h=>by subst e;exact kat_nil h
 | [],_::_,_,_,i,.nil,.cons _ _ _,e,h=>by subst e;exact kat_nil h
 | _::_,[],_,_,i,.cons _ _ _,.nil,e,h=>by subst e;exact kat_nil h
 | a::as,b::bs,_,_,i,.cons _ t hx,.cons _ u hy,e,h=>by
  unfold XA at h;refine kat_cons (wpAny_eqBool_int ?_);by_cases q:a=b
  ·rw[if_pos q] at h
   rw[show(a==b)=true by simp[q]];exact kat_yes (Zoi (i+1) hx hy (by rw[e];simp) h)
  ·rw[if_neg q] at h
   rw[show(a==b)=false by simp[q]];refine kat_no ?_;by_cases hi:i=0
   ·subst hi
    exact oneLt_int h
   ·rw[show(true&&i==0)=false by simp[hi]]
    exact kat_one _ _ (lt_int h)
theorem ZpV {x y:Value}{as bs:List Int}{C:Bool->Shared->Prop}(hx:BR s.heap x as)(hy:BR s.heap y bs)(h:C (XA as bs) s):wpAny (model prog w) A (keyLt' (tuples' true) x y) C E s:=by
 obtain⟨a,xs,rfl,⟨o,ho,hc,n,hd⟩,ix⟩:=hx;obtain⟨b,ys,rfl,⟨o',ho',hc',n',hd'⟩,iy⟩:=hy;refine kat_lt ho hd ho' hd' ?_;have e:decide ((qU xs).size<(qU ys).size)=decide (as.length<bs.length):=by rw[qC,qC,ix.length,iy.length]
 exact Zoi 0 ix iy e h
theorem ZlD {h:Heap}:∀{vs:List Value} {kt:List (List Int)},Paired (BR h) vs kt->(∀ns∈kt,ns≠[])->∃fs,KatTups h vs fs/\fs.length=vs.length/\∀v∈fs,∃n t,v=qbm n t
 | _,_,.nil,_=>⟨[],.nil,rfl,fun _ z=>by simp at z⟩
 | _,_,.cons (a:=v) (b:=ns) hv r,hne=>by
  obtain⟨fs,h1,h2,h3⟩:=ZlD r fun ns' m=>hne ns' (qK _ m);obtain⟨a,xs,rfl,⟨o,ho,hc,n,hd⟩,ix⟩:=hv
  cases ix with
  | nil=>exact absurd rfl (hne [] (by simp))
  | cons m t r'=>
   refine⟨.int m t::fs,.cons ho hc hd (by simp) h1,by simp[h2],fun v hv=>?_⟩;rcases qu.mp hv with rfl | hv
   ·exact⟨m,t,rfl⟩
   ·exact h3 v hv
theorem Zpc {vs:List Value}{kt:List (List Int)}{Q:SortKind->Shared->Prop}(h:Paired (BR s.heap) vs kt)(hne:∀ns∈kt,ns≠[])(h0:0<vs.length)(q:Q (tuples' true) s):wpAny (model prog w) A (keyKind' vs.toArray) Q E s:=by
 obtain⟨fs,h1,h2,h3⟩:=ZlD h hne;refine kat_kind (T:=.type "int") h1 (by omega) (fun v hv=>?_) rfl ?_
 ·obtain⟨n,t,rfl⟩:=h3 v hv
  exact Looks.of_pure rfl
 ·exact q
theorem jx {α β:Type}{F:α->β->Prop}:∀{l:List α} {r:List β} {i:Nat} (d:α) (d':β),Paired F l r->i<l.length->F (l.getD i d) (r.getD i d')
 | _,_,i,_,_,.nil,e=>absurd e (by simp)
 | _,_,0,_,_,.cons h t,e=>h
 | _,_,i+1,d,d',.cons h t,e=>by
  have:=jx d d' t (i:=i) (by simpa using e);simpa using this
theorem range_getD {α:Type}(vs:List α)(d:α):((qp vs.length).map fun i=>vs.getD i d)=vs:=by
 refine qbe (by simp) fun i h1 h2=>?_;simp[h2]
end
end TS
namespace TS
open PySem.W
section
variable {prog:Program}{w:World}{A:Around}{E:Value->Shared->Prop}{s:Shared}
end
end TS
namespace TF
open L2 TS
section
variable {X:Cx}{G:Gh}
theorem Zel {jJ:List (Addr×Obj)}{s:Shared}{σ:St}{H:Hp}{T:V->List Int->Prop}(I:Inv X jJ σ H s)(hT:∀v ns,T v ns->∃a,v=.ref a/\ZU X.K H a (ns.map V.int)):∀{vs:List V} {jL:List Value} {kt:List (List Int)},Zw vs jL->Paired T vs kt->Paired (BR s.heap) jL kt
 | _,_,_,.nil,.nil=>.nil
 | _,_,_,.cons r rr,.cons t tt=>by
  refine .cons ?_ (Zel I hT rr tt);obtain⟨a,rfl,hq⟩:=hT _ _ t
  cases r
  obtain⟨xs,rv,pl,hz⟩:=I.tuple hq;exact⟨a,xs,rfl,show s.heap.IsTuple a xs.toArray from pl,Ve rv⟩
noncomputable def BY (ns:List Int):D:=.tup (ns.map .int)
noncomputable def JJ:List D->Option (List (List Int))
 | []=>some []
 | .tup ds::r=>match ZR ds,JJ r with | some ns,some kt=>some (ns::kt) | _,_=>none
 | _::_=>none
theorem Zem:∀{ds:List D} {kt:List (List Int)},JJ ds=some kt->ds=kt.map BY
 | [],kt,h=>by
  have h:some []=some kt:=h
  cases h;rfl
 | d::r,kt,h=>by
  cases d with
  | tup ds=>
   have h:(match ZR ds,JJ r with | some ns,some kt=>some (ns::kt) | _,_=>none)=some kt:=h
   cases e1:ZR ds with
   | none=>rw[e1] at h;cases h
   | some ns=>
    cases e2:JJ r with
    | none=>rw[e1,e2] at h;cases h
    | some ms=>
     rw[e1,e2] at h;cases h;rw[zb,<-Zem e2];unfold BY;rw[<-WR e1]
  | _=>cases h
theorem Zen {Hf:Hp}:∀{kt:List (List Int)} {vs:List V},Zi G Hf (kt.map BY) vs->Paired (fun v ns=>Zk G Hf (BY ns) v) vs kt
 | [],vs,h=>by
  rw[Zi.nil_iff.mp h];exact .nil
 | ns::kt,vs,h=>by
  obtain⟨v,r,rfl,h1,h2⟩:=jd.mp h;exact .cons h1 (Zen h2)
end
end TF
namespace TF
open L2
section
variable {X:Cx}{G:Gh}{own:List Nat}{fr:Bool}
end
section
variable {X:Cx}{G:Gh}
noncomputable def vD:V->Option D
 | .int i=>some (.int i)
 | .bl b=>some (.bl b)
 | .str x=>some (.str x)
 | .non=>some .non
 | _=>none
theorem Zpd {H:Hp}{v:V}{c:D}(h:vD v=some c):Zk G H c v:=by
 cases v with
 | int i=>cases h;exact ja.mpr rfl
 | bl i=>cases h;exact je.mpr rfl
 | str i=>cases h;exact jh.mpr rfl
 | non=>cases h;exact jg.mpr rfl
 | _=>cases h
noncomputable def Ux:D->D->Option D
 | .dk kvs,y=>match Xw y with | some k=>(ZZ kvs k).bind vD | none=>none
 | .df kvs,y=>match Xw y with | some k=>(ZZ kvs k).bind vD | none=>none
 | .dt kvs,.tup ks=>match Xq ks with | some k=>(ZZ kvs k).bind vD | none=>none
 | .du kvs,.tup ks=>match Xq ks with | some k=>(ZZ kvs k).bind vD | none=>none
 | _,_=>none
theorem ZiE {a b:Expr}{pos:Pos}{fa fb:Zb->M D}{r1 r2:Bool}(hu:X.A.units+1<cLine)(ha:PD X G r1 a fa)(hb:PD X G r2 b fb)(hs:NoSl b:=by intro _ _;rfl):PD X G false (.Subscript a b pos) (Zd Ux fa fb):=by
 obtain⟨ta,pa,qa⟩:=ha.drop;obtain⟨tb,pb,qb⟩:=hb.drop;refine⟨_,WD hu pa pb hs,fun σ Hf H ρ s d s' Q e1 e2 e3 e4 k=>?_⟩;obtain⟨da,s1,a1,a2⟩:=Zy e4;obtain⟨db,s2,a3,a4⟩:=Zy a2;obtain⟨a5,rfl⟩:=Wf a4;refine qa σ Hf H ρ s da s1 _ e1 e2 e3 a1 fun x jT H1 g1 j6 r1=>?_;refine qb σ jT H1 ρ s1 db _ _ g1.fh (e2.ext g1.ff) j6 a3 fun y j7 H2 g2 jX r2=>?_;have r1:=r1.ext g2.ff;have fin:∀v c,d=c->vD v=some c->Q v H2:=fun v c ec h=>by
  subst ec;exact k v j7 H2 (g1.trans g2) jX (Zpd h) (fun z=>by cases z)
 match da,a5,r1 with
 | .dk kvs,a5,r1=>
  obtain⟨p,rfl,np,hp⟩:=jk.mp r1;have a5:(match Xw db with | some k=>(ZZ kvs k).bind vD | none=>none)=some d:=a5
  cases ek:Xw db with
  | none=>rw[ek] at a5;cases a5
  | some ky=>
   rw[ek] at a5;obtain⟨v,ev,e6⟩:=yK.mp a5;have ey:=Jr ek r2;subst ey;refine⟨p,v,rfl,?_,fin v d rfl e6⟩;rw[<-ev];exact Xk.k (g2.fh _ _ np hp)
 | .df kvs,a5,r1=>
  obtain⟨p,o,rfl,np,hp⟩:=jr.mp r1;have a5:(match Xw db with | some k=>(ZZ kvs k).bind vD | none=>none)=some d:=a5
  cases ek:Xw db with
  | none=>rw[ek] at a5;cases a5
  | some ky=>
   rw[ek] at a5;obtain⟨v,ev,e6⟩:=yK.mp a5;have ey:=Jr ek r2;subst ey;exact⟨p,v,rfl,.inl ⟨kvs,ky,.inr ⟨o,g2.fh _ _ np hp⟩,rfl,ev.symm⟩,fin v d rfl e6⟩
 | .du kvs,a5,r1=>
  obtain⟨p,rfl,np,hp⟩:=jm.mp r1
  match db,a5,r2 with
  | .tup ks,a5,r2=>
   have a5:(match Xq ks with | some k=>(ZZ kvs k).bind vD | none=>none)=some d:=a5;obtain⟨q,vs,rfl,nq,hq,rq⟩:=jb.mp r2
   cases ek:Xq ks with
   | none=>rw[ek] at a5;cases a5
   | some ky=>
    rw[ek] at a5;obtain⟨v,ev,e6⟩:=yK.mp a5;have ey:=Jp ek rq;subst ey;refine⟨p,v,rfl,?_,fin v d rfl e6⟩;rw[<-ev];exact Xk.t (g2.fh _ _ np hp) (g2.fh _ _ nq hq)
 | .dt kvs,a5,r1=>
  obtain⟨p,o,rfl,np,hp⟩:=jl.mp r1
  match db,a5,r2 with
  | .tup ks,a5,r2=>
   have a5:(match Xq ks with | some k=>(ZZ kvs k).bind vD | none=>none)=some d:=a5;obtain⟨q,vs,rfl,nq,hq,rq⟩:=jb.mp r2
   cases ek:Xq ks with
   | none=>rw[ek] at a5;cases a5
   | some ky=>
    rw[ek] at a5;obtain⟨v,ev,e6⟩:=yK.mp a5;have ey:=Jp ek rq;subst ey;exact⟨p,v,rfl,.inr ⟨kvs,ky,q,.inr ⟨o,g2.fh _ _ np hp⟩,rfl,g2.fh _ _ nq hq,ev.symm⟩,fin v d rfl e6⟩
end
section
variable {X:Cx}{G:Gh}{ob:List Nat}{fr:Bool}
end
section
variable {X:Cx}{G:Gh}{ob own:List Nat}{fr:Bool}
noncomputable def JK (c:Zb->M Bool)(g:Zb->M Out):Nat->Zb->M Out
 | 0,_=>ZG
 | n+1,ρ=>Zn (c ρ) fun b=>if b=true then Zn (g ρ) fun o=>match o with | .nx ρ2=>JK c g n ρ2 | .ct ρ2=>JK c g n ρ2 | .bk ρ2=>ZB (.nx ρ2) | .rt d=>ZB (.rt d) else ZB (.nx ρ)
noncomputable def ZhB (n:Nat)(c:Zb->M Bool)(g:Zb->M Out):Zb->M Out:=JK c g n
theorem ZjO {n:Nat}{c:Expr}{body:List Stmt}{pos:Pos}{fc:Zb->M Bool}{g:Zb->M Out}(hp:PassesOwn (model X.prog X.w) X.A X.env X.xe)(hc:X2 X G c fc)(hb:Wa X G own own own fr body g):Xm X G ob own own fr (.While c body [] pos) (ZhB n fc g):=by
 obtain⟨tc,pc,qc⟩:=hc;obtain⟨tb,pb,qb⟩:=hb;refine⟨_,ZkG hp pc pb,fun kn jV H0 σ H ρ s out s' E ⟨Hf,j⟩ st e po=>?_⟩;refine⟨fun m σ2 H2=>∃ρ2 s2,J G own kn jV H0 σ2 H2 ρ2/\G.st s2 H2/\JK fc g m ρ2 s2=some (out,s'),⟨n,ρ,s,⟨Hf,j⟩,st,e⟩,?_⟩;rintro m σ2 H2 ⟨ρ2,s2,⟨j7,j2⟩,jX,eq2⟩
 cases m with
 | zero=>cases eq2
 | succ m=>
  obtain⟨b,s3,a1,a2⟩:=Zy eq2;refine qc σ2 _ H2 ρ2 s2 b s3 _ UO j2.envB jX a1 fun Hf' H' g' st'=>?_;obtain⟨F,j',fF,q1,q2⟩:=j2.growB g'
  cases b with
  | false=>
   obtain⟨rfl,rfl⟩:=ZL a2;exact VM (po σ2 H' ⟨F,j'⟩ st')
  | true=>
   rw[if_pos rfl] at a2;obtain⟨o,s4,b3,b4⟩:=Zy a2;refine VN ⟨fun σ' H'=>∃ρ5 s5,J G own kn jV H0 σ' H' ρ5/\G.st s5 H'/\JK fc g m ρ5 s5=some (out,s'),fun σ' H' h=>⟨m,yR m,h⟩,?_⟩;refine qb kn jV H0 σ2 H' ρ2 s3 o s4 _ ⟨F,j'⟩ st' b3 ?_
   cases o with
   | nx ρ5=>exact fun σ5 H5 j5 st5=>⟨ρ5,s4,j5,st5,b4⟩
   | ct ρ5=>exact fun σ5 H5 j5 st5=>⟨ρ5,s4,j5,st5,b4⟩
   | bk ρ5=>
    obtain⟨rfl,rfl⟩:=ZL b4;exact fun σ5 H5 j5 st5=>po σ5 H5 j5 st5
   | rt d=>
    obtain⟨rfl,rfl⟩:=ZL b4;exact po
end
theorem Ok.swhile {n:Nat}{c:Zb->M Bool}{g:Zb->M Out}{ρ:Zb}{s:Pn}{Q:Out->Pn->Prop}(I:Nat->Zb->Pn->Prop)(m:Nat)(hm:m<n)(h0:I m ρ s)
  (step:∀m ρ s,I m ρ s->Ok (c ρ) s fun b s1=>if b=true then Ok (g ρ) s1 fun o s2=>match o with | .nx ρ'=>∃m',m'<m/\I m' ρ' s2 | .ct ρ'=>∃m',m'<m/\I m' ρ' s2 | .bk ρ'=>Q (.nx ρ') s2 | .rt d=>Q (.rt d) s2 else Q (.nx ρ) s1):Ok (ZhB n c g ρ) s Q:=by
 show Ok (JK c g n ρ) s Q
 induction n generalizing m ρ s with
 | zero=>omega
 | succ n ih=>
  refine Ok.bind ((step m ρ s h0).mono fun b s1 q=>?_)
  cases b with
  | false=>exact .ret (by simpa using q)
  | true=>
   rw[if_pos rfl] at q;rw[if_pos rfl];refine Ok.bind (q.mono fun o s2 q=>?_)
   cases o with
   | nx ρ'=>obtain⟨m',hm',h'⟩:=q;exact ih m' (by omega) h'
   | ct ρ'=>obtain⟨m',hm',h'⟩:=q;exact ih m' (by omega) h'
   | bk ρ'=>exact .ret q
   | rt d=>exact .ret q
section
variable {X:Cx}{G:Gh}{ob own:List Nat}{fr:Bool}
theorem ZlE {pos:Pos}:PD X G true (.Dict [] [] pos) (dC (.dk [])):=by
 refine⟨_,ZkV,fun σ Hf H ρ s d s' Q e1 e2 e3 e4 k=>?_⟩;obtain⟨rfl,rfl⟩:=ZL e4;intro p hp;have nf:=Gh.nofp e3 hp;have g2:=Gr.new (o:=.dK []) e1 hp nf;exact k (.ref p) _ _ g2 (Gh.grow e3 hp) (jk.mpr ⟨p,rfl,nf,ZO⟩) fun _ a ea _=>by cases ea;exact⟨hp,fun ds ed=>by cases ed⟩
noncomputable def JS (i:Nat)(fx fv:Zb->M D):Zb->M Out:=fun ρ=>Zn (fv ρ) fun v=>Zn (fx ρ) fun x=>match (ρ[i]?).bind id with
 | some (.dk kvs)=>match Xw x,WH v with | some k,some w=>if kvs.length<sizeLine then ZB (.nx (ρ.set i (some (.dk (Yo kvs k w))))) else ZG | _,_=>ZG
 | _=>ZG
theorem ZlF {r1 r2:Bool}{i:Nat}{x:Str}{ex ev:Expr}{p1 p2 pos:Pos}{fx fv:Zb->M D}{tx tv:TE}(hu:X.A.units+1<cLine)(hi:i∈own)(hn:PE X (.Name x p1) (Yn i))(px:PE X ex tx)(yx:Ua G own r1 tx fx)(pv':PE X ev tv)(yv:Ua G own r2 tv fv)
  (hs:swapsWith ev (some (.Subscript (.Name x p1) ex p2)) pos.line X.env=pure false) :
  Xm X G ob own own fr (.Assign [.Subscript (.Name x p1) ex p2] ev pos) (JS i fx fv):=by
 refine⟨_,Zil hu hn px pv' hs,fun kn jV H0 σ H ρ s out s' E ⟨Hf,j⟩ st e po=>?_⟩;obtain⟨v,s1,a1,a2⟩:=Zy e;obtain⟨xx,s2,a3,a4⟩:=Zy a2;refine yv kn jV H0 σ Hf H ρ s v s1 _ j st a1 fun w jT H1 j1 e1 e2 j6 r1 _=>?_
 cases hb:(ρ[i]?).bind id with
 | none=>rw[hb] at a4;cases a4
 | some c=>
  rw[hb] at a4
  cases c with
  | dk kvs=>
   have a4':(match Xw xx,WH v with | some k,some w=>if kvs.length<sizeLine then ZB (Out.nx (ρ.set i (some (.dk (Yo kvs k w))))) else ZG | _,_=>ZG) s2=some (out,s'):=a4
   cases hk:Xw xx with
   | none=>rw[hk] at a4';cases a4'
   | some k=>
    cases hw:WH v with
    | none=>rw[hk,hw] at a4';cases a4'
    | some w'=>
     rw[hk,hw] at a4';obtain⟨hl,a5⟩:=Y7 a4';obtain⟨rfl,rfl⟩:=ZL a5;have ei:=ZcC hb;obtain⟨a,h1,h2,h3,h4,h5⟩:=j1.ow i _ hi ei;refine⟨_,h1,?_⟩;refine yx kn jV H0 σ jT H1 ρ s1 _ _ _ j1 j6 a3 fun w2 j7 H2 j2 e3 e4 jX r2 _=>?_;obtain⟨a',h1',h2',h3',h4',h5'⟩:=j2.ow i _ hi ei;rw[h1] at h1';cases h1';have ek:=Jr hk r2;subst ek;have ew:=ZbU hw r1;subst ew;refine⟨a,_,rfl,Ws.k (k:=k) (show H2 a=some (.dK kvs) from h5') (by omega),?_⟩;exact po σ _ ⟨j7,j2.put hi ei h1 (show Zm H2 a (.dK (Yo kvs k w)) a=some (.dK (Yo kvs k w)) from ZO)⟩ (ju jX h2)
  | _=>cases a4
theorem ZjP {r1 r2:Bool}{i:Nat}{x:Str}{ex ev:Expr}{p1 p2 pos:Pos}{fx fv:Zb->M D}(hu:X.A.units+1<cLine)(hi:i∈own)(hn:PE X (.Name x p1) (Yn i))(hx:PD X G r1 ex fx)(hv:PD X G r2 ev fv)
  (hs:swapsWith ev (some (.Subscript (.Name x p1) ex p2)) pos.line X.env=pure false:=by rfl) :
  Xm X G ob own own fr (.Assign [.Subscript (.Name x p1) ex p2] ev pos) (JS i (fun ρ=>fx (YN own ρ)) (WA r2 fv)):=by
 obtain⟨tv,pv',qv⟩:=hv;obtain⟨tx,px,qx⟩:=hx;have yv:Wl G r2 tv fv:=qv;have yx:Wl G r1 tx fx:=qx;exact ZlF hu hi hn px yx.a pv' yv.b hs
noncomputable def XZ (n:Int)(r:List Int):Int:=r.foldl min n
theorem Znv (r:List Int):∀n,XZ n r<=n/\∀a∈r,XZ n r<=a:=by
 induction r with
 | nil=>intro n;exact⟨yY _,by simp⟩
 | cons b r ih=>
  intro n;obtain⟨h1,h2⟩:=ih (min n b);refine⟨?_,fun a ha=>?_⟩
  ·show XZ (min n b) r<=n;omega
  ·show XZ (min n b) r<=a
   rcases qu.mp ha with rfl | ha
   ·omega
   ·exact h2 a ha
theorem ZlG (r:List Int):∀n,XZ n r∈n::r:=by
 induction r with
 | nil=>intro n;simp[XZ]
 | cons b r ih=>
  intro n;have h:=ih (min n b);show XZ (min n b) r∈n::b::r;rcases qu.mp h with h | h
  ·rw[h]
   rcases Int.le_total n b with z | z
   ·rw[Int.min_eq_left z];simp
   ·rw[Int.min_eq_right z];simp
  ·exact qK _ (qK _ h)
theorem Zgg {n M:Int}{r:List Int}(h1:M∈n::r)(h2:∀a∈n::r,M<=a):M=XZ n r:=by
 obtain⟨g1,g2⟩:=Znv r n;have g3:=h2 _ (ZlG r n);have g4:XZ n r<=M:=by
  rcases qu.mp h1 with h | h
  ·rw[h];exact g1
  ·exact g2 M h
 omega
noncomputable def ZlH:List D->Option D
 | [.lst ds]=>match ZR ds with | some (n::r)=>some (.int (XZ n r)) | _=>none
 | _=>none
theorem ZjQ (hc:X.calm=true):XT X (.builtin "min") (fun xs H Q=>∃p n r,xs=[.ref p]/\ZH X.K H p ((n::r).map V.int)/\Q (.int (XZ n r)) H):=by
 intro jJ s σ H xs us Q I r h;obtain⟨p,n,rr,rfl,hp,q⟩:=h;obtain⟨u,rfl,ru⟩:=XU r
 cases ru
 obtain⟨jL,rv,pl,hz⟩:=I.list hp;have hi:IntsAre jL (n::rr):=Ve rv;obtain⟨xs,e⟩:=hi.allInts.items;have hns:n::rr=xs.toList.map (·.1):=by rw[<-hi.numsOf,<-nums_intItems,<-e]
 have hl:=pl.isList;rw[e] at hl;have hsz:0<xs.size:=by
  have h3:0<(n::rr).length:=by simp
  rw[hns,qd,za] at h3;exact h3
 refine min_intList (I.ok.hd hc) hl hsz fun v h' tk hv hk=>?_;obtain⟨t,rfl⟩:=intItems_at hv;obtain⟨h1,h2⟩:=argBest_lt (numAt xs) (xs.size-1);have e2:numAt xs (argBest (fun i j=>decide (numAt xs i<numAt xs j)) (xs.size-1))=XZ n rr:=by
  refine Zgg ?_ fun a ha=>?_
  ·rw[hns,numAt_eq];exact getD_mem (by rw[qd,za];omega)
  ·rw[hns] at ha
   obtain⟨j,hj,rfl⟩:=mem_getD ha;rw[qd,za] at hj;rw[<-numAt_eq];exact h2 j (by omega)
 rw[e2];exact⟨.int (XZ n rr),H,I.kept (t':=tk) hk,⟨_,rfl⟩,q⟩
theorem ZhC (hc:X.calm=true):Wi X G (.builtin "min") ZlH:=
 ⟨_,ZjQ hc,fun Hf H s xs ds c Q e1 st r q k=>by
  match ds,q,r with
  | [.lst es],q,r=>
   have q:(match ZR es with | some (n::r)=>some (D.int (XZ n r)) | _=>none)=some c:=q
   cases he:ZR es with
   | none=>rw[he] at q;cases q
   | some ns=>
    cases ns with
    | nil=>rw[he] at q;cases q
    | cons n rr=>
     rw[he] at q
     cases q
     obtain⟨v,rfl,rv⟩:=ji r;obtain⟨p,vs,rfl,np,hp,rp⟩:=jc.mp rv;rw[WR he] at rp;rw[jn rp] at hp;exact⟨p,n,rr,rfl,ZH.of (e1 _ _ np hp),k _ Hf H (.refl e1) st (ja.mpr rfl) (.scal fun z=>z)⟩⟩
noncomputable def Zpe (K:qk):V->List V->Hp->VK->Prop:=fun x vs H Q=>∃(p:Addr) (ns:List Int) (k:Int),x=.ref p/\vs=[.int k]/\ZH K H p (ns.map V.int)/\k∈ns/\Q (.int (ns.idxOf k:Nat)) H
theorem ZlI : MtR X "list.index" (Zpe X.K) := by
  intro jJ s σ H x xs v us Q I rx rv h;obtain⟨p, ns, k, rfl, rfl, hp, hk, q⟩ := h
  cases rx
  obtain⟨u, rfl, t, rfl⟩ := XU rv;obtain⟨jL, r2, pl, hz⟩ := I.list hp;have hi : IntsAre jL ns := Ve r2;obtain⟨⟨c0, d0, dat, sl0⟩, hob, hcl, n0, hdat⟩ := id pl.isList;simp only at hcl hdat;subst hcl hdat;have l1 := hi.length;have l2 : ns.idxOf k < ns.length := by rw[qah]; exact hk
  have l3 : ns.length <= sizeLine := by simpa using hz
  have l4 := BC;have go := SeqAt.list_indexAt p jL.toArray n0 d0 sl0 (.int k t) (isInt k) (ns.idxOf k) (by simpa[l1] using l2) (by omega)
    (by show isInt k jL[ns.idxOf k] = true
        rw[isInt_at k hi (ns.idxOf k) (by omega) l2]; simpa using List.getElem_idxOf l2)
    (fun j hjs hlt => by
        show isInt k jL[j] = false;rw[isInt_at k hi j (by simpa using hjs) (by have : j < ns.idxOf k := hlt; omega)]; exact ne_of_lt_idxOf hlt _)
  refine call_meets qbl ⟨_, hob, rfl⟩ PySem.F.entry_list_index (PySem.F.args_list_index_2 _ _) go ⟨hob, fun y hy => (eq_isInt k t hi y (by simpa using hy)).at _ _, ?_⟩;exact⟨.int (ns.idxOf k : Nat), H, I.tok _, ⟨_, rfl⟩, q⟩
noncomputable def Ze8:D->D->Option D
 | .lst ds,.int k=>(ZR ds).bind fun ns=>if k∈ns then some (.int (ns.idxOf k:Nat)) else none
 | _,_=>none
theorem ZlJ {o e:Expr}{ap cp:Pos}{r1 r2:Bool}{fo fe:Zb->M D}(ho:PD X G r1 o fo)(he:PD X G r2 e fe)
  (hbase:attributeBase o "index" X.env (eval o X.env)=eval o X.env:=by rfl)
  (hfew:((backTo cp (starEach [e] X.env)).all (fun x=>!x.1)&&(backToKw cp (keywordEach [] X.env)).all (fun x=>x.1.isSome)
   && decide ([e].length+([]:List Keyword).length+(if ([]:List Keyword).isEmpty then 0 else 1)<30))=true:=by rfl)
  (hline:(ap.endLine==cp.line)=true:=by rfl) (hs:starEach [e] X.env=(false,eval e X.env)::starEach [] X.env:=by rfl) :
  PD X G true (.Call (.Attribute o "index" ap) [e] [] cp) (Zd Ze8 fo fe):=by
 obtain⟨to,po,qo⟩:=ho.drop;obtain⟨te,pe,qe⟩:=he.drop;refine⟨_,Zij yJ qbl PySem.F.type_list_index ZlI po (YS pe Y8 hs) hbase hfew hline hs rfl,fun σ Hf H ρ s d s' Q e1 e2 e3 e4 k=>?_⟩;obtain⟨da,s1,a1,a2⟩:=Zy e4;obtain⟨db,s2,a3,a4⟩:=Zy a2;obtain⟨a5,rfl⟩:=Wf a4;refine qo σ Hf H ρ s da s1 _ e1 e2 e3 a1 fun x jT H1 g1 j6 r1=>?_
 match da,db,a5,r1,a3 with
 | .lst ds,.int kk,a5,r1,a3=>
  have a5:((ZR ds).bind fun ns=>if kk∈ns then some (D.int (ns.idxOf kk:Nat)) else none)=some d:=a5
  cases he:ZR ds with
  | none=>rw[he] at a5;cases a5
  | some ns=>
   rw[he] at a5;have a5:(if kk∈ns then some (D.int (ns.idxOf kk:Nat)) else none)=some d:=a5;split at a5
   ·rename_i hmem
    cases a5
    obtain⟨p,vs,rfl,np,hp,rp⟩:=jc.mp r1;refine⟨.inl ⟨rfl,vs,ZH.of (g1.fh _ _ np hp)⟩,?_⟩;refine qe σ jT H1 ρ s1 _ _ _ g1.fh (e2.ext g1.ff) j6 a3 fun y j7 H2 g2 jX r2=>?_;rw[WR he] at rp;rw[jn rp] at hp
    cases (ja.mp r2)
    exact⟨p,ns,kk,rfl,rfl,ZH.of (g2.fh _ _ np (g2.ff _ _ np hp)),hmem,k _ j7 H2 (g1.trans g2) jX (ja.mpr rfl) fun _=>.scal fun z=>z⟩
   ·cases a5
noncomputable def sAug (i:Nat)(fv:Zb->M D):Zb->M Out:=fun ρ=>Zn (fv ρ) fun v=>match (ρ[i]?).bind id,v with
 | some (.int a),.int b=>ZB (.nx (ρ.set i (some (.int (a+b)))))
 | _,_=>ZG
theorem ZlK {r1:Bool}{i:Nat}{x:Str}{ev:Expr}{p1 pos:Pos}{fv:Zb->M D}{tv:TE}(hN:X.N.Nodup)(hi:X.N[i]?=some x)(hx:Wy X.env.scope x)(hio:i∉own)(pv':PE X ev tv)(yv:Ua G own r1 tv fv)
  (hf:X.fn x=true∨X.env.scope.names.lookup x=some .local):Xm X G ob own own fr (.AugAssign (.Name x p1) .Add ev pos) (sAug i fv):=by
 refine⟨_,ZoG hN hi hx pv' ZoH hf,fun kn jV H0 σ H ρ s out s' E ⟨Hf,j⟩ st e po=>?_⟩;obtain⟨v,s1,a1,a2⟩:=Zy e
 cases hb:(ρ[i]?).bind id with
 | none=>rw[hb] at a2;cases a2
 | some c=>
  rw[hb] at a2
  cases c with
  | int a=>
   cases v with
   | int b=>
    obtain⟨rfl,rfl⟩:=ZL a2;obtain⟨w,h1,h2⟩:=j.fz i _ hio (ZcC hb);rw[ja.mp h2] at h1;refine⟨_,h1,yv kn jV H0 σ Hf H ρ s _ _ _ j st a1 fun w2 jT H1 j1 e1 e2 j6 r1 _=>?_⟩;rw[ja.mp r1];exact⟨a,b,rfl,rfl,po _ _ ⟨jT,j1.setF hio (ja.mpr rfl)⟩ j6⟩
   | _=>cases a2
  | _=>cases v <;> cases a2
theorem Znw {r1:Bool}{i:Nat}{x:Str}{ev:Expr}{p1 pos:Pos}{fv:Zb->M D}(hN:X.N.Nodup)(hi:X.N[i]?=some x)(hx:Wy X.env.scope x)(hv:PD X G r1 ev fv)(hio:i∉own:=by decide)
  (hf:X.fn x=true∨X.env.scope.names.lookup x=some .local:=by first | exact .inl rfl | exact .inr rfl | assumption):Xm X G ob own own fr (.AugAssign (.Name x p1) .Add ev pos) (sAug i (WA r1 fv)):=by
 obtain⟨tv,pv',qv⟩:=hv;have yv:Wl G r1 tv fv:=qv;exact ZlK hN hi hx hio pv' yv.b hf
end
section
variable {X:Cx}{G:Gh}{ob own:List Nat}{fr:Bool}
noncomputable def ZlL (d e:D):Option D:=match e with | .non=>(U6 d).map fun b=>.bl (!b) | _=>none
theorem ZlM:Xf X G (compareOp .IsNot) ZlL:=
 ⟨_,ZmN,fun Hf H s x y d e c Q e1 st rx ry q k=>by
  cases e with
  | non=>
   have q:(U6 d).map (fun b=>D.bl (!b))=some c:=q
   cases hb:U6 d with
   | none=>rw[hb] at q;cases q
   | some b=>
    rw[hb] at q
    cases q
    refine⟨jg.mp ry,?_⟩;rw[Zej hb rx];exact k _ Hf H (.refl e1) st (je.mpr rfl) (.scal fun z=>z)
  | _=>cases q⟩
end
end TF
namespace HT
section
variable {prog:Program}{w:World}{A:Around}{E:Value->Shared->Prop}{s:Shared}
end
end HT
namespace TF
open L2
section
variable {X:Cx}{G:Gh}
noncomputable def ZlN (ns:List Int):Nat:=(ns.foldl step_dedup []).length
theorem Ze9 (ns:List Int):(ns.foldl step_dedup []).Nodup/\∀x,x∈ns.foldl step_dedup []↔x∈ns:=by
 have gen:∀(r jR:List Int),jR.Nodup->(r.foldl step_dedup jR).Nodup/\∀x,x∈r.foldl step_dedup jR↔x∈jR∨x∈r:=by
  intro r
  induction r with
  | nil=>intro jR h;exact⟨h,fun x=>by simp⟩
  | cons a r ih=>
   intro jR h;show(r.foldl step_dedup (step_dedup jR a)).Nodup/\∀x,x∈r.foldl step_dedup (step_dedup jR a)↔_;by_cases m:jR.any (· == a)=true
   ·have e:step_dedup jR a=jR:=by unfold step_dedup;rw[if_pos m]
    rw[e];obtain⟨h1,h2⟩:=ih jR h;obtain⟨y,hy,ey⟩:=List.any_eq_true.mp m;have ey:y=a:=by simpa using ey
    subst ey;refine⟨h1,fun x=>?_⟩;rw[h2 x];constructor
    ·rintro(z | z)
     ·exact .inl z
     ·exact .inr (qK _ z)
    ·rintro(z | z)
     ·exact .inl z
     ·rcases qu.mp z with z | z
      ·subst z;exact .inl hy
      ·exact .inr z
   ·have e:step_dedup jR a=jR ++ [a]:=by unfold step_dedup;rw[if_neg m]
    rw[e];have na:a∉jR:=fun z=>m (List.any_eq_true.mpr ⟨a,z,by simp⟩);obtain⟨h1,h2⟩:=ih (jR ++ [a]) (qau.mpr ⟨h,by simp,fun x hx y hy=>by
     have:=qN.mp hy;subst this;exact fun z=>na (z▸hx)⟩)
    refine⟨h1,fun x=>?_⟩;rw[h2 x];simp only[qP,qu,yo,or_false];constructor
    ·rintro((z | z) | z)
     ·exact .inl z
     ·exact .inr (.inl z)
     ·exact .inr (.inr z)
    ·rintro(z | z | z)
     ·exact .inl (.inl z)
     ·exact .inl (.inr z)
     ·exact .inr z
 obtain⟨h1,h2⟩:=gen ns [] qaP;exact⟨h1,fun x=>by rw[h2 x];simp⟩
end
end TF
namespace HT
section
variable {prog:Program}{w:World}{A:Around}{R:Result->Shared->Prop}{I:Addr}{fp wr:List Addr}{n:Nat}{P:Nat->Value->Prop}{St:Nat->Heap->Prop}
theorem ZjR (kw:List (Str×Value))(W:Walks prog w A.in1 I fp wr n P St)(bt:Nat->Nat->Bool)(hcmp:CmpOf prog w A.in1 .Gt P bt)(S:Addr)(hSf:S∉fp):∀(k j:Nat) (s:Shared) (vb:Value) (c:Nat),n-(j+1)=k->j+1<=n->St (j+1) s.heap->P (argBest bt j) vb->s.heap.get? S=some { cls:=.type "list",dict:=none,data:=.seq #[vb,vb] c,slots:=#[] }->
  (∀v h' tk,P (argBest bt (n-1)) v->(∀b o,b∉wr->b≠S->s.heap.get? b=some o->h'.get? b=some o)->R (.ok (.ret v)) { s with heap:=h',toks:=tk })->codeAny (model prog w) A (.builtin "max.loop" ⟨[.ref I,.none,.ref S],kw⟩) R s:=by
 have hSw:S∉wr:=fun h=>hSf (W.sub _ h);have hname:(toString "max" ++ toString ".loop" : String) = "max.loop":=by decide
 intro k
 induction k with
 | zero=>
  intro j s vb c hk hj hst hPb hS hR;have hin:j+1=n:=by omega
  refine codeAny_builtin zS ?_;rw[zq qV _];show wpAny _ A.in1 (seqItems? (.ref S) >>= _) _ _ s;refine wpAny_bind (wpAny_seqItems hS rfl ?_);show wpAny _ A.in1 (tryCatch (pyNext (.ref I)) _ >>= _) _ _ s;refine wpAny_bind (wpAny_tryCatch (W.done s _ _ (hin▸hst) fun h' tk hk'=>?_));have hS':=hk' S _ hSw hS;show wpAny _ A.in1 (updateSeq S (fun _=>#[]) >>= _) _ _ _;refine wpAny_bind ?_;refine wpAny_updateSeq hS' rfl (wpAny_bind (wpAny_letGo (wpAny_pure ?_)));refine hR vb _ tk (by rw[<-hin];exact hPb) fun b o hbw hbS e=>(zR _ _ (zm hbS)).trans (hk' b o hbw e)
 | succ k ih=>
  intro j s vb c hk hj hst hPb hS hR;have hlt:j+1<n:=by omega
  refine codeAny_builtin zS ?_;rw[zq qV _];show wpAny _ A.in1 (seqItems? (.ref S) >>= _) _ _ s;refine wpAny_bind (wpAny_seqItems hS rfl ?_);show wpAny _ A.in1 (tryCatch (pyNext (.ref I)) _ >>= _) _ _ s;refine wpAny_bind (wpAny_tryCatch (W.item (j+1) s _ _ hlt hst fun v h' tk hP hst' hk'=>?_));have hS':=hk' S _ hSw hS;show wpAny _ A.in1 (tryCatch (holding [v,v] (richCompare .Gt v vb >>= _)) _ >>= _) _ _ _;refine wpAny_bind (wpAny_tryCatch (wpAny_holding (wpAny_bind (hcmp (j+1) (argBest bt j) v vb _ _ _ hP hPb ?_))));refine wpAny_bind (wpAny_holding (wpAny_truthy_bool ?_));refine wpAny_bind (wpAny_letGo (wpAny_pure ?_))
  cases hb:bt (j+1) (argBest bt j) with
  | true=>
   simp only[if_true];refine wpAny_bind ?_;refine wpAny_updateSeq hS' rfl (wpAny_bind (wpAny_letGo ?_));rw[hname];refine wpAny_pure ⟨plainId_quiet qV _,ih (j+1) _ v _ (by omega) hlt (W.frame _ _ _ hst' fun b hbf o e=>?_) (by simp only[argBest,hb,if_true];exact hP) (qaE _ hS' rfl) fun v' h'' tk'' hP' hk''=>?_⟩
   ·exact(zR _ _ (fun h:S=b=>hSf (by rw[h];exact hbf))).trans e
   ·exact hR v' h'' tk'' hP' fun b o hbw hbS e=>hk'' b o hbw hbS ((zR _ _ (zm hbS)).trans (hk' b o hbw e))
  | false=>
   simp only[yc,if_false];refine wpAny_bind (wpAny_letGo ?_);rw[hname];refine wpAny_pure ⟨plainId_quiet qV _,ih (j+1) _ vb c (by omega) hlt hst' (by simp only[argBest,hb,yc,if_false];exact hPb) hS' fun v' h'' tk'' hP' hk''=>?_⟩;exact hR v' h'' tk'' hP' fun b o hbw hbS e=>hk'' b o hbw hbS (hk' b o hbw e)
theorem ZhD (d:Value)(W:Walks prog w A.in1 I fp wr n P St)(bt:Nat->Nat->Bool)(hcmp:CmpOf prog w A.in1 .Gt P bt)(S:Addr)(hSf:S∉fp){s:Shared}{c:Nat}(hst:St 0 s.heap)(hS:s.heap.get? S=some { cls:=.type "list",dict:=none,data:=.seq #[] c,slots:=#[] })
  (hR:0<n->∀v h' tk,P (argBest bt (n-1)) v->(∀b o,b∉wr->b≠S->s.heap.get? b=some o->h'.get? b=some o)->R (.ok (.ret v)) { s with heap:=h',toks:=tk })
  (hD:n=0->∀h' tk,(∀b o,b∉wr->b≠S->s.heap.get? b=some o->h'.get? b=some o)->R (.ok (.ret d)) { s with heap:=h',toks:=tk }):codeAny (model prog w) A (.builtin "max.loop" ⟨[.ref I,.none,.ref S],[("default",d)]⟩) R s:=by
 have hSw:S∉wr:=fun h=>hSf (W.sub _ h);have hname:(toString "max" ++ toString ".loop" : String) = "max.loop":=by decide
 refine codeAny_builtin zS ?_;rw[zq qV _];show wpAny _ A.in1 (seqItems? (.ref S) >>= _) _ _ s;refine wpAny_bind (wpAny_seqItems hS rfl ?_);show wpAny _ A.in1 (tryCatch (pyNext (.ref I)) _ >>= _) _ _ s;by_cases hn:0<n
 ·refine wpAny_bind (wpAny_tryCatch (W.item 0 s _ _ hn hst fun v h' tk hP hst' hk'=>?_));have hS':=hk' S _ hSw hS
  show wpAny _ A.in1 (updateSeq S (fun _=>#[v,v]) >>= _) _ _ _;refine wpAny_bind ?_;refine wpAny_updateSeq hS' rfl ?_;rw[hname];refine wpAny_pure ⟨plainId_quiet qV _,ZjR _ W bt hcmp S hSf _ 0 _ v _ rfl hn (W.frame _ _ _ hst' fun b hbf o e=>?_) hP (qaE _ hS' rfl) fun v' h'' tk'' hP' hk''=>?_⟩
  ·exact(zR _ _ (fun h:S=b=>hSf (by rw[h];exact hbf))).trans e
  ·exact hR hn v' h'' tk'' hP' fun b o hbw hbS e=>hk'' b o hbw hbS ((zR _ _ (zm hbS)).trans (hk' b o hbw e))
 ·have h0:n=0:=by omega
  refine wpAny_bind (wpAny_tryCatch (W.done s _ _ (by rw[h0];exact hst) fun h' tk hk'=>?_));show wpAny _ A.in1 (do rule _;ret d) _ _ _;refine wpAny_bind (wpAny_rule (wpAny_pure ?_));exact hD h0 h' tk fun b o hbw hbS e=>hk' b o hbw e
end
section
variable {prog:Program}{w:World}{A:Around}{E:Value->Shared->Prop}{s:Shared}
theorem ZjS (x d:Value):argsOk "max" ⟨[x],[("default",d)]⟩:=by unfold argsOk;kernel_rfl
theorem maxD_walk {x d:Value}{Q:Value->Shared->Prop}(h:wpAny (model prog w) A.in1 (pyIter x) (fun it s₂=>∃I fp wr n P St bt,it=.ref I/\Walks prog w A.in1 I fp wr n P St/\St 0 s₂.heap/\(∀b∈fp,b<s₂.heap.objs.size)/\CmpOf prog w A.in1 .Gt P bt/\
   (0<n->∀v h' tk,P (argBest bt (n-1)) v->(∀b o,b∉wr->s₂.heap.get? b=some o->h'.get? b=some o)->Q v { s₂ with heap:=h',toks:=tk })/\(n=0->∀h' tk,(∀b o,b∉wr->s₂.heap.get? b=some o->h'.get? b=some o)->Q d { s₂ with heap:=h',toks:=tk })) E s) :
  wpAny (model prog w) A (call (.builtin "max") [x] [("default",d)]) Q E s:=by
 have hname:(toString "max" ++ toString ".loop" : String) = "max.loop":=by decide
 refine wpAny_call (codeAny_call_builtin PySem.F.plain_max PySem.F.entry_max ?_);simp only[checkBuiltinCall,PySem.F.kind_max];suffices hgo:wpAny (model prog w) A.in1 (Builtin.«max» ⟨[x],[("default",d)]⟩) (fun fin s'=>match fin with | .done f=>(match (Except.ok f:Result) with | .ok (.ret v)=>Q v s' | .ok _=>False | .error e=>E e s') | .again c'=>c'.quiet=true/\codeAny (model prog w) A c' (fun r s'=>match r with | .ok (.ret v)=>Q v s' | .ok _=>False | .error e=>E e s') s') E s by
  cases hsig:Manifest.signature? "max" with
  | none=>exact wpAny_pure hgo
  | some sig=>
   have ha:=ZjS x d;simp only[argsOk,hsig] at ha;have h2:Bind.checkArgs "max" sig ⟨[x],[("default",d)]⟩=pure ():=ha;show wpAny _ A.in1 (Bind.checkArgs "max" sig ⟨[x],[("default",d)]⟩) _ _ s;rw[h2];exact wpAny_pure hgo
 show wpAny _ A.in1 (yr "max" ["key","default"] 0 ⟨[],[("default",d)]⟩ >>= _) _ _ s;refine wpAny_bind (wpAny_of_eq (show yr "max" ["key","default"] 0 ⟨[],[("default",d)]⟩=pure [none,some d] from rfl) ?_);refine wpAny_bind (wpAny_pure ?_);refine wpAny_bind (wpAny_mono h (fun it s₂ h₂=>?_) fun _ _ e=>e);obtain⟨I,fp,wr,n,P,St,bt,rfl,W,hst,hfp,hcmp,hQ,hQ0⟩:=h₂;refine wpAny_bind (wpAny_newObj_type ?_);have hSf:s₂.heap.objs.size∉fp:=fun hm=>yj _ (hfp _ hm);rw[hname];refine wpAny_pure ⟨plainId_quiet qV _,ZhD d W bt hcmp s₂.heap.objs.size hSf (W.frame _ _ _ hst fun b _ o e=>qq _ e) (qI _ rfl) (fun hn v h' tk hP hk=>?_) fun hn h' tk hk=>?_⟩
 ·exact hQ hn v h' tk hP fun b o hbw e=>hk b o hbw (qQ (qH e)) (qq _ e)
 ·exact hQ0 hn h' tk fun b o hbw e=>hk b o hbw (qQ (qH e)) (qq _ e)
end
section
variable {prog:Program}{w:World}{A:Around}{R:Result->Shared->Prop}{I:Addr}{fp wr:List Addr}{n:Nat}{P:Nat->Value->Prop}{St:Nat->Heap->Prop}
end
section
variable {prog:Program}{w:World}{A:Around}{E:Value->Shared->Prop}{s:Shared}
end
end HT
namespace L2
section
variable {X:Cx}
theorem ZaA {M:Model}{h:Heap}{id:String}:PySem.W.Looks M h (keeperOf (.builtin id)) qak:=fun A Q E s _ q=>by
 show wpAny M A (pure qak) Q E s;exact wpAny_pure q
noncomputable def ZlO (X:Cx)(id:String)(nm:Str)(r:List V->List V->Hp->VK->Prop):Prop:=
 ∀(jJ:List (Addr×Obj)) (s:Shared) (σ:St) (H:Hp) (xs ys:List V) (us vs:List Value) (Q:VK),Inv X jJ σ H s->Zw xs us->Zw ys vs->r xs ys H Q->wpAny (model X.prog X.w) X.A (call (.builtin id) us ([nm].zip vs)) (EP X jJ σ Q) X.xe s
noncomputable def tCK (r:List V->List V->Hp->VK->Prop)(ta tb:TE):TE:=fun σ H Q=>Xi ta Xx σ H fun xs H1=>Xi tb Xx σ H1 fun ys H2=>r xs ys H2 Q
theorem ZjT {id:String}{x nm:Str}{p pos kpos:Pos}{e d:Expr}{ta tb:TE}{r:List V->List V->Hp->VK->Prop}(hc:ZlO X id nm r)(hg:Gl X x)(hm:X.mg x=none)(hv:bootBuiltins x=some (.builtin id))(ha:PE X e ta)(hb:PE X d tb)
  (hn:x≠"__name__":=by decide) (hdb:(x==("__debug__" : Str))=false:=by decide) (he:starEach [e] X.env=(false,eval e X.env)::starEach [] X.env:=by rfl)
  (hall:(backToKw pos (keywordEach [⟨some nm,d,kpos⟩] X.env)).all (·.1.isSome)=true:=by rfl) (hks:(backToKw pos (keywordEach [⟨some nm,d,kpos⟩] X.env)).filterMap (·.1)=[nm]:=by rfl)
  (hpl:((backTo pos (starEach [e] X.env)).any (·.1)||(backToKw pos (keywordEach [⟨some nm,d,kpos⟩] X.env)).any (·.1.isNone))=false:=by rfl):PE X (.Call (.Name x p) [e] [⟨some nm,d,kpos⟩] pos) (tCK r ta tb):=by
 intro jJ s σ H Q I h;refine wpAny_Call_Name_kw (V5 I hg hm hv ?_ hn hdb);refine qaO (P:=fun _=>True) hpl (fun h _=>⟨qak,.inr (.inl rfl),ZaA⟩) (evalArgs_kw2 hall (ZE ((YS ha Y8 he) pos jJ s σ H _ I h) fun us s1 ⟨vs,H1,I1,rv,q1⟩=>?_) he);refine ZE ((Zcw hb Zg1) pos jJ s1 σ H1 _ I1 q1) fun ws s2 ⟨zs,H2,I2,rz,q2⟩=>?_;refine⟨trivial,?_⟩;rw[hks];exact hc jJ s2 σ H2 vs zs us ws Q I2 rv rz q2
theorem ZhE (hc:X.calm=true):ZlO X "max" "default" (fun xs ys H Q=>∃(p:Addr) (ns:List Int) (y:V),xs=[.ref p]/\ys=[y]/\ZU X.K H p (ns.map V.int)/\Q (match ns with | n::r=>.int (TF.maxI n r) | []=>y) H):=by
 intro jJ s σ H xs ys us vs Q I r r2 h;obtain⟨p,ns,y,rfl,rfl,hp,q⟩:=h;obtain⟨u,rfl,ru⟩:=XU r
 cases ru
 obtain⟨v,rfl,rv⟩:=XU r2;obtain⟨jL,rv2,pl,hz⟩:=I.tuple hp;have hi:IntsAre jL ns:=Ve rv2;obtain⟨xs,e⟩:=hi.allInts.items;have hns:ns=xs.toList.map (·.1):=by rw[<-hi.numsOf,<-nums_intItems,<-e]
 have hl:s.heap.IsTuple p jL.toArray:=pl;rw[e] at hl;have hpl:p<s.heap.objs.size:=by obtain⟨o,ho,_⟩:=hl;exact qH ho
 have hne:p≠s.heap.objs.size:=qQ hpl;refine HT.maxD_walk (wpAny_pyIter_tuple hl ⟨s.heap.objs.size,_,_,_,_,_,_,rfl,Walks.tuple (A:=X.A.in1) (I.ok.hd hc) _ p hne (intItems xs),⟨⟨_,qI _ rfl,rfl,rfl⟩,hl.push _⟩,fun b hb=>?_,CmpOf.ints_gt (numAt xs) (fun _ _=>intItems_at),fun hn v h' tk hP hk=>?_,fun hn h' tk hk=>?_⟩)
 ·rw[Heap.size_push]
  rcases qu.mp hb with e1 | hb
  ·rw[e1];exact yR _
  ·rw[qN.mp hb];exact yy hpl
 ·have hkk:∀b o,s.heap.get? b=some o->h'.get? b=some o:=fun b o eb=>hk b o (fun hm=>qQ (qH eb) (qN.mp hm)) (qq _ eb)
  have hsz:0<xs.size:=by simpa[intItems] using hn
  have hn1:(intItems xs).size=xs.size:=by simp[intItems]
  rw[hn1] at hP;obtain⟨t,rfl⟩:=intItems_at hP;obtain⟨h1,h2⟩:=argBest_gt (numAt xs) (xs.size-1)
  cases ns with
  | nil=>
   have:xs.toList=[]:=qbO.mp hns.symm;have:xs.size=0:=by rw[<-za,this];rfl
   omega
  | cons n rr=>
   have e2:numAt xs (argBest (fun i j=>decide (numAt xs i > numAt xs j)) (xs.size-1))=TF.maxI n rr:=by
    refine TF.max_uniq ?_ fun a ha=>?_
    ·rw[hns,numAt_eq];exact getD_mem (by rw[qd,za];omega)
    ·rw[hns] at ha
     obtain⟨j,hj,rfl⟩:=mem_getD ha;rw[qd,za] at hj;rw[<-numAt_eq];exact h2 j (by omega)
   rw[e2];exact⟨.int (TF.maxI n rr),H,I.kept (t':=tk) hkk,⟨_,rfl⟩,q⟩
 ·have hkk:∀b o,s.heap.get? b=some o->h'.get? b=some o:=fun b o eb=>hk b o (fun hm=>qQ (qH eb) (qN.mp hm)) (qq _ eb)
  have h0:xs.size=0:=by simpa[intItems] using hn
  have:ns=[]:=by
   rw[hns];have:xs.toList=[]:=by
    cases hx:xs.toList with
    | nil=>rfl
    | cons a r=>have:=congrArg yX hx;rw[za,h0] at this;simp at this
   rw[this];rfl
  subst this;exact⟨y,H,I.kept (t':=tk) hkk,rv,q⟩
end
end L2
namespace TF
open L2
section
variable {X:Cx}{G:Gh}
noncomputable def BG (f g:Zb->M D):Zb->M D:=fun ρ=>Zn (f ρ) fun d=>Zn (g ρ) fun e=>match d with
 | .tup ds=>(match ZR ds with | some (n::r)=>ZB (.int (maxI n r)) | some []=>ZB e | none=>ZG)
 | _=>ZG
theorem ZlP {a b:Expr}{p pos kpos:Pos}{f g:Zb->M D}{r1 r2:Bool}(hc:X.calm=true)(hg:Gl X "max")(hm:X.mg "max" = none)(hv:bootBuiltins "max" = some (.builtin "max"))(ha:PD X G r1 a f)(hb:PD X G r2 b g)
  (he:starEach [a] X.env=(false,eval a X.env)::starEach [] X.env:=by rfl)
  (hall:(backToKw pos (keywordEach [⟨some "default",b,kpos⟩] X.env)).all (·.1.isSome)=true:=by rfl) (hks:(backToKw pos (keywordEach [⟨some "default",b,kpos⟩] X.env)).filterMap (·.1)=[("default" : Str)]:=by rfl)
  (hpl:((backTo pos (starEach [a] X.env)).any (·.1)||(backToKw pos (keywordEach [⟨some "default",b,kpos⟩] X.env)).any (·.1.isNone))=false:=by rfl):PD X G false (.Call (.Name "max" p) [a] [⟨some "default",b,kpos⟩] pos) (BG f g):=by
 obtain⟨ta,pa,qa⟩:=ha.drop;obtain⟨tb,pb,qb⟩:=hb.drop;refine⟨_,ZjT (ZhE hc) hg hm hv pa pb (by decide) (by decide) he hall hks hpl,fun σ Hf H ρ s d s' Q e1 e2 e3 e4 k=>?_⟩;obtain⟨da,s1,a1,a2⟩:=Zy e4;obtain⟨db,s2,a3,a4⟩:=Zy a2;refine qa σ Hf H ρ s da s1 _ e1 e2 e3 a1 fun x jT H1 g1 j6 r1=>?_;refine qb σ jT H1 ρ s1 db s2 _ g1.fh (e2.ext g1.ff) j6 a3 fun y j7 H2 g2 jX r2=>?_;have r1:=r1.ext g2.ff
 match da,a4,r1 with
 | .tup ds,a4,r1=>
  have a4:(match ZR ds with | some (n::r)=>ZB (D.int (maxI n r)) | some []=>ZB db | none=>ZG) s2=some (d,s'):=a4
  cases he:ZR ds with
  | none=>rw[he] at a4;cases a4
  | some ns=>
   rw[he] at a4;obtain⟨q,vs,rfl,nq,hq,rq⟩:=jb.mp r1;rw[WR he] at rq;rw[jn rq] at hq;refine⟨q,ns,y,rfl,rfl,ZU.of (g2.fh _ _ nq hq),?_⟩
   cases ns with
   | nil=>
    obtain⟨rfl,rfl⟩:=ZL a4;exact k y j7 H2 (g1.trans g2) jX r2 (fun z=>by cases z)
   | cons n r=>
    obtain⟨rfl,rfl⟩:=ZL a4;exact k _ j7 H2 (g1.trans g2) jX (ja.mpr rfl) (fun z=>by cases z)
end
end TF
namespace TS
open L2
section
variable {prog:Program}{w:World}{A:Around}{E:Value->Shared->Prop}{s:Shared}
end
end TS
namespace TF
open L2 TS
section
variable {X:Cx}{G:Gh}
end
end TF
namespace TP2
open L2 TF TP
end TP2
namespace TP3
open L2 TF TP
open TP2
end TP3
namespace TP3
open L2 TF TP
open TP2
noncomputable def ZjU:Zb->M Out:=(Zh (YJ (X9 (asB (ZA Uc (Zc (Za 1) (Zc (dC (.ty "tuple")) Ze)))))
 (Zh (ZP (dC (.bl false)))
 Zs)
 Zs)
 (Zh (YJ (Vu (X9 (asB (ZA VO (Zc (ZY [none,some 0] (Wq (Za 1)) (ZD 0) Z2 (Zo VX (Zc (Zd Zj (Za 1) (dC (.int 0))) (Zc (Za 0) Ze)))) Ze)))) (X9 (asB (Zo Bx (Zc (Za 1) Ze)))))
 (Zh (ZP (dC (.bl false)))
 Zs)
 Zs)
 (Zh (ZT 2 (Zo Vd (Zc (Za 0) Ze)))
 (Zh (ZP (ZA VO (Zc (ZY [none,some 2] (ZX (Zo VW (Zc (Za 1) Ze))) (ZD 0) Z2 (Zd Xn (Za 0) (Za 1))) Ze)))
 Zs))))
noncomputable def Bl:List D->M D:=runB 3 2 ZjU
end TP3
namespace TP3
open L2 TF TP
open TP2
noncomputable def Zfa:Zb->M Out:=(Zh (ZP (ZA ZlH (Zc (ZY [none,some 0] (YO (Zd Yp (ZA Z3 (Zc (Za 0) Ze)) (dC (.int 1)))) (ZD 0) (asB (Zd WE (Za 0) (Za 1))) (Za 0)) Ze)))
 Zs)
noncomputable def Jm:List D->M D:=runB 1 1 Zfa
end TP3
namespace TP3
open L2 TF TP
open TP2
end TP3
namespace TP3
open L2 TF TP
open TP2
end TP3
namespace TP3
open L2 TF TP
open TP2
noncomputable def Zeo (Fs:List D->M D):Zb->M Out:=(Zh (ZT 3 (ZA Z3 (Zc (Za 2) Ze)))
 (Zh (YJ (asB (Zd XY (Za 3) (ZA Z3 (Zc (Za 0) Ze))))
 (Zh (ZP (Za 2))
 Zs)
 Zs)
 (Zh (ZT 4 (ZY [none,some 2,some 3] (ZX (Zd Zj (Za 0) (Za 3))) (ZD 0) (asB (Zd WN (Za 0) (Za 2))) (Zd Zj (Za 1) (Za 0))))
 (Zh (Ww (YO (ZA U3 (Zc (Za 1) (Zc (Zd Yp (BG (Za 2) (dC (.int (-1)))) (dC (.int 2))) Ze)))) (ZD 5)
 (Zh (YJ (asB (Zd WE (Za 5) (Za 4)))
 (Zh (ZT 6 (Zo Fs (Zc (Za 0) (Zc (Za 1) (Zc (Zd Yp (Za 2) (Yc (Zc (Za 5) Ze))) Ze)))))
 (Zh (YJ (asB (Zd ZlL (Za 6) (dC .non)))
 (Zh (ZP (Za 6))
 Zs)
 Zs)
 Zs))
 Zs)
 Zs))
 (Zh (ZP (dC .non))
 Zs)))))
noncomputable def V1:Nat->List D->M D
 | 0=>fun _=>ZG
 | n+1=>runB 7 3 (Zeo (V1 n))
end TP3
namespace TP3
open L2 TF TP
open TP2
noncomputable def Zgh:Zb->M Out:=(Zh (YJ (X9 (asB (Zo Jk (Zc (Za 1) (Zc (Zd Zj (Za 0) (dC (.int 0))) Ze)))))
 (Zh (ZP (dC (.bl false)))
 Zs)
 Zs)
 (Zh (YJ (X9 (asB (ZA VO (Zc (ZY [none,some 0] (Wq (Za 1)) (ZD 0) Z2 (Zo VX (Zc (Zd Zj (Za 1) (dC (.int 0))) (Zc (Za 0) Ze)))) Ze))))
 (Zh (ZP (dC (.bl false)))
 Zs)
 Zs)
 (Zh (ZP (ZA VO (Zc (ZY [none,some 1] (Wq (Zd Zj (Za 0) (dC (.int 1)))) (ZD 0) Z2 (Zd YT (Zd Zj (Za 1) (Zd Zj (Za 0) (dC (.int 0)))) (Zd Zj (Za 1) (Zd Zj (Za 0) (dC (.int 1)))))) Ze)))
 Zs)))
noncomputable def Be:List D->M D:=runB 2 2 Zgh
end TP3
namespace TQ
open L2 TF TQ
open TP
open TP2
open TP3
noncomputable def ZjV:Zb->M Out:=(Zh (ZP (Wu (Zd WN (Zd Zj (Za 0) (dC (.int 0))) (Zd Zj (Za 1) (dC (.int 1)))) (Zd WN (Zd Zj (Za 1) (dC (.int 0))) (Zd Zj (Za 0) (dC (.int 1))))))
 Zs)
noncomputable def Bm:List D->M D:=runB 2 2 ZjV
noncomputable def Zbz:Zb->M Out:=(Zh (ZP (vOr (Zd XY (Za 1) (Za 2)) (Zo WQ (Zc (Za 0) (Zc (Za 1) (Zc (Za 2) Ze))))))
 Zs)
noncomputable def Zaw:List D->M D:=runB 3 3 Zbz
noncomputable def Zfb:List D->M D:=runB 4 4 (Zh (YJ (asB (Zd XY (Zd Zj (Za 0) (dC (.int 0))) (Zd Zj (Za 1) (dC (.int 0)))))
 (Zh (ZP (Zo WQ (Zc (Zd Zj (Za 2) (Zd Zj (Za 0) (dC (.int 0)))) (Zc (Zd Zj (Za 0) (dC (.int 1))) (Zc (Zd Zj (Za 1) (dC (.int 1))) Ze)))))
 Zs)
 Zs)
 (Zh (ZP (Zo WQ (Zc (Za 3) (Zc (Zd Zj (Za 0) (dC (.int 0))) (Zc (Zd Zj (Za 1) (dC (.int 0))) Ze)))))
 Zs))
noncomputable def ZbA:List D->M D:=Xd 3 (JT (Zo WQ (Zc (Za 2) (Zc (Za 0) (Zc (Za 1) Ze)))))
noncomputable def Zdg:List D->M D:=runB 4 4 (Zh (ZP (Wu (Zo Zaw (Zc (Za 2) (Zc (Zd Zj (Za 0) (dC (.int 0))) (Zc (Zd Zj (Za 1) (dC (.int 0))) Ze)))) (Zo Zaw (Zc (Za 3) (Zc (Zd Zj (Za 0) (dC (.int 1))) (Zc (Zd Zj (Za 1) (dC (.int 1))) Ze))))))
 Zs)
noncomputable def Zal:List D->M D:=Xd 3 (Zo WQ (Zc (Za 2) (Zc (Za 0) (Zc (Za 1) Ze))))
noncomputable def Zbo:List D->M D:=Xd 3 (vOr (Zd Xn (Yc (Zc (Za 0) (Zc (Za 1) Ze))) (Za 2)) (Zd Xn (Yc (Zc (Za 1) (Zc (Za 0) Ze))) (Za 2)))
noncomputable def Zdh:List D->M D:=Xd 3 (Zd YT (Zd dMod (Za 0) (Za 2)) (Zd dMod (Za 1) (Za 2)))
noncomputable def ZbB:List D->M D:=Xd 4 (Zd Xn (ZA U3 (Zc (Zd W4 (Za 1) (Za 0)) (Zc (Zd Yp (Zd W4 (Za 2) (Za 1)) (Za 0)) Ze))) (Za 3))
noncomputable def Tl:Nat->List D->M D
 | 0=>ZbA
 | 1=>Zal
 | 2=>Bm
 | 3=>Zfb
 | 4=>Zdg
 | 5=>Zbo
 | 6=>Zdh
 | 7=>ZbB
 | _=>fun _=>ZG
noncomputable def Zgi:Zb->M Out:=(Zh (ZT 2 (Zo VW (Zc (VU (ZA Z3 (Zc (Za 0) Ze))) Ze)))
 (Zh (ZP (Yc (Zc (ZA Z3 (Zc (Za 0) Ze)) (Zc (ZA UT (Zc (ZY [none,some 1,some 0] (ZX (Za 2)) (ZD 0) (asB (BV Tl 1 (Zc (Zd Zj (Za 2) (Zd Zj (Za 0) (dC (.int 0)))) (Zc (Zd Zj (Za 2) (Zd Zj (Za 0) (dC (.int 1)))) Ze)))) (Za 0)) Ze)) Ze))))
 Zs))
noncomputable def VT:List D->M D:=runB 3 2 Zgi
noncomputable def ZlQ:Zb->M Out:=(Zh (ZT 1 (Zo Vd (Zc (Za 0) Ze)))
 (Zh (ZP (Jb VT 0 [1] (VU (Zd Zj (Za 0) (dC (.int 0))))))
 Zs))
noncomputable def Ju:List D->M D:=runB 2 1 ZlQ
noncomputable def Zcr:Zb->M Out:=(Zh (ZT 2 (Zo Vd (Zc (Za 0) Ze)))
 (Zh (ZP (Jb VT 1 [2] (Za 1)))
 Zs))
noncomputable def Jj:List D->M D:=runB 3 2 Zcr
noncomputable def Zpf:Zb->M Out:=(Zh (ZP (Zo Jj (Zc (Za 0) (Zc (Za 1) Ze))))
 Zs)
noncomputable def BH:List D->M D:=runB 2 2 Zpf
noncomputable def Znx:Zb->M Out:=(Zh (ZP (Zo Jj (Zc (Za 0) (Zc (Za 1) Ze))))
 Zs)
noncomputable def By:List D->M D:=runB 2 2 Znx
noncomputable def Zcs:Zb->M Out:=(Zh (ZP (Jb VT 2 [] (Za 0)))
 Zs)
noncomputable def Vc:List D->M D:=runB 1 1 Zcs
end TQ
namespace TF
open L2
noncomputable def ZhF (K:qk)(L:List (Addr×Str)):Sp:=fun vs H Q _=>∃(a:Addr) (ns:List Int),vs=[.ref a]/\ZH K H a (ns.map V.int)/\ns.length<=63/\(∀P q,(P,q)∈L->H P=some (.tbl #[]))/\∀H',Q (.bl true) H'
theorem ZhG {L:List (Addr×Str)}{tb:List (Str×Addr×Addr)}{H:Hp}(h:∀P q,(P,q)∈L->∃x c,(x,c,P)∈tb)(hT:∀e∈tb,H e.2.2=some (.tbl #[])):∀P q,(P,q)∈L->H P=some (.tbl #[]):=fun P q m=>by
 obtain⟨x,c,z⟩:=h P q m;exact hT _ z
theorem ZpW {G0:Gh}{L:List (Addr×Str)}{H:Hp}(h:∀P q,(P,q)∈L->H P=some (.tbl #[])):∀P q,(P,q)∈L->Zog G0 L P q H:=fun P q m=>⟨#[],h P q m,trivial,fun pos cv hc=>by cases hc⟩
theorem ZjW {L:List (Addr×Str)}{H0 H:Hp}{p wa:Addr}{m:Int}{w:List Int}{g:Zb->M Out}{Q:VK}{n:Nat}{s':Pn}{x:V}(st:B4 p wa ([m,0],w) H)(hTb:∀P q,(P,q)∈L->H0 P=some (.tbl #[]))(kp:∀b u,H0 b=some u->H b=some u)(hp:H0 p=none)(hw:H0 wa=none)(hQ:∀H',Q (.bl true) H')
  (hg:g (none::some .pen::qz n none) ([m,0],w)=some (.rt (.bl true),s')) :
  ∃G,Wc XC L G/\Zn9 G [] [] [] false g { nx:=fun _ H'=>Q .non H',rt:=Q } (some x::some (.ref p)::qz n none) H:=by
 refine⟨U5 (Y4 p wa) L,⟨Y4 p wa,⟨p,wa,rfl⟩,fun b ⟨q,mb⟩ hb=>?_,rfl⟩,fun _=>none,fun _=>none,H,none::some .pen::qz n none,([m,0],w),_,s',⟨fun _=>none,⟨by simp,.refl _ _,.refl (fun b o _ e=>by cases e),fun i d _ e=>?_,fun i d m=>by simp at m,fun i j b di dj m=>by simp at m⟩⟩,⟨st,ZpW fun P q z=>kp _ _ (hTb P q z)⟩,hg,fun v Hf' H' g st r _=>?_⟩
 ·have e:=hTb b q mb
  rcases hb with rfl | rfl
  ·rw[hp] at e;cases e
  ·rw[hw] at e;cases e
 ·match i,e with
  | 0,e=>cases e
  | 1,e=>cases e;exact⟨_,rfl,jp.mpr rfl⟩
  | i+2,e=>
   have e':(qz n (none:Option D))[i]?=some (some d):=e;rw[yk] at e';split at e' <;> cases e'
 ·rw[je.mp r]
  exact hQ H'
theorem lok_nd:∀{L:List (Addr×Str)},(L.map (·.1)).Nodup->Wm L
 | [],_=>fun P q q' h=>by simp at h
 | (a,b)::L,nd=>fun P q q' h1 h2=>by
  rw[zb,zx] at nd;rcases qu.mp h1 with e1 | m1
  ·cases e1
   rcases qu.mp h2 with e2 | m2
   ·cases e2;rfl
   ·exact absurd (yG (f:=(·.1)) m2) nd.1
  ·rcases qu.mp h2 with e2 | m2
   ·cases e2;exact absurd (yG (f:=(·.1)) m1) nd.1
   ·exact lok_nd nd.2 P q q' m1 m2
theorem noClos_ints (xs:List Int):YF (xs.map D.int)=true:=by
 induction xs with
 | nil=>rfl
 | cons a r ih=>simp only[zb,YF,Yx,ih];rfl
theorem ZjX:∀ds s d s',VA ds s=some (d,s')->YF ds=true/\Yx d=true:=fun ds s d s' h=>by
 unfold VA at h;split at h
 ·obtain⟨_,h⟩:=Y7 h
  obtain⟨xs,s1,_,h2⟩:=Zy h;obtain⟨rfl,rfl⟩:=ZL h2;exact⟨rfl,by simp only[Yx];exact noClos_ints xs⟩
 ·cases h
end TF
namespace TT
section
variable {M:Model}{A:Around}{E:Value->Shared->Prop}{s:Shared}
end
end TT
namespace TT
section
variable (rk:Keyed->Int)
variable {rk}{a b out:Array Keyed}{ia ib:Nat}
end
end TT
namespace TT
section
variable {M:Model}{A:Around}{E:Value->Shared->Prop}{s:Shared}
variable {rk:Keyed->Int}{κ:SortKind}{In:Keyed->Prop}
end
end TT
namespace TT
section
variable (rk:Keyed->Int)
variable {rk}{a b out:Array Keyed}{na nb:Nat}
end
section
variable {M:Model}{A:Around}{E:Value->Shared->Prop}{s:Shared}{rk:Keyed->Int}{κ:SortKind}{In:Keyed->Prop}
end
end TT
namespace TT
section
variable {M:Model}{A:Around}{E:Value->Shared->Prop}{s:Shared}{rk:Keyed->Int}{κ:SortKind}{In:Keyed->Prop}
end
end TT
namespace TT
section
variable (rk:Keyed->Int)
end
section
variable {rk:Keyed->Int}
end
section
variable {M:Model}{A:Around}{E:Value->Shared->Prop}{s:Shared}{rk:Keyed->Int}{κ:SortKind}{In:Keyed->Prop}
end
end TT
namespace TT
section
variable {M:Model}{A:Around}{E:Value->Shared->Prop}{s:Shared}{rk:Keyed->Int}{κ:SortKind}{In:Keyed->Prop}
end
end TT
namespace TT
section
variable {M:Model}{A:Around}{E:Value->Shared->Prop}{s:Shared}{rk:Keyed->Int}{κ:SortKind}{In:Keyed->Prop}{a₀:List Keyed}
end
end TT
namespace TT
section
variable {M:Model}{A:Around}{E:Value->Shared->Prop}{s:Shared}{rk:Keyed->Int}{κ:SortKind}{In:Keyed->Prop}{a₀:List Keyed}
end
end TT
namespace TT
open L2 TS
open Classical in
section
variable {prog:Program}{w:World}{A:Around}{E:Value->Shared->Prop}{s:Shared}
end
end TT
namespace TF
open L2
section
variable {X:Cx}{G:Gh}
end
end TF
namespace L2
section
variable {X:Cx}{tg:Expr}
end
end L2
namespace TF
open L2
section
variable {X:Cx}{G:Gh}{ob own:List Nat}{fr:Bool}
end
end TF
namespace TF
open L2
open Sem (wp)
section
variable {prog:Program}{w:World}{A:Around}{E:Value->Shared->Prop}{s:Shared}
noncomputable def Zfc (n:Nat)(a c:Int)(jR:Array Value):Prop:=
 ItemsOf (fun i v=>∃t,v=.int (a+i*c) t) jR n
theorem Zgj {Q : List Value -> Shared -> Prop}{r : Addr}{a b c : Int}{t u v : Tok}{n : Nat}
    (hh : A.handled = none) (hr : IsRange s.heap r a b c t u v)
    (hsmall : Builtin.Range.small a b c = true) (hn : yI a b c = n)
    (jS : n <= 2 ^ 24)
    (hQ : ∀ (h' : Heap) (tk : Nat) (jR : Array Value), (∀ b o', s.heap.get? b = some o' -> h'.get? b = some o') ->
      Zfc n a c jR -> Q jR.toList { s with heap := h', toks := tk }) :
    wpAny (model prog w) A (collect (.ref r)) Q E s := by
  unfold collect;apply wpAny_bind;apply wpAny_runValue;apply codeAny_builtin F.entry_proto_collect;rw[zq
    F.plain_proto_collect _]
  show wpAny _ A.in1 (newList [] >>= fun z =>
    again (.builtin "list.__iadd__" ⟨[z, .ref r], []⟩)) _ _ s
  apply wpAny_bind;refine wpAny_newObj_type ?_;refine wpAny_pure ⟨plainId_quiet
    F.plain_list_iadd _, codeAny_builtin
    F.entry_list_iadd ?_⟩
  rw[zq
    F.plain_list_iadd _]
  show wpAny _ A.in1 (yO
    (.ref s.heap.objs.size) (.ref r)
    (.ref s.heap.objs.size)) _ _ _
  have h0 : (s.heap.push
      { cls := .type "list", data := .seq ([] : List Value).toArray }).get?
      s.heap.objs.size = some { cls := .type "list", data := .seq #[] 0 } :=
    qI _ rfl
  have fin' : ∀ (h' : Heap) (tk : Nat) (jR : Array Value) (k : Nat),
      (∀ b o', s.heap.get? b = some o' -> h'.get? b = some o') ->
      h'.get? s.heap.objs.size = some
        { cls := .type "list", dict := none, data := .seq jR k, slots := #[] } ->
      Zfc n a c jR -> wpAny (model prog w) A (match qM s.heap.objs.size with
        | qM a => do
          match (<- load a).data with
            | Data.seq xs _ => pure xs.toList
            | _ => unsupported "internal:collect"
        | _ => unsupported "internal:collect") Q E { s with heap := h', toks := tk } := by
    intro h' tk jR k kp hS hi;show wpAny _ A (load s.heap.objs.size >>= _) _ _ _;refine wpAny_bind (wpAny_load hS ?_);exact wpAny_pure (hQ h' tk jR kp hi)
  refine wpAny_mono (wpAny_extend_range (A := A)
    (R := fun r s' => r = .ok (.ret (.ref s.heap.objs.size)) /\
      ∃ h' tk jR k, (∀ b o', s.heap.get? b = some o' -> h'.get? b = some o') /\
        h'.get? s.heap.objs.size = some
          { cls := .type "list", dict := none, data := .seq jR k, slots := #[] } /\ Zfc n a c jR /\
        s' = { s with heap := h', toks := tk })
    (s := { s with heap := (s.heap.push
      { cls := .type "list", data := .seq ([] : List Value).toArray }) }) hh
    (qq _ hr) hsmall hn jS _ _ 0 h0
    fun h' tk acc' c' hk hS' hacc => ⟨rfl, h', tk, acc', c', fun b o e => hk b o (qQ
      (qH e)) (qq _ e), hS', hacc, rfl⟩)
    (fun fin s' h => ?_) (fun e s' h => ?_)
  · cases fin with
    | done f =>
      obtain⟨e, h', tk, jR, k, kp, hS, hi, rfl⟩ := h
      cases e
      exact fin' h' tk jR k kp hS hi
    | again c' =>
      refine⟨h.1, codeAny_mono h.2
        fun r s'' hr => ?_⟩
      obtain⟨rfl, h', tk, jR, k, kp, hS, hi, rfl⟩ := hr;exact fin' h' tk jR k kp hS hi
  · exact absurd h.1 (by simp)
end
variable {X:Cx}{G:Gh}{f:Zb->M D}
end TF
namespace HT
end HT
namespace HT
section
variable {prog:Program}{w:World}
variable (prog w) in
variable {A:Around}{E:Value->Shared->Prop}{s:Shared}
end
end HT
namespace HT
namespace FS
end FS
section
variable {prog:Program}{w:World}{A:Around}{E:Value->Shared->Prop}{s:Shared}
end
end HT
namespace HT
section
variable {prog:Program}{w:World}{A:Around}{E:Value->Shared->Prop}{s:Shared}
variable {a:Addr}{o:Obj}{es:Array (Int×Value)}{ep:Nat}{t:SetTable}
namespace FS
end FS
end
end HT
namespace HT
section
variable {prog:Program}{w:World}{A:Around}{E:Value->Shared->Prop}{s:Shared}
variable {a:Addr}{o:Obj}{es:Array (Int×Value)}{ep:Nat}{t:SetTable}
end
end HT
namespace HT
section
variable {prog:Program}{w:World}{A:Around}{E:Value->Shared->Prop}{s:Shared}
variable {a:Addr}{o:Obj}{es:Array (Int×Value)}{ep:Nat}{t:SetTable}
end
end HT
namespace TF
open L2
section
variable {X:Cx}{G:Gh}
end
section
variable {X:Cx}{G:Gh}{ob own:List Nat}{fr:Bool}{f:Zb->M D}
end
end TF
namespace TT
open L2 TS
section
variable {prog:Program}{w:World}{A:Around}{E:Value->Shared->Prop}{s:Shared}
end
end TT
namespace TS
open L2
section
variable {prog:Program}{w:World}{A:Around}{E:Value->Shared->Prop}{s:Shared}
end
end TS
namespace TF
open L2 TS
section
variable {X:Cx}{G:Gh}
end
end TF
namespace TF
open L2 TT
section
variable {X:Cx}{G:Gh}
end
end TF
namespace TQ
open L2 TF TQ
open TP
open TP2
open TP3
end TQ
namespace TF
open L2
section
variable {X:Cx}{G:Gh}{f g:Zb->M D}
end
end TF
namespace TQ
open L2 TF
end TQ
namespace TF
open L2
section
variable {X:Cx}{G:Gh}
end
theorem boot_sum:bootBuiltins "sum" = some (.builtin "sum"):=by decide +kernel
section
variable {X:Cx}{G:Gh}
noncomputable def Vm (ns:List Int):Bool:=ns.all fun n=>decide (-4294967296<=n)&&decide (n<=4294967296)
theorem Zgk {ns:List Int}(h:Vm ns=true):∀j:Nat,-(4294967296*(j:Int))<=(ns.take j).sum/\(ns.take j).sum<=4294967296*(j:Int):=by
 intro j
 induction ns generalizing j with
 | nil=>rw[List.take_nil];show _<=(0:Int)/\(0:Int)<=_;omega
 | cons n r ih=>
  cases j with
  | zero=>rw[List.take_zero];show _<=(0:Int)/\(0:Int)<=_;omega
  | succ j=>
   unfold Vm at h;simp only[qaX,qX,decide_eq_true_eq] at h;have:=ih h.2 j;rw[List.take_succ_cons,List.sum_cons];omega
noncomputable def dSum:List D->Option D
 | [.lst ds]=>match ZR ds with | some ns=>if Vm ns=true then some (.int ns.sum) else none | none=>none
 | _=>none
theorem ZjY (hc:X.calm=true):XT X (.builtin "sum") (fun xs H Q=>∃p ns,xs=[.ref p]/\ZH X.K H p (ns.map V.int)/\Vm ns=true/\Q (.int ns.sum) H):=by
 intro jJ s σ H xs us Q I r h;obtain⟨p,ns,rfl,hp,ok,q⟩:=h;obtain⟨u,rfl,ru⟩:=XU r
 cases ru
 obtain⟨jL,rv,pl,hz⟩:=I.list hp;have hi:IntsAre jL ns:=Ve rv;obtain⟨xs,e⟩:=hi.allInts.items;have hns:ns=xs.toList.map (·.1):=by rw[<-hi.numsOf,<-nums_intItems,<-e]
 have hl:=pl.isList;rw[e] at hl;have jS:ns.length=xs.size:=by rw[hns,qd,za]
 have hz2:ns.length<=16777216:=by
  have:=hz;rw[qd] at this;rw[show sizeLine=16777216 by decide] at this;exact this
 refine sum_intList (I.ok.hd hc) hl (fun j hj=>?_) fun h' tk t' hk=>?_
 ·rw[preSum_eq,<-hns]
  have h1:=Zgk ok (j+1);have h2:-4294967296<=numAt xs j/\numAt xs j<=4294967296:=by
   rw[numAt_eq,<-hns];have hm:ns.getD j 0∈ns:=getD_mem (by omega);have:=zd.mp ok _ hm;simp only[qX,decide_eq_true_eq] at this;exact this
  constructor
  ·constructor <;> omega
  ·constructor <;> omega
 ·rw[preSum_eq,<-hns,<-jS,z9]
  exact⟨.int ns.sum,H,I.kept (t':=tk) hk,⟨_,rfl⟩,q⟩
theorem ZjZ (hc:X.calm=true):Wi X G (.builtin "sum") dSum:=
 ⟨_,ZjY hc,fun Hf H s xs ds c Q e1 st r q k=>by
  match ds,q,r with
  | [.lst es],q,r=>
   have q:(match ZR es with | some ns=>if Vm ns=true then some (D.int ns.sum) else none | none=>none)=some c:=q
   cases he:ZR es with
   | none=>rw[he] at q;cases q
   | some ns=>
    rw[he] at q;by_cases ok:Vm ns=true
    ·have q:(if Vm ns=true then some (D.int ns.sum) else none)=some c:=q
     rw[if_pos ok] at q
     cases q
     obtain⟨v,rfl,rv⟩:=ji r;obtain⟨p,vs,rfl,np,hp,rp⟩:=jc.mp rv;rw[WR he] at rp;rw[jn rp] at hp;exact⟨p,ns,rfl,ZH.of (e1 _ _ np hp),ok,k _ Hf H (.refl e1) st (ja.mpr rfl) (.scal fun z=>z)⟩
    ·have q:(if Vm ns=true then some (D.int ns.sum) else none)=some c:=q
     rw[if_neg ok] at q;cases q⟩
end
end TF
namespace TF
open L2 PySem.SeqAt
open AutoSeq1 (wpAny_loadPart')
theorem Zgl (l:Addr)(items:Array Value)(n:Nat)(dd:Option Addr)(sl:Array (Option Value))(u:Tok) :
  Meets (Builtin.«tuple.__mul__» ⟨[.ref l,.int 1 u],[]⟩) (fun _ R s=>s.heap.get? l=some { cls:=.type "tuple",dict:=dd,data:=.seq items n,slots:=sl }/\R (.ok (.ret (qM l))) s):=
 .of_wp fun prog w A R s h=>by
  obtain⟨hp,g,d,tk,os⟩:=s;obtain⟨hl,h⟩:=h;have f1:=qbd;have f2:=yC;have f3:=qax;have f4:=qam;have f5:=qan;wp_walk using wpAny_loadPart' hl;exact⟨_,rfl,h⟩
theorem Zgm (l:Addr)(items:Array Value)(n:Nat)(dd:Option Addr)(sl:Array (Option Value))(u:Tok)(hc1:items.isEmpty=false) :
  Meets (Builtin.«tuple.__mul__» ⟨[.ref l,.int 0 u],[]⟩) (fun _ R s=>s.heap.get? l=some { cls:=.type "tuple",dict:=dd,data:=.seq items n,slots:=sl }/\R (.ok (.ret (qM s.heap.objs.size))) { s with heap:=s.heap.push { cls:=qaG "tuple",data:=Data.seq #[] },toks:=s.toks }):=
 .of_wp fun prog w A R s h=>by
  obtain⟨hp,g,d,tk,os⟩:=s;obtain⟨hl,h⟩:=h;have f1:=qbd;have f2:=yC;have f3:=qax;have f4:=qam;have f5:=qan;wp_walk using wpAny_loadPart' hl;exact⟨_,rfl,h⟩
section
variable {X:Cx}{G:Gh}
noncomputable def Zpg (K:qk):R2:=fun x y H Q=>∃l xs,x=.ref l/\y=.int 1/\ZU K H l xs/\Q (.ref l) H
noncomputable def Zph (K:qk):R2:=fun x y H Q=>∃l xs,x=.ref l/\y=.int 0/\ZU K H l xs/\xs≠[]/\∀p,H p=none->Q (.ref p) (Zm H p (.tup []))
theorem ZlR:Yd X (binaryOp .Mult) (Zpg X.K):=by
 intro jJ s σ H x y v u Q I rx ry h;obtain⟨l,xs,rfl,rfl,hH,q⟩:=h
 cases rx
 obtain⟨t,rfl⟩:=ry;obtain⟨jL,r,p1,_⟩:=I.tuple hH;obtain⟨⟨cls,dd,data,sl⟩,ho,hc,n,hd⟩:=id p1;simp only at hc hd;subst hc hd;exact wpAny_binaryOp_repeat_ref (T:="tuple") (U:="int") (by decide) ⟨_,ho,rfl⟩ (fun s'=>typeIs_int s' 1 t) Zaf qaK ye ZaL qaB.lookup
  (call_meets ye (typeIs_int s 1 t) qaC (qas _ _) (Zas 1 t l jL.toArray n dd sl)
   ⟨ho,rfl,⟨_,ho,rfl⟩,call_meets yp ⟨_,ho,rfl⟩ qao (qaf _ _) (Zgl l jL.toArray n dd sl t) ⟨ho,.ref l,H,I,rfl,q⟩⟩)
theorem ZlS:Yd X (binaryOp .Mult) (Zph X.K):=by
 intro jJ s σ H x y v u Q I rx ry h;obtain⟨l,xs,rfl,rfl,hH,hne,q⟩:=h
 cases rx
 obtain⟨t,rfl⟩:=ry;obtain⟨jL,r,p1,_⟩:=I.tuple hH;obtain⟨⟨cls,dd,data,sl⟩,ho,hc,n,hd⟩:=id p1;simp only at hc hd;subst hc hd;have hne':jL≠[]:=fun z=>hne (r.nil_iff.mp z);have hemp:jL.toArray.isEmpty=false:=by cases jL with | nil=>exact absurd rfl hne' | cons a b=>rfl
 exact wpAny_binaryOp_repeat_ref (T:="tuple") (U:="int") (by decide) ⟨_,ho,rfl⟩ (fun s'=>typeIs_int s' 0 t) Zaf qaK ye ZaL qaB.lookup
  (call_meets ye (typeIs_int s 0 t) qaC (qas _ _) (Zas 0 t l jL.toArray n dd sl)
   ⟨ho,rfl,⟨_,ho,rfl⟩,call_meets yp ⟨_,ho,rfl⟩ qao (qaf _ _) (Zgm l jL.toArray n dd sl t hemp) ⟨ho,.ref s.heap.objs.size,_,I.laid (t':=s.toks) (o:=.tup []) (fun b ob q=>qq _ q) (qw _) ⟨zk _,[],.nil,qbo _ _⟩,rfl,q _ (I.hok.fresh (qw _))⟩⟩)
noncomputable def ZiF (d e:D):Option D:=match d,e with
 | .tup ds,.int k=>if k=1 then some (.tup ds) else if k=0/\ds≠[] then some (.tup []) else JR (.tup ds) (.int k)
 | _,_=>JR d e
theorem ZlT:Xf X G (binaryOp .Mult) ZiF:=by
 obtain⟨r0,po,qo⟩:=Zli (X:=X) (G:=G);refine⟨_,po.or (ZlR.or ZlS),fun Hf H s x y d e c Q e1 st rx ry q k=>?_⟩;by_cases hd:∃ds j,d=.tup ds/\e=.int j
 ·obtain⟨ds,j,rfl,rfl⟩:=hd
  have q:(if j=1 then some (D.tup ds) else if j=0/\ds≠[] then some (.tup []) else JR (.tup ds) (.int j))=some c:=q;by_cases h1:j=1
  ·rw[if_pos h1] at q
   cases q
   obtain⟨p,vs,rfl,np,hp,rp⟩:=jb.mp rx;refine .inr (.inl ⟨p,vs,rfl,by rw[ja.mp ry,h1],ZU.of (e1 _ _ np hp),?_⟩);exact k (.ref p) _ _ (.refl e1) st (jb.mpr ⟨p,vs,rfl,np,hp,rp⟩) (.scal fun z=>z)
  ·rw[if_neg h1] at q
   by_cases h2:j=0/\ds≠[]
   ·rw[if_pos h2] at q
    cases q
    obtain⟨p,vs,rfl,np,hp,rp⟩:=jb.mp rx;refine .inr (.inr ⟨p,vs,rfl,by rw[ja.mp ry,h2.1],ZU.of (e1 _ _ np hp),fun z=>h2.2 (zP.mp (by rw[rp.length,z];rfl)),fun l hl=>?_⟩);have nf:=Gh.nofp st hl;have g2:=Gr.new (o:=.tup []) e1 hl nf;exact k (.ref l) _ _ g2 (Gh.grow st hl) (jb.mpr ⟨l,_,rfl,nf,ZO,Zi.nil_iff.mpr rfl⟩) (.scal fun z=>z)
   ·rw[if_neg h2] at q
    exact .inl (qo Hf H s x y _ _ c Q e1 st rx ry q k)
 ·have q':JR d e=some c:=by
   unfold ZiF at q;split at q
   ·exact absurd ⟨_,_,rfl,rfl⟩ hd
   ·exact q
  exact .inl (qo Hf H s x y _ _ c Q e1 st rx ry q' k)
end
end TF
namespace TQ
open L2 TF TQ
open TP
open TP2
open TP3
noncomputable def ZhH:Zb->M Out:=(Zh (ZT 1 (Yc (Zc (Zd Zj (Za 0) (dC (.int 0))) (Zc (Zo Vd (Zc (Za 0) Ze)) Ze))))
 (Zh (ZP (ZY [none,some 1] (YO (Zd Zj (Za 0) (dC (.int 0)))) (ZD 0) Z2 (Zo JI (Zc (Za 1) (Zc (Za 0) Ze)))))
 Zs))
noncomputable def Uh:List D->M D:=runB 2 1 ZhH
noncomputable def Zct (Fs:List D->M D):Zb->M Out:=(Zh (ZT 4 (ZY [none,some 2,some 0] (ZX (Za 3)) (ZD 0) (Wt (asB (Zd YT (Za 0) (Za 1))) (asB (Zd WE (Za 0) (Zd Zj (Za 2) (Za 1))))) (Za 0)))
 (Zh (ZP (Zd Yp (YX (Zc (Za 2) Ze)) (Zo Fs (Zc (Za 0) (Zc (Za 1) (Zc (Za 4) Ze))))))
 Zs))
noncomputable def Zac (Fs:List D->M D):List D->M D:=runB 5 4 (Zct Fs)
noncomputable def ZdS:Zb->M Out:=(Zh (ZP (ZY [none,some 0,some 1] (ZX (Za 2)) (ZD 0) (asB (Zd Xn (Za 0) (Zd Zj (Za 1) (Za 2)))) (Za 0)))
 Zs)
noncomputable def ZaB:List D->M D:=runB 3 3 ZdS
noncomputable def Zj0:Zb->M Out:=(Zh (ZP (ZA dSum (Zc (ZY [none,some 0] (ZX (Za 1)) (ZD 0) Z2 (Zd Zj (Za 1) (Za 0))) Ze)))
 Zs)
noncomputable def Bn:List D->M D:=runB 2 2 Zj0
noncomputable def Zag (Fs:List D->M D):Zb->M Out:=(Zh (YJ (asB (Zd XY (Za 2) (YX Ze)))
 (Zh (ZP (YX Ze))
 Zs)
 Zs)
 (Zh (ZT 3 (ZY [none,some 0,some 2] (ZX (Za 2)) (ZD 0) Z2 (Zo ZaB (Zc (Za 1) (Zc (Za 0) (Zc (Za 2) Ze))))))
 (Zh (Ww (YO (ZA Z3 (Zc (Za 2) Ze))) (ZD 4)
 (Zh (YJ (asB (Zd WM (Zo Bn (Zc (Za 1) (Zc (Zd Zj (Za 3) (Za 4)) Ze))) (Zd Zj (Za 1) (Zd Zj (Za 2) (Za 4)))))
 (Zh (ZP (Zo (Zac Fs) (Zc (Za 0) (Zc (Za 1) (Zc (Zd Zj (Za 2) (Za 4)) (Zc (Za 2) Ze))))))
 Zs)
 Zs)
 Zs))
 (Zh (ZT 5 (ZY [none] (ZX (Za 3)) (ZD 0) Z2 (ZA Z3 (Zc (Za 0) Ze))))
 (Zh (ZT 6 (Zd Zj (Za 2) (Zd Ze8 (Za 5) (ZA ZiB (Zc (Za 5) Ze)))))
 (Zh (ZT 7 (Zo (Zac Fs) (Zc (Za 0) (Zc (Za 1) (Zc (Za 6) (Zc (Za 2) Ze))))))
 (Zh (ZT 8 (Zo Fs (Zc (Za 0) (Zc (Za 1) (Zc (ZY [none,some 6] (ZX (Za 2)) (ZD 0) (asB (Zd YT (Za 0) (Za 1))) (Za 0)) Ze)))))
 (Zh (ZP (B2 (asB (Zd Jg (Zo Bn (Zc (Za 1) (Zc (Za 7) Ze))) (Zo Bn (Zc (Za 1) (Zc (Za 8) Ze))))) (Za 7) (Za 8)))
 Zs))))))))
noncomputable def UE:Nat->List D->M D
 | 0=>fun _=>ZG
 | n+1=>runB 9 3 (Zag (UE n))
noncomputable def ZaR:Zb->M Out:=(Zh (ZT 2 (ZY [none] (ZX (Zo Uh (Zc (Zo Ju (Zc (Za 0) Ze)) Ze))) (ZD 0) Z2 (ZA ZeR (Zc (ZY [none] (ZX (Za 0)) (ZD 0) Z2 (Yc (Zc (Za 0) (Zc (dC (.bl true)) Ze)))) Ze))))
 (Zh (ZP (ZA UT (Zc (ZA ZcG (Zc (Zo (UE 26) (Zc (Za 2) (Zc (Za 1) (Zc (VU (Zd Zj (Za 0) (dC (.int 0)))) Ze)))) Ze)) Ze)))
 Zs))
noncomputable def J9:List D->M D:=runB 3 2 ZaR
noncomputable def Zpi:Zb->M Out:=(Zh (ZT 1 (Zo J9 (Zc (Za 0) (Zc (Zd ZiF (Yc (Zc (dC (.int 1)) Ze)) (Zd Zj (Za 0) (dC (.int 0)))) Ze))))
 (Zh (ZP (Yc (Zc (ZA Z3 (Zc (Za 1) Ze)) (Zc (Za 1) Ze))))
 Zs))
noncomputable def Ur:List D->M D:=runB 2 1 Zpi
noncomputable def Zfd:Zb->M Out:=(Zh (ZT 2 (Zo Uh (Zc (Za 0) Ze)))
 (Zh (U8 3 (dC (.dk [])))
 (Zh (Ww (fun ρ=>(ZX (Za 1)) (YN [3] ρ)) (ZD 4)
 (Zh (JS 3 (fun ρ=>(Za 4) (YN [3] ρ)) (WA true (Zo Jm (Zc (ZY [none,some 3] (ZX (Zd Zj (Za 2) (Za 4))) (ZD 0) (asB (Zd Xn (Za 0) (Za 1))) (Zd Ux (Za 1) (Za 0))) Ze))))
 Zs))
 (Zh (ZP (ZA UT (Zc (ZY [none,some 3] (YO (Zd Zj (Za 0) (dC (.int 0)))) (ZD 0) Z2 (Zd Ux (Za 1) (Za 0))) Ze)))
 Zs))))
noncomputable def Bb:List D->M D:=runB 5 2 Zfd
noncomputable def ZdT:Zb->M Out:=(Zh (ZT 1 (Zo Uh (Zc (Za 0) Ze)))
 (Zh (ZT 2 (Zd Zj (Zo Ur (Zc (Za 0) Ze)) (dC (.int 0))))
 (Zh (ZT 3 (Zo (V1 10) (Zc (Za 1) (Zc (Za 2) (Zc (Yc Ze) Ze)))))
 (Zh (ZhB 1000000 (asB (Zd dIsN (Za 3) (dC .non)))
 (Zh (sAug 2 (WA true (dC (.int 1))))
 (Zh (ZT 3 (Zo (V1 10) (Zc (Za 1) (Zc (Za 2) (Zc (Yc Ze) Ze)))))
 Zs)))
 (Zh (ZP (Yc (Zc (Za 2) (Zc (Za 3) Ze))))
 Zs)))))
noncomputable def Ba:List D->M D:=runB 4 1 ZdT
end TQ
namespace TF
open L2
section
variable {X:Cx}{G:Gh}
end
section
variable {X:Cx}{G:Gh}
noncomputable def Zoj (i j l m:Nat):D->Zb->Option Zb:=fun d ρ=>match d with | .tup [a,b,c,e]=>some ((((ρ.set i (some a)).set j (some b)).set l (some c)).set m (some e)) | _=>none
theorem ZlU {i j l m:Nat}{x y z u:Str}{pos px py pz pu:Pos}{k:Nat}{ok:Nat->Prop}(hc:X.calm=true)(oi:ok i)(oj:ok j)(ol:ok l)(om:ok m)
  (hn:(assignEach [.Name x px,.Name y py,.Name z pz,.Name u pu] X.env).length=4:=by rfl) (hst:(assignEach [.Name x px,.Name y py,.Name z pz,.Name u pu] X.env).findIdx? (·.1)=none:=by rfl)
  (hp:J0 X [.Name x px,.Name y py,.Name z pz,.Name u pu] (UY (XM i) (UY (XM j) (UY (XM l) (UY (XM m) gNil))))):Va X G (.Tuple [.Name x px,.Name y py,.Name z pz,.Name u pu] k pos) ok (Zoj i j l m):=
 ⟨_,ZkE hc hp hn hst,fun x σ Hf H d ρ ρ' Q e r q k=>by
  match d,q,r with
  | .tup [a,b,c,d'],q,r=>
   cases q
   obtain⟨ad,vs,rfl,n,h,rl⟩:=jb.mp r;obtain⟨v1,r1,rfl,q1,q2⟩:=jd.mp rl;obtain⟨v2,r2,rfl,q3,q4⟩:=jd.mp q2;obtain⟨v3,r3,rfl,q5,q6⟩:=jd.mp q4;obtain⟨v4,r4,rfl,q7,q8⟩:=jd.mp q6;have:=Zi.nil_iff.mp q8;subst this;exact⟨ad,_,rfl,ZU.of (e _ _ n h),rfl,v1,_,rfl,v2,_,rfl,v3,_,rfl,v4,_,rfl,rfl,k _ (.cons oi q1 (.cons oj q3 (.cons ol q5 (.cons om q7 .nil))))⟩⟩
end
end TF
namespace TS
open PySem.W
noncomputable def VB {α:Type}(lt:Nat->Nat->Bool):KasT α->α
 | .ret a=>a
 | .ask i j k=>VB lt (k (lt i j))
theorem Yh.run {α:Type}{lt:Nat->Nat->Bool}{n:Nat}{Q:α->Prop}:∀{t:KasT α},Yh lt n t Q->Yh lt n t (fun a=>a=VB lt t)/\Q (VB lt t)
 | .ret a,h=>⟨rfl,h⟩
 | .ask i j k,h=>⟨⟨h.1,h.2.1,(Yh.run (t:=k (lt i j)) h.2.2).1⟩,(Yh.run (t:=k (lt i j)) h.2.2).2⟩
structure OrdW (lt:Nat->Nat->Bool):Prop where
 tr:∀a b c,lt a b=false->lt b c=false->lt a c=false
 as:∀a b,lt a b=true->lt b a=false
section
variable {lt:Nat->Nat->Bool}{n:Nat}{p q:Array Nat}
noncomputable def VQ (lt:Nat->Nat->Bool)(p:Array Nat)(m:Nat):Prop:=∀i j,i<j->j<m->lt (g p j) (g p i)=false
noncomputable def J6 (lt:Nat->Nat->Bool)(p:Array Nat)(m:Nat):Prop:=∀i j,i<j->j<m->lt (g p i) (g p j)=false
noncomputable def EqW (lt:Nat->Nat->Bool)(p:Array Nat)(l m:Nat):Prop:=∀i j,l<=i->i<m->l<=j->j<m->lt (g p i) (g p j)=false
theorem OrdW.irr (o:OrdW lt)(a:Nat):lt a a=false:=by
 cases e:lt a a with
 | false=>rfl
 | true=>have:=o.as a a e;rw[e] at this;cases this
theorem ascW (o:OrdW lt)(h:Pm n p):∀(f k:Nat),1<=k->k+f=n->VQ lt p k->Yh lt n (kas_asc p f k) (fun m=>k<=m/\m<=n/\VQ lt p m/\(m<n->lt (g p m) (g p (m-1))=true))
 | 0,k,h1,h2,hs=>⟨qw _,by omega,hs,fun z=>by omega⟩
 | f+1,k,h1,h2,hs=>by
  show g p k<n/\g p (k-1)<n/\Yh lt n (if lt (g p k) (g p (k-1))=true then .ret k else kas_asc p f (k+1)) _;refine⟨h.bd _,h.bd _,?_⟩
  cases e:lt (g p k) (g p (k-1)) with
  | true=>rw[if_pos rfl];exact⟨qw _,by omega,hs,fun _=>e⟩
  | false=>
   rw[if_neg (by simp)];refine Yh.mono (fun m ⟨a,b⟩=>⟨by omega,b⟩) (ascW o h f (k+1) (by omega) (by omega) fun i j hij hj=>?_);by_cases hjk:j<k
   ·exact hs i j hij hjk
   ·have:j=k:=by omega
    subst this;by_cases hi:i=j-1
    ·subst hi;exact e
    ·exact o.tr _ _ _ e (hs i (j-1) (by omega) (by omega))
theorem JL (hj:q.size=n){l m:Nat}(hl:l<=m)(hm:m<=n)(k:Nat):g (kas_rev q l m) k=if l<=k/\k<m then g q (l+(m-1-k)) else g q k:=by
 have e:=getElem?_mirror_all (xs:=q) (i:=l) (j:=m) (by omega) k;unfold kas_rev;by_cases hk:l<=k/\k<m
 ·rw[if_pos hk] at e
  rw[if_pos hk];exact Jd (by rw[e];congr 1;omega)
 ·rw[if_neg hk] at e
  rw[if_neg hk];exact Jd e
theorem Zok (hs:p.size=n){l m:Nat}(hl:l<=m)(hm:m<=n)(hd:J6 lt p m)(he:EqW lt p l m):J6 lt (kas_rev p l m) m:=fun i j hij hj=>by
 rw[JL hs hl hm,JL hs hl hm];by_cases hi:l<=i
 ·rw[if_pos ⟨hi,by omega⟩,if_pos ⟨by omega,hj⟩]
  exact he _ _ (by omega) (by omega) (by omega) (by omega)
 ·rw[if_neg (fun z=>hi z.1)]
  by_cases hjl:l<=j
  ·rw[if_pos ⟨hjl,hj⟩]
   exact hd _ _ (by omega) (by omega)
  ·rw[if_neg (fun z=>hjl z.1)]
   exact hd _ _ hij hj
theorem ZiG (o:OrdW lt):∀(f k q:Nat) (p:Array Nat),Pm n p->q+1<=k->k+f=n->J6 lt p k->EqW lt p (k-(q+1)) k->
  Yh lt n (kas_desc f p k q) (fun r=>Pm n r.1/\r.2.2+1<=r.2.1/\r.2.1<=n/\J6 lt r.1 r.2.1/\EqW lt r.1 (r.2.1-(r.2.2+1)) r.2.1)
 | 0,k,q,p,h,h1,h2,hd,he=>⟨h,h1,by show k<=n;omega,hd,he⟩
 | f+1,k,q,p,h,h1,h2,hd,he=>by
  show g p k<n/\g p (k-1)<n/\Yh lt n (if lt (g p k) (g p (k-1))=true then (if q > 0 then kas_desc f (kas_rev p (k-(q+1)) k) (k+1) 0 else kas_desc f p (k+1) 0) else .ask (g p (k-1)) (g p k) fun d=>if d=true then .ret (p,k,q) else kas_desc f p (k+1) (q+1)) _;refine⟨h.bd _,h.bd _,?_⟩;have one:∀p:Array Nat,EqW lt p (k+1-(0+1)) (k+1):=fun p i j a b c d=>by
   have:i=j:=by omega
   subst this;exact o.irr _
  cases e:lt (g p k) (g p (k-1)) with
  | true=>
   rw[if_pos rfl];have e2:=o.as _ _ e;by_cases hq:q > 0
   ·rw[if_pos hq]
    have h':Pm n (kas_rev p (k-(q+1)) k):=h.of (mirror_perm _ _ _ _);refine ZiG o f (k+1) 0 _ h' (by omega) (by omega) (fun i j hij hj=>?_) (one _);have hr:=Zok h.size (by omega:k-(q+1)<=k) (by omega) hd he;by_cases hjk:j<k
    ·exact hr i j hij hjk
    ·have:j=k:=by omega
     subst this;rw[JL h.size (by omega) (by omega),JL h.size (by omega) (by omega),if_neg (by omega:¬(j-(q+1)<=j/\j<j))];have hlast:∀x,x<j->lt (g p x) (g p j)=false:=fun x hx=>by
      by_cases hx1:x=j-1
      ·subst hx1;exact e2
      ·exact o.tr _ _ _ (hd x (j-1) (by omega) (by omega)) e2
     by_cases hi:j-(q+1)<=i/\i<j
     ·rw[if_pos hi];exact hlast _ (by omega)
     ·rw[if_neg hi];exact hlast _ hij
   ·rw[if_neg hq]
    refine ZiG o f (k+1) 0 p h (by omega) (by omega) (fun i j hij hj=>?_) (one _);by_cases hjk:j<k
    ·exact hd i j hij hjk
    ·have:j=k:=by omega
     subst this;by_cases hi:i=j-1
     ·subst hi;exact e2
     ·exact o.tr _ _ _ (hd i (j-1) (by omega) (by omega)) e2
  | false=>
   rw[if_neg (by simp)];refine⟨h.bd _,h.bd _,?_⟩;show Yh lt n (if lt (g p (k-1)) (g p k)=true then .ret (p,k,q) else kas_desc f p (k+1) (q+1)) _
   cases e2:lt (g p (k-1)) (g p k) with
   | true=>rw[if_pos rfl];exact⟨h,h1,by show k<=n;omega,hd,he⟩
   | false=>
    rw[if_neg (by simp)];refine ZiG o f (k+1) (q+1) p h (by omega) (by omega) (fun i j hij hj=>?_) fun i j a b c d=>?_
    ·by_cases hjk:j<k
     ·exact hd i j hij hjk
     ·have:j=k:=by omega
      subst this;by_cases hi:i=j-1
      ·subst hi;exact e2
      ·exact o.tr _ _ _ (hd i (j-1) (by omega) (by omega)) e2
    ·have low:∀x,k-(q+1)<=x->x<k->lt (g p x) (g p k)=false/\lt (g p k) (g p x)=false:=fun x hx hx2=>
      ⟨o.tr _ _ _ (he x (k-1) hx hx2 (by omega) (by omega)) e2,o.tr _ _ _ e (he (k-1) x (by omega) (by omega) hx hx2)⟩
     by_cases hi:i<k
     ·by_cases hj:j<k
      ·exact he i j (by omega) hi (by omega) hj
      ·have:j=k:=by omega
       subst this;exact(low i (by omega) hi).1
     ·have:i=k:=by omega
      subst this;by_cases hj:j<i
      ·exact(low j (by omega) hj).2
      ·have:j=i:=by omega
       subst this;exact o.irr _
theorem Zol (o:OrdW lt)(h:Pm n p){k:Nat}(h1:1<=k)(h2:k<=n)(hs:J6 lt p k):Yh lt n (kas_tail3 k n p) (fun r=>1<=r.1/\r.1<=n/\Pm n r.2/\VQ lt r.2 r.1):=by
 have h':Pm n (kas_rev p 0 k):=h.of (mirror_perm _ _ _ _);have hs':VQ lt (kas_rev p 0 k) k:=fun i j hij hj=>by
  rw[Zoh h.size h2,Zoh h.size h2,if_pos (by omega),if_pos (by omega)];exact hs _ _ (by omega) (by omega)
 refine Yh.bind (Yh.mono (fun m ⟨a,b,c,_⟩=>?_) (ascW o h' (n-k) k h1 (by omega) hs'));exact⟨by show 1<=m;omega,b,h',c⟩
theorem Zom (o:OrdW lt)(h:Pm n p){m:Nat}(h1:1<=m)(h2:m<n)(hd:J6 lt p (m+1)):Yh lt n (kas_descPart m n p) (fun r=>1<=r.1/\r.1<=n/\Pm n r.2/\VQ lt r.2 r.1):=by
 refine Yh.bind (Yh.mono (fun r ⟨r1,r2,r3,r4,r5⟩=>?_) (ZiG o (n-(m+1)) (m+1) 0 p h (by omega) (by omega) hd fun i j a b c d=>by
  have:i=j:=by omega
  subst this;exact o.irr _))
 by_cases hq:r.2.2 > 0
 ·rw[if_pos hq]
  exact Zol o (r1.of (mirror_perm _ _ _ _)) (by omega) r3 (Zok r1.size (by omega) r3 r4 r5)
 ·rw[if_neg hq]
  exact Zol o r1 (by omega) r3 r4
theorem Zpj (o:OrdW lt)(h:Pm n p):Yh lt n (kas_count n p) (fun r=>1<=r.1/\r.1<=n/\Pm n r.2/\VQ lt r.2 r.1):=by
 have hn:=h.pos;refine Yh.bind (Yh.mono (fun m ⟨a,b,c,d⟩=>?_) (ascW o h (n-1) 1 (by omega) (by omega) fun i j hij hj=>by omega));by_cases hm:m=n
 ·rw[if_pos (by simpa using hm)]
  exact⟨a,b,h,c⟩
 ·rw[if_neg (by simpa using hm)]
  have dm:=o.as _ _ (d (by omega));by_cases h1:m > 1
  ·rw[if_pos h1]
   refine⟨h.bd 0,h.bd (m-1),?_⟩;show Yh lt n (if lt (g p 0) (g p (m-1))=true then .ret (m,p) else kas_descPart m n (kas_rev p 0 m)) _
   cases e:lt (g p 0) (g p (m-1)) with
   | true=>rw[if_pos rfl];exact⟨a,b,h,c⟩
   | false=>
    rw[if_neg (by simp)];have up:∀i j,i<m->j<m->lt (g p i) (g p j)=false:=fun i j hi hj=>by
     -- g i<=g (m-1)<=g 0<=g j
     have x1:lt (g p 0) (g p j)=false:=by
      by_cases z:j=m-1
      ·subst z;exact e
      ·exact o.tr _ _ _ e (c j (m-1) (by omega) (by omega))
     by_cases z:i=0
     ·subst z;exact x1
     ·exact o.tr _ _ _ (c 0 i (by omega) hi) x1
    have h':Pm n (kas_rev p 0 m):=h.of (mirror_perm _ _ _ _);refine Zom o h' (by omega) (by omega) fun i j hij hj=>?_;rw[JL h.size (by omega) (by omega),JL h.size (by omega) (by omega),if_pos (by omega:0<=i/\i<m)];by_cases hjm:j<m
    ·rw[if_pos (by omega:0<=j/\j<m)]
     exact up _ _ (by omega) (by omega)
    ·have:j=m:=by omega
     subst this;rw[if_neg (by omega:¬(0<=j/\j<j))];exact o.tr _ _ _ (up _ (j-1) (by omega) (by omega)) dm
  ·rw[if_neg h1]
   have:m=1:=by omega
   subst this;refine Zom o h (by omega) (by omega) fun i j hij hj=>?_;have h1:i=0:=by omega
   have h2:j=1:=by omega
   subst h1 h2;exact dm
theorem ZhI (o:OrdW lt)(h:Pm n p){k:Nat}(hk:k<n)(hs:VQ lt p k):∀(f l r:Nat),l<=r->r<=k->r-l<=f->(∀i,i<l->lt (g p k) (g p i)=false)->(∀i,r<=i->i<k->lt (g p i) (g p k)=false)->
  Yh lt n (kas_place p k f l r) (fun m=>m<=k/\(∀i,i<m->lt (g p k) (g p i)=false)/\∀i,m<=i->i<k->lt (g p i) (g p k)=false)
 | 0,l,r,h1,h2,h3,ha,hb=>⟨by omega,ha,fun i hi=>hb i (by omega)⟩
 | f+1,l,r,h1,h2,h3,ha,hb=>by
  show Yh lt n (if l≥r then .ret l else .ask (g p k) (g p ((l+r) / 2)) fun c=>if c=true then kas_place p k f l ((l+r) / 2) else kas_place p k f ((l+r) / 2+1) r) _;by_cases hlr:l≥r
  ·rw[if_pos hlr]
   exact⟨by omega,ha,fun i hi=>hb i (by omega)⟩
  ·rw[if_neg hlr]
   refine⟨h.bd _,h.bd _,?_⟩;show Yh lt n (if lt (g p k) (g p ((l+r) / 2))=true then kas_place p k f l ((l+r) / 2) else kas_place p k f ((l+r) / 2+1) r) _
   cases e:lt (g p k) (g p ((l+r) / 2)) with
   | true=>
    rw[if_pos rfl];refine ZhI o h hk hs f l _ (by omega) (by omega) (by omega) ha fun i hi hik=>?_;have e2:=o.as _ _ e;by_cases hq:i=(l+r) / 2
    ·subst hq;exact e2
    ·exact o.tr _ _ _ (hs _ i (by omega) hik) e2
   | false=>
    rw[if_neg (by simp)];refine ZhI o h hk hs f _ r (by omega) h2 (by omega) (fun i hi=>?_) hb;by_cases hq:i=(l+r) / 2
    ·subst hq;exact e
    ·exact o.tr _ _ _ e (hs i _ (by omega) (by omega))
theorem binW (o:OrdW lt):∀(f k:Nat) (p:Array Nat),Pm n p->1<=k->k+f=n->VQ lt p k->Yh lt n (kas_bin f p k) (fun q=>Pm n q/\VQ lt q n)
 | 0,k,p,h,h1,h2,hs=>⟨h,by have:k=n:=(by omega);subst this;exact hs⟩
 | f+1,k,p,h,h1,h2,hs=>by
  refine Yh.bind (Yh.mono (fun m ⟨a,b,c⟩=>?_) (ZhI o h (k:=k) (by omega) hs k 0 k (by omega) (by omega) (by omega) (fun i hi=>by omega) fun i hi hik=>by omega));have hg:∀i,g (bubble p k (k-m)) i=if i=m then g p k else if m<i/\i<=k then g p (i-1) else g p i:=fun i=>by
   have e:=getElem?_bubble (xs:=p) (src:=k) (by rw[h.size];omega) (k-m) (by omega) i;rw[show k-(k-m)=m by omega] at e;by_cases q1:i=m
   ·rw[if_pos q1] at e⊢;exact Jd e
   ·rw[if_neg q1] at e⊢
    by_cases q2:m<i/\i<=k
    ·rw[if_pos q2] at e⊢;exact Jd e
    ·rw[if_neg q2] at e⊢;exact Jd e
  refine binW o f (k+1) _ (h.of (bubble_perm _ _ _)) (by omega) (by omega) fun i j hij hj=>?_;rw[hg,hg];by_cases i1:i=m
  ·rw[if_pos i1,if_neg (by omega:¬j=m),if_pos (by omega:m<j/\j<=k)]
   exact c _ (by omega) (by omega)
  ·rw[if_neg i1]
   by_cases i2:m<i/\i<=k
   ·rw[if_pos i2,if_neg (by omega:¬j=m),if_pos (by omega:m<j/\j<=k)]
    exact hs _ _ (by omega) (by omega)
   ·rw[if_neg i2]
    by_cases j1:j=m
    ·rw[if_pos j1];exact b i (by omega)
    ·rw[if_neg j1]
     by_cases j2:m<j/\j<=k
     ·rw[if_pos j2]
      exact hs _ _ (by omega) (by omega)
     ·rw[if_neg j2]
      exact hs _ _ hij (by omega)
theorem ZlV (o:OrdW lt)(hn:0<n):Yh lt n (kas_sort n) (fun q=>Pm n q/\VQ lt q n):=by
 have h:Pm n (qU (qp n)):=⟨hn,by simp⟩;refine Yh.bind (Yh.mono (fun r ⟨a,b,c,d⟩=>?_) (Zpj o h));by_cases hr:r.1<n
 ·rw[if_pos hr]
  have e:max r.1 1=r.1:=by omega
  rw[e];exact binW o _ _ _ c a (by omega) d
 ·rw[if_neg hr]
  exact⟨c,by have:r.1=n:=(by omega);rw[this] at d;exact d⟩
noncomputable def Yl (lt:Nat->Nat->Bool)(n:Nat):List Nat:=if n<2 then qp n else (VB lt (kas_sort n)).toList
theorem Jn (o:OrdW lt):(Yl lt n).Perm (qp n):=by
 unfold Yl;by_cases h:n<2
 ·rw[if_pos h]
 ·rw[if_neg h]
  exact(ZlV o (by omega)).run.2.1.pm
theorem Zgn (o:OrdW lt):(Yl lt n).Pairwise fun a b=>lt b a=false:=by
 unfold Yl;by_cases h:n<2
 ·rw[if_pos h]
  match n,h with
  | 0,_=>exact qa2
  | 1,_=>exact List.pairwise_singleton _ _
 ·rw[if_neg h]
  obtain⟨h1,h2⟩:=(ZlV (n:=n) o (by omega)).run.2;rw[zw];intro i j hi hj hij;have hs:=h1.size;have e:∀k,(hk:k<(VB lt (kas_sort n)).toList.length)->(VB lt (kas_sort n)).toList[k]=g (VB lt (kas_sort n)) k:=fun k hk=>by
   have hk':k<(VB lt (kas_sort n)).size:=by simpa using hk
   unfold g;simp[Array.getD,hk']
  rw[e i hi,e j hj];exact h2 i j hij (by rw[za,hs] at hj;exact hj)
end
end TS
namespace TF
open L2 TS PySem.W
section
variable {X:Cx}{jJ:List (Addr×Obj)}{σ:St}{H:Hp}{s:Shared}
noncomputable def U7 (X:Cx)(σ:St)(sp:Heap->Sp):List V->Hp->(List V->Hp->Prop)->Prop
 | [],H,R=>R [] H
 | v::r,H,R=>∀base',Cells X σ base'->sp base' [v] H (fun k H1=>U7 X σ sp r H1 fun ks H2=>R (k::ks) H2) E0
structure KeyFn (X:Cx)(σ:St)(k:Nat)(f:Addr)(sp:Heap->Sp):Prop where
 fn:∀x,X.fn x=true
 ok:∃fd ps,XV X.K fd ps []/\∀base',Cells X σ base'->FnOk X.prog X.w X.K X.mg base' ZQ k f fd ps (sp base')
theorem Zdi {k:Nat}{f:Addr}{sp:Heap->Sp}{A:Around}{Q:VK}{E:Value->Shared->Prop}{u:Value}{v:V}(F:KeyFn X σ k f sp)(I:Inv X jJ σ H s)(hA:∀{base H s},Env0 X.prog X.w X.K X.mg base X.A X.stack s H->Env0 X.prog X.w X.K X.mg base A X.stack s H)(hr:Room k A)(rv:ZC v u)(q:∀base',Cells X σ base'->sp base' [v] H Q E0) :
  wpAny (model X.prog X.w) A (call (.ref f) [u]) (EP X jJ σ Q) E s:=by
 obtain⟨fd,ps,hb,F0⟩:=F.ok;obtain⟨e0,cs⟩:=Zee I F.fn;have q':=q _ cs;have r:Zw [v] [u]:=.cons rv .nil;have hl:([u] ++ []).length=ps.length:=by rw[zf,<-r.length];exact(F0 _ cs).len _ _ _ _ q'
 refine wpAny_call (codeAny_mono ((F0 _ cs).run A X.stack s H ⟨[u],[]⟩ [u] [v] Q E0 hr (hA e0) (by have:=hb s [u] I.kIn hl;rw[zf] at this;exact this) r q') fun r s' hq=>?_)
 cases r with
 | error e=>exact hq.elim
 | ok fl=>
  cases fl with
  | ret u=>exact I.after hq
  | next=>exact zI hq
  | brk=>exact zI hq
  | cont=>exact zI hq
noncomputable def WP (X:Cx)(jJ:List (Addr×Obj))(b:Addr):Prop:=b≠X.env.locals/\b∉X.fs/\(b∈X.ex∨X.s₀.heap.objs.size<=b)/\(∀x c,X.env.cells.lookup x=some c->c≠b)/\∀p∈X.pn++jJ,p.1≠b
theorem Zfe (I:Inv X jJ σ H s){b:Addr}(hb:s.heap.objs.size<=b):WP X jJ b:=(I.fpOk hb (H':=H) (I.hok.fresh hb)).2
theorem Us {b:Addr}{o o':Obj}{rest:List (Addr×Obj)}{h':Heap}{t':Nat}(I:Inv X (jJ++(b,o)::rest) σ H s)(k:∀c u,c≠b->s.heap.get? c=some u->h'.get? c=some u)(hb':h'.get? b=some o')(hd:∀v,o'.data≠.cell v)(fp:WP X jJ b)
  (hr:∀p∈rest,p.1≠b):Inv X (jJ++(b,o')::rest) σ H { s with heap:=h',toks:=t' }:=by
 obtain⟨pb1,pb2,pb3,pb4,pb5⟩:=I.pin (b,o) (qj _ (qj _ (.head _)));have I1:Inv X (jJ++rest) σ H s:=I.pins_of fun p hp=>I.pin p (qj _ ((qP.mp hp).elim (fun z=>zh _ z) fun z=>qj _ (.tail _ z)));obtain⟨f1,f2,f3,f4,f5⟩:=fp;have I2:=I1.turned (t':=t') k pb2 f1 f3 f4 (fun p hp=>by
  rcases qP.mp hp with z | z
  ·exact f5 p (zh _ z)
  ·rcases qP.mp z with z | z
   ·exact f5 p (qj _ z)
   ·exact hr p z)
 refine I2.pins_of fun p hp=>?_;rcases qP.mp hp with z | z
 ·exact I2.pin p (qj _ (zh _ z))
 ·rcases qu.mp z with rfl | z
  ·exact⟨hb',pb2,f1,f2,hd⟩
  ·exact I2.pin p (qj _ (qj _ z))
theorem ZpX {b:Addr}{o:Obj}{u:HO}{rest:List (Addr×Obj)}(I:Inv X (jJ++(b,o)::rest) σ H s)(fp:WP X jJ b)(hx:X.s₀.heap.objs.size<=b)(new:YC X.prog X.w (Zm H b u) s.heap b u):Inv X jJ σ (Zm H b u) s:=by
 obtain⟨pb1,pb2,pb3,pb4,pb5⟩:=I.pin (b,o) (qj _ (qj _ (.head _)));obtain⟨f1,f2,f3,f4,f5⟩:=fp;refine⟨I.ok,I.os,I.bare,?_,I.loc,I.cell,?_,?_,?_,?_,I.len⟩
 ·exact⟨I.base.keep,I.base.slot,fun c q e n x=>by
   rw[Zp (qQ (qT (qH e) hx))];exact I.base.free c q e n x,I.base.there,fun c xs e=>by have:=I.base.tups c xs e;rw[Zp (Z6 this pb2)];exact this,fun c q xs e=>by have:=I.base.frzs c q xs e;rw[Zp (Z6 this pb2)];exact this,fun c ps e=>by
   obtain⟨m,this⟩:=I.base.tbls c ps e;exact⟨m,by rw[Zp (Z6 this pb2)];exact this⟩⟩
 ·rw[Zp (zm f1)];exact I.free
 ·intro x c e
  rw[Zp (f4 x c e)];exact I.freeC x c e
 ·intro p hp
  have hp':p∈X.pn++(jJ++(b,o)::rest):=(qP.mp hp).elim (fun z=>zh _ z) fun z=>qj _ (zh _ z);obtain⟨q1,q2,q3,q4,q5⟩:=I.pin p hp';exact⟨q1,by rw[Zp (f5 p hp)];exact q2,q3,q4,q5⟩
 ·intro c v e
  by_cases hc:c=b
  ·subst hc;rw[ZO] at e;cases e;exact new
  ·rw[Zp hc] at e
   exact(I.hok c v e).stay (fun d w _ q=>q) (fun d q=>by rw[Zp (Z6 q pb2)];exact q) fun d xs q=>by rw[Zp (Z6 q pb2)];exact q
theorem Zep:∀{xs:List V} {us:List Value} {v:V} {u:Value},Zw xs us->ZC v u->Zw (xs ++ [v]) (us ++ [u])
 | [],_,v,u,h,r=>by cases h;exact .cons r .nil
 | x::xs,_,v,u,h,r=>by
  cases h with
  | cons h1 h2=>exact .cons h1 (Zep h2 r)
theorem VY {c:String}{xs:Array Value}{n:Nat}:∀v,(seqObj c xs n).data≠.cell v:=fun v h=>by cases h
theorem Zeq {k:Nat}{f kS a:Addr}{sp:Heap->Sp}{A:Around}{E:Value->Shared->Prop}{e1:Nat}{R:List V->Hp->Prop}{body:Value->PUnit->Sem (ForInStep PUnit)}(F:KeyFn X σ k f sp)(hA:∀{base H s},Env0 X.prog X.w X.K X.mg base X.A X.stack s H->Env0 X.prog X.w X.K X.mg base A X.stack s H)(hr:Room k A)
  (fp:WP X jJ kS) (hka:a≠kS)
  (hbody:∀x ks e (s:Shared) (D:Value->Shared->Prop),yX ks<64->wpAny (model X.prog X.w) A (call (.ref f) [x]) (fun u s'=>s'.heap.get? kS=some (seqObj "list" (qU ks) e)/\D u { s' with heap:=s'.heap.update kS (zl (·.push u)) }) (fun _ _=>False) s->
   wpAny (model X.prog X.w) A (body x ⟨⟩) (fun r s'=>r=.yield ⟨⟩/\∃u,D u s') E s) :
  ∀(r:List V) (us:List Value) (kvs:List V) (ks:List Value) (e:Nat) (H:Hp) (s:Shared),Zw r us->Zw kvs ks->ks.length+us.length<64->Inv X (jJ ++ [(kS,seqObj "list" (qU ks) e),(a,seqObj "list" #[] e1)]) σ H s->U7 X σ sp r H (fun k2 H2=>R (kvs++k2) H2)->
   wpAny (model X.prog X.w) A (forIn us PUnit.unit body) (fun _ s'=>∃kvs' ks' e' H',Inv X (jJ ++ [(kS,seqObj "list" (qU ks') e'),(a,seqObj "list" #[] e1)]) σ H' s'/\Zw kvs' ks'/\ks'.length=ks.length+us.length/\R kvs' H') E s
 | [],_,kvs,ks,e,H,s,h,hv,hz,I,q=>by
  cases h
  rw[List.forIn_nil];refine wpAny_pure ⟨kvs,ks,e,H,I,hv,rfl,?_⟩;have q:R (kvs ++ []) H:=q;rw[zf] at q;exact q
 | v::r,_,kvs,ks,e,H,s,h,hv,hz,I,q=>by
  cases h with
  | @cons _ u _ us r1 r2=>
   rw[qR] at hz;rw[qbr];refine wpAny_bind (wpAny_mono (hbody u ks e s (fun u' s'=>∃v' H',Inv X (jJ ++ [(kS,seqObj "list" (qU (ks ++ [u'])) (e+1)),(a,seqObj "list" #[] e1)]) σ H' s'/\ZC v' u'/\U7 X σ sp r H' fun ks H2=>R (kvs++v'::ks) H2) (by omega) ?_) (fun q' s' hq=>?_) fun _ _ x=>x)
   ·refine wpAny_mono (Zdi F I hA hr r1 q) (fun u' s' ⟨v',H',I',rv,q'⟩=>?_) fun _ _ x=>x
    have pk:=(I'.pin (kS,seqObj "list" (qU ks) e) (qj _ (qj _ (.head _)))).1;refine⟨pk,v',H',?_,rv,q'⟩;refine Us (o:=seqObj "list" (qU ks) e) (t':=s'.toks) I' (fun c w hc e=>by rw[zG _ _ _ _ hc];exact e) ?_ VY fp (fun p hp=>by rw[qN.mp hp];exact hka);have ea:(qU ks).push u'=qU (ks ++ [u']):=by simp
    rw[get?_update_seq pk (·.push u'),ea];have:((qU (ks ++ [u'])).size==(qU ks).size)=false:=by simp
    rw[this];rfl
   ·obtain⟨rfl,u',v',H',I',rv,q'⟩:=hq
    show wpAny (model X.prog X.w) A (forIn us PUnit.unit body) _ E s';refine wpAny_mono (Zeq F hA hr fp hka hbody r us (kvs ++ [v']) (ks ++ [u']) (e+1) H' s' r2 (Zep hv rv) (by rw[qY,ya];omega) I' ?_) (fun _ s'' ⟨a1,a2,a3,a4,a5,a6,a7,a8⟩=>⟨a1,a2,a3,a4,a5,a6,by rw[a7,qY,ya,qR];omega,a8⟩) fun _ _ x=>x;have e2:(fun k2 H2=>R (kvs ++ [v']++k2) H2)=fun k2 H2=>R (kvs++v'::k2) H2:=by funext k2 H2;rw[qar];rfl
    rw[e2];exact q'
end
section
variable {prog:Program}{w:World}{A:Around}{E:Value->Shared->Prop}{s:Shared}
noncomputable def Bf (h:Heap)(kS a:Addr)(out:List Value):Heap:=(h.update kS (zl fun _=>(#[]:Array Value))).update a (zl fun _=>qU out)
theorem Zer {kS a:Addr}{ks out:List Value}{e e1:Nat}{st:SortSt}{P:PySem.Fin->Shared->Prop}(hk:s.heap.get? kS=some (seqObj "list" (qU ks) e))(ha:s.heap.get? a=some (seqObj "list" #[] e1))(hka:a≠kS)(hout:(arrOf st).map (·.2)=qU out)(hz:out.length<64)(hkz:ks.length<64)(hf:failedOf st=none)
  (h:P (.done (.ret .none)) { s with heap:=Bf s.heap kS a out }):wpAny (model prog w) A (ksk_tail a false e1 (.ref kS) st) P E s:=by
 have ha2:(s.heap.update kS (zl fun _=>(#[]:Array Value))).get? a=some (seqObj "list" #[] e1):=by rw[zG _ _ _ _ hka];exact ha
 unfold ksk_tail
 try dsimp only
 rw[hout];refine wpAny_bind (listUpdate_at hk rfl ?_ (by rw[qC,sizeLine_eq];omega) (zk _));refine wpAny_bind (wpAny_letGo ?_);refine wpAny_bind (seqEpoch_at ha2 rfl ?_);refine wpAny_bind (listUpdate_at ha2 rfl ?_ (zk _) (by show(qU out).size<=_;rw[qC,sizeLine_eq];omega));rw[hf];simp only[bne_self_eq_false,yc,if_false];exact wpAny_pure h
theorem ZlW {kS a:Addr}{us ks:List Value}{e e1:Nat}{lt:Nat->Nat->Bool}{P:PySem.Fin->Shared->Prop}(o:OrdW lt)(hk:s.heap.get? kS=some (seqObj "list" (qU ks) e))(ha:s.heap.get? a=some (seqObj "list" #[] e1))(hka:a≠kS)(hl:ks.length=us.length)(h64:us.length<64)
  (hkind:2<=ks.length->∃κ,(∀Q:SortKind->Shared->Prop,Q κ s->wpAny (model prog w) A (keyKind' (qU ks)) Q E s)/\∀i j,i<ks.length->j<ks.length->∀C:Bool->Shared->Prop,C (lt i j) s->kas_ask prog w A κ ks i j C s)
  (h:P (.done (.ret .none)) { s with heap:=Bf s.heap kS a ((Yl lt us.length).map fun i=>us.getD i ze) }):wpAny (model prog w) A (ksk_end a false us.toArray e1 (.ref kS) (qU ks)) P E s:=by
 have hol:((Yl lt us.length).map fun i=>us.getD i ze).length=us.length:=by rw[qd,(Jn o).length_eq,qJ]
 unfold ksk_end
 try dsimp only
 simp only[yc,if_false];by_cases h2:us.toArray.size<2
 ·rw[if_pos h2,if_pos h2]
  refine wpAny_bind (wpAny_pure ?_);rw[StateT.run_pure];refine wpAny_bind (wpAny_pure ?_)
  try dsimp only
  have hlt:us.length<2:=by simpa using h2
  refine Zer (out:=(Yl lt us.length).map fun i=>us.getD i ze) hk ha hka ?_ (by omega) (by omega) rfl h;have e:(Yl lt us.length).map (fun i=>us.getD i ze)=us:=by
   unfold Yl;rw[if_pos hlt];exact TS.range_getD us _
  rw[e];apply Array.toList_inj.mp;show(((qU ks).zip us.toArray).map (·.2)).toList=_;rw[Array.toList_map,ksk_zip];show(ks.zip us).map Prod.snd=_;rw[List.map_snd_zip (by omega)]
 ·rw[if_neg h2,if_neg h2]
  have h2':2<=us.length:=by simpa using h2
  obtain⟨κ,hκ,hask⟩:=hkind (by omega);refine wpAny_bind (hκ _ ?_);have tr:=(ZlV (n:=us.length) o (by omega)).run;have wp:=jE (s:=s) (cmp:=kas_ask prog w A κ ks) (R:=fun q s'=>q=VB lt (kas_sort us.length)/\s'=s) (fun i j hi hj C hC=>hask i j (by omega) (by omega) C hC) (fun q hq=>⟨hq,rfl⟩) tr.1;refine wpAny_bind (wpAny_mono (kat_run (ks:=ks) (vs:=us) (Q:=fun st' s'=>arrOf st'=(VB lt (kas_sort us.length)).map (kas_item (ks.toArray.zip us.toArray))/\failedOf st'=none/\s'=s) hl h2' h64 (fun p' st' s' a1 a2 a3 a4=>⟨by rw[<-a4.1];exact a2,a3,a4.2⟩) wp) ?_ fun _ _ e=>e);rintro⟨⟨⟩,st'⟩ s' ⟨har,hf,rfl⟩
  try dsimp only
  have hout:=kat_snds (ks:=ks) (vs:=us) hl har;refine Zer (out:=(Yl lt us.length).map fun i=>us.getD i ze) hk ha hka ?_ (by omega) (by omega) hf h;rw[hout];unfold Yl;rw[if_neg (by omega)]
end
section
variable {X:Cx}{jJ:List (Addr×Obj)}{σ:St}{H:Hp}{s:Shared}
noncomputable def VC (X:Cx)(kvs:List V)(H:Hp)(lt:Nat->Nat->Bool):Prop:=
 (∃ns:List Int,kvs=ns.map V.int/\lt=fun i j=>decide (ns.getD i 0<ns.getD j 0))∨
 ∃(kt:List (List Int)) (T:V->List Int->Prop),(∀v ns,T v ns->∃a,v=.ref a/\ZU X.K H a (ns.map V.int))/\Paired T kvs kt/\(∀ns∈kt,ns≠[])/\lt=fun i j=>XA (kt.getD i []) (kt.getD j [])
theorem VC.ord {kvs:List V}{lt:Nat->Nat->Bool}(h:VC X kvs H lt):OrdW lt:=by
 rcases h with⟨ns,_,rfl⟩ | ⟨kt,T,_,_,_,rfl⟩
 ·refine⟨fun a b c h1 h2=>?_,fun a b h=>?_⟩
  ·have h1:=of_decide_eq_false h1
   have h2:=of_decide_eq_false h2;exact decide_eq_false (by omega)
  ·have h:=of_decide_eq_true h
   exact decide_eq_false (by omega)
 ·refine⟨fun a b c h1 h2=>?_,fun a b h=>Zgf h⟩
  have t:=Zpb (kt.getD c []) (kt.getD b []) (kt.getD a []) (by unfold Jh;rw[h2];rfl) (by unfold Jh;rw[h1];rfl);unfold Jh at t;simpa using t
theorem Zff:∀{ks:List Value} {ns:List Int} {i:Nat},IntsAre ks ns->i<ks.length->∃t,ks.getD i ze=.int (ns.getD i 0) t
 | _,_,_,.nil,h=>absurd h (by simp)
 | _,_,0,.cons n t _,_=>⟨t,rfl⟩
 | _,_,i+1,.cons n t r,h=>by
  obtain⟨t',e⟩:=Zff r (i:=i) (by simpa using h);exact⟨t',by simpa using e⟩
theorem Zj1 {kvs:List V}{ks:List Value}{lt:Nat->Nat->Bool}{A:Around}{E:Value->Shared->Prop}(h:VC X kvs H lt)(I:Inv X jJ σ H s)(rv:Zw kvs ks):2<=ks.length->∃κ,(∀Q:SortKind->Shared->Prop,Q κ s->wpAny (model X.prog X.w) A (keyKind' (qU ks)) Q E s)/\∀i j,i<ks.length->j<ks.length->∀C:Bool->Shared->Prop,C (lt i j) s->kas_ask X.prog X.w A κ ks i j C s:=fun h2=>by
 rcases h with⟨ns,rfl,rfl⟩ | ⟨kt,T,hT,pT,hne,rfl⟩
 ·have hi:IntsAre ks ns:=Ve rv
  refine⟨oneType',fun Q q=>?_,fun i j hi' hj' C hC=>?_⟩
  ·rw[ksk_kind (keys:=qU ks) (kz:=ns) hi (by simpa using h2)]
   exact wpAny_pure q
  ·obtain⟨t,et⟩:=Zff hi hi'
   obtain⟨t',et'⟩:=Zff hi hj';show wpAny (model X.prog X.w) A (keyLt' oneType' (ks.getD i ze) (ks.getD j ze)) C _ s;rw[et,et'];exact kat_lt_int hC
 ·have ht:=Zel I hT rv pT
  have hl:ks.length=kt.length:=qaz ht;exact⟨tuples' true,fun Q q=>Zpc ht hne (by omega) q,fun i j hi hj C hC=>ZpV (jx _ [] ht hi) (jx _ [] ht hj) hC⟩
theorem Zgo:∀{xs:List V} {us:List Value} {i:Nat},Zw xs us->i<xs.length->ZC (xs.getD i .non) (us.getD i ze)
 | _,_,_,.nil,h=>absurd h (by simp)
 | _,_,0,.cons h _,_=>h
 | _,_,i+1,.cons _ r,h=>by
  have:=Zgo r (i:=i) (by simpa using h);simpa using this
theorem Zes {xs:List V}{us:List Value}(h:Zw xs us):∀{ix:List Nat},(∀i∈ix,i<xs.length)->Zw (ix.map fun i=>xs.getD i .non) (ix.map fun i=>us.getD i ze)
 | [],_=>.nil
 | i::r,hb=>.cons (Zgo h (hb i (by simp))) (Zes h fun j m=>hb j (by simp[m]))
theorem ZhJ {k:Nat}{f:Addr}{sp:Heap->Sp}{E:Value->Shared->Prop}{u:Value}{xs:List V}{Q:VK}(F:KeyFn X σ k f sp)(hr:Room (k+2) X.A)(I:Inv X jJ σ H s)(h64:xs.length<64)
  (hcol:∀Q1:List Value->Shared->Prop,(∀(h':Heap) (tk:Nat) (jL:List Value),(∀b o,s.heap.get? b=some o->h'.get? b=some o)->Zw xs jL->Q1 jL { s with heap:=h',toks:=tk })->wpAny (model X.prog X.w) X.A.in1 (collect u) Q1 E s)
  (q:U7 X σ sp xs H fun kvs H1=>∃lt,VC X kvs H1 lt/\∀l,H1 l=none->Q (.ref l) (Zm H1 l (.lst ((Yl lt xs.length).map fun i=>xs.getD i .non)))) :
  wpAny (model X.prog X.w) X.A (call (.builtin "sorted") [u] [(qE "key",.ref f)]) (EP X jJ σ Q) E s:=by
 refine call_function_entry_kw kind_sorted plain_sorted entry_sorted (ksk_s1 _ _) ?_;unfold Builtin.«sorted»;refine wpAny_bind (m:=checkCount "sorted" 1 1 _) (wpAny_pure ?_);refine wpAny_bind (hcol _ fun h1 tk jL k1 rv=>?_);have hil:jL.length=xs.length:=rv.length.symm;have I1:Inv X jJ σ H { s with heap:=h1,toks:=tk }:=I.kept k1;refine wpAny_bind (wpAny_newList ?_ (by rw[sizeLine_eq];omega));generalize hs2:({ s with heap:=h1.push (seqObj "list" jL.toArray 0),toks:=tk }:Shared)=s2;have hh2:s2.heap=h1.push (seqObj "list" jL.toArray 0):=by rw[<-hs2]
 have I2:Inv X jJ σ H s2:=by rw[<-hs2];exact I1.kept (fun b o e=>qq _ e)
 generalize ha:h1.objs.size=a;have fpa:WP X jJ a:=by rw[<-ha];exact Zfe I1 (qw _)
 have hxa:X.s₀.heap.objs.size<=a:=by rw[<-ha];exact I1.sz
 have hna:H a=none:=by rw[<-ha];exact I1.hok.fresh (qw _)
 have ho:s2.heap.get? a=some (seqObj "list" jL.toArray 0):=by rw[hh2,<-ha];exact qI _ rfl
 refine wpAny_bind (wpAny_holding (wpAny_call_entry_kw slot_list_sort ⟨_,ho,rfl⟩ entry_list_sort ?body (ksk_l1 _ _)))
 case body=>
  show wpAny (model X.prog X.w) X.A.in1.in1 (Builtin.«list.sort» ⟨[.ref a],[(qE "key",.ref f)]⟩) _ E s2;rw[ksk_t1];obtain⟨e1,ho1⟩:∃e1,(s2.heap.update a (zl fun _=>(#[]:Array Value))).get? a=some (seqObj "list" #[] e1):=⟨_,get?_update_seq ho fun _=>#[]⟩;unfold ksk_tree;refine wpAny_bind (listItems_at ho rfl ?_);refine wpAny_bind (listUpdate_at ho rfl ?_ (by rw[qC,sizeLine_eq];omega) (zk _));refine wpAny_bind (seqEpoch_at ho1 rfl ?_);refine wpAny_bind (wpAny_newTuple ?_ (by show jL.length<=_;rw[sizeLine_eq];omega));refine wpAny_bind (wpAny_newList ?_ (zk _));refine wpAny_holding ?_;generalize hs3:({ s2 with heap:=(s2.heap.update a (zl fun _=>(#[]:Array Value))).push (seqObj "tuple" jL.toArray 0) }:Shared)=s3;have hh3:s3.heap=(s2.heap.update a (zl fun _=>(#[]:Array Value))).push (seqObj "tuple" jL.toArray 0):=by rw[<-hs3]
  generalize hkS:s3.heap.objs.size=kS;have I3:Inv X (jJ ++ [(a,seqObj "list" #[] e1)]) σ H { s2 with heap:=s2.heap.update a (zl fun _=>(#[]:Array Value)),toks:=s2.toks }:=by
   have Ia:Inv X (jJ++(a,seqObj "list" jL.toArray 0) :: []) σ H s2:=I2.pins_of fun p hp=>by
    rcases qP.mp hp with z | z
    ·exact I2.pin p (qj _ z)
    ·rw[qN.mp z]
     exact⟨ho,hna,fpa.1,fpa.2.1,VY⟩
   exact Us Ia (fun c w hc e=>by rw[zG _ _ _ _ hc];exact e) ho1 VY fpa (fun p hp=>by simp at hp)
  have I4:Inv X (jJ ++ [(a,seqObj "list" #[] e1)]) σ H s3:=by rw[<-hs3];exact I3.kept (t':=s2.toks) (fun b o e=>qq _ e)
  have hak:a<kS:=by
   rw[<-hkS,hh3,size_push',Heap.size_update];exact yy (qH ho)
  have fpk:WP X jJ kS:=by
   have:=Zfe I4 (b:=kS) (by rw[hkS];exact qw _);exact⟨this.1,this.2.1,this.2.2.1,this.2.2.2.1,fun p hp=>this.2.2.2.2 p ((qP.mp hp).elim (fun z=>zh _ z) fun z=>qj _ (zh _ z))⟩
  have I5:Inv X (jJ ++ [(kS,seqObj "list" (qU []) 0),(a,seqObj "list" #[] e1)]) σ H { s3 with heap:=s3.heap.push (seqObj "list" #[] 0),toks:=s3.toks }:=by
   have I':=I4.kept (t':=s3.toks) (h':=s3.heap.push (seqObj "list" #[] 0)) (fun b o e=>qq _ e);refine I'.pins_of fun p hp=>?_;rcases qP.mp hp with z | z
   ·exact I'.pin p (qj _ (zh _ z))
   ·rcases qu.mp z with rfl | z
    ·exact⟨by rw[<-hkS];exact qI _ rfl,by rw[<-hkS];exact I4.hok.fresh (qw _),fpk.1,fpk.2.1,VY⟩
    ·exact I'.pin p (qj _ (qj _ z))
  show wpAny (model X.prog X.w) X.A.in1.in1 _ _ E { s3 with heap:=s3.heap.push (seqObj "list" #[] 0),toks:=s3.toks };generalize ({ s3 with heap:=s3.heap.push (seqObj "list" #[] 0),toks:=s3.toks }:Shared)=s5 at I5⊢;unfold ksk_rest;refine wpAny_bind (wpAny_rule ?_)
  first
   | rw[List.forIn_toArray]
   | (rw[<-Array.forIn_toList];simp only[List.toList_toArray])
   | rw[<-Array.forIn_toList]
  have hr2:Room k X.A.in1.in1:=(hr.in1).in1;refine wpAny_bind (wpAny_mono (Zeq (E:=E) (R:=fun kvs H1=>∃lt,VC X kvs H1 lt/\∀l,H1 l=none->Q (.ref l) (Zm H1 l (.lst ((Yl lt xs.length).map fun i=>xs.getD i .non)))) F (fun e=>e.in1.in1) hr2 fpk (qQ hak) (fun x ks e s' D hz hx=>?_) xs jL [] [] 0 H s5 rv .nil (by simp only[yt];omega) I5 q) (fun _ s' hd=>?_) fun _ _ x=>x)
  ·refine wpAny_bind (wpAny_attempt (wpAny_mono hx (fun u' s'' hk=>?_) fun _ _ hF=>hF.elim))
   obtain⟨hk1,hk2⟩:=hk
   try dsimp only
   refine wpAny_bind (listUpdate_at hk1 rfl ?_ (by rw[qC,sizeLine_eq];omega) (qZ (qbU (Array.size_push ..)) (by rw[qC,sizeLine_eq];omega)));exact wpAny_pure ⟨rfl,u',hk2⟩
  ·obtain⟨kvs,ks,e',H',I',hv,hl,lt,hok,hq⟩:=hd
   have hl:ks.length=jL.length:=by simpa using hl
   have pk:=I'.pin (kS,seqObj "list" (qU ks) e') (qj _ (qj _ (.head _)));have pa:=I'.pin (a,seqObj "list" #[] e1) (qj _ (qj _ (.tail _ (.head _))))
   try dsimp only
   refine wpAny_bind (listItems_at pk.1 rfl ?_);refine ZlW hok.ord pk.1 pa.1 (qQ hak) hl (by omega) (Zj1 hok I' hv) ⟨_,rfl,?_⟩;refine wpAny_pure ⟨_,rfl,?_⟩;have hol:((Yl lt jL.length).map fun i=>jL.getD i ze).length=jL.length:=by rw[qd,(Jn hok.ord).length_eq,qJ]
   -- the store of keys is emptied
   obtain⟨c1,hc1⟩:∃c1,(s'.heap.update kS (zl fun _=>(#[]:Array Value))).get? kS=some (seqObj "list" #[] c1):=⟨_,get?_update_seq pk.1 fun _=>#[]⟩;have I6:=Us (o':=seqObj "list" #[] c1) (h':=s'.heap.update kS (zl fun _=>(#[]:Array Value))) (t':=s'.toks) I' (fun c w hc e=>by rw[zG _ _ _ _ hc];exact e) hc1 VY fpk (fun p hp=>by rw[qN.mp hp];exact qQ hak);have I7:Inv X (jJ++(a,seqObj "list" #[] e1) :: []) σ H' { s' with heap:=s'.heap.update kS (zl fun _=>(#[]:Array Value)),toks:=s'.toks }:=I6.pins_of fun p hp=>I6.pin p (qj _ ((qP.mp hp).elim (fun z=>zh _ z) fun z=>qj _ (.tail _ z)));have pa2:=I7.pin (a,seqObj "list" #[] e1) (qj _ (qj _ (.head _)));obtain⟨c2,hc2⟩:∃c2,(Bf s'.heap kS a ((Yl lt jL.length).map fun i=>jL.getD i ze)).get? a=some (seqObj "list" (qU ((Yl lt jL.length).map fun i=>jL.getD i ze)) c2):=⟨_,get?_update_seq pa2.1 _⟩;have I8:=Us (o':=seqObj "list" (qU ((Yl lt jL.length).map fun i=>jL.getD i ze)) c2) (h':=Bf s'.heap kS a ((Yl lt jL.length).map fun i=>jL.getD i ze)) (t':=s'.toks) I7 (fun c w hc e=>by unfold Bf;rw[zG _ _ _ _ hc];exact e) hc2 VY fpa (fun p hp=>by simp at hp);have hout:Zw ((Yl lt xs.length).map fun i=>xs.getD i .non) ((Yl lt jL.length).map fun i=>jL.getD i ze):=by
    rw[hil];exact Zes rv fun i hi=>qB.mp ((Jn hok.ord).mem_iff.mp hi)
   refine⟨.ref a,_,ZpX (u:=.lst ((Yl lt xs.length).map fun i=>xs.getD i .non)) I8 fpa hxa ⟨?_,_,c2,hout,hc2⟩,rfl,hq a pa2.2.1⟩;rw[hout.length,hol,sizeLine_eq];omega
end
end TF
namespace TF
open L2 TS
section
variable {X:Cx}
noncomputable def ZlX (X:Cx)(id:String)(nm:Str)(r:St->List V->List V->Hp->VK->Prop):Prop:=
 ∀(jJ:List (Addr×Obj)) (s:Shared) (σ:St) (H:Hp) (xs ys:List V) (us vs:List Value) (Q:VK),Inv X jJ σ H s->Zw xs us->Zw ys vs->r σ xs ys H Q->wpAny (model X.prog X.w) X.A (call (.builtin id) us ([nm].zip vs)) (EP X jJ σ Q) X.xe s
theorem Zj2 {id:String}{x nm:Str}{p pos kpos:Pos}{e d:Expr}{ta tb:TE}{r:St->List V->List V->Hp->VK->Prop}(hc:ZlX X id nm r)(hg:Gl X x)(hm:X.mg x=none)(hv:bootBuiltins x=some (.builtin id))(ha:PE X e ta)(hb:PE X d tb)
  (hn:x≠"__name__":=by decide) (hdb:(x==("__debug__" : Str))=false:=by decide) (he:starEach [e] X.env=(false,eval e X.env)::starEach [] X.env:=by rfl)
  (hall:(backToKw pos (keywordEach [⟨some nm,d,kpos⟩] X.env)).all (·.1.isSome)=true:=by rfl) (hks:(backToKw pos (keywordEach [⟨some nm,d,kpos⟩] X.env)).filterMap (·.1)=[nm]:=by rfl)
  (hpl:((backTo pos (starEach [e] X.env)).any (·.1)||(backToKw pos (keywordEach [⟨some nm,d,kpos⟩] X.env)).any (·.1.isNone))=false:=by rfl) :
  PE X (.Call (.Name x p) [e] [⟨some nm,d,kpos⟩] pos) (fun σ H Q=>Xi ta Xx σ H fun xs H1=>Xi tb Xx σ H1 fun ys H2=>r σ xs ys H2 Q):=by
 intro jJ s σ H Q I h;refine wpAny_Call_Name_kw (V5 I hg hm hv ?_ hn hdb);refine qaO (P:=fun _=>True) hpl (fun h _=>⟨qak,.inr (.inl rfl),ZaA⟩) (evalArgs_kw2 hall (ZE ((YS ha Y8 he) pos jJ s σ H _ I h) fun us s1 ⟨vs,H1,I1,rv,q1⟩=>?_) he);refine ZE ((Zcw hb Zg1) pos jJ s1 σ H1 _ I1 q1) fun ws s2 ⟨zs,H2,I2,rz,q2⟩=>?_;refine⟨trivial,?_⟩;rw[hks];exact hc jJ s2 σ H2 vs zs us ws Q I2 rv rz q2
noncomputable def Zfg (X:Cx)(H:Hp)(p:Addr)(ns:List Int):Prop:=
 ZH X.K H p (ns.map V.int)∨ZU X.K H p (ns.map V.int)∨∃j:Int,H p=some (.rng 0 j)/\-(2 ^ 62)<=j/\j<=2 ^ 24/\ns=(qp j.toNat).map fun(i:Nat)=>(i:Int)
theorem ZhK {jJ:List (Addr×Obj)}{σ:St}{H:Hp}{s:Shared}{p:Addr}{ns:List Int}{E:Value->Shared->Prop}(hc:X.calm=true)(I:Inv X jJ σ H s)(h:Zfg X H p ns)(Q1:List Value->Shared->Prop)
  (k:∀(h':Heap) (tk:Nat) (jL:List Value),(∀b o,s.heap.get? b=some o->h'.get? b=some o)->Zw (ns.map V.int) jL->Q1 jL { s with heap:=h',toks:=tk }):wpAny (model X.prog X.w) X.A.in1 (collect (.ref p)) Q1 E s:=by
 have keep:∀jL:List Value,∀b o,s.heap.get? b=some o->((s.heap.push (seqObj "list" #[] 0)).update s.heap.objs.size (zl (· ++ jL.toArray))).get? b=some o:=fun jL b o e=>by
  rw[zG _ _ _ _ (qQ (qH e))];exact qq _ e
 rcases h with h | h | ⟨j,hr,h1,h2,rfl⟩
 ·obtain⟨jL,rv,pl,hz⟩:=I.list h
  have hl:=rv.length;exact collect_list pl.isList (k _ s.toks jL (keep jL) rv) (by rw[<-hl];exact hz)
 ·obtain⟨jL,rv,pl,hz⟩:=I.tuple h
  have hl:=rv.length;exact ZlC (show s.heap.IsTuple p jL.toArray from pl) (k _ s.toks jL (keep jL) rv) (by rw[<-hl];exact hz)
 ·obtain⟨t,u',v',hro⟩:=(show YC X.prog X.w H s.heap p (.rng 0 j) from I.hok p _ hr)
  have hn:yI 0 j 1=((j.toNat:Nat):Int):=by rw[rangeSize_one];split <;> omega
  refine Zgj (A:=X.A.in1) (I.ok.hd hc) (show IsRange s.heap p 0 j 1 t u' v' from hro) (small_one (by omega) (by omega) h1 (by omega)) hn (by omega) fun h' tk jR kp hi=>?_;obtain⟨sz,hit⟩:=hi;have rv:=Zbm jR.toList 0 fun i v hv=>by
   obtain⟨t,e⟩:=hit i v (by simpa using hv);exact⟨t,by rw[e];simp⟩
  have el:jR.toList.length=j.toNat:=by simpa using sz
  rw[el] at rv;refine k h' tk jR.toList kp ?_;rw[qG];have e:(qp j.toNat).map (V.int∘fun(i:Nat)=>(i:Int))=(qp j.toNat).map fun(i:Nat)=>V.int (0+i):=zt fun i _=>by show V.int _=V.int _;rw[Int.zero_add]
  rw[e];exact rv
theorem Zfh (hc:X.calm=true):ZlX X "sorted" "key" (fun σ xs ys H Q=>∃(p f:Addr) (ns:List Int) (sp:Heap->Sp) (k:Nat),xs=[.ref p]/\ys=[.ref f]/\Zfg X H p ns/\KeyFn X σ k f sp/\Room (k+2) X.A/\ns.length<64/\
  U7 X σ sp (ns.map V.int) H fun kvs H1=>∃lt,VC X kvs H1 lt/\∀l,H1 l=none->Q (.ref l) (Zm H1 l (.lst ((Yl lt ns.length).map fun i=>V.int (ns.getD i 0))))):=by
 intro jJ s σ H xs ys us vs Q I r r2 h;obtain⟨p,f,ns,sp,k,rfl,rfl,hp,F,hr,h64,q⟩:=h;obtain⟨u,rfl,ru⟩:=XU r
 cases ru
 obtain⟨v,rfl,rv⟩:=XU r2
 cases rv
 refine ZhJ (xs:=ns.map V.int) F hr I (by rw[qd];exact h64) (fun Q1 k=>ZhK hc I hp Q1 k) ?_;have ek:(fun kvs H1=>∃lt,VC X kvs H1 lt/\∀l,H1 l=none->Q (.ref l) (Zm H1 l (.lst ((Yl lt ns.length).map fun i=>V.int (ns.getD i 0)))))=fun kvs H1=>∃lt,VC X kvs H1 lt/\∀l,H1 l=none->Q (.ref l) (Zm H1 l (.lst ((Yl lt (ns.map V.int).length).map fun i=>(ns.map V.int).getD i .non))):=by
  funext kvs H1;refine propext (exists_congr fun lt=>and_congr_right fun ok=>?_);have e:(Yl lt (ns.map V.int).length).map (fun i=>(ns.map V.int).getD i .non)=(Yl lt ns.length).map fun i=>V.int (ns.getD i 0):=by
   rw[qd];refine zt fun i hi=>?_;have hi:=qB.mp ((Jn ok.ord).mem_iff.mp hi);rw[qf,qD,qf,qm hi];rfl
  rw[e]
 rw[ek] at q;exact q
end
noncomputable def BS (F:List D->M D)(cds:List D):List Int->M (List D)
 | []=>ZB []
 | n::r=>Zn (F (.int n::cds)) fun k=>Zn (BS F cds r) fun ks=>ZB (k::ks)
noncomputable def B5 (ks:List D):Option (Nat->Nat->Bool):=match ZR ks with
 | some ns=>some fun i j=>decide (ns.getD i 0<ns.getD j 0)
 | none=>match JJ ks with
  | some kt=>if kt.all (fun ns=>!ns.isEmpty)=true then some fun i j=>XA (kt.getD i []) (kt.getD j []) else none
  | none=>none
noncomputable def ZbC (F:List D->M D)(cds:List D)(ns:List Int):M D:=if (decide (ns.length<64)&&YF cds)=true then Zn (BS F cds ns) fun ks=>match B5 ks with
 | some lt=>ZB (.lst ((Yl lt ns.length).map fun i=>.int (ns.getD i 0)))
 | none=>ZG else ZG
section
variable {X:Cx}{G:Gh}{σ:St}
theorem Zgp {cvs:List V}{cds:List D}{F:List D->M D}:∀(ns:List Int) (Hf H:Hp) (s s':Pn) (ks:List D) (R:List V->Hp->Prop),Zz G Hf H->Zi G Hf cds cvs->G.st s H->BS F cds ns s=some (ks,s')->
  (∀kvs jT H1,Gr G Hf H jT H1->G.st s' H1->Zi G jT ks kvs->R kvs H1)->U7 X σ (fun _=>UB 1 G cvs F) (ns.map V.int) H R
 | [],Hf,H,s,s',ks,R,e,rc,st,h,k=>by
  obtain⟨rfl,rfl⟩:=ZL h;exact k [] Hf H (.refl e) st (Zi.nil_iff.mpr rfl)
 | n::r,Hf,H,s,s',ks,R,e,rc,st,h,k=>by
  obtain⟨d,s1,a1,a2⟩:=Zy h;obtain⟨ks',s2,a3,a4⟩:=Zy a2;obtain⟨rfl,rfl⟩:=ZL a4;intro base' cs;refine⟨Hf,[.int n],cds,s,d,s1,rfl,e,.one (ja.mpr rfl),rc,st,a1,fun v jT H1 g1 j6 rv=>?_⟩;exact Zgp r jT H1 s1 _ ks' _ g1.fh (rc.ext g1.ff) j6 a3 fun kvs j7 H2 g2 jX rk=>k (v::kvs) j7 H2 (g1.trans g2) jX (.cons (rv.ext g2.ff) rk)
theorem Zj3 {ks:List D}{kvs:List V}{lt:Nat->Nat->Bool}{Hf H:Hp}(e:Zz G Hf H)(r:Zi G Hf ks kvs)(h:B5 ks=some lt):VC X kvs H lt:=by
 unfold B5 at h
 cases hi:ZR ks with
 | some ns=>
  rw[hi] at h
  cases h
  rw[WR hi] at r;exact .inl ⟨ns,jn r,rfl⟩
 | none=>
  rw[hi] at h
  cases ht:JJ ks with
  | none=>rw[ht] at h;cases h
  | some kt=>
   rw[ht] at h;have h:(if kt.all (fun ns=>!ns.isEmpty)=true then some fun i j=>XA (kt.getD i []) (kt.getD j []) else none)=some lt:=h;by_cases hn:kt.all (fun ns=>!ns.isEmpty)=true
   ·rw[if_pos hn] at h
    cases h
    rw[Zem ht] at r;refine .inr ⟨kt,fun v ns=>Zk G Hf (BY ns) v,fun v ns rv=>?_,Zen r,fun ns hm z=>?_,rfl⟩
    ·obtain⟨a,vs,rfl,na,ha,rl⟩:=jb.mp rv
     rw[jn rl] at ha;exact⟨a,rfl,ZU.of (e _ _ na ha)⟩
    ·have:=zd.mp hn ns hm
     rw[z] at this;cases this
   ·rw[if_neg hn] at h;cases h
end
section
variable {X:Cx}{G:Gh}{P c:Addr}{q:Str}{kl:Nat}{frb:Bool}{e1:Expr}{f1:Zb->M D}{r1:Bool}{params:Arguments}{scope:Scope}{lpos ppos pos kpos:Pos}{XN N ps:List Str}{NS:List (Str×NameKind)}{cix:List Nat}{body:Expr}{fe:Zb->M D}
theorem ZdU {cds:List D}{ns:List Int}{σ:St}{jT H1:Hp}{ρ:Zb}{s s':Pn}{d:D}{Q:VK}{p0:Addr}(hfn:∀x,X.fn x=true)(hr:Room (kl+3) X.A)(M:Mk0 X c P)(TG:TabG P q G)(S:CloScope N ps scope)(B:CapS X XN NS N ps cix scope)(hps:ps.length=1)
  (hbind:∀(cl:List (Str×Addr)) (pm cd ct:Value) (us:List Value),us.length=ps.length->bindArgs (qW "<lambda>" q params body scope cl pm cd ct) ⟨us,[]⟩=pure (ps.zip us))
  (hb:∀(base:Heap) (f c':Addr) (cl:List (Str×Addr)) (G:Gh) (A:Around) (outer:List Env) (s:Shared) (H:Hp) (E:XK),Room kl (A.deeper (zY q scope s.heap.objs.size f (.ref c') cl))->PD (UA ZQ X.prog X.w X.K X.mg base N q scope f (.ref c') cl A outer s H E).nox G frb body fe)
  (x1:Zz G jT H1) (x2:YM G jT σ ρ) (j6:G.st s H1) (hcap:Vk ρ cix=some cds) (hk:ZbC (Xd N.length fe) cds ns s=some (d,s'))
  (hit:∀H2,Zz G H1 H2->(∀b u,H1 b=some u->(∀t,u≠.tbl t)->H2 b=some u)->Zfg X H2 p0 ns)
  (k:∀v Hf3 H3,Gr G jT H1 Hf3 H3->G.st s' H3->Zk G Hf3 d v->Q v H3) :
  Xi (fun σ H Q=>Zn8 P q lpos (fun fd c'=>∃cl pm ctv,CloOf X scope cl/\fd=qW "<lambda>" q params body scope cl pm (.ref c') ctv) H fun p _ _ H'=>Q (.ref p) H') Xx σ H1 fun ys H2=>
   ∃(p f:Addr) (ns:List Int) (sp:Heap->Sp) (k:Nat),[V.ref p0]=[.ref p]/\ys=[.ref f]/\Zfg X H2 p ns/\KeyFn X σ k f sp/\Room (k+2) X.A/\ns.length<64/\
    U7 X σ sp (ns.map V.int) H2 fun kvs H1=>∃lt,VC X kvs H1 lt/\∀l,H1 l=none->Q (.ref l) (Zm H1 l (.lst ((Yl lt ns.length).map fun i=>V.int (ns.getD i 0)))):=by
 unfold ZbC at hk;obtain⟨hn,a5⟩:=Y7 hk;obtain⟨hn0,hn1⟩:=yf.mp hn;have h64:=of_decide_eq_true hn0;obtain⟨ks,s1,a6,a7⟩:=Zy a5;obtain⟨tp,hP,htr,hhit⟩:=TG.get _ H1 j6;refine⟨tp,hP,htr,fun cv h=>let ⟨c',z1,z2,_⟩:=hhit lpos cv h;⟨c',z1,z2⟩,fun p c' fd Hm ⟨cl,pm,ctv,co,efd⟩ sl hp=>?_⟩;subst efd;obtain⟨stm,hc',ex⟩:=ZeT TG j6 hP sl;have gr:=ZeU (o:=.ext (fnφ p (qW "<lambda>" q params body scope cl pm (.ref c') ctv))) x1 ex hp;have hcp:c'≠p:=fun z=>by rw[z,hp] at hc';cases hc'
 obtain⟨cvs,l1,l2,l3⟩:=Zbu x2 hcap;have jX:(Xz G 0 p c' (qW "<lambda>" q params body scope cl pm (.ref c') ctv) q cvs).st s (Zm Hm p (.ext (fnφ p (qW "<lambda>" q params body scope cl pm (.ref c') ctv)))):=⟨Gh.grow stm hp,ZO,by rw[Zp hcp];exact hc'⟩;refine⟨p0,p,ns,fun _=>UB 1 (Xz G 0 p c' (qW "<lambda>" q params body scope cl pm (.ref c') ctv) q cvs) cvs (Xd N.length fe),kl+1,rfl,rfl,?_,⟨hfn,_,ps,.all (hbind cl pm (.ref c') ctv),fun base' cs=>?_⟩,hr,h64,?_⟩
 ·refine hit _ gr.hh fun b u e nt=>?_
  have e2:Hm b=some u:=by
   rcases sl with⟨rfl,h1,h2⟩ | ⟨h1,h2,h3,rfl⟩
   ·exact e
   ·have hbP:b≠P:=fun z=>by
     rw[z,hP] at e;cases e;exact nt _ rfl
    rw[Zp (Z6 e h2),Zp hbP];exact e
  rw[Zp (Z6 e2 hp)];exact e2
 ·have:=fnKE S (B.cloAt cs co l1 l3) (fun s H st=>st.2) (G:=Xz G 0 p c' (qW "<lambda>" q params body scope cl pm (.ref c') ctv) q cvs) fun A outer s H E hr=>hb base' p c' cl _ A outer s H E hr
  rw[hps] at this;exact this
 ·refine Zgp ns jT _ s s1 ks _ (Zz.re (G:=G) rfl gr.fh) (toCL hn1 l2) jX a6 fun kvs j7 H2 g2 st3 rk=>?_
  cases hlt:B5 ks with
  | none=>rw[hlt] at a7;cases a7
  | some lt=>
   rw[hlt] at a7;obtain⟨rfl,rfl⟩:=ZL a7;refine⟨lt,Zj3 g2.fh rk hlt,fun l hl=>?_⟩;have g2':Gr G jT _ j7 H2:=grC g2;have nf:=Gh.nofp st3.1 hl;have gB:=Gr.new (G:=G) (o:=.lst ((Yl lt ns.length).map fun i=>V.int (ns.getD i 0))) g2'.fh hl nf;have gg:=(gr.trans g2').trans gB;have hrl:Zi G (Zm j7 l (.lst ((Yl lt ns.length).map fun i=>V.int (ns.getD i 0)))) ((Yl lt ns.length).map fun i=>D.int (ns.getD i 0)) ((Yl lt ns.length).map fun i=>V.int (ns.getD i 0)):=by
    have:=Js (G:=G) (Hf:=Zm j7 l (.lst ((Yl lt ns.length).map fun i=>V.int (ns.getD i 0)))) ((Yl lt ns.length).map fun i=>ns.getD i 0);rw[qG,qG] at this;exact this
   exact k (.ref l) _ _ gg (Gh.grow st3.1 hl) (jc.mpr ⟨l,_,rfl,nf,ZO,hrl⟩)
noncomputable def Bo (F:List D->M D)(cix:List Nat)(f:Zb->M D):Zb->M D:=fun ρ=>Zn (f ρ) fun d=>Zn (YR (Vk ρ cix)) fun cds=>match d with
 | .int j=>if -(2 ^ 62)<=j/\j<=2 ^ 24 then ZbC F cds ((qp j.toNat).map fun(i:Nat)=>(i:Int)) else ZG
 | _=>ZG
theorem Zgq {p2 pos2:Pos}(hc:X.calm=true)(hg:Gl X "sorted")(hm:X.mg "sorted" = none)(hv:bootBuiltins "sorted" = some (.builtin "sorted"))(hgr:Gl X "range")(hmr:X.mg "range" = none)(M:Mk0 X c P)(TG:TabG P q G)(hfn:∀x,X.fn x=true)(hr:Room (kl+3) X.A)(h1:PD X G r1 e1 f1)
  (hq:X.env.qual ++ "<lambda>" = q) (S:CloScope N ps scope) (B:CapS X XN NS N ps cix scope) (hps:ps.length=1)
  (hbind:∀(cl:List (Str×Addr)) (pm cd ct:Value) (us:List Value),us.length=ps.length->bindArgs (qW "<lambda>" q params body scope cl pm cd ct) ⟨us,[]⟩=pure (ps.zip us))
  (hb:∀(base:Heap) (f c':Addr) (cl:List (Str×Addr)) (G:Gh) (A:Around) (outer:List Env) (s:Shared) (H:Hp) (E:XK),Room kl (A.deeper (zY q scope s.heap.objs.size f (.ref c') cl))->PD (UA ZQ X.prog X.w X.K X.mg base N q scope f (.ref c') cl A outer s H E).nox G frb body fe)
  (hdef:defaultsOf params X.env=([],[]):=by rfl)
  (hs1:starEach [e1] X.env=[(false,eval e1 X.env)]:=by rfl)
  (he:starEach [.Call (.Name "range" p2) [e1] [] pos2] X.env=(false,eval (.Call (.Name "range" p2) [e1] [] pos2) X.env)::starEach [] X.env:=by rfl)
  (hall:(backToKw pos (keywordEach [⟨some "key",.Lambda params body scope lpos,kpos⟩] X.env)).all (·.1.isSome)=true:=by rfl) (hks:(backToKw pos (keywordEach [⟨some "key",.Lambda params body scope lpos,kpos⟩] X.env)).filterMap (·.1)=[("key" : Str)]:=by rfl)
  (hpl:((backTo pos (starEach [.Call (.Name "range" p2) [e1] [] pos2] X.env)).any (·.1)||(backToKw pos (keywordEach [⟨some "key",.Lambda params body scope lpos,kpos⟩] X.env)).any (·.1.isNone))=false:=by rfl) :
  PD X G false (.Call (.Name "sorted" ppos) [.Call (.Name "range" p2) [e1] [] pos2] [⟨some "key",.Lambda params body scope lpos,kpos⟩] pos) (Bo (Xd N.length fe) cix f1):=by
 obtain⟨t1,p1,q1⟩:=h1.drop;refine⟨_,Zj2 (Zfh hc) hg hm hv (ZbW hgr hmr (YS p1 Y8 (by rw[hs1];rfl)) hs1) (Zhm M hq B.hfree hdef) (by decide) (by decide) he hall hks hpl,fun σ Hf H ρ s d s' Q x1 x2 x3 x4 k=>?_⟩;obtain⟨d1,s1,a1,a2⟩:=Zy x4;obtain⟨cds,s2,b3,a4⟩:=Zy a2;obtain⟨a3,rfl⟩:=Wf b3
 cases d1 with
 | int j=>
  obtain⟨cj,a5⟩:=Y7 a4;refine q1 σ Hf H ρ s _ _ _ x1 x2 x3 a1 fun v1 jT H1 g1 j6 rv1=>?_;rw[ja.mp rv1];refine⟨j,rfl,fun p hp=>?_⟩;have jX:G.st s2 (Zm H1 p (.rng 0 j)):=Gh.grow j6 hp;have fp:jT p=none:=by
   cases q:jT p with
   | none=>rfl
   | some o=>rw[g1.fh p o (Gh.nofp j6 hp) q] at hp;cases hp
  have gA:Gr G jT H1 jT (Zm H1 p (.rng 0 j)):=⟨fun b o n q=>by rw[Zp (Z6 q hp)];exact q,.refl _ _,fun b o n q=>by rw[Zp (Z6 q fp)];exact g1.fh b o n q,fun b n h1 h2=>h1⟩;refine ZdU hfn hr M TG S B hps hbind hb gA.fh (x2.ext g1.ff) jX a3 a5 (fun H2 _ keep=>.inr (.inr ⟨j,keep _ _ ZO (fun t z=>by cases z),cj.1,cj.2,rfl⟩)) fun v Hf3 H3 g3 st3 r3=>k v Hf3 H3 ((g1.trans gA).trans g3) st3 r3 (fun z=>by cases z)
 | _=>cases a4
end
end TF
namespace TF
open L2 TS PySem.W
section
variable {X:Cx}{jJ:List (Addr×Obj)}{σ:St}{H:Hp}{s:Shared}
noncomputable def maxT (X:Cx)(σ:St)(sp:Heap->Sp)(l:Addr)(ns:List Int):List Int->Int->Int->Hp->VK->Prop
 | [],nb,_,H,Q=>ZH X.K H l (ns.map V.int)/\Q (.int nb) H
 | n::r,nb,kb,H,Q=>ZH X.K H l (ns.map V.int)/\∀base',Cells X σ base'->sp base' [.int n] H (fun k H1=>∃kn,k=.int kn/\maxT X σ sp l ns r (if kn > kb then n else nb) (if kn > kb then kn else kb) H1 Q) E0
noncomputable def ZiH (X:Cx)(σ:St)(sp:Heap->Sp)(l:Addr)(ns:List Int)(y:V)(H:Hp)(Q:VK):Prop:=match ns with
 | []=>ZH X.K H l []/\Q y H
 | n::r=>ZH X.K H l ((n::r).map V.int)/\∀base',Cells X σ base'->sp base' [.int n] H (fun k H1=>∃kn,k=.int kn/\maxT X σ sp l (n::r) r n kn H1 Q) E0
theorem ZiI {b:Addr}{o:Obj}{rest:List (Addr×Obj)}{h':Heap}{t':Nat}(I:Inv X (jJ++(b,o)::rest) σ H s)(k:∀c u,c≠b->s.heap.get? c=some u->h'.get? c=some u)(fp:WP X jJ b)
  (hr:∀p∈rest,p.1≠b):Inv X (jJ++rest) σ H { s with heap:=h',toks:=t' }:=by
 have pb2:=(I.pin (b,o) (qj _ (qj _ (.head _)))).2.1;have I1:Inv X (jJ++rest) σ H s:=I.pins_of fun p hp=>I.pin p (qj _ ((qP.mp hp).elim (fun z=>zh _ z) fun z=>qj _ (.tail _ z)));obtain⟨f1,f2,f3,f4,f5⟩:=fp;exact I1.turned (t':=t') k pb2 f1 f3 f4 (fun p hp=>by
  rcases qP.mp hp with z | z
  ·exact f5 p (zh _ z)
  ·rcases qP.mp z with z | z
   ·exact f5 p (qj _ z)
   ·exact hr p z)
theorem Jv {a b:Addr×Obj}(I:Inv X (jJ ++ [a,b]) σ H s):Inv X (jJ ++ [b,a]) σ H s:=I.pins_of fun p hp=>I.pin p (by
 simp only[qP,qu,yo,or_false] at hp⊢;rcases hp with z | z | z
 ·exact .inr (.inl z)
 ·exact .inr (.inr (.inr z))
 ·exact .inr (.inr (.inl z)))
theorem Zgr {jL:List Value}{ns:List Int}{j:Nat}{v:Value}{n:Int}{r:List Int}(rv:Zw (ns.map V.int) jL)(hv:jL.toArray[j]?=some v)(hd:ns.drop j=n::r):ZC (.int n) v:=by
 have hi:IntsAre jL ns:=Ve rv;have hn:ns[j]?=some n:=by
  have:=congrArg List.head? hd;rw[List.head?_drop] at this;exact this
 obtain⟨t,ht⟩:=hi.get j n hn;have:jL[j]?=some v:=by simpa using hv
 rw[this] at ht
 cases ht
 exact⟨t,rfl⟩
theorem Zj4 {ns r:List Int}{j:Nat}{n:Int}(hd:ns.drop j=n::r):ns.drop (j+1)=r/\j<ns.length:=by
 refine⟨?_,?_⟩
 ·rw[<-List.tail_drop,hd];rfl
 ·apply Classical.byContradiction
  intro z;rw[List.drop_eq_nil_of_le (by omega)] at hd
  cases hd
theorem Zcf {o:Obj}{xs:Array Value}(h:o.data=.fields xs):∀v,o.data≠.cell v:=fun v e=>by rw[h] at e;cases e
theorem ZcH {h:Heap}{l I:Addr}{xs:Array Value}{o:Obj}(hl:h.IsList l xs)(hi:h.get? I=some o)(hc:o.cls=.type "list_iterator"):l≠I:=fun z=>by
 obtain⟨ol,h1,h2,_⟩:=hl;rw[z,hi] at h1
 cases h1
 rw[hc] at h2;exact absurd h2 (by decide)
set_option maxHeartbeats 4000000 in
theorem Zgs {k:Nat}{f l I S:Addr}{sp:Heap->Sp}{A:Around}{R:Result->Shared->Prop}{kw:List (Str×Value)}{ns:List Int}{Q:VK}(hh:A.in1.handled=none)(F:KeyFn X σ k f sp)(hA:∀{base H s},Env0 X.prog X.w X.K X.mg base X.A X.stack s H->Env0 X.prog X.w X.K X.mg base A.in1 X.stack s H)(hr:Room k A.in1)(fpS:WP X jJ S)(fpI:WP X jJ I)(hSI:S≠I)
  (hR:∀v s',EP X jJ σ Q v s'->R (.ok (.ret v)) s') :
  ∀(r:List Int) (j:Nat) (H:Hp) (s:Shared) (nb kb:Int) (ub vb:Value) (c:Nat) (oI:Obj),ns.drop j=r->j<=ns.length->ZC (.int nb) ub->ZC (.int kb) vb->oI.cls=.type "list_iterator"->oI.data=.fields #[.ref l,.int j 0]->
   Inv X (jJ ++ [(S,seqObj "list" #[ub,vb] c),(I,oI)]) σ H s->maxT X σ sp l ns r nb kb H Q->codeAny (model X.prog X.w) A (.builtin "max.loop" ⟨[.ref I,.ref f,.ref S],kw⟩) R s:=by
 have hname:(toString "max" ++ toString ".loop" : String) = "max.loop":=by decide
 intro r
 induction r with
 | nil=>
  intro j H s nb kb ub vb c oI hd hjn r1 r2 hoc hod I0 q;obtain⟨hp,q⟩:=q;have pS:=I0.pin (S,seqObj "list" #[ub,vb] c) (qj _ (qj _ (.head _)));have pI:=I0.pin (I,oI) (qj _ (qj _ (.tail _ (.head _))));obtain⟨jL,rv,pl,hz⟩:=I0.list hp;have hl:=pl.isList;have jS:jL.length=ns.length:=by have:=rv.length;rw[qd] at this;omega
  have hj:ns.length<=j:=qaL.mp hd;have hlI:l≠I:=ZcH hl pI.1 hoc;have hsz:jL.toArray.size=j:=by rw[qC];omega
  have W:=qa6 (prog:=X.prog) (w:=X.w) (A:=A.in1) hh I l hlI jL.toArray;refine codeAny_builtin zS ?_;rw[zq qV _];show wpAny _ A.in1 (seqItems? (.ref S) >>= _) _ _ _;refine wpAny_bind (wpAny_seqItems pS.1 rfl ?_);show wpAny _ A.in1 (tryCatch (pyNext (.ref I)) _ >>= _) _ _ _;refine wpAny_bind (wpAny_tryCatch (W.done _ _ _ ⟨by rw[hsz];exact⟨oI,pI.1,hoc,hod⟩,hl⟩ fun h' tk' hk'=>?_));have I1:=ZiI (t':=tk') (Jv I0) (fun c u hc e=>hk' c u (by simpa using hc) e) fpI (fun p hp=>by rw[qN.mp hp];exact hSI);have pS1:=(I1.pin (S,seqObj "list" #[ub,vb] c) (qj _ (qj _ (.head _)))).1;show wpAny _ A.in1 (updateSeq S (fun _=>#[]) >>= _) _ _ _;refine wpAny_bind ?_;refine wpAny_updateSeq pS1 rfl (wpAny_bind (wpAny_letGo (wpAny_pure ?_)));have I2:=ZiI (h':=h'.update S (zl fun _=>(#[]:Array Value))) (t':=tk') I1 (fun c u hc e=>by show Heap.get? _ c=_;rw[zG _ _ _ _ hc];exact e) fpS (fun p hp=>by simp at hp);rw[zf] at I2;exact hR ub _ ⟨_,H,I2,r1,q⟩
 | cons n r ih=>
  intro j H s nb kb ub vb c oI hd hjn r1 r2 hoc hod I0 q;obtain⟨hp,q⟩:=q;have pS:=I0.pin (S,seqObj "list" #[ub,vb] c) (qj _ (qj _ (.head _)));have pI:=I0.pin (I,oI) (qj _ (qj _ (.tail _ (.head _))));obtain⟨jL,rv,pl,hz⟩:=I0.list hp;have hl:=pl.isList;have hlI:l≠I:=ZcH hl pI.1 hoc;have jS:jL.length=ns.length:=by have:=rv.length;rw[qd] at this;omega
  obtain⟨hd1,hjl⟩:=Zj4 hd;have hsz:j<jL.toArray.size:=by rw[qC];omega
  have W:=qa6 (prog:=X.prog) (w:=X.w) (A:=A.in1) hh I l hlI jL.toArray;refine codeAny_builtin zS ?_;rw[zq qV _];show wpAny _ A.in1 (seqItems? (.ref S) >>= _) _ _ _;refine wpAny_bind (wpAny_seqItems pS.1 rfl ?_);show wpAny _ A.in1 (tryCatch (pyNext (.ref I)) _ >>= _) _ _ _;refine wpAny_bind (wpAny_tryCatch (W.item j _ _ _ hsz ⟨⟨oI,pI.1,hoc,hod⟩,hl⟩ fun v h' tk' hP hst' hk'=>?_));obtain⟨oI',hoI',hoc',hod'⟩:=hst'.1;have rvv:=Zgr rv hP hd;have I1:=Jv (Us (o':=oI') (t':=tk') (Jv I0) (fun c u hc e=>hk' c u (by simpa using hc) e) hoI' (Zcf hod') fpI (fun p hp=>by rw[qN.mp hp];exact hSI));show wpAny _ A.in1 (tryCatch (holding [v] (call (.ref f) [v])) _ >>= _) _ _ _;refine wpAny_bind (wpAny_tryCatch (wpAny_holding (wpAny_mono (Zdi (E:=fun _ _=>False) F I1 hA hr rvv q) (fun x s2 he=>?_) fun _ _ hF=>hF.elim)));obtain⟨xv,H2,I2,rx,kn,rfl,q2⟩:=he;obtain⟨t2,rfl⟩:=rx;obtain⟨tb,rfl⟩:=r2;have pS2:=(I2.pin (S,seqObj "list" #[ub,.int kb tb] c) (qj _ (qj _ (.head _)))).1;show wpAny _ A.in1 (tryCatch (holding [v,.int kn t2] (richCompare .Gt (.int kn t2) (.int kb tb) >>= _)) _ >>= _) _ _ _;refine wpAny_bind (wpAny_tryCatch (wpAny_holding (wpAny_bind (CmpOf.ints_gt (prog:=X.prog) (w:=X.w) (A:=A.in1) (P:=fun i v=>∃t,v=.int ([kb,kn].getD i 0) t) (fun i=>[kb,kn].getD i 0) (fun i v h=>h) 1 0 _ _ _ _ _ ⟨t2,rfl⟩ ⟨tb,rfl⟩ ?_))));refine wpAny_bind (wpAny_holding (wpAny_truthy_bool ?_));refine wpAny_bind (wpAny_letGo (wpAny_pure ?_));show wpAny _ A.in1 (if decide (kn > kb)=true then _ else _) _ _ _;by_cases hb:kn > kb
  ·rw[if_pos hb,if_pos hb] at q2
   rw[decide_eq_true hb,if_pos rfl];refine wpAny_bind ?_;refine wpAny_updateSeq pS2 rfl (wpAny_bind (wpAny_letGo ?_));rw[hname];obtain⟨c2,hc2⟩:∃c2,(s2.heap.update S (zl fun _=>#[v,.int kn t2])).get? S=some (seqObj "list" #[v,.int kn t2] c2):=⟨_,get?_update_seq pS2 fun _=>#[v,.int kn t2]⟩;have I3:=Us (o':=seqObj "list" #[v,.int kn t2] c2) (h':=s2.heap.update S (zl fun _=>#[v,.int kn t2])) (t':=s2.toks) I2 (fun c u hc e=>by rw[zG _ _ _ _ hc];exact e) hc2 VY fpS (fun p hp=>by rw[qN.mp hp];exact hSI.symm);exact wpAny_pure ⟨plainId_quiet qV _,ih (j+1) H2 _ n kn v _ c2 oI' hd1 (by omega) rvv ⟨t2,rfl⟩ hoc' hod' I3 q2⟩
  ·rw[if_neg hb,if_neg hb] at q2
   rw[decide_eq_false hb,if_neg (by decide)];refine wpAny_bind (wpAny_letGo ?_);rw[hname];exact wpAny_pure ⟨plainId_quiet qV _,ih (j+1) H2 _ nb kb ub _ c oI' hd1 (by omega) r1 ⟨tb,rfl⟩ hoc' hod' I2 q2⟩
theorem ZhL (x f d:Value):argsOk "max" ⟨[x],[("key",f),("default",d)]⟩:=by unfold argsOk;kernel_rfl
set_option maxHeartbeats 4000000 in
theorem Zfi {k:Nat}{f l I S:Addr}{sp:Heap->Sp}{A:Around}{R:Result->Shared->Prop}{d:Value}{y:V}{ns:List Int}{Q:VK}{c:Nat}{oI:Obj}(hh:A.in1.handled=none)(F:KeyFn X σ k f sp)(hA:∀{base H s},Env0 X.prog X.w X.K X.mg base X.A X.stack s H->Env0 X.prog X.w X.K X.mg base A.in1 X.stack s H)(hr:Room k A.in1)(fpS:WP X jJ S)(fpI:WP X jJ I)(hSI:S≠I)
  (ry:ZC y d) (hR:∀v s',EP X jJ σ Q v s'->R (.ok (.ret v)) s') (hoc:oI.cls=.type "list_iterator") (hod:oI.data=.fields #[.ref l,.int 0 0])
  (I0:Inv X (jJ ++ [(S,seqObj "list" #[] c),(I,oI)]) σ H s) (q:ZiH X σ sp l ns y H Q):codeAny (model X.prog X.w) A (.builtin "max.loop" ⟨[.ref I,.ref f,.ref S],[("default",d)]⟩) R s:=by
 have hname:(toString "max" ++ toString ".loop" : String) = "max.loop":=by decide
 have pS:=I0.pin (S,seqObj "list" #[] c) (qj _ (qj _ (.head _)));have pI:=I0.pin (I,oI) (qj _ (qj _ (.tail _ (.head _))))
 cases ns with
 | nil=>
  obtain⟨hp,q⟩:=q;obtain⟨jL,rv,pl,hz⟩:=I0.list hp;have hl:=pl.isList;have hlI:l≠I:=ZcH hl pI.1 hoc;have hsz:jL.toArray.size=0:=by rw[qC];have:=rv.length;simp at this;omega
  have W:=qa6 (prog:=X.prog) (w:=X.w) (A:=A.in1) hh I l hlI jL.toArray;refine codeAny_builtin zS ?_;rw[zq qV _];show wpAny _ A.in1 (seqItems? (.ref S) >>= _) _ _ _;refine wpAny_bind (wpAny_seqItems pS.1 rfl ?_);show wpAny _ A.in1 (tryCatch (pyNext (.ref I)) _ >>= _) _ _ _;refine wpAny_bind (wpAny_tryCatch (W.done _ _ _ ⟨by rw[hsz];exact⟨oI,pI.1,hoc,hod⟩,hl⟩ fun h' tk' hk'=>?_));have I1:=ZiI (t':=tk') (Jv I0) (fun c u hc e=>hk' c u (by simpa using hc) e) fpI (fun p hp=>by rw[qN.mp hp];exact hSI);have I2:=ZiI (h':=h') (t':=tk') I1 (fun c u hc e=>e) fpS (fun p hp=>by simp at hp);rw[zf] at I2;show wpAny _ A.in1 (do rule _;ret d) _ _ _;refine wpAny_bind (wpAny_rule (wpAny_pure ?_));exact hR d _ ⟨_,H,I2,ry,q⟩
 | cons n r=>
  obtain⟨hp,q⟩:=q;obtain⟨jL,rv,pl,hz⟩:=I0.list hp;have hl:=pl.isList;have hlI:l≠I:=ZcH hl pI.1 hoc;have jS:jL.length=(n::r).length:=by have:=rv.length;rw[qd] at this;omega
  have hsz:0<jL.toArray.size:=by rw[qC,jS];simp
  have W:=qa6 (prog:=X.prog) (w:=X.w) (A:=A.in1) hh I l hlI jL.toArray;refine codeAny_builtin zS ?_;rw[zq qV _];show wpAny _ A.in1 (seqItems? (.ref S) >>= _) _ _ _;refine wpAny_bind (wpAny_seqItems pS.1 rfl ?_);show wpAny _ A.in1 (tryCatch (pyNext (.ref I)) _ >>= _) _ _ _;refine wpAny_bind (wpAny_tryCatch (W.item 0 _ _ _ hsz ⟨⟨oI,pI.1,hoc,hod⟩,hl⟩ fun v h' tk' hP hst' hk'=>?_));obtain⟨oI',hoI',hoc',hod'⟩:=hst'.1;have rvv:=Zgr (r:=r) rv hP rfl;have I1:=Jv (Us (o':=oI') (t':=tk') (Jv I0) (fun c u hc e=>hk' c u (by simpa using hc) e) hoI' (Zcf hod') fpI (fun p hp=>by rw[qN.mp hp];exact hSI));show wpAny _ A.in1 (tryCatch (holding [v] (call (.ref f) [v])) _ >>= _) _ _ _;refine wpAny_bind (wpAny_tryCatch (wpAny_holding (wpAny_mono (Zdi (E:=fun _ _=>False) F I1 hA hr rvv q) (fun x s2 he=>?_) fun _ _ hF=>hF.elim)));obtain⟨xv,H2,I2,rx,kn,rfl,q2⟩:=he;obtain⟨t2,rfl⟩:=rx;have pS2:=(I2.pin (S,seqObj "list" #[] c) (qj _ (qj _ (.head _)))).1;show wpAny _ A.in1 (updateSeq S (fun _=>#[v,.int kn t2]) >>= _) _ _ _;refine wpAny_bind ?_;refine wpAny_updateSeq pS2 rfl ?_;rw[hname];obtain⟨c2,hc2⟩:∃c2,(s2.heap.update S (zl fun _=>#[v,.int kn t2])).get? S=some (seqObj "list" #[v,.int kn t2] c2):=⟨_,get?_update_seq pS2 fun _=>#[v,.int kn t2]⟩;have I3:=Us (o':=seqObj "list" #[v,.int kn t2] c2) (h':=s2.heap.update S (zl fun _=>#[v,.int kn t2])) (t':=s2.toks) I2 (fun c u hc e=>by rw[zG _ _ _ _ hc];exact e) hc2 VY fpS (fun p hp=>by rw[qN.mp hp];exact hSI.symm);exact wpAny_pure ⟨plainId_quiet qV _,Zgs hh F hA hr fpS fpI hSI hR r 1 H2 _ n kn v _ c2 oI' rfl (by simp) rvv ⟨t2,rfl⟩ hoc' hod' I3 q2⟩
set_option maxHeartbeats 4000000 in
theorem Zny {k:Nat}{f l:Addr}{sp:Heap->Sp}{E:Value->Shared->Prop}{d:Value}{y:V}{ns:List Int}{Q:VK}(hc:X.calm=true)(F:KeyFn X σ k f sp)(hr:Room (k+1) X.A)(I:Inv X jJ σ H s)(ry:ZC y d)(hp:ZH X.K H l (ns.map V.int))(q:ZiH X σ sp l ns y H Q) :
  wpAny (model X.prog X.w) X.A (call (.builtin "max") [.ref l] [("key",.ref f),("default",d)]) (EP X jJ σ Q) E s:=by
 have hname:(toString "max" ++ toString ".loop" : String) = "max.loop":=by decide
 obtain⟨jL,rv,pl,hz⟩:=I.list hp;have hl:=pl.isList;refine kmk_tree PySem.F.kind_max PySem.F.plain_max PySem.F.entry_max (ZhL _ _ _) ?_;show wpAny _ X.A.in1 (yr "max" ["key","default"] 0 ⟨[],[("key",.ref f),("default",d)]⟩ >>= _) _ _ s;refine wpAny_bind (wpAny_of_eq (show yr "max" ["key","default"] 0 ⟨[],[("key",.ref f),("default",d)]⟩=pure [some (.ref f),some d] from rfl) ?_);refine wpAny_bind (wpAny_pure ?_);refine wpAny_bind (wpAny_pyIter_list hl ?_);refine wpAny_bind (wpAny_newList ?_ (zk _));rw[hname];have I1:Inv X jJ σ H { s with heap:=s.heap.push { cls:=.type "list_iterator",data:=.fields #[.ref l,.int 0 0] },toks:=s.toks }:=I.kept (t':=s.toks) (fun b o e=>qq _ e);have fpI:WP X jJ s.heap.objs.size:=Zfe I (qw _);have fpS:WP X jJ (s.heap.push { cls:=.type "list_iterator",data:=.fields #[.ref l,.int 0 0] }).objs.size:=Zfe I1 (qw _);have hS:(s.heap.push { cls:=.type "list_iterator",data:=.fields #[.ref l,.int 0 0] }).objs.size=s.heap.objs.size+1:=size_push' ..;have I2:=I1.kept (t':=s.toks) (h':=(s.heap.push { cls:=.type "list_iterator",data:=.fields #[.ref l,.int 0 0] }).push (seqObj "list" #[] 0)) (fun b o e=>qq _ e);have I3:Inv X (jJ ++ [((s.heap.push { cls:=.type "list_iterator",data:=.fields #[.ref l,.int 0 0] }).objs.size,seqObj "list" #[] 0),(s.heap.objs.size,{ cls:=.type "list_iterator",data:=.fields #[.ref l,.int 0 0] })]) σ H { s with heap:=(s.heap.push { cls:=.type "list_iterator",data:=.fields #[.ref l,.int 0 0] }).push (seqObj "list" #[] 0),toks:=s.toks }:=I2.pins_of fun p hp=>by
  rcases qP.mp hp with z | z
  ·exact I2.pin p (qj _ z)
  ·rcases qu.mp z with rfl | z
   ·exact⟨qI _ rfl,I1.hok.fresh (qw _),fpS.1,fpS.2.1,VY⟩
   ·rw[qN.mp z]
    exact⟨qq _ (qI _ rfl),I.hok.fresh (qw _),fpI.1,fpI.2.1,fun v e=>by cases e⟩
 refine wpAny_pure ⟨plainId_quiet qV _,Zfi (I.ok.hd hc) F (fun e=>e.in1) hr.in1 fpS fpI (by rw[hS];exact Nat.ne_of_gt (yR _)) ry (fun v s' h=>h) rfl rfl I3 q⟩
noncomputable def ZiJ (X:Cx)(id:String)(nm nm2:Str)(r:St->List V->List V->Hp->VK->Prop):Prop:=
 ∀(jJ:List (Addr×Obj)) (s:Shared) (σ:St) (H:Hp) (xs ys:List V) (us vs:List Value) (Q:VK),Inv X jJ σ H s->Zw xs us->Zw ys vs->r σ xs ys H Q->wpAny (model X.prog X.w) X.A (call (.builtin id) us ([nm,nm2].zip vs)) (EP X jJ σ Q) X.xe s
theorem ZhM {id:String}{x nm nm2:Str}{p pos kpos kpos2:Pos}{e d g:Expr}{ta tb tc:TE}{r:St->List V->List V->Hp->VK->Prop}(hc:ZiJ X id nm nm2 r)(hg:Gl X x)(hm:X.mg x=none)(hv:bootBuiltins x=some (.builtin id))(ha:PE X e ta)(hb:PE X d tb)(hd:PE X g tc)
  (hn:x≠"__name__":=by decide) (hdb:(x==("__debug__" : Str))=false:=by decide) (he:starEach [e] X.env=(false,eval e X.env)::starEach [] X.env:=by rfl)
  (hall:(backToKw pos (keywordEach [⟨some nm,d,kpos⟩,⟨some nm2,g,kpos2⟩] X.env)).all (·.1.isSome)=true:=by rfl) (hks:(backToKw pos (keywordEach [⟨some nm,d,kpos⟩,⟨some nm2,g,kpos2⟩] X.env)).filterMap (·.1)=[nm,nm2]:=by rfl)
  (hpl:((backTo pos (starEach [e] X.env)).any (·.1)||(backToKw pos (keywordEach [⟨some nm,d,kpos⟩,⟨some nm2,g,kpos2⟩] X.env)).any (·.1.isNone))=false:=by rfl) :
  PE X (.Call (.Name x p) [e] [⟨some nm,d,kpos⟩,⟨some nm2,g,kpos2⟩] pos) (fun σ H Q=>Xi ta Xx σ H fun xs H1=>Xi tb (Xi tc Xx) σ H1 fun ys H2=>r σ xs ys H2 Q):=by
 intro jJ s σ H Q I h;refine wpAny_Call_Name_kw (V5 I hg hm hv ?_ hn hdb);refine qaO (P:=fun _=>True) hpl (fun h _=>⟨qak,.inr (.inl rfl),ZaA⟩) (evalArgs_kw2 hall (ZE ((YS ha Y8 he) pos jJ s σ H _ I h) fun us s1 ⟨vs,H1,I1,rv,q1⟩=>?_) he);refine ZE ((Zcw hb (Zcw hd Zg1)) pos jJ s1 σ H1 _ I1 q1) fun ws s2 ⟨zs,H2,I2,rz,q2⟩=>?_;refine⟨trivial,?_⟩;rw[hks];exact hc jJ s2 σ H2 vs zs us ws Q I2 rv rz q2
theorem Zgt (hc:X.calm=true):ZiJ X "max" "key" "default" (fun σ xs ys H Q=>∃(p f:Addr) (y:V) (ns:List Int) (sp:Heap->Sp) (k:Nat),xs=[.ref p]/\ys=[.ref f,y]/\ZH X.K H p (ns.map V.int)/\KeyFn X σ k f sp/\Room (k+1) X.A/\ZiH X σ sp p ns y H Q):=by
 intro jJ s σ H xs ys us vs Q I r r2 h;obtain⟨p,f,y,ns,sp,k,rfl,rfl,hp,F,hr,q⟩:=h;obtain⟨u,rfl,ru⟩:=XU r
 cases ru
 obtain⟨v,w,rfl,rv,rw'⟩:=Zid r2
 cases rv
 exact Zny hc F hr I rw' hp q
end
noncomputable def UV (F:List D->M D)(cds:List D):List Int->Int->Int->M D
 | [],nb,_=>ZB (.int nb)
 | n::r,nb,kb=>Zn (F (.int n::cds)) fun k=>match k with | .int kn=>UV F cds r (if kn > kb then n else nb) (if kn > kb then kn else kb) | _=>ZG
noncomputable def Bz (F:List D->M D)(cds:List D)(ns:List Int)(c:Int):M D:=match ns with
 | []=>ZB (.int c)
 | n::r=>Zn (F (.int n::cds)) fun k=>match k with | .int kn=>UV F cds r n kn | _=>ZG
section
variable {X:Cx}{G:Gh}{σ:St}
theorem ZiK {cvs:List V}{cds:List D}{F:List D->M D}{l:Addr}{ns:List Int}(nl:¬G.fp l):∀(r:List Int) (nb kb:Int) (Hf H:Hp) (s s':Pn) (d:D) (Q:VK),Zz G Hf H->Zi G Hf cds cvs->G.st s H->Hf l=some (.lst (ns.map V.int))->UV F cds r nb kb s=some (d,s')->
  (∀n jT H1,d=.int n->Gr G Hf H jT H1->G.st s' H1->Q (.int n) H1)->maxT X σ (fun _=>UB 1 G cvs F) l ns r nb kb H Q
 | [],nb,kb,Hf,H,s,s',d,Q,e,rc,st,hl,h,k=>by
  obtain⟨rfl,rfl⟩:=ZL h;exact⟨ZH.of (e _ _ nl hl),k nb Hf H rfl (.refl e) st⟩
 | n::r,nb,kb,Hf,H,s,s',d,Q,e,rc,st,hl,h,k=>by
  obtain⟨d1,s1,a1,a2⟩:=Zy h;refine⟨ZH.of (e _ _ nl hl),fun base' cs=>⟨Hf,[.int n],cds,s,d1,s1,rfl,e,.one (ja.mpr rfl),rc,st,a1,fun v jT H1 g1 j6 rv=>?_⟩⟩
  cases d1 with
  | int kn=>
   refine⟨kn,ja.mp rv,?_⟩;exact ZiK nl r _ _ jT H1 s1 _ d Q g1.fh (rc.ext g1.ff) j6 (g1.ff _ _ nl hl) a2 fun n j7 H2 en g2 jX=>k n j7 H2 en (g1.trans g2) jX
  | _=>cases a2
theorem ZlY {cvs:List V}{cds:List D}{F:List D->M D}{l:Addr}{ns:List Int}{c:Int}{Hf H:Hp}{s s':Pn}{d:D}{Q:VK}(nl:¬G.fp l)(e:Zz G Hf H)(rc:Zi G Hf cds cvs)(st:G.st s H)(hl:Hf l=some (.lst (ns.map V.int)))(h:Bz F cds ns c s=some (d,s'))
  (k:∀n jT H1,d=.int n->Gr G Hf H jT H1->G.st s' H1->Q (.int n) H1):ZiH X σ (fun _=>UB 1 G cvs F) l ns (.int c) H Q:=by
 cases ns with
 | nil=>
  obtain⟨rfl,rfl⟩:=ZL h;exact⟨ZH.of (e _ _ nl hl),k c Hf H rfl (.refl e) st⟩
 | cons n r=>
  obtain⟨d1,s1,a1,a2⟩:=Zy (show Zn (F (.int n::cds)) (fun k=>match k with | .int kn=>UV F cds r n kn | _=>ZG) s=some (d,s') from h);refine⟨ZH.of (e _ _ nl hl),fun base' cs=>⟨Hf,[.int n],cds,s,d1,s1,rfl,e,.one (ja.mpr rfl),rc,st,a1,fun v jT H1 g1 j6 rv=>?_⟩⟩
  cases d1 with
  | int kn=>
   refine⟨kn,ja.mp rv,?_⟩;exact ZiK nl r _ _ jT H1 s1 _ d Q g1.fh (rc.ext g1.ff) j6 (g1.ff _ _ nl hl) a2 fun n j7 H2 en g2 jX=>k n j7 H2 en (g1.trans g2) jX
  | _=>cases a2
end
section
variable {X:Cx}{G:Gh}{P c:Addr}{q:Str}{kl:Nat}{frb:Bool}{e1:Expr}{f1:Zb->M D}{r1:Bool}{params:Arguments}{scope:Scope}{lpos ppos pos kpos:Pos}{XN N ps:List Str}{NS:List (Str×NameKind)}{cix:List Nat}{body:Expr}{fe:Zb->M D}
noncomputable def BA (F:List D->M D)(cix:List Nat)(i:Int)(f:Zb->M D):Zb->M D:=fun ρ=>Zn (f ρ) fun d=>Zn (YR (Vk ρ cix)) fun cds=>match d with
 | .lst ds=>(match ZR ds with | some ns=>if YF cds=true then Bz F cds ns i else ZG | none=>ZG)
 | _=>ZG
set_option maxHeartbeats 4000000 in
theorem Zj5 {i:Int}{j0:Nat}{ipos dpos:Pos}(hc:X.calm=true)(hg:Gl X "max")(hm:X.mg "max" = none)(hv:bootBuiltins "max" = some (.builtin "max"))(M:Mk0 X c P)(TG:TabG P q G)(hfn:∀x,X.fn x=true)(hr:Room (kl+2) X.A)(h1:PD X G r1 e1 f1)
  (hq:X.env.qual ++ "<lambda>" = q) (S:CloScope N ps scope) (B:CapS X XN NS N ps cix scope) (hps:ps.length=1)
  (hbind:∀(cl:List (Str×Addr)) (pm cd ct:Value) (us:List Value),us.length=ps.length->bindArgs (qW "<lambda>" q params body scope cl pm cd ct) ⟨us,[]⟩=pure (ps.zip us))
  (hb:∀(base:Heap) (f c':Addr) (cl:List (Str×Addr)) (G:Gh) (A:Around) (outer:List Env) (s:Shared) (H:Hp) (E:XK),Room kl (A.deeper (zY q scope s.heap.objs.size f (.ref c') cl))->PD (UA ZQ X.prog X.w X.K X.mg base N q scope f (.ref c') cl A outer s H E).nox G frb body fe)
  (hdef:defaultsOf params X.env=([],[]):=by rfl)
  (he:starEach [e1] X.env=(false,eval e1 X.env)::starEach [] X.env:=by rfl)
  (hall:(backToKw pos (keywordEach [⟨some "key",.Lambda params body scope lpos,kpos⟩,⟨some "default",.Constant (.int i) j0 ipos,dpos⟩] X.env)).all (·.1.isSome)=true:=by rfl) (hks:(backToKw pos (keywordEach [⟨some "key",.Lambda params body scope lpos,kpos⟩,⟨some "default",.Constant (.int i) j0 ipos,dpos⟩] X.env)).filterMap (·.1)=[("key" : Str),("default" : Str)]:=by rfl)
  (hpl:((backTo pos (starEach [e1] X.env)).any (·.1)||(backToKw pos (keywordEach [⟨some "key",.Lambda params body scope lpos,kpos⟩,⟨some "default",.Constant (.int i) j0 ipos,dpos⟩] X.env)).any (·.1.isNone))=false:=by rfl) :
  PD X G false (.Call (.Name "max" ppos) [e1] [⟨some "key",.Lambda params body scope lpos,kpos⟩,⟨some "default",.Constant (.int i) j0 ipos,dpos⟩] pos) (BA (Xd N.length fe) cix i f1):=by
 obtain⟨t1,p1,q1⟩:=h1.drop;refine⟨_,ZhM (Zgt hc) hg hm hv p1 (Zhm M hq B.hfree hdef) Y0 (by decide) (by decide) he hall hks hpl,fun σ Hf H ρ s d s' Q x1 x2 x3 x4 k=>?_⟩;obtain⟨d1,s1,a1,a2⟩:=Zy x4;obtain⟨cds,s2,b3,a4⟩:=Zy a2;obtain⟨a3,rfl⟩:=Wf b3;refine q1 σ Hf H ρ s d1 _ _ x1 x2 x3 a1 fun v1 jT H1 g1 j6 rv1=>?_
 cases d1 with
 | lst ds=>
  have a4:(match ZR ds with | some ns=>if YF cds=true then Bz (Xd N.length fe) cds ns i else ZG | none=>ZG) s2=some (d,s'):=a4
  cases hi:ZR ds with
  | none=>rw[hi] at a4;cases a4
  | some ns=>
   rw[hi] at a4;obtain⟨hn1,a5⟩:=Y7 a4;obtain⟨p0,vs,rfl,n0,h0,rl⟩:=jc.mp rv1;rw[WR hi] at rl;rw[jn rl] at h0;obtain⟨tp,hP,htr,hhit⟩:=TG.get _ H1 j6;refine⟨tp,hP,htr,fun cv h=>let ⟨c',z1,z2,_⟩:=hhit lpos cv h;⟨c',z1,z2⟩,fun p c' fd Hm ⟨cl,pm,ctv,co,efd⟩ sl hp=>?_⟩;subst efd;obtain⟨stm,hc',ex⟩:=ZeT TG j6 hP sl;have gr:=ZeU (o:=.ext (fnφ p (qW "<lambda>" q params body scope cl pm (.ref c') ctv))) g1.fh ex hp;have hcp:c'≠p:=fun z=>by rw[z,hp] at hc';cases hc'
   obtain⟨cvs,l1,l2,l3⟩:=Zbu (x2.ext g1.ff) a3;have jX:(Xz G 0 p c' (qW "<lambda>" q params body scope cl pm (.ref c') ctv) q cvs).st s2 (Zm Hm p (.ext (fnφ p (qW "<lambda>" q params body scope cl pm (.ref c') ctv)))):=⟨Gh.grow stm hp,ZO,by rw[Zp hcp];exact hc'⟩;show ∃(p' f':Addr) (y:V) (ns:List Int) (sp:Heap->Sp) (k:Nat),_;refine⟨p0,p,.int i,ns,fun _=>UB 1 (Xz G 0 p c' (qW "<lambda>" q params body scope cl pm (.ref c') ctv) q cvs) cvs (Xd N.length fe),kl+1,rfl,rfl,ZH.of (gr.fh _ _ n0 h0),⟨hfn,_,ps,.all (hbind cl pm (.ref c') ctv),fun base' cs=>?_⟩,hr,?_⟩
   ·have:=fnKE S (B.cloAt cs co l1 l3) (fun s H st=>st.2) (G:=Xz G 0 p c' (qW "<lambda>" q params body scope cl pm (.ref c') ctv) q cvs) fun A outer s H E hr=>hb base' p c' cl _ A outer s H E hr
    rw[hps] at this;exact this
   ·refine ZlY (G:=Xz G 0 p c' (qW "<lambda>" q params body scope cl pm (.ref c') ctv) q cvs) n0 (Zz.re (G:=G) rfl gr.fh) (toCL hn1 l2) jX h0 a5 fun n j7 H2 en g2 st3=>?_
    subst en;have g2':Gr G jT _ j7 H2:=grC g2;exact k _ j7 H2 ((g1.trans gr).trans g2') st3.1 (ja.mpr rfl) (fun z=>by cases z)
 | _=>cases a4
end
end TF
namespace TF
open L2
section
variable {X:Cx}{G:Gh}
theorem va (i:Nat){x:Str}{pos:Pos}(hN:X.N[i]?=some x:=by rfl)(hv:JZ X.env.scope x:=by first | exact qO rfl | exact yb (qO rfl) | exact yb (yb rfl))(hd:(x==("__debug__" : Str))=false:=by decide)(hcd:(x==("__classdict__" : Str))=false:=by decide):PD X G false (.Name x pos) (Za i):=ZoX i (pv i hN hv hd hcd)
theorem bk (XN:List Str)(NS:List (Str×NameKind))(N':List Str)(src:List (Option Nat)){scope:Scope}(a:X.N=XN:=by rfl)(b:X.env.scope.names=NS:=by rfl)(c:∀y∈scope.names,y.2≠.cell:=by decide +kernel)(d:scope.kind=.function:=by rfl)(e:∀y∈scope.names,y.2=.local->scope.names.lookup y.1=some .local:=by decide +kernel)(f:src.length=N'.length:=by rfl)(g:∀y∈scope.names,y.2=.free->NS.lookup y.1=some .cell∨NS.lookup y.1=some .free:=by decide +kernel)
  (h:(src.zip N').all (fun p=>match p.1 with | some j=>decide (XN[j]?=some p.2)&&(decide (NS.lookup p.2=some .cell)||decide (NS.lookup p.2=some .free))&&decide (scope.names.lookup p.2=some .free) | none=>true)=true:=by decide +kernel):BlkS X XN NS N' src scope:=⟨a,b,c,d,e,f,g,h⟩
theorem YH {N P:List Str}{sc:Scope}(a:sc.kind=.function:=by rfl)(b:sc.isCoroutine=false:=by rfl)(c:sc.isGenerator=false:=by rfl)(d:N.Nodup:=by decide +kernel)(e:N.take P.length=P:=by rfl)(f:∀x∈P,sc.names.lookup x=some .local∨sc.names.lookup x=some .cell:=by decide +kernel)(g:∀y∈sc.names,y.2≠.free:=by decide +kernel):FnScope N P sc:=⟨a,b,c,d,e,f,g⟩
end
section
variable {X:Cx}{G:Gh}{elt tg iter:Expr}{ifs:List Expr}{scope:Scope}{pos pos' spos:Pos}{XN:List Str}{NS:List (Str×NameKind)}{N':List Str}{src:List (Option Nat)}{fi:Zb->M (List D)}{τ:D->Zb->Option Zb}{ft:Zb->M Bool}{fe:Zb->M D}{r1:Bool}{i:Nat}{x:Str}
theorem Y6 {cl:_}{jJ:_}{C:_}{s:_}{H:_}{fp:_}{x:Str}{pos:Pos}{ok:Nat->Prop}(nd:N'.Nodup:=by decide +kernel)(hi:N'[i]?=some x:=by rfl)(hx:Wy (blk X jJ N' scope cl C s H fp).env.scope x:=by exact qO rfl)(oi:ok i:=by rfl)(hf:(blk X jJ N' scope cl C s H fp).fn x=true∨(blk X jJ N' scope cl C s H fp).env.scope.names.lookup x=some .local:=by first | exact .inl rfl | exact .inr rfl | assumption):Va (blk X jJ N' scope cl C s H fp) G (.Name x pos) ok (ZD i):=V2 nd hi hx oi hf
theorem Xj (B:BlkS X XN NS N' src scope)(hi:Vb X G tg iter fi)
  (hg:∀{cl jJ C s H fp},Va (blk X jJ N' scope cl C s H fp) G tg (fun i=>src[i]?=some none) τ) (ht:∀{cl jJ C s H fp},Vq (blk X jJ N' scope cl C s H fp) ifs (U9 G ft)) (he:∀{cl jJ C s H fp},PD (blk X jJ N' scope cl C s H fp) G r1 elt fe)
  (hc:X.calm=true:=by rfl) (hs:∀x,foldedSetIterable iter X.env x=pure x:=by intro _;rfl):PD X G true (.ListComp elt [⟨tg,iter,ifs,0⟩] scope pos) (ZY src fi τ ft fe):=Zlc hc B hi (fun _ _ _ _ _ _=>hg) (fun _ _ _ _ _ _=>ht) (fun _ _ _ _ _ _=>he) hs
end
theorem ZN {X:Cx}{G:Gh}{k:Nat}{x:Str}{n:Nat}{fr:Bool}{GG:Gh->Prop}{F:List D->M D}{p pos:Pos}{e:Expr}{es:List Expr}{fs:Zb->M (List D)}(c:ZJ X.prog X.w X.K X.mg X.base k x n fr GG F)(hG:GG G)(hr:Room k X.A)
  (ha:W9 X G (e::es) fs) (hg:Gl X x:=by rfl) (hal:∀ρ s ds s',fs ρ s=some (ds,s')->ds.length=(e::es).length:=by first | exact Xc UN | exact Xc (Xc UN) | exact Xc (Xc (Xc UN)) | exact Xc (Xc (Xc (Xc UN))) | exact Xc (Xc (Xc (Xc (Xc UN)))) | exact Xc (Xc (Xc (Xc (Xc (Xc UN)))))) (jS:(e::es).length=n:=by rfl)
  (hdb:(x==("__debug__" : Str))=false:=by decide) (he:starEach (e::es) X.env=(false,eval e X.env)::starEach es X.env:=by rfl) (hpl:(backTo pos (starEach es X.env)).any (·.1)=false:=by rfl) :
  PD X G fr (.Call (.Name x p) (e::es) [] pos) (Zo F fs):=Zo5 c hG hr hg ha hal jS hdb he hpl
section
variable {X:Cx}{G:Gh}{ob own own':List Nat}{fr:Bool}
theorem Zu {st:Stmt}{sts:List Stmt}{g1 g2:Zb->M Out}(h:Xm X G ob own [] fr st g1)(h2:Wa X G ob [] own' fr sts g2):Wa X G ob own own' fr (st::sts) (Zh g1 g2):=XG h h2
theorem Z4 (hs:∀k,k∈own'->k∈([]:List Nat):=by decide):Wa X G ob [] own' fr [] Zs:=YY hs
theorem We {c:Expr}{a b:List Stmt}{pos:Pos}{fc:Zb->M Bool}{g1 g2:Zb->M Out}(hc:X2 X G c fc)(ha:Wa X G ob own [] fr a g1)(hb:Wa X G ob own [] fr b g2):Xm X G ob own [] fr (.If c a b pos) (YJ fc g1 g2):=ZkY hc ha hb
theorem Xp {f:Zb->M (List D)}{p pos:Pos}{e:Expr}(hm:X.mg "len" = none)(ha:W9 X G [e] f)(hg:Gl X "len":=by rfl)(h1:starEach [e] X.env=(false,eval e X.env)::starEach [] X.env:=by rfl)(h2:(backTo pos (starEach [] X.env)).any (·.1)=false:=by rfl):PD X G true (.Call (.Name "len" p) [e] [] pos) (ZA Z3 f):=XO Zhc hg hm boot_len ha (he:=h1)
end
end TF
namespace K52
open L2 TF TQ
open TP
open TP2
open TP3
noncomputable def Z1 (i:Nat):Stmt:=PySem.Challenge.pw_tiefold_k52_whole_pieces_moved.main.body.getD i (.Pass ⟨0,0,0,0⟩)
noncomputable abbrev Zdj:Stmt:=Z1 1
noncomputable abbrev Zbe:Stmt:=Z1 2
noncomputable abbrev Zfj:Stmt:=Z1 3
noncomputable abbrev Zdk:Stmt:=Z1 4
noncomputable abbrev Zdl:Stmt:=Z1 6
noncomputable abbrev ZhN:Stmt:=Z1 7
noncomputable abbrev Zbp:Stmt:=Z1 8
noncomputable abbrev Zdm:Stmt:=Z1 9
noncomputable abbrev ZaC:Stmt:=Z1 10
noncomputable abbrev ZbD:Stmt:=Z1 11
noncomputable abbrev ZlZ:Stmt:=Z1 12
noncomputable abbrev ZiL:Stmt:=Z1 13
noncomputable abbrev Zad:Stmt:=Z1 14
noncomputable abbrev ZaV:Stmt:=Z1 15
noncomputable abbrev Zl0:Stmt:=Z1 17
noncomputable abbrev Zah:Stmt:=Z1 18
noncomputable abbrev J8:Stmt:=Z1 19
noncomputable abbrev ZaD:Stmt:=Z1 20
noncomputable abbrev Zai:Stmt:=Z1 21
noncomputable abbrev ZbX:Stmt:=Z1 22
noncomputable abbrev Zax:Stmt:=Z1 24
noncomputable abbrev Zap:Stmt:=Z1 25
noncomputable abbrev ZaM:Stmt:=Z1 26
noncomputable abbrev Zbf:Stmt:=Z1 27
noncomputable abbrev ZbY:Stmt:=Z1 28
noncomputable abbrev ZaS:Stmt:=Z1 30
noncomputable abbrev Zet:Stmt:=Z1 31
noncomputable abbrev Jl:Stmt:=Z1 32
noncomputable abbrev Zbq:Stmt:=Z1 33
noncomputable abbrev Za9:Stmt:=Z1 35
noncomputable abbrev ZaW:Stmt:=Z1 37
noncomputable abbrev ZbE:Stmt:=Z1 38
noncomputable abbrev ZaE:Stmt:=Z1 39
noncomputable abbrev ZaX:Stmt:=Z1 40
noncomputable abbrev s_law:Stmt:=Z1 41
structure Txt (mg:Str->Option Value):Prop where
 b_all:mg "all" = none
 b_bool:mg "bool" = none
 b_dict:mg "dict" = none
 b_int:mg "int" = none
 b_isinstance:mg "isinstance" = none
 b_len:mg "len" = none
 b_list:mg "list" = none
 b_max:mg "max" = none
 b_min:mg "min" = none
 b_range:mg "range" = none
 b_sorted:mg "sorted" = none
 b_sum:mg "sum" = none
 b_tuple:mg "tuple" = none
set_option maxHeartbeats 4000000
variable {P:Program}{w:World}{K:qk}{mg:Str->Option Value}{base:Heap}{j8:Addr}{jO:FuncData}
noncomputable def Zdn:Zb->M Out:=(Zh (ZT 2 (Zd Zj (YX (Zc (dC (.int 4)) (Zc (dC (.int 9)) (Zc (dC (.int 30)) (Zc (Zd W6 (dC (.int 10)) (dC (.int 8))) Ze))))) (Zo Z9 (Zc (Za 0) (Zc (dC (.int 4)) Ze)))))
 (Zh (ZT 3 (Zd Zj (Za 1) (Zo Z9 (Zc (Za 0) (Zc (ZA Z3 (Zc (Za 1) Ze)) Ze)))))
 (Zh (ZT 4 (Zd Yp (dC (.int 1)) (ZA Zk4 (Zc (Zd XY (Zo Z9 (Zc (Za 0) (Zc (dC (.int 3)) Ze))) (dC (.int 0))) Ze))))
 (Zh (U8 5 (YX Ze))
 (Zh (Ww (YO (Zo Z9 (Zc (Za 0) (Zc (dC (.int 13)) Ze)))) (ZD 6)
 (Zh (ZT 7 (fun ρ=>(Zd Yp (Za 3) (Zd W5 (Zo Z9 (Zc (Za 0) (Zc (Za 2) Ze))) (Zd Zj (YX (Zc (dC (.int 1)) (Zc (Zd W6 (dC (.int 10)) (dC (.int 12))) Ze))) (Zo Z9 (Zc (Za 0) (Zc (Za 4) Ze)))))) (YN [5] ρ)))
 (Zh (JV 5 (fun ρ=>(Yc (Zc (Za 7) (Zc (Zd Yp (Zd Yp (Za 7) (dC (.int 1))) (Zd W5 (Zo Z9 (Zc (Za 0) (Zc (Za 2) Ze))) (Zd Zj (YX (Zc (dC (.int 1)) (Zc (Zd W6 (dC (.int 10)) (dC (.int 12))) Ze))) (Zo Z9 (Zc (Za 0) (Zc (Za 4) Ze)))))) Ze))) (YN [5] ρ)))
 (Zh (YJ (asB (Zd XY (Zo Z9 (Zc (Za 0) (Zc (dC (.int 5)) Ze))) (dC (.int 0))))
 (Zh (ZT 8 (WA false (Zd Zj (Za 5) (Zo Z9 (Zc (Za 0) (Zc (ZA Z3 (Zc (Za 5) Ze)) Ze))))))
 (Zh (ZiC 5 (fun ρ=>(dC (.int (-1))) (YN [5] ρ)) (fun ρ=>(Zd Zj (YX (Zc (Za 8) (Zc (Yc (Zc (Zd Zj (Za 8) (dC (.int 1))) (Zc (Zd Yp (Zd Yp (Zd Zj (Za 8) (dC (.int 1))) (dC (.int 1))) (Zo Z9 (Zc (Za 0) (Zc (Za 2) Ze)))) Ze))) Ze))) (Zo Z9 (Zc (Za 0) (Zc (dC (.int 2)) Ze)))) (YN [5] ρ)))
 Zs))
 Zs)
 Zs))))
 (Zh (ZP (Za 5))
 Zs))))))
noncomputable def Zae:List D->M D:=runB 9 2 Zdn
theorem ZaT:FnScope ["pen","fars","wide","far","apart","pieces","k","start","old"] ["pen","fars"] (Zx ZaX):=YH
theorem Zcu (F:Fun K "_law_tpieces" "_law_tpieces" ZaX j8 jO)(T:Txt mg){L:List (Addr×Str)}(lo:Wm L)(jM:ZJ P w K mg base 1 "_law_tdraw" 2 true (Wc XC L) Z9) :
  FnOk P w K mg base ZQ 2 j8 jO ["pen","fars"] (Ya 2 true (Wc XC L) Zae):=
 have jN:=ZaT.nd
 YU (own:=[]) F ZaT fun cdv A outer s H E hr G hG=>
 have hT:Yy L G:=jB lo hG
 (Zu (YA (Yz jN rfl (qO rfl) (ZV ZW (WY (Zf ZK (Zf ZK (Zf ZK (Zf (YG Bv ZK ZK) Zl))))) (ZN (jM.mono) hG hr (Zf (va 0) (Zf ZK Zl))))))
 (Zu (YA (Yz jN rfl (qO rfl) (ZV ZW (va 1) (ZN (jM.mono) hG hr (Zf (va 0) (Zf (Xp T.b_len (Zf (va 1) Zl)) Zl))))))
 (Zu (YA (Yz jN rfl (qO rfl) (YG XQ ZK (UJ (Zhe) rfl T.b_int TF.boot_int (Zf (Vz (BF hr.units) (ZN (jM.mono) hG hr (Zf (va 0) (Zf ZK Zl))) ZK) Zl)))))
 (XG (own2:=[5]) (ZcZ (Yz jN rfl (qO rfl) (WY Zl)))
 (XG (own2:=[5]) (Ul (own:=[5]) zW rfl (Bd rfl T.b_range (ZN (jM.mono) hG hr (Zf (va 0) (Zf ZK Zl)))) (V2 jN rfl (qO rfl) (by decide))
 (XG (own2:=[5]) (ZkZ (own:=[5]) (Yz jN rfl (qO rfl) (YG XQ (va 3) (YG Bu (ZN (jM.mono) hG hr (Zf (va 0) (Zf (va 2) Zl))) (ZV ZW (WY (Zf ZK (Zf (YG Bv ZK ZK) Zl))) (ZN (jM.mono) hG hr (Zf (va 0) (Zf (va 4) Zl))))))))
 (XG (own2:=[5]) (ZfT (own:=[5]) (i:=5) (by decide) (XJ (Zf (va 7) (Zf (YG XQ (YG XQ (va 7) ZK) (YG Bu (ZN (jM.mono) hG hr (Zf (va 0) (Zf (va 2) Zl))) (ZV ZW (WY (Zf ZK (Zf (YG Bv ZK ZK) Zl))) (ZN (jM.mono) hG hr (Zf (va 0) (Zf (va 4) Zl)))))) Zl))) (fun _ h=>Zeb (pv 5) h))
 (XG (own2:=[5]) (ZkY (own':=[5]) (YZ (BF hr.units) (ZN (jM.mono) hG hr (Zf (va 0) (Zf ZK Zl))) ZK)
 (XG (own2:=[5]) (Zk0 (own:=[5]) (Yz jN rfl (qO rfl) (ZV ZW (va 5) (ZN (jM.mono) hG hr (Zf (va 0) (Zf (Xp T.b_len (Zf (va 5) Zl)) Zl))))))
 (XG (own2:=[5]) (ZlA (own:=[5]) (i:=5) (by decide) (pv 5) Zht (ZV ZW (WY (Zf (va 8) (Zf (XJ (Zf (ZV ZW (va 8) ZK) (Zf (YG XQ (YG XQ (ZV ZW (va 8) ZK) ZK) (ZN (jM.mono) hG hr (Zf (va 0) (Zf (va 2) Zl)))) Zl))) Zl))) (ZN (jM.mono) hG hr (Zf (va 0) (Zf ZK Zl)))))
 (YY (own:=[5]))))
 YY)
 (YY (own:=[5]))))))
 (XG (own2:=[5]) (ZcX (i:=5) (by decide) (pv 5))
 (YY (own:=[5]))))))))
noncomputable def ZhO:Zb->M Out:=(Zh (ZP (ZA UT (Zc (ZY [none,some 0,some 1] (YO (ZA Z3 (Zc (Za 0) Ze))) (ZD 0) (Wt (asB (Zd WM (Zd Zj (Zd Zj (Za 1) (Za 0)) (dC (.int 0))) (Za 2))) (asB (Zd WN (Za 2) (Zd Zj (Zd Zj (Za 1) (Za 0)) (dC (.int 1)))))) (Za 0)) Ze)))
 Zs)
noncomputable def Bi:List D->M D:=runB 2 2 ZhO
theorem Zcg:FnScope ["pieces","at"] ["pieces","at"] (Zx Zbq):=YH
theorem Zgu (F:Fun K "lying_at" "lying_at" Zbq j8 jO)(T:Txt mg) :
  FnOk P w K mg base ZQ 1 j8 jO ["pieces","at"] (Ya 2 true ZS Bi):=
 have jN:=Zcg.nd
 YU (own:=[]) F Zcg fun cdv A outer s H E hr G hG=>
 (Zu (Yb (UJ (Zan) rfl T.b_tuple TF.boot_tuple (Zf (Xj (bk ["pieces","at"] (Zx Zbq).names ["place","pieces","at"] [none,some 0,some 1]) (UH rfl T.b_range (Xp T.b_len (Zf (va 0) Zl))) Y6 (VF (Wz.pt (ZeM (YZ (JG) (ZV ZW (ZV ZW (va 1) (va 0)) ZK) (va 2)) (ZcV (YZ (JH hr.units0) (va 2) (ZV ZW (ZV ZW (va 1) (va 0)) ZK)))))) (va 0)) Zl)))
 Z4)
theorem Zch:FnScope ["row","pairs","i","j"] ["row"] (Zx Zdk):=YH
theorem Zgv (F:Fun K "pairs_of" "pairs_of" Zdk j8 jO)(T:Txt mg) :
  FnOk P w K mg base ZQ 1 j8 jO ["row"] (Ya 1 true ZS VW):=
 have jN:=Zch.nd
 YU (own:=[]) F Zch fun cdv A outer s H E hr G hG=>
 (XG (own2:=[1]) (ZcZ (Yz jN rfl (qO rfl) (WY Zl)))
 (XG (own2:=[1]) (Ul (own:=[1]) zW rfl (Bd rfl T.b_range (Xp T.b_len (Zf (va 0) Zl))) (V2 jN rfl (qO rfl) (by decide))
 (XG (own2:=[1]) (Ul (own:=[1]) zW rfl (ZfR rfl T.b_range (YG XQ (va 2) ZK) (Xp T.b_len (Zf (va 0) Zl))) (V2 jN rfl (qO rfl) (by decide))
 (XG (own2:=[1]) (ZfT (own:=[1]) (i:=1) (by decide) (XJ (Zf (ZV ZW (va 0) (va 2)) (Zf (ZV ZW (va 0) (va 3)) Zl))) (fun _ h=>Zeb (pv 1) h))
 (YY (own:=[1]))))
 (YY (own:=[1]))))
 (XG (own2:=[1]) (ZcX (i:=1) (by decide) (pv 1))
 (YY (own:=[1])))))
theorem ZbF:FnScope ["row","tied","pairs"] ["row","tied"] (Zx ZaV):=YH
theorem Zfk (F:Fun K "web_where" "web_where" ZaV j8 jO)(T:Txt mg)(kr:ZJ P w K mg base 1 "pairs_of" 1 true ZS VW) :
  FnOk P w K mg base ZQ 5 j8 jO ["row","tied"] (Ya 2 false (VP P w K mg 4 2 Tl base) VT):=
 have jN:=ZbF.nd
 YU (own:=[]) F ZbF fun cdv A outer s H E hr G hG=>
 (Zu (YA (Yz jN rfl (qO rfl) (ZN (kr.mono) trivial hr (Zf (ZaK rfl rfl T.b_range rfl T.b_list TF.boot_list (Xp T.b_len (Zf (va 0) Zl))) Zl))))
 (Zu (Yb (PD.weak (XJ (Zf (Xp T.b_len (Zf (va 0) Zl)) (Zf (UJ (Zan) rfl T.b_tuple TF.boot_tuple (Zf (Xj (bk ["row","tied","pairs"] (Zx ZaV).names ["pair","tied","row"] [none,some 1,some 0]) (XH (va 2)) Y6 (VF (V3 (Zle hG (hr.mono (by decide)) (pv 1) (Zf (ZV ZW (va 2) (ZV ZW (va 0) ZK)) (Zf (ZV ZW (va 2) (ZV ZW (va 0) ZK)) Zl)) (Xc (Xc UN))))) (va 0)) Zl)) Zl)))))
 Z4))
theorem Zdo:FnScope ["piece","other"] ["piece","other"] (Zx Zet):=YH
theorem Zdp (F:Fun K "do_meet" "do_meet" Zet j8 jO)(T:Txt mg) :
  FnOk P w K mg base ZQ 1 j8 jO ["piece","other"] (Ya 2 false ZS Bm):=
 have jN:=Zdo.nd
 YU (own:=[]) F Zdo fun cdv A outer s H E hr G hG=>
 (Zu (Yb (BD (Vz (JH hr.units0) (ZV ZW (va 0) ZK) (ZV ZW (va 1) ZK)) (ZeO (Vz (JH hr.units0) (ZV ZW (va 1) ZK) (ZV ZW (va 0) ZK)))))
 Z4)
theorem ZaG:FnScope ["pieces"] ["pieces"] (Zx ZaS):=YH
theorem ZbZ (F:Fun K "web_of_pieces" "web_of_pieces" ZaS j8 jO)(T:Txt mg)(jY:Ud P w K mg 5 "web_where" 2 false (VP P w K mg 4 2 Tl) VT)(kI:CalG P w K mg 4 "do_meet" 2 Bm) :
  FnOk P w K mg base ZQ 6 j8 jO ["pieces"] (Ya 1 false ZS Vc):=
 have jN:=ZaG.nd
 YU (own:=[]) F ZaG fun cdv A outer s H E hr G hG=>
 (Zu (Yb (Zhw (kl:=4) (T:=Tl) (t:=2) (jY.mono) kI rfl (fun _=>rfl) hr rfl rfl (va 0)))
 Z4)
theorem ZaY:FnScope ["web"] ["web"] (Zx ZaC):=YH
theorem Zdq (F:Fun K "marked_ties" "marked_ties" ZaC j8 jO)(T:Txt mg) :
  FnOk P w K mg base ZQ 1 j8 jO ["web"] (Ya 1 true ZS Vd):=
 have jN:=ZaY.nd
 YU (own:=[]) F ZaY fun cdv A outer s H E hr G hG=>
 (Zu (Yb (UJ (Zhj rfl hr.units) rfl T.b_dict TF.boot_dict (Zf (Xj (bk ["web"] (Zx ZaC).names ["tie"] [none]) (ZcA (ZV ZW (va 0) ZK)) Y6 XX (XJ (Zf (va 0) (Zf WG Zl)))) Zl)))
 Z4)
theorem Zci:FnScope ["ties","a","b"] ["ties","a","b"] (Zx Zdm):=YH
theorem Zgw (F:Fun K "are_tied" "are_tied" Zdm j8 jO)(T:Txt mg) :
  FnOk P w K mg base ZQ 1 j8 jO ["ties","a","b"] (Ya 3 false ZS WQ):=
 have jN:=Zci.nd
 YU (own:=[]) F Zci fun cdv A outer s H E hr G hG=>
 (Zu (Yb (PD.weak (Vz (ZeS hr.units) (XJ (Zf (XO (Zc1 rfl) rfl T.b_min TF.boot_min (Zf (va 1) (Zf (va 2) Zl))) (Zf (XO (Zhd rfl) rfl T.b_max TF.boot_max (Zf (va 1) (Zf (va 2) Zl))) Zl))) (va 0))))
 Z4)
theorem ZiM:FnScope ["web","place"] ["web","place"] (Zx ZhN):=YH
theorem Znz (F:Fun K "near" "near" ZhN j8 jO)(T:Txt mg)(kJ:ZJ P w K mg base 1 "are_tied" 3 false ZS WQ) :
  FnOk P w K mg base ZQ 2 j8 jO ["web","place"] (Ya 2 true ZS JI):=
 have jN:=ZiM.nd
 YU (own:=[]) F ZiM fun cdv A outer s H E hr G hG=>
 (Zu (Yb (Xj (bk ["web","place"] (Zx ZhN).names ["other","web","place"] [none,some 0,some 1]) (UH rfl T.b_range (ZV ZW (va 0) ZK)) Y6 (VF (V3 (ZN (kJ.mono) trivial hr (Zf (ZV ZW (va 1) ZK) (Zf (va 2) (Zf (va 0) Zl)))))) (va 0)))
 Z4)
theorem Zcj:FnScope ["web","marked"] ["web"] (Zx Zbp):=YH
theorem Zgx (F:Fun K "all_near" "all_near" Zbp j8 jO)(T:Txt mg)(jQ:ZJ P w K mg base 1 "marked_ties" 1 true ZS Vd)(kU:ZJ P w K mg base 2 "near" 2 true ZS JI) :
  FnOk P w K mg base ZQ 3 j8 jO ["web"] (Ya 1 true ZS Uh):=
 have jN:=Zcj.nd
 YU (own:=[]) F Zcj fun cdv A outer s H E hr G hG=>
 (Zu (YA (Yz jN rfl (yb rfl) (XJ (Zf (ZV ZW (va 0) ZK) (Zf (ZN (jQ.mono) trivial hr (Zf (va 0) Zl)) Zl)))))
 (Zu (Yb (Xj (bk ["web","marked"] (Zx Zbp).names ["place","marked"] [none,some 1]) (UH rfl T.b_range (ZV ZW (va 0) ZK)) Y6 XX (ZN (kU.mono) trivial hr (Zf (va 1) (Zf (va 0) Zl)))))
 Z4))
theorem Zbg:FnScope ["taken"] ["taken"] (Zx ZaM):=YH
theorem ZdV (F:Fun K "least_free" "least_free" ZaM j8 jO)(T:Txt mg) :
  FnOk P w K mg base ZQ 1 j8 jO ["taken"] (Ya 1 true ZS Jm):=
 have jN:=Zbg.nd
 YU (own:=[]) F Zbg fun cdv A outer s H E hr G hG=>
 (Zu (Yb (XO (ZhC rfl) rfl T.b_min TF.boot_min (Zf (Xj (bk ["taken"] (Zx ZaM).names ["hue","taken"] [none,some 0]) (UH rfl T.b_range (YG XQ (Xp T.b_len (Zf (va 0) Zl)) ZK)) Y6 (VF (YZ (ZbV hr.units) (va 0) (va 1))) (va 0)) Zl)))
 Z4)
theorem Zbh:FnScope ["web","order","nears","hues","place"] ["web","order"] (Zx Zap):=YH
theorem ZdW (F:Fun K "hued_along" "hued_along" Zap j8 jO)(T:Txt mg)(j9:ZJ P w K mg base 3 "all_near" 1 true ZS Uh)(kE:ZJ P w K mg base 1 "least_free" 1 true ZS Jm) :
  FnOk P w K mg base ZQ 4 j8 jO ["web","order"] (Ya 2 true ZS Bb):=
 have jN:=Zbh.nd
 YU (own:=[]) F Zbh fun cdv A outer s H E hr G hG=>
 (Zu (YA (Yz jN rfl (qO rfl) (ZN (j9.mono) trivial hr (Zf (va 0) Zl))))
 (XG (own2:=[3]) (ZcZ (Yz jN rfl (yb rfl) ZlE))
 (XG (own2:=[3]) (Ul (own:=[3]) zW rfl (Vb.a (own:=[3]) (XH (va 1))) (V2 jN rfl (qO rfl) (by decide))
 (XG (own2:=[3]) (ZjP (own:=[3]) (i:=3) (L2.hu_of hr) (by decide) (pv 3) (va 4) (ZN (kE.mono) trivial hr (Zf (Xj (bk ["web","order","nears","hues","place"] (Zx Zap).names ["other","hues"] [none,some 3]) (XH (ZV ZW (va 2) (va 4))) Y6 (VF (YZ (ZeS hr.units) (va 0) (va 1))) (ZiE (L2.hu_of hr) (va 1) (va 0))) Zl)))
 (YY (own:=[3]))))
 (XG (own2:=[3]) (Yb (UJ (Zan) rfl T.b_tuple TF.boot_tuple (Zf (Xj (bk ["web","order","nears","hues","place"] (Zx Zap).names ["place","hues"] [none,some 3]) (UH rfl T.b_range (ZV ZW (va 0) ZK)) Y6 XX (ZiE (L2.hu_of hr) (va 1) (va 0))) Zl)))
 (YY (own:=[3]))))))
noncomputable def ZdX:Zb->M Out:=(Zh (ZT 1 (ZY [none] (ZX (Za 0)) (ZD 0) Z2 (Zd Zj (Za 0) (dC (.int 0)))))
 (Zh (ZT 2 (BA (Xd 2 (ZA Z3 (Zc (Zo Bi (Zc (Za 1) (Zc (Za 0) Ze))) Ze))) [0] 0 (Za 1)))
 (Zh (ZT 3 (Zo Bi (Zc (Za 0) (Zc (Za 2) Ze))))
 (Zh (ZT 4 (Bo (Xd 2 (Zd Zj (Za 1) (Za 0))) [1] (ZA Z3 (Zc (Za 0) Ze))))
 (Zh (ZP (Yc (Zc (ZA Z3 (Zc (Za 3) Ze)) (Zc (Za 2) (Zc (Za 3) (Zc (Zo Bb (Zc (Zo Vc (Zc (Za 0) Ze)) (Zc (Za 4) Ze))) Ze))))))
 Zs)))))
noncomputable def UF:List D->M D:=runB 5 1 ZdX
theorem ZaZ:FnScope ["pieces","starts","at","knot","order"] ["pieces"] (Zx Jl):=YH
theorem Zdr (F:Fun K "pieces_told" "pieces_told" Jl j8 jO)(T:Txt mg){L:List (Addr×Str)}(lo:Wm L)(kF:ZJ P w K mg base 4 "hued_along" 2 true ZS Bb)(kK:ZJ P w K mg base 1 "lying_at" 2 true ZS Bi)(jP:ZJ P w K mg base 6 "web_of_pieces" 1 false ZS Vc)(kx:∀base,ZJ P w K mg base 1 "lying_at" 2 true ZS Bi){tc tP:Addr}(hcode:jO.code=.ref tc)(hCd:zL base tc tP)(hBm:UC mg base)(hL:(tP,(qE "pieces_told.<locals>.<lambda>"))∈L) :
  FnOk P w K mg base ZQ 7 j8 jO ["pieces"] (Ya 1 false (Yy L) UF):=
 have jN:=ZaZ.nd
 fnDC (own:=[]) F ZaZ fun A outer s H E hr G hG=>
 have hT:Yy L G:=hG;have TG9:=hT _ _ hL;have M9:Mk0 (W3 ZQ P w K mg base ["pieces","starts","at","knot","order"] "pieces_told" (Zx Jl) j8 jO.code A outer s H E).nox tc tP:=⟨hcode,hCd,hBm⟩
 (Zu (YA (Yz jN rfl (yb rfl) (Xj (bk ["pieces","starts","at","knot","order"] (Zx Jl).names ["piece"] [none]) (XH (va 0)) Y6 XX (ZV ZW (va 0) ZK))))
 (Zu (YA (Yz jN rfl (qO rfl) (Zj5 (kl:=3) (frb:=true) (N:=["start","pieces"]) (ps:=["start"]) (cix:=[0]) (q:="pieces_told.<locals>.<lambda>") rfl rfl T.b_max TF.boot_max M9 TG9 (fun _=>rfl) (hr.mono (by decide)) (va 1) rfl (⟨rfl,rfl,rfl,by decide +kernel,rfl,by decide +kernel,by decide +kernel⟩:CloScope ["start","pieces"] ["start"] _) (⟨rfl,rfl,rfl,by decide +kernel,by decide +kernel⟩:CapS _ ["pieces","starts","at","knot","order"] (Zx Jl).names ["start","pieces"] ["start"] [0] _) rfl (fun _ _ _ _ us hl=>match us,hl with | [_],_=>rfl) (fun base f c cl G A outer s H E hr=>(Xp T.b_len (Zf (ZN ((kx base).mono) trivial hr (Zf (va 1) (Zf (va 0) Zl))) Zl))))))
 (Zu (YA (Yz jN rfl (qO rfl) (ZN (kK.mono) trivial hr (Zf (va 0) (Zf (va 2) Zl)))))
 (Zu (YA (Yz jN rfl (qO rfl) (Zgq (kl:=3) (frb:=false) (N:=["place","starts"]) (ps:=["place"]) (cix:=[1]) (q:="pieces_told.<locals>.<lambda>") rfl rfl T.b_sorted TF.boot_sorted rfl T.b_range M9 TG9 (fun _=>rfl) (hr.mono (by decide)) (Xp T.b_len (Zf (va 0) Zl)) rfl (⟨rfl,rfl,rfl,by decide +kernel,rfl,by decide +kernel,by decide +kernel⟩:CloScope ["place","starts"] ["place"] _) (⟨rfl,rfl,rfl,by decide +kernel,by decide +kernel⟩:CapS _ ["pieces","starts","at","knot","order"] (Zx Jl).names ["place","starts"] ["place"] [1] _) rfl (fun _ _ _ _ us hl=>match us,hl with | [_],_=>rfl) (fun base f c cl G A outer s H E hr=>(ZV ZW (va 1) (va 0))))))
 (Zu (Yb (PD.weak (XJ (Zf (Xp T.b_len (Zf (va 3) Zl)) (Zf (va 2) (Zf (va 3) (Zf (ZN (kF.mono) trivial hr (Zf (ZN (jP.mono) trivial hr (Zf (va 0) Zl)) (Zf (va 4) Zl))) Zl)))))))
 Z4)))))
theorem ZaH:FnScope ["web","places","ties"] ["web","places"] (Zx Zad):=YH
theorem Zb0 (F:Fun K "numbered_anew" "numbered_anew" Zad j8 jO)(T:Txt mg){L:List (Addr×Str)}(lo:Wm L)(jQ:ZJ P w K mg base 1 "marked_ties" 1 true ZS Vd)(jY:Ud P w K mg 5 "web_where" 2 false (VP P w K mg 4 2 Tl) VT)(kc:∀base,ZJ P w K mg base 1 "are_tied" 3 false ZS WQ){tc tP:Addr}(hcode:jO.code=.ref tc)(hCd:zL base tc tP)(hBm:UC mg base)(hL:(tP,(qE "numbered_anew.<locals>.<lambda>"))∈L) :
  FnOk P w K mg base ZQ 6 j8 jO ["web","places"] (Ya 2 false (Yy L) Jj):=
 have jN:=ZaH.nd
 fnDC (own:=[]) F ZaH fun A outer s H E hr G hG=>
 have hT:Yy L G:=hG;have TG9:=hT _ _ hL;have M9:Mk0 (W3 ZQ P w K mg base ["web","places","ties"] "numbered_anew" (Zx Zad) j8 jO.code A outer s H E).nox tc tP:=⟨hcode,hCd,hBm⟩
 (Zu (YA (Yz jN rfl (yb rfl) (ZN (jQ.mono) trivial hr (Zf (va 0) Zl))))
 (Zu (Yb (Zc9 (kl:=3) (frb:=false) (N:=["a","b","ties"]) (ps:=["a","b"]) (cix:=[2]) (T:=Tl) (t:=1) (q:="numbered_anew.<locals>.<lambda>") M9 TG9 (jY.mono) (fun _=>rfl) hr rfl (va 1) rfl (⟨rfl,rfl,rfl,by decide +kernel,rfl,by decide +kernel,by decide +kernel⟩:CloScope ["a","b","ties"] ["a","b"] _) (⟨rfl,rfl,rfl,by decide +kernel,by decide +kernel⟩:CapS _ ["web","places","ties"] (Zx Zad).names ["a","b","ties"] ["a","b"] [2] _) rfl (fun _ _ _ _ us hl=>match us,hl with | [_,_],_=>rfl) (fun base f c cl G A outer s H E hr=>(ZN ((kc base).mono) trivial hr (Zf (va 2) (Zf (va 0) (Zf (va 1) Zl)))))))
 Z4))
theorem Zgy:FnScope ["web","order"] ["web","order"] (Zx ZiL):=YH
theorem Zl1 (F:Fun K "moved" "moved" ZiL j8 jO)(T:Txt mg){L:List (Addr×Str)}(lo:Wm L)(jW:ZJ P w K mg base 6 "numbered_anew" 2 false (Yy L) Jj) :
  FnOk P w K mg base ZQ 7 j8 jO ["web","order"] (Ya 2 false (Yy L) By):=
 have jN:=Zgy.nd
 YU (own:=[]) F Zgy fun cdv A outer s H E hr G hG=>
 have hT:Yy L G:=hG
 (Zu (Yb (ZN (jW.mono) hT hr (Zf (va 0) (Zf (va 1) Zl))))
 Z4)
theorem Zeu:FnScope ["web","ties"] ["web"] (Zx ZbD):=YH
theorem Zj6 (F:Fun K "turned" "turned" ZbD j8 jO)(T:Txt mg){L:List (Addr×Str)}(lo:Wm L)(jQ:ZJ P w K mg base 1 "marked_ties" 1 true ZS Vd)(jY:Ud P w K mg 5 "web_where" 2 false (VP P w K mg 4 2 Tl) VT)(kc:∀base,ZJ P w K mg base 1 "are_tied" 3 false ZS WQ){tc tP:Addr}(hcode:jO.code=.ref tc)(hCd:zL base tc tP)(hBm:UC mg base)(hL:(tP,(qE "turned.<locals>.<lambda>"))∈L) :
  FnOk P w K mg base ZQ 6 j8 jO ["web"] (Ya 1 false (Yy L) Ju):=
 have jN:=Zeu.nd
 fnDC (own:=[]) F Zeu fun A outer s H E hr G hG=>
 have hT:Yy L G:=hG;have TG9:=hT _ _ hL;have M9:Mk0 (W3 ZQ P w K mg base ["web","ties"] "turned" (Zx ZbD) j8 jO.code A outer s H E).nox tc tP:=⟨hcode,hCd,hBm⟩
 (Zu (YA (Yz jN rfl (yb rfl) (ZN (jQ.mono) trivial hr (Zf (va 0) Zl))))
 (Zu (Yb (Zc9 (kl:=3) (frb:=true) (N:=["a","b","ties"]) (ps:=["a","b"]) (cix:=[1]) (T:=Tl) (t:=0) (q:="turned.<locals>.<lambda>") M9 TG9 (jY.mono) (fun _=>rfl) hr rfl (ZaK rfl rfl T.b_range rfl T.b_list TF.boot_list (ZV ZW (va 0) ZK)) rfl (⟨rfl,rfl,rfl,by decide +kernel,rfl,by decide +kernel,by decide +kernel⟩:CloScope ["a","b","ties"] ["a","b"] _) (⟨rfl,rfl,rfl,by decide +kernel,by decide +kernel⟩:CapS _ ["web","ties"] (Zx ZbD).names ["a","b","ties"] ["a","b"] [1] _) rfl (fun _ _ _ _ us hl=>match us,hl with | [_,_],_=>rfl) (fun base f c cl G A outer s H E hr=>(ZkW (ZN ((kc base).mono) trivial hr (Zf (va 2) (Zf (va 0) (Zf (va 1) Zl))))))))
 Z4))
theorem ZaI:FnScope ["aparts","weights","place","places","others"] ["aparts","weights","place","places"] (Zx Zai):=YH
theorem Zb1 (F:Fun K "heaviest_with" "heaviest_with" Zai j8 jO)(T:Txt mg){Fs:List D->M D}{lv:Nat}(hlv:0<=lv)(jU:ZJ P w K mg base lv "heaviest_among" 3 false ZS Fs) :
  FnOk P w K mg base ZQ (lv+1) j8 jO ["aparts","weights","place","places"] (Ya 4 false ZS (Zac Fs)):=
 have jN:=ZaI.nd
 YU (own:=[]) F ZaI fun cdv A outer s H E hr G hG=>
 (Zu (YA (Bg jN rfl (qO rfl) rfl (bk ["aparts","weights","place","places","others"] (Zx Zai).names ["other","place","aparts"] [none,some 2,some 0]) (XH (va 3)) (fun _ _ _ _ _ _=>Y6) (fun _ _ _ _ _ _=>(VF (Wz.pt (ZeM (YZ (Vg hr.units) (va 0) (va 1)) (ZcV (YZ (ZbV hr.units) (va 0) (ZV ZW (va 2) (va 1)))))))) (fun _ _ _ _ _ _=>(va 0))))
 (Zu (Yb (PD.weak (YG XQ (WY (Zf (va 2) Zl)) (ZN (jU) trivial hr (Zf (va 0) (Zf (va 1) (Zf (va 4) Zl)))))))
 Z4))
theorem Za0:FnScope ["aparts","place","places"] ["aparts","place","places"] (Zx ZaD):=YH
theorem Zds (F:Fun K "apart_among" "apart_among" ZaD j8 jO)(T:Txt mg) :
  FnOk P w K mg base ZQ 1 j8 jO ["aparts","place","places"] (Ya 3 true ZS ZaB):=
 have jN:=Za0.nd
 YU (own:=[]) F Za0 fun cdv A outer s H E hr G hG=>
 (Zu (Yb (Xj (bk ["aparts","place","places"] (Zx ZaD).names ["other","aparts","place"] [none,some 0,some 1]) (XH (va 2)) Y6 (VF (YZ (ZeS hr.units) (va 0) (ZV ZW (va 1) (va 2)))) (va 0)))
 Z4)
theorem Zdt:FnScope ["weights","places"] ["weights","places"] (Zx ZbX):=YH
theorem ZhP (F:Fun K "weighed" "weighed" ZbX j8 jO)(T:Txt mg) :
  FnOk P w K mg base ZQ 1 j8 jO ["weights","places"] (Ya 2 false ZS Bn):=
 have jN:=Zdt.nd
 YU (own:=[]) F Zdt fun cdv A outer s H E hr G hG=>
 (Zu (Yb (PD.weak (XO (ZjZ rfl) rfl T.b_sum TF.boot_sum (Zf (Xj (bk ["weights","places"] (Zx ZbX).names ["place","weights"] [none,some 0]) (XH (va 1)) Y6 XX (ZV ZW (va 1) (va 0))) Zl))))
 Z4)
theorem Zay:FnScope ["aparts","weights","places","rows","i","counts","branching","with_it","without_it"] ["aparts","weights","places"] (Zx J8):=YH
theorem ZbG (F:Fun K "heaviest_among" "heaviest_among" J8 j8 jO)(T:Txt mg){Fs:List D->M D}{lv:Nat}(hlv:1<=lv)(kA:ZJ P w K mg base 1 "apart_among" 3 true ZS ZaB)(jU:ZJ P w K mg base lv "heaviest_among" 3 false ZS Fs)(kh:ZJ P w K mg base (lv+1) "heaviest_with" 4 false ZS (Zac Fs))(kC:ZJ P w K mg base 1 "weighed" 2 false ZS Bn) :
  FnOk P w K mg base ZQ (lv+2) j8 jO ["aparts","weights","places"] (Ya 3 false ZS (runB 9 3 (Zag Fs))):=
 have jN:=Zay.nd
 YU (own:=[]) F Zay fun cdv A outer s H E hr G hG=>
 (Zu (We (YZ (BF hr.units) (va 2) (WY Zl))
 (Zu (Yb (PD.weak (WY Zl)))
 Z4)
 YY)
 (Zu (YA (Bg jN rfl (qO rfl) rfl (bk ["aparts","weights","places","rows","i","counts","branching","with_it","without_it"] (Zx J8).names ["place","aparts","places"] [none,some 0,some 2]) (XH (va 2)) (fun _ _ _ _ _ _=>Y6) (fun _ _ _ _ _ _=>XX) (fun _ _ _ _ _ _=>(ZN (kA.mono (h:=qZ (by decide) (qav hlv))) trivial hr (Zf (va 1) (Zf (va 0) (Zf (va 2) Zl)))))))
 (Zu (Ul (own:=[]) zW rfl (Bd rfl T.b_range (Xp T.b_len (Zf (va 2) Zl))) (V2 jN rfl (qO rfl) (by decide))
 (Zu (We (YZ (JG) (ZN (kC.mono (h:=qZ (by decide) (qav hlv))) trivial hr (Zf (va 1) (Zf (ZV ZW (va 3) (va 4)) Zl))) (ZV ZW (va 1) (ZV ZW (va 2) (va 4))))
 (Zu (Yb (ZN (kh) trivial hr (Zf (va 0) (Zf (va 1) (Zf (ZV ZW (va 2) (va 4)) (Zf (va 2) Zl))))))
 Z4)
 YY)
 Z4))
 (Zu (YA (Bg jN rfl (qO rfl) rfl (bk ["aparts","weights","places","rows","i","counts","branching","with_it","without_it"] (Zx J8).names ["row"] [none]) (XH (va 3)) (fun _ _ _ _ _ _=>Y6) (fun _ _ _ _ _ _=>XX) (fun _ _ _ _ _ _=>(Xp T.b_len (Zf (va 0) Zl)))))
 (Zu (YA (Yz jN rfl (yb rfl) (ZV ZW (va 2) (ZlJ (va 5) (XO (Zhx rfl) rfl T.b_max TF.boot_max (Zf (va 5) Zl))))))
 (Zu (YA (Yz jN rfl (qO rfl) (ZN (kh) trivial hr (Zf (va 0) (Zf (va 1) (Zf (va 6) (Zf (va 2) Zl)))))))
 (Zu (YA (Yz jN rfl (qO rfl) (ZN (jU.mono (h:=qbX _)) trivial hr (Zf (va 0) (Zf (va 1) (Zf (Xj (bk ["aparts","weights","places","rows","i","counts","branching","with_it","without_it"] (Zx J8).names ["other","branching"] [none,some 6]) (XH (va 2)) Y6 (VF (YZ (Vg hr.units) (va 0) (va 1))) (va 0)) Zl))))))
 (Zu (Yb (ZpN (YZ (Zo0) (ZN (kC.mono (h:=qZ (by decide) (qav hlv))) trivial hr (Zf (va 1) (Zf (va 7) Zl))) (ZN (kC.mono (h:=qZ (by decide) (qav hlv))) trivial hr (Zf (va 1) (Zf (va 8) Zl)))) (va 7) (va 8)))
 Z4))))))))
theorem ZaJ:FnScope ["web","weights","aparts"] ["web","weights"] (Zx Zah):=YH
theorem Zb2 (F:Fun K "heaviest_knot" "heaviest_knot" Zah j8 jO)(T:Txt mg){L:List (Addr×Str)}(lo:Wm L)(j9:ZJ P w K mg base 3 "all_near" 1 true ZS Uh)(jU:ZJ P w K mg base 53 "heaviest_among" 3 false ZS (UE 26))(kO:ZJ P w K mg base 6 "turned" 1 false (Yy L) Ju) :
  FnOk P w K mg base ZQ 54 j8 jO ["web","weights"] (Ya 2 true (Yy L) J9):=
 have jN:=ZaJ.nd
 YU (own:=[]) F ZaJ fun cdv A outer s H E hr G hG=>
 have hT:Yy L G:=hG
 (Zu (YA (Bg jN rfl (qO rfl) rfl (bk ["web","weights","aparts"] (Zx Zah).names ["row"] [none]) (XH (ZN (j9.mono) trivial hr (Zf (ZN (kO.mono) hT hr (Zf (va 0) Zl)) Zl))) (fun _ _ _ _ _ _=>Y6) (fun _ _ _ _ _ _=>XX) (fun _ _ _ _ _ _=>(UJ (Zhk rfl hr.units) rfl T.b_dict TF.boot_dict (Zf (Xj (bk ["row"] [((qaT ".0"),PySem.NameKind.local),((qaT "row"),PySem.NameKind.local),((qaT "dict"),PySem.NameKind.globalImplicit)] ["other"] [none]) (XH (va 0)) Y6 XX (XJ (Zf (va 0) (Zf WG Zl)))) Zl)))))
 (Zu (Yb (UJ (Zan) rfl T.b_tuple TF.boot_tuple (Zf (XO (Ze5) rfl T.b_sorted TF.boot_sorted (Zf (ZN (jU.mono) trivial hr (Zf (va 2) (Zf (va 1) (Zf (ZaK rfl rfl T.b_range rfl T.b_list TF.boot_list (ZV ZW (va 0) ZK)) Zl)))) Zl)) Zl)))
 Z4))
theorem ZiN:FnScope ["web","knot"] ["web"] (Zx Zl0):=YH
theorem ZnA (F:Fun K "most" "most" Zl0 j8 jO)(T:Txt mg){L:List (Addr×Str)}(lo:Wm L)(km:ZJ P w K mg base 54 "heaviest_knot" 2 true (Yy L) J9) :
  FnOk P w K mg base ZQ 55 j8 jO ["web"] (Ya 1 true (Yy L) Ur):=
 have jN:=ZiN.nd
 YU (own:=[]) F ZiN fun cdv A outer s H E hr G hG=>
 have hT:Yy L G:=hG
 (Zu (YA (Yz jN rfl (qO rfl) (ZN (km.mono) hT hr (Zf (va 0) (Zf (YG ZlT (XJ (Zf ZK Zl)) (ZV ZW (va 0) ZK)) Zl)))))
 (Zu (Yb (XJ (Zf (Xp T.b_len (Zf (va 1) Zl)) (Zf (va 1) Zl))))
 Z4))
theorem ZiO:FnScope ["web","places"] ["web","places"] (Zx ZlZ):=YH
theorem ZnB (F:Fun K "part" "part" ZlZ j8 jO)(T:Txt mg){L:List (Addr×Str)}(lo:Wm L)(jW:ZJ P w K mg base 6 "numbered_anew" 2 false (Yy L) Jj) :
  FnOk P w K mg base ZQ 7 j8 jO ["web","places"] (Ya 2 false (Yy L) BH):=
 have jN:=ZiO.nd
 YU (own:=[]) F ZiO fun cdv A outer s H E hr G hG=>
 have hT:Yy L G:=hG
 (Zu (Yb (ZN (jW.mono) hT hr (Zf (va 0) (Zf (va 1) Zl))))
 Z4)
theorem Zdu:FnScope ["nears","many","hues","place","taken","hue","hueing"] ["nears","many","hues"] (Zx ZbY):=YH
theorem ZhQ (F:Fun K "hued_on" "hued_on" ZbY j8 jO)(T:Txt mg){Fs:List D->M D}{lv:Nat}(hlv:0<=lv)(ko:ZJ P w K mg base lv "hued_on" 3 false ZS Fs) :
  FnOk P w K mg base ZQ (lv+1) j8 jO ["nears","many","hues"] (Ya 3 false ZS (runB 7 3 (Zeo Fs))):=
 have jN:=Zdu.nd
 YU (own:=[]) F Zdu fun cdv A outer s H E hr G hG=>
 (Zu (YA (Yz jN rfl (yb rfl) (Xp T.b_len (Zf (va 2) Zl))))
 (Zu (We (YZ (BF hr.units) (va 3) (Xp T.b_len (Zf (va 0) Zl)))
 (Zu (Yb (va 2))
 Z4)
 YY)
 (Zu (YA (Bg jN rfl (qO rfl) rfl (bk ["nears","many","hues","place","taken","hue","hueing"] (Zx ZbY).names ["other","hues","place"] [none,some 2,some 3]) (XH (ZV ZW (va 0) (va 3))) (fun _ _ _ _ _ _=>Y6) (fun _ _ _ _ _ _=>(VF (YZ (JH hr.units0) (va 0) (va 2)))) (fun _ _ _ _ _ _=>(ZV ZW (va 1) (va 0)))))
 (Zu (Ul (own:=[]) zW rfl (Bd rfl T.b_range (XO (Zc1 rfl) rfl T.b_min TF.boot_min (Zf (va 1) (Zf (YG XQ (ZlP rfl rfl T.b_max TF.boot_max (va 2) Zht) ZK) Zl)))) (V2 jN rfl (qO rfl) (by decide))
 (Zu (We (YZ (ZbV hr.units) (va 5) (va 4))
 (Zu (YA (Yz jN rfl (qO rfl) (ZN (ko) trivial hr (Zf (va 0) (Zf (va 1) (Zf (YG XQ (va 2) (XJ (Zf (va 5) Zl))) Zl))))))
 (Zu (We (YZ (ZlM) (va 6) Zg9)
 (Zu (Yb (va 6))
 Z4)
 YY)
 Z4))
 YY)
 Z4))
 (Zu (Yb (PD.weak Zg9))
 Z4)))))
theorem Za1:FnScope ["web","nears","many","hueing"] ["web"] (Zx Zbf):=YH
theorem Zdv (F:Fun K "fewest_hues" "fewest_hues" Zbf j8 jO)(T:Txt mg){L:List (Addr×Str)}(lo:Wm L)(j9:ZJ P w K mg base 3 "all_near" 1 true ZS Uh)(ko:ZJ P w K mg base 11 "hued_on" 3 false ZS (V1 10))(kG:ZJ P w K mg base 55 "most" 1 true (Yy L) Ur) :
  FnOk P w K mg base ZQ 56 j8 jO ["web"] (Ya 1 true (Yy L) Ba):=
 have jN:=Za1.nd
 YU (own:=[]) F Za1 fun cdv A outer s H E hr G hG=>
 have hT:Yy L G:=hG
 (Zu (YA (Yz jN rfl (qO rfl) (ZN (j9.mono) trivial hr (Zf (va 0) Zl))))
 (Zu (YA (Yz jN rfl (qO rfl) (ZV ZW (ZN (kG.mono) hT hr (Zf (va 0) Zl)) ZK)))
 (Zu (YA (Yz jN rfl (qO rfl) (ZN (ko.mono) trivial hr (Zf (va 1) (Zf (va 2) (Zf (XJ Zl) Zl))))))
 (Zu (ZjO (own:=[]) zW (YZ (Znq) (va 3) Zg9)
 (Zu (Znw (own:=[]) jN rfl (qO rfl) ZK)
 (Zu (YA (Yz jN rfl (qO rfl) (ZN (ko.mono) trivial hr (Zf (va 1) (Zf (va 2) (Zf (XJ Zl) Zl))))))
 Z4)))
 (Zu (Yb (XJ (Zf (va 2) (Zf (va 3) Zl))))
 Z4)))))
theorem Zck:FnScope ["thing"] ["thing"] (Zx Zdj):=YH
theorem Zgz (F:Fun K "is_whole" "is_whole" Zdj j8 jO)(T:Txt mg) :
  FnOk P w K mg base ZQ 1 j8 jO ["thing"] (Ya 1 false ZS Bh):=
 have jN:=Zck.nd
 YU (own:=[]) F Zck fun cdv A outer s H E hr G hG=>
 (Zu (Yb (BD (XO (Za7) rfl T.b_isinstance TF.boot_isinstance (Zf (va 0) (Zf (Ziq rfl T.b_int TF.boot_int) Zl))) (ZeO (ZkW (XO (Za7) rfl T.b_isinstance TF.boot_isinstance (Zf (va 0) (Zf (Ziq rfl T.b_bool TF.boot_bool) Zl)))))))
 Z4)
theorem Zcl:FnScope ["n","thing"] ["n","thing"] (Zx Zdl):=YH
theorem ZgA (F:Fun K "is_place" "is_place" Zdl j8 jO)(T:Txt mg)(kL:ZJ P w K mg base 1 "is_whole" 1 false ZS Bh) :
  FnOk P w K mg base ZQ 2 j8 jO ["n","thing"] (Ya 2 false ZS VX):=
 have jN:=Zcl.nd
 YU (own:=[]) F Zcl fun cdv A outer s H E hr G hG=>
 (Zu (Yb (BD (ZN (kL.mono) trivial hr (Zf (va 1) Zl)) (BD (Vz (JG) ZK (va 1)) (ZeO (Vz (JH hr.units0) (va 1) (va 0))))))
 Z4)
theorem ZgB:FnScope ["row"] ["row"] (Zx Zfj):=YH
theorem Zl2 (F:Fun K "rises" "rises" Zfj j8 jO)(T:Txt mg) :
  FnOk P w K mg base ZQ 1 j8 jO ["row"] (Ya 1 false ZS Bx):=
 have jN:=ZgB.nd
 YU (own:=[]) F ZgB fun cdv A outer s H E hr G hG=>
 (Zu (Yb (PD.weak (XO (Bj rfl) rfl T.b_all TF.boot_all (Zf (Xj (bk ["row"] (Zx Zfj).names ["i","row"] [none,some 0]) (UH rfl T.b_range (YG Bt (Xp T.b_len (Zf (va 0) Zl)) ZK)) Y6 XX (Vz (JH hr.units0) (ZV ZW (va 1) (va 0)) (ZV ZW (va 1) (YG XQ (va 0) ZK)))) Zl))))
 Z4)
theorem Zdw:FnScope ["web","thing","ties"] ["web","thing"] (Zx Za9):=YH
theorem ZhR (F:Fun K "is_knot" "is_knot" Za9 j8 jO)(T:Txt mg)(ki:ZJ P w K mg base 2 "is_place" 2 false ZS VX)(jQ:ZJ P w K mg base 1 "marked_ties" 1 true ZS Vd)(kr:ZJ P w K mg base 1 "pairs_of" 1 true ZS VW)(kR:ZJ P w K mg base 1 "rises" 1 false ZS Bx) :
  FnOk P w K mg base ZQ 3 j8 jO ["web","thing"] (Ya 2 false ZS Bl):=
 have jN:=Zdw.nd
 YU (own:=[]) F Zdw fun cdv A outer s H E hr G hG=>
 (Zu (We (Uk (V3 (XO (Za7) rfl T.b_isinstance TF.boot_isinstance (Zf (va 1) (Zf (Ziq rfl T.b_tuple TF.boot_tuple) Zl)))))
 (Zu (Yb (PD.weak WG))
 Z4)
 YY)
 (Zu (We (Wz.pt (ZeN (Uk (V3 (XO (Bj rfl) rfl T.b_all TF.boot_all (Zf (Xj (bk ["web","thing","ties"] (Zx Za9).names ["place","web"] [none,some 0]) (ZcA (va 1)) Y6 XX (ZN (ki.mono) trivial hr (Zf (ZV ZW (va 1) ZK) (Zf (va 0) Zl)))) Zl)))) (ZeL (Uk (V3 (ZN (kR.mono) trivial hr (Zf (va 1) Zl)))))))
 (Zu (Yb (PD.weak WG))
 Z4)
 YY)
 (Zu (YA (Yz jN rfl (yb rfl) (ZN (jQ.mono) trivial hr (Zf (va 0) Zl))))
 (Zu (Yb (PD.weak (XO (Bj rfl) rfl T.b_all TF.boot_all (Zf (Xj (bk ["web","thing","ties"] (Zx Za9).names ["pair","ties"] [none,some 2]) (XH (ZN (kr.mono) trivial hr (Zf (va 1) Zl))) Y6 XX (Vz (ZeS hr.units) (va 0) (va 1))) Zl))))
 Z4))))
theorem Za2:FnScope ["thing","length"] ["thing","length"] (Zx Zbe):=YH
theorem Zdx (F:Fun K "is_tuple_of" "is_tuple_of" Zbe j8 jO)(T:Txt mg) :
  FnOk P w K mg base ZQ 1 j8 jO ["thing","length"] (Ya 2 false ZS Jk):=
 have jN:=Za2.nd
 YU (own:=[]) F Za2 fun cdv A outer s H E hr G hG=>
 (Zu (Yb (BD (XO (Za7) rfl T.b_isinstance TF.boot_isinstance (Zf (va 0) (Zf (Ziq rfl T.b_tuple TF.boot_tuple) Zl))) (ZeO (Vz (BF hr.units) (Xp T.b_len (Zf (va 0) Zl)) (va 1)))))
 Z4)
theorem ZbH:FnScope ["web","thing"] ["web","thing"] (Zx Zax):=YH
theorem Zfl (F:Fun K "is_hueing" "is_hueing" Zax j8 jO)(T:Txt mg)(ki:ZJ P w K mg base 2 "is_place" 2 false ZS VX)(kB:ZJ P w K mg base 1 "is_tuple_of" 2 false ZS Jk) :
  FnOk P w K mg base ZQ 3 j8 jO ["web","thing"] (Ya 2 false ZS Be):=
 have jN:=ZbH.nd
 YU (own:=[]) F ZbH fun cdv A outer s H E hr G hG=>
 (Zu (We (Uk (V3 (ZN (kB.mono) trivial hr (Zf (va 1) (Zf (ZV ZW (va 0) ZK) Zl)))))
 (Zu (Yb (PD.weak WG))
 Z4)
 YY)
 (Zu (We (Uk (V3 (XO (Bj rfl) rfl T.b_all TF.boot_all (Zf (Xj (bk ["web","thing"] (Zx Zax).names ["hue","web"] [none,some 0]) (ZcA (va 1)) Y6 XX (ZN (ki.mono) trivial hr (Zf (ZV ZW (va 1) ZK) (Zf (va 0) Zl)))) Zl))))
 (Zu (Yb (PD.weak WG))
 Z4)
 YY)
 (Zu (Yb (PD.weak (XO (Bj rfl) rfl T.b_all TF.boot_all (Zf (Xj (bk ["web","thing"] (Zx Zax).names ["tie","thing"] [none,some 1]) (ZcA (ZV ZW (va 0) ZK)) Y6 XX (Vz (Vg hr.units) (ZV ZW (va 1) (ZV ZW (va 0) ZK)) (ZV ZW (va 1) (ZV ZW (va 0) ZK)))) Zl))))
 Z4)))
noncomputable def Zl3:Zb->M Out:=(Zh (Ww (YO (dC (.int 3))) (ZD 2)
 (Zh (ZT 3 (Zo Zae (Zc (Za 1) (Zc (YX (Zc (dC (.int 0)) (Zc (dC (.int (-5))) (Zc (Zd W6 (dC (.int 10)) (dC (.int 59))) (Zc (dNeg (Zd W6 (dC (.int 10)) (dC (.int 58)))) Ze))))) Ze))))
 (Zh (ZT 4 (Zo Vc (Zc (Za 3) Ze)))
 (Zh (BX (Zoj 5 6 7 8) (Zo UF (Zc (Za 3) Ze)))
 (Zh (YJ (Vu (asB (Zd YT (Zd Zj (Zo Ur (Zc (Za 4) Ze)) (dC (.int 0))) (Za 5))) (Vu (X9 (asB (Zo Bl (Zc (Za 4) (Zc (Za 7) Ze))))) (X9 (asB (Zo Be (Zc (Za 4) (Zc (Za 8) Ze)))))))
 (Zh (ZP (dC (.bl false)))
 Zs)
 Zs)
 (Zh (BX (VE 9 10) (Yc (Zc (Zd W4 (Zo Z9 (Zc (Za 1) (Zc (dC (.int 99)) Ze))) (dC (.int 49))) (Zc (Zd Yp (dC (.int 1)) (Zo Z9 (Zc (Za 1) (Zc (dC (.int 5)) Ze)))) Ze))))
 (Zh (Ww (ZX (YX (Zc (ZY [none,none,some 10,some 9] (ZX (Za 3)) (VE 0 1) Z2 (Yc (Zc (Zd Yp (Zd W5 (Za 2) (Za 0)) (Za 3)) (Zc (Zd Yp (Zd W5 (Za 2) (Za 1)) (Za 3)) Ze)))) (Zc (ZY [none,none] (ZX (Za 3)) (VE 0 1) Z2 (Yc (Zc (Zd W4 (dC (.int 0)) (Za 1)) (Zc (Zd W4 (dC (.int 0)) (Za 0)) Ze)))) Ze)))) (ZD 11)
 (Zh (YJ (Vu (asB (Zd YT (Zo Vc (Zc (Za 11) Ze)) (Za 4))) (asB (Zd YT (Zd Zj (Zo UF (Zc (Za 11) Ze)) (dC (.int 0))) (Za 5))))
 (Zh (ZP (dC (.bl false)))
 Zs)
 Zs)
 Zs))
 (Zh (ZT 12 (Zo VA (Zc (Za 1) (Zc (ZA Z3 (Zc (Za 3) Ze)) Ze))))
 (Zh (YJ (asB (Zd YT (Zo Vc (Zc (ZY [none,some 3] (ZX (Za 12)) (ZD 0) Z2 (Zd Zj (Za 1) (Za 0))) Ze)) (Zo By (Zc (Za 4) (Zc (Za 12) Ze)))))
 (Zh (ZP (dC (.bl false)))
 Zs)
 Zs)
 (Zh (YJ (Wt (asB (Zd WM (ZA Z3 (Zc (Za 3) Ze)) (dC (.int 8)))) (asB (Zd YT (Zd Zj (Zo Ba (Zc (Za 4) Ze)) (dC (.int 0))) (Za 5))))
 (Zh (ZP (dC (.bl false)))
 Zs)
 Zs)
 (Zh (YJ (asB (Zd YT (Za 3) (YX Ze)))
 (Zh (ZT 13 (Zo Z9 (Zc (Za 1) (Zc (ZA Z3 (Zc (Za 3) Ze)) Ze))))
 (Zh (ZT 14 (Zd Yp (UU (Za 3) BQ (U4 (Za 13))) (UU (Za 3) (U4 (Zd Yp (Za 13) (dC (.int 1)))) BQ)))
 (Zh (YJ (asB (Zd YT (Zo Vc (Zc (Za 14) Ze)) (Zo BH (Zc (Za 4) (Zc (ZY [none,some 13] (YO (ZA Z3 (Zc (Za 3) Ze))) (ZD 0) (asB (Zd YT (Za 0) (Za 1))) (Za 0)) Ze)))))
 (Zh (ZP (dC (.bl false)))
 Zs)
 Zs)
 (Zh (YJ (X9 (ZeY (Zd W4 (Za 5) (dC (.int 1))) (Zix WM (Zd Zj (Zo UF (Zc (Za 14) Ze)) (dC (.int 0))) (Ziw WM (Za 5)))))
 (Zh (ZP (dC (.bl false)))
 Zs)
 Zs)
 Zs))))
 Zs)
 Zs)))))))))))
 (Zh (ZP (dC (.bl true)))
 Zs))
theorem ZhS:FnScope ["script","pen","turn","pieces","web","many","at","knot","hues","on","wide","other","order","k","fewer"] ["script"] (Zx s_law):=YH
theorem ZnC {cdv:Value}{A:Around}{outer:List Env}{s:Shared}{H:Hp}{E:XK}{L:List (Addr×Str)}(lo:Wm L)(T:Txt mg)(hr:Room 56 (A.deeper (envOfC "law" (Zx s_law) s.heap.objs.size j8 cdv)))(jM:ZJ P w K mg base 1 "_law_tdraw" 2 true (Wc XC L) Z9)(kf:ZJ P w K mg base 2 "_law_torder" 2 true (Wc XC L) VA)(kd:ZJ P w K mg base 2 "_law_tpieces" 2 true (Wc XC L) Zae)(kg:ZJ P w K mg base 56 "fewest_hues" 1 true (Yy L) Ba)(kj:ZJ P w K mg base 3 "is_hueing" 2 false ZS Be)(kD:ZJ P w K mg base 3 "is_knot" 2 false ZS Bl)(kG:ZJ P w K mg base 55 "most" 1 true (Yy L) Ur)(kM:ZJ P w K mg base 7 "moved" 2 false (Yy L) By)(kP:ZJ P w K mg base 7 "part" 2 false (Yy L) BH)(jZ:ZJ P w K mg base 7 "pieces_told" 1 false (Yy L) UF)(jP:ZJ P w K mg base 6 "web_of_pieces" 1 false ZS Vc)(G:Gh)(hG:(Wc XC L) G) :
  Wa (W3 ZQ P w K mg base ["script","pen","turn","pieces","web","many","at","knot","hues","on","wide","other","order","k","fewer"] "law" (Zx s_law) j8 cdv A outer s H E).nox G [] [] [] false ((Wp s_law).drop 1) Zl3:=
 have jN:=ZhS.nd;have hT:Yy L G:=jB lo hG
 (Zu (Ul (own:=[]) zW rfl (Bd rfl T.b_range ZK) (V2 jN rfl (qO rfl) (by decide))
 (Zu (YA (Yz jN rfl (yb rfl) (ZN (kd.mono) hG hr (Zf (va 1) (Zf (WY (Zf ZK (Zf Zht (Zf (YG Bv ZK ZK) (Zf (Zns (YG Bv ZK ZK)) Zl))))) Zl)))))
 (Zu (YA (Yz jN rfl (qO rfl) (ZN (jP.mono) trivial hr (Zf (va 3) Zl))))
 (Zu (Zf9 (ZN (jZ.mono) hT hr (Zf (va 3) Zl)) (ZlU rfl (by decide) (by decide) (by decide) (by decide) (hp:=(Vw (Wg jN rfl (qO rfl)) (Vw (Wg jN rfl (qO rfl)) (Vw (Wg jN rfl (qO rfl)) (Vw (Wg jN rfl (qO rfl)) Zcv)))))))
 (Zu (We (Wz.pt (ZeN (YZ (Vg hr.units) (ZV ZW (ZN (kG.mono) hT hr (Zf (va 4) Zl)) ZK) (va 5)) (ZeN (Uk (V3 (ZN (kD.mono) trivial hr (Zf (va 4) (Zf (va 7) Zl))))) (ZeL (Uk (V3 (ZN (kj.mono) trivial hr (Zf (va 4) (Zf (va 8) Zl)))))))))
 (Zu (Yb (PD.weak WG))
 Z4)
 YY)
 (Zu (Zf9 (XJ (Zf (YG Bt (ZN (jM.mono) hG hr (Zf (va 1) (Zf ZK Zl))) ZK) (Zf (YG XQ ZK (ZN (jM.mono) hG hr (Zf (va 1) (Zf ZK Zl)))) Zl))) (Zc0 rfl jN rfl rfl (yb rfl) (yb rfl) (by decide) (by decide) (hp:=Vw (Wg jN rfl (yb rfl)) (Vw (Wg jN rfl (yb rfl)) Zcv))))
 (Zu (Ul (own:=[]) zW rfl (Vb.n (XH (WY (Zf (Xj (bk ["script","pen","turn","pieces","web","many","at","knot","hues","on","wide","other","order","k","fewer"] (Zx s_law).names ["a","b","wide","on"] [none,none,some 10,some 9]) (XH (va 3)) (Zc0 rfl (show(["a","b","wide","on"]:List Str).Nodup by decide +kernel) rfl rfl (qO rfl) (qO rfl) rfl rfl (hp:=Vw (Wg (show(["a","b","wide","on"]:List Str).Nodup by decide +kernel) rfl (qO rfl)) (Vw (Wg (show(["a","b","wide","on"]:List Str).Nodup by decide +kernel) rfl (qO rfl)) Zcv))) XX (XJ (Zf (YG XQ (YG Bu (va 2) (va 0)) (va 3)) (Zf (YG XQ (YG Bu (va 2) (va 1)) (va 3)) Zl)))) (Zf (Xj (bk ["script","pen","turn","pieces","web","many","at","knot","hues","on","wide","other","order","k","fewer"] (Zx s_law).names ["a","b"] [none,none]) (XH (va 3)) (Zc0 rfl (show(["a","b"]:List Str).Nodup by decide +kernel) rfl rfl (qO rfl) (qO rfl) rfl rfl (hp:=Vw (Wg (show(["a","b"]:List Str).Nodup by decide +kernel) rfl (qO rfl)) (Vw (Wg (show(["a","b"]:List Str).Nodup by decide +kernel) rfl (qO rfl)) Zcv))) XX (XJ (Zf (YG Bt ZK (va 1)) (Zf (YG Bt ZK (va 0)) Zl)))) Zl))))) (V2 jN rfl (qO rfl) (by decide))
 (Zu (We (Wz.pt (ZeN (YZ (Vg hr.units) (ZN (jP.mono) trivial hr (Zf (va 11) Zl)) (va 4)) (ZeL (YZ (Vg hr.units) (ZV ZW (ZN (jZ.mono) hT hr (Zf (va 11) Zl)) ZK) (va 5)))))
 (Zu (Yb (PD.weak WG))
 Z4)
 YY)
 Z4))
 (Zu (YA (Yz jN rfl (qO rfl) (ZN (kf.mono) hG hr (Zf (va 1) (Zf (Xp T.b_len (Zf (va 3) Zl)) Zl)))))
 (Zu (We (YZ (Vg hr.units) (ZN (jP.mono) trivial hr (Zf (Xj (bk ["script","pen","turn","pieces","web","many","at","knot","hues","on","wide","other","order","k","fewer"] (Zx s_law).names ["k","pieces"] [none,some 3]) (XH (va 12)) Y6 XX (ZV ZW (va 1) (va 0))) Zl)) (ZN (kM.mono) hT hr (Zf (va 4) (Zf (va 12) Zl))))
 (Zu (Yb (PD.weak WG))
 Z4)
 YY)
 (Zu (We (Wz.pt (ZeM (YZ (JG) (Xp T.b_len (Zf (va 3) Zl)) ZK) (ZcV (YZ (Vg hr.units) (ZV ZW (ZN (kg.mono) hT hr (Zf (va 4) Zl)) ZK) (va 5)))))
 (Zu (Yb (PD.weak WG))
 Z4)
 YY)
 (Zu (We (YZ (Vg hr.units) (va 3) (WY Zl))
 (Zu (YA (Yz jN rfl (yb rfl) (ZN (jM.mono) hG hr (Zf (va 1) (Zf (Xp T.b_len (Zf (va 3) Zl)) Zl)))))
 (Zu (YA (Yz jN rfl (qO rfl) (YG XQ (Zf7 (va 3) Zf5 (Zf6 (va 13))) (Zf7 (va 3) (Zf6 (YG XQ (va 13) ZK)) Zf5))))
 (Zu (We (YZ (Vg hr.units) (ZN (jP.mono) trivial hr (Zf (va 14) Zl)) (ZN (kP.mono) hT hr (Zf (va 4) (Zf (Xj (bk ["script","pen","turn","pieces","web","many","at","knot","hues","on","wide","other","order","k","fewer"] (Zx s_law).names ["j","k"] [none,some 13]) (UH rfl T.b_range (Xp T.b_len (Zf (va 3) Zl))) Y6 (VF (YZ (Vg hr.units) (va 0) (va 1))) (va 0)) Zl))))
 (Zu (Yb (PD.weak WG))
 Z4)
 YY)
 (Zu (We (Uk (ZjD (YG Bt (va 5) ZK) (ZjC (JG) (ZV ZW (ZN (jZ.mono) hT hr (Zf (va 14) Zl)) ZK) (Zlh (JG) (va 5)))))
 (Zu (Yb (PD.weak WG))
 Z4)
 YY)
 Z4))))
 YY)
 Z4)))))))))))
 (Zu (Yb (PD.weak WG))
 Z4))
end K52
namespace K52
open L2 TF TQ
open TP
open TP2
open TP3
theorem Zbi:FnScope ["pen","many","found","one","two"] ["pen","many"] (Zx ZbE):=⟨rfl,rfl,rfl,by decide +kernel,rfl,by decide +kernel,by decide +kernel⟩
set_option maxHeartbeats 4000000 in
theorem ZdY {P:Program}{w:World}{K:qk}{mg:Str->Option Value}{base:Heap}{j8:Addr}{jO:FuncData}(F:Fun K "_law_tdraw" "_law_tdraw" ZbE j8 jO)(T:Txt mg) :
  FnOk P w K mg base ZQ 1 j8 jO ["pen","many"] (Ya 2 true XC Z9):=by
 have nd:=Zbi.nd;refine F.ok Zbi (fun vs H Q E h=>?_) fun cdv A outer s0 H vs Q E hr h=>?_
 ·obtain⟨G,Hf,ds,pn,d,pn',_,e,_⟩:=h
  exact e
 ·obtain⟨p,m,rfl,hs⟩:=ZjJ (K:=K) (N:=fun _ H'=>Q .non H') h
  have hu:=L2.hu_of hr;refine⟨_,WU (ZkD (PW.pt (ZkA (Br ZnY (Zbr Zam rfl T.b_len TF.boot_len (YS (WD hu (pv 0) X6 (fun _ _=>rfl)) Y8)) Y0 (JD _)) (Zia (Br ZnX (Zii Zcx (WD hu (pv 0) X6 (fun _ _=>rfl)) Y0 (fun _ _=>rfl)) (pv 1) (JD _)))))
    (Jx (Zib (Zij yJ qby qbz ZfI (WD hu (pv 0) X6 (fun _ _=>rfl)) (YS Y0 Y8)))) ZeF)
   (WU (ZkD (Br ZnY (Zbr Zam rfl T.b_len TF.boot_len (YS (WD hu (pv 0) X6 (fun _ _=>rfl)) Y8)) Y0 (JD _))
    (WU (Um (i:=2) nd rfl (qO rfl) (Xa US (Zii Zcx (WD hu (pv 0) X6 (fun _ _=>rfl)) Y0 (fun _ _=>rfl)) (pv 1)))
    (WU (ZgY (Xa Zic (Zii Zcx (WD hu (pv 0) X6 (fun _ _=>rfl)) Y0 (fun _ _=>rfl)) (pv 1)) (ZkF (WD hu (pv 0) X6 (fun _ _=>rfl)) Y0 ZfH))
    (Jx (JC (pv 2))))) ZeF)
   (WU (Zil hu (pv 0) X6 (Xa Uo (WD hu (pv 0) X6 (fun _ _=>rfl)) Y0) rfl)
   (WU (Um (i:=3) nd rfl (qO rfl) (Xa US (Xa Uo (WD hu (pv 0) X6 (fun _ _=>rfl)) (Xa UR (Xa UR Y0 (WD hu (pv 0) X6 (fun _ _=>rfl))) (WD hu (pv 0) X6 (fun _ _=>rfl)))) Y0))
   (WU (Um (i:=4) nd rfl (qO rfl) (Xa US (Xa Uo (Xa Uo (Xa UR (pv 3) (pv 3)) (Xa UR Y0 (WD hu (pv 0) X6 (fun _ _=>rfl)))) Y0) Y0))
   (Jx (JC (Xa US (Xa Zic (Xa US (Xa Uo (Xa UR (pv 4) (pv 4)) (pv 3)) Y0) Y0) (pv 1)))))))),hs⟩
theorem ZbI:FnScope ["script","mixed","cell"] ["script"] (Zx ZaW):=⟨rfl,rfl,rfl,by decide +kernel,rfl,by decide +kernel,by decide +kernel⟩
set_option maxHeartbeats 4000000 in
theorem Zfm {P:Program}{w:World}{K:qk}{mg:Str->Option Value}{base:Heap}{j8:Addr}{jO:FuncData}(F:Fun K "_law_tpen" "_law_tpen" ZaW j8 jO)(T:Txt mg) :
  FnOk P w K mg base ZQ 1 j8 jO ["script"] (Zod K):=by
 have nd:=ZbI.nd;refine F.ok ZbI (fun vs H Q E h=>?_) fun cdv A outer s0 H vs Q E hr h=>?_
 ·obtain⟨a,ns,rfl,_⟩:=h
  rfl
 ·obtain⟨a,ns,rfl,hsq⟩:=id h
  refine⟨_,WU (Um (i:=1) nd rfl (qO rfl) Y0)
   (WU (ZkJ zW rfl (ZeG (pv 0)) (Wg (i:=2) nd rfl (qO rfl)) (Jx (Um (i:=1) nd rfl (qO rfl) (Xa US (Xa Uo (Xa Uo (Xa UR (pv 1) Y0) (Xa US (pv 2) Y0)) Y0) Y0))))
   (Jx (JC (ZmY (ZcT X6 (pv 1) (ZcT X6 Y0 (ZcT X6
    (Zgb (N':=["cell"]) (src:=[none]) rfl (⟨rfl,rfl,by decide +kernel,rfl,by decide +kernel,rfl,by decide +kernel,by decide +kernel⟩:BlkS _ ["script","mixed","cell"] (Zx ZaW).names ["cell"] [none] _) (ZeG (pv 0)) (fun _ _ _ _ _ _=>Wg (i:=0) (show(["cell"]:List Str).Nodup by decide +kernel) rfl (qO rfl)) (fun _ _ _ _ _ _=>ZfP (Br ZnZ (pv 0) (Xa ZkK Y0 Y0) (JD _))) (fun _ _ _ _ _ _=>pv 0)) ZmX))) rfl rfl (by simp) (by decide))))),Znm hsq.1 hsq.2.1 hsq.2.2⟩
theorem Za3:FnScope ["pen","many","left"] ["pen","many"] (Zx ZaE):=⟨rfl,rfl,rfl,by decide +kernel,rfl,by decide +kernel,by decide +kernel⟩
set_option maxHeartbeats 4000000 in
theorem Zdy {P:Program}{w:World}{K:qk}{mg:Str->Option Value}{base:Heap}{j8:Addr}{jO:FuncData}(F:Fun K "_law_torder" "_law_torder" ZaE j8 jO)(T:Txt mg)(jM:ZJ P w K mg base 1 "_law_tdraw" 2 true XC Z9) :
  FnOk P w K mg base ZQ 2 j8 jO ["pen","many"] (Ya 2 true XC VA):=by
 have nd:=Za3.nd;refine F.ok Za3 (fun vs H Q E h=>?_) fun cdv A outer s0 H vs Q E hr h=>?_
 ·obtain⟨G,Hf,ds,pn,d,pn',_,e,_⟩:=h
  exact e
 ·obtain⟨fT,fdT,psT,FT,hmT,hkT,hbT⟩:=jM
  obtain⟨p,m,rfl,hs⟩:=ZhA (K:=K) (E':=E0) (N:=fun _ H'=>Q .non H') h;refine⟨_,WU (Um (i:=2) nd rfl (yb rfl) (ZbR (Zbs rfl) rfl T.b_list TF.boot_list (YS (ZbW rfl T.b_range (YS (pv 1) Y8)) Y8)))
   (Jx (JC (Zgb (te:=tPop K E0) (tt:=Zin) (N':=["k","left","pen"]) (src:=[none,some 2,some 0]) rfl (⟨rfl,rfl,by decide +kernel,rfl,by decide +kernel,rfl,by decide +kernel,by decide +kernel⟩:BlkS _ ["pen","many","left"] (Zx ZaE).names ["k","left","pen"] [none,some 2,some 0] _) (ZbQ rfl T.b_range (YS (pv 1) Y8)) (fun _ _ _ _ _ _=>Wg (i:=0) (show(["k","left","pen"]:List Str).Nodup by decide +kernel) rfl (qO rfl)) (fun _ _ _ _ _ _=>ZfO)
    (fun _ _ _ _ _ _=>by unfold tPop;exact Zij yJ qby qbz ZfI (pv 1) (YS (ZeI FT hr rfl hmT hkT hbT .nil Zim (YS (pv 2) (YS (Zbr Zam rfl T.b_len TF.boot_len (YS (pv 1) Y8)) Y8))) Y8))))),hs⟩
end K52
namespace TF
open L2
theorem ux0 {α:Type}(us:List α)(e:us.length=0):us=[]:=by cases us with | nil=>rfl | cons=>cases e
theorem ux1 {α:Type}(us:List α)(e:us.length=1):∃a,us=[a]:=by
 cases us with | nil=>cases e | cons a r=>cases ux0 r (qbf e);exact⟨a,rfl⟩
theorem ux2 {α:Type}(us:List α)(e:us.length=2):∃a b,us=[a,b]:=by
 cases us with | nil=>cases e | cons a r=>obtain⟨b,rfl⟩:=ux1 r (qbf e);exact⟨a,b,rfl⟩
theorem ux3 {α:Type}(us:List α)(e:us.length=3):∃a b c,us=[a,b,c]:=by
 cases us with | nil=>cases e | cons a r=>obtain⟨b,c,rfl⟩:=ux2 r (qbf e);exact⟨a,b,c,rfl⟩
theorem ux4 {α:Type}(us:List α)(e:us.length=4):∃a b c d,us=[a,b,c,d]:=by
 cases us with | nil=>cases e | cons a r=>obtain⟨b,c,d,rfl⟩:=ux3 r (qbf e);exact⟨a,b,c,d,rfl⟩
noncomputable def IsC (K:qk)(x:Str)(st:Stmt)(c:Addr):Prop:=∃(f:Addr) (fd:FuncData),qbg K mainGlobals x=some (some (.ref f))/\Fun K x x st f fd/\fd.code=.ref c
noncomputable def fnO (x:Str)(st:Stmt)(pm:Value)(c:Addr):Obj:=⟨.type "function",none,.func (yd x x (WW st) (Wp st) (Zx st) .none .none .none pm none (.ref c) .none),#[]⟩
noncomputable def cdO (x:Str)(t:Nat)(ln ac:Int)(a:Addr)(tx k:Nat)(v:Bool):Obj:=
 ⟨.type "code",none,.fields #[.str x t,.str x (t+1),.str "/claim/cut.py" (t+2),.int ln 0,.int ac 0,.int 0 0,.int 0 0,.int 3 0,.ref a,.bool true,.int tx 0,.ref (a+1),.none,
  (match v with | true=>.ref (a+2) | false=>.none),(match v with | true=>.ref (a+3) | false=>.none),.ref (match v with | true=>a+4 | false=>a+2),.int k 0,.int ln 0,.str "/claim/cut.py" (k+1)],#[]⟩
structure DRow where
 x:Str
 i:Nat
 t:Nat
 ln:Int
 ac:Int
 a:Addr
 k:Nat
 v:Bool
 pm:Str
 pt:Nat
noncomputable def DRow.c (r:DRow):Addr:=match r.v with | true=>r.a+5 | false=>r.a+3
noncomputable def dE (P:Params)(x:Str)(t:Nat)(v:Value):DictEntry:=⟨PyData.keyHash P x,.str x t,v⟩
noncomputable abbrev nE (x:Str)(t:Nat)(a:Addr):Str×Nat×Addr:=(x,t,a)
noncomputable abbrev dR (x:Str)(i t:Nat)(ln ac:Int)(a:Addr)(k:Nat)(v:Bool)(pm:Str)(pt:Nat):DRow:=⟨x,i,t,ln,ac,a,k,v,pm,pt⟩
noncomputable def dRs (P:Params)(l:List (Str×Nat×Addr)):List DictEntry:=l.map fun e=>dE P e.1 e.2.1 (.ref e.2.2)
noncomputable def ZpY (Z1:Nat->Stmt)(tx:Nat)(m:List DictEntry)(n:Nat)(rs:List DRow):qk:=
 (mainNs,⟨.type "dict",none,.dict m.toArray n,#[]⟩)::rs.flatMap fun r=>[(r.c,cdO r.x r.t r.ln r.ac r.a tx r.k r.v),(r.c+1,fnO r.x (Z1 r.i) (.str r.pm r.pt) r.c)]
theorem ZpZ {K:qk}{x:Str}{st:Stmt}{pm:Value}{c f:Addr}(a:qbg K mainGlobals x=some (some (.ref f)))(l:K.lookup f=some (fnO x st pm c))(cd:qai K (.ref c) x=true):IsC K x st c:=
 ⟨f,_,a,ZoW l cd (by unfold z0;dsimp only;rw[l];rfl),rfl⟩
theorem _root_.L2.Fun.lk {K:qk}{x q:Str}{st:Stmt}{f:Addr}{fd:FuncData}(F:Fun K x q st f fd):∃oc od osl,K.lookup f=some ⟨oc,od,.func fd,osl⟩:=by
 obtain⟨oc,od,kV,doc,pm,an,cdv,ct,osl,rfl,lk,hcd⟩:=F.ex;exact⟨_,_,_,lk⟩
noncomputable def Zpk:Stmt->Pos
 | .FunctionDef _ _ _ _ _ _ _ _ _ p=>p
 | _=>⟨0,0,0,0⟩
noncomputable abbrev ZhT (st:Stmt):DefRec:=⟨"law",WW st,Wp st,Zx st,Zpk st⟩
theorem head_of {l:PySem.W.OpenLaw}{q:Program}{K:Params->qk}{as:List Addr}{e:∀P,as=(K P).map (·.1)}{N:Nat}{st:Stmt}(said:l.wellSaid=true)
  (left:PySem.W.LeftO l.prog q [] (fun s=>PySem.W.xlAt q [] s&&PySem.W.recOk l.row.records s) (yL K as e).obs (yL K as e).val N)
  (hdef:PySem.W.defOf q l.row.name=some (ZhT st,[])) (hp:l.row.prog.theDef l.row.name=some (WW st,Wp st,Zx st))
  (hk:PySem.W.kwWritten? (WW st).kwonlyargs (WW st).kw_defaults=some [])
  (ok:(PySem.W.chainsOk q&&PySem.W.opensWell l.row.prog&&(PySem.W.frees l.row.toRowW&&l.row.within.isEmpty))=true) (hb:l.row.prog.bare) (hw:l.row.toRowW.promised) (hwr:(!l.row.writes||l.row.records.isEmpty)=true)
  (call:qbK q [] (PySem.W.XL q []) (yL K as e).says l.row.toRowW (ZhT st) [] fun f vs=>qbG f vs):l.Holds:=
 PySem.W.holds_law said fun sd=>PySem.W.holds_open left (yL K as e).of (yL K as e).keeps (fun s z=>PySem.W.xl_of s (yf.mp z).1) PySem.W.XL.keeps hdef hp hk (fun s z=>PySem.W.recFacts_of (yf.mp z).2) hwr sd ok hb hw call
noncomputable def AtR (K:qk)(mg:Str->Option Value)(Z1:Nat->Stmt)(r:DRow):Prop:=∃(f:Addr) (fd:FuncData),Fun K r.x r.x (Z1 r.i) f fd/\mg r.x=some (.ref f)/\fd.code=.ref r.c
noncomputable def Zon (K:qk)(Z1:Nat->Stmt)(r:DRow):Prop:=qbg K mainGlobals r.x=some (some (.ref (r.c+1)))/\K.lookup (r.c+1)=some (fnO r.x (Z1 r.i) (.str r.pm r.pt) r.c)/\qai K (.ref r.c) r.x=true
noncomputable def Zfn (K:qk)(Z1:Nat->Stmt):List DRow->Prop
 | []=>True
 | r::l=>Zon K Z1 r/\Zfn K Z1 l
theorem ZgC {K:qk}{Z1:Nat->Stmt}:∀{l:List DRow} {j:Nat} {r:DRow},Zfn K Z1 l->l[j]?=some r->Zon K Z1 r
 | _::_,0,_,h,e=>by cases e;exact h.1
 | _::l,j+1,_,h,e=>ZgC (l:=l) h.2 e
theorem Zpl {K:qk}{h:Heap}{mg:Str->Option Value}{Z1:Nat->Stmt}{l:List DRow}(ok:Zfn K Z1 l)(X:K.In h)(G:h.Ns mainGlobals mg)(j:Nat){r:DRow}(e:l[j]?=some r:=by rfl):AtR K mg Z1 r:=by
 obtain⟨a,b,c⟩:=ZgC ok e;obtain⟨f,fd,a,F,d⟩:=ZpZ a b c;exact⟨f,fd,F,PySem.W.mg_of X G a,d⟩
theorem B6 {K:qk}{x:Str}{st:Stmt}{f:Addr}{fd:FuncData}(ps:List Str)(F:Fun K x x st f fd)
  (h:∀(kV doc pm:Value) (an:Option Addr) (cdv ct:Value) (us:List Value),us.length=ps.length->bindArgs (yd x x (WW st) (Wp st) (Zx st) .none kV doc pm an cdv ct) ⟨us,[]⟩=pure (ps.zip us):=by
   intro _ _ _ _ _ _ us hl
   first
    | (obtain⟨_,rfl⟩:=TF.ux1 us hl;rfl)
    | (obtain⟨_,_,rfl⟩:=TF.ux2 us hl;rfl)
    | (obtain⟨_,_,_,rfl⟩:=TF.ux3 us hl;rfl)
    | (obtain⟨_,_,_,_,rfl⟩:=TF.ux4 us hl;rfl)
    | (obtain⟨_,_,_,_,_,rfl⟩:=TF.ux5 us hl;rfl)
    | (obtain⟨_,_,_,_,_,_,rfl⟩:=TF.ux6 us hl;rfl)
    | (obtain⟨_,_,_,_,_,_,_,rfl⟩:=TF.ux7 us hl;rfl)
    | (obtain rfl:=TF.ux0 us hl;rfl)):XV K fd ps []:=F.binds h
theorem mkc {P:Program}{w:World}{K:qk}{mg:Str->Option Value}(base:Heap){x:Str}{st:Stmt}{f:Addr}{fd:FuncData}{k n:Nat}{ps:List Str}{fr:Bool}{GG:Gh->Prop}{F9:List D->M D}(F:Fun K x x st f fd)(m:mg x=some (.ref f))(ok:FnOk P w K mg base ZQ k f fd ps (Ya n fr GG F9))
  (h:∀(kV doc pm:Value) (an:Option Addr) (cdv ct:Value) (us:List Value),us.length=ps.length->bindArgs (yd x x (WW st) (Wp st) (Zx st) .none kV doc pm an cdv ct) ⟨us,[]⟩=pure (ps.zip us):=by
   intro _ _ _ _ _ _ us hl
   first
    | (obtain⟨_,rfl⟩:=TF.ux1 us hl;rfl)
    | (obtain⟨_,_,rfl⟩:=TF.ux2 us hl;rfl)
    | (obtain⟨_,_,_,rfl⟩:=TF.ux3 us hl;rfl)
    | (obtain⟨_,_,_,_,rfl⟩:=TF.ux4 us hl;rfl)
    | (obtain⟨_,_,_,_,_,rfl⟩:=TF.ux5 us hl;rfl)
    | (obtain⟨_,_,_,_,_,_,rfl⟩:=TF.ux6 us hl;rfl)
    | (obtain⟨_,_,_,_,_,_,_,rfl⟩:=TF.ux7 us hl;rfl)
    | (obtain rfl:=TF.ux0 us hl;rfl)):ZJ P w K mg base k x n fr GG F9:=⟨f,fd,ps,ok,m,F.kp,F.binds h⟩
end TF
namespace TP2
open L2 TF TP
end TP2
namespace TP2
open L2 TF TP
noncomputable abbrev nD (i:Nat):D:=.int (i:Int)
noncomputable def ZI (k:List Nat):D:=.tup (k.map nD)
noncomputable def okK (jK:List (Nat×Nat))(i:Nat)(k:List Nat):Bool:=k.all fun o=>decide ((o,i)∈jK)
noncomputable def kn (jK:List (Nat×Nat)):Nat->List (List Nat)
 | 0=>[[]]
 | i+1=>kn jK i++((kn jK i).filter (okK jK i)).map (· ++ [i])
theorem BI {jK:List (Nat×Nat)}:∀{i:Nat} {k:List Nat},k∈kn jK i->(∀o∈k,o<i)/\k.length<=i
 | 0,k,h=>by
  have:k=[]:=by simpa[kn] using h
  subst this;simp
 | i+1,k,h=>by
  rw[kn] at h;rcases qP.mp h with h | h
  ·have:=BI h
   exact⟨fun o ho=>yy (this.1 o ho),by omega⟩
  ·obtain⟨q,hq,rfl⟩:=qy.mp h
   have:=BI (qA.mp hq).1;refine⟨fun o ho=>?_,by simp;omega⟩;rcases qP.mp ho with ho | ho
   ·exact yy (this.1 o ho)
   ·rw[qN.mp ho];omega
theorem ZiP (jK:List (Nat×Nat)):∀i,∃r,kn jK i=[]::r
 | 0=>⟨[],rfl⟩
 | i+1=>by
  obtain⟨r,e⟩:=ZiP jK i;refine⟨r++((kn jK i).filter (okK jK i)).map (· ++ [i]),?_⟩;rw[kn]
  conv=>lhs;lhs;rw[e]
  rfl
theorem Zl4 (p:Nat×Nat)(jK:List (Nat×Nat)):Xn (Ym p) (.dt (Xo [] jK))=some (.bl (decide (p∈jK))):=by
 have e:Uw (Ym p) (.dt (Xo [] jK))=some (decide (p∈jK)):=by
  show(Xq [.int (p.1:Int),.int (p.2:Int)]).map (fun k=>(ZZ (Xo [] jK) k).isSome)=_;show some ((ZZ (Xo [] jK) (W8 p)).isSome)=_;rw[Zf1];simp[ZZ]
 unfold Xn;rw[e];rfl
theorem Bp {α:Type}(l:List α)(p:α->Bool):VO [.lst (l.map fun x=>D.bl (p x))]=some (.bl (l.all p)):=by
 show(Xh _).map _=_;rw[show l.map (fun x=>D.bl (p x))=(l.map p).map D.bl by rw[qG];rfl,ZfU];show some (D.bl _)=some (D.bl _);rw[qa9];rfl
theorem ZnD (k:List Nat)(i:Nat)(h:k.length<=1000):Yp (ZI k) (.tup [nD i])=some (ZI (k ++ [i])):=by
 unfold ZI;show(if (k.map nD).length + [nD i].length<=sizeLine then some (D.tup (k.map nD ++ [nD i])) else none)=_;rw[if_pos (by rw[qd,Yv];simp;omega),zD];rfl
noncomputable def Yf (n:Nat)(jK:List (Nat×Nat))(p:Nat):List Nat:=(qp n).filter fun o=>tied jK p o
noncomputable def Y9 (n:Nat)(jK:List (Nat×Nat)):D:=.lst ((qp n).map fun p=>.lst ((Yf n jK p).map nD))
theorem Zpm (a b:Nat):ZM (nD a) (nD b)=decide (a=b):=by
 show((a:Int)==(b:Int))=_;rw[zo,beq_iff_eq,decide_eq_true_eq];constructor <;> intro h <;> omega
theorem Zl5 (o:Nat)(l:List Nat):Vv (nD o) (l.map nD)=decide (o∈l):=by
 unfold Vv
 induction l with
 | nil=>simp
 | cons t ts ih=>
  rw[zb,qaA,ih,Zpm];by_cases h:t=o
  ·subst h;simp
  ·have:¬o=t:=fun z=>h z.symm
   simp[h,this]
theorem Zdz (l:List Nat):Yw (l.map nD)=true:=by
 induction l with
 | nil=>simp[Yw]
 | cons a l ih=>simp[Yw,Zq,ih]
theorem ZiQ (l:List Nat):Xl (l.map nD)=0:=by
 induction l with
 | nil=>simp[Xl]
 | cons a l ih=>simp[Xl,Yg,ih]
theorem Zl6 (o:Nat)(l:List Nat):Xn (nD o) (.lst (l.map nD))=some (.bl (decide (o∈l))):=by
 have h:Vr (nD o) (l.map nD)=true:=by simp[Vr,Zq,Zdz,Yg,ZiQ]
 simp only[Xn,Uw,h,if_true,Option.map,Zl5]
end TP2
namespace TP2
open L2 TF TP
noncomputable def Xt (l:List Nat):Nat:=l.foldl max 0
theorem Zfo (l:List Nat):∀a,a<=l.foldl max a/\∀x∈l,x<=l.foldl max a:=by
 induction l with
 | nil=>intro a;simp
 | cons b l ih=>
  intro a;obtain⟨h1,h2⟩:=ih (max a b);refine⟨?_,fun x hx=>?_⟩
  ·show a<=l.foldl max (max a b);omega
  ·show x<=l.foldl max (max a b)
   rcases qu.mp hx with rfl | hx
   ·omega
   ·exact h2 x hx
theorem Zfp (l:List Nat)(b:Nat)(h:∀x∈l,x<=b):∀a,a<=b->l.foldl max a<=b:=by
 induction l with
 | nil=>intro a ha;exact ha
 | cons c l ih=>
  intro a ha;exact ih (fun x hx=>h x (by simp[hx])) (max a c) (by have:=h c (by simp);omega)
theorem ZgD (l:List Nat):∀a:Nat,maxI (a:Int) (l.map fun(i:Nat)=>(i:Int))=((l.foldl max a:Nat):Int):=by
 induction l with
 | nil=>intro a;rfl
 | cons b l ih=>
  intro a;show maxI (max (a:Int) (b:Int)) (l.map fun(i:Nat)=>(i:Int))=_;rw[show max (a:Int) (b:Int)=((max a b:Nat):Int) by omega,ih];rfl
theorem Zaz (l:List Nat):ZR (l.map nD)=some (l.map fun(i:Nat)=>(i:Int)):=by
 have:=Zbj (l.map fun(i:Nat)=>(i:Int));rw[qG] at this;exact this
noncomputable def Vn (jK:List (Nat×Nat))(n:Nat):List Nat:=(kn jK n).map yX
theorem Zj7 (jK:List (Nat×Nat))(n:Nat):∃r,Vn jK n=0::r:=by
 obtain⟨r,e⟩:=ZiP jK n;exact⟨r.map yX,by unfold Vn;rw[e];rfl⟩
end TP2
namespace TP2
open L2 TF TP
theorem ZdA:∀{a b:List Nat},a.Pairwise (· < ·)->b.Pairwise (· < ·)->(∀x,x∈a↔x∈b)->a=b
 | [],[],_,_,_=>rfl
 | [],y::b,_,_,h=>absurd ((h y).mpr (by simp)) (by simp)
 | x::a,[],_,_,h=>absurd ((h x).mp (by simp)) (by simp)
 | x::a,y::b,ha,hb,h=>by
  have ha':=zO.mp ha;have hb':=zO.mp hb;have e:x=y:=by
   have h1:=(h x).mp (by simp);have h2:=(h y).mpr (by simp);rcases qu.mp h1 with h1 | h1
   ·exact h1
   ·rcases qu.mp h2 with h2 | h2
    ·exact h2.symm
    ·have:=ha'.1 y h2
     have:=hb'.1 x h1;omega
  subst e;rw[ZdA ha'.2 hb'.2 fun z=>?_];constructor
  ·intro hz
   rcases qu.mp ((h z).mp (qK _ hz)) with e | e
   ·exact absurd (ha'.1 z hz) (by omega)
   ·exact e
  ·intro hz
   rcases qu.mp ((h z).mpr (qK _ hz)) with e | e
   ·exact absurd (hb'.1 z hz) (by omega)
   ·exact e
theorem Zev {α:Type}(q:α->Bool):∀l:List α,l.length=(l.filter q).length+(l.filter fun x=>!q x).length
 | []=>rfl
 | a::l=>by
  have:=Zev q l
  cases h:q a with
  | true=>simp[qbh,h];omega
  | false=>simp[qbh,h];omega
end TP2
namespace TP2
open L2 TF TP
noncomputable def RT (jK:List (Nat×Nat))(a b:Nat):Prop:=a<b/\(a,b)∈jK
theorem UW {jK:List (Nat×Nat)}:∀{n:Nat} {k:List Nat},k∈kn jK n↔k.Pairwise (RT jK)/\∀o∈k,o<n
 | 0,k=>by
  constructor
  ·intro h
   have:k=[]:=by simpa[kn] using h
   subst this;exact⟨.nil,by simp⟩
  ·rintro⟨_,h⟩
   cases k with
   | nil=>simp[kn]
   | cons a k=>exact absurd (h a (by simp)) (by omega)
 | n+1,k=>by
  rw[kn,qP];constructor
  ·rintro(h | h)
   ·have:=UW.mp h
    exact⟨this.1,fun o ho=>yy (this.2 o ho)⟩
   ·obtain⟨q,hq,rfl⟩:=qy.mp h
    obtain⟨hq1,hq2⟩:=qA.mp hq;have:=UW.mp hq1;unfold okK at hq2;rw[zd] at hq2;refine⟨yT.mpr ⟨this.1,by simp,fun a ha b hb=>?_⟩,fun o ho=>?_⟩
    ·rw[qN.mp hb]
     exact⟨this.2 a ha,by simpa using hq2 a ha⟩
    ·rcases qP.mp ho with ho | ho
     ·exact yy (this.2 o ho)
     ·rw[qN.mp ho];omega
  ·rintro⟨h1,h2⟩
   by_cases hn:n∈k
   ·right
    obtain⟨a,b,rfl⟩:=List.append_of_mem hn;have hp:=yT.mp h1;have hb:b=[]:=by
     cases b with
     | nil=>rfl
     | cons y b=>
      have r1:=(zO.mp hp.2.1).1 y (by simp);have:=h2 y (by simp);have:=r1.1;omega
    subst hb;have ha:∀o∈a,RT jK o n:=fun o ho=>hp.2.2 o ho n (by simp);refine qy.mpr ⟨a,qA.mpr ⟨UW.mpr ⟨hp.1,fun o ho=>(ha o ho).1⟩,?_⟩,rfl⟩;unfold okK;rw[zd];exact fun o ho=>by simpa using(ha o ho).2
   ·left
    refine UW.mpr ⟨h1,fun o ho=>?_⟩;have:=h2 o ho;have:o≠n:=fun z=>hn (z▸ho);omega
theorem ZdB (jK:List (Nat×Nat)):∀n,(kn jK n).Nodup
 | 0=>by simp[kn]
 | n+1=>by
  rw[kn];refine yT.mpr ⟨ZdB jK n,?_,fun a ha b hb e=>?_⟩
  ·refine yz.mpr (((ZdB jK n).sublist zg).imp fun h e=>h ?_)
   exact List.append_cancel_right e
  ·obtain⟨q,_,rfl⟩:=qy.mp hb
   have:=(BI ha).1 n (by rw[e];simp);omega
theorem ZnE {jK:List (Nat×Nat)}{n:Nat}{k:List Nat}(h:k∈kn jK n):k.Pairwise (· < ·):=(UW.mp h).1.imp fun h=>h.1
theorem Zl7 {R:Nat->Nat->Prop}{k:List Nat}(hr:k.Pairwise (· < ·))(h:k.Pairwise R){a b:Nat}(ha:a∈k)(hb:b∈k)(hab:a<b):R a b:=by
 obtain⟨i,hi,rfl⟩:=yZ ha;obtain⟨j,hj,rfl⟩:=yZ hb;have p1:=zw.mp hr;have p2:=zw.mp h;rcases qa4 i j with z | z | z
 ·exact p2 i j hi hj z
 ·subst z;exact absurd hab (yj _)
 ·have:=p1 j i hj hi z;omega
theorem IsWeb.irr {n:Nat}{jK:List (Nat×Nat)}(h:IsWeb n jK)(a:Nat):tied jK a a=false:=by
 unfold tied;rw[decide_eq_false_iff_not];intro z;have h1:min a a<max a a:=(TP.IsWeb.mem h z).1;omega
end TP2
namespace TP3
open L2 TF TP TS
open TP2
noncomputable def X8 (k:List Nat):List Int:=k.map fun(x:Nat)=>(x:Int)
end TP3
namespace TP3
open L2 TF TP TS
open TP2
theorem Xv {n:Nat}{jK:List (Nat×Nat)}{k:List Nat}:k∈kn jK n↔k.Pairwise (· < ·)/\(∀o∈k,o<n)/\∀a∈k,∀b∈k,a≠b->tied jK a b=true:=by
 rw[UW];constructor
 ·rintro⟨h1,h2⟩
  have hr:k.Pairwise (· < ·):=h1.imp fun h=>h.1;refine⟨hr,h2,fun a ha b hb hab=>?_⟩;by_cases hlt:a<b
  ·rw[Jz hlt];simpa using(Zl7 hr h1 ha hb hlt).2
  ·have hlt:b<a:=by omega
   rw[V0,Jz hlt];simpa using(Zl7 hr h1 hb ha hlt).2
 ·rintro⟨hr,h2,h3⟩
  refine⟨?_,h2⟩;refine zM (fun {a b} ha hb hab=>?_) hr;refine⟨hab,?_⟩;have:=h3 a ha b hb (by omega);rw[Jz hab] at this;simpa using this
noncomputable def Wn (n:Nat)(f:Nat->Nat)(k:List Nat):List Nat:=(qp n).filter fun x=>decide (x∈k.map f)
theorem Jq (n:Nat):(qp n).Pairwise (· < ·):=List.pairwise_lt_range
theorem ZdC (n:Nat)(f:Nat->Nat)(k:List Nat):(Wn n f k).Pairwise (· < ·):=(Jq n).sublist zg
theorem Vy {n:Nat}{f:Nat->Nat}{k:List Nat}{x:Nat}:x∈Wn n f k↔x<n/\∃a∈k,f a=x:=by
 unfold Wn;rw[qA,qB,decide_eq_true_eq,qy]
theorem VZ {k:List Nat}(h:k.Pairwise (· < ·)):k.Nodup:=h.imp fun h=>by omega
structure Emb (m n:Nat)(f:Nat->Nat)(tm tn:List (Nat×Nat)):Prop where
 lt:∀a,a<m->f a<n
 inj:∀a b,a<m->b<m->f a=f b->a=b
 td:∀a b,a<m->b<m->tied tm a b=tied tn (f a) (f b)
section
variable {m n:Nat}{f:Nat->Nat}{tm tn:List (Nat×Nat)}
theorem Zl8 (E:Emb m n f tm tn){k:List Nat}(hr:k.Pairwise (· < ·))(hm:∀o∈k,o<m):(Wn n f k).Perm (k.map f):=by
 refine(yW (VZ (ZdC n f k)) ?_).mpr fun x=>?_
 ·refine yz.mpr (zM (fun {a b} ha hb hab e=>?_) hr)
  have:=E.inj a b (hm a ha) (hm b hb) e;omega
 ·rw[Vy,qy]
  exact⟨fun h=>h.2,fun h=>⟨by obtain⟨a,ha,rfl⟩:=h;exact E.lt a (hm a ha),h⟩⟩
theorem Zfq (E:Emb m n f tm tn){k:List Nat}(hr:k.Pairwise (· < ·))(hm:∀o∈k,o<m):(Wn n f k).length=k.length:=by
 rw[(Zl8 E hr hm).length_eq,qd]
theorem ZnF (E:Emb m n f tm tn){k k':List Nat}(hr:k.Pairwise (· < ·))(hm:∀o∈k,o<m)(hr':k'.Pairwise (· < ·))(hm':∀o∈k',o<m)(e:Wn n f k=Wn n f k'):k=k':=by
 have one:∀{k k':List Nat},(∀o∈k,o<m)->(∀o∈k',o<m)->Wn n f k=Wn n f k'->∀x∈k,x∈k':=fun {k k'} hm hm' e x hx=>by
  have:f x∈Wn n f k':=e▸Vy.mpr ⟨E.lt x (hm x hx),x,hx,rfl⟩;obtain⟨_,a,ha,q⟩:=Vy.mp this;rw[<-E.inj a x (hm' a ha) (hm x hx) q];exact ha
 exact ZdA hr hr' fun x=>⟨one hm hm' e x,one hm' hm e.symm x⟩
theorem ZhU (E:Emb m n f tm tn){k:List Nat}(hr:k.Pairwise (· < ·))(hm:∀o∈k,o<m):Wn n f k∈kn tn n↔k∈kn tm m:=by
 rw[Xv,Xv];constructor
 ·rintro⟨_,_,h⟩
  refine⟨hr,hm,fun a ha b hb hab=>?_⟩;rw[E.td a b (hm a ha) (hm b hb)];exact h _ (Vy.mpr ⟨E.lt a (hm a ha),a,ha,rfl⟩) _ (Vy.mpr ⟨E.lt b (hm b hb),b,hb,rfl⟩) fun z=>hab (E.inj a b (hm a ha) (hm b hb) z)
 ·rintro⟨_,_,h⟩
  refine⟨ZdC n f k,fun o ho=>(Vy.mp ho).1,fun x hx y hy hxy=>?_⟩;obtain⟨_,a,ha,rfl⟩:=Vy.mp hx;obtain⟨_,b,hb,rfl⟩:=Vy.mp hy;rw[<-E.td a b (hm a ha) (hm b hb)];exact h a ha b hb fun z=>hxy (by rw[z])
theorem WT {α:Type}[BEq α][LawfulBEq α]:∀{a b:List α},a.Nodup->(∀x∈a,x∈b)->a.length<=b.length
 | [],_,_,_=>by simp
 | x::a,b,nd,h=>by
  have nd':=zx.mp nd;have hx:=h x (by simp);have ih:=WT (a:=a) (b:=b.erase x) nd'.2 fun y hy=>(List.mem_erase_of_ne (fun(z:y=x)=>nd'.1 (by rw[<-z];exact hy))).mpr (h y (by simp[hy]));have:=List.length_erase_of_mem hx;have:0<b.length:=List.length_pos_of_mem hx;simp only[qR];omega
theorem Zb3 {α:Type}(g:α->Nat)(j:Nat):∀l:List α,(l.map g).count j=(l.filter fun x=>g x==j).length
 | []=>rfl
 | a::l=>by
  rw[zb,List.count_cons,Zb3 g j l,qbh]
  cases h:g a==j <;> simp
theorem Zj8 (E:Emb m n f tm tn)(j:Nat):(Vn tm m).count j<=(Vn tn n).count j:=by
 unfold Vn;rw[Zb3,Zb3];have h1:(((kn tm m).filter fun x=>x.length==j).map (Wn n f)).length=((kn tm m).filter fun x=>x.length==j).length:=qd ..;rw[<-h1];refine WT ?_ fun x hx=>?_
 ·refine yz.mpr (zM (fun {a b} ha hb hab e=>?_) ((ZdB tm m).sublist zg))
  have ha:=Xv.mp (qA.mp ha).1;have hb:=Xv.mp (qA.mp hb).1;exact hab (ZnF E ha.1 ha.2.1 hb.1 hb.2.1 e)
 ·obtain⟨k,hk,rfl⟩:=qy.mp hx
  obtain⟨hk1,hk2⟩:=qA.mp hk;have hk:=Xv.mp hk1;exact qA.mpr ⟨(ZhU E hk.1 hk.2.1).mpr hk1,by rw[Zfq E hk.1 hk.2.1];exact hk2⟩
theorem ZiR {l:List Nat}(h:∃r,l=0::r):Xt l∈l:=by
 have key:∀(l:List Nat) (a:Nat),l.foldl max a=a∨l.foldl max a∈l:=by
  intro l
  induction l with
  | nil=>intro a;exact .inl rfl
  | cons b l ih=>
   intro a;show l.foldl max (max a b)=a∨l.foldl max (max a b)∈b::l;rcases ih (max a b) with e | e
   ·rcases Nat.le_total a b with h | h
    ·right;rw[e,qaD h];simp
    ·left;rw[e,Nat.max_eq_left h]
   ·right;exact qK _ e
 obtain⟨r,rfl⟩:=h;rcases key (0::r) 0 with e | e
 ·unfold Xt;rw[e];simp
 ·exact e
theorem Zfr {l:List Nat}{x:Nat}(h:x∈l):x<=Xt l:=(Zfo l 0).2 x h
theorem Zpn (E:Emb m n f tm tn):Xt (Vn tm m)<=Xt (Vn tn n):=by
 have h:=ZiR (Zj7 tm m);have h1:0<(Vn tm m).count (Xt (Vn tm m)):=List.count_pos_iff.mpr h;have h2:=Zj8 E (Xt (Vn tm m));exact Zfr (List.count_pos_iff.mp (by omega))
end
noncomputable def Y5 (jK:List (Nat×Nat))(ps:List Nat):List (Nat×Nat):=(YQ ps.length).filter fun p=>tied jK (ps.getD p.1 0) (ps.getD p.2 0)
theorem ZbJ (jK:List (Nat×Nat))(ps:List Nat):IsWeb ps.length (Y5 jK ps):=IsWeb.filter _
theorem Zj9 {n:Nat}{jK:List (Nat×Nat)}(hw:IsWeb n jK){ps:List Nat}{a b:Nat}(ha:a<ps.length)(hb:b<ps.length):tied (Y5 jK ps) a b=tied jK (ps.getD a 0) (ps.getD b 0):=by
 have lt:∀{a b:Nat},a<b->b<ps.length->tied (Y5 jK ps) a b=tied jK (ps.getD a 0) (ps.getD b 0):=fun {a b} hab hb=>by
  rw[Jz hab];unfold Y5;rw[zo,decide_eq_true_eq,qA,Wo];exact⟨fun h=>h.2,fun h=>⟨⟨hab,hb⟩,h⟩⟩
 rcases qa4 a b with h | h | h
 ·exact lt h hb
 ·subst h;rw[IsWeb.irr (ZbJ jK ps),IsWeb.irr hw]
 ·rw[V0,lt h ha,V0]
theorem ZdD {n:Nat}{jK:List (Nat×Nat)}(hw:IsWeb n jK){ps:List Nat}(nd:ps.Nodup)(hp:∀o∈ps,o<n):Emb ps.length n (fun i=>ps.getD i 0) (Y5 jK ps) jK where
 lt:=fun a ha=>by
  rw[qf,qm ha];exact hp _ (zu ha)
 inj:=fun a b ha hb e=>by
  rw[qf,qm ha,qf,qm hb] at e;exact(List.getElem_inj nd).mp e
 td:=fun a b ha hb=>Zj9 hw ha hb
end TP3
namespace TP3
open L2 TF TP TS
open TP2
theorem ZaN (jK:List (Nat×Nat))(a b:Nat)(s:Pn):WQ [.dt (Xo [] jK),.int a,.int b] s=some (.bl (tied jK a b),s):=by
 simp[WQ,Zda,runB,Zh,ZP,Zs,Zd,ZA,Zc,Ze,Yc,Za,Zn,ZB,YR,U3,Zk3,two_le,Zhq,Zl4,tied]
theorem UQ {as:List Nat}{j:Nat}(hj:j<as.length):XD (as.map nD) (j:Int)=some (nD (as.getD j 0)):=by
 refine WC ?_;rw[qD,qf,qm hj];rfl
theorem Zka (ps:List Nat):Z3 [.lst (ps.map nD)]=some (nD ps.length):=by
 show some (D.int ((ps.map nD).length:Nat))=_;rw[qd]
theorem Zl9 {as:List Nat}:((qp (as.length-1)).all fun i=>decide (as.getD i 0<as.getD (i+1) 0))=decide (as.Pairwise (· < ·)):=by
 rw[zo,zd,decide_eq_true_eq,zw];have g:∀j (h:j<as.length),as.getD j 0=as[j]:=fun j h=>by rw[qf,qm h];rfl
 constructor
 ·intro h
  have step:∀d i (h1:i+d+1<as.length),as.getD i 0<as.getD (i+d+1) 0:=by
   intro d
   induction d with
   | zero=>intro i h1;simpa using h i (by rw[qB];omega)
   | succ d ih=>
    intro i h1;have q1:=ih i (by omega);have q2:as.getD (i+d+1) 0<as.getD (i+d+1+1) 0:=by simpa using h (i+d+1) (by rw[qB];omega)
    have:i+(d+1)+1=i+d+1+1:=by omega
    rw[this];omega
  intro i j hi hj hij;have:=step (j-i-1) i (by omega);rw[show i+(j-i-1)+1=j by omega,g i hi,g j hj] at this;exact this
 ·intro h i hi
  have hi:=qB.mp hi;rw[decide_eq_true_eq,g i (by omega),g (i+1) (by omega)];exact h i (i+1) (by omega) (by omega) (by omega)
theorem Zkb (as:List Nat)(hl:as.length<=100000)(s:Pn):Bx [ZI as] s=some (.bl (decide (as.Pairwise (· < ·))),s):=by
 refine YI rfl (Z8 (YE ?_));have hi:YO (Zd W4 (ZA Z3 (Zc (Za 0) Ze)) (dC (.int 1))) [some (ZI as)] s=some (Ye 0 (as.length-1),s):=by
  by_cases h0:as.length=0
  ·have:as=[]:=zP.mp h0
   subst this;rfl
  ·refine Vf (Zr (d:=.int as.length) (e:=.int 1) (Yj (Zg rfl rfl) ?_) rfl ?_) (by omega)
   ·show some (D.int ((as.map nD).length:Nat))=_
    rw[qd]
   ·show some (D.int _)=some (D.int _)
    congr 2;omega
 have hc:=YW (src:=[none,some 0]) (τ:=ZD 0) (ft:=Z2) (fe:=Zd WN (Zd Zj (Za 1) (Za 0)) (Zd Zj (Za 1) (Zd Yp (Za 0) (dC (.int 1))))) (ρ:=[some (ZI as)]) (s:=s) (fun d=>[some d,some (ZI as)]) (fun _=>true) (fun d=>.bl (decide (as.getD (Yi d) 0<as.getD (Yi d+1) 0))) hi (ZeV (by omega)) fun d hd=>by
  obtain⟨i,hi,rfl⟩:=UI hd;refine⟨rfl,rfl,fun _=>?_⟩;refine Zr (Zr (d:=ZI as) (e:=.int (i:Int)) rfl rfl (UQ (by omega))) (Zr (d:=ZI as) (e:=.int ((i+1:Nat):Int)) rfl (Zr (d:=.int (i:Int)) (e:=.int 1) rfl rfl (by simp[Yp])) (UQ (by omega))) ?_;show some (D.bl (decide ((as.getD i 0:Int)<(as.getD (i+1) 0:Int))))=some (D.bl (decide (as.getD i 0<as.getD (i+1) 0)));congr 3;rw[Int.ofNat_lt]
 refine Yj (Zg hc rfl) ?_;rw[WS,V4,qG,<-Zl9];exact Bp (qp (as.length-1)) fun i=>decide (as.getD i 0<as.getD (i+1) 0)
theorem ZgE {as:List Nat}{p:Nat×Nat}(h1:p.1<as.length)(h2:p.2<as.length):WO (as.map nD) p=Ym (as.getD p.1 0,as.getD p.2 0):=by
 have g:∀j,j<as.length->(as.map nD).getD j .non=nD (as.getD j 0):=fun j hj=>by
  rw[qf,qD,qm hj,qf,qm hj];rfl
 unfold WO;rw[g _ h1,g _ h2];rfl
theorem ZhV {n:Nat}{jK:List (Nat×Nat)}{as:List Nat}(hr:as.Pairwise (· < ·))(hn:∀o∈as,o<n):((YQ as.length).all fun p=>decide ((as.getD p.1 0,as.getD p.2 0)∈jK))=decide (as∈kn jK n):=by
 rw[zo,zd,decide_eq_true_eq,UW];have g:∀j (h:j<as.length),as.getD j 0=as[j]:=fun j h=>by rw[qf,qm h];rfl
 constructor
 ·intro h
  refine⟨zw.mpr fun i j hi hj hij=>⟨zw.mp hr i j hi hj hij,?_⟩,hn⟩;have:=h (i,j) (Wo.mpr ⟨hij,hj⟩);rw[decide_eq_true_eq] at this;simp only[g i hi,g j hj] at this;exact this
 ·rintro⟨h,_⟩ ⟨i,j⟩ hp
  have hp:=Wo.mp hp;simp only at hp;rw[decide_eq_true_eq];simp only[g i (by omega),g j (by omega)];exact(zw.mp h i j (by omega) (by omega) hp.1).2
theorem ZgF (n:Nat)(jK:List (Nat×Nat))(hl:jK.length<=100000)(as:List Nat)(hal:as.length<=1000)(s:Pn):Bl [ZF n jK,ZI as] s=some (.bl (decide (as∈kn jK n)),s):=by
 refine YI rfl ?_;refine YL (VG (Bw (b:=true) (Yk (Yj (Zg rfl (Zg rfl rfl)) rfl))) rfl) ?_;have hc:=YW (src:=[none,some 0]) (fi:=Wq (Za 1)) (τ:=ZD 0) (ft:=Z2) (fe:=Zo VX (Zc (Zd Zj (Za 1) (dC (.int 0))) (Zc (Za 0) Ze))) (ρ:=[some (ZF n jK),some (ZI as),none]) (s:=s) (fun d=>[some d,some (ZF n jK)]) (fun _=>true) (fun d=>.bl (Wh (n:Int) d)) (Ze3 rfl) (by rw[qd,Yv];omega) fun d hd=>by
  obtain⟨a,_,rfl⟩:=qy.mp hd;exact⟨rfl,rfl,fun _=>Z0 (Zg (Zr (d:=ZF n jK) (e:=.int 0) rfl rfl Ue) (Zg rfl rfl)) (Zce rfl (n:Int) s)⟩
 rw[WS] at hc;have hp:=Bw (Yk (Yj (Zg hc (rfl:Ze [some (ZF n jK),some (ZI as),none] s=some ([],s))) (Bp (as.map nD) (Wh (n:Int)))));have hpl:(as.map nD).all (Wh (n:Int))=decide (∀o∈as,o<n):=by
  rw[zo,zd,decide_eq_true_eq];constructor
  ·intro h o ho
   have:=h (nD o) (qy.mpr ⟨o,ho,rfl⟩);simp only[Wh,qX,decide_eq_true_eq] at this;omega
  ·intro h d hd
   obtain⟨o,ho,rfl⟩:=qy.mp hd;have:=h o ho;simp only[Wh,qX,decide_eq_true_eq];omega
 rw[hpl] at hp;by_cases ha:∀o∈as,o<n
 ·rw[decide_eq_true ha] at hp
  have hr:X9 (asB (Zo Bx (Zc (Za 1) Ze))) [some (ZF n jK),some (ZI as),none] s=some (!decide (as.Pairwise (· < ·)),s):=Bw (Yk (Z0 (Zg rfl rfl) (Zkb as (by omega) s)));by_cases hrr:as.Pairwise (· < ·)
  ·rw[decide_eq_true hrr] at hr
   refine YL (VG (Zoa hp hr) rfl) (YL (XR (Z0 (Zg rfl rfl) (Za8 n jK s hl))) (Z8 (YE ?_)));have hps:Zo VW (Zc (Za 1) Ze) [some (ZF n jK),some (ZI as),some (.dt (Xo [] jK))] s=some (.lst ((YQ (as.map nD).length).map (WO (as.map nD))),s):=Z0 (Zg rfl rfl) (Zcc (.tup (as.map nD)) (as.map nD) (.inr rfl) (by simpa using hal) s);have hap:=Zf4 as.length (by omega);have hc2:=YW (src:=[none,some 2]) (fi:=ZX (Zo VW (Zc (Za 1) Ze))) (τ:=ZD 0) (ft:=Z2) (fe:=Zd Xn (Za 0) (Za 1)) (ρ:=[some (ZF n jK),some (ZI as),some (.dt (Xo [] jK))]) (s:=s) (fun d=>[some d,some (.dt (Xo [] jK))]) (fun _=>true) (fun d=>.bl (decide (BW d∈jK))) (XI hps) (by rw[qd,qd,Yv];omega) fun d hd=>by
    obtain⟨p,hpm,rfl⟩:=qy.mp hd;rw[qd] at hpm;have hpp:=Wo.mp hpm;rw[ZgE (by omega) (by omega)];exact⟨rfl,rfl,fun _=>Zr (d:=Ym (as.getD p.1 0,as.getD p.2 0)) rfl rfl (Zl4 _ jK)⟩
   rw[WS,qG,qd] at hc2;refine Yj (Zg hc2 rfl) ?_;have e2:(YQ as.length).map ((fun d=>D.bl (decide (BW d∈jK)))∘WO (as.map nD))=(YQ as.length).map fun p=>D.bl (decide ((as.getD p.1 0,as.getD p.2 0)∈jK)):=by
    refine zt fun p hpm=>?_;have hpp:=Wo.mp hpm;show D.bl (decide (BW (WO (as.map nD) p)∈jK))=_;rw[ZgE (by omega) (by omega),Zei]
   rw[e2,Bp (YQ as.length) fun p=>decide ((as.getD p.1 0,as.getD p.2 0)∈jK),ZhV hrr ha]
  ·rw[decide_eq_false hrr] at hr
   have:decide (as∈kn jK n)=false:=decide_eq_false fun z=>hrr (ZnE z);rw[this];exact Z8 (Vl (Zoa hp hr) (Z8 rfl))
 ·rw[decide_eq_false ha] at hp
  have:decide (as∈kn jK n)=false:=decide_eq_false fun z=>ha (BI z).1;rw[this];exact Z8 (Vl (ZpQ hp) (Z8 rfl))
end TP3
namespace TP3
open L2 TF TP TS
open TP2
theorem Zfs {d:D}(h:Zq d=true)(hd:Yg d<=60):YT d d=some (.bl false):=by
 unfold YT W7;rw[if_pos (by simp[h,hd]),Zc4 d h];rfl
end TP3
namespace TP3
open L2 TF TP TS
open TP2
noncomputable def Ut (l:List Nat):List Nat:=(qp (l.length+1)).filter fun h=>!decide (h∈l)
theorem ZiS (l:List Nat):Ut l≠[]:=fun h=>by
 have:=WT (a:=qp (l.length+1)) (b:=l) zZ fun x hx=>by
  by_cases m:x∈l
  ·exact m
  ·have:x∈Ut l:=qA.mpr ⟨hx,by simpa using m⟩
   rw[h] at this;simp at this
 rw[qJ] at this;omega
noncomputable def XF (l:List Nat):Nat:=(Ut l).headD 0
theorem ZbK (l:List Nat):XF l∉l/\∀x<XF l,x∈l:=by
 have hne:=ZiS l
 cases e:Ut l with
 | nil=>exact absurd e hne
 | cons m r=>
  have hm:XF l=m:=by unfold XF;rw[e];rfl
  have h1:m∈Ut l:=by rw[e];simp
  have h2:=qA.mp h1;rw[hm];refine⟨by simpa using h2.2,fun x hx=>?_⟩;by_cases mx:x∈l
  ·exact mx
  ·have hr:=qB.mp h2.1
   have h3:x∈Ut l:=qA.mpr ⟨qB.mpr (by omega),by simpa using mx⟩;have h4:(Ut l).Pairwise (· < ·):=(Jq _).sublist zg;rw[e] at h3 h4;rcases qu.mp h3 with z | z
   ·omega
   ·have:=(zO.mp h4).1 x z
    omega
theorem Zma {l:List Nat}{m:Nat}(h1:m∉l)(h2:∀x<m,x∈l):m=XF l:=by
 obtain⟨g1,g2⟩:=ZbK l;rcases qa4 m (XF l) with h | h | h
 ·exact absurd (g2 m h) h1
 ·exact h
 ·exact absurd (h2 _ h) g1
theorem Zew {l l':List Nat}(h:∀x,x∈l↔x∈l'):XF l=XF l':=by
 obtain⟨g1,g2⟩:=ZbK l;exact Zma (fun z=>g1 ((h _).mpr z)) fun x hx=>(h x).mp (g2 x hx)
theorem Zmb (l:List Nat):XF l<=l.length:=by
 have h:=WT (a:=qp (XF l)) (b:=l) zZ fun x hx=>(ZbK l).2 x (qB.mp hx);rw[qJ] at h;exact h
theorem Zkc {n:Int}{r:List Int}(h:∀a∈r,n<=a):XZ n r=n:=(Zgg (by simp) fun a ha=>by
 rcases qu.mp ha with rfl | ha
 ·exact yY _
 ·exact h a ha).symm
theorem Zmc {l:List Nat}(hr:l.Pairwise (· < ·))(hn:l≠[]):ZlH [.lst (l.map nD)]=some (nD (l.headD 0)):=by
 cases l with
 | nil=>exact absurd rfl hn
 | cons m r=>
  have e:ZR ((m::r).map nD)=some ((m:Int)::r.map fun(i:Nat)=>(i:Int)):=Zaz (m::r);show(match ZR ((m::r).map nD) with | some (n::r)=>some (D.int (XZ n r)) | _=>none)=_;rw[e];show some (D.int (XZ (m:Int) (r.map fun(i:Nat)=>(i:Int))))=_;rw[Zkc fun a ha=>?_]
  ·rfl
  ·obtain⟨x,hx,rfl⟩:=qy.mp ha
   have:=(zO.mp hr).1 x hx;omega
theorem ZnG (l:List D):Z3 [.lst l]=some (nD l.length):=rfl
theorem Za4 (o:Nat)(l:List Nat):WE (nD o) (.lst (l.map nD))=some (.bl (!decide (o∈l))):=by
 have h:=Zl6 o l;unfold Xn at h;unfold WE
 cases e:Uw (nD o) (.lst (l.map nD)) with
 | none=>rw[e] at h;cases h
 | some b=>
  rw[e] at h;have h:=zi h;have h:=D.bl.inj h;subst h;rfl
theorem ZdZ (l:List Nat)(hl:l.length<=1000)(s:Pn):Jm [.lst (l.map nD)] s=some (nD (XF l),s):=by
 have hc:=YW (src:=[none,some 0]) (fi:=YO (Zd Yp (ZA Z3 (Zc (Za 0) Ze)) (dC (.int 1)))) (τ:=ZD 0) (ft:=asB (Zd WE (Za 0) (Za 1))) (fe:=Za 0) (ρ:=[some (.lst (l.map nD))]) (s:=s) (ds:=Ye 0 (l.length+1)) (fun d=>[some d,some (.lst (l.map nD))]) (fun d=>!decide (Yi d∈l)) (fun d=>d)
  (Vf (n:=l.length+1) (Zr (d:=nD l.length) (e:=.int 1) (Yj (Zg rfl rfl) (by rw[ZnG,qd])) rfl rfl) (by omega)) (by rw[WB,Yv];omega) (fun d hd=>by
  obtain⟨i,hi,rfl⟩:=UI hd;exact⟨rfl,Yk (Zr (d:=nD i) (e:=.lst (l.map nD)) rfl rfl (Za4 i l)),fun _=>rfl⟩)
 rw[Zau (l.length+1) fun h=>!decide (h∈l)] at hc;refine YI rfl (Z8 (YE (Yj (Zg hc rfl) ?_)));exact Zmc (l:=Ut l) ((Jq _).sublist zg) (ZiS l)
noncomputable def hr (jK:List (Nat×Nat)):List Nat->Nat->Nat
 | [],_=>0
 | p::qs,x=>if x=p then XF ((qs.filter fun o=>tied jK p o).map (hr jK qs)) else hr jK qs x
noncomputable def YV (qs:List Nat)(f:Nat->Nat):List (Zt×V):=qs.map fun(q:Nat)=>(zp (q:Int),V.int (f q))
theorem ZcI {f:Nat->Nat}{x:Nat}:∀qs:List Nat,ZZ (YV qs f) (zp (x:Int))=if x∈qs then some (.int (f x)) else none
 | []=>rfl
 | q::qs=>by
  by_cases e:q=x
  ·subst e
   show ZZ ((zp (q:Int),V.int (f q))::YV qs f) _=_;rw[X3 rfl];simp
  ·have hn:¬((zp (q:Int):Zt)=zp (x:Int)):=fun z=>by
    have:=qbt z;omega
   show ZZ ((zp (q:Int),V.int (f q))::YV qs f) _=_;rw[X4 hn,ZcI qs];have:x≠q:=fun z=>e z.symm;simp[this]
theorem Zkd {f g:Nat->Nat}{qs:List Nat}(h:∀q∈qs,f q=g q):YV qs f=YV qs g:=zt fun q hq=>by rw[h q hq]
theorem Zpo (qs:List Nat)(f:Nat->Nat)(x:Nat):Xn (nD x) (.dk (YV qs f))=some (.bl (decide (x∈qs))):=by
 show((some (zp (x:Int):Zt)).map fun k=>(ZZ (YV qs f) k).isSome).map D.bl=_;simp only[zV];rw[ZcI];by_cases h:x∈qs <;> simp[h]
theorem Zmd {qs:List Nat}{f:Nat->Nat}{x:Nat}(h:x∈qs):Ux (.dk (YV qs f)) (nD x)=some (nD (f x)):=by
 show(ZZ (YV qs f) (zp (x:Int))).bind vD=_;rw[ZcI,if_pos h];rfl
theorem ZnH {qs:List Nat}{f:Nat->Nat}{p h:Nat}(hp:p∉qs):Yo (YV qs f) (zp (p:Int)) (.int (h:Int))=YV (qs ++ [p]) fun x=>if x=p then h else f x:=by
 rw[ZfL _ (by rw[ZcI,if_neg hp])];have e:YV qs (fun x=>if x=p then h else f x)=YV qs f:=Zkd fun q hq=>if_neg fun(z:q=p)=>hp (z▸hq);show YV qs f++_=(qs ++ [p]).map _;rw[zD,<-e];show _++_=YV qs _ ++ [(zp (p:Int),V.int ((if p=p then h else f p:Nat):Int))];rw[if_pos rfl]
theorem Zb4 {ps:List Nat}{k p:Nat}(h:ps[k]?=some p):ps.take (k+1)=ps.take k ++ [p]:=by
 obtain⟨hl,e⟩:=qL.mp h;rw[yE hl,e]
theorem ZhW {ps:List Nat}{k p:Nat}(nd:ps.Nodup)(h:ps[k]?=some p):p∉ps.take k:=fun m=>by
 have h2:(ps.take (k+1)).Nodup:=nd.sublist (qa0 _ _);rw[Zb4 h] at h2;have:=(qau.mp h2).2.2 p m p (by simp);exact this rfl
theorem ZnI {i:Nat}{fx fv:Zb->M D}{ρ:Zb}{s:Pn}{x v:D}{kvs:List (Zt×V)}{key:Zt}{w:V}(h1:fv ρ s=some (v,s))(h2:fx ρ s=some (x,s))(h3:(ρ[i]?).bind id=some (.dk kvs))(h4:Xw x=some key)(h5:WH v=some w)(hl:kvs.length<sizeLine) :
  JS i fx fv ρ s=some (.nx (ρ.set i (some (.dk (Yo kvs key w)))),s):=by
 unfold JS Zn;rw[h1];simp only;rw[h2];simp only;rw[h3];simp only;rw[h4,h5];simp only;rw[if_pos hl];rfl
theorem ZnJ (jK:List (Nat×Nat)){ps:List Nat}{k p:Nat}(h:ps[k]?=some p):hr jK (ps.take (k+1)).reverse=fun x=>if x=p then XF (((ps.take k).filter fun o=>tied jK p o).map (hr jK (ps.take k).reverse)) else hr jK (ps.take k).reverse x:=by
 rw[Zb4 h,List.reverse_append];funext x;show(if x=p then XF (((ps.take k).reverse.filter fun o=>tied jK p o).map (hr jK (ps.take k).reverse)) else _)=_;by_cases e:x=p
 ·rw[if_pos e,if_pos e]
  refine Zew fun y=>?_;simp only[qy,qA,yS]
 ·rw[if_neg e,if_neg e];rfl
noncomputable def WI (n:Nat)(jK:List (Nat×Nat))(ps:List Nat):List Nat:=(qp n).map (hr jK ps.reverse)
theorem ZhX {n:Nat}{xs:List Int}(h:xs.Perm (Wr n)):∃ps:List Nat,xs=X8 ps/\ps.Perm (qp n):=by
 refine⟨xs.map qbW,?_,?_⟩
 ·unfold X8
  rw[qG];have:∀x∈xs,((fun(x:Nat)=>(x:Int))∘qbW) x=x:=fun x hx=>by
   obtain⟨a,_,rfl⟩:=qy.mp (h.mem_iff.mp hx);rfl
  rw[zt this];exact(qbc xs).symm
 ·have:=h.map qbW
  unfold Wr at this;rw[qG] at this;have e:(qp n).map (qbW∘fun(i:Nat)=>(i:Int))=qp n:=qbc _;rw[e] at this;exact this
end TP3
namespace TP3
open L2 TF TP TS
open TP2
section
variable (ap:Nat->Nat->Bool)
noncomputable def Xe (ps:List Nat)(p:Nat):Nat:=(ps.filter fun o=>ap p o).length
noncomputable def Y1 (ps:List Nat)(p:Nat):List Nat:=ps.filter fun o=>!decide (o=p) && !ap p o
noncomputable def Yq (ps:List Nat):Nat:=ps.getD ((ps.map (Xe ap ps)).idxOf (Xt (ps.map (Xe ap ps)))) 0
structure KnA (ps K:List Nat):Prop where
 nd:K.Nodup
 sub:∀x∈K,x∈ps
 two:∀x∈K,∀y∈K,x≠y->ap x y=false
end
section
variable {ap:Nat->Nat->Bool}
theorem ZhY {l:List Nat}(h:l≠[]):Xt l∈l:=by
 have:=ZiR (l:=0::l) ⟨l,rfl⟩;have e:Xt (0::l)=Xt l:=rfl;rw[e] at this;rcases qu.mp this with z | z
 ·cases l with
  | nil=>exact absurd rfl h
  | cons a r=>
   have h1:=Zfr (l:=a::r) (x:=a) (by simp);have h2:a=0:=by omega
   rw[z,h2];simp
 ·exact z
theorem ZnK {ps:List Nat}(f:Nat->Nat){v:Nat}(h:v∈ps.map f):ps.getD ((ps.map f).idxOf v) 0∈ps/\f (ps.getD ((ps.map f).idxOf v) 0)=v:=by
 have hl:=qah.mpr h;have e:=List.getElem_idxOf hl;rw[qbi] at e;have hl':(ps.map f).idxOf v<ps.length:=by simpa using hl
 rw[qf,qm hl'];exact⟨zu hl',e⟩
theorem Zaq {ps:List Nat}(h:ps≠[]):Yq ap ps∈ps:=(ZnK (Xe ap ps) (ZhY (by simpa using h))).1
theorem UL {ps:List Nat}{p:Nat}:∀x∈Y1 ap ps p,x∈ps/\x≠p/\ap p x=false:=fun x hx=>by
 obtain⟨h1,h2⟩:=qA.mp hx;simp only[qX,qa5,decide_eq_false_iff_not] at h2;exact⟨h1,h2.1,h2.2⟩
theorem Zex {ps:List Nat}{p:Nat}(h:p∈ps)(f:Nat->Bool)(hf:f p=false):(ps.filter f).length<ps.length:=by
 induction ps with
 | nil=>simp at h
 | cons a r ih=>
  have hr:=zr f r;rcases qu.mp h with e | h
  ·subst e
   rw[ym (by simpa using hf)];simp only[qR];omega
  ·have:=ih h
   by_cases fa:f a=true
   ·rw[qaq fa];simp only[qR];omega
   ·rw[ym fa];simp only[qR];omega
theorem ZgG {ps:List Nat}{p:Nat}(h:p∈ps):(Y1 ap ps p).length<ps.length:=Zex h _ (by simp)
theorem ZdE {ps:List Nat}{p:Nat}(h:p∈ps):(ps.filter fun o=>!decide (o=p)).length<ps.length:=Zex h _ (by simp)
theorem jF {ps K:List Nat}{p:Nat}(sy:∀a b,ap a b=ap b a)(hp:p∈ps)(h:KnA ap (Y1 ap ps p) K):KnA ap ps (p::K) where
 nd:=zx.mpr ⟨fun z=>(UL p (h.sub p z)).2.1 rfl,h.nd⟩
 sub:=fun x hx=>by
  rcases qu.mp hx with e | hx
  ·rw[e];exact hp
  ·exact(UL x (h.sub x hx)).1
 two:=fun x hx y hy ne=>by
  rcases qu.mp hx with e | hx
  ·rcases qu.mp hy with e' | hy
   ·exact absurd (e.trans e'.symm) ne
   ·rw[e];exact(UL y (h.sub y hy)).2.2
  ·rcases qu.mp hy with e' | hy
   ·rw[e',sy];exact(UL x (h.sub x hx)).2.2
   ·exact h.two x hx y hy ne
theorem KnA.mono {ps qs K:List Nat}(h:KnA ap ps K)(s:∀x∈ps,x∈qs):KnA ap qs K:=⟨h.nd,fun x hx=>s x (h.sub x hx),h.two⟩
theorem KnA.rest {ps K:List Nat}{p:Nat}(h:KnA ap ps K):KnA ap (Y1 ap ps p) (K.filter fun o=>!decide (o=p) && !ap p o) where
 nd:=h.nd.sublist zg
 sub:=fun x hx=>by
  obtain⟨h1,h2⟩:=qA.mp hx;exact qA.mpr ⟨h.sub x h1,h2⟩
 two:=fun x hx y hy=>h.two x (qA.mp hx).1 y (qA.mp hy).1
theorem Zke (ir:∀a,ap a a=false){K:List Nat}{p:Nat}{ps:List Nat}(h:KnA ap ps K)(hm:p∈K∨Xe ap ps p<=1):K.length<=(K.filter fun o=>!decide (o=p) && !ap p o).length+1:=by
 have e:=Zev (fun o=>!decide (o=p) && !ap p o) K;have hd:(K.filter fun o=>!(!decide (o=p) && !ap p o)).length<=1:=by
  have nd:(K.filter fun o=>!(!decide (o=p) && !ap p o)).Nodup:=h.nd.sublist zg;by_cases hp:p∈K
  ·have:=WT (b:=[p]) nd fun x hx=>by
    obtain⟨h1,h2⟩:=qA.mp hx;by_cases z:x=p
    ·simp[z]
    ·have:=h.two p hp x h1 (zm z)
     simp[z,this] at h2
   simpa using this
  ·have hc:=hm.resolve_left hp
   have:=WT (b:=ps.filter fun o=>ap p o) nd fun x hx=>by
    obtain⟨h1,h2⟩:=qA.mp hx;have z:x≠p:=fun z=>hp (z▸h1);simp[z] at h2;exact qA.mpr ⟨h.sub x h1,h2⟩
   unfold Xe at hc;omega
 omega
end
noncomputable def Xu (l:List Nat):List (Zt×V):=l.map fun(o:Nat)=>(zp (o:Int),V.bl true)
theorem Zft {x:Nat}:∀l:List Nat,ZZ (Xu l) (zp (x:Int))=if x∈l then some (.bl true) else none
 | []=>rfl
 | q::qs=>by
  by_cases e:q=x
  ·subst e
   show ZZ ((zp (q:Int),V.bl true)::Xu qs) _=_;rw[X3 rfl];simp
  ·have hn:¬((zp (q:Int):Zt)=zp (x:Int)):=fun z=>by
    have:=qbt z;omega
   show ZZ ((zp (q:Int),V.bl true)::Xu qs) _=_;rw[X4 hn,Zft qs];have:x≠q:=fun z=>e z.symm;simp[this]
theorem Zme:∀(l:List Nat) (jR:List (Zt×V)),l.Nodup->(∀x∈l,ZZ jR (zp (x:Int))=none)->W0 jR (l.map fun o=>D.tup [nD o,.bl true])=some (jR++Xu l)
 | [],jR,_,_=>by simp[W0,Xu]
 | p::ps,jR,nd,h=>by
  have nd':=zx.mp nd;show W0 (Yo jR (zp (p:Int)) (.bl true)) (ps.map fun o=>D.tup [nD o,.bl true])=_;rw[Zme ps _ nd'.2 fun x hx=>?_,ZfL _ (h p (by simp))]
  ·show some ((jR ++ [_])++Xu ps)=some (jR++(_::Xu ps))
   simp
  ·rw[ZfK,if_neg (fun z=>nd'.1 (by
    have:=qbt z;have:x=p:=by omega
    exact this▸hx))]
   exact h x (by simp[hx])
theorem Zpp (l:List Nat)(x:Nat):Xn (nD x) (.dk (Xu l))=some (.bl (decide (x∈l))):=by
 show((some (zp (x:Int):Zt)).map fun k=>(ZZ (Xu l) k).isSome).map D.bl=_;simp only[zV];rw[Zft];by_cases h:x∈l <;> simp[h]
theorem Zkf (l:List Nat)(x:Nat):WE (nD x) (.dk (Xu l))=some (.bl (!decide (x∈l))):=by
 show((some (zp (x:Int):Zt)).map fun k=>(ZZ (Xu l) k).isSome).map (fun b=>D.bl (!b))=_;simp only[zV];rw[Zft];by_cases h:x∈l <;> simp[h]
noncomputable def Xb (n:Nat)(A:Nat->List Nat):D:=.lst ((qp n).map fun p=>.dk (Xu (A p)))
theorem Zmf {n p:Nat}{A:Nat->List Nat}(h:p<n):Zj (Xb n A) (nD p)=some (.dk (Xu (A p))):=by
 show XD _ (p:Int)=_;refine WC ?_;rw[qD,z6 h];rfl
section
variable {n:Nat}{A:Nat->List Nat}{ap:Nat->Nat->Bool}
theorem UX (a b:Nat):YT (nD a) (nD b)=some (.bl (!decide (a=b))):=by
 rw[nei];congr 3;rw[zo,beq_iff_eq,decide_eq_true_eq];constructor <;> intro h <;> omega
theorem ZiT {ds es:List D}(h:ds.length+es.length<=100000):Yp (.lst ds) (.lst es)=some (.lst (ds++es)):=by
 show(if ds.length+es.length<=sizeLine then some (D.lst (ds++es)) else none)=_;rw[if_pos (by rw[Yv];omega)]
theorem Zpq (ds:List D)(hp:Yw ds=true)(hd:Xl ds<=10):XY (.lst ds) (.lst [])=some (.bl (decide (ds=[]))):=by
 have hok:W7 (.lst ds) (.lst [])=true:=by
  unfold W7;simp[Zq,Yg,Yw,Xl,hp];omega
 unfold XY;rw[if_pos hok]
 cases ds with
 | nil=>rfl
 | cons a r=>rfl
theorem Zmg {l:List Nat}(h:l≠[]):ZiB [.lst (l.map nD)]=some (nD (Xt l)):=by
 cases l with
 | nil=>exact absurd rfl h
 | cons m r=>
  have e:ZR ((m::r).map nD)=some ((m:Int)::r.map fun(i:Nat)=>(i:Int)):=Zaz (m::r);show(match ZR ((m::r).map nD) with | some (n::r)=>some (D.int (maxI n r)) | _=>none)=_;rw[e];show some (D.int (maxI (m:Int) (r.map fun(i:Nat)=>(i:Int))))=_;rw[ZgD r m];have e2:Xt (m::r)=r.foldl max m:=by
   show r.foldl max (max 0 m)=_;rw[qaD (zk m)]
  rw[e2]
theorem ZhZ {l:List Nat}{v:Nat}(h:v∈l):Ze8 (.lst (l.map nD)) (nD v)=some (nD (l.idxOf v)):=by
 show((ZR (l.map nD)).bind fun ns=>if (v:Int)∈ns then some (D.int (ns.idxOf (v:Int):Nat)) else none)=_;rw[Zaz];show(if (v:Int)∈l.map (fun(i:Nat)=>(i:Int)) then some (D.int ((l.map fun(i:Nat)=>(i:Int)).idxOf (v:Int):Nat)) else none)=_;rw[if_pos (qy.mpr ⟨v,h,rfl⟩)];have:(l.map fun(i:Nat)=>(i:Int)).idxOf (v:Int)=l.idxOf v:=by
  clear h
  induction l with
  | nil=>rfl
  | cons a r ih=>
   rw[zb,List.idxOf_cons,List.idxOf_cons,ih];have:((a:Int)==(v:Int))=(a==v):=by
    rw[zo,beq_iff_eq,beq_iff_eq];constructor <;> intro h <;> omega
   rw[this]
 rw[this]
end
end TP3
namespace TP3
open L2 TF TP TS
open TP2
noncomputable def Yr (n:Nat)(jK:List (Nat×Nat)):List (Nat×Nat):=(YQ n).filter fun p=>!decide (p∈jK)
theorem Zkg (n:Nat)(jK:List (Nat×Nat)):IsWeb n (Yr n jK):=IsWeb.filter _
theorem ZgH {jK:List (Nat×Nat)}{a b:Nat}:tied jK a b=true↔(min a b,max a b)∈jK:=by unfold tied;exact decide_eq_true_iff
theorem Zba {n:Nat}{jK:List (Nat×Nat)}{a b:Nat}:tied (Yr n jK) a b=true↔a<n/\b<n/\a≠b/\tied jK a b=false:=by
 rw[ZgH];unfold Yr;rw[qA,Wo];have e:tied jK a b=decide ((min a b,max a b)∈jK):=rfl;rw[e];simp only[qa5,decide_eq_false_iff_not];constructor
 ·rintro⟨⟨h1,h2⟩,h3⟩
  exact⟨by omega,by omega,by omega,h3⟩
 ·rintro⟨h1,h2,h3,h4⟩
  exact⟨⟨by omega,by omega⟩,h4⟩
theorem Zd0 {n:Nat}{jK:List (Nat×Nat)}(p o:Nat):tied (Yr n jK) p o=decide (o∈Yf n (Yr n jK) p):=by
 unfold Yf;rw[zo,decide_eq_true_iff,qA,qB];exact⟨fun h=>⟨(Zba.mp h).2.1,h⟩,fun h=>h.2⟩
theorem Zmh {n:Nat}{jK:List (Nat×Nat)}(a:Nat):tied (Yr n jK) a a=false:=by
 cases h:tied (Yr n jK) a a with
 | false=>rfl
 | true=>exact absurd rfl (Zba.mp h).2.2.1
noncomputable def JM (n:Nat)(b:List Nat):List Nat:=(qp n).filter fun x=>decide (x∈b)
theorem Za5 {n:Nat}{b:List Nat}(nd:b.Nodup)(h:∀x∈b,x<n):(JM n b).Perm b:=by
 refine(yW (zZ.sublist zg) nd).mpr fun a=>?_;rw[qA,qB,decide_eq_true_iff];exact⟨fun z=>z.2,fun z=>⟨h a z,z⟩⟩
theorem Zcm (n:Nat)(b:List Nat):(JM n b).Pairwise (· < ·):=(Jq n).sublist zg
noncomputable def WZ (a k:List Nat):List Nat:=if a.length<k.length then k else a
noncomputable def WJ (n:Nat)(jK:List (Nat×Nat)):List Nat:=(kn jK n).foldl WZ []
theorem Zcn:∀(l:List (List Nat)) (a:List Nat),(l.foldl WZ a=a∨l.foldl WZ a∈l)/\a.length<=(l.foldl WZ a).length/\∀k∈l,k.length<=(l.foldl WZ a).length
 | [],a=>⟨.inl rfl,qw _,fun k h=>by cases h⟩
 | x::r,a=>by
  obtain⟨h1,h2,h3⟩:=Zcn r (WZ a x);have h4:a.length<=(WZ a x).length/\x.length<=(WZ a x).length/\(WZ a x=a∨WZ a x=x):=by
   unfold WZ;split
   ·exact⟨by omega,qw _,.inr rfl⟩
   ·exact⟨qw _,by omega,.inl rfl⟩
  rw[List.foldl_cons];refine⟨?_,by omega,fun k hk=>?_⟩
  ·rcases h1 with h | h
   ·rcases h4.2.2 with z | z
    ·exact .inl (h.trans z)
    ·exact .inr (by rw[h,z];simp)
   ·exact .inr (by simp[h])
  ·rcases qu.mp hk with rfl | hk
   ·omega
   ·exact h3 k hk
theorem Zkh {n:Nat}{b:List Nat}(nd:b.Nodup)(h:∀x∈b,x<n)(hl:b.length<64):ZcG [.lst (b.map nD)]=some (.lst ((JM n b).map nD)):=by
 have e:ZR (b.map nD)=some (X8 b):=by
  have:b.map nD=(X8 b).map D.int:=by unfold X8;rw[qG];rfl
  rw[this,Zbj]
 show(match ZR (b.map nD) with | some ns=>if ns.length<64 then some (D.lst ((W1 ns).map .int)) else none | none=>none)=_;rw[e];show(if (X8 b).length<64 then some (D.lst ((W1 (X8 b)).map .int)) else none)=_;rw[if_pos (by unfold X8;simp;omega)];have q:X8 (JM n b)=W1 (X8 b):=Zde ((Za5 nd h).map _) (yz.mpr ((Zcm n b).imp fun h=>by omega));rw[<-q];unfold X8;rw[qG];rfl
theorem Ui {n:Nat}{jK:List (Nat×Nat)}(hw:IsWeb n jK)(hn:n<=24):WJ n jK∈kn jK n/\∀K∈kn jK n,K.length<=(WJ n jK).length:=by
 obtain⟨h1,_,h3⟩:=Zcn (kn jK n) [];refine⟨?_,h3⟩;rcases h1 with h | h
 ·show(kn jK n).foldl WZ []∈_
  rw[h];exact Xv.mpr ⟨qa2,(fun o h=>by cases h),fun a h=>by cases h⟩
 ·exact h
end TP3
namespace TP3
open L2 TF TP TS
open TP2
theorem Zmi {n:Nat}{jK:List (Nat×Nat)}{k F:List Nat}(hF:F∈kn jK n)(hr:k.Pairwise (· < ·))(hs:∀x∈k,x∈F):k∈kn jK n:=by
 obtain⟨h1,h2,h3⟩:=Xv.mp hF;exact Xv.mpr ⟨hr,fun o ho=>h2 o (hs o ho),fun a ha b hb ne=>h3 a (hs a ha) b (hs b hb) ne⟩
theorem Zmj {l:List Nat}{b:Nat}(h:∀x∈l,x<=b):Xt l<=b:=Zfp l b h 0 (zk _)
theorem ZiU {n:Nat}{jK:List (Nat×Nat)}(hw:IsWeb n jK)(hn:n<=24):Xt (Vn jK n)=(WJ n jK).length:=by
 obtain⟨h1,h2⟩:=Ui hw hn;refine y9 (Zmj fun x hx=>?_) (Zfr (qy.mpr ⟨_,h1,rfl⟩));obtain⟨K,hK,rfl⟩:=qy.mp hx;exact h2 K hK
end TP3
namespace TP3
open L2 TF TP TS
open TP2
end TP3
namespace TP3
open L2 TF TP TS
open TP2
section
variable (jK:List (Nat×Nat))
noncomputable def uq (w:List Nat):Nat:=Xt (w.map (· + 1))
noncomputable def XS (w:List Nat):List Nat:=((qp w.length).filter fun o=>tied jK w.length o).map fun o=>w.getD o 0
noncomputable def VJ (many:Nat)(w:List Nat):List Nat:=(qp (min many (uq w+1))).filter fun h=>!decide (h∈XS jK w)
noncomputable def YK (many:Nat):Nat->List Nat->Option (List Nat)
 | 0,w=>some w
 | r+1,w=>(VJ jK many w).findSome? fun h=>YK many r (w ++ [h])
noncomputable def Yu (many:Nat)(w:List Nat):Prop:=∀i<w.length,w.getD i 0∈VJ jK many (w.take i)
end
section
variable {jK:List (Nat×Nat)}{many:Nat}
theorem Zki {w:List Nat}{i j:Nat}(h:j<i):(w.take i).getD j 0=w.getD j 0:=by
 rw[qf,qf,qab h]
theorem Zar {w:List Nat}{h j:Nat}(hj:j<w.length):(w ++ [h]).getD j 0=w.getD j 0:=by
 rw[qf,qf,zF hj]
theorem Zbb {w:List Nat}{h:Nat}:(w ++ [h]).getD w.length 0=h:=by
 rw[qf,z8 (qw _),qbV];rfl
theorem Bc {w:List Nat}{h i:Nat}(hi:i<=w.length):(w ++ [h]).take i=w.take i:=List.take_append_of_le_length hi
theorem Yu.snoc {w:List Nat}{h:Nat}:Yu jK many (w ++ [h])↔Yu jK many w/\h∈VJ jK many w:=by
 constructor
 ·intro R
  refine⟨fun i hi=>?_,?_⟩
  ·have:=R i (by simp;omega)
   rw[Zar hi,Bc (by omega)] at this;exact this
  ·have:=R w.length (by simp)
   rw[Zbb,Bc (qw _),z9] at this;exact this
 ·rintro⟨R,hh⟩ i hi
  by_cases e:i<w.length
  ·rw[Zar e,Bc (by omega)];exact R i e
  ·have:i=w.length:=by simp at hi;omega
   subst this;rw[Zbb,Bc (qw _),z9];exact hh
theorem Yu.nil:Yu jK many []:=fun i hi=>by simp at hi
theorem ZnL {w:List Nat}{i:Nat}(h:w.length=i+1):∃v x,w=v ++ [x]/\v.length=i:=by
 refine⟨w.take i,w.getD i 0,?_,by rw[zE];omega⟩;have hi:i<w.length:=by omega
 have e:=yE hi;rw[<-h,z9] at e;rw[qf,qm hi];exact e
theorem ZgI:∀{r:Nat} {w f:List Nat},Yu jK many w->YK jK many r w=some f->Yu jK many f/\f.length=w.length+r/\f.take w.length=w
 | 0,w,f,R,h=>by
  unfold YK at h
  cases h
  exact⟨R,rfl,z9⟩
 | r+1,w,f,R,h=>by
  unfold YK at h;obtain⟨x,hx,he⟩:=List.exists_of_findSome?_eq_some h;obtain⟨h1,h2,h3⟩:=ZgI (Yu.snoc.mpr ⟨R,hx⟩) he;refine⟨h1,by simp at h2;omega,?_⟩;have:=congrArg (List.take w.length) h3;rw[List.take_take,Bc (qw _),z9] at this;have e:min w.length (w ++ [x]).length=w.length:=by simp
  rw[e] at this;exact this
theorem ZgJ:∀{r:Nat} {w f:List Nat},YK jK many r w=none->f.length=w.length+r->f.take w.length=w->¬Yu jK many f
 | 0,w,f,h,_,_=>by unfold YK at h;cases h
 | r+1,w,f,h,hl,ht=>by
  intro R;unfold YK at h;rw[List.findSome?_eq_none_iff] at h;have hx:=R w.length (by omega);rw[ht] at hx;have e:f.take (w ++ [f.getD w.length 0]).length=w ++ [f.getD w.length 0]:=by
   have hlt:w.length<f.length:=by omega
   rw[qY,ya,yE hlt,ht,qf,qm hlt];rfl
  exact ZgJ (h _ hx) (by simp;omega) e R
theorem ZiV {w:List Nat}{x:Nat}(h:x∈w):x<uq w:=by
 have:=Zfr (l:=w.map (· + 1)) (x:=x+1) (qy.mpr ⟨x,h,rfl⟩);unfold uq;omega
theorem Zoo {w:List Nat}{b:Nat}(h:∀x∈w,x<b):uq w<=b:=Zmj fun x hx=>by
 obtain⟨y,hy,rfl⟩:=qy.mp hx;have:=h y hy;omega
theorem Zfu (w:List Nat)(h:Nat):uq (w ++ [h])=max (uq w) (h+1):=by
 unfold uq Xt;rw[zD,List.foldl_append];rfl
theorem Uj {w:List Nat}{h:Nat}:h∈VJ jK many w↔h<many/\h<=uq w/\h∉XS jK w:=by
 unfold VJ;rw[qA,qB];simp only[qa5,decide_eq_false_iff_not];constructor
 ·rintro⟨h1,h2⟩;exact⟨by omega,by omega,h2⟩
 ·rintro⟨h1,h2,h3⟩;exact⟨by omega,h3⟩
theorem Yu.all:∀{n:Nat} {w:List Nat},w.length=n->Yu jK many w->∀x,x∈w↔x<uq w
 | 0,w,h,_,x=>by
  have:=zP.mp h;subst this;simp[uq,Xt]
 | n+1,w,h,R,x=>by
  obtain⟨v,y,rfl,hv⟩:=ZnL h;obtain⟨h1,h2⟩:=Yu.snoc.mp R;have ih:=Yu.all hv h1 x;obtain⟨g1,g2,g3⟩:=Uj.mp h2;rw[Zfu,qP,ih,qN];omega
theorem Yu.lt {w:List Nat}(R:Yu jK many w):∀x∈w,x<many:=fun x hx=>by
 obtain⟨i,hi,e⟩:=yZ hx;have:=R i hi;rw[qf,qm hi] at this;have h2:w[i]∈VJ jK many (w.take i):=this;rw[e] at h2;exact(Uj.mp h2).1
theorem Yu.hues {m:Nat}{w:List Nat}(R:Yu jK many w)(h:uq w<=m):Yu jK m w:=fun i hi=>by
 obtain⟨g1,g2,g3⟩:=Uj.mp (R i hi);refine Uj.mpr ⟨?_,g2,g3⟩;have hm:w.getD i 0∈w:=by rw[qf,qm hi];exact zu hi
 have:=ZiV hm;omega
theorem Yu.right {w:List Nat}(R:Yu jK many w){a b:Nat}(hab:a<b)(hb:b<w.length)(ht:tied jK a b=true):w.getD a 0≠w.getD b 0:=fun e=>by
 obtain⟨_,_,g3⟩:=Uj.mp (R b hb);refine g3 (qy.mpr ⟨a,qA.mpr ⟨qB.mpr (by rw[zE];omega),?_⟩,?_⟩)
 ·rw[zE,qaN (by omega),V0];exact ht
 ·rw[Zki hab];exact e
theorem Yu.knot {n:Nat}{w K:List Nat}(R:Yu jK many w)(hl:w.length=n)(hK:K∈kn jK n):K.length<=uq w:=by
 obtain⟨h1,h2,h3⟩:=Xv.mp hK;have nd:(K.map fun p=>w.getD p 0).Nodup:=yz.mpr (zM (fun {a b} ha hb hab=>R.right hab (by rw[hl];exact h2 b hb) (h3 a ha b hb (by omega))) h1);have:=WT (b:=qp (uq w)) nd fun x hx=>by
  obtain⟨p,hp,rfl⟩:=qy.mp hx;have hpl:p<w.length:=by rw[hl];exact h2 p hp
  refine qB.mpr (ZiV ?_);rw[qf,qm hpl];exact zu hpl
 rw[qd,qJ] at this;exact this
theorem Zmk (n:Nat):uq (qp n)=n:=by
 refine y9 (Zoo fun x hx=>qB.mp hx) ?_
 cases n with
 | zero=>simp
 | succ n=>exact ZiV (qB.mpr (yR n))
theorem Yu.own (n:Nat):∀m≤n,Yu jK n (qp m):=fun m=>by
 induction m with
 | zero=>intro _;exact Yu.nil
 | succ m ih=>
  intro h;rw[qbs];refine Yu.snoc.mpr ⟨ih (by omega),Uj.mpr ⟨by omega,by rw[Zmk];omega,fun z=>?_⟩⟩;obtain⟨o,ho,e⟩:=qy.mp z;have ho:=qB.mp (qA.mp ho).1;rw[qf,qm ho] at e;simp at e ho;omega
end
noncomputable def XB (n:Nat)(jK:List (Nat×Nat)):Nat:=((qp (n+1)).filter fun m=>(YK jK m n []).isSome).headD 0
noncomputable def Uu (n:Nat)(jK:List (Nat×Nat)):List Nat:=(YK jK (XB n jK) n []).getD []
theorem ZaO {n m:Nat}{jK:List (Nat×Nat)}{f:List Nat}(hl:f.length=n)(R:Yu jK m f):(YK jK m n []).isSome=true:=by
 cases e:YK jK m n [] with
 | some _=>rfl
 | none=>exact absurd R (ZgJ e (by simpa using hl) rfl)
theorem ZdF (n:Nat)(jK:List (Nat×Nat)):XB n jK<=n/\(YK jK (XB n jK) n []).isSome=true/\∀m<XB n jK,YK jK m n []=none:=by
 have hn:n∈(qp (n+1)).filter fun m=>(YK jK m n []).isSome:=qA.mpr ⟨qB.mpr (by omega),ZaO (qJ) (Yu.own n n (qw n))⟩;have hr:((qp (n+1)).filter fun m=>(YK jK m n []).isSome).Pairwise (· < ·):=(Jq _).sublist zg
 cases e:(qp (n+1)).filter fun m=>(YK jK m n []).isSome with
 | nil=>rw[e] at hn;simp at hn
 | cons c r=>
  have hc:XB n jK=c:=by unfold XB;rw[e];rfl
  have h1:c∈(qp (n+1)).filter fun m=>(YK jK m n []).isSome:=by rw[e];simp
  obtain⟨g1,g2⟩:=qA.mp h1;have g1:=qB.mp g1;rw[hc];refine⟨by omega,g2,fun m hm=>?_⟩
  cases em:YK jK m n [] with
  | none=>rfl
  | some f=>
   have:m∈(qp (n+1)).filter fun m=>(YK jK m n []).isSome:=qA.mpr ⟨qB.mpr (by omega),by rw[em];rfl⟩;rw[e] at this hr;rcases qu.mp this with z | z
   ·omega
   ·have:=(zO.mp hr).1 m z;omega
theorem ZdG (n:Nat)(jK:List (Nat×Nat)):YK jK (XB n jK) n []=some (Uu n jK)/\Yu jK (XB n jK) (Uu n jK)/\(Uu n jK).length=n/\uq (Uu n jK)=XB n jK:=by
 obtain⟨h1,h2,h3⟩:=ZdF n jK;obtain⟨f,hf⟩:=zK.mp h2;have e:Uu n jK=f:=by unfold Uu;rw[hf];rfl
 obtain⟨g1,g2,_⟩:=ZgI Yu.nil hf;rw[e];simp at g2;refine⟨hf,g1,g2,?_⟩;have hle:=Zoo g1.lt;rcases Nat.lt_or_ge (uq f) (XB n jK) with z | z
 ·have:=h3 _ z
  have h4:=ZaO g2 (g1.hues (qw _));rw[this] at h4;cases h4
 ·omega
theorem Zpr {n m:Nat}{jK:List (Nat×Nat)}{f:List Nat}(hl:f.length=n)(R:Yu jK m f):XB n jK<=m:=by
 rcases Nat.lt_or_ge m (XB n jK) with z | z
 ·have h4:=ZaO hl R
  rw[(ZdF n jK).2.2 m z] at h4;cases h4
 ·exact z
theorem Zco {n:Nat}{jK:List (Nat×Nat)}(hw:IsWeb n jK)(hn:n<=24):(WJ n jK).length<=XB n jK:=by
 obtain⟨h1,h2,h3,h4⟩:=ZdG n jK;have:=h2.knot h3 (Ui hw hn).1;omega
end TP3
namespace TP3
open L2 TF TP TS
open TP2
theorem ZiW {n p:Nat}{jK:List (Nat×Nat)}(h:p<n):Zj (Y9 n jK) (nD p)=some (.lst ((Yf n jK p).map nD)):=by
 show XD _ (p:Int)=_;refine WC ?_;rw[qD,z6 h];rfl
theorem Zh0 {n:Nat}{jK:List (Nat×Nat)}{w:List Nat}(hw:w.length<n):((Yf n jK w.length).filter fun o=>decide (o<w.length)).map (fun o=>w.getD o 0)=XS jK w:=by
 unfold XS Yf;congr 1;rw[List.filter_filter];have e:qp n=qp w.length++(qp (n-w.length)).map (w.length + ·):=by
  rw[<-List.range_add];congr 1;omega
 rw[e,qaR];have h2:((qp (n-w.length)).map (w.length + ·)).filter (fun o=>decide (o<w.length)&&tied jK w.length o)=[]:=List.filter_eq_nil_iff.mpr fun x hx=>by
  obtain⟨a,_,rfl⟩:=qy.mp hx;simp only[qX,decide_eq_true_eq,not_and];intro z;omega
 rw[h2,zf];refine qat fun x hx=>?_;have:=qB.mp hx;simp[this]
theorem Zps (a b:Nat):WN (nD a) (nD b)=some (.bl (decide (a<b))):=by
 show some (D.bl (decide ((a:Int)<(b:Int))))=_;congr 2;exact decide_eq_decide.mpr (by omega)
theorem Zml {n:Nat}{jK:List (Nat×Nat)}{w:List Nat}(hw:w.length<n)(hn:n<=24){ρ:Zb}{s:Pn}(h0:(ρ[0]?).bind id=some (Y9 n jK))(h2:(ρ[2]?).bind id=some (ZI w))(h3:(ρ[3]?).bind id=some (nD w.length)) :
  ZY [none,some 2,some 3] (ZX (Zd Zj (Za 0) (Za 3))) (ZD 0) (asB (Zd WN (Za 0) (Za 2))) (Zd Zj (Za 1) (Za 0)) ρ s=some (.lst ((XS jK w).map nD),s):=by
 have hc:=YW (src:=[none,some 2,some 3]) (fi:=ZX (Zd Zj (Za 0) (Za 3))) (τ:=ZD 0) (ft:=asB (Zd WN (Za 0) (Za 2))) (fe:=Zd Zj (Za 1) (Za 0)) (ρ:=ρ) (s:=s) (ds:=(Yf n jK w.length).map nD) (fun d=>[some d,some (ZI w),some (nD w.length)]) (fun d=>decide (Yi d<w.length)) (fun d=>nD (w.getD (Yi d) 0))
  (XI (Zr (d:=Y9 n jK) (e:=nD w.length) (by unfold Za YR;rw[h0]) (by unfold Za YR;rw[h3]) (ZiW hw))) (by
   have:=zr (fun o=>tied jK w.length o) (qp n);rw[qJ] at this;rw[qd,Yv];unfold Yf;omega) (fun d hd=>by
  obtain⟨x,hx,rfl⟩:=qy.mp hd;refine⟨?_,Yk (Zr (d:=nD x) (e:=nD w.length) rfl rfl (Zps _ _)),fun hb=>Zr (d:=ZI w) (e:=nD x) rfl rfl (UQ (of_decide_eq_true hb))⟩;show some ((X7 [none,some 2,some 3] ρ).set 0 _)=_;unfold X7;simp only[zb,qaI,qa8,h2,h3];rfl)
 rw[hc];congr 3;rw[yg,qG,<-Zh0 hw,qG];rfl
theorem Zmm {w:List Nat}{f:Zb->M D}{ρ:Zb}{s:Pn}(h:f ρ s=some (ZI w,s)):BG f (dC (.int (-1))) ρ s=some (.int ((uq w:Int)-1),s):=by
 unfold BG Zn;rw[h];show(match ZR (w.map nD) with | some (n::r)=>ZB (D.int (maxI n r)) | some []=>ZB (D.int (-1)) | none=>ZG) s=_
 cases w with
 | nil=>rfl
 | cons a r=>
  have e:ZR ((a::r).map nD)=some ((a:Int)::r.map fun(i:Nat)=>(i:Int)):=Zaz (a::r);rw[e];show some (D.int (maxI (a:Int) (r.map fun(i:Nat)=>(i:Int))),s)=_;rw[ZgD r a];congr 3;have hg:∀(r:List Nat) (a:Nat),(r.map (· + 1)).foldl max (a+1)=r.foldl max a+1:=by
   intro r
   induction r with
   | nil=>intro a;rfl
   | cons b r ih=>
    intro a;show(r.map (· + 1)).foldl max (max (a+1) (b+1))=r.foldl max (max a b)+1;rw[show max (a+1) (b+1)=max a b+1 by omega,ih]
  have:uq (a::r)=r.foldl max a+1:=by
   unfold uq Xt;show(r.map (· + 1)).foldl max (max 0 (a+1))=_;rw[qaD (by omega),hg]
  omega
noncomputable def optT:Option (List Nat)->D
 | some f=>ZI f
 | none=>.non
theorem Zmn (a:Nat)(b:Int)(h:0<=b):U3 [nD a,.int b]=some (nD (min a b.toNat)):=by
 show some (D.int (if b<(a:Int) then b else a))=_;congr 2;split <;> omega
theorem Zb5 {τ:D->Zb->Option Zb}{body:Zb->M Out}{s:Pn}(I:Zb->Prop)(g:Nat->Option D):∀(l:List Nat) (ρ:Zb),I ρ->
  (∀x∈l,∀ρ,I ρ->∃ρ1,τ (nD x) ρ=some ρ1/\match g x with | some d=>body ρ1 s=some (.rt d,s) | none=>∃ρ2,body ρ1 s=some (.nx ρ2,s)/\I ρ2)->
  match l.findSome? g with | some d=>Wv τ body (l.map nD) ρ s=some (.rt d,s) | none=>∃ρ2,Wv τ body (l.map nD) ρ s=some (.nx ρ2,s)/\I ρ2
 | [],ρ,h0,_=>⟨ρ,rfl,h0⟩
 | x::l,ρ,h0,h=>by
  obtain⟨ρ1,e1,e2⟩:=h x (by simp) ρ h0;rw[yH]
  cases hg:g x with
  | some d=>
   rw[hg] at e2;exact Ze2 e1 e2
  | none=>
   rw[hg] at e2;obtain⟨ρ2,e3,h2⟩:=e2;have ih:=Zb5 I g l ρ2 h2 fun y hy=>h y (by simp[hy]);simp only
   cases hl:l.findSome? g with
   | some d=>rw[hl] at ih;exact Zbx e1 e3 ih
   | none=>
    rw[hl] at ih;obtain⟨ρ3,e4,h3⟩:=ih;exact⟨ρ3,Zbx e1 e3 e4,h3⟩
theorem Zaj {α β:Type}(p:α->Bool)(g:α->Option β):∀l:List α,(l.filter p).findSome? g=l.findSome? fun x=>if p x=true then g x else none
 | []=>rfl
 | a::l=>by
  by_cases h:p a=true
  ·rw[qaq h,yH,yH,Zaj p g l]
   simp[h]
  ·rw[ym h,yH,Zaj p g l]
   simp[h]
set_option maxHeartbeats 1000000 in
theorem ZdH {n:Nat}{jK:List (Nat×Nat)}(hn:n<=24)(many:Nat)(hm:many<=1000)(s:Pn):∀(r k:Nat) (w:List Nat),w.length+r=n->r<k->V1 k [Y9 n jK,nD many,ZI w] s=some (optT (YK jK many r w),s)
 | r,0,w,_,h=>by omega
 | r,k+1,w,hl,hk=>by
  have jS:Z3 [ZI w]=some (nD w.length):=by show some (D.int _)=_;rw[qd]
  have hlenN:Z3 [Y9 n jK]=some (nD n):=by show some (D.int _)=_;rw[qd,qJ]
  refine YI rfl (YL (XR (Yj (Zg rfl rfl) jS)) ?_);have heq:XY (nD w.length) (nD n)=some (.bl (decide (w.length=n))):=by
   rw[eqi];congr 2;rw[zo,beq_iff_eq,decide_eq_true_iff];constructor <;> intro h <;> omega
  cases r with
  | zero=>
   rw[decide_eq_true (by omega)] at heq;exact Z8 (Vl (Yk (Zr (d:=nD w.length) (e:=nD n) rfl (Yj (Zg rfl rfl) hlenN) heq)) (Z8 (YE rfl)))
  | succ r=>
   rw[decide_eq_false (by omega)] at heq;refine YL (VG (Yk (Zr (d:=nD w.length) (e:=nD n) rfl (Yj (Zg rfl rfl) hlenN) heq)) rfl) ?_;refine YL (XR (Zml (w:=w) (jK:=jK) (n:=n) (by omega) hn rfl rfl rfl)) ?_;have hrg:YO (ZA U3 (Zc (Za 1) (Zc (Zd Yp (BG (Za 2) (dC (.int (-1)))) (dC (.int 2))) Ze))) [some (Y9 n jK),some (nD many),some (ZI w),some (nD w.length),some (.lst ((XS jK w).map nD)),none,none] s=some (Ye 0 (min many (uq w+1)),s):=
    Vf (Yj (c:=nD (min many (uq w+1))) (Zg rfl (Zg (Zr (d:=.int ((uq w:Int)-1)) (e:=.int 2) (c:=.int ((uq w:Int)+1)) (Zmm rfl) rfl (by show some (D.int _)=_;congr 2;omega)) rfl)) (by rw[Zmn _ _ (by omega)];congr 3)) (by omega)
   have hgo:=Zb5 (τ:=ZD 5) (body:=(Zh (YJ (asB (Zd WE (Za 5) (Za 4)))
 (Zh (ZT 6 (Zo (V1 k) (Zc (Za 0) (Zc (Za 1) (Zc (Zd Yp (Za 2) (Yc (Zc (Za 5) Ze))) Ze)))))
 (Zh (YJ (asB (Zd ZlL (Za 6) (dC .non)))
 (Zh (ZP (Za 6))
 Zs)
 Zs)
 Zs))
 Zs)
 Zs)) (s:=s) (fun ρ=>∃o5 o6,ρ=[some (Y9 n jK),some (nD many),some (ZI w),some (nD w.length),some (.lst ((XS jK w).map nD)),o5,o6]) (fun h=>if (!decide (h∈XS jK w))=true then (YK jK many r (w ++ [h])).map ZI else none) (qp (min many (uq w+1))) [some (Y9 n jK),some (nD many),some (ZI w),some (nD w.length),some (.lst ((XS jK w).map nD)),none,none] ⟨none,none,rfl⟩ (fun x hx ρ hI=>by
    obtain⟨o5,o6,rfl⟩:=hI;refine⟨_,rfl,?_⟩;by_cases ht:x∈XS jK w
    ·simp only[ht,decide_true,Bool.not_true,yc,if_false]
     exact⟨_,YL (VG (Yk (Zr (d:=nD x) (e:=.lst ((XS jK w).map nD)) rfl rfl (by rw[Za4,decide_eq_true ht];rfl))) rfl) rfl,some (nD x),o6,rfl⟩
    ·simp only[ht,decide_false,Bool.not_false,if_true]
     have ih:=ZdH (jK:=jK) hn many hm s r k (w ++ [x]) (by simp;omega) (by omega);have hin:asB (Zd WE (Za 5) (Za 4)) [some (Y9 n jK),some (nD many),some (ZI w),some (nD w.length),some (.lst ((XS jK w).map nD)),some (nD x),o6] s=some (true,s):=Yk (Zr (d:=nD x) (e:=.lst ((XS jK w).map nD)) rfl rfl (by rw[Za4,decide_eq_false ht];rfl));have hcall:Zo (V1 k) (Zc (Za 0) (Zc (Za 1) (Zc (Zd Yp (Za 2) (Yc (Zc (Za 5) Ze))) Ze))) [some (Y9 n jK),some (nD many),some (ZI w),some (nD w.length),some (.lst ((XS jK w).map nD)),some (nD x),o6] s=some (optT (YK jK many r (w ++ [x])),s):=Z0 (Zg rfl (Zg rfl (Zg (Zr (d:=ZI w) (e:=.tup [nD x]) rfl (Znj rfl) (ZnD w x (by omega))) rfl))) ih
     cases hd:YK jK many r (w ++ [x]) with
     | some f=>
      rw[hd] at hcall;exact Z8 (Vl hin (YL (XR hcall) (Z8 (Vl (Yk (Zr (d:=ZI f) (e:=.non) (c:=.bl true) rfl rfl rfl)) (Z8 (YE rfl))))))
     | none=>
      rw[hd] at hcall;exact⟨_,YL (Vl hin (YL (XR hcall) (YL (VG (Yk (Zr (d:=.non) (e:=.non) (c:=.bl false) rfl rfl rfl)) rfl) rfl))) rfl,some (nD x),some .non,rfl⟩)
   have e:(qp (min many (uq w+1))).findSome? (fun h=>if (!decide (h∈XS jK w))=true then (YK jK many r (w ++ [h])).map ZI else none)=(YK jK many (r+1) w).map ZI:=by
    show _=((VJ jK many w).findSome? fun h=>YK jK many r (w ++ [h])).map ZI;unfold VJ;rw[Zaj,List.map_findSome?];congr 1;funext h;show _=(if (!decide (h∈XS jK w))=true then YK jK many r (w ++ [h]) else none).map ZI;split <;> rfl
   rw[e] at hgo;rw[V4] at hrg
   cases hd:YK jK many (r+1) w with
   | some f=>
    rw[hd] at hgo;exact Z8 (ZcF hrg hgo)
   | none=>
    rw[hd] at hgo;obtain⟨ρ2,e2,o5,o6,rfl⟩:=hgo;exact YL (ZcF hrg e2) (Z8 (YE rfl))
end TP3
namespace TP3
open L2 TF TP TS
open TP2
noncomputable def hueB (n:Nat)(jK:List (Nat×Nat)):D->Bool
 | .tup ds=>decide (ds.length=n)&&(ds.all (Wh (n:Int))&&jK.all fun p=>!decide (Yi (ds.getD p.1 .non)=Yi (ds.getD p.2 .non)))
 | _=>false
theorem ZdI {n:Int}:∀{ds:List D},ds.all (Wh n)=true->∃as:List Nat,ds=as.map nD
 | [],_=>⟨[],rfl⟩
 | d::ds,h=>by
  rw[qaX,qX] at h;obtain⟨i,rfl⟩:=ZjG h.1;have h0:0<=i:=by
   have:=h.1;simp only[Wh,qX,decide_eq_true_eq] at this;exact this.1
  obtain⟨a,rfl⟩:=qap h0;obtain⟨as,rfl⟩:=ZdI h.2;exact⟨a::as,rfl⟩
theorem Zmo (p:Nat×Nat):Zj (Ym p) (.int 0)=some (nD p.1):=V7 _ _
theorem Zmp (p:Nat×Nat):Zj (Ym p) (.int 1)=some (nD p.2):=JQ _ _ _
theorem Zkj {n:Nat}{jK:List (Nat×Nat)}(hw:IsWeb n jK){f:List Nat}(hl:f.length=n):hueB n jK (ZI f)=(f.all (fun x=>decide (x<n))&&jK.all fun p=>!decide (f.getD p.1 0=f.getD p.2 0)):=by
 show(decide ((f.map nD).length=n)&&((f.map nD).all (Wh (n:Int))&&jK.all fun p=>!decide (Yi ((f.map nD).getD p.1 .non)=Yi ((f.map nD).getD p.2 .non))))=_;have gg:∀i,i<n->(f.map nD).getD i .non=nD (f.getD i 0):=fun i hi=>by
  rw[qf,qD,qf,qm (by omega)];rfl
 rw[qd,decide_eq_true hl,yV,qa9];congr 1
 ·congr 1
  funext x;show(decide (0<=(x:Int))&&decide ((x:Int)<(n:Int)))=_;rw[decide_eq_true (by omega),yV];exact decide_eq_decide.mpr (by omega)
 ·rw[zo,zd,zd]
  constructor
  ·intro h p hp
   obtain⟨g1,g2⟩:=TP.IsWeb.mem hw hp;have:=h p hp;rw[gg p.1 (by omega),gg p.2 g2] at this;exact this
  ·intro h p hp
   obtain⟨g1,g2⟩:=TP.IsWeb.mem hw hp;rw[gg p.1 (by omega),gg p.2 g2];exact h p hp
theorem Zkk (ds:List D)(hp:Yw ds=true)(hd:Xl ds<=10):YT (.lst ds) (.lst [])=some (.bl (!decide (ds=[]))):=by
 have hok:W7 (.lst ds) (.lst [])=true:=by
  unfold W7;simp[Zq,Yg,Yw,Xl,hp];omega
 unfold YT;rw[if_pos hok]
 cases ds with
 | nil=>rfl
 | cons a r=>rfl
end TP3
namespace TP3
open L2 TF TP TS
open TP2
theorem canon {n:Nat}{jK:List (Nat×Nat)}(c:Nat->Nat)(vals:List Nat)(hr:∀a b,a<b->b<n->tied jK a b=true->c a≠c b)(hv:∀i<n,c i∈vals) :
  ∀k≤n,∃(f:List Nat) (g:Nat->Nat),f.length=k/\Yu jK vals.length f/\(∀i<k,c i=g (f.getD i 0))/\(∀x<uq f,∀y<uq f,g x=g y->x=y):=by
 intro k
 induction k with
 | zero=>intro _;exact⟨[],fun _=>0,rfl,Yu.nil,fun i hi=>by omega,fun x hx=>by simp[uq,Xt] at hx⟩
 | succ k ih=>
  intro hk;obtain⟨f,g,hl,R,hc,hg⟩:=ih (by omega);have hmem:∀x,x<uq f->∃i,i<k/\f.getD i 0=x:=fun x hx=>by
   obtain⟨i,hi,e⟩:=yZ ((R.all rfl x).mpr hx);exact⟨i,by omega,by rw[qf,qm hi];exact e⟩
  have hlt:∀i,i<k->f.getD i 0<uq f:=fun i hi=>by
   refine ZiV ?_;rw[qf,qm (by omega)];exact zu _
  have notTaken:∀h,(∀o<k,f.getD o 0=h->c o=c k)->h∉XS jK f:=fun h hh z=>by
   obtain⟨o,ho,e⟩:=qy.mp z;obtain⟨h1,h2⟩:=qA.mp ho;have h1:=qB.mp h1;rw[hl] at h1 h2;exact hr o k h1 (by omega) (by rw[V0];exact h2) (hh o h1 e)
  by_cases old:∃j,j<k/\c j=c k
  ·obtain⟨j,hj,ej⟩:=old
   have hx:=hlt j hj;have hin:f.getD j 0∈VJ jK vals.length f:=Uj.mpr ⟨R.lt _ ((R.all rfl _).mpr hx),by omega,notTaken _ fun o ho e=>by rw[hc o ho,e,<-hc j hj,ej]⟩;have hu:uq (f ++ [f.getD j 0])=uq f:=by rw[Zfu];omega
   refine⟨f ++ [f.getD j 0],g,by simp[hl],Yu.snoc.mpr ⟨R,hin⟩,fun i hi=>?_,by rw[hu];exact hg⟩;by_cases e:i<k
   ·rw[Zar (by omega)];exact hc i e
   ·have:i=f.length:=by omega
    subst this;rw[Zbb,<-hc j hj,ej,hl]
  ·have hnew:∀j,j<k->c j≠c k:=fun j hj e=>old ⟨j,hj,e⟩
   have hgk:∀x<uq f,g x≠c k:=fun x hx e=>by
    obtain⟨i,hi,ei⟩:=hmem x hx;exact hnew i hi (by rw[hc i hi,ei,e])
   have hcount:uq f+1<=vals.length:=by
    have nd:((qp (uq f)).map g ++ [c k]).Nodup:=by
     refine qau.mpr ⟨?_,by simp,fun a ha b hb e=>?_⟩
     ·refine yz.mpr (zM (fun {a b} ha hb hab e=>?_) (zZ (n:=uq f)))
      exact hab (hg a (qB.mp ha) b (qB.mp hb) e)
     ·obtain⟨x,hx,rfl⟩:=qy.mp ha
      rw[qN.mp hb] at e;exact hgk x (qB.mp hx) e
    have:=WT (b:=vals) nd fun y hy=>by
     rcases qP.mp hy with hy | hy
     ·obtain⟨x,hx,rfl⟩:=qy.mp hy
      obtain⟨i,hi,ei⟩:=hmem x (qB.mp hx);rw[<-ei,<-hc i hi];exact hv i (by omega)
     ·rw[qN.mp hy];exact hv k (by omega)
    simpa using this
   have hin:uq f∈VJ jK vals.length f:=Uj.mpr ⟨by omega,qw _,notTaken _ fun o ho e=>by have:=hlt o ho;omega⟩;have hu:uq (f ++ [uq f])=uq f+1:=by rw[Zfu];omega
   refine⟨f ++ [uq f],fun x=>if x=uq f then c k else g x,by simp[hl],Yu.snoc.mpr ⟨R,hin⟩,fun i hi=>?_,fun x hx y hy e=>?_⟩
   ·by_cases e:i<k
    ·rw[Zar (by omega)]
     have:=hlt i e;show c i=if f.getD i 0=uq f then c k else g (f.getD i 0);rw[if_neg (by omega)];exact hc i e
    ·have:i=f.length:=by omega
     subst this;rw[Zbb,hl];show c k=if uq f=uq f then c k else _;rw[if_pos rfl]
   ·rw[hu] at hx hy
    have e:(if x=uq f then c k else g x)=if y=uq f then c k else g y:=e;by_cases h1:x=uq f
    ·by_cases h2:y=uq f
     ·omega
     ·rw[if_pos h1,if_neg h2] at e
      exact absurd e.symm (hgk y (by omega))
    ·by_cases h2:y=uq f
     ·rw[if_neg h1,if_pos h2] at e
      exact absurd e (hgk x (by omega))
     ·rw[if_neg h1,if_neg h2] at e
      exact hg x (by omega) y (by omega) e
theorem Zkl {n:Nat}{jK:List (Nat×Nat)}(c:Nat->Nat)(vals:List Nat)(hr:∀a b,a<b->b<n->tied jK a b=true->c a≠c b)(hv:∀i<n,c i∈vals):XB n jK<=vals.length:=by
 obtain⟨f,g,h1,h2,_⟩:=canon c vals hr hv n (qw n);exact Zpr h1 h2
theorem Zfv {d:D}(h:VH d=true)(n:Nat)(s:Pn):Jk [d,nD n] s=some (.bl (match d with | .tup ds=>decide (ds.length=n) | _=>false),s):=by
 refine YI rfl (Z8 (YE ?_));have hw:ZA Uc (Zc (Za 0) (Zc (dC (.ty "tuple")) Ze)) [some d,some (nD n)] s=_:=Yj (Zg rfl (Zg rfl rfl)) (ZjF h)
 cases d with
 | tup ds=>
  refine Zhu hw (Zr (d:=nD ds.length) (e:=nD n) (Yj (Zg rfl rfl) rfl) rfl ?_);rw[eqi];congr 2;rw[zo,beq_iff_eq,decide_eq_true_iff];constructor <;> intro h <;> omega
 | pen=>cases h
 | ty _=>cases h
 | clo _ _=>cases h
 | dk _=>cases h
 | dt _=>cases h
 | du _=>cases h
 | df _=>cases h
 | _=>exact Zhv hw
theorem Zfw {n:Nat}{jK:List (Nat×Nat)}(hw:IsWeb n jK)(hn:n<=24){t:D}(hk:VH t=true)(hks:∀ds,t=.tup ds->∀d∈ds,VH d=true)(hl:∀ds,t=.tup ds->ds.length<=100000)(s:Pn):Be [ZF n jK,t] s=some (.bl (hueB n jK t),s):=by
 have htl:=hw.len hn;have h0:=Zfv hk n s;have h00:∀b,Jk [t,nD n] s=some (.bl b,s)->X9 (asB (Zo Jk (Zc (Za 1) (Zc (Zd Zj (Za 0) (dC (.int 0))) Ze)))) [some (ZF n jK),some t] s=some (!b,s):=fun b h=>Bw (Yk (Z0 (Zg rfl (Zg (Zr (d:=ZF n jK) (e:=.int 0) rfl rfl Ue) rfl)) h))
 cases t with
 | tup ds=>
  have hB:hueB n jK (.tup ds)=(decide (ds.length=n)&&(ds.all (Wh (n:Int))&&jK.all fun p=>!decide (Yi (ds.getD p.1 .non)=Yi (ds.getD p.2 .non)))):=rfl;by_cases jS:ds.length=n
  ·have h1:=h00 true (by rw[h0];simp[jS])
   rw[hB,decide_eq_true jS,yV];have hc:=YW (src:=[none,some 0]) (fi:=Wq (Za 1)) (τ:=ZD 0) (ft:=Z2) (fe:=Zo VX (Zc (Zd Zj (Za 1) (dC (.int 0))) (Zc (Za 0) Ze))) (ρ:=[some (ZF n jK),some (.tup ds)]) (s:=s) (ds:=ds) (fun d=>[some d,some (ZF n jK)]) (fun _=>true) (fun d=>.bl (Wh (n:Int) d)) (Ze3 rfl) (by rw[Yv];omega) (fun d hd=>⟨rfl,rfl,fun _=>Z0 (Zg (Zr (d:=ZF n jK) (e:=.int 0) rfl rfl Ue) (Zg rfl rfl)) (Zce (hks ds rfl d hd) (n:Int) s)⟩);rw[WS] at hc;have h2:X9 (asB (ZA VO (Zc (ZY [none,some 0] (Wq (Za 1)) (ZD 0) Z2 (Zo VX (Zc (Zd Zj (Za 1) (dC (.int 0))) (Zc (Za 0) Ze)))) Ze))) [some (ZF n jK),some (.tup ds)] s=some (!ds.all (Wh (n:Int)),s):=Bw (Yk (Yj (Zg hc rfl) (Bp ds _)))
   cases ha:ds.all (Wh (n:Int)) with
   | false=>
    rw[ha] at h2;exact YI rfl (YL (VG h1 rfl) (Z8 (Vl h2 (Z8 (YE rfl)))))
   | true=>
    rw[ha] at h2;obtain⟨as,rfl⟩:=ZdI ha;rw[qd] at jS;have gg:∀i,i<n->(as.map nD).getD i .non=nD (as.getD i 0):=fun i hi=>by
     rw[qf,qD,qf,qm (by omega)];rfl
    refine YI rfl (YL (VG h1 rfl) (YL (VG h2 rfl) (Z8 (YE ?_))));have hc2:=YW (src:=[none,some 1]) (fi:=Wq (Zd Zj (Za 0) (dC (.int 1)))) (τ:=ZD 0) (ft:=Z2) (fe:=Zd YT (Zd Zj (Za 1) (Zd Zj (Za 0) (dC (.int 0)))) (Zd Zj (Za 1) (Zd Zj (Za 0) (dC (.int 1))))) (ρ:=[some (ZF n jK),some (ZI as)]) (s:=s) (ds:=jK.map Ym) (fun d=>[some d,some (ZI as)]) (fun _=>true) (fun d=>.bl (!decide (as.getD (p2 d).1.toNat 0=as.getD (p2 d).2.toNat 0))) (Ze3 (Zr (d:=ZF n jK) (e:=.int 1) rfl rfl web1)) (by rw[qd,Yv];omega) (fun d hd=>by
     obtain⟨p,hp,rfl⟩:=qy.mp hd;obtain⟨g1,g2⟩:=TP.IsWeb.mem hw hp;have i1:Zj (ZI as) (nD p.1)=some (nD (as.getD p.1 0)):=UQ (by omega);have i2:Zj (ZI as) (nD p.2)=some (nD (as.getD p.2 0)):=UQ (by omega);refine⟨rfl,rfl,fun _=>Zr (d:=nD (as.getD p.1 0)) (e:=nD (as.getD p.2 0)) (Zr (d:=ZI as) (e:=nD p.1) rfl (Zr (d:=Ym p) (e:=.int 0) rfl rfl (Zmo p)) i1) (Zr (d:=ZI as) (e:=nD p.2) rfl (Zr (d:=Ym p) (e:=.int 1) rfl rfl (Zmp p)) i2) ?_⟩;rw[UX];show _=some (D.bl (!decide (as.getD (p.1:Int).toNat 0=as.getD (p.2:Int).toNat 0)));rw[yi,yi])
    rw[WS,qG] at hc2;have e3:jK.map ((fun d=>D.bl (!decide (as.getD (p2 d).1.toNat 0=as.getD (p2 d).2.toNat 0)))∘Ym)=jK.map fun p=>D.bl (!decide (as.getD p.1 0=as.getD p.2 0)):=rfl;rw[e3] at hc2;refine Yj (Zg hc2 rfl) ?_;rw[Bp jK fun p=>!decide (as.getD p.1 0=as.getD p.2 0),yV];congr 2;rw[zo,zd,zd];constructor
    ·intro h p hp
     obtain⟨g1,g2⟩:=TP.IsWeb.mem hw hp;have:=h p hp;rw[gg p.1 (by omega),gg p.2 g2];exact this
    ·intro h p hp
     obtain⟨g1,g2⟩:=TP.IsWeb.mem hw hp;have:=h p hp;rw[gg p.1 (by omega),gg p.2 g2] at this;exact this
  ·have h1:=h00 false (by rw[h0];simp[jS])
   rw[hB,decide_eq_false jS,Bool.false_and];exact YI rfl (Z8 (Vl h1 (Z8 (YE rfl))))
 | pen=>cases hk
 | ty _=>cases hk
 | clo _ _=>cases hk
 | dk _=>cases hk
 | dt _=>cases hk
 | du _=>cases hk
 | df _=>cases hk
 | _=>exact YI rfl (Z8 (Vl (h00 false h0) (Z8 (YE rfl))))
theorem Zey (f:List Nat):VH (ZI f)=true/\∀ds,ZI f=.tup ds->∀d∈ds,VH d=true:=⟨rfl,fun ds e d hd=>by
 cases e
 obtain⟨x,_,rfl⟩:=qy.mp hd;rfl⟩
end TP3
namespace TQ
open L2 TF TS
open TP
open TP2
open TP3
theorem Zpt {T:Nat->List D->M D}{i t:Nat}{fs:Zb->M (List D)}{ρ:Zb}{s s1:Pn}{ds cds:List D}{r:Option (D×Pn)}(h1:(ρ[i]?).bind id=some (.clo t cds))(h2:fs ρ s=some (ds,s1))(h3:T t (ds++cds) s1=r):BV T i fs ρ s=r:=by
 unfold BV Zn Za YR;rw[h1];simp only[h2];exact h3
theorem Zh1 {F:List D->M D}{t:Nat}{cix:List Nat}{f:Zb->M D}{ρ:Zb}{s s1 s2:Pn}{d c:D}{cds:List D}(h1:f ρ s=some (d,s1))(h2:Vk ρ cix=some cds)(n1:Yx d=true)(n2:YF cds=true)(h3:F [d,.clo t cds] s1=some (c,s2))(n3:Yx c=true):Jb F t cix f ρ s=some (c,s2):=by
 unfold Jb Zn YR;rw[h1,h2];simp only;rw[if_pos (by rw[n1,n2];rfl),h3];simp only;rw[if_pos n3];rfl
theorem UM:∀{ds:List D},(∀d∈ds,Yx d=true)->YF ds=true
 | [],_=>rfl
 | d::ds,h=>by
  show(Yx d&&YF ds)=true;rw[h d zC,UM fun x (hx:x∈ds)=>h x (qK _ hx)];rfl
theorem ZcJ {n:Nat}{f:Zb->M D}{ds:List D}{s:Pn}{r:Option (D×Pn)}(hl:ds.length=n)(h:f (ds.map some) s=r):Xd n f ds s=r:=by
 unfold Xd;rw[if_pos hl];exact h
theorem Zb6 (n:Nat)(jK:List (Nat×Nat)):Yx (ZF n jK)=true:=by
 have:YF (jK.map Ym)=true:=UM fun d hd=>by obtain⟨p,_,rfl⟩:=qy.mp hd;rfl
 simp only[ZF,Yx,YF,this];rfl
theorem Zfx (lo:Int)(n:Nat):YF (Ye lo n)=true:=UM fun d hd=>by
 unfold Ye at hd;obtain⟨i,_,rfl⟩:=qy.mp hd;rfl
theorem ZgK (l:List Nat):YF (l.map nD)=true:=UM fun d hd=>by obtain⟨p,_,rfl⟩:=qy.mp hd;rfl
theorem ZaP {row:D}{ds cds:List D}{t:Nat}(h:JX row ds)(hn:ds.length<=1000)(b:Nat×Nat->Bool)(s:Pn)(hb:∀p∈YQ ds.length,Tl t ([ds.getD p.1 .non,ds.getD p.2 .non]++cds) s=some (.bl (b p),s)):VT [row,.clo t cds] s=some (ZF ds.length ((YQ ds.length).filter b),s):=by
 have hln:∀r,ZA Z3 (Zc (Za 0) Ze) (some row::r) s=some (nD ds.length,s):=fun r=>Yj (Zg rfl rfl) h.len;refine YI rfl (YL (XR (Z0 (Zg (Zbw (hln _) hn) rfl) (Zf3 s hn))) (Z8 (YE ?_)));have hap:=Zf4 ds.length hn;have hc:=YW (src:=[none,some 1,some 0]) (fi:=ZX (Za 2)) (τ:=ZD 0) (ft:=asB (BV Tl 1 (Zc (Zd Zj (Za 2) (Zd Zj (Za 0) (dC (.int 0)))) (Zc (Zd Zj (Za 2) (Zd Zj (Za 0) (dC (.int 1)))) Ze)))) (fe:=Za 0) (ρ:=[some row,some (.clo t cds),some (.lst ((YQ ds.length).map Ym))]) (s:=s) (ds:=(YQ ds.length).map Ym) (fun d=>[some d,some (.clo t cds),some row]) (fun d=>b (BW d)) (fun d=>d) (XI rfl) (by rw[qd,Yv];omega) fun d hd=>by
  obtain⟨p,hpm,rfl⟩:=qy.mp hd;have hpp:=Wo.mp hpm;refine⟨rfl,Yk (Zpt (t:=t) (cds:=cds) rfl (Zg (Zr (d:=row) (e:=nD p.1) rfl (Zr (d:=Ym p) (e:=.int 0) rfl rfl (V7 _ _)) (h.ix (by omega))) (Zg (Zr (d:=row) (e:=nD p.2) rfl (Zr (d:=Ym p) (e:=.int 1) rfl rfl (JQ _ _ _)) (h.ix (by omega))) rfl)) (hb p hpm)),fun _=>rfl⟩
 rw[ZeW (YQ ds.length) _ b fun p=>by rw[Zei]] at hc;exact WF (Zg (hln _) (Zg (Yj (Zg hc rfl) rfl) rfl)) two_le
theorem range_getD {n i:Nat}(h:i<n):(Ye 0 n).getD i .non=nD i:=by
 rw[V4];simp[qaQ,h]
theorem Zh2 (n:Nat)(jK:List (Nat×Nat))(s:Pn)(hn:n<=1000)(hl:jK.length<=100000):Ju [ZF n jK] s=some (ZF n ((YQ n).filter fun p=>!decide (p∈jK)),s):=by
 refine YI rfl (YL (XR (Z0 (Zg rfl rfl) (Za8 n jK s hl))) (Z8 (YE ?_)));refine Zh1 (d:=.lst (Ye 0 n)) (cds:=[.dt (Xo [] jK)]) (Zbw (Zr (d:=ZF n jK) (e:=.int 0) rfl rfl Ue) hn) rfl (by simp only[Yx];exact Zfx _ _) rfl ?_ (Zb6 _ _);have:=ZaP (row:=.lst (Ye 0 n)) (ds:=Ye 0 n) (cds:=[.dt (Xo [] jK)]) (t:=0) (.inl rfl) (by rw[WB];exact hn) (fun p=>!decide (p∈jK)) s (fun p hp=>by
  rw[WB] at hp;have hpp:=Wo.mp hp;rw[range_getD (by omega),range_getD (by omega)];show ZbA [nD p.1,nD p.2,.dt (Xo [] jK)] s=_;refine ZcJ rfl ?_;refine Ziy (a:=decide (p∈jK)) (Z0 (Zg rfl (Zg rfl (Zg rfl rfl))) ?_);rw[ZaN,Jz hpp.1])
 rw[WB] at this;exact this
theorem Zez {ps:List Nat}{i:Nat}(h:i<ps.length):(ps.map nD).getD i .non=nD (ps.getD i 0):=by
 rw[qf,qD,qf,qm h];rfl
theorem ZgL (n:Nat)(jK:List (Nat×Nat))(ps:List Nat)(hp:ps.length<=1000)(hl:jK.length<=100000)(s:Pn):Jj [ZF n jK,.lst (ps.map nD)] s=some (ZF ps.length (Y5 jK ps),s):=by
 refine YI rfl (YL (XR (Z0 (Zg rfl rfl) (Za8 n jK s hl))) (Z8 (YE ?_)));refine Zh1 (d:=.lst (ps.map nD)) (cds:=[.dt (Xo [] jK)]) rfl rfl (by simp only[Yx];exact ZgK _) rfl ?_ (Zb6 _ _);have:=ZaP (row:=.lst (ps.map nD)) (ds:=ps.map nD) (cds:=[.dt (Xo [] jK)]) (t:=1) (.inl rfl) (by rw[qd];exact hp) (fun p=>tied jK (ps.getD p.1 0) (ps.getD p.2 0)) s (fun p hpm=>by
  rw[qd] at hpm;have hpp:=Wo.mp hpm;rw[Zez (by omega),Zez (by omega)];show Zal [nD _,nD _,.dt (Xo [] jK)] s=_;refine ZcJ rfl ?_;exact Z0 (Zg rfl (Zg rfl (Zg rfl rfl))) (ZaN jK _ _ s))
 rw[qd] at this;exact this
theorem Zkm (n:Nat)(jK:List (Nat×Nat))(ps:List Nat)(hp:ps.length<=1000)(hl:jK.length<=100000)(s:Pn):By [ZF n jK,.lst (ps.map nD)] s=some (ZF ps.length (Y5 jK ps),s):=
 YI rfl (Z8 (YE (Z0 (Zg rfl (Zg rfl rfl)) (ZgL n jK ps hp hl s))))
theorem Zmq (n:Nat)(jK:List (Nat×Nat))(ps:List Nat)(hp:ps.length<=1000)(hl:jK.length<=100000)(s:Pn):BH [ZF n jK,.lst (ps.map nD)] s=some (ZF ps.length (Y5 jK ps),s):=
 YI rfl (Z8 (YE (Z0 (Zg rfl (Zg rfl rfl)) (ZgL n jK ps hp hl s))))
end TQ
namespace TQ
open L2 TF TS
open TP
open TP2
open TP3
theorem ZnM {f g:Zb->M D}{ρ:Zb}{s:Pn}{a b:Bool}(h:f ρ s=some (.bl a,s))(h2:g ρ s=some (.bl b,s)):Wu f g ρ s=some (.bl (a&&b),s):=ZeZ h fun _=>h2
end TQ
namespace TQ
open L2 TF TS
open TP
open TP2
open TP3
theorem jH {fs:Zb->M (List D)}{gs:Zb->M (List D)}{ρ:Zb}{s:Pn}{m T:Nat}{ds:List D}{Q:D->Pn->Prop}(hl:gs ρ s=some (ds,s))(hm1:ds.length=m)(ok:Xs T s)(hT:T<1000000000)(h1:fs ρ s=some ([.pen,.int (m:Int)],s))(hm:0<m)(hm2:m<1000)(h:∀d s',d∈ds->Xs (T+1) s'->Q d s'):Ok (Zd Zj (YX gs) (Zo Z9 fs) ρ) s Q:=by
 refine .op (.eq (Uq hl (by rw[Yv];omega)) (.drawD ok hT h1 hm (by omega) fun r s' hr ok'=>?_));obtain⟨d,hd,e⟩:=Ze1 (ds:=ds) (r:=r) (by omega);exact⟨d,e,h d s' hd ok'⟩
end TQ
namespace TQ
open L2 TF TS
open TP
open TP2
open TP3
end TQ
namespace TQ
open L2 TF TS
open TP
open TP2
open TP3
theorem Zb7 (n:Nat)(jK:List (Nat×Nat)):Zq (ZF n jK)=true:=by
 simp only[ZF,Zq,Yw,Zcb];rfl
end TQ
namespace TQ
open L2 TF TS
open TP
open TP2
open TP3
theorem Zcp {N:Nat}{B:Nat×Nat->Bool}{a b:Nat}(h:a<b)(hb:b<N):tied ((YQ N).filter B) a b=B (a,b):=by
 rw[Jz h,zo,decide_eq_true_eq,qA];exact⟨fun z=>z.2,fun z=>⟨Wo.mpr ⟨h,hb⟩,z⟩⟩
end TQ
namespace TQ
open L2 TF TS
open TP
open TP2
open TP3
end TQ
namespace TQ
open L2 TF TS
open TP
open TP2
open TP3
end TQ
namespace TQ
open L2 TF TS
open TP
open TP2
open TP3
noncomputable abbrev UD (n:Nat)(jK:List (Nat×Nat)):D:=.tup [nD n,.dt (Xo [] jK)]
theorem mk0 {n:Nat}{jK:List (Nat×Nat)}:Zj (UD n jK) (.int 0)=some (nD n):=V7 _ _
theorem mk1 {n:Nat}{jK:List (Nat×Nat)}:Zj (UD n jK) (.int 1)=some (.dt (Xo [] jK)):=JQ _ _ _
theorem Zmr (n:Nat)(jK:List (Nat×Nat))(p:Nat)(s:Pn)(hn:n<=100000):JI [UD n jK,.int p] s=some (.lst ((Yf n jK p).map nD),s):=by
 refine YI rfl (Z8 (YE ?_));unfold Yf;show _=some (D.lst (((qp n).filter fun o=>tied jK p o).map fun(i:Nat)=>D.int (i:Int)),s);rw[<-Zau];refine YW (ds:=Ye 0 n) (fun d=>[some d,some (UD n jK),some (.int p)]) (fun d=>tied jK p (Yi d)) (fun d=>d) (Vf (Zr (d:=UD n jK) (e:=.int 0) rfl rfl mk0) hn) (ZeV hn) ?_;intro d hd;obtain⟨i,hi,rfl⟩:=UI hd;exact⟨rfl,Yk (Z0 (Zg (Zr (d:=UD n jK) (e:=.int 1) rfl rfl mk1) (Zg rfl (Zg rfl rfl))) (ZaN jK p i s)),fun _=>rfl⟩
noncomputable def gN:Zb->M Out:=(Zh (ZT 1 (Yc (Zc (Zd Zj (Za 0) (dC (.int 0))) (Zc (Zo Vd (Zc (Za 0) Ze)) Ze))))
 (Zh (ZP (ZY [none,some 1] (YO (Zd Zj (Za 0) (dC (.int 0)))) (ZD 0) Z2 (Zo JI (Zc (Za 1) (Zc (Za 0) Ze)))))
 Zs))
theorem ZbL (n:Nat)(jK:List (Nat×Nat))(hn:n<=1000)(hl:jK.length<=100000)(s:Pn):runB 2 1 gN [ZF n jK] s=some (Y9 n jK,s):=by
 refine YI rfl (YL (XR (WF (Zg (Zr (d:=ZF n jK) (e:=.int 0) rfl rfl Ue) (Zg (Z0 (Zg rfl rfl) (Za8 n jK s hl)) rfl)) two_le)) (Z8 (YE ?_)));have hc:=YW (src:=[none,some 1]) (fi:=YO (Zd Zj (Za 0) (dC (.int 0)))) (τ:=ZD 0) (ft:=Z2) (fe:=Zo JI (Zc (Za 1) (Zc (Za 0) Ze))) (ρ:=[some (ZF n jK),some (UD n jK)]) (s:=s) (ds:=Ye 0 n) (fun d=>[some d,some (UD n jK)]) (fun _=>true) (fun d=>.lst ((Yf n jK (Yi d)).map nD)) (Vf (Zr (d:=ZF n jK) (e:=.int 0) rfl rfl Ue) (by omega)) (ZeV (by omega)) fun d hd=>by
  obtain⟨i,hi,rfl⟩:=UI hd;exact⟨rfl,rfl,fun _=>Z0 (Zg rfl (Zg rfl rfl)) (Zmr n jK i s (by omega))⟩
 rw[WS,V4,qG] at hc;exact hc
end TQ
namespace TQ
open L2 TF TS
open TP
open TP2
open TP3
section
variable (ap:Nat->Nat->Bool)
noncomputable def one? (ps:List Nat):Option Nat:=ps.find? fun p=>decide (Xe ap ps p<=1)
noncomputable def Yt:Nat->List Nat->List Nat
 | 0,_=>[]
 | m+1,ps=>if ps=[] then [] else match one? ap ps with
  | some p=>p::Yt m (Y1 ap ps p)
  | none=>if (Yt m (ps.filter fun o=>!decide (o=Yq ap ps))).length<=(Yq ap ps::Yt m (Y1 ap ps (Yq ap ps))).length then Yq ap ps::Yt m (Y1 ap ps (Yq ap ps))
   else Yt m (ps.filter fun o=>!decide (o=Yq ap ps))
end
section
variable {ap:Nat->Nat->Bool}
theorem ZbM {ps:List Nat}{p:Nat}(h:one? ap ps=some p):p∈ps/\Xe ap ps p<=1:=⟨List.mem_of_find?_eq_some h,by have:=List.find?_some h;simpa using this⟩
theorem ZbN (sy:∀a b,ap a b=ap b a):∀(m:Nat) (ps:List Nat),KnA ap ps (Yt ap m ps)
 | 0,ps=>⟨qaP,fun x hx=>by simp[Yt] at hx,fun x hx=>by simp[Yt] at hx⟩
 | m+1,ps=>by
  unfold Yt;by_cases h0:ps=[]
  ·rw[if_pos h0];exact⟨qaP,fun x hx=>by simp at hx,fun x hx=>by simp at hx⟩
  ·rw[if_neg h0]
   have w:=fun p (hp:p∈ps)=>jF sy hp (ZbN sy m (Y1 ap ps p));split
   ·rename_i p hp
    exact w _ (ZbM hp).1
   ·split
    ·exact w _ (Zaq h0)
    ·exact(ZbN sy m _).mono fun x hx=>(qA.mp hx).1
theorem ZdJ (sy:∀a b,ap a b=ap b a)(ir:∀a,ap a a=false):∀(m:Nat) (ps K:List Nat),ps.length<m->KnA ap ps K->K.length<=(Yt ap m ps).length
 | 0,ps,K,h,_=>by omega
 | m+1,ps,K,hl,h=>by
  unfold Yt;by_cases h0:ps=[]
  ·rw[if_pos h0]
   cases K with
   | nil=>simp
   | cons a r=>have:=h.sub a (by simp);rw[h0] at this;simp at this
  ·rw[if_neg h0]
   have w:∀p,p∈ps->(p∈K∨Xe ap ps p<=1)->K.length<=(p::Yt ap m (Y1 ap ps p)).length:=fun p hp hm=>by
    have h1:=Zke ir h hm;have h2:=ZdJ sy ir m (Y1 ap ps p) _ (by have:=ZgG (ap:=ap) hp;omega) (h.rest (p:=p));simp only[qR];omega
   split
   ·rename_i p hp
    exact w _ (ZbM hp).1 (.inr (ZbM hp).2)
   ·have hb:=Zaq (ap:=ap) h0
    by_cases hk:Yq ap ps∈K
    ·have:=w _ hb (.inl hk)
     split
     ·exact this
     ·omega
    ·have h3:=ZdJ sy ir m (ps.filter fun o=>!decide (o=Yq ap ps)) K (by have:=ZdE hb;omega) ⟨h.nd,fun x hx=>qA.mpr ⟨h.sub x hx,by
      have:x≠Yq ap ps:=fun z=>hk (z▸hx);simpa using this⟩,h.two⟩
     split
     ·omega
     ·exact h3
theorem ZcK (m:Nat):∀(ps:List Nat),(Yt ap m ps).length<=m:=by
 induction m with
 | zero=>intro ps;simp[Yt]
 | succ m ih=>
  intro ps;unfold Yt;split
  ·simp
  ·split
   ·rename_i p hp
    have:=ih (Y1 ap ps p);simp only[qR];omega
   ·split
    ·have:=ih (Y1 ap ps (Yq ap ps));simp only[qR];omega
    ·have:=ih (ps.filter fun o=>!decide (o=Yq ap ps));omega
end
noncomputable abbrev Y3 (n:Nat):D:=.tup (qz n (nD 1))
theorem ZiX {n p:Nat}(h:p<n):Zj (Y3 n) (nD p)=some (nD 1):=by
 show XD _ (p:Int)=_;refine WC ?_;rw[yk,if_pos h]
theorem ZiY:∀k:Nat,(qz k (1:Int)).sum=(k:Int)
 | 0=>rfl
 | k+1=>by rw[zT,List.sum_cons,ZiY k];omega
theorem Zms (k:Nat):dSum [.lst (qz k (nD 1))]=some (nD k):=by
 have h1:ZR (qz k (nD 1))=some (qz k 1):=by
  rw[show qz k (nD 1)=(qz k (1:Int)).map D.int by rw[List.map_replicate];rfl];exact Zbj _
 show(match ZR (qz k (nD 1)) with | some ns=>if Vm ns=true then some (D.int ns.sum) else none | none=>none)=_;rw[h1];have h2:Vm (qz k 1)=true:=zd.mpr fun x hx=>by rw[(List.mem_replicate.mp hx).2];rfl
 show(if Vm (qz k 1)=true then some (D.int (qz k (1:Int)).sum) else none)=_;rw[if_pos h2,ZiY]
noncomputable def ZgM:Zb->M Out:=(Zh (ZP (ZA dSum (Zc (ZY [none,some 0] (ZX (Za 1)) (ZD 0) Z2 (Zd Zj (Za 1) (Za 0))) Ze)))
 Zs)
theorem ZaQ {n:Nat}{ps:List Nat}(hp:∀p∈ps,p<n)(hl:ps.length<=1000)(s:Pn):runB 2 2 ZgM [Y3 n,.lst (ps.map nD)] s=some (nD ps.length,s):=by
 have hc:=YW (src:=[none,some 0]) (fi:=ZX (Za 1)) (τ:=ZD 0) (ft:=Z2) (fe:=Zd Zj (Za 1) (Za 0)) (ρ:=[some (Y3 n),some (.lst (ps.map nD))]) (s:=s) (ds:=ps.map nD) (fun d=>[some d,some (Y3 n)]) (fun _=>true) (fun _=>nD 1) (XI rfl) (by rw[qd,Yv];omega) (fun d hd=>by
  obtain⟨x,hx,rfl⟩:=qy.mp hd;exact⟨rfl,rfl,fun _=>Zr (d:=Y3 n) (e:=nD x) rfl rfl (ZiX (hp x hx))⟩)
 rw[WS,List.map_const',qd] at hc;exact YI rfl (Z8 (YE (Yj (Zg hc rfl) (Zms _))))
end TQ
namespace TQ
open L2 TF TS
open TP
open TP2
open TP3
noncomputable def Zpu:Zb->M Out:=(Zh (ZP (ZY [none,some 0,some 1] (ZX (Za 2)) (ZD 0) (asB (Zd Xn (Za 0) (Zd Zj (Za 1) (Za 2)))) (Za 0)))
 Zs)
noncomputable def Zh3:List D->M D:=runB 3 3 Zpu
noncomputable def Vx:List D->M D:=runB 2 2 ZgM
noncomputable def gHW (Fs:List D->M D):Zb->M Out:=(Zh (ZT 4 (ZY [none,some 2,some 0] (ZX (Za 3)) (ZD 0) (Wt (asB (Zd YT (Za 0) (Za 1))) (asB (Zd WE (Za 0) (Zd Zj (Za 2) (Za 1))))) (Za 0)))
 (Zh (ZP (Zd Yp (YX (Zc (Za 2) Ze)) (Zo Fs (Zc (Za 0) (Zc (Za 1) (Zc (Za 4) Ze))))))
 Zs))
noncomputable def FHW (Fs:List D->M D):List D->M D:=runB 5 4 (gHW Fs)
noncomputable def Zop (Fs:List D->M D):Zb->M Out:=(Zh (YJ (asB (Zd WM (Zo Vx (Zc (Za 1) (Zc (Zd Zj (Za 3) (Za 4)) Ze))) (Zd Zj (Za 1) (Zd Zj (Za 2) (Za 4)))))
 (Zh (ZP (Zo (FHW Fs) (Zc (Za 0) (Zc (Za 1) (Zc (Zd Zj (Za 2) (Za 4)) (Zc (Za 2) Ze))))))
 Zs)
 Zs)
 Zs)
noncomputable def gHA (Fs:List D->M D):Zb->M Out:=(Zh (YJ (asB (Zd XY (Za 2) (YX Ze)))
 (Zh (ZP (YX Ze))
 Zs)
 Zs)
 (Zh (ZT 3 (ZY [none,some 0,some 2] (ZX (Za 2)) (ZD 0) Z2 (Zo Zh3 (Zc (Za 1) (Zc (Za 0) (Zc (Za 2) Ze))))))
 (Zh (Ww (YO (ZA Z3 (Zc (Za 2) Ze))) (ZD 4) (Zop Fs))
 (Zh (ZT 5 (ZY [none] (ZX (Za 3)) (ZD 0) Z2 (ZA Z3 (Zc (Za 0) Ze))))
 (Zh (ZT 6 (Zd Zj (Za 2) (Zd Ze8 (Za 5) (ZA ZiB (Zc (Za 5) Ze)))))
 (Zh (ZT 7 (Zo (FHW Fs) (Zc (Za 0) (Zc (Za 1) (Zc (Za 6) (Zc (Za 2) Ze))))))
 (Zh (ZT 8 (Zo Fs (Zc (Za 0) (Zc (Za 1) (Zc (ZY [none,some 6] (ZX (Za 2)) (ZD 0) (asB (Zd YT (Za 0) (Za 1))) (Za 0)) Ze)))))
 (Zh (ZP (B2 (asB (Zd Jg (Zo Vx (Zc (Za 1) (Zc (Za 7) Ze))) (Zo Vx (Zc (Za 1) (Zc (Za 8) Ze))))) (Za 7) (Za 8)))
 Zs))))))))
noncomputable def Ji:Nat->List D->M D
 | 0=>fun _=>ZG
 | n+1=>runB 9 3 (gHA (Ji n))
theorem geN (a b:Nat):Jg (nD a) (nD b)=some (.bl (decide (b<=a))):=by
 show some (D.bl (decide ((b:Int)<=(a:Int))))=_;rw[show decide ((b:Int)<=(a:Int))=decide (b<=a) from decide_eq_decide.mpr (by omega)]
theorem Zh4 (P:Nat->Bool)(h:Nat->D)(ps:List Nat):(qp ps.length).findSome? (fun i=>if P (ps.getD i 0)=true then some (h (ps.getD i 0)) else none)=(ps.find? P).map h:=by
 have e:(qp ps.length).map (fun i=>ps.getD i 0)=ps:=by
  apply List.ext_getElem?;intro i;rw[qD];by_cases hi:i<ps.length
  ·rw[z6 hi]
   show some (ps.getD i 0)=_;rw[qf,qm hi];rfl
  ·rw[qbA (by simp;omega),qbA (by omega)];rfl
 have k:∀l:List Nat,l.findSome? (fun x=>if P x=true then some (h x) else none)=(l.find? P).map h:=fun l=>by
  induction l with
  | nil=>rfl
  | cons x l ih=>
   rw[yH,yu]
   cases hx:P x with
   | true=>rfl
   | false=>exact ih
 rw[<-k ps]
 conv=>rhs;rw[<-e]
 rw[List.findSome?_map];rfl
section
variable {n:Nat}{A:Nat->List Nat}{ap:Nat->Nat->Bool}
theorem Zmt (hA:∀p o,ap p o=decide (o∈A p)){p:Nat}(hp:p<n)(ps:List Nat)(hl:ps.length<=1000)(s:Pn):Zh3 [Xb n A,nD p,.lst (ps.map nD)] s=some (.lst ((ps.filter fun o=>ap p o).map nD),s):=by
 have hc:=YW (src:=[none,some 0,some 1]) (fi:=ZX (Za 2)) (τ:=ZD 0) (ft:=asB (Zd Xn (Za 0) (Zd Zj (Za 1) (Za 2)))) (fe:=Za 0) (ρ:=[some (Xb n A),some (nD p),some (.lst (ps.map nD))]) (s:=s) (ds:=ps.map nD) (fun d=>[some d,some (Xb n A),some (nD p)]) (fun d=>ap p (Yi d)) (fun d=>d) (XI rfl) (by rw[qd,Yv];omega) (fun d hd=>by
  obtain⟨x,hx,rfl⟩:=qy.mp hd;exact⟨rfl,Yk (Zr (d:=nD x) (e:=.dk (Xu (A p))) rfl (Zr (d:=Xb n A) (e:=nD p) rfl rfl (Zmf hp)) (by rw[Zpp,<-hA];rfl)),fun _=>rfl⟩)
 rw[yg,qG] at hc;exact YI rfl (Z8 (YE hc))
theorem Zp0 (hA:∀p o,ap p o=decide (o∈A p)){Fs:List D->M D}{p:Nat}(hp:p<n){ps r:List Nat}(hl:ps.length<=1000)(hr:r.length<=1000){s:Pn}(hF:Fs [Xb n A,Y3 n,.lst ((Y1 ap ps p).map nD)] s=some (.lst (r.map nD),s)):FHW Fs [Xb n A,Y3 n,nD p,.lst (ps.map nD)] s=some (.lst ((p::r).map nD),s):=by
 have hc:=YW (src:=[none,some 2,some 0]) (fi:=ZX (Za 3)) (τ:=ZD 0) (ft:=Wt (asB (Zd YT (Za 0) (Za 1))) (asB (Zd WE (Za 0) (Zd Zj (Za 2) (Za 1))))) (fe:=Za 0) (ρ:=[some (Xb n A),some (Y3 n),some (nD p),some (.lst (ps.map nD)),none]) (s:=s) (ds:=ps.map nD) (fun d=>[some d,some (nD p),some (Xb n A)]) (fun d=>!decide (Yi d=p) && !ap p (Yi d)) (fun d=>d) (XI rfl) (by rw[qd,Yv];omega) (fun d hd=>by
  obtain⟨x,hx,rfl⟩:=qy.mp hd;refine⟨rfl,Ze0 (Yk (Zr (d:=nD x) (e:=nD p) rfl rfl (UX x p))) fun _=>Yk (Zr (d:=nD x) (e:=.dk (Xu (A p))) rfl (Zr (d:=Xb n A) (e:=nD p) rfl rfl (Zmf hp)) (by rw[Zkf,<-hA];rfl)),fun _=>rfl⟩)
 rw[yg,qG] at hc;have e:(ps.filter ((fun d=>!decide (Yi d=p) && !ap p (Yi d))∘nD)).map ((fun d=>d)∘nD)=(Y1 ap ps p).map nD:=rfl;rw[e] at hc;refine YI rfl (YL (XR hc) (Z8 (YE (Zr (d:=.lst [nD p]) (e:=.lst (r.map nD)) (Uq (Zg rfl rfl) (by show 1<=sizeLine;decide)) (Z0 (Zg rfl (Zg rfl (Zg rfl rfl))) hF) ?_))));rw[ZiT (by rw[qd];simp;omega)];rfl
theorem ZcL:∀(m:Nat) (ps:List Nat),∀x∈Yt ap m ps,x∈ps
 | 0,ps,x,hx=>by simp[Yt] at hx
 | m+1,ps,x,hx=>by
  unfold Yt at hx;by_cases h0:ps=[]
  ·rw[if_pos h0] at hx;cases hx
  ·rw[if_neg h0] at hx
   have w:=fun p (hp:p∈ps) (h:x∈p::Yt ap m (Y1 ap ps p))=>show x∈ps from by
    rcases qu.mp h with e | h
    ·rw[e];exact hp
    ·exact(UL x (ZcL m _ x h)).1
   split at hx
   ·rename_i p hp
    exact w _ (ZbM hp).1 hx
   ·split at hx
    ·exact w _ (Zaq h0) hx
    ·exact(qA.mp (ZcL m _ x hx)).1
set_option maxHeartbeats 1000000 in
theorem Za6 (hA:∀p o,ap p o=decide (o∈A p))(s:Pn):∀(m:Nat) (ps:List Nat),ps.length<m->m<=100->(∀p∈ps,p<n)->Ji m [Xb n A,Y3 n,.lst (ps.map nD)] s=some (.lst ((Yt ap m ps).map nD),s)
 | 0,_,h,_,_=>by omega
 | m+1,ps,hl,hm,hn=>by
  have hpl:Yw (ps.map nD)=true:=Zdz ps;have hdp:Xl (ps.map nD)<=10:=by rw[ZiQ];omega
  have heq:=Zpq (ps.map nD) hpl hdp;by_cases h0:ps=[]
  ·subst h0
   refine YI rfl (Z8 (Vl (Yk (Zr (d:=.lst []) (e:=.lst []) rfl (Uq rfl (zk _)) heq)) (Z8 (YE (d:=.lst []) (Uq rfl (zk _))))))
  ·have hf:decide (ps.map nD=[])=false:=by simpa using h0
   rw[hf] at heq;have hcs:ps.map (Xe ap ps)≠[]:=by simpa using h0
   have hc:=YW (src:=[none,some 0,some 2]) (fi:=ZX (Za 2)) (τ:=ZD 0) (ft:=Z2) (fe:=Zo Zh3 (Zc (Za 1) (Zc (Za 0) (Zc (Za 2) Ze)))) (ρ:=[some (Xb n A),some (Y3 n),some (.lst (ps.map nD)),none,none,none,none,none,none]) (s:=s) (ds:=ps.map nD) (fun d=>[some d,some (Xb n A),some (.lst (ps.map nD))]) (fun _=>true) (fun d=>.lst ((ps.filter fun o=>ap (Yi d) o).map nD)) (XI rfl) (by rw[qd,Yv];omega) (fun d hd=>by
    obtain⟨x,hx,rfl⟩:=qy.mp hd;exact⟨rfl,rfl,fun _=>Z0 (Zg rfl (Zg rfl (Zg rfl rfl))) (Zmt hA (hn x hx) ps (by omega) s)⟩)
   rw[WS,qG] at hc;generalize hR:ps.map ((fun d=>D.lst ((ps.filter fun o=>ap (Yi d) o).map nD))∘nD)=R at hc;have kw:∀p,p∈ps->FHW (Ji m) [Xb n A,Y3 n,nD p,.lst (ps.map nD)] s=some (.lst ((p::Yt ap m (Y1 ap ps p)).map nD),s):=fun p hp=>by
    have hlt:=ZgG (ap:=ap) hp;have hb:=ZcK (ap:=ap) m (Y1 ap ps p);exact Zp0 hA (hn p hp) (by omega) (by omega) (Za6 hA s m (Y1 ap ps p) (by omega) (by omega) fun x hx=>hn x (UL x hx).1)
   have hrow:∀i,i<ps.length->Zj (.lst R) (nD i)=some (.lst ((ps.filter fun o=>ap (ps.getD i 0) o).map nD)):=fun i hi=>by
    refine WC ?_;rw[<-hR,qD,qf,qm hi];rfl
   have hpl2:∀i,i<ps.length->Zj (.lst (ps.map nD)) (nD i)=some (nD (ps.getD i 0)):=fun i hi=>UQ hi;have hgm:∀i,i<ps.length->ps.getD i 0∈ps:=fun i hi=>by
    rw[qf,qm hi];exact zu hi
   have hfind:=Zb5 (τ:=ZD 4) (body:=Zop (Ji m)) (s:=s) (fun ρ=>∃o4,ρ=[some (Xb n A),some (Y3 n),some (.lst (ps.map nD)),some (.lst R),o4,none,none,none,none]) (fun i=>if decide (Xe ap ps (ps.getD i 0)<=1)=true then some (.lst ((ps.getD i 0::Yt ap m (Y1 ap ps (ps.getD i 0))).map nD)) else none) (qp ps.length) [some (Xb n A),some (Y3 n),some (.lst (ps.map nD)),some (.lst R),none,none,none,none,none] ⟨none,rfl⟩ (fun i hi ρ hρ=>by
    obtain⟨o4,rfl⟩:=hρ;have hi:=qB.mp hi;refine⟨_,rfl,?_⟩;have hcond:asB (Zd WM (Zo Vx (Zc (Za 1) (Zc (Zd Zj (Za 3) (Za 4)) Ze))) (Zd Zj (Za 1) (Zd Zj (Za 2) (Za 4)))) [some (Xb n A),some (Y3 n),some (.lst (ps.map nD)),some (.lst R),some (nD i),none,none,none,none] s=some (decide (Xe ap ps (ps.getD i 0)<=1),s):=by
     refine Yk (Zr (Z0 (Zg rfl (Zg (Zr (d:=.lst R) (e:=nD i) rfl rfl (hrow i hi)) rfl)) (ZaQ (fun p hp=>hn p (qA.mp hp).1) (by have:=zr (fun o=>ap (ps.getD i 0) o) ps;omega) s)) (Zr (d:=Y3 n) rfl (Zr (d:=.lst (ps.map nD)) (e:=nD i) rfl rfl (hpl2 i hi)) (ZiX (hn _ (hgm i hi)))) ?_);show some (D.bl (decide (((ps.filter fun o=>ap (ps.getD i 0) o).length:Int)<=(1:Int))))=_;congr 2;exact decide_eq_decide.mpr (by unfold Xe;omega)
    by_cases hq:Xe ap ps (ps.getD i 0)<=1
    ·rw[decide_eq_true hq] at hcond⊢
     rw[if_pos rfl];exact Z8 (Vl hcond (Z8 (YE (Z0 (Zg rfl (Zg rfl (Zg (Zr (d:=.lst (ps.map nD)) (e:=nD i) rfl rfl (hpl2 i hi)) (Zg rfl rfl)))) (kw _ (hgm i hi))))))
    ·rw[decide_eq_false hq] at hcond⊢
     rw[if_neg zX];exact⟨_,YL (VG hcond rfl) rfl,some (nD i),rfl⟩)
   rw[Zh4 (fun p=>decide (Xe ap ps p<=1)) (fun p=>.lst ((p::Yt ap m (Y1 ap ps p)).map nD)) ps] at hfind;have hit:YO (ZA Z3 (Zc (Za 2) Ze)) [some (Xb n A),some (Y3 n),some (.lst (ps.map nD)),some (.lst R),none,none,none,none,none] s=some ((qp ps.length).map nD,s):=by
    have:=Vf (f:=ZA Z3 (Zc (Za 2) Ze)) (ρ:=[some (Xb n A),some (Y3 n),some (.lst (ps.map nD)),some (.lst R),none,none,none,none,none]) (s:=s) (n:=ps.length) (Yj (Zg rfl rfl) (Zka ps)) (by omega);rw[V4] at this;exact this
   unfold Yt;rw[if_neg h0];refine YI rfl (YL (VG (Yk (Zr (d:=.lst (ps.map nD)) (e:=.lst []) rfl (Uq rfl (zk _)) heq)) rfl) (YL (XR hc) ?_));show Zh _ _ [some (Xb n A),some (Y3 n),some (.lst (ps.map nD)),some (.lst R),none,none,none,none,none] s=_
   cases ho:one? ap ps with
   | some p=>
    have ho':ps.find? (fun p=>decide (Xe ap ps p<=1))=some p:=ho;rw[ho'] at hfind;exact Z8 (ZcF hit hfind)
   | none=>
    have ho':ps.find? (fun p=>decide (Xe ap ps p<=1))=none:=ho;rw[ho'] at hfind;obtain⟨ρ2,hf2,o4,rfl⟩:=hfind;refine YL (ZcF hit hf2) ?_;have hmax:=Zmg hcs;have hp1:=Zaq (ap:=ap) h0;have hix:Zj (.lst (ps.map nD)) (nD ((ps.map (Xe ap ps)).idxOf (Xt (ps.map (Xe ap ps)))))=some (nD (Yq ap ps)):=UQ (by
     have:=qah.mpr (ZhY hcs);simpa using this)
    have hcc:=YW (src:=[none]) (fi:=ZX (Za 3)) (τ:=ZD 0) (ft:=Z2) (fe:=ZA Z3 (Zc (Za 0) Ze)) (ρ:=[some (Xb n A),some (Y3 n),some (.lst (ps.map nD)),some (.lst R),o4,none,none,none,none]) (s:=s) (ds:=R) (fun d=>[some d]) (fun _=>true) (fun d=>match d with | .lst l=>nD l.length | _=>.non) (XI rfl) (by rw[<-hR,qd,Yv];omega) (fun d hd=>by
     rw[<-hR] at hd;obtain⟨x,hx,rfl⟩:=qy.mp hd;exact⟨rfl,rfl,fun _=>Yj (Zg rfl rfl) rfl⟩)
    rw[WS,<-hR,qG] at hcc;have e5:ps.map ((fun d=>match d with | .lst l=>nD l.length | _=>D.non)∘((fun d=>D.lst ((ps.filter fun o=>ap (Yi d) o).map nD))∘nD))=(ps.map (Xe ap ps)).map nD:=by
     rw[qG];refine zt fun x _=>?_;show nD ((ps.filter fun o=>ap x o).map nD).length=nD (Xe ap ps x);rw[qd];rfl
    rw[e5,hR] at hcc;have hwo:=ZdE hp1;have ih2:=Za6 hA s m (ps.filter fun o=>!decide (o=Yq ap ps)) (by omega) (by omega) fun x hx=>hn x (qA.mp hx).1;have hc2:=YW (src:=[none,some 6]) (fi:=ZX (Za 2)) (τ:=ZD 0) (ft:=asB (Zd YT (Za 0) (Za 1))) (fe:=Za 0) (ρ:=[some (Xb n A),some (Y3 n),some (.lst (ps.map nD)),some (.lst R),o4,some (.lst ((ps.map (Xe ap ps)).map nD)),some (nD (Yq ap ps)),some (.lst ((Yq ap ps::Yt ap m (Y1 ap ps (Yq ap ps))).map nD)),none]) (s:=s) (ds:=ps.map nD) (fun d=>[some d,some (nD (Yq ap ps))]) (fun d=>!decide (Yi d=Yq ap ps)) (fun d=>d) (XI rfl) (by rw[qd,Yv];omega) (fun d hd=>by
     obtain⟨x,hx,rfl⟩:=qy.mp hd;exact⟨rfl,Yk (Zr (d:=nD x) (e:=nD (Yq ap ps)) rfl rfl (UX _ _)),fun _=>rfl⟩)
    have e2:((ps.map nD).filter fun d=>!decide (Yi d=Yq ap ps)).map (fun d=>d)=(ps.filter fun o=>!decide (o=Yq ap ps)).map nD:=by rw[yg,qG];rfl
    rw[e2] at hc2;have bl1:=ZcK (ap:=ap) m (Y1 ap ps (Yq ap ps));have bl2:=ZcK (ap:=ap) m (ps.filter fun o=>!decide (o=Yq ap ps));have w1:=ZaQ (n:=n) (ps:=Yq ap ps::Yt ap m (Y1 ap ps (Yq ap ps))) (fun p hp=>by
     rcases qu.mp hp with e | hp
     ·rw[e];exact hn _ hp1
     ·exact hn p (UL p (ZcL m _ p hp)).1) (by simp only[qR];omega) s
    have w2:=ZaQ (n:=n) (ps:=Yt ap m (ps.filter fun o=>!decide (o=Yq ap ps))) (fun p hp=>hn p (qA.mp (ZcL m _ p hp)).1) (by omega) s;refine YL (XR hcc) (YL (XR (Zr (d:=.lst (ps.map nD)) rfl (Zr (d:=.lst ((ps.map (Xe ap ps)).map nD)) rfl (Yj (Zg rfl rfl) hmax) (ZhZ (ZhY hcs))) hix)) (YL (XR (Z0 (Zg rfl (Zg rfl (Zg rfl (Zg rfl rfl)))) (kw _ hp1))) (YL (XR (Z0 (Zg rfl (Zg rfl (Zg hc2 rfl))) ih2)) (Z8 (YE ?_)))));have hge:=geN (Yq ap ps::Yt ap m (Y1 ap ps (Yq ap ps))).length (Yt ap m (ps.filter fun o=>!decide (o=Yq ap ps))).length;have ht:=Yk (Zr (g:=Jg) (ρ:=[some (Xb n A),some (Y3 n),some (.lst (ps.map nD)),some (.lst R),o4,some (.lst ((ps.map (Xe ap ps)).map nD)),some (nD (Yq ap ps)),some (.lst ((Yq ap ps::Yt ap m (Y1 ap ps (Yq ap ps))).map nD)),some (.lst ((Yt ap m (ps.filter fun o=>!decide (o=Yq ap ps))).map nD))]) (s:=s) (Z0 (F:=Vx) (fs:=Zc (Za 1) (Zc (Za 7) Ze)) (Zg rfl (Zg rfl rfl)) w1) (Z0 (F:=Vx) (fs:=Zc (Za 1) (Zc (Za 8) Ze)) (Zg rfl (Zg rfl rfl)) w2) hge);generalize hX:Yq ap ps::Yt ap m (Y1 ap ps (Yq ap ps))=X at ht⊢;generalize hY:Yt ap m (ps.filter fun o=>!decide (o=Yq ap ps))=Y at ht⊢;have hfin:∀ρ:Zb,(ρ[7]?).bind id=some (.lst (X.map nD))->(ρ[8]?).bind id=some (.lst (Y.map nD))->asB (Zd Jg (Zo Vx (Zc (Za 1) (Zc (Za 7) Ze))) (Zo Vx (Zc (Za 1) (Zc (Za 8) Ze)))) ρ s=some (decide (Y.length<=X.length),s)->B2 (asB (Zd Jg (Zo Vx (Zc (Za 1) (Zc (Za 7) Ze))) (Zo Vx (Zc (Za 1) (Zc (Za 8) Ze))))) (Za 7) (Za 8) ρ s=some (.lst ((if Y.length<=X.length then X else Y).map nD),s):=fun ρ h7 h8 ht=>by
     unfold B2 Zn;rw[ht];by_cases hq:Y.length<=X.length
     ·simp only[hq,decide_true,if_true]
      unfold Za YR;rw[h7]
     ·simp only[hq,decide_false,if_false,yc]
      unfold Za YR;rw[h8]
    exact hfin _ rfl rfl ht
end
end TQ
namespace TQ
open L2 TF TS
open TP
open TP2
open TP3
noncomputable def Vi (n:Nat)(jK:List (Nat×Nat)):List Nat:=JM n (Yt (tied (Yr n jK)) 26 (qp n))
noncomputable def gHK:Zb->M Out:=(Zh (ZT 2 (ZY [none] (ZX (Zo (runB 2 1 gN) (Zc (Zo Ju (Zc (Za 0) Ze)) Ze))) (ZD 0) Z2 (ZA ZeR (Zc (ZY [none] (ZX (Za 0)) (ZD 0) Z2 (Yc (Zc (Za 0) (Zc (dC (.bl true)) Ze)))) Ze))))
 (Zh (ZP (ZA UT (Zc (ZA ZcG (Zc (Zo (Ji 26) (Zc (Za 2) (Zc (Za 1) (Zc (VU (Zd Zj (Za 0) (dC (.int 0)))) Ze)))) Ze)) Ze)))
 Zs))
theorem ZgN {n:Nat}{jK:List (Nat×Nat)}(hw:IsWeb n jK)(hn:n<=24):Vi n jK∈kn jK n/\∀K∈kn jK n,K.length<=(Vi n jK).length:=by
 have sy:∀a b,tied (Yr n jK) a b=tied (Yr n jK) b a:=V0 _;have hk:=ZbN sy 26 (qp n);have hlt:∀x∈Yt (tied (Yr n jK)) 26 (qp n),x<n:=fun x hx=>qB.mp (hk.sub x hx);have hp:=Za5 hk.nd hlt;constructor
 ·refine Xv.mpr ⟨Zcm _ _,fun o ho=>hlt o (hp.mem_iff.mp ho),fun a ha b hb ne=>?_⟩
  have ha':=hp.mem_iff.mp ha;have hb':=hp.mem_iff.mp hb;have:=hk.two a ha' b hb' ne
  cases h:tied jK a b with
  | true=>rfl
  | false=>
   have:=Zba.mpr ⟨hlt a ha',hlt b hb',ne,h⟩;simp_all
 ·intro K hK
  obtain⟨h1,h2,h3⟩:=Xv.mp hK;have:=ZdJ sy Zmh 26 (qp n) K (by rw[qJ];omega) ⟨VZ h1,fun x hx=>qB.mpr (h2 x hx),fun x hx y hy ne=>by
   cases h:tied (Yr n jK) x y with
   | false=>rfl
   | true=>
    have h4:=(Zba.mp h).2.2.2;rw[h3 x hx y hy ne] at h4;cases h4⟩
  have e:=hp.length_eq;show K.length<=(JM n _).length;omega
theorem Zmu (n:Nat)(jK:List (Nat×Nat))(hn:n<=24)(hl:jK.length<=100000)(s:Pn):runB 3 2 gHK [ZF n jK,Y3 n] s=some (ZI (Vi n jK),s):=by
 have sy:∀a b,tied (Yr n jK) a b=tied (Yr n jK) b a:=V0 _;have hk:=ZbN sy 26 (qp n);have hlt:∀x∈Yt (tied (Yr n jK)) 26 (qp n),x<n:=fun x hx=>qB.mp (hk.sub x hx);have hp:=Za5 hk.nd hlt;have htl:=(Zkg n jK).len hn;have hc:=YW (src:=[none]) (fi:=ZX (Zo (runB 2 1 gN) (Zc (Zo Ju (Zc (Za 0) Ze)) Ze))) (τ:=ZD 0) (ft:=Z2) (fe:=ZA ZeR (Zc (ZY [none] (ZX (Za 0)) (ZD 0) Z2 (Yc (Zc (Za 0) (Zc (dC (.bl true)) Ze)))) Ze)) (ρ:=[some (ZF n jK),some (Y3 n),none]) (s:=s) (ds:=(qp n).map fun p=>D.lst ((Yf n (Yr n jK) p).map nD)) (fun d=>[some d]) (fun _=>true) (fun d=>match d with | .lst ds=>.dk (Xu (ds.map Yi)) | _=>.non)
  (XI (Z0 (Zg (Z0 (Zg rfl rfl) (Zh2 n jK s (by omega) hl)) rfl) (ZbL n (Yr n jK) (by omega) (by omega) s))) (by rw[qd,qJ,Yv];omega) (fun d hd=>by
  obtain⟨p,hp,rfl⟩:=qy.mp hd;refine⟨rfl,rfl,fun _=>?_⟩;have hnl:(Yf n (Yr n jK) p).length<=n:=by
   have:=zr (fun o=>tied (Yr n jK) p o) (qp n);rw[qJ] at this;exact this
  have hc2:=YW (src:=[none]) (fi:=ZX (Za 0)) (τ:=ZD 0) (ft:=Z2) (fe:=Yc (Zc (Za 0) (Zc (dC (.bl true)) Ze))) (ρ:=[some (D.lst ((Yf n (Yr n jK) p).map nD))]) (s:=s) (ds:=(Yf n (Yr n jK) p).map nD) (fun d=>[some d]) (fun _=>true) (fun d=>D.tup [d,.bl true]) (XI rfl) (by rw[qd,Yv];omega) (fun d hd=>⟨rfl,rfl,fun _=>WF (Zg rfl (Zg rfl rfl)) two_le⟩);rw[WS,qG] at hc2;refine Yj (Zg hc2 rfl) ?_;show(if ((Yf n (Yr n jK) p).map ((fun d=>D.tup [d,.bl true])∘nD)).length<=sizeLine then (W0 [] _).map D.dk else none)=_;rw[if_pos (by rw[qd,Yv];omega)];have e:=Zme (Yf n (Yr n jK) p) [] (zZ.sublist zg) fun _ _=>rfl;show(W0 [] ((Yf n (Yr n jK) p).map fun o=>D.tup [nD o,.bl true])).map D.dk=_;rw[e];show some (D.dk (Xu (Yf n (Yr n jK) p)))=some (D.dk (Xu (((Yf n (Yr n jK) p).map nD).map Yi)));rw[qG];have:(Yf n (Yr n jK) p).map (Yi∘nD)=Yf n (Yr n jK) p:=List.map_id _;rw[this])
 rw[WS,qG] at hc;have e1:(qp n).map ((fun d=>match d with | .lst ds=>D.dk (Xu (ds.map Yi)) | _=>.non)∘fun p=>D.lst ((Yf n (Yr n jK) p).map nD))=(qp n).map fun p=>.dk (Xu (Yf n (Yr n jK) p)):=by
  refine zt fun p _=>?_;show D.dk (Xu (((Yf n (Yr n jK) p).map nD).map Yi))=_;rw[qG];have:(Yf n (Yr n jK) p).map (Yi∘nD)=Yf n (Yr n jK) p:=List.map_id _;rw[this]
 rw[e1] at hc;have hb:=Za6 (n:=n) (A:=Yf n (Yr n jK)) (ap:=tied (Yr n jK)) Zd0 s 26 (qp n) (by rw[qJ];omega) (by omega) fun p hp=>qB.mp hp;have hlr:VU (Zd Zj (Za 0) (dC (.int 0))) [some (ZF n jK),some (Y3 n),some (Xb n (Yf n (Yr n jK)))] s=some (.lst ((qp n).map nD),s):=by
  unfold VU Zn;rw[Zr (d:=ZF n jK) (e:=.int 0) rfl rfl Ue];show(if -(2 ^ 62)<=(n:Int)/\(n:Int)<=2 ^ 24 then ZB (D.lst (Ye 0 (n:Int).toNat)) else ZG) s=_;rw[if_pos ⟨by omega,by omega⟩,yi,V4];rfl
 have hbl:=ZcK (ap:=tied (Yr n jK)) 26 (qp n);have hs:=Zkh hk.nd hlt (by omega);exact YI rfl (YL (XR hc) (Z8 (YE (Yj (c:=ZI (Vi n jK)) (Zg (Yj (Zg (Z0 (Zg rfl (Zg rfl (Zg hlr rfl))) hb) rfl) hs) rfl) rfl))))
end TQ
namespace TQ
open L2 TF TS
open TP
open TP2
open TP3
theorem Zkn (n:Nat)(hn:n<=1000):ZiF (.tup [nD 1]) (nD n)=some (Y3 n):=by
 show(if (n:Int)=1 then some (D.tup [nD 1]) else if (n:Int)=0/\[nD 1]≠[] then some (.tup []) else JR (.tup [nD 1]) (.int (n:Int)))=_;by_cases h1:n=1
 ·subst h1;rw[if_pos (by omega)];rfl
 ·rw[if_neg (by omega)]
  by_cases h0:n=0
  ·subst h0;rw[if_pos ⟨by omega,by simp⟩];rfl
  ·rw[if_neg (by omega)]
   show(if [nD 1]≠[]/\2<=(n:Int)/\(n:Int)<2 ^ 62/\[nD 1].length*(n:Int).toNat<=sizeLine then some (D.tup (qz (n:Int).toNat [nD 1]).flatten) else none)=_;rw[if_pos ⟨by simp,by omega,by omega,by simp only[ya,yi,Yv];omega⟩,yi,List.flatten_replicate_singleton]
theorem Zko {n:Nat}{jK:List (Nat×Nat)}(hw:IsWeb n jK)(hn:n<=24):(WJ n jK).length=(Vi n jK).length:=by
 obtain⟨a1,a2⟩:=Ui hw hn;obtain⟨b1,b2⟩:=ZgN hw hn;have:=a2 _ b1;have:=b2 _ a1;omega
end TQ
namespace TP3
open L2 TF TP TS
open TP2
noncomputable abbrev om (n:Nat)(jK:List (Nat×Nat)):Nat:=(WJ n jK).length
section
variable {n:Nat}{jK:List (Nat×Nat)}
theorem ZiZ (hw:IsWeb n jK)(hn:n<=24){K:List Nat}(h:K∈kn jK n):K.length<=om n jK:=(Ui hw hn).2 K h
theorem Zpv {m:Nat}{f:Nat->Nat}{tm:List (Nat×Nat)}(E:Emb m n f tm jK)(hm:IsWeb m tm)(hw:IsWeb n jK)(h1:m<=24)(hn:n<=24):om m tm<=om n jK:=by
 have:=Zpn E;rw[ZiU hm h1,ZiU hw hn] at this;exact this
noncomputable def Z7 (n:Nat)(p:Nat->Bool):List Nat:=(qp n).filter p
theorem Jw (n:Nat)(p:Nat->Bool):(Z7 n p).Pairwise (· < ·):=(Jq n).sublist zg
theorem WX {p:Nat->Bool}{x:Nat}:x∈Z7 n p↔x<n/\p x=true:=by unfold Z7;rw[qA,qB]
theorem Zi0 (n:Nat)(p:Nat->Bool):(Z7 n p).length<=n:=by
 have:=zr p (qp n);rw[qJ] at this;exact this
theorem Zkp (hw:IsWeb n jK){ps:List Nat}(nd:ps.Nodup)(hp:∀o∈ps,o<n){K:List Nat}(hK:K∈kn jK n)(hs:∀x∈K,x∈ps):∃k∈kn (Y5 jK ps) ps.length,k.length=K.length:=by
 have E:=ZdD hw nd hp;obtain⟨hr,hlt,_⟩:=Xv.mp hK;have k1:=Jw ps.length fun i=>decide (ps.getD i 0∈K);have k2:∀o∈Z7 ps.length (fun i=>decide (ps.getD i 0∈K)),o<ps.length:=fun o ho=>(WX.mp ho).1;have e:Wn n (fun i=>ps.getD i 0) (Z7 ps.length fun i=>decide (ps.getD i 0∈K))=K:=by
  refine ZdA (ZdC _ _ _) hr fun x=>?_;rw[Vy];constructor
  ·rintro⟨_,a,ha,rfl⟩
   exact of_decide_eq_true (WX.mp ha).2
  ·intro hx
   obtain⟨i,hi⟩:=List.mem_iff_getElem?.mp (hs x hx);have hl:=(qL.mp hi).1;have eg:ps.getD i 0=x:=by rw[qf,hi];rfl
   exact⟨hlt x hx,i,WX.mpr ⟨hl,by rw[eg];simp[hx]⟩,eg⟩
 refine⟨_,(ZhU E k1 k2).mp (by rw[e];exact hK),?_⟩;rw[<-Zfq E k1 k2,e]
theorem ZnN (hw:IsWeb n jK)(hn:n<=24){ps:List Nat}(nd:ps.Nodup)(hp:∀o∈ps,o<n)(hl:ps.length<=24):om ps.length (Y5 jK ps)<=om n jK:=Zpv (ZdD hw nd hp) (ZbJ jK ps) hw hl hn
theorem Zfy (hw:IsWeb n jK){ps:List Nat}(nd:ps.Nodup)(hp:∀o∈ps,o<n)(hl:ps.length<=24){K:List Nat}(hK:K∈kn jK n)(hs:∀x∈K,x∈ps):K.length<=om ps.length (Y5 jK ps):=by
 obtain⟨k,h1,h2⟩:=Zkp hw nd hp hK hs;rw[<-h2];exact ZiZ (ZbJ jK ps) hl h1
theorem Zkq {K:List Nat}(hK:K∈kn jK n){p:Nat}(hp:p∈K):∃K'∈kn jK n,K'.length+1=K.length/\∀x,x∈K'↔x∈K/\x≠p:=by
 obtain⟨hr,hlt,_⟩:=Xv.mp hK;have nd:=VZ hr;have hm:∀x,x∈K.erase p↔x∈K/\x≠p:=fun x=>by rw[nd.mem_erase_iff];exact And.comm
 refine⟨K.erase p,Zmi hK (hr.sublist (List.erase_sublist)) fun x hx=>((hm x).mp hx).1,?_,hm⟩;have:=(List.perm_cons_erase hp).length_eq;rw[qR] at this;exact this.symm
theorem Zmv (hw:IsWeb n jK)(hn:n<=24){p:Nat}(hp:p<n) :
  (om n jK=om (Z7 n fun x=>!decide (x=p)).length (Y5 jK (Z7 n fun x=>!decide (x=p)))∨om n jK=om (Z7 n fun x=>!decide (x=p)).length (Y5 jK (Z7 n fun x=>!decide (x=p)))+1)
  /\om n jK=max (om (Z7 n fun x=>!decide (x=p)).length (Y5 jK (Z7 n fun x=>!decide (x=p)))) (1+om (Z7 n fun x=>tied jK p x).length (Y5 jK (Z7 n fun x=>tied jK p x))):=by
 have hr:∀q:Nat->Bool,(Z7 n q).Nodup:=fun q=>VZ (Jw n q);have hlt:∀q:Nat->Bool,∀o∈Z7 n q,o<n:=fun q o ho=>(WX.mp ho).1;have hl:∀q:Nat->Bool,(Z7 n q).length<=24:=fun q=>qZ (Zi0 n q) hn;have a1:=ZnN hw hn (hr fun x=>!decide (x=p)) (hlt _) (hl _)
 -- the part near p,and p
 have a2:1+om (Z7 n fun x=>tied jK p x).length (Y5 jK (Z7 n fun x=>tied jK p x))<=om n jK:=by
  have E:=ZdD hw (hr fun x=>tied jK p x) (hlt _);have sp:=(Ui (ZbJ jK (Z7 n fun x=>tied jK p x)) (hl _)).1;obtain⟨k1,k2,k3⟩:=Xv.mp sp;have im:=(ZhU E k1 k2).mpr sp;have il:=Zfq E k1 k2;have hJ:∀x∈Wn n (fun i=>(Z7 n fun x=>tied jK p x).getD i 0) (WJ (Z7 n fun x=>tied jK p x).length (Y5 jK (Z7 n fun x=>tied jK p x))),tied jK p x=true:=fun x hx=>by
   obtain⟨_,a,ha,rfl⟩:=Vy.mp hx;have hl:=k2 a ha;have:(Z7 n fun x=>tied jK p x).getD a 0∈Z7 n fun x=>tied jK p x:=by
    rw[qf,qm hl];exact zu hl
   exact(WX.mp this).2
  obtain⟨i1,i2,i3⟩:=Xv.mp im;generalize Wn n (fun i=>(Z7 n fun x=>tied jK p x).getD i 0) (WJ (Z7 n fun x=>tied jK p x).length (Y5 jK (Z7 n fun x=>tied jK p x)))=J at im il i1 i2 i3 hJ;have hpJ:p∉J:=fun z=>by
   have:=hJ p z;rw[IsWeb.irr hw p] at this
   cases this
  have pm:(Z7 n fun x=>decide (x=p)||decide (x∈J)).Perm (p::J):=by
   refine(yW (VZ (Jw _ _)) (zx.mpr ⟨hpJ,VZ i1⟩)).mpr fun x=>?_;rw[WX,qu];simp only[qbq,decide_eq_true_eq];constructor
   ·exact fun h=>h.2
   ·rintro(rfl | h)
    ·exact⟨hp,.inl rfl⟩
    ·exact⟨i2 x h,.inr h⟩
  have hk:(Z7 n fun x=>decide (x=p)||decide (x∈J))∈kn jK n:=by
   refine Xv.mpr ⟨Jw _ _,fun o ho=>(WX.mp ho).1,fun a ha b hb hab=>?_⟩;have ha:=pm.mem_iff.mp ha;have hb:=pm.mem_iff.mp hb;rcases qu.mp ha with ha | ha
   ·rcases qu.mp hb with hb | hb
    ·exact absurd (ha.trans hb.symm) hab
    ·rw[ha];exact hJ b hb
   ·rcases qu.mp hb with hb | hb
    ·rw[hb,V0];exact hJ a ha
    ·exact i3 a ha b hb hab
  have:=ZiZ hw hn hk;rw[pm.length_eq,qR,il] at this;show 1+(WJ (Z7 n fun x=>tied jK p x).length (Y5 jK (Z7 n fun x=>tied jK p x))).length<=_;omega
 obtain⟨m1,_⟩:=Ui hw hn;obtain⟨q1,q2,q3⟩:=Xv.mp m1;by_cases hpK:p∈WJ n jK
 ·obtain⟨K',h1,h2,h3⟩:=Zkq m1 hpK
  have b1:=Zfy hw (hr fun x=>!decide (x=p)) (hlt _) (hl _) h1 fun x hx=>by
   have:=(h3 x).mp hx;exact WX.mpr ⟨q2 x this.1,by simp[this.2]⟩
  have b2:=Zfy hw (hr fun x=>tied jK p x) (hlt _) (hl _) h1 fun x hx=>by
   have:=(h3 x).mp hx;exact WX.mpr ⟨q2 x this.1,q3 p hpK x this.1 fun z=>this.2 z.symm⟩
  have e:om n jK=(WJ n jK).length:=rfl;constructor
  ·omega
  ·omega
 ·have b1:=Zfy hw (hr fun x=>!decide (x=p)) (hlt _) (hl _) m1 fun x hx=>WX.mpr ⟨q2 x hx,by
   have:x≠p:=fun z=>hpK (z▸hx);simp[this]⟩
  have e:om n jK=(WJ n jK).length:=rfl;constructor
  ·omega
  ·omega
end
end TP3
namespace TQ
open L2 TF TS
open TP
open TP2
open TP3
theorem Zoq (n:Nat)(jK:List (Nat×Nat))(hn:n<=1000)(hl:jK.length<=100000)(s:Pn):Uh [ZF n jK] s=some (Y9 n jK,s):=ZbL n jK hn hl s
theorem Zor:∀m,UE m=Ji m
 | 0=>rfl
 | m+1=>by
  show runB 9 3 (Zag (UE m))=runB 9 3 (gHA (Ji m));rw[Zor m];rfl
theorem Zp1:J9=runB 3 2 gHK:=by
 unfold J9 ZaR;rw[Zor];rfl
theorem Zmw (n:Nat)(jK:List (Nat×Nat))(hn:n<=24)(hl:jK.length<=100000)(s:Pn):Ur [ZF n jK] s=some (.tup [nD (Vi n jK).length,ZI (Vi n jK)],s):=by
 have h:=Zmu n jK hn hl s;rw[<-Zp1] at h;exact YI rfl (YL (XR (Z0 (Zg rfl (Zg (Zr (WF (ds:=[nD 1]) (Zg rfl rfl) (by show 1<=sizeLine;decide)) (Zr (d:=ZF n jK) (e:=.int 0) rfl rfl Ue) (Zkn n (by omega))) rfl)) h)) (Z8 (YE (WF (ds:=[nD (Vi n jK).length,ZI (Vi n jK)]) (Zg (Yj (Zg rfl rfl) (by show some (D.int _)=_;rw[qd])) (Zg rfl rfl)) two_le))))
theorem ZgO {n:Nat}{jK:List (Nat×Nat)}(hw:IsWeb n jK)(hn:n<=24)(s:Pn):Ur [ZF n jK] s=some (.tup [nD (om n jK),ZI (Vi n jK)],s):=by
 have hl:=hw.len hn;have h:=Zmw n jK hn (by omega) s;rw[<-Zko hw hn] at h;exact h
theorem ZnO {n:Nat}{jK:List (Nat×Nat)}(hw:IsWeb n jK)(hn:n<=8)(s:Pn):Ba [ZF n jK] s=some (.tup [nD (XB n jK),ZI (Uu n jK)],s):=by
 have htl:=hw.len (by omega:n<=24);have hm:=ZgO hw (by omega) s;have hon:∀many≤1000,∀(ρ:Zb),(ρ[1]?).bind id=some (Y9 n jK)->(ρ[2]?).bind id=some (nD many)->Zo (V1 10) (Zc (Za 1) (Zc (Za 2) (Zc (Yc Ze) Ze))) ρ s=some (optT (YK jK many n []),s):=fun many hmany ρ h1 h2=>
  Z0 (ds:=[Y9 n jK,nD many,ZI []]) (Zg (by unfold Za YR;rw[h1]) (Zg (by unfold Za YR;rw[h2]) (Zg (WF rfl (by decide)) rfl))) (ZdH (by omega) many hmany s n 10 [] (by simp) (by omega))
 obtain⟨c1,c2,c3⟩:=ZdF n jK;obtain⟨f1,f2,f3,f4⟩:=ZdG n jK;have hmc:om n jK<=XB n jK:=Zco hw (by omega:n<=24);apply jz;refine Ok.runB rfl ?_;refine Ok.seq (.sset (.eq (Z0 (Zg rfl rfl) (Zoq n jK (by omega) (by omega) s)) ?_));refine Ok.seq (.sset (.eq (Zr (d:=.tup [nD (om n jK),ZI (Vi n jK)]) (e:=.int 0) (Z0 (Zg rfl rfl) hm) rfl (V7 _ _)) ?_));refine Ok.seq (.sset (.eq (hon _ (by omega) _ rfl rfl) ?_));refine Ok.seq (.swhile (fun m ρ s'=>s'=s/\∃k,m+k=XB n jK/\ρ=[some (ZF n jK),some (Y9 n jK),some (nD k),some (optT (YK jK k n []))]) (XB n jK-om n jK) (by omega) ⟨rfl,om n jK,by omega,rfl⟩ fun m ρ s' hI=>?_);obtain⟨rfl,k,hk,rfl⟩:=hI
 cases m with
 | zero=>
  have:k=XB n jK:=by omega
  subst this;rw[f1];refine .eq (a:=false) (Yk (Zr (d:=ZI (Uu n jK)) (e:=.non) (c:=.bl false) rfl rfl rfl)) ?_;rw[if_neg (by decide)];exact Ok.seq (.sret (.eq (Znk rfl rfl) ⟨rfl,rfl⟩))
 | succ m=>
  rw[c3 k (by omega)];refine .eq (a:=true) (Yk (Zr (d:=.non) (e:=.non) (c:=.bl true) rfl rfl rfl)) ?_;rw[if_pos rfl];have ha:sAug 2 (WA true (dC (.int 1))) [some (ZF n jK),some (Y9 n jK),some (nD k),some .non] s'=some (.nx [some (ZF n jK),some (Y9 n jK),some (nD (k+1)),some .non],s'):=rfl;refine Ok.seq (.eq ha ?_);refine Ok.seq (.sset (.eq (hon (k+1) (by omega) _ rfl rfl) (.next ⟨m,by omega,rfl,k+1,by omega,rfl⟩)))
theorem ZnP {n:Nat}{jK:List (Nat×Nat)}{p:Nat}{qs:List Nat}{f:Nat->Nat}(hn:n<=24)(hpn:p<n)(hp:p∉qs)(hq:∀q∈qs,q<n)(hl:qs.length<=1000)(o1:Option D)(s:Pn) :
  (JS 3 (fun ρ=>(Za 4) (YN [3] ρ)) (WA true (Zo Jm (Zc (ZY [none,some 3] (ZX (Zd Zj (Za 2) (Za 4))) (ZD 0) (asB (Zd Xn (Za 0) (Za 1))) (Zd Ux (Za 1) (Za 0))) Ze)))) [some (ZF n jK),o1,some (Y9 n jK),some (.dk (YV qs f)),some (nD p)] s
   = some (.nx [some (ZF n jK),o1,some (Y9 n jK),some (.dk (YV (qs ++ [p]) fun x=>if x=p then XF ((qs.filter fun o=>tied jK p o).map f) else f x)),some (nD p)],s):=by
 have hc:=YW (src:=[none,some 3]) (fi:=ZX (Zd Zj (Za 2) (Za 4))) (τ:=ZD 0) (ft:=asB (Zd Xn (Za 0) (Za 1))) (fe:=Zd Ux (Za 1) (Za 0)) (ρ:=[some (ZF n jK),o1,some (Y9 n jK),some (.dk (YV qs f)),some (nD p)]) (s:=s) (ds:=(Yf n jK p).map nD) (fun d=>[some d,some (.dk (YV qs f))]) (fun d=>decide (Yi d∈qs)) (fun d=>nD (f (Yi d)))
  (XI (Zr (d:=Y9 n jK) (e:=nD p) rfl rfl (ZiW hpn))) (by
   have:=zr (fun o=>tied jK p o) (qp n);rw[qd,Yv];rw[qJ] at this;show(Yf n jK p).length<=_;unfold Yf;omega) (fun d hd=>by
  obtain⟨x,hx,rfl⟩:=qy.mp hd;exact⟨rfl,Yk (Zr (d:=nD x) (e:=.dk (YV qs f)) rfl rfl (Zpo qs f x)),fun hb=>Zr (d:=.dk (YV qs f)) (e:=nD x) rfl rfl (Zmd (of_decide_eq_true hb))⟩)
 have e:(((Yf n jK p).map nD).filter fun d=>decide (Yi d∈qs)).map (fun d=>nD (f (Yi d)))=(((Yf n jK p).filter fun o=>decide (o∈qs)).map f).map nD:=by
  rw[yg,qG,qG];rfl
 rw[e] at hc;have jS:(((Yf n jK p).filter fun o=>decide (o∈qs)).map f).length<=1000:=by
  rw[qd];have h1:=zr (fun o=>decide (o∈qs)) (Yf n jK p);have h2:=zr (fun o=>tied jK p o) (qp n);rw[qJ] at h2;unfold Yf at h1;unfold Yf;omega
 have hm:XF (((Yf n jK p).filter fun o=>decide (o∈qs)).map f)=XF ((qs.filter fun o=>tied jK p o).map f):=Zew fun x=>by
  simp only[Yf,qy,qA,qB,decide_eq_true_eq];constructor
  ·rintro⟨a,⟨⟨_,h2⟩,h3⟩,rfl⟩;exact⟨a,⟨h3,h2⟩,rfl⟩
  ·rintro⟨a,⟨h3,h2⟩,rfl⟩;exact⟨a,⟨⟨hq a h3,h2⟩,h3⟩,rfl⟩
 have hf:=ZdZ (((Yf n jK p).filter fun o=>decide (o∈qs)).map f) jS s;rw[hm] at hf;have hv:(WA true (Zo Jm (Zc (ZY [none,some 3] (ZX (Zd Zj (Za 2) (Za 4))) (ZD 0) (asB (Zd Xn (Za 0) (Za 1))) (Zd Ux (Za 1) (Za 0))) Ze))) [some (ZF n jK),o1,some (Y9 n jK),some (.dk (YV qs f)),some (nD p)] s=some (nD (XF ((qs.filter fun o=>tied jK p o).map f)),s):=ZoY (Z0 (Zg hc rfl) hf) rfl;rw[ZnI hv (x:=nD p) rfl (kvs:=YV qs f) rfl rfl rfl (by unfold YV;rw[qd,Yv];omega),ZnH hp];rfl
theorem Zmx (n:Nat)(jK:List (Nat×Nat))(hw:IsWeb n jK)(hn:n<=24){ps:List Nat}(hp:ps.Perm (qp n))(s:Pn):Bb [ZF n jK,.lst (ps.map nD)] s=some (ZI (WI n jK ps),s):=by
 have nd:ps.Nodup:=hp.nodup_iff.mpr zZ;have hl:ps.length=n:=by rw[hp.length_eq,qJ]
 have hlt:∀q∈ps,q<n:=fun q hq=>qB.mp (hp.mem_iff.mp hq);have hlt2:=hw.len hn;refine jz (Ok.runB rfl (Ok.seq (.sset (.eq (Z0 (Zg rfl rfl) (Zoq n jK (by omega) (by omega) s)) (Ok.seq (Ok.sown (.eq (a:=.dk []) rfl ⟨rfl,?_⟩)))))));refine Ok.seq (.sfor (fun k ρ s'=>s'=s/\k<=ps.length/\∃o3,ρ=[some (ZF n jK),some (.lst (ps.map nD)),some (Y9 n jK),some (.dk (YV (ps.take k) (hr jK (ps.take k).reverse))),o3]) (.eq (a:=ps.map nD) (s':=s) (XI rfl) ⟨⟨rfl,zk _,none,by rw[List.take_zero];rfl⟩,fun k d ρ s' hd hI=>?_,fun ρ' s' hI=>?_⟩))
 ·obtain⟨rfl,_,o3,rfl⟩:=hI
  rw[qD] at hd
  cases e:ps[k]? with
  | none=>rw[e] at hd;cases hd
  | some p=>
   rw[e] at hd
   cases hd
   refine⟨_,rfl,Ok.seq (.eq (ZnP (f:=hr jK (ps.take k).reverse) hn (hlt p (z5 e)) (ZhW nd e) (fun q hq=>hlt q (List.take_subset _ _ hq)) (by rw[zE];omega) _ s') (.next ⟨_,rfl,rfl,?_,some (nD p),?_⟩))⟩
   ·have:=(qL.mp e).1;omega
   ·rw[ZnJ jK e,Zb4 e]
 ·obtain⟨rfl,_,o3,rfl⟩:=hI
  rw[qd,z9];have hc:=YW (src:=[none,some 3]) (fi:=YO (Zd Zj (Za 0) (dC (.int 0)))) (τ:=ZD 0) (ft:=Z2) (fe:=Zd Ux (Za 1) (Za 0)) (ρ:=[some (ZF n jK),some (.lst (ps.map nD)),some (Y9 n jK),some (.dk (YV ps (hr jK ps.reverse))),o3]) (s:=s') (ds:=Ye 0 n) (fun d=>[some d,some (.dk (YV ps (hr jK ps.reverse)))]) (fun _=>true) (fun d=>nD (hr jK ps.reverse (Yi d)))
   (Vf (Zr (d:=ZF n jK) (e:=.int 0) rfl rfl Ue) (by omega)) (by rw[WB,Yv];omega) (fun d hd=>by
   obtain⟨i,hi,rfl⟩:=UI hd;exact⟨rfl,rfl,fun _=>Zr (d:=.dk (YV ps (hr jK ps.reverse))) (e:=nD i) rfl rfl (Zmd (hp.mem_iff.mpr (qB.mpr hi)))⟩)
  rw[WS,V4,qG] at hc;refine Ok.seq (.sret (.eq (Yj (Zg hc rfl) (c:=ZI (WI n jK ps)) ?_) ⟨rfl,rfl⟩));show some (D.tup _)=some (D.tup _);unfold WI;rw[qG];rfl
end TQ
namespace TQ
open L2 TF TS
open TP
open TP2
open TP3
section
variable {jK:List (Nat×Nat)}{ws:List Wb}
end
end TQ
namespace TQ
open L2 TF TS
open TP
open TP2
open TP3
section
variable {n m:Nat}{t1 t2 T:List (Nat×Nat)}
end
end TQ
namespace TF
open L2
section
variable {X:Cx}{G:Gh}
end
section
variable {X:Cx}{G:Gh}
end
end TF
namespace TQ
open L2 TF TQ
open TP
open TP2
open TP3
end TQ
namespace TQ
open L2 TF TS
open TP
open TP2
open TP3
section
variable {jK:List (Nat×Nat)}
theorem Zi1 (p:Nat)(b:List Nat):hr jK (p::b) p=XF ((b.filter fun o=>tied jK p o).map (hr jK b)):=by
 show(if p=p then _ else _)=_;rw[if_pos rfl]
theorem ZcM {p x:Nat}{b:List Nat}(h:x≠p):hr jK (p::b) x=hr jK b x:=by
 show(if x=p then _ else _)=_;rw[if_neg h]
theorem ZgP:∀{qs:List Nat},qs.Nodup->∀x∈qs,∀y∈qs,x≠y->tied jK x y=true->hr jK qs x≠hr jK qs y
 | [],_,x,hx,_,_,_,_=>by simp at hx
 | p::b,nd,x,hx,y,hy,ne,ht=>by
  have nd':=zx.mp nd;have key:∀z∈b,tied jK p z=true->hr jK (p::b) p≠hr jK (p::b) z:=fun z hz hp=>by
   have hzp:z≠p:=fun e=>nd'.1 (e▸hz);rw[Zi1,ZcM hzp];intro e;exact(ZbK _).1 (by rw[e];exact qy.mpr ⟨z,qA.mpr ⟨hz,hp⟩,rfl⟩)
  by_cases ex:x=p
  ·subst ex
   have hy':y∈b:=(qu.mp hy).resolve_left fun z=>ne z.symm;exact key y hy' ht
  ·have hx':x∈b:=(qu.mp hx).resolve_left ex
   by_cases ey:y=p
   ·subst ey
    exact(key x hx' (by rw[V0];exact ht)).symm
   ·have hy':y∈b:=(qu.mp hy).resolve_left ey
    rw[ZcM ex,ZcM ey];exact ZgP nd'.2 x hx' y hy' ne ht
theorem Zos:∀{qs:List Nat},∀x∈qs,hr jK qs x<qs.length
 | [],x,hx=>by simp at hx
 | p::b,x,hx=>by
  by_cases ex:x=p
  ·subst ex
   rw[Zi1];have h1:=Zmb ((b.filter fun o=>tied jK x o).map (hr jK b));have h2:=zr (fun o=>tied jK x o) b;rw[qd] at h1;rw[qR];omega
  ·have hx':x∈b:=(qu.mp hx).resolve_left ex
   rw[ZcM ex,qR];have:=Zos x hx';omega
variable {n:Nat}{ps:List Nat}
theorem Zkr:(WI n jK ps).length=n:=by unfold WI;simp
theorem Zbc {i:Nat}(h:i<n):(WI n jK ps).getD i 0=hr jK ps.reverse i:=by
 unfold WI;rw[qf,qD,z6 h];rfl
theorem Zi2 (hp:ps.Perm (qp n)):ps.reverse.Nodup/\(∀i,i∈ps.reverse↔i<n)/\ps.reverse.length=n:=
 ⟨(List.reverse_perm ps).nodup_iff.mpr (hp.nodup_iff.mpr zZ),fun i=>by rw[yS,hp.mem_iff,qB],by rw[List.length_reverse,hp.length_eq,qJ]⟩
theorem ZgQ (hp:ps.Perm (qp n)){a b:Nat}(ha:a<n)(hb:b<n)(ne:a≠b)(ht:tied jK a b=true):(WI n jK ps).getD a 0≠(WI n jK ps).getD b 0:=by
 obtain⟨nd,mm,_⟩:=Zi2 hp;rw[Zbc ha,Zbc hb];exact ZgP nd a ((mm a).mpr ha) b ((mm b).mpr hb) ne ht
theorem Zmy (hp:ps.Perm (qp n)){a:Nat}(ha:a<n):(WI n jK ps).getD a 0<n:=by
 obtain⟨nd,mm,ll⟩:=Zi2 hp;rw[Zbc ha];have:=Zos (jK:=jK) a ((mm a).mpr ha);omega
structure RightH (n:Nat)(jK:List (Nat×Nat))(f:List Nat):Prop where
 len:f.length=n
 lt:∀a<n,f.getD a 0<n
 ri:∀a<n,∀b<n,a≠b->tied jK a b=true->f.getD a 0≠f.getD b 0
theorem Zfz (hp:ps.Perm (qp n)):RightH n jK (WI n jK ps):=⟨Zkr,fun a ha=>Zmy hp ha,fun a ha b hb ne ht=>ZgQ hp ha hb ne ht⟩
theorem RightH.hueB {f:List Nat}(R:RightH n jK f)(hw:IsWeb n jK):hueB n jK (ZI f)=true:=by
 rw[Zkj hw R.len,qX,zd,zd];constructor
 ·intro y hy
  obtain⟨i,hi,rfl⟩:=qbJ.mp hy;have:=R.lt i (by rw[<-R.len];exact hi);rw[qf,qm hi] at this;exact decide_eq_true this
 ·intro p hp
  obtain⟨q1,q2⟩:=hw.mem hp;have:=R.ri p.1 (by omega) p.2 q2 (by omega) (by rw[ZgH,qaN (by omega),qaD (by omega)];exact hp);simpa using this
end
end TQ
namespace TQ
open L2 TF TS
open TP
open TP2
open TP3
end TQ
namespace TF
open L2
section
variable {X:Cx}{G:Gh}{f:Zb->M D}
end
end TF
namespace TQ
open L2 TF TS
open TP
open TP2
open TP3
section
variable (ap:Nat->Nat->Bool)(W:List Nat)
end
section
variable {ap:Nat->Nat->Bool}{W:List Nat}
end
section
variable {n:Nat}{A:Nat->List Nat}{ap:Nat->Nat->Bool}
end
end TQ
namespace TQ
open L2 TF TS
open TP
open TP2
open TP3
end TQ
namespace TQ
open L2 TF TS
open TP
open TP2
open TP3
theorem ZgR {F:List D->M D}{cds:List D}{s:Pn}(key:Nat->D):∀(ps:List Nat),(∀p∈ps,F (nD p::cds) s=some (key p,s))->BS F cds (ps.map fun(i:Nat)=>(i:Int)) s=some (ps.map key,s)
 | [],_=>rfl
 | p::ps,h=>by
  show Zn (F (nD p::cds)) (fun k=>Zn (BS F cds (ps.map fun(i:Nat)=>(i:Int))) fun ks=>ZB (k::ks)) s=_;unfold Zn;rw[h p zC];dsimp only;rw[ZgR key ps fun q hq=>h q (qK _ hq)];rfl
end TQ
namespace TQ
open L2 TF TS
open TP
open TP2
open TP3
noncomputable def gTp:Zb->M Out:=(Zh (ZT 2 (Zd Zj (YX (Zc (dC (.int 4)) (Zc (dC (.int 9)) (Zc (dC (.int 30)) (Zc (Zd W6 (dC (.int 10)) (dC (.int 8))) Ze))))) (Zo Z9 (Zc (Za 0) (Zc (dC (.int 4)) Ze)))))
 (Zh (ZT 3 (Zd Zj (Za 1) (Zo Z9 (Zc (Za 0) (Zc (ZA Z3 (Zc (Za 1) Ze)) Ze)))))
 (Zh (ZT 4 (Zd Yp (dC (.int 1)) (ZA Zk4 (Zc (Zd XY (Zo Z9 (Zc (Za 0) (Zc (dC (.int 3)) Ze))) (dC (.int 0))) Ze))))
 (Zh (U8 5 (YX Ze))
 (Zh (Ww (YO (Zo Z9 (Zc (Za 0) (Zc (dC (.int 13)) Ze)))) (ZD 6)
 (Zh (ZT 7 (fun ρ=>(Zd Yp (Za 3) (Zd W5 (Zo Z9 (Zc (Za 0) (Zc (Za 2) Ze))) (Zd Zj (YX (Zc (dC (.int 1)) (Zc (Zd W6 (dC (.int 10)) (dC (.int 12))) Ze))) (Zo Z9 (Zc (Za 0) (Zc (Za 4) Ze)))))) (YN [5] ρ)))
 (Zh (JV 5 (fun ρ=>(Yc (Zc (Za 7) (Zc (Zd Yp (Zd Yp (Za 7) (dC (.int 1))) (Zd W5 (Zo Z9 (Zc (Za 0) (Zc (Za 2) Ze))) (Zd Zj (YX (Zc (dC (.int 1)) (Zc (Zd W6 (dC (.int 10)) (dC (.int 12))) Ze))) (Zo Z9 (Zc (Za 0) (Zc (Za 4) Ze)))))) Ze))) (YN [5] ρ)))
 (Zh (YJ (asB (Zd XY (Zo Z9 (Zc (Za 0) (Zc (dC (.int 5)) Ze))) (dC (.int 0))))
 (Zh (ZT 8 (WA false (Zd Zj (Za 5) (Zo Z9 (Zc (Za 0) (Zc (ZA Z3 (Zc (Za 5) Ze)) Ze))))))
 (Zh (ZiC 5 (fun ρ=>(dC (.int (-1))) (YN [5] ρ)) (fun ρ=>(Zd Zj (YX (Zc (Za 8) (Zc (Yc (Zc (Zd Zj (Za 8) (dC (.int 1))) (Zc (Zd Yp (Zd Yp (Zd Zj (Za 8) (dC (.int 1))) (dC (.int 1))) (Zo Z9 (Zc (Za 0) (Zc (Za 2) Ze)))) Ze))) Ze))) (Zo Z9 (Zc (Za 0) (Zc (dC (.int 2)) Ze)))) (YN [5] ρ)))
 Zs))
 Zs)
 Zs))))
 (Zh (ZP (Za 5))
 Zs))))))
noncomputable def FTp:List D->M D:=runB 9 2 gTp
noncomputable def gLy:Zb->M Out:=(Zh (ZP (ZA UT (Zc (ZY [none,some 0,some 1] (YO (ZA Z3 (Zc (Za 0) Ze))) (ZD 0) (Wt (asB (Zd WM (Zd Zj (Zd Zj (Za 1) (Za 0)) (dC (.int 0))) (Za 2))) (asB (Zd WN (Za 2) (Zd Zj (Zd Zj (Za 1) (Za 0)) (dC (.int 1)))))) (Za 0)) Ze)))
 Zs)
noncomputable def B7:List D->M D:=runB 2 2 gLy
noncomputable def gPt:Zb->M Out:=(Zh (ZT 1 (ZY [none] (ZX (Za 0)) (ZD 0) Z2 (Zd Zj (Za 0) (dC (.int 0)))))
 (Zh (ZT 2 (BA (Xd 2 (ZA Z3 (Zc (Zo B7 (Zc (Za 1) (Zc (Za 0) Ze))) Ze))) [0] 0 (Za 1)))
 (Zh (ZT 3 (Zo B7 (Zc (Za 0) (Zc (Za 2) Ze))))
 (Zh (ZT 4 (Bo (Xd 2 (Zd Zj (Za 1) (Za 0))) [1] (ZA Z3 (Zc (Za 0) Ze))))
 (Zh (ZP (Yc (Zc (ZA Z3 (Zc (Za 3) Ze)) (Zc (Za 2) (Zc (Za 3) (Zc (Zo Bb (Zc (Zo Vc (Zc (Za 0) Ze)) (Zc (Za 4) Ze))) Ze))))))
 Zs)))))
noncomputable def FPt:List D->M D:=runB 5 1 gPt
noncomputable abbrev Zv (p:Int×Int):D:=.tup [.int p.1,.int p.2]
theorem pc0 (p:Int×Int):Zj (Zv p) (.int 0)=some (.int p.1):=V7 _ _
theorem B8 (p:Int×Int):Zj (Zv p) (.int 1)=some (.int p.2):=JQ _ _ _
noncomputable def Pb (fa:Int)(k:Nat)(p:Int×Int):Prop:=p.1<p.2/\fa<=p.1/\p.2<=fa+(k:Int)*1000000000000000000000
theorem Pb.mono {fa:Int}{k l:Nat}{p:Int×Int}(h:Pb fa k p)(hl:k<=l):Pb fa l p:=⟨h.1,h.2.1,by have:=h.2.2;omega⟩
theorem jG {i j:Nat}{fx fv:Zb->M D}{ρ:Zb}{s:Pn}{k:Int}{ds:List D}{Q:Out->Pn->Prop}(h3:(ρ[i]?).bind id=some (.lst ds))(h5:Wd ds.length k=some j)(h:Ok (fv ρ) s fun v s1=>fx ρ s1=some (.int k,s1)/\Q (.nx (ρ.set i (some (.lst (ds.set j v))))) s1):Ok (ZiC i fx fv ρ) s Q:=by
 refine .bind (h.mono fun v s1 q=>.bind (.eq q.1 ?_));simp only[h3,h5];exact .ret q.2
theorem jI {f:Zb->M D}{ρ:Zb}{s:Pn}{Q:D->Pn->Prop}(h:Ok (f ρ) s fun d s1=>XW d=true/\Q d s1):Ok (WA false f ρ) s Q:=
 .bind (h.mono fun d s1 q=>.ite (by simp[q.1]) (.ret q.2))
theorem ZgS {fs1 fs2:Zb->M (List D)}{ρ:Zb}{s:Pn}{T wd ap:Nat}{Q:D->Pn->Prop}(ok:Xs T s)(hT:T<900000000)(h1:∀s,fs1 ρ s=some ([.pen,nD wd],s))(h2:∀s,fs2 ρ s=some ([.pen,nD ap],s))(w0:0<wd)(w1:wd<=100000000)(a0:0<ap)(a1:ap<=2)
  (h:∀(x:Int) s',0<=x->x<=100000000000000000000->Xs (T+2) s'->Q (.int x) s'):Ok (Zd W5 (Zo Z9 fs1) (Zd Zj (YX (Zc (dC (.int 1)) (Zc (Zd W6 (dC (.int 10)) (dC (.int 12))) Ze))) (Zo Z9 fs2)) ρ) s Q:=by
 refine .op (.drawD (m:=wd) ok (by omega) (h1 s) w0 (by omega) fun r s1 hr ok1=>.op (.eq (a:=.lst [.int 1,.int 1000000000000]) (Uq (ds:=[.int 1,.int 1000000000000]) (Zg rfl (Zg (Zr (d:=.int 10) (e:=.int 12) rfl rfl rfl) rfl)) two_le) (.drawD (m:=ap) ok1 (by omega) (h2 s1) a0 (by omega) fun q s2 hq ok2=>?_)));have mul:∀y:Int,0<=y->y<=1000000000000->∃c,W5 (.int (r:Int)) (.int y)=some c/\Q c s2:=fun y y0 y1=>by
  refine⟨.int ((r:Int)*y),?_,?_⟩
  ·show(if U2 (r:Int) y=true then some (D.int ((r:Int)*y)) else none)=_
   rw[if_pos (by unfold U2;simp;left;omega)]
  ·refine h _ _ (Int.mul_nonneg (by omega) y0) ?_ ok2
   have:(r:Int)*y<=100000000*1000000000000:=Int.mul_le_mul (by omega) y1 y0 (by omega);omega
 match q,hq with
 | 0,_=>exact⟨.int 1,rfl,mul 1 (by omega) (by omega)⟩
 | 1,_=>exact⟨.int 1000000000000,rfl,mul 1000000000000 (by omega) (by omega)⟩
 | q+2,hq=>omega
theorem Zmz {α:Type}(l:List α)(x y:α):(l ++ [x]).set l.length y=l ++ [y]:=by
 rw[List.set_append_right _ _ (qw _),qbV];rfl
set_option maxHeartbeats 1000000 in
theorem Zh5 {T m:Nat}{s:Pn}{faD:List D}{R:Int->Prop}(hfl:faD.length=m)(hm:0<m)(hm2:m<=100)(hfa:∀d∈faD,∃f:Int,d=.int f/\R f)(ok:Xs T s)(hT:T<800000000):Ok (FTp [.pen,.lst faD]) s fun d s'=>Xs (T+1000) s'/\∃(fa:Int) (l:List (Int×Int)),R fa/\d=.lst (l.map Zv)/\l.length<=12/\∀p∈l,Pb fa 12 p:=by
 refine Ok.runB rfl ?_;refine Ok.seq (.sset (jH (m:=4) (ds:=[nD 4,nD 9,nD 30,nD 100000000]) (Zg rfl (Zg rfl (Zg rfl (Zg (Zr (d:=.int 10) (e:=.int 8) rfl rfl rfl) rfl)))) rfl ok (by omega) rfl (by omega) (by omega) fun wdd s1 hwd ok1=>?_));obtain⟨wd,rfl,w0,w1⟩:∃wd:Nat,wdd=nD wd/\0<wd/\wd<=100000000:=by
  simp only[qu,yo,or_false] at hwd;rcases hwd with rfl | rfl | rfl | rfl
  all_goals exact⟨_,rfl,by omega,by omega⟩
 refine Ok.seq (.sset (.op (.eq (a:=.lst faD) rfl (.drawD (m:=m) ok1 (by omega) (Zg rfl (Zg (Yj (Zg rfl rfl) (show some (D.int _)=some (D.int _) by rw[hfl])) rfl)) (by omega) (by omega) fun r s2 hr ok2=>?_))));obtain⟨fd,hfd,efd⟩:=Ze1 (ds:=faD) (r:=r) (by rw[hfl];exact hr);refine⟨fd,efd,?_⟩;obtain⟨fa,rfl,hR⟩:=hfa _ hfd;refine Ok.seq (.sset (.op (.eq rfl (.call (.cons (.op (.drawD (m:=3) ok2 (by omega) (Zg rfl (Zg rfl rfl)) (by omega) (by omega) fun q s3 hq ok3=>.eq rfl ⟨_,eqi _ _,.nil ⟨_,rfl,_,rfl,?_⟩⟩)))))));obtain⟨ap,hap,a0,a1⟩:∃ap:Nat,(1:Int)+(if ((q:Int)==0)=true then 1 else 0)=(ap:Int)/\0<ap/\ap<=2:=by
  split
  ·exact⟨2,rfl,by omega,by omega⟩
  ·exact⟨1,rfl,by omega,by omega⟩
 rw[hap];refine Ok.seq (.sown (.eq (a:=.lst []) rfl ⟨rfl,?_⟩));refine Ok.seq (.sfor (fun k ρ s'=>Xs (T+10+k*20) s'/\∃l:List (Int×Int),l.length=k/\(∀p∈l,Pb fa k p)/\∃o6 o7 o8,ρ=[some .pen,some (.lst faD),some (nD wd),some (.int fa),some (nD ap),some (.lst (l.map Zv)),o6,o7,o8]) (.range1 (.drawD (m:=13) ok3 (by omega) (Zg rfl (Zg rfl rfl)) (by omega) (by omega) fun n s4 hn ok4=>⟨n,rfl,by omega,⟨⟨ok4.mono (by omega),[],rfl,by simp,none,none,none,rfl⟩,fun k d ρ s' hd hI=>?_,fun ρ' s' hI=>?_⟩⟩)))
 ·obtain⟨ok5,l,hl,hP,o6,o7,o8,rfl⟩:=hI
  obtain⟨hk,rfl⟩:=Zcd hd;refine⟨_,rfl,?_⟩;refine Ok.seq (.sset (.op (.eq rfl (ZgS ok5 (by omega) (fun _=>Zg rfl (Zg rfl rfl)) (fun _=>Zg rfl (Zg rfl rfl)) w0 w1 a0 a1 fun x s6 x0 x1 ok6=>⟨_,rfl,?_⟩))));refine Ok.seq (.sapp (ds:=l.map Zv) rfl (by rw[qd,Yv];omega) (.tup (.cons (.eq rfl (.cons (.op (.eq (a:=.int (fa+x+1)) rfl (ZgS ok6 (by omega) (fun _=>Zg rfl (Zg rfl rfl)) (fun _=>Zg rfl (Zg rfl rfl)) w0 w1 a0 a1 fun y s7 y0 y1 ok7=>⟨_,rfl,.nil ⟨two_le,?_⟩⟩))))))));have hnew:Pb fa (k+1) (fa+x,fa+x+1+y):=⟨by show fa+x<fa+x+1+y;omega,by show fa<=fa+x;omega,by show fa+x+1+y<=_;omega⟩;have hPl:∀z:Int×Int,Pb fa (k+1) z->∀p∈l ++ [z],Pb fa (k+1) p:=fun z hz p hp=>by
   rcases qP.mp hp with h | h
   ·exact(hP p h).mono (by omega)
   ·rw[qN.mp h];exact hz
  have eA:l.map Zv ++ [Zv (fa+x,fa+x+1+y)]=(l ++ [(fa+x,fa+x+1+y)]).map Zv:=by rw[zD];rfl
  refine Ok.seq (.sif (.asB (.op (.drawD (m:=5) ok7 (by omega) (Zg rfl (Zg rfl rfl)) (by omega) (by omega) fun z s8 hz ok8=>.eq rfl ⟨_,eqi _ _,_,rfl,?_⟩))));split
  ·refine Ok.seq (.sset (jI (.op (.eq (a:=.lst ((l ++ [(fa+x,fa+x+1+y)]).map Zv)) (by rw[<-eA];rfl) (.drawD (m:=l.length+1) ok8 (by omega) (Zg rfl (Zg (Yj (ds:=[.lst ((l ++ [(fa+x,fa+x+1+y)]).map Zv)]) (Zg (by rw[<-eA];rfl) rfl) (show some (D.int _)=some (D.int _) by rw[qd,qY];rfl)) rfl)) (by omega) (by omega) fun q2 s9 hq2 ok9=>?_)))))
   have hq2':q2<((l ++ [(fa+x,fa+x+1+y)]).map Zv).length:=by rw[qd,qY];exact hq2
   obtain⟨od,hod,eod⟩:=Ze1 hq2';obtain⟨op,hop,rfl⟩:=qy.mp hod;refine⟨_,eod,rfl,?_⟩;have hold:=hPl _ hnew op hop;have h5:Wd (l.map Zv ++ [Zv (fa+x,fa+x+1+y)]).length (-1)=some l.length:=by
    unfold Wd;rw[qY,qd];show(if (0:Int)<=-1 then _ else _)=_;rw[if_neg (by omega)];simp only[ya];rw[if_pos (by omega)];congr 1;omega
   refine Ok.seq (jG (k:=-1) (j:=l.length) (ds:=l.map Zv ++ [Zv (fa+x,fa+x+1+y)]) rfl h5 (.op (.bind (.cons (.eq rfl (.cons (.tup (.cons (.eq (a:=.int op.2) (Zr (d:=Zv op) (e:=.int 1) rfl rfl (B8 op)) (.cons (.op (.eq (a:=.int (op.2+1)) (Zr (d:=.int op.2) (e:=.int 1) (Zr (d:=Zv op) (e:=.int 1) rfl rfl (B8 op)) rfl rfl) (.drawD (m:=wd) ok9 (by omega) (Zg rfl (Zg rfl rfl)) w0 (by omega) fun v s10 hv ok10=>⟨_,rfl,.nil ⟨two_le,.nil (.ite two_le (.ret (.drawD (m:=2) ok10 (by omega) (Zg rfl (Zg rfl rfl)) (by omega) (by omega) fun u s11 hu ok11=>?_)))⟩⟩)))))))))))));have hnew2:Pb fa (k+1) (op.2,op.2+1+(v:Int)):=by
    obtain⟨g1,g2,g3⟩:=hold;obtain⟨i,hi⟩:=List.getElem?_of_mem hop;refine⟨by show op.2<op.2+1+(v:Int);omega,by show fa<=op.2;omega,?_⟩;show op.2+1+(v:Int)<=_;rcases qP.mp hop with h | h
    ·have:=(hP op h).2.2;omega
    ·rw[qN.mp h]
     show fa+x+1+y+1+(v:Int)<=_;omega
   have fin:∀z:Int×Int,Pb fa (k+1) z->Xs (T+10+(k+1)*20) s11/\∃l':List (Int×Int),l'.length=k+1/\(∀p∈l',Pb fa (k+1) p)/\(l.map Zv ++ [Zv (fa+x,fa+x+1+y)]).set l.length (Zv z)=l'.map Zv:=fun z hz=>by
    refine⟨ok11.mono (by omega),l ++ [z],by rw[qY,hl];rfl,hPl z hz,?_⟩;have:=Zmz (l.map Zv) (Zv (fa+x,fa+x+1+y)) (Zv z);rw[qd] at this;rw[this,zD];rfl
   match u,hu with
   | 0,_=>
    refine⟨Zv op,rfl,rfl,.next (.next ?_)⟩;obtain⟨b1,l',b2,b3,b4⟩:=fin op hold;exact⟨_,rfl,b1,l',b2,b3,some (nD k),some (.int (fa+x)),some (Zv op),by rw[<-b4];rfl⟩
   | 1,_=>
    refine⟨Zv (op.2,op.2+1+(v:Int)),rfl,rfl,.next (.next ?_)⟩;obtain⟨b1,l',b2,b3,b4⟩:=fin _ hnew2;exact⟨_,rfl,b1,l',b2,b3,some (nD k),some (.int (fa+x)),some (Zv op),by rw[<-b4];rfl⟩
   | u+2,hu=>omega
  ·refine .next (.next ⟨_,rfl,ok8.mono (by omega),l ++ [(fa+x,fa+x+1+y)],by rw[qY,hl];rfl,hPl _ hnew,some (nD k),some (.int (fa+x)),o8,?_⟩)
   rw[<-eA];rfl
 ·obtain⟨ok5,l,hl,hP,o6,o7,o8,rfl⟩:=hI
  rw[WB] at ok5 hl hP;exact Ok.seq (.sret (.eq rfl ⟨ok5.mono (by omega),fa,l,hR,rfl,by omega,fun p hp=>(hP p hp).mono (by omega)⟩))
noncomputable def Wj (p q:Int×Int):Bool:=decide (p.1<q.2)&&decide (q.1<p.2)
theorem Zi3 (l:List (Int×Int))(i:Nat)(h:i<l.length):(l.map Zv).getD i .non=Zv (l.getD i (0,0)):=by
 rw[qf,qD,qf,qm h];rfl
theorem ZmA (l:List (Int×Int))(i:Nat)(h:i<l.length):Zj (.lst (l.map Zv)) (nD i)=some (Zv (l.getD i (0,0))):=by
 refine WC ?_;rw[qD,qf,qm h];rfl
noncomputable abbrev Z5 (l:List (Int×Int)):List (Nat×Nat):=(YQ l.length).filter fun p=>Wj (l.getD p.1 (0,0)) (l.getD p.2 (0,0))
theorem BJ (l:List (Int×Int))(hl:l.length<=1000)(s:Pn):Vc [.lst (l.map Zv)] s=some (ZF l.length (Z5 l),s):=by
 refine YI rfl (Z8 (YE (Zh1 (d:=.lst (l.map Zv)) (cds:=[]) rfl rfl (by simp only[Yx];exact UM fun d hd=>by obtain⟨p,_,rfl⟩:=qy.mp hd;rfl) rfl ?_ (Zb6 _ _))));have:=ZaP (row:=.lst (l.map Zv)) (ds:=l.map Zv) (cds:=[]) (t:=2) (.inl rfl) (by rw[qd];exact hl) (fun p=>Wj (l.getD p.1 (0,0)) (l.getD p.2 (0,0))) s (fun p hpm=>by
  rw[qd] at hpm;have hpp:=Wo.mp hpm;rw[Zi3 _ _ (by omega),Zi3 _ _ (by omega)];show Bm [Zv (l.getD p.1 (0,0)),Zv (l.getD p.2 (0,0))] s=_;exact YI rfl (Z8 (YE (ZnM (Zr (Zr rfl rfl (pc0 _)) (Zr rfl rfl (B8 _)) rfl) (Zr (Zr rfl rfl (pc0 _)) (Zr rfl rfl (B8 _)) rfl)))))
 rw[qd] at this;exact this
end TQ
namespace TQ
open L2 TF TS
open TP
open TP2
open TP3
noncomputable def JY (x:Int)(p:Int×Int):Bool:=decide (p.1<=x)&&decide (x<p.2)
noncomputable def Xg (l:List (Int×Int))(x:Int):List Nat:=Z7 l.length fun i=>JY x (l.getD i (0,0))
noncomputable def VR (l:List (Int×Int))(x:Int):Nat:=(l.filter (JY x)).length
theorem JA (l:List (Int×Int))(x:Int):(Xg l x).length=VR l x:=by
 unfold Xg Z7 VR
 conv=>rhs;rw[<-TS.range_getD l (0,0)]
 rw[yg,qd];rfl
theorem ZmB {x:Int}{p:Int×Int}:JY x p=true↔p.1<=x/\x<p.2:=by
 unfold JY;rw[qX,decide_eq_true_eq,decide_eq_true_eq]
theorem JB {l:List (Int×Int)}{x:Int}{i:Nat}:i∈Xg l x↔i<l.length/\(l.getD i (0,0)).1<=x/\x<(l.getD i (0,0)).2:=by
 unfold Xg;rw[WX,ZmB]
theorem UP {p q:Int×Int}:Wj p q=true↔p.1<q.2/\q.1<p.2:=by
 unfold Wj;rw[qX,decide_eq_true_eq,decide_eq_true_eq]
theorem Zks (p q:Int×Int):Wj p q=Wj q p:=by unfold Wj;rw[Bool.and_comm]
theorem ZcN {l:List (Int×Int)}{a b:Nat}(h:a≠b)(ha:a<l.length)(hb:b<l.length):tied (Z5 l) a b=Wj (l.getD a (0,0)) (l.getD b (0,0)):=by
 rcases Nat.lt_or_gt_of_ne h with z | z
 ·exact Zcp z hb
 ·have:=Zcp (N:=l.length) (B:=fun p=>Wj (l.getD p.1 (0,0)) (l.getD p.2 (0,0))) z ha
  rw[Zks];rw[<-this];unfold tied;rw[Nat.min_comm,Nat.max_comm]
theorem JN (l:List (Int×Int)):IsWeb l.length (Z5 l):=IsWeb.filter _
theorem ZgT (l:List (Int×Int))(hl:l.length<=1000)(x:Int)(s:Pn):B7 [.lst (l.map Zv),.int x] s=some (ZI (Xg l x),s):=by
 refine YI rfl (Z8 (YE (Yj (Zg (d:=.lst ((Xg l x).map nD)) ?_ rfl) rfl)));have hc:=YW (src:=[none,some 0,some 1]) (fi:=YO (ZA Z3 (Zc (Za 0) Ze))) (τ:=ZD 0) (ft:=Wt (asB (Zd WM (Zd Zj (Zd Zj (Za 1) (Za 0)) (dC (.int 0))) (Za 2))) (asB (Zd WN (Za 2) (Zd Zj (Zd Zj (Za 1) (Za 0)) (dC (.int 1)))))) (fe:=Za 0) (ρ:=[some (.lst (l.map Zv)),some (.int x)]) (s:=s) (ds:=Ye 0 l.length) (fun d=>[some d,some (.lst (l.map Zv)),some (.int x)]) (fun d=>JY x (l.getD (Yi d) (0,0))) (fun d=>d)
  (Vf (n:=l.length) (Yj (Zg rfl rfl) (by show some (D.int _)=some (D.int _);rw[qd])) (by omega)) (by rw[WB,Yv];omega) fun d hd=>by
   obtain⟨i,hi,rfl⟩:=UI hd;refine⟨rfl,?_,fun _=>rfl⟩;refine(Ze0 (Yk (Zr (Zr (d:=Zv (l.getD i (0,0))) (Zr rfl rfl (ZmA l i hi)) rfl (pc0 _)) rfl rfl)) fun _=>Yk (Zr rfl (Zr (Zr rfl rfl (ZmA l i hi)) rfl (B8 _)) rfl)).trans ?_;rfl
 rw[Zau l.length fun i=>JY x (l.getD i (0,0))] at hc;exact hc
theorem ZbO (l:List (Int×Int))(x:Int):Xg l x∈kn (Z5 l) l.length:=Xv.mpr ⟨Jw _ _,fun o ho=>(JB.mp ho).1,fun a ha b hb ne=>by
 obtain⟨a1,a2,a3⟩:=JB.mp ha;obtain⟨b1,b2,b3⟩:=JB.mp hb;rw[ZcN ne a1 b1];exact UP.mpr ⟨by omega,by omega⟩⟩
theorem ZeA (l:List (Int×Int)):∀K:List Nat,K≠[]->∃v∈K,∀u∈K,(l.getD u (0,0)).1<=(l.getD v (0,0)).1
 | [],h=>absurd rfl h
 | [a],_=>⟨a,by simp,fun u hu=>by rw[qN.mp hu];exact yY _⟩
 | a::b::K,_=>by
  obtain⟨v,hv,h⟩:=ZeA l (b::K) (by simp);by_cases z:(l.getD a (0,0)).1<=(l.getD v (0,0)).1
  ·exact⟨v,qK _ hv,fun u hu=>by
    rcases qu.mp hu with rfl | hu
    ·exact z
    ·exact h u hu⟩
  ·exact⟨a,zC,fun u hu=>by
    rcases qu.mp hu with rfl | hu
    ·exact yY _
    ·have:=h u hu;omega⟩
theorem Zkt {l:List (Int×Int)}{v:Nat}(h:v<l.length):(l.getD v (0,0)).1∈l.map (·.1):=by
 rw[qf,qm h];exact qy.mpr ⟨_,zu h,rfl⟩
theorem Zb8 {l:List (Int×Int)}{v:Nat}(h:v<l.length):l.getD v (0,0)∈l:=by
 rw[qf,qm h];exact zu h
theorem ZmC {l:List (Int×Int)}(hp:∀p∈l,p.1<p.2){K:List Nat}(hK:K∈kn (Z5 l) l.length):K=[]∨∃v<l.length,K.length<=VR l (l.getD v (0,0)).1:=by
 by_cases z:K=[]
 ·exact .inl z
 ·obtain⟨q1,q2,q3⟩:=Xv.mp hK
  obtain⟨v,hv,h⟩:=ZeA l K z;refine .inr ⟨v,q2 v hv,?_⟩;rw[<-JA];refine WT (VZ q1) fun u hu=>JB.mpr ⟨q2 u hu,h u hu,?_⟩;by_cases e:u=v
  ·subst e;exact hp _ (Zb8 (q2 u hu))
  ·have:=q3 u hu v hv e
   rw[ZcN e (q2 u hu) (q2 v hv)] at this;exact(UP.mp this).2
theorem ZnQ {l:List (Int×Int)}(hl:l.length<=24)(hp:∀p∈l,p.1<p.2){x:Int}(h:∀v<l.length,VR l (l.getD v (0,0)).1<=VR l x):VR l x=om l.length (Z5 l):=by
 refine y9 ?_ ?_
 ·rw[<-JA]
  exact ZiZ (JN l) hl (ZbO l x)
 ·rcases ZmC hp (Ui (JN l) hl).1 with z | ⟨v,hv,z⟩
  ·show(WJ l.length (Z5 l)).length<=_
   rw[z];exact zk _
  ·exact qZ z (h v hv)
theorem Zpw {l:List (Int×Int)}(hl:l.length<=24)(x:Int):VR l x<=om l.length (Z5 l):=by
 rw[<-JA];exact ZiZ (JN l) hl (ZbO l x)
theorem ZdK {F:List D->M D}{cds:List D}{s:Pn}(f:Int->Int)(hF:∀n,F (.int n::cds) s=some (.int (f n),s)):∀(r:List Int) (nb:Int),∃m,UV F cds r nb (f nb) s=some (.int m,s)/\(m=nb∨m∈r)/\f nb<=f m/\∀x∈r,f x<=f m
 | [],nb=>⟨nb,rfl,.inl rfl,yY _,fun x hx=>by simp at hx⟩
 | n::r,nb=>by
  have e:UV F cds (n::r) nb (f nb) s=UV F cds r (if f n > f nb then n else nb) (if f n > f nb then f n else f nb) s:=by
   show Zn (F (.int n::cds)) _ s=_;unfold Zn;rw[hF n]
  rw[e];by_cases z:f n > f nb
  ·rw[if_pos z,if_pos z]
   obtain⟨m,h1,h2,h3,h4⟩:=ZdK f hF r n;exact⟨m,h1,.inr (h2.elim (fun e=>e▸zC) fun e=>qK _ e),by omega,fun x hx=>by
    rcases qu.mp hx with rfl | hx
    ·exact h3
    ·exact h4 x hx⟩
  ·rw[if_neg z,if_neg z]
   obtain⟨m,h1,h2,h3,h4⟩:=ZdK f hF r nb;exact⟨m,h1,h2.imp id fun e=>qK _ e,h3,fun x hx=>by
    rcases qu.mp hx with rfl | hx
    ·omega
    ·exact h4 x hx⟩
theorem Zku {F:List D->M D}{cds:List D}{s:Pn}(f:Int->Int)(hF:∀n,F (.int n::cds) s=some (.int (f n),s))(ns:List Int)(c:Int):∃m,Bz F cds ns c s=some (.int m,s)/\∀x∈ns,f x<=f m:=by
 cases ns with
 | nil=>exact⟨c,rfl,fun x hx=>by simp at hx⟩
 | cons n r=>
  obtain⟨m,h1,h2,h3,h4⟩:=ZdK f hF r n;refine⟨m,?_,fun x hx=>by
    rcases qu.mp hx with rfl | hx
    ·exact h3
    ·exact h4 x hx⟩
  unfold Bz Zn;dsimp only;rw[hF n];exact h1
theorem ZgU {jK:List (Nat×Nat)}{m:Nat}:∀(qs:List Nat),(∀A p B,qs=A++p::B->(B.filter fun o=>tied jK p o).length<m)->∀x∈qs,hr jK qs x<m
 | [],_,x,hx=>by simp at hx
 | p::qs,h,x,hx=>by
  unfold hr;split
  ·have:=Zmb ((qs.filter fun o=>tied jK p o).map (hr jK qs))
   rw[qd] at this;exact Nat.lt_of_le_of_lt this (h [] p qs rfl)
  ·rename_i ne
   rcases qu.mp hx with e | hx
   ·exact absurd e ne
   ·exact ZgU qs (fun A q B e=>h (p::A) q B (by rw[e];rfl)) x hx
theorem ZmD {l:List (Int×Int)}(hl:l.length<=24)(hp:∀p∈l,p.1<p.2){ps:List Nat}(pm:ps.Perm (qp l.length))(hs:ps.Pairwise fun a b=>(l.getD a (0,0)).1<=(l.getD b (0,0)).1):∀x<l.length,hr (Z5 l) ps.reverse x<om l.length (Z5 l):=fun x hx=>by
 have nd:ps.Nodup:=pm.nodup_iff.mpr zZ;have hlt:∀q∈ps,q<l.length:=fun q hq=>qB.mp (pm.mem_iff.mp hq);refine ZgU ps.reverse (fun A p B e=>?_) x (yS.mpr (pm.mem_iff.mpr (qB.mpr hx)));have hs':(ps.reverse).Pairwise fun a b=>(l.getD b (0,0)).1<=(l.getD a (0,0)).1:=qaF.mpr hs;have nd':(ps.reverse).Nodup:=qaF.mpr (zQ.imp (fun h=>zm h) nd);have hlt':∀q∈A++p::B,q<l.length:=fun q hq=>by rw[<-e] at hq;exact hlt q (yS.mp hq)
 rw[e] at hs' nd';have h1:=(zO.mp (yT.mp hs').2.1).1;have nd1:=zx.mp (qau.mp nd').2.1;have hpl:=hlt' p (by simp);have key:(p::B.filter fun o=>tied (Z5 l) p o).length<=(Xg l (l.getD p (0,0)).1).length:=by
  refine WT (zx.mpr ⟨fun z=>nd1.1 (qA.mp z).1,nd1.2.sublist zg⟩) fun u hu=>?_;rcases qu.mp hu with rfl | hu
  ·exact JB.mpr ⟨hpl,yY _,hp _ (Zb8 hpl)⟩
  ·obtain⟨u1,u2⟩:=qA.mp hu
   have hul:=hlt' u (by simp[u1]);have ne:p≠u:=fun z=>nd1.1 (z▸u1);rw[ZcN ne hpl hul] at u2;exact JB.mpr ⟨hul,h1 u u1,(UP.mp u2).1⟩
 rw[JA] at key;have:=Zpw hl (l.getD p (0,0)).1;rw[qR] at key;omega
theorem Zh6 {hs:List Nat}{n m:Nat}{jK:List (Nat×Nat)}(R:RightH n jK hs)(h:∀x<n,hs.getD x 0<m){K:List Nat}(hK:K∈kn jK n)(hm:K.length=m):ZlN (X8 hs)=m:=by
 obtain⟨u1,u2⟩:=Ze9 (X8 hs);refine y9 ?_ ?_
 ·have:=WT (b:=(qp m).map fun(i:Nat)=>(i:Int)) u1 fun x hx=>by
   have hx:=(u2 x).mp hx;obtain⟨y,hy,rfl⟩:=qy.mp hx;obtain⟨i,hi,e⟩:=qbJ.mp hy;have:=h i (by rw[<-R.len];exact hi);rw[qf,qm hi] at this;exact qy.mpr ⟨y,qB.mpr (by rw[<-e];exact this),rfl⟩
  rw[qd,qJ] at this;exact this
 ·obtain⟨q1,q2,q3⟩:=Xv.mp hK
  have:=WT (a:=K.map fun p=>((hs.getD p 0:Nat):Int)) (by
   refine zQ.map _ (fun a b h=>h) (zM (fun {a b} ha hb h=>?_) (VZ q1));have:=R.ri a (q2 a ha) b (q2 b hb) h (q3 a ha b hb h);omega) fun x hx=>by
    obtain⟨p,hp,rfl⟩:=qy.mp hx;have hp:=q2 p hp;have hm:hs.getD p 0∈hs:=by
     rw[qf,qm (by rw[R.len];exact hp)];exact zu _
    exact(u2 _).mpr (qy.mpr ⟨hs.getD p 0,hm,rfl⟩)
  rw[qd,hm] at this;exact this
theorem Zkv (l:List (Int×Int))(hl:l.length<=1000){o1 o2 o3 o4:Option D}(s:Pn):ZY [none] (ZX (Za 0)) (ZD 0) Z2 (Zd Zj (Za 0) (dC (.int 0))) [some (.lst (l.map Zv)),o1,o2,o3,o4] s=some (.lst ((l.map (·.1)).map D.int),s):=by
 have hc:=YW (src:=[none]) (fi:=ZX (Za 0)) (τ:=ZD 0) (ft:=Z2) (fe:=Zd Zj (Za 0) (dC (.int 0))) (ρ:=[some (.lst (l.map Zv)),o1,o2,o3,o4]) (s:=s) (ds:=l.map Zv) (fun d=>[some d]) (fun _=>true) (fun d=>match d with | .tup (x::_)=>x | _=>.non) (XI rfl) (by rw[qd,Yv];omega) fun d hd=>by
  obtain⟨p,_,rfl⟩:=qy.mp hd;exact⟨rfl,rfl,fun _=>Zr rfl rfl (pc0 p)⟩
 rw[zU.mpr fun _ _=>rfl,qG] at hc;rw[qG];exact hc
theorem ZgV (ns:List Int):ZR (ns.map D.int)=some ns:=by
 induction ns with
 | nil=>rfl
 | cons n r ih=>show(ZR (r.map D.int)).map (n :: ·)=_;rw[ih];rfl
noncomputable abbrev J7 (ns:List Int):Nat->Nat->Bool:=fun i j=>decide (ns.getD i 0<ns.getD j 0)
theorem ZfA (ns:List Int):OrdW (J7 ns):=by
 refine⟨fun a b c h1 h2=>?_,fun a b h=>?_⟩
 ·have h1:=of_decide_eq_false h1
  have h2:=of_decide_eq_false h2;exact decide_eq_false (by omega)
 ·have h:=of_decide_eq_true h
  exact decide_eq_false (by omega)
theorem ZeB {l:List (Int×Int)}{i:Nat}(h:i<l.length):(l.map (·.1)).getD i 0=(l.getD i (0,0)).1:=by
 rw[qf,qD,qf,qm h];rfl
theorem Zh7 (l:List (Int×Int)):YF (l.map Zv)=true:=UM fun d hd=>by obtain⟨p,_,rfl⟩:=qy.mp hd;rfl
theorem noClos_ints (l:List Int):YF (l.map D.int)=true:=UM fun d hd=>by obtain⟨p,_,rfl⟩:=qy.mp hd;rfl
theorem ZmE (l:List (Int×Int))(hl:l.length<=24){o2 o3 o4:Option D}(s:Pn):Bo (Xd 2 (Zd Zj (Za 1) (Za 0))) [1] (ZA Z3 (Zc (Za 0) Ze)) [some (.lst (l.map Zv)),some (.lst ((l.map (·.1)).map D.int)),o2,o3,o4] s=some (.lst ((Yl (J7 (l.map (·.1))) l.length).map nD),s):=by
 have jS:(l.map Zv).length=l.length:=qd ..;have hk:=ZgR (F:=Xd 2 (Zd Zj (Za 1) (Za 0))) (cds:=[.lst ((l.map (·.1)).map D.int)]) (s:=s) (fun p=>.int ((l.map (·.1)).getD p 0)) (qp l.length) fun p hp=>by
  have hp:=qB.mp hp;refine ZcJ rfl (Zr (d:=.lst ((l.map (·.1)).map D.int)) (e:=nD p) rfl rfl (WC ?_));rw[qD,qf,qm (by rw[qd];exact hp)];rfl
 have e1:(qp l.length).map (fun p=>D.int ((l.map (·.1)).getD p 0))=(l.map (·.1)).map D.int:=by
  have:=congrArg (List.map D.int) (TS.range_getD (l.map (·.1)) 0);rw[qG,qd] at this;exact this
 rw[e1] at hk;unfold Bo Zn;rw[Yj (c:=nD l.length) (Zg (d:=.lst (l.map Zv)) rfl rfl) (by show some (D.int _)=some (D.int _);rw[jS])];dsimp only;rw[show YR (Vk [some (D.lst (l.map Zv)),some (.lst ((l.map (·.1)).map D.int)),o2,o3,o4] [1]) s=some ([.lst ((l.map (·.1)).map D.int)],s) from rfl];dsimp only;rw[if_pos (by omega)];unfold ZbC;rw[if_pos (by
  have h1:YF [D.lst ((l.map (·.1)).map D.int)]=true:=by
   show(YF ((l.map (·.1)).map D.int)&&true)=true;rw[noClos_ints];rfl
  rw[h1,qd,qJ];simp;omega)]
 unfold Zn;rw[yi,hk];dsimp only;unfold B5;rw[ZgV];dsimp only;rw[qd,qJ];show some (D.lst _,s)=some (D.lst _,s);congr 3;refine zt fun i hi=>?_;have hi:=qB.mp ((Jn (ZfA _)).mem_iff.mp hi);show D.int _=D.int _;rw[qf,qD,z6 hi];rfl
set_option maxHeartbeats 4000000 in
theorem Zi4 (l:List (Int×Int))(hl:l.length<=24)(hp:∀p∈l,p.1<p.2)(s:Pn):∃(x:Int) (hs:List Nat),FPt [.lst (l.map Zv)] s=some (.tup [nD (om l.length (Z5 l)),.int x,ZI (Xg l x),ZI hs],s)/\
  (Xg l x).length=om l.length (Z5 l)/\RightH l.length (Z5 l) hs/\(∀y<l.length,hs.getD y 0<om l.length (Z5 l))/\ZlN (X8 hs)=om l.length (Z5 l):=by
 have hF:∀n:Int,Xd 2 (ZA Z3 (Zc (Zo B7 (Zc (Za 1) (Zc (Za 0) Ze))) Ze)) (.int n :: [.lst (l.map Zv)]) s=some (.int (VR l n:Int),s):=fun n=>by
  refine ZcJ rfl (Yj (Zg (d:=ZI (Xg l n)) (Z0 (Zg rfl (Zg rfl rfl)) (ZgT l (by omega) n s)) rfl) ?_);show some (D.int _)=_;rw[qd,JA]
 obtain⟨x,hx,hb⟩:=Zku (cds:=[.lst (l.map Zv)]) (s:=s) (fun n=>(VR l n:Int)) hF (l.map (·.1)) 0;have hbest:VR l x=om l.length (Z5 l):=ZnQ hl hp fun v hv=>by have:=hb _ (Zkt hv);omega
 have pm:=Jn (n:=l.length) (ZfA (l.map (·.1)));have hs:(Yl (J7 (l.map (·.1))) l.length).Pairwise fun a b=>(l.getD a (0,0)).1<=(l.getD b (0,0)).1:=by
  refine zM (fun {a b} ha hb h=>?_) (Zgn (n:=l.length) (ZfA (l.map (·.1))));have ha:=qB.mp (pm.mem_iff.mp ha);have hb:=qB.mp (pm.mem_iff.mp hb);have h:=of_decide_eq_false h;rw[ZeB ha,ZeB hb] at h;omega
 have R:=Zfz (jK:=Z5 l) pm;have hfew:=ZmD hl hp pm hs;have hfew':∀y<l.length,(WI l.length (Z5 l) (Yl (J7 (l.map (·.1))) l.length)).getD y 0<om l.length (Z5 l):=fun y hy=>by rw[Zbc hy];exact hfew y hy
 have hlx:(Xg l x).length=om l.length (Z5 l):=by rw[JA,hbest]
 have hmx:BA (Xd 2 (ZA Z3 (Zc (Zo B7 (Zc (Za 1) (Zc (Za 0) Ze))) Ze))) [0] 0 (Za 1) [some (.lst (l.map Zv)),some (.lst ((l.map (·.1)).map D.int)),none,none,none] s=some (.int x,s):=by
  unfold BA Zn;rw[show Za 1 [some (D.lst (l.map Zv)),some (.lst ((l.map (·.1)).map D.int)),none,none,none] s=some (.lst ((l.map (·.1)).map D.int),s) from rfl];dsimp only;rw[show YR (Vk [some (D.lst (l.map Zv)),some (.lst ((l.map (·.1)).map D.int)),none,none,none] [0]) s=some ([.lst (l.map Zv)],s) from rfl];dsimp only;rw[ZgV];dsimp only;rw[if_pos (by
   show(YF (l.map Zv)&&true)=true;rw[Zh7];rfl)]
  exact hx
 have ho:=ZmE l hl (o2:=some (.int x)) (o3:=some (ZI (Xg l x))) (o4:=none) s;have hst:=Zkv l (by omega) (o1:=none) (o2:=none) (o3:=none) (o4:=none) s;have hh:=Zmx l.length (Z5 l) (JN l) hl pm s;have hun:=Zh6 R hfew' (ZbO l x) hlx;generalize WI l.length (Z5 l) (Yl (J7 (l.map (·.1))) l.length)=hs at R hfew' hh hun;generalize Yl (J7 (l.map (·.1))) l.length=ps at ho hh;generalize ((l.map (·.1)).map D.int)=st at ho hmx hst;refine⟨x,hs,?_,hlx,R,hfew',hun⟩;refine YI rfl (jz ?_);refine Ok.seq (.sset (.eq hst ?_));refine Ok.seq (.sset (.eq hmx ?_));refine Ok.seq (.sset (.eq (Z0 (Zg rfl (Zg rfl rfl)) (ZgT l (by omega) x s)) ?_));refine Ok.seq (.sset (.eq ho ?_));refine Ok.seq (.sret (.eq (WF (ds:=[nD (om l.length (Z5 l)),.int x,ZI (Xg l x),ZI hs]) (Zg (Yj (Zg (d:=ZI (Xg l x)) rfl rfl) ?_) (Zg rfl (Zg rfl (Zg (Z0 (Zg (Z0 (Zg rfl rfl) (BJ l (by omega) s)) (Zg (d:=.lst (ps.map nD)) rfl rfl)) hh) rfl)))) (by show 4<=sizeLine;decide)) ⟨rfl,rfl⟩));show some (D.int _)=some (D.int _);rw[qd,hlx]
end TQ
namespace TQ
open L2 TF TS
open TP
open TP2
open TP3
noncomputable abbrev mo (l:List (Int×Int)):Nat:=om l.length (Z5 l)
noncomputable abbrev Gd (l:List (Int×Int)):Prop:=∀p∈l,p.1<p.2
end TQ
namespace TQ
open L2 TF TS
open TP
open TP2
open TP3
namespace PC
theorem many_eq {f:Zb->M D}{ρ:Zb}{s:Pn}{l:List (Int×Int)}(h:f ρ s=some (.lst (l.map Zv),s))(hl:l.length<=24)(hg:Gd l):Zd Zj (Zo FPt (Zc f Ze)) (dC (.int 0)) ρ s=some (nD (mo l),s):=by
 obtain⟨x,hs,e,_⟩:=Zi4 l hl hg s;exact Zr (Z0 (Zg h rfl) e) rfl (V7 _ _)
theorem ZeC {f:Zb->M D}{fl fh:Zb->M (Option Int)}{ρ:Zb}{s:Pn}{ds:List D}{lo hi:Option Int}(h:f ρ s=some (.lst ds,s))(hl:fl ρ s=some (lo,s))(hh:fh ρ s=some (hi,s)):UU f fl fh ρ s=some (.lst (Vt ds lo hi),s):=by
 unfold UU Zn;simp only[h,hl,hh];rfl
theorem ZgW {f:Zb->M D}{ρ:Zb}{s:Pn}{i:Int}(h:f ρ s=some (.int i,s)):U4 f ρ s=some (some i,s):=by
 unfold U4 Zn;rw[h];rfl
theorem Zpx (ds:List D)(k:Nat):Vt ds none (some (k:Int))=ds.take k:=by
 unfold Vt;rw[HT.sIx_none,HT.sIx_nat,List.drop_zero,Nat.sub_zero];by_cases h:k<=ds.length
 ·rw[qaN h]
 ·rw[Nat.min_eq_right (by omega),qay (qw _),qay (by omega)]
theorem Zpy (ds:List D)(k:Nat):Vt ds (some (k:Int)) none=ds.drop k:=by
 unfold Vt;rw[HT.sIx_none,HT.sIx_nat];by_cases h:k<=ds.length
 ·rw[qaN h,qay (by rw[yQ];omega)]
 ·rw[Nat.min_eq_right (by omega),qbv (qw _),qbv (by omega)];simp
theorem ZnR {f g:Zb->M D}{ρ:Zb}{s:Pn}{l:List (Int×Int)}{k:Nat}(h:f ρ s=some (.lst (l.map Zv),s))(hg:g ρ s=some (nD k,s)):UU f BQ (U4 g) ρ s=some (.lst ((l.take k).map Zv),s):=by
 rw[ZeC h rfl (ZgW hg),Zpx,List.map_take]
theorem ZnS {f g:Zb->M D}{ρ:Zb}{s:Pn}{l:List (Int×Int)}{k:Nat}(h:f ρ s=some (.lst (l.map Zv),s))(hg:g ρ s=some (nD k,s)):UU f (U4 g) BQ ρ s=some (.lst ((l.drop k).map Zv),s):=by
 rw[ZeC h (ZgW hg) rfl,Zpy,List.map_drop]
theorem ZfB {f:Zb->M D}{ρ:Zb}{s:Pn}{l:List (Int×Int)}(h:f ρ s=some (.lst (l.map Zv),s)):ZA Z3 (Zc f Ze) ρ s=some (nD l.length,s):=by
 refine Yj (Zg h rfl) ?_;show some (D.int _)=some (D.int _);rw[qd]
theorem ZmF {f:Zb->M D}{fe:Zb->M D}{ρ:Zb}{s:Pn}{l:List (Int×Int)}(c:Int×Int->D)(h:f ρ s=some (.lst (l.map Zv),s))(hl:l.length<=1000)(he:∀p∈l,fe [some (.int p.1),some (.int p.2)] s=some (c p,s)):ZY [none,none] (ZX f) (VE 0 1) Z2 fe ρ s=some (.lst (l.map c),s):=by
 have hc:=YW (src:=[none,none]) (fi:=ZX f) (τ:=VE 0 1) (ft:=Z2) (fe:=fe) (ρ:=ρ) (s:=s) (ds:=l.map Zv) (fun d=>match d with | .tup [a,b]=>[some a,some b] | _=>[]) (fun _=>true) (fun d=>match d with | .tup [.int a,.int b]=>c (a,b) | _=>.non) (XI h) (by rw[qd,Yv];omega) fun d hd=>by
  obtain⟨p,hp,rfl⟩:=qy.mp hd;exact⟨rfl,rfl,fun _=>he p hp⟩
 rw[zU.mpr fun _ _=>rfl,qG] at hc;exact hc
theorem ZnT {a b:List (Int×Int)}(h:a.length+b.length<=1000):Yp (.lst (a.map Zv)) (.lst (b.map Zv))=some (.lst ((a++b).map Zv)):=by
 rw[ZiT (by rw[qd,qd];omega),zD]
theorem leN (a b:Nat):WM (nD a) (nD b)=some (.bl (decide (a<=b))):=by
 show some (D.bl (decide _))=_;congr 2;exact decide_eq_decide.mpr (by omega)
noncomputable def Wx (l:List (Int×Int))(ps:List Nat):List (Int×Int):=ps.map fun i=>l.getD i (0,0)
theorem ZbP (l:List (Int×Int))(ps:List Nat):(Wx l ps).length=ps.length:=by unfold Wx;rw[qd]
theorem ZgX {l:List (Int×Int)}{ps:List Nat}{i:Nat}(h:i<ps.length):(Wx l ps).getD i (0,0)=l.getD (ps.getD i 0) (0,0):=by
 unfold Wx;rw[qf,qD,qf (l:=ps),qm h];rfl
theorem Zi5 {l:List (Int×Int)}{ps:List Nat}(nd:ps.Nodup)(hp:∀o∈ps,o<l.length):Z5 (Wx l ps)=Y5 (Z5 l) ps:=by
 show(YQ (Wx l ps).length).filter _=(YQ ps.length).filter _;rw[ZbP];refine qat fun p hpm=>?_;have hpp:=Wo.mp hpm;have g1:p.1<ps.length:=by omega
 have m1:ps.getD p.1 0∈ps:=by rw[qf,qm g1];exact zu _
 have m2:ps.getD p.2 0∈ps:=by rw[qf,qm hpp.2];exact zu _
 have ne:ps.getD p.1 0≠ps.getD p.2 0:=by
  rw[qf,qf,qm g1,qm hpp.2];exact zw.mp nd p.1 p.2 g1 hpp.2 hpp.1
 rw[ZcN ne (hp _ m1) (hp _ m2),ZgX g1,ZgX hpp.2]
theorem Zkw {l:List (Int×Int)}{ps:List Nat}(hg:Gd l)(hp:∀o∈ps,o<l.length):Gd (Wx l ps):=fun p h=>by
 obtain⟨i,hi,rfl⟩:=qy.mp h;exact hg _ (Zb8 (hp i hi))
theorem ZmG {l:List (Int×Int)}{f:Int×Int->Int×Int}(h:∀p q,Wj (f p) (f q)=Wj p q):Z5 (l.map f)=Z5 l:=by
 show(YQ (l.map f).length).filter _=(YQ l.length).filter _;rw[qd];refine qat fun p hpm=>?_;have hpp:=Wo.mp hpm;have g:∀i,i<l.length->(l.map f).getD i (0,0)=f (l.getD i (0,0)):=fun i hi=>by
  rw[qf,qD,qf,qm hi];rfl
 rw[g _ (by omega),g _ hpp.2,h]
theorem Zh8 {n k:Nat}(h:k<n):Z7 n (fun x=>!decide (x=k))=qp k++(qp (n-(k+1))).map fun x=>k+1+x:=by
 have e:n=k+((n-(k+1))+1):=by omega
 generalize n-(k+1)=r at e;subst e;unfold Z7;rw[List.range_add,qaR,yN,zb,qG,ym (by simp)];congr 1
 ·refine zU.mpr fun x hx=>?_
  have:=qB.mp hx;rw[decide_eq_false (by omega)];rfl
 ·rw[zU.mpr]
  ·refine zt fun x _=>?_
   show k+(x+1)=k+1+x;omega
  ·intro x hx
   obtain⟨y,_,rfl⟩:=qy.mp hx;show(!decide (k+(y+1)=k))=true;rw[decide_eq_false (by omega)];rfl
theorem Zkx {l:List (Int×Int)}{k:Nat}(h:k<l.length):Wx l (Z7 l.length fun x=>!decide (x=k))=l.take k++l.drop (k+1):=by
 rw[Zh8 h];unfold Wx;rw[zD,qG];congr 1
 ·refine qbe (by rw[qd,qJ,zE];omega) fun i h1 h2=>?_
  rw[qd,qJ] at h1;rw[qbi,List.getElem_range,List.getElem_take,qf,qm (by omega)];rfl
 ·refine qbe (by rw[qd,qJ,yQ]) fun i h1 h2=>?_
  rw[qd,qJ] at h1;rw[qbi,List.getElem_range,List.getElem_drop];show l.getD (k+1+i) (0,0)=_;rw[qf,qm (by omega)];rfl
theorem Zpz (l:List (Int×Int)):YT (.lst (l.map Zv)) (.lst [])=some (.bl (!decide (l=[]))):=by
 have hp:Yw (l.map Zv)=true/\Xl (l.map Zv)<=10:=by
  induction l with
  | nil=>exact⟨rfl,qbB rfl⟩
  | cons a l ih=>
   refine⟨?_,?_⟩
   ·show(Zq (Zv a)&&Yw (l.map Zv))=true
    rw[ih.1];rfl
   ·show max (Yg (Zv a)) (Xl (l.map Zv))<=10
    exact Nat.max_le.mpr ⟨qbB rfl,ih.2⟩
 rw[Zkk _ hp.1 hp.2];congr 3;exact decide_eq_decide.mpr qbO
theorem ZpA {l:List (Int×Int)}(hl:l.length<=24){hs:List Nat}(R:RightH l.length (Z5 l) hs)(h:∀y<l.length,hs.getD y 0<mo l):XB l.length (Z5 l)=mo l:=by
 refine y9 ?_ (Zco (JN l) hl);have:=Zkl (n:=l.length) (jK:=Z5 l) (fun y=>hs.getD y 0) (qp (mo l)) (fun a b hab hb ht=>R.ri a (by omega) b hb (by omega) ht) fun i hi=>qB.mpr (h i hi)
 rwa[qJ] at this
end PC
end TQ
namespace K52
open L2 TF TQ TS
open TP
open TP2
open TP3
open PC
theorem many_eq {f:Zb->M D}{ρ:Zb}{s:Pn}{l:List (Int×Int)}(h:f ρ s=some (.lst (l.map Zv),s))(hl:l.length<=24)(hg:Gd l):Zd Zj (Zo UF (Zc f Ze)) (dC (.int 0)) ρ s=some (nD (mo l),s):=PC.many_eq h hl hg
noncomputable abbrev faD:List D:=[.int 0,.int (-5),.int 100000000000000000000000000000000000000000000000000000000000,.int (-10000000000000000000000000000000000000000000000000000000000)]
theorem ZpB {ρ:Zb}{s:Pn}:YX (Zc (dC (.int 0)) (Zc (dC (.int (-5))) (Zc (Zd W6 (dC (.int 10)) (dC (.int 59))) (Zc (dNeg (Zd W6 (dC (.int 10)) (dC (.int 58)))) Ze)))) ρ s=some (.lst faD,s):=
 Uq (ds:=faD) rfl (by show 4<=sizeLine;decide)
theorem Zky {f:Zb->M D}{fe:Zb->M D}{ρ:Zb}{s:Pn}{l:List (Int×Int)}{a b:Nat}{u v:Option D}(c:Int×Int->D)(hb:X7 [none,none,some a,some b] ρ=[none,none,u,v])(h:f ρ s=some (.lst (l.map Zv),s))(hl:l.length<=1000)(he:∀p∈l,fe [some (.int p.1),some (.int p.2),u,v] s=some (c p,s)):ZY [none,none,some a,some b] (ZX f) (VE 0 1) Z2 fe ρ s=some (.lst (l.map c),s):=by
 have hc:=YW (src:=[none,none,some a,some b]) (fi:=ZX f) (τ:=VE 0 1) (ft:=Z2) (fe:=fe) (ρ:=ρ) (s:=s) (ds:=l.map Zv) (fun d=>match d with | .tup [a,b]=>[some a,some b,u,v] | _=>[]) (fun _=>true) (fun d=>match d with | .tup [.int a,.int b]=>c (a,b) | _=>.non) (XI h) (by rw[qd,Yv];omega) fun d hd=>by
  obtain⟨p,hp,rfl⟩:=qy.mp hd;exact⟨by rw[hb];rfl,rfl,fun _=>he p hp⟩
 rw[zU.mpr fun _ _=>rfl,qG] at hc;exact hc
noncomputable def B9 (w:Nat)(on:Int)(p:Int×Int):Int×Int:=((w:Int)*p.1+on,(w:Int)*p.2+on)
noncomputable def Ug (p:Int×Int):Int×Int:=(0-p.2,0-p.1)
theorem Zh9 {w:Nat}(hw:0<w)(on a b:Int):(w:Int)*a+on<(w:Int)*b+on↔a<b:=by
 have h:=Int.mul_lt_mul_left (a:=(w:Int)) (b:=a) (c:=b) (by omega);rw[<-h];omega
theorem ZmH {w:Nat}(hw:0<w)(on:Int)(p q:Int×Int):Wj (B9 w on p) (B9 w on q)=Wj p q:=by
 rw[zo,UP,UP];exact and_congr (Zh9 hw on _ _) (Zh9 hw on _ _)
theorem ZmI (p q:Int×Int):Wj (Ug p) (Ug q)=Wj p q:=by
 rw[zo,UP,UP];show 0-p.2<0-q.1/\0-q.2<0-p.1↔_;omega
theorem mulP {w:Nat}(hw:w<=100)(a:Int):W5 (nD w) (.int a)=some (.int ((w:Int)*a)):=by
 show(if U2 (w:Int) a=true then some (D.int ((w:Int)*a)) else none)=_;rw[if_pos (by unfold U2;simp;left;omega)]
theorem leN' (a b:Nat):WM (.int ((a:Int)-1)) (nD b)=some (.bl (decide (a<=b+1))):=by
 show some (D.bl (decide _))=_;congr 2;exact decide_eq_decide.mpr (by omega)
set_option maxHeartbeats 4000000 in
theorem ZmJ (m:Int)(w:List Int):∃s',Zl3 (none::some .pen::qz 13 none) ([m,0],w)=some (.rt (.bl true),s'):=by
 have ok0:Xs 0 ([m,0],w):=⟨m,0,rfl,by omega,by omega⟩;suffices hh:Ok (Zl3 (none::some .pen::qz 13 none)) ([m,0],w) fun o s'=>o=.rt (.bl true) by
  obtain⟨o,s',e,rfl⟩:=hh;exact⟨s',e⟩
 refine Ok.seq (.sfor (fun i ρ s'=>Xs (i*3000) s'/\∃o2 o3 o4 o5 o6 o7 o8 o9 o10 o11 o12 o13 o14,ρ=[none,some .pen,o2,o3,o4,o5,o6,o7,o8,o9,o10,o11,o12,o13,o14]) (.eq (Vf (n:=3) rfl (by omega)) ⟨⟨ok0.mono (by omega),none,none,none,none,none,none,none,none,none,none,none,none,none,rfl⟩,fun i d ρ s' hd hI=>?_,fun ρ' s' hI=>?_⟩))
 ·obtain⟨ok1,o2,o3,o4,o5,o6,o7,o8,o9,o10,o11,o12,o13,o14,rfl⟩:=hI
  obtain⟨hi,rfl⟩:=Zcd hd;refine⟨_,rfl,?_⟩;obtain⟨pd,s4,e4,ok4,fa,l,_,rfl,hl,hP⟩:=Zh5 (m:=4) (faD:=faD) (R:=fun _=>True) rfl (by omega) (by omega) (fun d hd=>by
   simp only[faD,qu,yo,or_false] at hd;rcases hd with rfl | rfl | rfl | rfl
   all_goals exact⟨_,rfl,trivial⟩) ok1 (by omega)
  have hg:Gd l:=fun p hp=>(hP p hp).1;have hwb:=JN l;have htl:=hwb.len (by omega);refine Ok.seq (.sset (.eq (Z0 (Zg rfl (Zg ZpB rfl)) e4) ?_));refine Ok.seq (.sset (.eq (Z0 (Zg rfl rfl) (BJ l (by omega) s4)) ?_));obtain⟨x,hs,hT,hkl,hR,hlt,hun⟩:=Zi4 l (by omega) hg s4;refine Ok.seq (.sunp (.eq (Z0 (Zg rfl rfl) hT) ⟨_,rfl,?_⟩));have hhl:hs.length<=1000:=by rw[hR.len];omega
  refine Ok.seq (.sif (.bor (.eq (a:=false) (Yk (Zr (d:=nD (mo l)) (e:=nD (mo l)) (Zr (e:=.int 0) (Z0 (Zg rfl rfl) (ZgO hwb (by omega) s4)) rfl (V7 _ _)) rfl (by rw[UX];simp))) ?_)));rw[if_neg (by decide)];refine .bor (.bnot (.eq (a:=true) (Yk (Z0 (Zg rfl (Zg rfl rfl)) ((ZgF _ _ (by omega) (Xg l x) (by rw[hkl];exact qZ (BI (Ui hwb (by omega)).1).2 (by omega)) s4).trans (by rw[decide_eq_true (ZbO _ x)])))) ?_));rw[if_neg (by decide)];refine .bnot (.eq (a:=true) (Yk (Z0 (Zg rfl (Zg rfl rfl)) ((Zfw hwb (by omega) (Zey hs).1 (Zey hs).2 (fun ds e=>by
   have:ds=hs.map nD:=by injection e with e;exact e.symm
   rw[this,qd];omega) s4).trans (by rw[hR.hueB hwb])))) ?_)
  rw[if_neg (by decide)];refine .next ?_;refine Ok.seq (.sunp (.tup (.cons (.op (.drawD (m:=99) ok4 (by omega) (Zg rfl (Zg rfl rfl)) (by omega) (by omega) fun n0 s5 hn0 ok5=>.eq (a:=.int 49) rfl ⟨.int ((n0:Int)-49),rfl,.cons (.op (.eq (a:=.int 1) rfl (.drawD (m:=5) ok5 (by omega) (Zg rfl (Zg rfl rfl)) (by omega) (by omega) fun w0 s6 hw0 ok6=>⟨nD (1+w0),rfl,.nil ⟨two_le,_,rfl,?_⟩⟩)))⟩)))));have hA:ZY [none,none,some 10,some 9] (ZX (Za 3)) (VE 0 1) Z2 (Yc (Zc (Zd Yp (Zd W5 (Za 2) (Za 0)) (Za 3)) (Zc (Zd Yp (Zd W5 (Za 2) (Za 1)) (Za 3)) Ze))) [none,some .pen,some (nD i),some (.lst (l.map Zv)),some (ZF l.length (Z5 l)),some (nD (mo l)),some (.int x),some (ZI (Xg l x)),some (ZI hs),some (.int ((n0:Int)-49)),some (nD (1+w0)),o11,o12,o13,o14] s6=some (.lst ((l.map (B9 (1+w0) ((n0:Int)-49))).map Zv),s6):=by
   rw[Zky (u:=some (nD (1+w0))) (v:=some (.int ((n0:Int)-49))) (fun p=>Zv (B9 (1+w0) ((n0:Int)-49) p)) rfl rfl (by omega) fun p _=>WF (Zg (Zr (Zr rfl rfl (mulP (by omega) p.1)) rfl rfl) (Zg (Zr (Zr rfl rfl (mulP (by omega) p.2)) rfl rfl) rfl)) two_le,qG];rfl
  have hB:ZY [none,none] (ZX (Za 3)) (VE 0 1) Z2 (Yc (Zc (Zd W4 (dC (.int 0)) (Za 1)) (Zc (Zd W4 (dC (.int 0)) (Za 0)) Ze))) [none,some .pen,some (nD i),some (.lst (l.map Zv)),some (ZF l.length (Z5 l)),some (nD (mo l)),some (.int x),some (ZI (Xg l x)),some (ZI hs),some (.int ((n0:Int)-49)),some (nD (1+w0)),o11,o12,o13,o14] s6=some (.lst ((l.map Ug).map Zv),s6):=by
   rw[ZmF (fun p=>Zv (Ug p)) rfl (by omega) fun p _=>WF (Zg (Zr rfl rfl rfl) (Zg (Zr rfl rfl rfl) rfl)) two_le,qG];rfl
  refine Ok.seq (.sfor (fun k ρ s'=>s6=s'/\∃o11,ρ=[none,some .pen,some (nD i),some (.lst (l.map Zv)),some (ZF l.length (Z5 l)),some (nD (mo l)),some (.int x),some (ZI (Xg l x)),some (ZI hs),some (.int ((n0:Int)-49)),some (nD (1+w0)),o11,o12,o13,o14]) (.eq (XI (Uq (ds:=[.lst ((l.map (B9 (1+w0) ((n0:Int)-49))).map Zv),.lst ((l.map Ug).map Zv)]) (Zg hA (Zg hB rfl)) two_le)) ⟨⟨rfl,o11,rfl⟩,fun k d ρ s' hd hI=>?_,fun ρ' s' hI=>?_⟩))
  ·obtain⟨rfl,o11,rfl⟩:=hI
   obtain⟨l',rfl,hl',hg',hm'⟩:∃l':List (Int×Int),d=.lst (l'.map Zv)/\l'.length=l.length/\Gd l'/\Z5 l'=Z5 l:=by
    have hdm:=z5 hd;simp only[qu,yo,or_false] at hdm;rcases hdm with rfl | rfl
    ·refine⟨_,rfl,qd ..,fun p hp=>?_,ZmG (ZmH (by omega) _)⟩
     obtain⟨q,hq,rfl⟩:=qy.mp hp;exact(Zh9 (by omega) _ _ _).mpr (hg q hq)
    ·refine⟨_,rfl,qd ..,fun p hp=>?_,ZmG ZmI⟩
     obtain⟨q,hq,rfl⟩:=qy.mp hp;have:=hg q hq;show 0-q.2<0-q.1;omega
   refine⟨_,rfl,?_⟩;refine Ok.seq (.sif (.bor (.eq (a:=false) (Yk (Zr (d:=ZF l.length (Z5 l)) (e:=ZF l.length (Z5 l)) (Z0 (Zg rfl rfl) ((BJ l' (by omega) s6).trans (by rw[hl',hm']))) rfl (Zfs (Zb7 _ _) (qZ (ZeX _ _) (by omega))))) ?_)));rw[if_neg (by decide)];refine .eq (a:=false) (Yk (Zr (d:=nD (mo l)) (e:=nD (mo l)) ((many_eq (l:=l') rfl (by omega) hg').trans (by unfold mo;rw[hl',hm'])) rfl (by rw[UX];simp))) ?_;rw[if_neg (by decide)];exact .next (.next ⟨_,rfl,rfl,_,rfl⟩)
  obtain⟨rfl,o11,rfl⟩:=hI;have eo:ZA Z3 (Zc (Za 3) Ze) [none,some .pen,some (nD i),some (.lst (l.map Zv)),some (ZF l.length (Z5 l)),some (nD (mo l)),some (.int x),some (ZI (Xg l x)),some (ZI hs),some (.int ((n0:Int)-49)),some (nD (1+w0)),o11,o12,o13,o14] s6=some (nD l.length,s6):=ZfB rfl;refine Ok.seq (.sset (.fn (Zg rfl (Zg eo rfl)) ((ZlB ok6 (by omega) (by omega)).mono fun d s7 q=>?_)));obtain⟨ok7,xs,rfl,hpx⟩:=q;obtain⟨ps,rfl,hpp⟩:=ZhX hpx;have hps:(X8 ps).map D.int=ps.map nD:=by unfold X8;rw[qG];rfl
  rw[hps];have nd:ps.Nodup:=hpp.nodup_iff.mpr zZ;have hplt:∀q∈ps,q<l.length:=fun q hq=>qB.mp (hpp.mem_iff.mp hq);have hpl:ps.length=l.length:=by rw[hpp.length_eq,qJ]
  refine Ok.seq (.sif (.eq (a:=false) (Yk (Zr (d:=ZF ps.length (Y5 (Z5 l) ps)) (e:=ZF ps.length (Y5 (Z5 l) ps)) (Z0 (Zg (d:=.lst ((Wx l ps).map Zv)) ?_ rfl) ((BJ (Wx l ps) (by rw[ZbP];omega) s7).trans (by rw[ZbP,Zi5 nd hplt]))) (Z0 (Zg rfl (Zg rfl rfl)) (Zkm l.length (Z5 l) ps (by omega) (by omega) s7)) (Zfs (Zb7 _ _) (qZ (ZeX _ _) (by omega))))) (.next ?_)))
  ·have hc:=YW (src:=[none,some 3]) (fi:=ZX (Za 12)) (τ:=ZD 0) (ft:=Z2) (fe:=Zd Zj (Za 1) (Za 0)) (ρ:=[none,some .pen,some (nD i),some (.lst (l.map Zv)),some (ZF l.length (Z5 l)),some (nD (mo l)),some (.int x),some (ZI (Xg l x)),some (ZI hs),some (.int ((n0:Int)-49)),some (nD (1+w0)),o11,some (.lst (ps.map nD)),o13,o14]) (s:=s7) (ds:=ps.map nD) (fun d=>[some d,some (.lst (l.map Zv))]) (fun _=>true) (fun d=>Zv (l.getD (Yi d) (0,0))) (XI rfl) (by rw[qd,Yv];omega) fun d hd=>by
    obtain⟨q,hq,rfl⟩:=qy.mp hd;exact⟨rfl,rfl,fun _=>Zr rfl rfl (ZmA l q (hplt q hq))⟩
   rw[zU.mpr fun _ _=>rfl,qG] at hc;refine hc.trans ?_;unfold Wx;rw[qG];rfl
  refine Ok.seq (Ok.mono (Q:=fun o s'=>s7=s'/\o=.nx [none,some .pen,some (nD i),some (.lst (l.map Zv)),some (ZF l.length (Z5 l)),some (nD (mo l)),some (.int x),some (ZI (Xg l x)),some (ZI hs),some (.int ((n0:Int)-49)),some (nD (1+w0)),o11,some (.lst (ps.map nD)),o13,o14]) ?_ fun o s q=>?_)
  ·refine .sif (.eq (s':=s7) (a:=false) ((Ze0 (a:=decide (l.length<=8)) (b:=false) (Yk (Zr (d:=nD l.length) (e:=nD 8) (ZfB rfl) rfl (leN _ _))) fun h8=>?_).trans (by rw[Bool.and_false])) (.next ⟨rfl,rfl⟩))
   have h8:=of_decide_eq_true h8;have hf:=ZnO hwb h8 s7;rw[ZpA (by omega) hR hlt] at hf;exact Yk (Zr (d:=nD (mo l)) (e:=nD (mo l)) (Zr (e:=.int 0) (Z0 (Zg rfl rfl) hf) rfl (V7 _ _)) rfl (by rw[UX];simp))
  obtain⟨rfl,rfl⟩:=q;refine Ok.seq (.sif (.eq (a:=!decide (l=[])) (Yk (Zr (d:=.lst (l.map Zv)) (e:=.lst []) rfl rfl (Zpz l))) ?_));by_cases hne:l=[]
  ·rw[decide_eq_true hne,if_neg (by decide)]
   exact .next (.next ⟨_,rfl,ok7.mono (by omega),_,_,_,_,_,_,_,_,_,_,_,_,_,rfl⟩)
  ·rw[decide_eq_false hne,if_pos (by decide)]
   have hpos:0<l.length:=by
    cases l with
    | nil=>exact absurd rfl hne
    | cons a r=>exact Nat.succ_pos _
   refine Ok.seq (.sset (.drawD (m:=l.length) ok7 (by omega) (Zg rfl (Zg (ZfB rfl) rfl)) hpos (by omega) fun k s8 hk ok8=>?_));have htd:=Zkx hk;have hsl:∀o∈Z7 l.length (fun x=>!decide (x=k)),o<l.length:=fun o ho=>(WX.mp ho).1;have hsn:(Z7 l.length fun x=>!decide (x=k)).Nodup:=VZ (Jw _ _);have hsle:=Zi0 l.length fun x=>!decide (x=k);have hgp:=Zkw hg hsl;have hmp:=Zi5 hsn hsl;refine Ok.seq (.sset (.eq (a:=.lst ((Wx l (Z7 l.length fun x=>!decide (x=k))).map Zv)) ((Zr (ZnR (l:=l) (k:=k) rfl rfl) (ZnS (l:=l) (k:=k+1) rfl (Zr (d:=nD k) (e:=.int 1) rfl rfl rfl)) (ZnT (by rw[zE,yQ];omega))).trans (by rw[htd])) ?_));have hpw:=Zmv hwb (show l.length<=24 by omega) hk;generalize hL:Wx l (Z7 l.length fun x=>!decide (x=k))=lk at hgp hmp htd;have hlk:lk.length=(Z7 l.length fun x=>!decide (x=k)).length:=by rw[<-hL,ZbP]
   refine Ok.seq (.sif (.eq (a:=false) (Yk (Zr (d:=ZF (Z7 l.length fun x=>!decide (x=k)).length (Y5 (Z5 l) (Z7 l.length fun x=>!decide (x=k)))) (e:=ZF (Z7 l.length fun x=>!decide (x=k)).length (Y5 (Z5 l) (Z7 l.length fun x=>!decide (x=k)))) (Z0 (Zg rfl rfl) ((BJ lk (by omega) s8).trans (by rw[hmp,hlk]))) (Z0 (Zg rfl (Zg (d:=.lst ((Z7 l.length fun x=>!decide (x=k)).map nD)) ?_ rfl)) (Zmq l.length (Z5 l) _ (by omega) (by omega) s8)) (Zfs (Zb7 _ _) (qZ (ZeX _ _) (by omega))))) (.next ?_)))
   ·have hc:=YW (src:=[none,some 13]) (fi:=YO (ZA Z3 (Zc (Za 3) Ze))) (τ:=ZD 0) (ft:=asB (Zd YT (Za 0) (Za 1))) (fe:=Za 0) (ρ:=[none,some .pen,some (nD i),some (.lst (l.map Zv)),some (ZF l.length (Z5 l)),some (nD (mo l)),some (.int x),some (ZI (Xg l x)),some (ZI hs),some (.int ((n0:Int)-49)),some (nD (1+w0)),o11,some (.lst (ps.map nD)),some (nD k),some (.lst (lk.map Zv))]) (s:=s8) (ds:=Ye 0 l.length) (fun d=>[some d,some (nD k)]) (fun d=>!decide (Yi d=k)) (fun d=>d) (Vf (n:=l.length) (ZfB rfl) (by omega)) (by rw[WB,Yv];omega) fun d hd=>by
     obtain⟨q,hq,rfl⟩:=UI hd;exact⟨rfl,Yk (Zr (d:=nD q) (e:=nD k) rfl rfl (UX q k)),fun _=>rfl⟩
    rw[Zau l.length fun q=>!decide (q=k)] at hc;exact hc
   have hmo:mo lk=om (Z7 l.length fun x=>!decide (x=k)).length (Y5 (Z5 l) (Z7 l.length fun x=>!decide (x=k))):=by unfold mo;rw[hlk,hmp]
   have hpq:mo l=mo lk∨mo l=mo lk+1:=by
    rcases hpw.1 with e | e
    ·exact .inl (by rw[hmo];exact e)
    ·exact .inr (by rw[hmo];exact e)
   clear hpw hmo;refine Ok.seq (.sif (.bnot (.eq (s':=s8) (a:=true) (ZjE (d:=.int (((mo l:Nat):Int)-1)) (Zr (d:=nD (mo l)) (e:=.int 1) rfl rfl rfl) ((Zlk (e:=nD (mo lk)) (k:=true) (b:=true) (many_eq (l:=lk) rfl (by omega) hgp) ?_ fun _=>Zlj (e:=nD (mo l)) rfl ?_).trans rfl)) ?_)))
   ·rw[leN',decide_eq_true (by rcases hpq with e | e <;> omega)]
   ·rw[leN,decide_eq_true (by rcases hpq with e | e <;> omega)]
   rw[if_neg (by decide)];exact .next (.next (.next ⟨_,rfl,ok8.mono (by omega),_,_,_,_,_,_,_,_,_,_,_,_,_,rfl⟩))
 ·obtain⟨ok,o2,o3,o4,o5,o6,o7,o8,o9,o10,o11,o12,o13,o14,rfl⟩:=hI
  exact Ok.seq (.sret (.eq rfl rfl))
end K52
namespace K52
open L2 TF TQ
open TP
open TP2
open TP3
set_option maxHeartbeats 4000000 in
theorem ZpC {P:Program}{w:World}{K:qk}{mg:Str->Option Value}{base:Heap}{j8 a_p:Addr}{jO fd_p:FuncData}{L:List (Addr×Str)}(lo:Wm L)(F:Fun K "law" "law" s_law j8 jO)(T:Txt mg)(FP:FnOk P w K mg base ZQ 1 a_p fd_p ["script"] (Zod K))(hmp:mg "_law_tpen" = some (.ref a_p))(hkp:z0 K (.ref a_p)=true)(hbp:XV K fd_p ["script"] [])(jM:ZJ P w K mg base 1 "_law_tdraw" 2 true (Wc XC L) Z9)(kf:ZJ P w K mg base 2 "_law_torder" 2 true (Wc XC L) VA)(kd:ZJ P w K mg base 2 "_law_tpieces" 2 true (Wc XC L) Zae)(kg:ZJ P w K mg base 56 "fewest_hues" 1 true (Yy L) Ba)(kj:ZJ P w K mg base 3 "is_hueing" 2 false ZS Be)(kD:ZJ P w K mg base 3 "is_knot" 2 false ZS Bl)(kG:ZJ P w K mg base 55 "most" 1 true (Yy L) Ur)(kM:ZJ P w K mg base 7 "moved" 2 false (Yy L) By)(kP:ZJ P w K mg base 7 "part" 2 false (Yy L) BH)(jZ:ZJ P w K mg base 7 "pieces_told" 1 false (Yy L) UF)(jP:ZJ P w K mg base 6 "web_of_pieces" 1 false ZS Vc) :
  FnOk P w K mg base ZQ 57 j8 jO ["script"] (ZhF K L):=by
 have nd:=ZhS.nd;refine F.ok ZhS (fun vs H Q E h=>?_) fun cdv A outer s0 H vs Q E hr h=>?_
 ·obtain⟨a,ns,rfl,_⟩:=h
  rfl
 ·obtain⟨a,ns,rfl,sq,hl,hTb,hQ⟩:=h
  refine⟨_,WU (Um (i:=1) nd rfl (qO rfl) (ZeI (FP.mono (by decide)) hr rfl hmp hkp hbp .nil Zim (YS (pv 0) Y8))) (Zln (GG:=(Wc XC L)) fun G hG=>ZnC lo T hr jM kf kd kg kj kD kG kM kP jZ jP G hG),?_⟩;refine⟨.ref a,rfl,a,ns,rfl,sq,hl,fun p wa m H' st kp hp hw=>?_⟩;obtain⟨s',hs'⟩:=ZmJ m (Vh ns);exact ZjW (n:=13) st hTb kp hp hw hQ hs'
noncomputable def Zot:List DRow:=[dR "is_whole" 1 189 2 1 15 193 true "tiefold.things" 187,
 dR "is_tuple_of" 2 196 4 2 22 201 true "tiefold.things" 187,
 dR "rises" 3 204 6 1 29 207 false "tiefold.things" 187,
 dR "pairs_of" 4 210 8 1 34 217 true "tiefold.things" 187,
 dR "is_place" 6 222 15 2 41 227 true "tiefold.webs" 220,
 dR "near" 7 230 17 2 48 233 false "tiefold.webs" 220,
 dR "all_near" 8 236 19 1 53 239 false "tiefold.webs" 220,
 dR "are_tied" 9 242 22 3 58 248 true "tiefold.webs" 220,
 dR "marked_ties" 10 251 24 1 65 254 false "tiefold.webs" 220,
 dR "turned" 11 257 26 1 70 262 true "tiefold.webs" 220,
 dR "part" 12 265 29 2 77 270 true "tiefold.webs" 220,
 dR "moved" 13 273 31 2 84 278 true "tiefold.webs" 220,
 dR "numbered_anew" 14 281 33 2 91 287 true "tiefold.webs" 220,
 dR "web_where" 15 290 36 2 98 293 false "tiefold.webs" 220,
 dR "most" 17 298 40 1 103 303 true "tiefold.most" 296,
 dR "heaviest_knot" 18 306 43 2 110 309 false "tiefold.most" 296,
 dR "heaviest_among" 19 312 46 3 115 315 false "tiefold.most" 296,
 dR "apart_among" 20 318 58 3 120 321 false "tiefold.most" 296,
 dR "heaviest_with" 21 324 60 4 125 327 false "tiefold.most" 296,
 dR "weighed" 22 330 63 2 130 333 false "tiefold.most" 296,
 dR "is_hueing" 24 338 66 2 135 341 false "tiefold.hues" 336,
 dR "hued_along" 25 344 72 2 140 347 false "tiefold.hues" 336,
 dR "least_free" 26 350 78 1 145 353 false "tiefold.hues" 336,
 dR "fewest_hues" 27 356 80 1 150 363 true "tiefold.hues" 336,
 dR "hued_on" 28 366 88 3 157 369 false "tiefold.hues" 336,
 dR "web_of_pieces" 30 374 100 1 162 378 true "tiefold.pieces" 372,
 dR "do_meet" 31 381 102 2 169 386 true "tiefold.pieces" 372,
 dR "pieces_told" 32 389 104 1 176 392 false "tiefold.pieces" 372,
 dR "lying_at" 33 395 110 2 181 398 false "tiefold.pieces" 372,
 dR "is_knot" 35 403 113 2 186 406 false "tiefold.knots" 401,
 dR "_law_tpen" 37 411 121 1 191 414 false "law_tiefold_k52_whole_pieces_moved" 409,
 dR "_law_tdraw" 38 417 126 2 196 425 true "law_tiefold_k52_whole_pieces_moved" 409,
 dR "_law_torder" 39 428 137 2 203 431 false "law_tiefold_k52_whole_pieces_moved" 409,
 dR "_law_tpieces" 40 434 140 2 208 446 true "law_tiefold_k52_whole_pieces_moved" 409,
 dR "law" 41 449 152 1 215 452 false "law_tiefold_k52_whole_pieces_moved" 409]
noncomputable def KF (P:Params):qk:=ZpY Z1 181 ([dE P "__name__" 165 (.str "law_tiefold_k52_whole_pieces_moved" 409)] ++ [dE P "__doc__" 166 (.none)] ++ [dE P "__package__" 167 (.none)] ++ [dE P "__loader__" 168 (.builtin "__main__.__loader__#opaque")] ++ [dE P "__spec__" 169 (.none)]++dRs P [nE "__annotations__" 170 6,nE "__builtins__" 171 4] ++ [dE P "__file__" 173 (.str "/claim/cut.py" 172)] ++ [dE P "__cached__" 174 (.none)]++dRs P [nE "is_whole" 195 21,nE "is_tuple_of" 203 28,nE "rises" 209 33,nE "pairs_of" 219 40,nE "is_place" 229 47,nE "near" 235 52,nE "all_near" 241 57,nE "are_tied" 250 64,nE "marked_ties" 256 69,nE "turned" 264 76,nE "part" 272 83,nE "moved" 280 90,nE "numbered_anew" 289 97,nE "web_where" 295 102,nE "most" 305 109,nE "heaviest_knot" 311 114,nE "heaviest_among" 317 119,nE "apart_among" 323 124,nE "heaviest_with" 329 129,nE "weighed" 335 134,nE "is_hueing" 343 139,nE "hued_along" 349 144,nE "least_free" 355 149,nE "fewest_hues" 365 156,nE "hued_on" 371 161,nE "web_of_pieces" 380 168,nE "do_meet" 388 175,nE "pieces_told" 394 180,nE "lying_at" 400 185,nE "is_knot" 408 190,nE "_law_tpen" 416 195,nE "_law_tdraw" 427 202,nE "_law_torder" 433 207,nE "_law_tpieces" 448 214,nE "law" 454 219]) 44 Zot
noncomputable def asF:List Addr:=[3,20,21,27,28,32,33,39,40,46,47,51,52,56,57,63,64,68,69,75,76,82,83,89,90,96,97,101,102,108,109,113,114,118,119,123,124,128,129,133,134,138,139,143,144,148,149,155,156,160,161,167,168,174,175,179,180,184,185,189,190,194,195,201,202,206,207,213,214,218,219]
theorem eF:∀P,asF=(KF P).map (·.1):=fun _=>by kernel_rfl
theorem okF (P:Params):Zfn (KF P) Z1 Zot:=by
 repeat refine⟨⟨by kernel_rfl,by kernel_rfl,by kernel_rfl⟩,?_⟩
 exact trivial
noncomputable abbrev LF:List (Addr×Str):=[(71,(qE "turned.<locals>.<lambda>")),(92,(qE "numbered_anew.<locals>.<lambda>")),(177,(qE "pieces_told.<locals>.<lambda>"))]
set_option maxHeartbeats 4000000 in
theorem ZpD {P:Program}{w:World}{h:Heap}{mg:Str->Option Value}{fa:Addr}(X:(KF w.params).In h)(G:h.Ns mainGlobals mg)(hfa:mg "law" = some (.ref fa)) :
  ∃fd:FuncData,(∀(s:Shared) (v:Value),BindsTo s fd ⟨[v],[]⟩ [("script",v)])/\∀base:Heap,(KF w.params).In base->base.Ns mainGlobals mg->zL base 75 71->zL base 96 92->zL base 179 177->UC mg base->FnOk P w (KF w.params) mg base ZQ 57 fa fd ["script"] (ZhF (KF w.params) LF):=by
 have lo:Wm LF:=TF.lok_nd (by decide);have zn:∀x,qbg (KF w.params) mainGlobals x=some none->mg x=none:=fun _ z=>PySem.W.mg_none_of X G z;have T:Txt mg:=⟨zn _ (by kernel_rfl),zn _ (by kernel_rfl),zn _ (by kernel_rfl),zn _ (by kernel_rfl),zn _ (by kernel_rfl),zn _ (by kernel_rfl),zn _ (by kernel_rfl),zn _ (by kernel_rfl),zn _ (by kernel_rfl),zn _ (by kernel_rfl),zn _ (by kernel_rfl),zn _ (by kernel_rfl),zn _ (by kernel_rfl)⟩;have mk:=@mkc P w (KF w.params) mg;have at_:=fun j {r} e=>@Zpl _ h mg _ _ (okF w.params) X G j r e;obtain⟨f1,_,F1,m1,_⟩:=at_ 31 rfl;obtain⟨f2,_,F2,m2,_⟩:=at_ 32 rfl;obtain⟨f3,_,F3,m3,_⟩:=at_ 33 rfl;obtain⟨f4,_,F4,m4,_⟩:=at_ 8 rfl;obtain⟨f5,_,F5,m5,_⟩:=at_ 7 rfl;obtain⟨f6,_,F6,m6,_⟩:=at_ 5 rfl;obtain⟨f7,_,F7,m7,_⟩:=at_ 6 rfl;obtain⟨f8,_,F8,m8,_⟩:=at_ 24 rfl;obtain⟨f9,_,F9,m9,_⟩:=at_ 17 rfl;obtain⟨f10,_,F10,m10,_⟩:=at_ 19 rfl;obtain⟨f11,_,F11,m11,_⟩:=at_ 18 rfl;obtain⟨f12,_,F12,m12,_⟩:=at_ 16 rfl;obtain⟨f13,_,F13,m13,_⟩:=at_ 3 rfl;obtain⟨f14,_,F14,m14,_⟩:=at_ 13 rfl;obtain⟨f15,_,F15,m15,e15⟩:=at_ 9 rfl;obtain⟨f16,_,F16,m16,_⟩:=at_ 15 rfl;obtain⟨f17,_,F17,m17,_⟩:=at_ 14 rfl;obtain⟨f18,_,F18,m18,_⟩:=at_ 23 rfl;obtain⟨f19,_,F19,m19,_⟩:=at_ 0 rfl;obtain⟨f20,_,F20,m20,_⟩:=at_ 4 rfl;obtain⟨f21,_,F21,m21,_⟩:=at_ 1 rfl;obtain⟨f22,_,F22,m22,_⟩:=at_ 20 rfl;obtain⟨f23,_,F23,m23,_⟩:=at_ 2 rfl;obtain⟨f24,_,F24,m24,_⟩:=at_ 29 rfl;obtain⟨f25,_,F25,m25,e25⟩:=at_ 12 rfl;obtain⟨f26,_,F26,m26,_⟩:=at_ 11 rfl;obtain⟨f27,_,F27,m27,_⟩:=at_ 10 rfl;obtain⟨f28,_,F28,m28,_⟩:=at_ 22 rfl;obtain⟨f29,_,F29,m29,_⟩:=at_ 21 rfl;obtain⟨f30,_,F30,m30,_⟩:=at_ 28 rfl;obtain⟨f31,_,F31,m31,_⟩:=at_ 26 rfl;obtain⟨f32,_,F32,m32,_⟩:=at_ 25 rfl;obtain⟨f33,_,F33,m33,e33⟩:=at_ 27 rfl;obtain⟨f34,_,F34,m34,_⟩:=at_ 30 rfl;obtain⟨f35,_,F35,m35,_⟩:=at_ 34 rfl
 cases hfa.symm.trans m35
 have kc:=fun b=>mk b F5 m5 (Zgw F5 T );have kN:=fun b=>mk b F13 m13 (Zgv F13 T );have kT:Ud P w (KF w.params) mg 5 "web_where" 2 false (VP P w (KF w.params) mg 4 2 Tl) VT:=⟨f14,_,_,fun b=>Zfk F14 T (kN b),m14,F14.kp,B6 ["row","tied"] F14⟩;have kx:=fun b=>mk b F30 m30 (Zgu F30 T );have kW:=fun b=>mk b F31 m31 (Zdp F31 T );have kI:CalG P w (KF w.params) mg 4 "do_meet" 2 Bm:=⟨f31,_,_,_,fun b=>(Zdp F31 T ).mono (by decide),rfl,m31,F31.lk,B6 ["piece","other"] F31⟩;obtain⟨oc,od,kV,doc,pm,an,cdv,ct,osl,rfl,lk,hcd⟩:=F35.ex;refine⟨yd "law" "law" (WW s_law) (Wp s_law) (Zx s_law) .none kV doc pm an cdv ct,fun s v=>.of_eq rfl,fun base _ _ hC15 hC25 hC33 hBm=>?_⟩;have kH:=mk base F1 m1 (ZdY F1 T );have jM:ZJ P w (KF w.params) mg base 1 "_law_tdraw" 2 true (Wc XC LF) Z9:=Zgd kH Zlv;have kQ:=mk base F2 m2 (Zdy F2 T kH);have kf:ZJ P w (KF w.params) mg base 2 "_law_torder" 2 true (Wc XC LF) VA:=Zgd kQ ZjX;have kd:=mk base F3 m3 (Zcu F3 T lo jM);have jQ:=mk base F4 m4 (Zdq F4 T );have kJ:=kc base;have kU:=mk base F6 m6 (Znz F6 T kJ);have j9:=mk base F7 m7 (Zgx F7 T jQ kU);have kX:∀j:Nat,ZJ P w (KF w.params) mg base (0+j) "hued_on" 3 false ZS (V1 j):=by
  intro j
  induction j with
  | zero=>exact ZJ.none m8 F8.kp (B6 ["nears","many","hues"] F8)
  | succ j ih=>exact mk base F8 m8 (ZhQ F8 T (Nat.le_add_right _ _) ih)
 have ko:=(kX 10).mono (k:=11);have kA:=mk base F9 m9 (Zds F9 T );have kC:=mk base F10 m10 (ZhP F10 T );have rr:∀j:Nat,ZJ P w (KF w.params) mg base (1+2*j) "heaviest_among" 3 false ZS (UE j):=by
  intro j
  induction j with
  | zero=>exact ZJ.none m12 F12.kp (B6 ["aparts","weights","places"] F12)
  | succ j ih=>
   have kh:=mk base F11 m11 (Zb1 F11 T (by omega) ih);have z:ZJ P w (KF w.params) mg base (1+2*j+2) "heaviest_among" 3 false ZS (UE (j+1)):=mk base F12 m12 (ZbG F12 T (by omega) kA ih kh kC);exact z.mono (h:=by omega)
 have jU:=(rr 26).mono (k:=53);have kr:=kN base;have jY:=kT;have kO:=mk base F15 m15 (Zj6 F15 T lo jQ jY kc (tP:=71) e15 hC15 hBm (by simp));have km:=mk base F16 m16 (Zb2 F16 T lo j9 jU kO);have kG:=mk base F17 m17 (ZnA F17 T lo km);have kg:=mk base F18 m18 (Zdv F18 T lo j9 ko kG);have kL:=mk base F19 m19 (Zgz F19 T );have ki:=mk base F20 m20 (ZgA F20 T kL);have kB:=mk base F21 m21 (Zdx F21 T );have kj:=mk base F22 m22 (Zfl F22 T ki kB);have kR:=mk base F23 m23 (Zl2 F23 T );have kD:=mk base F24 m24 (ZhR F24 T ki jQ kr kR);have jW:=mk base F25 m25 (Zb0 F25 T lo jQ jY kc (tP:=92) e25 hC25 hBm (by simp));have kM:=mk base F26 m26 (Zl1 F26 T lo jW);have kP:=mk base F27 m27 (ZnB F27 T lo jW);have kE:=mk base F28 m28 (ZdV F28 T );have kF:=mk base F29 m29 (ZdW F29 T j9 kE);have kK:=kx base;have kY:=kW base;have jP:=mk base F32 m32 (ZbZ F32 T jY kI);have jZ:=mk base F33 m33 (Zdr F33 T lo kF kK jP kx (tP:=177) e33 hC33 hBm (by simp));exact ZpC lo F35 T (Zfm F34 T) m34 F34.kp (B6 ["script"] F34) jM kf kd kg kj kD kG kM kP jZ jP
noncomputable def tb:List (Str×Addr×Addr):=[("turned",75,71),("numbered_anew",96,92),("pieces_told",179,177)]
theorem ZpE:∀P q,(P,q)∈LF->∃x c,(x,c,P)∈tb:=by
 intro P q h;simp only[qu,Prod.mk.injEq,yo,or_false] at h;rcases h with⟨rfl,_⟩ | ⟨rfl,_⟩ | ⟨rfl,_⟩
 ·exact⟨"turned",75,by simp[tb]⟩
 ·exact⟨"numbered_anew",96,by simp[tb]⟩
 ·exact⟨"pieces_told",179,by simp[tb]⟩
noncomputable def qF:Program:=PySem.W.view PySem.Challenge.pw_tiefold_k52_whole_pieces_moved [1,2,3,4,6,7,8,9,10,11,12,13,14,15,17,18,19,20,21,22,24,25,26,27,28,30,31,32,33,35,37,38,39,40,41]
theorem walk {loose:List Str}{XP:(Str->Option Value)->Heap->Prop}{YP:World->Heap->Prop}(hY:∀(w:World) (h:Heap),YP w h->(KF w.params).In h) :
  qbK qF loose XP YP PySem.Challenge.rw_tiefold_k52_whole_pieces_moved.row.toRowW (ZhT s_law) [] (fun f vs=>qbG f vs):=
 Zly (K:=KF) (tb:=tb) (n:=63) (k:=57) (x:="script") (CX:=fun _=>ZQ) (sp:=fun w=>ZhF (KF w.params) LF) rfl (by decide) rfl ⟨rfl,by decide,by decide,rfl⟩ hY
  (yh.mpr ⟨zK.mp (by kernel_rfl),yh.mpr ⟨zK.mp (by kernel_rfl),yh.mpr ⟨zK.mp (by kernel_rfl),(fun _ h=>nomatch h)⟩⟩⟩)
  (fun w=>yh.mpr ⟨by kernel_rfl,yh.mpr ⟨by kernel_rfl,yh.mpr ⟨by kernel_rfl,(fun _ h=>nomatch h)⟩⟩⟩) (fun w=>by kernel_rfl)
  (fun w mg fa h h1 h2 h3=>let ⟨fd,hb,hF⟩:=ZpD h1 h2 h3;⟨fd,hb,fun base g1 g2 g3 g4=>hF base g1 g2 (g3 ("turned",75,71) (by simp[tb])) (g3 ("numbered_anew",96,92) (by simp[tb])) (g3 ("pieces_told",179,177) (by simp[tb])) g4⟩)
  (fun _ _ a ns hl hS hTb=>⟨a,ns,rfl,hS,hl,ZhG (tb:=tb) ZpE hTb,fun _=>rfl⟩) fun _ _ _ _ _ z=>z
theorem left:PySem.W.LeftO PySem.Challenge.rw_tiefold_k52_whole_pieces_moved.prog qF [] (fun s=>PySem.W.xlAt qF [] s&&PySem.W.recOk PySem.Challenge.rw_tiefold_k52_whole_pieces_moved.row.records s) (yL KF asF eF).obs (yL KF asF eF).val 2220:=fun w=>by kernel_rfl
theorem said:PySem.Challenge.rw_tiefold_k52_whole_pieces_moved.wellSaid=true:=by kernel_rfl
end K52
open PySem.W
set_option maxRecDepth 100000 in
set_option maxHeartbeats 0 in
theorem PySem.Challenge.cw_tiefold_k52_whole_pieces_moved_holds : PySem.Challenge.rw_tiefold_k52_whole_pieces_moved.Holds := by
 refine TF.head_of (q:=K52.qF) (K:=K52.KF) (st:=K52.s_law) K52.said K52.left (by kernel_rfl) (by kernel_rfl) (by kernel_rfl) (by decide +kernel) ⟨rfl,rfl,rfl,rfl,rfl,by decide +kernel⟩ ?hw rfl (K52.walk fun w h Y=>kIn_of Y)
 case hw=>w_witness2
