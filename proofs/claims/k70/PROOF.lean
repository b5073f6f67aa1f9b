import PyProof.Rows.All
import Wide.All
import OpenK.AllK
import Wide.FinOn
import Lean
import PyProof.EqAt
import PyProof.EqKinds
import PyProof.TupleCall
import KE.KLam
import PyProof.ZipIter
import PyProof.WalksEnum
import PyProof.WalkInts
import PyProof.SeqI3
import PyProof.Rows.SeqMore
import PyProof.Rows.SortWalk
import PyProof.Draws
import PyProof.EnumMake
import PyProof.DictIter
import KE.KSortTup
import PyProof.Rows.SeqMore2
import PyProof.Rows.RuleIs
import PyProof.Rows.SetFrom
import PyProof.WalksMore
import PyProof.MinMaxWalk
import OpenK.KMore
import PyProof.Rows.SortRuns
import PyProof.Rows.SortRunsK
import PySem.Challenge.RW_tiefold_k70_forced_either_way
-- CHANGE: your row's module here,as the last of these rows
open Array renaming getElem?_eq_getElem->qd,getElem?_toList->qy,length_toList->qz,getD_eq_getD_getElem?->qP,toList_append->qZ,mem_toList_iff->ze,toList_push->zf,mem_of_getElem?->zk,getElem?_eq_some_iff->zE,toList_extract->yT,toList_reverse->qao,getElem?_eq_none->qaH,getElem?_setIfInBounds->qbP,perm_iff_toList_perm->qb0,toArray_toList->qcR,toList->qc7
open PySem.Heap renaming get?_push_of_some->qf,get?_push_size->qI,lt_size->qJ,get?_update_self->zY,size_push->zZ,SameBut->yf,get?_update_other->yh,ExtBut->qbp,get?_none_of_le->qcK
open List renaming length_map->qj,range->qp,mem_cons->qq,getElem?_eq_some_iff->qu,replicate->qw,length_cons->qB,getElem?_map->qC,getElem?_eq_getElem->qD,mem_map->qE,length_append->qG,mem_singleton->qH,append_assoc->qK,size_toArray->qL,map_map->qM,getD_eq_getElem?_getD->qN,mem_range->qO,mem_cons_of_mem->qS,pairwise_append->qU,length_take->qV,mem_filter->qW,map_cons->qX,mem_append->qY,getElem?_set_ne->zb,length_range->zc,mem_append_right->zg,take_append_drop->zh,lookup_cons->zm,append_nil->zq,getElem?_set_self->zt,mem_of_getElem?->zu,nodup_cons->zv,getElem?_append_left->zw,filter_cons->zx,mem_cons_self->zB,mem_iff_getElem?->zC,map_congr_left->zD,take_sublist->zF,pairwise_iff_getElem->zI,map_append->zK,getElem?_take_of_lt->zL,flatten_cons->zN,length_eq_zero_iff->zQ,getElem?_drop->zR,length_drop->zS,filter_sublist->zT,pairwise_map->zW,getElem?_eq_none->ya,pairwise_singleton->yd,not_mem_nil->ye,getElem?_append_right->yg,drop_of_length_le->yi,replicate_succ->yk,getElem?_zip_eq_some->ym,extract_eq_take_drop->yn,perm_append_comm->yp,mem_of_mem_take->yu,filterMap_cons->yy,toList_toArray->yz,perm_ext_iff_of_nodup->yE,all_eq_true->yF,take_length->yG,pairwise_cons->yJ,length_filter_le->yN,getElem?_replicate->yV,filter_cons_of_neg->yW,getElem?_range->yX,nodup_range->yZ,range_succ_eq_map->y6,foldl_cons->qae,nil_append->qaf,find?_cons->qag,ext_getElem?->qak,mem_append_left->qal,drop_eq_getElem_cons->qan,toArray->qau,mem_map_of_mem->qax,filter_cons_of_pos->qaz,any_cons->qaB,mem_filterMap->qaD,of_mem_zip->qaE,filter_congr->qaI,length_singleton->qaN,mem_reverse->qaR,mem_of_mem_drop->qaS,forall_mem_cons->qaV,sum_cons->qaY,length_nil->qaZ,filter_map->qa1,Perm->qa7,idxOf_lt_length_iff->qa8,drop_zero->qbd,length->qbn,find?_cons_of_pos->qbr,find?_cons_of_neg->qbs,cons_append->qbw,getElem_mem->qbx,flatMap_map->qby,getD->qbz,map_nil->qbC,foldl->qbD,range_succ->qbG,take_append_of_le_length->qbL,nodup_nil->qbN,map_id->qbQ,find?_eq_none->qbT,length_eraseIdx_of_lt->qb1,nodup_append->qb5,foldl_append->qb7,any_eq_true->qcc,length_erase_of_mem->qcg,map_flatMap->qcj,pairwise_mergeSort->qco,getElem?_cons_succ->qcr,eraseIdx_cons_succ->qcs,take_of_length_le->qcy,pairwise_lt_range->qcz,length_pos_of_mem->qcA,pairwise_reverse->qcC,take_zero->qcE,take_succ->qcH,drop_eq_nil_iff->qcP,mem_erase_of_ne->qcS,filter_eq_self->qcZ,mergeSort_perm->qc0,take_succ_cons->qc1,getElem_of_mem->qc3,findSome?_cons->qc4,filter_flatMap->qc5,Sublist->qdd,lookup->qdg
open PySem.W renaming Frag->qk,kia_one->yb,CodeHd->yt,keepIn->yI,fnOf->yR,kla_fn->yY,envX->qab,kHook->qaC,codeIn->qbb,tabObj->qbc,methodObj->qb2,nsIn->qci,instObj->qcu,cellsFrom_some->qcv,lookIn->qcB,hideAll_size->qcI,hideAll_none->qcJ,WalkO->qcU,hideAll_get->qcY
open Nat renaming le_refl->qm,ne_of_lt->qR,lt_of_lt_of_le->zd,le_trans->zj,zero_le->zy,lt_succ_of_lt->zO,lt_irrefl->yC,lt_trans->qaa,zero_add->qac,lt_succ_self->qat,le_of_lt_succ->qaM,le_add_right->qaT,max_eq_right->qaU,add_assoc->qaX,mod_lt->qbe,le_succ_of_le->qbm,ne_of_gt->qbB,mul_comm->qbF,succ_pos->qbI,max_eq_left->qbJ,min_eq_left->qbK,le_of_lt->qb9,sub_zero->qcd,add_zero->qce,min_eq_right->qck,mul_le_mul->qcD,pow_le_pow_right->qcT,add_comm->qc8,pow_succ->qda,le_total->qdc
open PySem.SetTable renaming below->qA,layClean->zG,turns->yK,sizeAbove->yL,grown->yM,toList_insertAt->qaw,insertAt->qaK,laid->qbt,fits->qcW,has->qdb
open Bool renaming false_eq_true->qQ,and_eq_true->zi,false_ne_true->yH,not_eq_true'->yU,not_true->qaj,eq_iff_iff->qaG,and_eq_true_iff->qaQ,eq_false_iff->qb6
open PySem.Value renaming ref->qT,none->zo,type->yB,bool->yP,int->qct,notImplemented->qcM,str->qc6,isInt->qde
open Or renaming inl->za,inr->qa4
open PySem.F renaming called_set->zl,slot_int_rmul->yS,slot_tuple_mul->y8,args_tuple_add_2->qa2,slot_list_getattribute->qa5,args_tuple_mul_2->qa6,entry_tuple_add->qbg,entry_tuple_mul->qbj,args_int_rmul_2->qbk,slot_tuple_add->qbo,slot_int_index->qbu,entry_int_rmul->qbv,fills_int_mul->qbE,plainAttrs_list->qcl,slot_tuple_rmul->qcn,slot_list_index->qcp,entry_type_call->qcq,typeCall_set_1->qcw,entry_set_init->qcx,plain_set_new->qcF,slot_set_iter->qcG
open Option.some renaming inj->zp,injEq->qb4
open PySem.PassesOwn renaming never->zr
open Ne renaming symm->zH
open PySem.SetTable.layClean renaming free->zJ
open PySem renaming mem_of_lookup->zM,call->qcO,Builtin->qcV
open PyProof.Rows renaming slot_tuple_getitem->zP,callWith_type1->yw
open PySem.Obj renaming mapSeq->zU,mapFields->yD,putSet->qb8
open List.Pairwise renaming nil->zV,imp_of_mem->qa9
open PySem.NameKind renaming free->zX,cell->qaW
open Option renaming map_some->yc,map_eq_some_iff->yj,isSome_iff_exists->yQ,isSome_map->qb3
open Sum renaming inl->yo,inr->qbM
open False renaming elim->yq
open PySem.Around renaming under_plainId->yr,frames_deeper->qcL
open Int renaming le_of_lt->yA,le_refl->yO,emod_nonneg->qai,le_trans->qav,emod_lt_of_pos->qaF,toNat_natCast->qaL,toNat_of_nonneg->qc2
open True renaming intro->y4
open PySem.Str renaming ofString->y9,ofString->qbU
open PyProof.Rows.F renaming plain_set_update_loop->qad,entry_set_update_loop->qba
open ForInStep renaming yield->qah
open PySem.Builtin.Slice renaming slicePlaces->qam,sliceAdjust->qa0,sliceApplied->qbW
open Classical renaming byContradiction->qap
open Iff renaming rfl->qaq
open PySem.AutoSeq1 renaming sub_tuple_tuple->qar,sub_tuple_list->qbh,sub_list_tuple->qbi,sub_list_list->qbq,idx_int->qcb
open PySem.Builtin.Tuple renaming tupleExact->qas,tupleItemsOf->qbX,tupleTooMany->qbY
open PySem.Heap.SameBut renaming update->qay
open PySem.Paired renaming length->qaA
open PySem.SetTable.below renaming go->qaJ
open PySem.Builtin.List renaming listLengthHint->qaO,listTooLong->qa3,listExtendWith->qbS,listSameRef->qcf
open PySem.SeqAt renaming EqAt->qaP,RcNeAt->qca,RcAt->qcQ
open PySem.Builtin.Range renaming rangeSize->qbf
open PySem.SetTable.probe renaming go->qbl
open List.Perm renaming append_left->qbA
open List.cons renaming injEq->qbH,inj->qcX
open PySem.Builtin.Frozenset renaming updateFrom->qbO
open PyProof.Rows.IsTup renaming new->qbR
open PySem.Calls renaming Name_function_global->qbV
open PySem.Shared renaming TypeIs->qbZ
open Nat.succ renaming inj->qch
open PySem.Builtin.Dict renaming updateFrom->qcm
open Prod renaming ext->qcN
open PySem.Expr renaming Call->qc9
open Sum.inl renaming inj->qdf
open PySem PySem.Spec PyProof.Rows
open PySem renaming wpAny_bind→xa,wpAny_pure→xb,wpAny_mono→xc,wpAny→xf,sizeLine→xg,starEach→xh,keywordEach→xi,bootBuiltins→xj,compareOp→xk,wpAny_newObj_type→xl,codeAny_builtin→xm,codeAny→xo,attributeBase→xp,swapsWith→xq,wpAny_seqItems→xr,wpAny_holding→xt,wpAny_call→xu,model→xw,FuncData→xy,Program→xz,Around→xA
abbrev xB:=PySem.Value->PySem.Shared->Prop
set_option maxHeartbeats 8000000
abbrev Qa:=List (Nat×Nat)
abbrev Qb:=List (PySem.Addr×PySem.Obj)
set_option genSizeOfSpec false
set_option bootstrap.genMatcherCode false
local macro_rules|`(tactic|omega)=>`(tactic|first|lia|omega (config:={}))
set_option Elab.async false
set_option linter.all false
set_option maxRecDepth 100000
namespace L2
noncomputable abbrev Zu:=Sum Int Str
noncomputable def U6:Zu->Value->Bool
 | .inl k,v=>qde k v
 | .inr x,v=>Value.isStrOf x v
noncomputable def keyH (w:World):Zu->Int
 | .inl k=>hashInt k
 | .inr x=>hashStr w x
theorem VC:∀{k:Zu} {v:Value},U6 k v=true->(∃i t,k=yo i/\v=qct i t)∨(∃x t,k=qbM x/\v=qc6 x t)
 | .inl i,v,h=>by
  obtain⟨t,e⟩:=Value.isInt_shape (k:=i) (v:=v) h;exact .inl ⟨i,t,rfl,e⟩
 | .inr x,v,h=>by
  obtain⟨t,e⟩:=Value.isStrOf_shape (x:=x) (v:=v) h;exact .inr ⟨x,t,rfl,e⟩
theorem ZhJ (i:Int)(t:Tok):U6 (.inl i) (.int i t)=true:=by simp[U6,qde]
theorem ZhK (x:Str)(t:Tok):U6 (.inr x) (.str x t)=true:=by simp[U6,Value.isStrOf]
theorem Zmj (a b:Int):decide ((yo a:Zu)=yo b)=(a==b):=by
 by_cases e:a=b
 ·subst e;simp
 ·have h:¬(yo a:Zu)=yo b:=λq=>e (qdf q)
  rw[decide_eq_false h];exact(beq_eq_false_iff_ne.mpr e).symm
theorem Zmk (a b:Str):decide ((qbM a:Zu)=qbM b)=decide (a=b):=by
 by_cases e:a=b
 ·subst e;simp
 ·have h:¬(qbM a:Zu)=qbM b:=λq=>e (qbM.inj q)
  rw[decide_eq_false h,decide_eq_false e]
theorem Zml (a:Int)(b:Str):decide ((yo a:Zu)=qbM b)=false:=decide_eq_false (λq=>nomatch q)
theorem Zmm (a:Str)(b:Int):decide ((qbM a:Zu)=yo b)=false:=decide_eq_false (λq=>nomatch q)
noncomputable def Wa (prog:xz)(w:World):PySem.KeyKind prog w Zu where
 is:=U6
 hash:=keyH w
 inj:=λv a b ha hb=>by
  rcases VC ha with⟨i,t,rfl,rfl⟩ | ⟨x,t,rfl,rfl⟩
  ·rcases VC hb with⟨j,u,rfl,e⟩ | ⟨y,u,rfl,e⟩
   ·injection e with e1 _;rw[e1]
   ·exact nomatch e
  ·rcases VC hb with⟨j,u,rfl,e⟩ | ⟨y,u,rfl,e⟩
   ·exact nomatch e
   ·injection e with e1 _;rw[e1]
 byValue:=λk v h=>by
  rcases VC h with⟨i,t,rfl,rfl⟩ | ⟨x,t,rfl,rfl⟩ <;> rfl
 pyHash:=λhv h=>by
  rcases VC hv with⟨i,t,rfl,rfl⟩ | ⟨x,t,rfl,rfl⟩
  ·exact wpAny_pyHash_int h
  ·exact wpAny_pyHash_str h
 eqBool:=λhu hv h=>by
  rcases VC hu with⟨i,t,rfl,rfl⟩ | ⟨x,t,rfl,rfl⟩
  ·rcases VC hv with⟨j,u,rfl,rfl⟩ | ⟨y,u,rfl,rfl⟩
   ·rw[Zmj]at h;exact wpAny_eqBool_int h
   ·rw[Zml]at h;exact qaP.int_str i t y u _ _ _ _ h
  ·rcases VC hv with⟨j,u,rfl,rfl⟩ | ⟨y,u,rfl,rfl⟩
   ·rw[Zmm]at h;exact qaP.str_int x t j u _ _ _ _ h
   ·rw[Zmk]at h;exact wpAny_eqBool_str h
 «strs»:=λk x t v h=>by
  rcases VC h with⟨i,u,rfl,e⟩ | ⟨y,u,rfl,e⟩
  ·exact nomatch e
  ·injection e with e1 _
   subst e1
   cases v <;> rfl
theorem ZeU (prog:xz)(w:World)(i:Int)(t:Tok):(Wa prog w).is (.inl i) (.int i t)=true:=ZhJ i t
theorem ZeV (prog:xz)(w:World)(x:Str)(t:Tok):(Wa prog w).is (.inr x) (.str x t)=true:=ZhK x t
inductive V where
 | non | bl (b:Bool) | int (i:Int) | str (x:Str) | byt (b:Array UInt8) | flt (b:UInt64) | ref (a:Addr) | ty (n:String)
 deriving DecidableEq
noncomputable def ZH:V->Value->Prop
 | .non,u=>u=zo
 | .bl b,u=>u=yP b
 | .int i,u=>∃t,u=qct i t
 | .str x,u=>∃t,u=qc6 x t
 | .byt b,u=>∃t,u=Value.bytes b t
 | .flt b,u=>∃t,u=Value.float b t
 | .ref a,u=>u=qT a
 | .ty n,u=>u=yB n
noncomputable abbrev Zy:List V->List Value->Prop:=Paired ZH
theorem Zy.length {xs:List V}{us:List Value}(r:Zy xs us):xs.length=us.length:=qaA r
theorem Zy.get:∀{xs:List V} {us:List Value} {i:Nat} {x:V},Zy xs us->xs[i]?=some x->∃u,us[i]?=some u/\ZH x u
 | _,_,_,_,.nil,e=>by simp at e
 | _,_,0,_,.cons r _,e=>by simp at e;subst e;exact⟨_,rfl,r⟩
 | _,_,i+1,x,.cons _ t,e=>by
  obtain⟨u,h1,h2⟩:=Zy.get (i:=i) (x:=x) t (by simpa using e);exact⟨u,by simpa using h1,h2⟩
theorem Zy.set {x:V}{u:Value}(r:ZH x u):∀{xs:List V} {us:List Value} (i:Nat),Zy xs us->Zy (xs.set i x) (us.set i u)
 | _,_,_,.nil=>.nil
 | _,_,0,.cons _ t=>.cons r t
 | _,_,i+1,.cons q t=>.cons q (Zy.set r i t)
theorem Zy.append:∀{xs ys:List V} {us ws:List Value},Zy xs us->Zy ys ws->Zy (xs++ys) (us++ws)
 | _,_,_,_,.nil,s=>s
 | _,_,_,_,.cons r t,s=>.cons r (Zy.append t s)
theorem Zy.take:∀{xs:List V} {us:List Value} (n:Nat),Zy xs us->Zy (xs.take n) (us.take n)
 | _,_,0,_=>.nil
 | _,_,_+1,.nil=>.nil
 | _,_,n+1,.cons r t=>.cons r (Zy.take n t)
theorem Zy.drop:∀{xs:List V} {us:List Value} (n:Nat),Zy xs us->Zy (xs.drop n) (us.drop n)
 | _,_,0,r=>r
 | _,_,_+1,.nil=>.nil
 | _,_,n+1,.cons _ t=>Zy.drop n t
noncomputable def UI:Option V->Option Value->Prop
 | some v,some u=>ZH v u
 | none,none=>True
 | _,_=>False
noncomputable def KV {κ:Type}:List (κ×V)->List (κ×Value)->Prop:=Paired λ(p:κ×V) (q:κ×Value)=>p.1=q.1/\ZH p.2 q.2
noncomputable def kV:Zu->V
 | .inl i=>.int i
 | .inr x=>.str x
inductive HO where
 | lst (xs:List V)
 | tup (xs:List V)
 | dK (kvs:List (Zu×V)) | dT (kvs:List (List Zu×V))
 | set (S:Int->Bool) (n:Nat)
 | ins (C dx:Addr) (fs:List (Str×V))
 | own (x:Addr)
 | xd (fs:List (Str×V))
 | met (f x:Addr)
 | rng (lo hi:Int)
 | frz (o:Obj) (u:HO)
 | tbl (ps:Array Value)
 | ext (φ:Heap->Prop)
noncomputable abbrev Hp:=Addr->Option HO
noncomputable def Zl (H:Hp)(a:Addr)(o:HO):Hp:=λb=>if b=a then some o else H b
theorem ZW {H:Hp}{a:Addr}{o:HO}:Zl H a o a=some o:=by unfold Zl;rw[if_pos rfl]
theorem Zx {H:Hp}{a b:Addr}{o:HO}(h:b≠a):Zl H a o b=H b:=by unfold Zl;rw[if_neg h]
theorem Zea {H:Hp}{a:Addr}{o u:HO}:Zl (Zl H a o) a u=Zl H a u:=by
 funext b;unfold Zl;split <;> rfl
theorem ZlV {H:Hp}{a b:Addr}{o u:HO}(h:H a=some o)(h':H b=some u)(d:o≠u):a≠b:=by
 intro e;subst e;rw[h]at h';exact d (zp h')
theorem Yq {H:Hp}{a b:Addr}{o:HO}(h:H a=some o)(h':H b=none):a≠b:=by
 intro e;subst e;rw[h]at h';cases h'
section
variable (P:xz)(w:World)
noncomputable def Yn (H:Hp)(h:Heap)(a:Addr):HO->Prop
 | .lst xs=>xs.length<=xg/\∃(jE:List Value) (n:Nat),Zy xs jE/\h.get? a=some { cls:=.type "list",data:=.seq jE.toArray n }
 | .tup xs=>xs.length<=xg/\∃jE:List Value,Zy xs jE/\IsTup h a jE.toArray
 | .dK kvs=>kvs.length<=xg/\(a==sysModules)=false/\∃vs,KV kvs vs/\h.DictOf (Wa P w) a vs
 | .dT kvs=>kvs.length<=xg/\(a==sysModules)=false/\∃xs:List (List Zu×Addr×Value),
   Paired (λ(p:List Zu×V) (q:List Zu×Addr×Value)=>p.1=q.1/\H q.2.1=some (.tup (p.1.map kV))/\ZH p.2 q.2.2) kvs xs/\
   ∃o es ep,h.get? a=some o/\o.ExactDict/\o.data=.dict es ep/\es.toList=xs.map (entryOfKey (tupleKind (Wa P w)))/\(xs.map (·.1)).Nodup
 | .set S n=>h.SetOf (intKind P w) a S n
 | .ins C dx fs=>H dx=some (.own a)/\fs.length<=1000/\dx≠a/\h.get? a=some (qcu C dx)/\
   ∃mA,h.Ns1 dx mA/\(∀f,UI (fs.lookup f) (mA f))/\PySem.Within mA (fs.map (·.1))
 | .own _=>∃o,h.get? a=some o
 | .xd fs=>∃mA,h.Ns1 a mA/\∀f,UI (fs.lookup f) (mA f)
 | .rng lo hi=>∃t u v,h.get? a=some { cls:=.type "range",data:=.fields #[.int lo t,.int hi u,.int 1 v] }
 | .frz o u=>h.get? a=some o/\Yn H h a u
 | .tbl ps=>h.get? a=some { cls:=.none,data:=.fields ps }
 | .met f x=>h.get? a=some (qb2 (.ref f) (.ref x))
 | .ext φ=>φ h/\(∃o,h.get? a=some o)/\∀h1 h2:Heap,φ h1->(∀o,h1.get? a=some o->h2.get? a=some o)->φ h2
noncomputable def Yi (H:Hp)(h:Heap):Prop:=∀a o,H a=some o->Yn P w H h a o
end
section
variable {P:xz}{w:World}{H H':Hp}{h h':Heap}{a:Addr}{o:HO}
theorem Yn.lt (x:Yn P w H h a o):a<h.objs.size:=by
 cases o with
 | lst xs=>obtain⟨_,_,_,_,e⟩:=x;exact qJ e
 | tup xs=>obtain⟨_,_,_,p⟩:=x;exact p.lt
 | dK kvs=>obtain⟨_,_,_,_,o,_,_,e,_⟩:=x;exact qJ e
 | dT kvs=>obtain⟨_,_,_,_,o,_,_,e,_⟩:=x;exact qJ e
 | set S n=>obtain⟨o,_,_,_,e,_⟩:=x;exact qJ e
 | ins C dx fs=>obtain⟨_,_,_,e,_⟩:=x;exact qJ e
 | own y=>obtain⟨_,e⟩:=x;exact qJ e
 | xd fs=>obtain⟨_,⟨_,_,_,e,_⟩,_⟩:=x;exact qJ e
 | rng lo hi=>obtain⟨_,_,_,e⟩:=x;exact qJ e
 | frz ob u=>obtain⟨e,_⟩:=x;exact qJ e
 | tbl ps=>exact qJ (show h.get? a=some _ from x)
 | met f y=>exact qJ (show h.get? a=some _ from x)
 | ext φ=>obtain⟨_,⟨_,e⟩,_⟩:=x;exact qJ e
theorem Paired.mapP {α β:Type}{F G:α->β->Prop}:∀{l₁:List α} {l₂:List β},Paired F l₁ l₂->(∀a b,F a b->G a b)->Paired G l₁ l₂
 | _,_,.nil,_=>.nil
 | _,_,.cons r t,f=>.cons (f _ _ r) (Paired.mapP t f)
theorem Yn.stay (x:Yn P w H h a o)(k:∀b u,(b=a∨H b=some (.own a))->h.get? b=some u->h'.get? b=some u)
  (ho:∀b,H b=some (.own a)->H' b=some (.own a)) (ht:∀b xs,H b=some (.tup xs)->H' b=some (.tup xs)):Yn P w H' h' a o:=by
 induction o with
 | lst xs=>obtain⟨z,jE,n,r,e⟩:=x;exact⟨z,jE,n,r,k _ _ (.inl rfl) e⟩
 | tup xs=>obtain⟨z,jE,r,ob,e,c⟩:=x;exact⟨z,jE,r,ob,k _ _ (.inl rfl) e,c⟩
 | dK kvs=>obtain⟨z,y,vs,r,ob,es,ep,e,c⟩:=x;exact⟨z,y,vs,r,ob,es,ep,k _ _ (.inl rfl) e,c⟩
 | dT kvs=>
  obtain⟨z,y,xs,r,ob,es,ep,e,c⟩:=x;exact⟨z,y,xs,Paired.mapP r λp q z=>⟨z.1,ht _ _ z.2.1,z.2.2⟩,ob,es,ep,k _ _ (.inl rfl) e,c⟩
 | set S n=>obtain⟨ob,es,ep,t,e,c⟩:=x;exact⟨ob,es,ep,t,k _ _ (.inl rfl) e,c⟩
 | ins C dx fs=>
  obtain⟨d,z,ne,e,mA,⟨od,es,ep,e2,c⟩,r⟩:=x;exact⟨ho _ d,z,ne,k _ _ (.inl rfl) e,mA,⟨od,es,ep,k _ _ (.inr d) e2,c⟩,r⟩
 | own y=>obtain⟨ob,e⟩:=x;exact⟨ob,k _ _ (.inl rfl) e⟩
 | xd fs=>obtain⟨mA,⟨od,es,ep,e,c⟩,r⟩:=x;exact⟨mA,⟨od,es,ep,k _ _ (.inl rfl) e,c⟩,r⟩
 | rng lo hi=>obtain⟨t,u,v,e⟩:=x;exact⟨t,u,v,k _ _ (.inl rfl) e⟩
 | frz ob u ih=>obtain⟨e,q⟩:=x;exact⟨k _ _ (.inl rfl) e,ih q⟩
 | tbl ps=>
  have e:h.get? a=some { cls:=.none,data:=.fields ps }:=x;show h'.get? a=some { cls:=.none,data:=.fields ps };exact k a _ (.inl rfl) e
 | met f y=>
  have e:h.get? a=some (qb2 (.ref f) (.ref y)):=x;show h'.get? a=some (qb2 (.ref f) (.ref y));exact k a _ (.inl rfl) e
 | ext φ=>obtain⟨p,⟨o,e⟩,st⟩:=x;exact⟨st _ _ p λo q=>k _ _ (.inl rfl) q,⟨o,k _ _ (.inl rfl) e⟩,st⟩
theorem Yi.lt (x:Yi P w H h)(e:H a=some o):a<h.objs.size:=(x a o e).lt
theorem Yi.fresh (x:Yi P w H h)(e:h.objs.size<=a):H a=none:=by
 cases q:H a with
 | none=>rfl
 | some u=>exact absurd (zd (x.lt q) e) (yC _)
theorem Yi.kept (x:Yi P w H h)(k:∀b u,h.get? b=some u->h'.get? b=some u):Yi P w H h':=λa o e=>
 (x a o e).stay (λb u _ q=>k b u q) (λ_ q=>q) λ_ _ q=>q
theorem Yi.laid (x:Yi P w H h)(k:∀b u,h.get? b=some u->h'.get? b=some u)(hp:h.objs.size<=a)(new:Yn P w (Zl H a o) h' a o):Yi P w (Zl H a o) h':=λb u e=>by
 have hn:=x.fresh hp;by_cases hb:b=a
 ·subst hb;rw[ZW]at e;cases e;exact new
 ·rw[Zx hb]at e
  exact(x b u e).stay (λc v _ q=>k c v q) (λc q=>by rw[Zx (Yq q hn)];exact q) λc xs q=>by rw[Zx (Yq q hn)];exact q
end
noncomputable def Rd (H:Hp)(a:Addr)(u:HO):Prop:=H a=some u∨∃o,H a=some (.frz o u)
theorem Rd.ok {P:xz}{w:World}{H:Hp}{h:Heap}{a:Addr}{u:HO}(r:Rd H a u)(x:Yi P w H h):Yn P w H h a u:=by
 rcases r with r | ⟨o,r⟩
 ·exact x a u r
 ·obtain⟨_,q⟩:=x a _ r
  exact q
noncomputable def Bx:Option HO->Prop
 | some (.lst _)=>True
 | some (.dK _)=>True
 | some (.dT _)=>True
 | some (.set _ _)=>True
 | some (.ins _ _ _)=>True
 | some (.ext _)=>True
 | _=>False
section
variable {P:xz}{w:World}{H:Hp}{h h':Heap}{x e:Addr}{o':HO}
theorem Yi.write (ok:Yi P w H h)(mu:Bx (H x))(he:e=x∨H e=some (.own x))(k:∀b u,b≠e->h.get? b=some u->h'.get? b=some u)(heo:∃u,h'.get? e=some u)
  (new:Yn P w (Zl H x o') h' x o'):Yi P w (Zl H x o') h':=λb u q=>by
 have nown:∀c y,H c=some (.own y)->c≠x:=λc y r z=>by subst z;rw[r]at mu;exact mu
 have ntup:∀c xs,H c=some (.tup xs)->c≠x:=λc xs r z=>by subst z;rw[r]at mu;exact mu
 by_cases hb:b=x
 ·subst hb;rw[ZW]at q;cases q;exact new
 ·rw[Zx hb]at q
  by_cases hbe:b=e
  ·have q':H b=some (.own x):=by
    rcases he with z | z
    ·exact absurd (hbe.trans z) hb
    ·rw[hbe];exact z
   rw[q]at q';cases q';obtain⟨v,hv⟩:=heo;exact⟨v,by rw[hbe];exact hv⟩
  ·refine(ok b u q).stay (λc v hc r=>k c v ?_ r) (λc r=>by rw[Zx (nown c b r)];exact r) λc xs r=>by rw[Zx (ntup c xs r)];exact r
   rcases hc with rfl | hc
   ·exact hbe
   ·rintro rfl
    rcases he with z | z
    ·exact nown c b hc z
    ·rw[hc]at z;cases z;exact hb rfl
end
structure Un (fs ex:List Addr)(H H':Hp)(h h':Heap):Prop where
 keep:∀b o,h.get? b=some o->H b=none->b∉fs->b∉ex->h'.get? b=some o
 slot:∀b o,h.get? b=some o->H b=none->b∈fs->b∉ex->∃sl,h'.get? b=some { o with slots:=sl }
 free:∀b o,h.get? b=some o->H b=none->b∉ex->H' b=none
 there:∀b o,h.get? b=some o->b∉ex->∃o',h'.get? b=some o'
 tups:∀b xs,H b=some (.tup xs)->H' b=some (.tup xs)
 frzs:∀b o u,H b=some (.frz o u)->H' b=some (.frz o u)
 tbls:∀b ps,H b=some (.tbl ps)->∃more,H' b=some (.tbl (ps++more))
section
variable {fs fs' ex ex':List Addr}{H H1 H2:Hp}{h h1 h2 h':Heap}{a x e:Addr}{o:HO}
theorem Un.any (u:Un fs ex H H1 h h1){b:Addr}{ob:Obj}(q:h.get? b=some ob)(n:H b=none)(hx:b∉ex):∃sl,h1.get? b=some { ob with slots:=sl }:=by
 by_cases hb:b∈fs
 ·exact u.slot b ob q n hb hx
 ·exact⟨ob.slots,u.keep b ob q n hb hx⟩
theorem Un.kept (k:∀b u,h.get? b=some u->h'.get? b=some u):Un fs ex H H h h':=
 ⟨λb ob q _ _ _=>k b ob q,λb ob q _ _ _=>⟨ob.slots,k b ob q⟩,λ_ _ _ n _=>n,λb ob q _=>⟨ob,k b ob q⟩,λ_ _ q=>q,λ_ _ _ q=>q,λ_ ps q=>⟨#[],by rw[q];simp⟩⟩
theorem Un.refl:Un fs ex H H h h:=Un.kept λ_ _ q=>q
theorem Un.laid (k:∀b u,h.get? b=some u->h'.get? b=some u)(hp:h.objs.size<=a)(hn:H a=none):Un fs ex H (Zl H a o) h h' where
 keep:=λb u q _ _ _=>k b u q
 slot:=λb u q _ _ _=>⟨u.slots,k b u q⟩
 free:=λb u q n _=>by rw[Zx (qR (zd (qJ q) hp))];exact n
 there:=λb u q _=>⟨u,k b u q⟩
 tups:=λb xs q=>by rw[Zx (Yq q hn)];exact q
 frzs:=λb u xs q=>by rw[Zx (Yq q hn)];exact q
 tbls:=λb ps q=>⟨#[],by rw[Zx (Yq q hn),q];simp⟩
theorem Un.write (mu:Bx (H x))(he:e=x∨H e=some (.own x))(k:∀b u,b≠e->h.get? b=some u->h'.get? b=some u)(heo:∃u,h'.get? e=some u):Un fs ex H (Zl H x o) h h':=by
 have hx:∀b,H b=none->b≠x:=λb n z=>by subst z;rw[n]at mu;exact mu
 have hb:∀b,H b=none->b≠e:=λb n z=>by
  subst z;rcases he with r | r
  ·exact hx b n r
  ·rw[n]at r;cases r
 have hm:∀b u,H b=some u->¬Bx (some u)->b≠x:=λb u q nm z=>by subst z;rw[q]at mu;exact nm mu
 refine⟨λb u q n _ _=>k b u (hb b n) q,λb u q n _ _=>⟨u.slots,k b u (hb b n) q⟩,λb u q n _=>by rw[Zx (hx b n)];exact n,λb u q _=>?_,
  λb xs q=>by rw[Zx (hm b _ q λz=>z)];exact q,λb u xs q=>by rw[Zx (hm b _ q λz=>z)];exact q,λb ps q=>⟨#[],by rw[Zx (hm b _ q λz=>z),q];simp⟩⟩
 by_cases hbe:b=e
 ·subst hbe;exact heo
 ·exact⟨u,k b u hbe q⟩
end
noncomputable def trk (h:Heap)(H:Hp):List Addr:=(qp h.objs.size).filter λa=>(H a).isSome
noncomputable def Va (h:Heap)(H:Hp):Heap:=PySem.W.hideAll h (trk h H)
theorem ZhL (h:Heap)(H:Hp):(Va h H).objs.size=h.objs.size:=qcI _ _
theorem ZiQ {h:Heap}{H:Hp}{b:Addr}{o:Obj}(e:h.get? b=some o)(n:H b=none):(Va h H).get? b=some o:=
 qcY _ e λhm=>by
  have q:(H b).isSome=true:=(qW.mp hm).2;rw[n]at q;simp at q
theorem ZkI {h:Heap}{H:Hp}{b:Addr}{o:Obj}(e:(Va h H).get? b=some o):h.get? b=some o/\H b=none:=by
 have e':h.get? b=some o:=PySem.W.of_hideAll (trk h H) e;refine⟨e',?_⟩
 cases q:H b with
 | none=>rfl
 | some x=>
  have hm:b∈trk h H:=qW.mpr ⟨qO.mpr (qJ e'),by simp[q]⟩;have z:(Va h H).get? b=none:=qcJ (trk h H) hm;rw[z]at e;cases e
structure Mod (K:qk)(mg:Str->Option Value)(base:Heap):Prop where
 kin:K.In base
 glob:base.Ns mainGlobals mg
 blt:∃mb,base.Ns builtinsNs mb/\∀x:Str,x≠"__name__"->mb x=xj x
 nolimit:base.NoLimit
structure Cx where
 prog:xz
 w:World
 K:qk
 mg:Str->Option Value
 base:Heap
 A:xA
 N:List Str
 s₀:Shared
 H₀:Hp
 env:Env
 outer:List Env
 stack:List Env
 ex:List Addr
 fn:Str->Bool
 calm:Bool
 pn:Qb
 xe:xB
noncomputable def XO (l:List Env):List Addr:=l.filterMap (·.frame)
noncomputable abbrev Cx.fs (X:Cx):List Addr:=XO X.outer
noncomputable def By (sc:Scope)(x:Str):Prop:=sc.names.lookup x=some .local∨sc.names.lookup x=some .cell∨sc.names.lookup x=some .free
noncomputable def Ve (sc:Scope)(x:Str):Prop:=sc.names.lookup x=some .local∨sc.names.lookup x=some .cell
noncomputable def Look (env:Env)(h:Heap)(m:Str->Option Value)(x:Str)(u:Value):Prop:=
 (env.kindOf x=some .local/\m x=some u)∨((env.kindOf x=some .cell∨env.kindOf x=some .free)/\∃c,env.cells.lookup x=some c/\h.IsCell c (some u))
structure Cx.Ok (X:Cx):Prop where
 mod:Mod X.K X.mg X.base
 kind:X.env.scope.kind=.function
 glob:X.env.globals=mainGlobals
 blt:X.env.builtins=builtinsNs
 above:X.s₀.heap.objs.size<=X.env.locals
 inj:∀x y c,X.env.cells.lookup x=some c->X.env.cells.lookup y=some c->x=y
 has:∀x,(X.env.kindOf x=some .cell∨X.env.kindOf x=some .free)->∃c,X.env.cells.lookup x=some c
 cab:∀x c,X.fn x=true->X.env.cells.lookup x=some c->X.s₀.heap.objs.size<=c
 hd:X.calm=true->X.A.handled=none
 frames:X.A.frames=some X.stack
 stk:X.stack=X.outer∨(X.stack=X.env::X.outer/\X.env.frame=some X.env.locals)
 exf:∀b∈X.ex,b≠X.env.locals/\∀x c,X.env.cells.lookup x=some c->c≠b
 bs:∀b o,X.base.get? b=some o->X.s₀.heap.get? b=some o/\X.H₀ b=none
 bsz:X.base.objs.size<=X.s₀.heap.objs.size
 noex:∀b o,X.base.get? b=some o->b∉X.ex
 exfs:∀b∈X.ex,b∉X.fs
 funs:X.s₀.heap.FunFrames X.base X.outer
 frf:∀b∈X.fs,X.H₀ b=none
structure Inv (X:Cx)(jC:Qb)(σ:List (Option V))(H:Hp)(s:Shared):Prop where
 ok:X.Ok
 os:s.os=X.s₀.os
 bare:AllBare s.gens
 base:Un X.fs X.ex X.H₀ H X.s₀.heap s.heap
 loc:∃m,s.heap.Ns X.env.locals m/\∀(i:Nat) (x:Str) (v:V),X.N[i]?=some x->σ[i]?=some (some v)->By X.env.scope x->∃u,ZH v u/\Look X.env s.heap m x u
 cell:∀x c,X.env.cells.lookup x=some c->∃v,s.heap.IsCell c v
 free:H X.env.locals=none
 freeC:∀x c,X.env.cells.lookup x=some c->H c=none
 pin:∀p∈X.pn++jC,s.heap.get? p.1=some p.2/\H p.1=none/\p.1≠X.env.locals/\p.1∉X.fs/\∀v,p.2.data≠.cell v
 hok:Yi X.prog X.w H s.heap
 len:σ.length=X.N.length
section
variable {X:Cx}{jC:Qb}{σ:List (Option V)}{H H':Hp}{s:Shared}{h':Heap}
theorem Cx.Ok.nofr (ok:X.Ok){b:Addr}{o:Obj}(e:X.base.get? b=some o):b∉X.fs:=λhb=>by
 have:=(ok.funs.mem hb).1;rw[e]at this;cases this
theorem Inv.bs (I:Inv X jC σ H s):∀b o,X.base.get? b=some o->s.heap.get? b=some o/\H b=none:=λb o e=>
 ⟨I.base.keep b o (I.ok.bs b o e).1 (I.ok.bs b o e).2 (I.ok.nofr e) (I.ok.noex b o e),I.base.free b o (I.ok.bs b o e).1 (I.ok.bs b o e).2 (I.ok.noex b o e)⟩
theorem Inv.bk (I:Inv X jC σ H s):∀b o,X.base.get? b=some o->s.heap.get? b=some o:=λb o e=>(I.bs b o e).1
theorem Inv.mod (I:Inv X jC σ H s):Mod X.K X.mg X.base:=I.ok.mod
theorem Inv.kIn (I:Inv X jC σ H s):X.K.In s.heap:=I.ok.mod.kin.keeps I.bk
theorem Inv.lt (I:Inv X jC σ H s):X.env.locals<s.heap.objs.size:=let ⟨_,hn,_⟩:=I.loc;hn.lt
theorem Inv.sz (I:Inv X jC σ H s):X.s₀.heap.objs.size<=s.heap.objs.size:=zj I.ok.above (qb9 I.lt)
theorem Inv.nofs (I:Inv X jC σ H s){a:Addr}(h:s.heap.objs.size<=a):a∉X.fs:=λhb=>by
 obtain⟨_,o,ho,_⟩:=I.ok.funs.mem hb;exact absurd (zd (qJ ho) (zj I.sz h)) (yC _)
theorem Inv.cne (I:Inv X jC σ H s):∀x c,X.env.cells.lookup x=some c->c≠X.env.locals:=λx c e z=>by
 obtain⟨v,o,ho,hd⟩:=I.cell x c e;obtain⟨m,⟨o',es,ep,ho',hd',_⟩,_⟩:=I.loc;rw[z,ho']at ho;cases ho;rw[hd']at hd;cases hd
theorem Inv.funs (I:Inv X jC σ H s):s.heap.FunFrames X.base X.outer:=by
 have all:∀(l:List Env),(∀b∈XO l,b∈X.fs)->X.s₀.heap.FunFrames X.base l->s.heap.FunFrames X.base l:=by
  intro l
  induction l with
  | nil=>intro _ _;trivial
  | cons env r ih=>
   intro hs hl;obtain⟨hk,⟨L,o,hf,hn,ho,hd⟩,hr⟩:=hl;have hL:L∈X.fs:=hs L (by unfold XO;rw[yy,hf];exact zB);obtain⟨sl,e⟩:=I.base.slot L o ho (I.ok.frf L hL) hL λz=>I.ok.exfs L z hL;exact⟨hk,⟨L,_,hf,hn,e,hd⟩,ih (λb hb=>hs b (by unfold XO;rw[yy,hf];exact qS _ hb)) hr⟩
 exact all X.outer (λ_ hb=>hb) I.ok.funs
theorem Inv.stack (I:Inv X jC σ H s):s.heap.FunFrames X.base X.stack:=by
 rcases I.ok.stk with e | ⟨e,hf⟩
 ·rw[e];exact I.funs
 ·rw[e]
  obtain⟨m,hn,_⟩:=I.loc;refine .cons (by rw[I.ok.kind];decide) hf hn ?_ I.funs;exact qcK (zj I.ok.bsz I.ok.above)
theorem Inv.stkSub (I:Inv X jC σ H s):∀b∈XO X.stack,b∈X.env.locals::X.fs:=λb hb=>by
 rcases I.ok.stk with e | ⟨e,hf⟩
 ·rw[e]at hb;exact qS _ hb
 ·rw[e]at hb
  unfold XO at hb;rw[yy,hf]at hb;exact hb
theorem Inv.stkFree (I:Inv X jC σ H s):∀b∈XO X.stack,H b=none:=λb hb=>by
 rcases qq.mp (I.stkSub b hb)with e | hb
 ·rw[e];exact I.free
 ·obtain⟨_,o,ho,_⟩:=I.ok.funs.mem hb
  exact I.base.free b o ho (I.ok.frf b hb) λz=>I.ok.exfs b z hb
theorem Inv.step {g':Array GenState}{t':Nat}{d':Drawn}{ch:List Addr}(I:Inv X jC σ H s)
  (hch:∀b∈ch,(b∈X.ex∨X.s₀.heap.objs.size<=b)/\b≠X.env.locals/\(∀x c,X.env.cells.lookup x=some c->c≠b)/\∀p∈X.pn++jC,p.1≠b)
  (keep:∀b o,b≠X.env.locals->b∉X.fs->b∉ch->s.heap.get? b=some o->H b=none->h'.get? b=some o)
  (slot:∀b o,b≠X.env.locals->b∈X.fs->b∉ch->s.heap.get? b=some o->H b=none->∃sl,h'.get? b=some { o with slots:=sl }) (free:∀b o,b∉ch->s.heap.get? b=some o->H b=none->H' b=none)
  (there:∀b o,b∉ch->s.heap.get? b=some o->∃o',h'.get? b=some o')
  (tups:∀b xs,H b=some (.tup xs)->H' b=some (.tup xs)) (frzs:∀b o u,H b=some (.frz o u)->H' b=some (.frz o u)) (tbls:∀b ps,H b=some (.tbl ps)->∃more,H' b=some (.tbl (ps++more)))
  (ns:∀m,s.heap.Ns X.env.locals m->h'.Ns X.env.locals m) (hok:Yi X.prog X.w H' h') (hg:AllBare g') :
  Inv X jC σ H' { s with heap:=h',gens:=g',drawn:=d',toks:=t' }:=by
 have neL:∀b o,X.s₀.heap.get? b=some o->b≠X.env.locals:=λb o e=>qR (zd (qJ e) I.ok.above);have neC:∀b o,X.s₀.heap.get? b=some o->b∉X.ex->b∉ch:=λb o e hx hb=>by
  rcases (hch b hb).1 with z | z
  ·exact hx z
  ·exact absurd (zd (qJ e) z) (yC _)
 have cellK:∀x c,X.env.cells.lookup x=some c->∀v,s.heap.IsCell c v->h'.IsCell c v:=λx c e v ⟨o,ho,hd⟩=>by
  have nch:c∉ch:=λz=>(hch c z).2.2.1 x c e rfl;by_cases hc:c∈X.fs
  ·obtain⟨sl,q⟩:=slot c o (I.cne x c e) hc nch ho (I.freeC x c e)
   exact⟨_,q,hd⟩
  ·exact⟨o,keep c o (I.cne x c e) hc nch ho (I.freeC x c e),hd⟩
 refine⟨I.ok,I.os,hg,⟨λb o e n hb hx=>?_,λb o e n hb hx=>?_,λb o e n hx=>?_,λb o e hx=>?_,λb xs e=>tups b xs (I.base.tups b xs e),λb o xs e=>frzs b o xs (I.base.frzs b o xs e),λb ps e=>?_⟩,?_,λx c e=>?_,?_,λx c e=>?_,λp hp=>?_,hok,I.len⟩
 ·exact keep b o (neL b o e) hb (neC b o e hx) (I.base.keep b o e n hb hx) (I.base.free b o e n hx)
 ·obtain⟨sl,e1⟩:=I.base.slot b o e n hb hx
  obtain⟨sl',e2⟩:=slot b _ (neL b o e) hb (neC b o e hx) e1 (I.base.free b o e n hx);exact⟨sl',e2⟩
 ·obtain⟨o',e1⟩:=I.base.there b o e hx
  exact free b o' (neC b o e hx) e1 (I.base.free b o e n hx)
 ·obtain⟨o',e1⟩:=I.base.there b o e hx
  exact there b o' (neC b o e hx) e1
 ·obtain⟨m1,e1⟩:=I.base.tbls b ps e
  obtain⟨m2,e2⟩:=tbls b _ e1;exact⟨m1++m2,by rw[e2,Array.append_assoc]⟩
 ·obtain⟨m,hn,hl⟩:=I.loc
  refine⟨m,ns m hn,λi x v e1 e2 e3=>?_⟩;obtain⟨u,r,l⟩:=hl i x v e1 e2 e3;refine⟨u,r,?_⟩;rcases l with l | ⟨k,c,e,z⟩
  ·exact .inl l
  ·exact .inr ⟨k,c,e,cellK x c e _ z⟩
 ·obtain⟨v,z⟩:=I.cell x c e
  exact⟨v,cellK x c e v z⟩
 ·obtain⟨m,⟨o,_,_,ho,_⟩,_⟩:=I.loc
  exact free _ o (λz=>(hch _ z).2.1 rfl) ho I.free
 ·obtain⟨v,o,ho,hd⟩:=I.cell x c e
  exact free c o (λz=>(hch c z).2.2.1 x c e rfl) ho (I.freeC x c e)
 ·obtain⟨e,n,ne,nf,d⟩:=I.pin p hp
  have nch:p.1∉ch:=λz=>(hch p.1 z).2.2.2 p hp rfl;exact⟨keep p.1 p.2 ne nf nch e n,free p.1 p.2 nch e n,ne,nf,d⟩
theorem Inv.un {t':Nat}(I:Inv X jC σ H s)(u:Un X.fs [] H H' s.heap h')(hok:Yi X.prog X.w H' h'):Inv X jC σ H' { s with heap:=h',toks:=t' }:=by
 obtain⟨m,⟨o,es,ep,ho,r⟩,_⟩:=id I.loc;obtain⟨sl,hL⟩:=u.any ho I.free (by simp);exact I.step (g':=s.gens) (d':=s.drawn) (ch:=[]) (λ_ z=>nomatch z) (λb o _ hb _ e n=>u.keep b o e n hb (by simp)) (λb o _ hb _ e n=>u.slot b o e n hb (by simp)) (λb o _ e n=>u.free b o e n (by simp)) (λb o _ e=>u.there b o e (by simp)) u.tups u.frzs u.tbls (λm' hm=>by
  obtain⟨o',es',ep',ho',r'⟩:=hm;rw[ho]at ho';cases ho';exact⟨_,es',ep',hL,r'⟩) hok I.bare
theorem Inv.call {g':Array GenState}{t':Nat}{d':Drawn}{ch:List Addr}(I:Inv X jC σ H s)(u:Un (XO X.stack) ch H H' s.heap h')(hok:Yi X.prog X.w H' h')(hg:AllBare g')
  (hch:∀b∈ch,(b∈X.ex∨X.s₀.heap.objs.size<=b)/\b≠X.env.locals/\(∀x c,X.env.cells.lookup x=some c->c≠b)/\∀p∈X.pn++jC,p.1≠b) :
  Inv X jC σ H' { s with heap:=h',gens:=g',drawn:=d',toks:=t' }:=by
 obtain⟨m,⟨o,es,ep,ho,r⟩,_⟩:=id I.loc;obtain⟨sl,hL⟩:=u.any ho I.free λz=>(hch _ z).2.1 rfl;exact I.step (ch:=ch) hch (λb o hL hb hc e n=>u.keep b o e n (λz=>(qq.mp (I.stkSub b z)).elim hL hb) hc) (λb o _ _ hc e n=>u.any e n hc) (λb o hc e n=>u.free b o e n hc) (λb o hc e=>u.there b o e hc) u.tups u.frzs u.tbls (λm' hm=>by
  obtain⟨o',es',ep',ho',r'⟩:=hm;rw[ho]at ho';cases ho';exact⟨_,es',ep',hL,r'⟩) hok hg
theorem Inv.turned {t':Nat}{it:Addr}(I:Inv X jC σ H s)(k:∀b o,b≠it->s.heap.get? b=some o->h'.get? b=some o)(hn:H it=none)(hL:it≠X.env.locals)
  (h1:it∈X.ex∨X.s₀.heap.objs.size<=it) (h2:∀x c,X.env.cells.lookup x=some c->c≠it) (h3:∀p∈X.pn++jC,p.1≠it):Inv X jC σ H { s with heap:=h',toks:=t' }:=by
 have nit:∀b u,H b=some u->b≠it:=λb u e z=>by rw[z,hn]at e;cases e
 refine I.step (g':=s.gens) (d':=s.drawn) (ch:=[it]) (λb hb=>?_) (λb o _ _ hc e _=>k b o (λz=>hc (by simp[z])) e) (λb o _ _ hc e _=>⟨o.slots,k b o (λz=>hc (by simp[z])) e⟩) (λ_ _ _ _ n=>n)
  (λb o hc e=>⟨o,k b o (λz=>hc (by simp[z])) e⟩) (λ_ _ e=>e) (λ_ _ _ e=>e) (λb ps e=>⟨#[],by rw[e];simp⟩) (λm hm=>?_) (λb u e=>?_) I.bare
 ·have e:b=it:=by simpa using hb
  subst e;exact⟨h1,hL,h2,h3⟩
 ·obtain⟨o,es,ep,ho,r⟩:=hm
  exact⟨o,es,ep,k _ o (zH hL) ho,r⟩
 ·refine(I.hok b u e).stay (λc v hc q=>k c v ?_ q) (λ_ q=>q) λ_ _ q=>q
  rcases hc with z | z
  ·rw[z];exact nit b u e
  ·exact nit c _ z
theorem Inv.tok (I:Inv X jC σ H s)(t:Nat):Inv X jC σ H { s with toks:=t }:=I.un (h':=s.heap) (t':=t) Un.refl I.hok
theorem Inv.kept {t':Nat}(I:Inv X jC σ H s)(k:∀b u,s.heap.get? b=some u->h'.get? b=some u):Inv X jC σ H { s with heap:=h',toks:=t' }:=I.un (Un.kept k) (I.hok.kept k)
theorem Inv.laid {a:Addr}{o:HO}{t':Nat}(I:Inv X jC σ H s)(k:∀b u,s.heap.get? b=some u->h'.get? b=some u)(hp:s.heap.objs.size<=a)(new:Yn X.prog X.w (Zl H a o) h' a o) :
  Inv X jC σ (Zl H a o) { s with heap:=h',toks:=t' }:=I.un (Un.laid k hp (I.hok.fresh hp)) (I.hok.laid k hp new)
theorem Inv.write {x e:Addr}{o:HO}{t':Nat}(I:Inv X jC σ H s)(mu:Bx (H x))(he:e=x∨H e=some (.own x))(k:∀b u,b≠e->s.heap.get? b=some u->h'.get? b=some u)(heo:∃u,h'.get? e=some u)
  (new:Yn X.prog X.w (Zl H x o) h' x o):Inv X jC σ (Zl H x o) { s with heap:=h',toks:=t' }:=I.un (Un.write mu he k heo) (I.hok.write mu he k heo new)
theorem Inv.pins_of {pins':Qb}(I:Inv X jC σ H s)(h:∀p∈pins',s.heap.get? p.1=some p.2/\H p.1=none/\p.1≠X.env.locals/\p.1∉X.fs/\∀v,p.2.data≠.cell v):Inv X pins' σ H s:=
 ⟨I.ok,I.os,I.bare,I.base,I.loc,I.cell,I.free,I.freeC,λp hp=>(qY.mp hp).elim (λz=>I.pin p (qal _ z)) (h p),I.hok,I.len⟩
theorem ZeW {N:List Str}(hN:N.Nodup){i j:Nat}{x:Str}(a:N[i]?=some x)(b:N[j]?=some x):i=j:=by
 obtain⟨h1,e1⟩:=qu.mp a;obtain⟨h2,e2⟩:=qu.mp b;exact(List.getElem_inj hN).mp (e1.trans e2.symm)
theorem ZhM {M:Model}{A:xA}{E:xB}{i:Nat}{x:Str}{v:V}{u:Value}{Q:Unit->Shared->Prop}(I:Inv X jC σ H s)(hN:X.N.Nodup)(hi:X.N[i]?=some x)(hx:Ve X.env.scope x)(r:ZH v u)
  (h:∀s',Inv X jC (σ.set i (some v)) H s'->(∃a,yf a s.heap s'.heap/\(a=X.env.locals∨X.env.cells.lookup x=some a))->Q () s') (hf:X.fn x=true∨X.env.scope.names.lookup x=some .local:=by first | exact .inl rfl | exact .inr rfl | assumption):xf M A (storeName X.env x u) Q E s:=by
 obtain⟨m,hn,hl⟩:=id I.loc;have hcls:(X.env.scope.kind == .class||(X.env.scope.kind == .module&&X.env.locals != X.env.globals))=false:=by rw[I.ok.kind];rfl
 have hiσ:i < σ.length:=by rw[I.len];exact(qu.mp hi).1
 have cne:=I.cne;have tracked:∀{a:Addr} {h':Heap},(∃o,s.heap.get? a=some o/\H a=none)->yf a s.heap h'->Yi X.prog X.w H h':=λ{a h'} ha hs b ob e=>by
  obtain⟨_,_,hfree⟩:=ha;refine(I.hok b ob e).stay (λc w' hc q=>(hs.2 c ?_).trans q) (λ_ q=>q) λ_ _ q=>q;rintro rfl;rcases hc with rfl | hc
  ·rw[hfree]at e;cases e
  ·rw[hfree]at hc;cases hc
 rcases hx with hk | hk
 ·refine wpAny_storeName_local hk hn (λh' hn' hs=>?_) hcls
  obtain⟨oL,_,_,hoL,_⟩:=id hn;refine h _ ⟨I.ok,I.os,I.bare,⟨λb o e n hb hx=>?_,λb o e n hb hx=>?_,I.base.free,λb o e hx=>?_,I.base.tups,I.base.frzs,I.base.tbls⟩,⟨_,hn',λj y v' e1 e2 e3=>?_⟩,λy c e=>?_,I.free,I.freeC,λp hp=>?_,tracked ⟨oL,hoL,I.free⟩ hs,by simpa using I.len⟩ ⟨_,hs,.inl rfl⟩
  ·exact(hs.2 b (qR (zd (qJ e) I.ok.above))).trans (I.base.keep b o e n hb hx)
  ·obtain⟨sl,e1⟩:=I.base.slot b o e n hb hx
   exact⟨sl,(hs.2 b (qR (zd (qJ e) I.ok.above))).trans e1⟩
  ·obtain⟨o',e1⟩:=I.base.there b o e hx
   exact⟨o',(hs.2 b (qR (zd (qJ e) I.ok.above))).trans e1⟩
  ·by_cases hj:j=i
   ·subst hj
    rw[hi]at e1;cases e1;rw[zt hiσ]at e2
    cases e2
    exact⟨u,r,.inl ⟨hk,by simp⟩⟩
   ·rw[zb (zH hj)]at e2
    obtain⟨u',r',q⟩:=hl j y v' e1 e2 e3;refine⟨u',r',?_⟩;rcases q with⟨k,e⟩ | ⟨k,c,e,z⟩
    ·refine .inl ⟨k,?_⟩
     have:y≠x:=λe=>hj (ZeW hN e1 (e▸hi));simp[this,e]
    ·exact .inr ⟨k,c,e,z.sameBut hs (cne y c e)⟩
  ·obtain⟨w',z⟩:=I.cell y c e
   exact⟨w',z.sameBut hs (cne y c e)⟩
  ·obtain⟨e,n,ne,nf,d⟩:=I.pin p hp
   exact⟨(hs.2 p.1 ne).trans e,n,ne,nf,d⟩
 ·have hfn:X.fn x=true:=by
   rcases hf with z | z
   ·exact z
   ·rw[z]at hk;cases hk
  obtain⟨c,hc⟩:=I.ok.has x (.inl hk);obtain⟨w',z⟩:=I.cell x c hc;refine wpAny_storeName_cell I.ok.kind hk hc z (λh' hc' hs=>?_);obtain⟨oc,hoc,hocd⟩:=id z;refine h { s with heap:=h' } ⟨I.ok,I.os,I.bare,⟨λb o e n hb hx=>?_,λb o e n hb hx=>?_,I.base.free,λb o e hx=>?_,I.base.tups,I.base.frzs,I.base.tbls⟩,⟨m,hn.sameBut hs (zH (cne x c hc)),λj y v' e1 e2 e3=>?_⟩,λy c' e=>?_,I.free,I.freeC,λp hp=>?_,tracked ⟨oc,hoc,I.freeC x c hc⟩ hs,by simpa using I.len⟩ ⟨c,hs,.inr hc⟩
  ·exact(hs.2 b (qR (zd (qJ e) (I.ok.cab x c hfn hc)))).trans (I.base.keep b o e n hb hx)
  ·obtain⟨sl,e1⟩:=I.base.slot b o e n hb hx
   exact⟨sl,(hs.2 b (qR (zd (qJ e) (I.ok.cab x c hfn hc)))).trans e1⟩
  ·obtain⟨o',e1⟩:=I.base.there b o e hx
   exact⟨o',(hs.2 b (qR (zd (qJ e) (I.ok.cab x c hfn hc)))).trans e1⟩
  ·by_cases hj:j=i
   ·subst hj
    rw[hi]at e1;cases e1;rw[zt hiσ]at e2
    cases e2
    exact⟨u,r,.inr ⟨.inl hk,c,hc,hc'⟩⟩
   ·rw[zb (zH hj)]at e2
    obtain⟨u',r',q⟩:=hl j y v' e1 e2 e3;refine⟨u',r',?_⟩;rcases q with q | ⟨k,c',e,z'⟩
    ·exact .inl q
    ·refine .inr ⟨k,c',e,z'.sameBut hs ?_⟩
     rintro rfl;exact hj (ZeW hN e1 (I.ok.inj _ _ _ e hc▸hi))
  ·by_cases hcc:c'=c
   ·subst hcc;exact⟨_,hc'⟩
   ·obtain⟨w2,z2⟩:=I.cell y c' e
    exact⟨w2,z2.sameBut hs hcc⟩
  ·obtain⟨e,n,ne,nf,d⟩:=I.pin p hp
   refine⟨(hs.2 p.1 ?_).trans e,n,ne,nf,d⟩;intro q;rw[q,hoc]at e;have q':oc=p.2:=zp e;exact d w' (by rw[<-q'];exact hocd)
theorem B0 {M:Model}{A:xA}{E:xB}{i:Nat}{x:Str}{v:V}{u:Value}{Q:Unit->Shared->Prop}(I:Inv X jC σ H s)(hN:X.N.Nodup)(hi:X.N[i]?=some x)(hx:Ve X.env.scope x)(r:ZH v u)
  (h:∀s',Inv X jC (σ.set i (some v)) H s'->Q () s') (hf:X.fn x=true∨X.env.scope.names.lookup x=some .local:=by first | exact .inl rfl | exact .inr rfl | assumption):xf M A (storeName X.env x u) Q E s:=
 ZhM I hN hi hx r (λs' I' _=>h s' I') hf
theorem Inv.call' {s':Shared}{ch:List Addr}(I:Inv X jC σ H s)(ho:s'.os=s.os)(u:Un (XO X.stack) ch H H' s.heap s'.heap)(hok:Yi X.prog X.w H' s'.heap)(hg:AllBare s'.gens)
  (hch:∀b∈ch,(b∈X.ex∨X.s₀.heap.objs.size<=b)/\b≠X.env.locals/\(∀x c,X.env.cells.lookup x=some c->c≠b)/\∀p∈X.pn++jC,p.1≠b):Inv X jC σ H' s':=by
 obtain⟨h',g',d',t',o'⟩:=s';have e:o'=s.os:=ho;subst e;exact I.call (g':=g') (t':=t') (d':=d') u hok hg hch
end
noncomputable abbrev XK:=Value->Option Addr->Hp->Prop
noncomputable abbrev St:=List (Option V)
noncomputable abbrev VK:=V->Hp->Prop
noncomputable abbrev TE:=St->Hp->VK->Prop
noncomputable abbrev TT:=St->Hp->(Bool->Hp->Prop)->Prop
noncomputable abbrev TA:=St->Hp->(List V->Hp->Prop)->Prop
structure Ends where
 nx:St->Hp->Prop
 rt:VK
 bk:St->Hp->Prop:=λ_ _=>False
 ct:St->Hp->Prop:=λ_ _=>False
noncomputable abbrev TS:=Ends->St->Hp->Prop
noncomputable def EP (X:Cx)(jC:Qb)(σ:St)(Q:VK)(u:Value)(s':Shared):Prop:=∃v H',Inv X jC σ H' s'/\ZH v u/\Q v H'
noncomputable def TP (X:Cx)(jC:Qb)(σ:St)(Q:Bool->Hp->Prop)(b:Bool)(s':Shared):Prop:=∃H',Inv X jC σ H' s'/\Q b H'
noncomputable def AP (X:Cx)(jC:Qb)(σ:St)(Q:List V->Hp->Prop)(us:List Value)(s':Shared):Prop:=∃vs H',Inv X jC σ H' s'/\Zy vs us/\Q vs H'
noncomputable def SP (X:Cx)(jC:Qb)(D:Ends)(f:Flow)(s':Shared):Prop:=
 match f with
 | .next=>∃σ' H',Inv X jC σ' H' s'/\D.nx σ' H'
 | .brk=>∃σ' H',Inv X jC σ' H' s'/\D.bk σ' H'
 | .cont=>∃σ' H',Inv X jC σ' H' s'/\D.ct σ' H'
 | .ret u=>∃v σ' H',Inv X jC σ' H' s'/\ZH v u/\D.rt v H'
noncomputable def PE (X:Cx)(e:Expr)(t:TE):Prop:=
 ∀(jC:Qb) (s:Shared) (σ:St) (H:Hp) (Q:VK),Inv X jC σ H s->t σ H Q->xf (xw X.prog X.w) X.A (eval e X.env) (EP X jC σ Q) X.xe s
noncomputable def PT (X:Cx)(e:Expr)(t:TT):Prop:=
 ∀(jC:Qb) (s:Shared) (σ:St) (H:Hp) (Q:Bool->Hp->Prop),Inv X jC σ H s->t σ H Q->xf (xw X.prog X.w) X.A (isTrue e X.env (eval e X.env)) (TP X jC σ Q) X.xe s
noncomputable def PW (X:Cx)(e:Expr)(t:TT):Prop:=
 ∀(whole:Sem Value) (jC:Qb) (s:Shared) (σ:St) (H:Hp) (Q:Bool->Hp->Prop),Inv X jC σ H s->t σ H Q->xf (xw X.prog X.w) X.A (isTrue e X.env whole) (TP X jC σ Q) X.xe s
theorem PW.pt {X:Cx}{e:Expr}{t:TT}(h:PW X e t):PT X e t:=h _
noncomputable def PA (X:Cx)(es:List Expr)(t:TA):Prop:=
 ∀(pos:Pos) (jC:Qb) (s:Shared) (σ:St) (H:Hp) (Q:List V->Hp->Prop),Inv X jC σ H s->t σ H Q->xf (xw X.prog X.w) X.A (spliced (backTo pos (xh es X.env))) (AP X jC σ Q) X.xe s
noncomputable def PS (X:Cx)(st:Stmt)(t:TS):Prop:=
 ∀(jC:Qb) (s:Shared) (σ:St) (H:Hp) (D:Ends),Inv X jC σ H s->t D σ H->xf (xw X.prog X.w) X.A (exec st X.env) (SP X jC D) X.xe s
noncomputable def Wj (X:Cx)(st:List Stmt)(t:TS):Prop:=
 ∀(jC:Qb) (s:Shared) (σ:St) (H:Hp) (D:Ends),Inv X jC σ H s->t D σ H->xf (xw X.prog X.w) X.A (execs st X.env) (SP X jC D) X.xe s
theorem ZM {α:Type}{t:Sem α}{Q Q':α->Shared->Prop}{M:Model}{A:xA}{E:xB}{s:Shared}(h:xf M A t Q E s)(hQ:∀a s,Q a s->Q' a s):xf M A t Q' E s:=xc h hQ λ_ _ x=>x
section
variable {X:Cx}
noncomputable def YG (i:Nat):TE:=fun σ H Q=>∃v,σ[i]?=some (some v)/\Q v H
noncomputable def tC (v:V):TE:=λ_ H Q=>Q v H
theorem Zmn {i:Nat}{x:Str}{pos:Pos}(hN:X.N[i]?=some x)(hv:By X.env.scope x)(hd:(x==("__debug__" : Str))=false:=by decide)(hcd:(x==("__classdict__" : Str))=false:=by decide):PE X (.Name x pos) (YG i):=by
 intro jC s σ H Q I h;obtain⟨v,e,h⟩:=h;obtain⟨m,hn,hl⟩:=I.loc;obtain⟨u,r,l⟩:=hl i x v hN e hv;have fin:EP X jC σ Q u s:=⟨v,H,I,r,h⟩;rcases l with⟨hk,hm⟩ | ⟨hk,c,hc,hcell⟩
 ·exact wpAny_Name (wpAny_loadName_local I.ok.kind hk hn hm fin) hd
 ·rcases hk with hk | hk
  ·exact wpAny_Name (wpAny_loadName_cell I.ok.kind hk hc hcell fin) hd
  ·exact wpAny_Name (wpAny_loadName_free I.ok.kind hk hc hcell fin hcd) hd
theorem Xa {i j pos}:PE X (.Constant (.int i) j pos) (tC (.int i)):=λ_ _ _ H _ I h=>wpAny_Constant_int ⟨.int i,H,I.tok _,⟨_,rfl⟩,h⟩
theorem Znx {b j pos}:PE X (.Constant (.bool b) j pos) (tC (.bl b)):=λ_ _ _ H _ I h=>Constant_bool ⟨.bl b,H,I,rfl,h⟩
theorem Zmo {j pos}:PE X (.Constant .none j pos) (tC .non):=λ_ _ _ H _ I h=>Constant_none ⟨.non,H,I,rfl,h⟩
noncomputable def Gl (X:Cx)(x:Str):Prop:=X.env.kindOf x=some .globalImplicit
theorem ZgY {E:xB}{jC:Qb}{s:Shared}{σ:St}{H:Hp}{x:Str}{u:Value}{pos:Pos}{Q:xB}(I:Inv X jC σ H s)(hg:Gl X x)(hm:X.mg x=some u)(h:Q u s)
  (hd:(x==("__debug__" : Str))=false:=by decide):xf (xw X.prog X.w) X.A (eval (.Name x pos) X.env) Q E s:=
 qbV I.ok.kind hg (Calls.loadGlobal_global (by rw[I.ok.glob];exact I.mod.glob.keeps I.bk) hm h) hd
theorem Uy {E:xB}{jC:Qb}{s:Shared}{σ:St}{H:Hp}{x:Str}{u:Value}{pos:Pos}{Q:xB}(I:Inv X jC σ H s)(hg:Gl X x)(hm:X.mg x=none)(hv:xj x=some u)(h:Q u s)
  (hn:x≠"__name__":=by decide) (hd:(x==("__debug__" : Str))=false:=by decide):xf (xw X.prog X.w) X.A (eval (.Name x pos) X.env) Q E s:=by
 obtain⟨mb,h1,h2⟩:=I.mod.blt;exact qbV I.ok.kind hg (Calls.loadGlobal_builtin (by rw[I.ok.glob];exact I.mod.glob.keeps I.bk) hm (by rw[I.ok.blt];exact h1.keeps I.bk) ((h2 x hn).trans hv) h) hd
theorem ZkJ {x:Str}{v:V}{u:Value}{pos:Pos}(hg:Gl X x)(hm:X.mg x=none)(hv:xj x=some u)(r:ZH v u)(hn:x≠"__name__":=by decide)(hd:(x==("__debug__" : Str))=false:=by decide):PE X (.Name x pos) (tC v):=
 λ_ _ _ H _ I h=>Uy I hg hm hv ⟨v,H,I,r,h⟩ hn hd
variable {a b:Expr}{ta tb:TE}{pos:Pos}
noncomputable def tB (t:TE):TT:=fun σ H Q=>t σ H λx H1=>∃c,x=.bl c/\Q c H1
theorem Zmp {e:Expr}{t:TE}(h:PE X e t)(he:∀whole,isTrue e X.env whole=(do let v<-whole;standAt e.pos;holding [v] (truthy v)):=by intro _;rfl):PT X e (tB t):=by
 intro jC s σ H Q I hw;refine isTrue_plain (ZM (h jC s σ H _ I hw) λv s1 ⟨x,H1,I1,r1,q1⟩=>?_) (he _);obtain⟨d,rfl,q⟩:=q1
 cases r1
 exact wpAny_truthy_bool ⟨H1,I1,q⟩
variable {tA tB':TT}{rest:List Expr}
noncomputable def tAnd (t u:TT):TT:=fun σ H Q=>t σ H λc H1=>if c=true then u σ H1 Q else Q false H1
noncomputable def tOr (t u:TT):TT:=fun σ H Q=>t σ H λc H1=>if c=true then Q true H1 else u σ H1 Q
noncomputable def tNot (t:TT):TT:=fun σ H Q=>t σ H λc H1=>Q (!c) H1
theorem ZkK (ha:PT X a tA):PW X (.BoolOp .And [a] pos) tA:=by
 intro wh jC s σ H Q I h;refine isTrue_and (ZM (ha jC s σ H Q I h) λc s1 e=>?_)
 cases c with
 | true=>exact isTrue_and_nil e
 | false=>exact e
theorem Zmq (ha:PT X a tA):PW X (.BoolOp .Or [a] pos) tA:=by
 intro wh jC s σ H Q I h;refine isTrue_or (ZM (ha jC s σ H Q I h) λc s1 e=>?_)
 cases c with
 | false=>exact isTrue_or_nil e
 | true=>exact e
theorem Zmr (ha:PT X a tA)(hb:PW X (.BoolOp .And (b::rest) pos) tB'):PW X (.BoolOp .And (a::b::rest) pos) (tAnd tA tB'):=by
 intro wh jC s σ H Q I h;refine isTrue_and (ZM (ha jC s σ H _ I h) λc s1 ⟨H1,I1,q1⟩=>?_)
 cases c with
 | true=>exact hb wh jC s1 σ H1 Q I1 q1
 | false=>exact⟨H1,I1,q1⟩
theorem Zny (ha:PT X a tA)(hb:PW X (.BoolOp .Or (b::rest) pos) tB'):PW X (.BoolOp .Or (a::b::rest) pos) (tOr tA tB'):=by
 intro wh jC s σ H Q I h;refine isTrue_or (ZM (ha jC s σ H _ I h) λc s1 ⟨H1,I1,q1⟩=>?_)
 cases c with
 | true=>exact⟨H1,I1,q1⟩
 | false=>exact hb wh jC s1 σ H1 Q I1 q1
theorem Zms (ha:PT X a tA):PT X (.UnaryOp .Not a pos) (tNot tA):=by
 intro jC s σ H Q I h;exact isTrue_not (ha jC s σ H (λc H1=>Q (!c) H1) I h)
noncomputable def Znz (ta:TE):TE:=fun σ H Q=>ta σ H λx H1=>∃c,x=.bl c/\Q (.bl (!c)) H1
theorem Zmt (ha:PE X a ta):PE X (.UnaryOp .Not a pos) (Znz ta):=by
 intro jC s σ H Q I h;refine UnaryOp_ (ZM (ha jC s σ H _ I h) λv s1 ⟨x,H1,I1,r1,q1⟩=>?_);obtain⟨c,rfl,q1⟩:=q1
 cases r1
 exact not_of (wpAny_truthy_bool ⟨.bl (!c),H1,I1,rfl,q1⟩)
noncomputable def tIf (t:TT)(ta tb:TE):TE:=fun σ H Q=>t σ H λc H1=>if c=true then ta σ H1 Q else tb σ H1 Q
theorem ZiR {c:Expr}(hc:PT X c tA)(ha:PE X a ta)(hb:PE X b tb):PE X (.IfExp c a b pos) (tIf tA ta tb):=by
 intro jC s σ H Q I h;refine wpAny_IfExp (ZM (hc jC s σ H _ I h) λd s1 ⟨H1,I1,q1⟩=>?_)
 cases d with
 | true=>exact ha jC s1 σ H1 Q I1 q1
 | false=>exact hb jC s1 σ H1 Q I1 q1
end
noncomputable def ZF (K:qk)(H:Hp)(a:Addr)(xs:List V):Prop:=
 Rd H a (.lst xs)∨
  ∃(o:Obj) (jE:Array Value) (n:Nat),K.lookup a=some o/\o.cls=.type "list"/\o.dict=none/\o.data=.seq jE n/\jE.size<=xg/\Zy xs jE.toList
noncomputable def ZI (K:qk)(H:Hp)(a:Addr)(xs:List V):Prop:=
 Rd H a (.tup xs)∨
  ∃(o:Obj) (jE:Array Value) (n:Nat),K.lookup a=some o/\o.cls=.type "tuple"/\o.data=.seq jE n/\jE.size<=xg/\Zy xs jE.toList
noncomputable def absV:Value->Option V
 | .none=>some .non
 | .bool b=>some (.bl b)
 | .int i _=>some (.int i)
 | .str x _=>some (.str x)
 | .bytes b _=>some (.byt b)
 | .float b _=>some (.flt b)
 | .ref a=>some (.ref a)
 | .type n=>some (.ty n)
 | _=>none
theorem ZH.abs {x:V}{u:Value}(r:ZH x u):absV u=some x:=by
 cases x with
 | non=>cases r;rfl
 | bl _=>cases r;rfl
 | int _=>obtain⟨t,rfl⟩:=r;rfl
 | str _=>obtain⟨t,rfl⟩:=r;rfl
 | byt _=>obtain⟨t,rfl⟩:=r;rfl
 | flt _=>obtain⟨t,rfl⟩:=r;rfl
 | ref _=>cases r;rfl
 | ty _=>cases r;rfl
theorem ZH.inj {x y:V}{u:Value}(r:ZH x u)(q:ZH y u):x=y:=zp (r.abs.symm.trans q.abs)
theorem Zy.inj:∀{xs ys:List V} {us:List Value},Zy xs us->Zy ys us->xs=ys
 | _,_,_,.nil,.nil=>rfl
 | _,_,_,.cons r t,.cons r' t'=>by rw[r.inj r',Zy.inj t t']
section
variable {X:Cx}{jC:Qb}{σ:St}{H:Hp}{s:Shared}{a:Addr}{xs ys:List V}
theorem ZF.of {K:qk}(h:H a=some (.lst xs)):ZF K H a xs:=.inl (.inl h)
theorem ZI.of {K:qk}(h:H a=some (.tup xs)):ZI K H a xs:=.inl (.inl h)
theorem Inv.list (I:Inv X jC σ H s)(h:ZF X.K H a xs):∃jE:List Value,Zy xs jE/\PlainL s.heap a jE.toArray/\xs.length<=xg:=by
 rcases h with h | ⟨o,jE,n,hk,hc,hd,hs,hz,r⟩
 ·obtain⟨z,jE,n,r,e⟩:=h.ok I.hok
  exact⟨jE,r,⟨_,n,e,rfl,rfl,rfl⟩,z⟩
 ·refine⟨jE.toList,r,⟨o,n,I.kIn a o hk,hc,hd,by simpa using hs⟩,?_⟩
  have e:=r.length;simp only[qz]at e;omega
theorem Inv.tuple (I:Inv X jC σ H s)(h:ZI X.K H a xs):∃jE:List Value,Zy xs jE/\IsTup s.heap a jE.toArray/\xs.length<=xg:=by
 rcases h with h | ⟨o,jE,n,hk,hc,hs,hz,r⟩
 ·obtain⟨z,jE,r,p⟩:=h.ok I.hok
  exact⟨jE,r,p,z⟩
 ·refine⟨jE.toList,r,⟨o,I.kIn a o hk,hc,n,by simpa using hs⟩,?_⟩
  have e:=r.length;simp only[qz]at e;omega
theorem Inv.list_inj (I:Inv X jC σ H s)(h:ZF X.K H a xs)(h':ZF X.K H a ys):xs=ys:=by
 obtain⟨jE,r,⟨o,n,e,_,_,d⟩,_⟩:=I.list h;obtain⟨its',r',⟨o',n',e',_,_,d'⟩,_⟩:=I.list h';rw[e]at e';cases e';rw[d]at d';injection d' with d1 _;have:jE=its':=by simpa using congrArg qc7 d1
 subst this;exact r.inj r'
theorem Inv.tuple_inj (I:Inv X jC σ H s)(h:ZI X.K H a xs)(h':ZI X.K H a ys):xs=ys:=by
 obtain⟨jE,r,⟨o,e,_,n,d⟩,_⟩:=I.tuple h;obtain⟨its',r',⟨o',e',_,n',d'⟩,_⟩:=I.tuple h';rw[e]at e';cases e';rw[d]at d';injection d' with d1 _;have:jE=its':=by simpa using congrArg qc7 d1
 subst this;exact r.inj r'
end
noncomputable abbrev Cx.wish (X:Cx)(E:xB):Cx:={ X with xe:=E }
noncomputable abbrev Cx.nox (X:Cx):Cx:=X.wish λ_ _=>False
theorem Cx.Ok.wish {X:Cx}(ok:X.Ok)(E:xB):(X.wish E).Ok:=
 ⟨ok.mod,ok.kind,ok.glob,ok.blt,ok.above,ok.inj,ok.has,ok.cab,ok.hd,ok.frames,ok.stk,ok.exf,ok.bs,ok.bsz,ok.noex,ok.exfs,ok.funs,ok.frf⟩
theorem Cx.Ok.unwish {X:Cx}{E:xB}(ok:(X.wish E).Ok):X.Ok:=
 ⟨ok.mod,ok.kind,ok.glob,ok.blt,ok.above,ok.inj,ok.has,ok.cab,ok.hd,ok.frames,ok.stk,ok.exf,ok.bs,ok.bsz,ok.noex,ok.exfs,ok.funs,ok.frf⟩
section
variable {X:Cx}{jC:Qb}{σ:St}{H:Hp}{s:Shared}{E:xB}
theorem Inv.wish (I:Inv X jC σ H s)(E:xB):Inv (X.wish E) jC σ H s:=⟨I.ok.wish E,I.os,I.bare,I.base,I.loc,I.cell,I.free,I.freeC,I.pin,I.hok,I.len⟩
theorem Inv.unwish (I:Inv (X.wish E) jC σ H s):Inv X jC σ H s:=⟨I.ok.unwish,I.os,I.bare,I.base,I.loc,I.cell,I.free,I.freeC,I.pin,I.hok,I.len⟩
theorem SP.unwish {D:Ends}{f:Flow}{s':Shared}(h:SP (X.wish E) jC D f s'):SP X jC D f s':=by
 cases f with
 | next=>obtain⟨σ',H',I,q⟩:=h;exact⟨σ',H',I.unwish,q⟩
 | brk=>obtain⟨σ',H',I,q⟩:=h;exact⟨σ',H',I.unwish,q⟩
 | cont=>obtain⟨σ',H',I,q⟩:=h;exact⟨σ',H',I.unwish,q⟩
 | ret u=>obtain⟨v,σ',H',I,r,q⟩:=h;exact⟨v,σ',H',I.unwish,r,q⟩
theorem PE.nox {e:Expr}{t:TE}(h:PE X.nox e t):PE X e t:=λjC s σ H Q I hw=>
 xc (h jC s σ H Q (I.wish _) hw) (λ_ _ ⟨v,H',I',r,q⟩=>⟨v,H',I'.unwish,r,q⟩) λ_ _ z=>yq z
theorem Wj.nox {st:List Stmt}{t:TS}(h:Wj X.nox st t):Wj X st t:=λjC s σ H D I hw=>
 xc (h jC s σ H D (I.wish _) hw) (λ_ _ q=>q.unwish) λ_ _ z=>yq z
end
section
variable {X:Cx}{st:Stmt}{rest:List Stmt}{t u:TS}{e:Expr}{te:TE}{pos:Pos}
noncomputable def ZnA:TS:=λD σ H=>D.nx σ H
noncomputable def Jd (t u:TS):TS:=λD σ H=>t { D with nx:=u D } σ H
theorem Zeb:Wj X [] ZnA:=λ_ _ σ H _ I h=>wpAny_execs_nil ⟨σ,H,I,h⟩
theorem VE (h1:PS X st t)(h2:Wj X rest u):Wj X (st::rest) (Jd t u):=by
 intro jC s σ H D I h;refine wpAny_execs_cons (ZM (h1 jC s σ H { D with nx:=u D } I h) λf s1 q=>?_)
 cases f with
 | next=>
  obtain⟨σ',H',I',q⟩:=q;exact h2 jC s1 σ' H' D I' q
 | ret v=>exact q
 | brk=>exact q
 | cont=>exact q
theorem JQ (h1:PS X st t):Wj X [st] t:=by
 intro jC s σ H D I h;refine wpAny_execs_cons (ZM (h1 jC s σ H D I h) λf s1 q=>?_)
 cases f with
 | next=>exact wpAny_execs_nil q
 | ret v=>exact q
 | brk=>exact q
 | cont=>exact q
theorem Inv.quiet {jC:Qb}{σ:St}{H:Hp}{s:Shared}(I:Inv X jC σ H s):interactive X.env=false:=by simp[interactive,I.ok.kind]
noncomputable def ZgZ (te:TE):TS:=λD σ H=>te σ H λ_ H1=>D.nx σ H1
theorem ZkL (he:PE X e te)(hs:xq e none pos.line X.env=pure false:=by rfl):PS X (.Expr e pos) (ZgZ te):=by
 intro jC s σ H D I h;exact wpAny_Expr_any (ZM (he jC s σ H _ I h) λv s1 ⟨x,H1,I1,r1,q1⟩=>⟨σ,H1,I1,q1⟩) I.quiet hs
noncomputable def tRet (te:TE):TS:=λD σ H=>te σ H D.rt
theorem ZfZ (he:PE X e te):PS X (.Return (some e) pos) (tRet te):=by
 intro jC s σ H D I h;exact wpAny_Return_some (ZM (he jC s σ H _ I h) λv s1 ⟨x,H1,I1,r1,q1⟩=>⟨x,σ,H1,I1,r1,q1⟩)
noncomputable def tIfS (c:TT)(t u:TS):TS:=λD σ H=>c σ H λb H1=>if b=true then t D σ H1 else u D σ H1
theorem Zg0 {c:Expr}{a b:List Stmt}{tc:TT}(hc:PT X c tc)(ha:Wj X a t)(hb:Wj X b u):PS X (.If c a b pos) (tIfS tc t u):=by
 intro jC s σ H D I h;refine wpAny_If (ZM (hc jC s σ H _ I h) λd s1 ⟨H1,I1,q1⟩=>?_)
 cases d with
 | true=>exact ha jC s1 σ H1 D I1 q1
 | false=>exact hb jC s1 σ H1 D I1 q1
end
noncomputable abbrev TG:=V->St->Hp->(St->Hp->Prop)->Prop
noncomputable abbrev UO:=List V->St->Hp->(St->Hp->Prop)->Prop
noncomputable def PG (X:Cx)(target:Expr)(t:TG):Prop:=
 ∀(jC:Qb) (s:Shared) (σ:St) (H:Hp) (v:V) (u:Value) (Q:St->Hp->Prop),Inv X jC σ H s->ZH v u->t v σ H Q->
  xf (xw X.prog X.w) X.A (assign target X.env u) (λ_ s'=>∃σ' H',Inv X jC σ' H' s'/\Q σ' H') X.xe s
noncomputable def Bz (X:Cx)(ts:List Expr)(t:UO):Prop:=
 ∀(jC:Qb) (s:Shared) (σ:St) (H:Hp) (vs:List V) (us:List Value) (Q:St->Hp->Prop),Inv X jC σ H s->Zy vs us->t vs σ H Q->
  xf (xw X.prog X.w) X.A (assignInOrder ((assignEach ts X.env).map (·.2)) us) (λ_ s'=>∃σ' H',Inv X jC σ' H' s'/\Q σ' H') X.xe s
noncomputable abbrev TSet:=V->V->V->Hp->(Hp->Prop)->Prop
noncomputable def PSet (X:Cx)(t:TSet):Prop:=
 ∀(jC:Qb) (s:Shared) (σ:St) (H:Hp) (o i v:V) (ov iv u:Value) (Q:Hp->Prop),Inv X jC σ H s->ZH o ov->ZH i iv->ZH v u->t o i v H Q->
  xf (xw X.prog X.w) X.A (setItem ov iv u) (λ_ s'=>∃H',Inv X jC σ H' s'/\Q H') X.xe s
section
variable {X:Cx}{pos:Pos}
noncomputable def U7 (i:Nat):TG:=λv σ H Q=>Q (σ.set i (some v)) H
theorem B9 {i:Nat}{x:Str}(hN:X.N.Nodup)(hi:X.N[i]?=some x)(hx:Ve X.env.scope x)(hf:X.fn x=true∨X.env.scope.names.lookup x=some .local:=by first | exact .inl rfl | exact .inr rfl | assumption):PG X (.Name x pos) (U7 i):=by
 intro jC s σ H v u Q I r h;exact wpAny_assign_Name (B0 I hN hi hx r (λs' I'=>⟨_,H,I',h⟩) hf)
noncomputable def gNil:UO:=λvs σ H Q=>vs=[]/\Q σ H
noncomputable def ZiS (t:TG)(u:UO):UO:=λvs σ H Q=>∃v r,vs=v::r/\t v σ H fun σ' H'=>u r σ' H' Q
theorem ZkM:Bz X [] gNil:=by
 intro jC s σ H vs us Q I r h;obtain⟨e,h⟩:=h;subst e
 cases r
 exact assignInOrder_nil ⟨σ,H,I,h⟩
theorem ZeX {e:Expr}{es:List Expr}{t:TG}{u:UO}(h1:PG X e t)(h2:Bz X es u)
  (hs:(assignEach (e::es) X.env).map (·.2)=assign e X.env::(assignEach es X.env).map (·.2):=by rfl):Bz X (e::es) (ZiS t u):=by
 intro jC s σ H vs us Q I r h;obtain⟨v,vr,e1,h⟩:=h;subst e1
 cases r with
 | cons r rr=>
  rw[hs];refine assignInOrder_cons (ZM (h1 jC s σ H _ _ _ I r h) λ_ s1 ⟨σ1,H1,I1,q1⟩=>?_);exact h2 jC s1 σ1 H1 _ _ Q I1 rr q1
noncomputable def gTup (K:qk)(n:Nat)(t:UO):TG:=λv σ H Q=>∃a xs,v=.ref a/\ZI K H a xs/\xs.length=n/\t xs σ H Q
theorem Zmu {es:List Expr}{k:Nat}{t:UO}{n:Nat}(hc:X.calm=true)(h:Bz X es t)
  (hn:(assignEach es X.env).length=n:=by rfl) (hst:(assignEach es X.env).findIdx? (·.1)=none:=by rfl):PG X (.Tuple es k pos) (gTup X.K n t):=by
 intro jC s σ H v u Q I r hw;obtain⟨a,xs,e1,hq,hl,hw⟩:=hw;subst e1
 cases r
 obtain⟨jE,rv,ht,hz⟩:=I.tuple hq;refine assign_Tuple_tuple (I.ok.hd hc) ht (by simp[hn,<-hl,rv.length]) hst λh' hx=>?_;have I1:Inv X jC σ H { s with heap:=h' }:=I.kept (t':=s.toks) λb o e=>hx b o (qR (qJ e)) e;exact h jC _ σ H xs _ Q I1 (by simpa using rv) hw
noncomputable def Bm (to ti:TE)(t:TSet):TG:=λv σ H Q=>to σ H λo H1=>ti σ H1 λi H2=>t o i v H2 λH3=>Q σ H3
theorem Zf0 {o i:Expr}{to ti:TE}{t:TSet}(ho:PE X o to)(hi:PE X i ti)(hs:PSet X t)
  (ha:∀v,assign (.Subscript o i pos) X.env v=(do
   let ov<-holding [v] (eval o X.env)
   let iv<-holding [v,ov] (eval i X.env)
   standAt pos
   holding [v,ov,iv] (setItem ov iv v)
   release [v,ov,iv] []):=by intro _;rfl):PG X (.Subscript o i pos) (Bm to ti t):=by
 intro jC s σ H v u Q I r h;rw[ha];refine xa (xt (ZM (ho jC s σ H _ I h) λov s1 ⟨x,H1,I1,r1,q1⟩=>?_));refine xa (xt (ZM (hi jC s1 σ H1 _ I1 q1) λiv s2 ⟨y,H2,I2,r2,q2⟩=>?_));refine xa (wpAny_standAt (xa (xt (ZM (hs jC s2 σ H2 x y v ov iv u _ I2 r1 r2 r q2) λ_ s3 ⟨H3,I3,q3⟩=>?_))));exact wpAny_release ⟨σ,H3,I3,q3⟩
noncomputable def V8 (te:TE)(g:TG):TS:=λD σ H=>te σ H λx H1=>g x σ H1 D.nx
theorem Zec {tg e:Expr}{te:TE}{g:TG}(he:PE X e te)(hg:PG X tg g)(hs:swapsWithSole [tg] e pos.line X.env=pure false:=by rfl)(hw:swappedStores [tg] e X.env=pure none:=by rfl)
  (h1:(assignEach [tg] X.env).map (·.2)=[assign tg X.env]:=by rfl):PS X (.Assign [tg] e pos) (V8 te g):=by
 intro jC s σ H D I h;refine wpAny_Assign_stores (ZM (he jC s σ H _ I h) λv s1 ⟨x,H1,I1,r1,q1⟩=>?_) hs hw;rw[h1];exact ZM (hg jC s1 σ H1 x v _ I1 r1 q1) λ_ s2 q=>q
theorem Uz {i:Nat}{x:Str}{e:Expr}{te:TE}{pos':Pos}(hN:X.N.Nodup)(hi:X.N[i]?=some x)(hx:Ve X.env.scope x)(he:PE X e te)(hs:xq e (some (.Name x pos')) pos.line X.env=pure false:=by rfl)(hf:X.fn x=true∨X.env.scope.names.lookup x=some .local:=by first | exact .inl rfl | exact .inr rfl | assumption) :
  PS X (.Assign [.Name x pos'] e pos) (V8 te (U7 i)):=by
 intro jC s σ H D I h;refine wpAny_Assign_Name (ZM (he jC s σ H _ I h) λv s1 ⟨y,H1,I1,r1,q1⟩=>?_) hs;exact B0 I1 hN hi hx r1 (λs2 I2=>⟨_,H1,I2,q1⟩) hf
noncomputable def tPar (i j:Nat)(ta:TA):TS:=λD σ H=>ta σ H λvs H1=>∃v w,vs=[v,w]/\D.nx ((σ.set i (some v)).set j (some w)) H1
theorem Zmv {i j:Nat}{x y:Str}{a b:Expr}{ta:TA}{px py pt:Pos}{kt k2 pt2}(hc:X.calm=true)(hN:X.N.Nodup)(hi:X.N[i]?=some x)(hj:X.N[j]?=some y)(hij:i≠j)
  (hx:X.env.scope.names.lookup x=some .local) (hy:X.env.scope.names.lookup y=some .local) (ha:PA X [a,b] ta)
  (hw:swappedStores [.Tuple [.Name x px,.Name y py] kt pt] (.Tuple [a,b] k2 pt2) X.env=pure (some [x,y]))
  (hs:swapsWithSole [.Tuple [.Name x px,.Name y py] kt pt] (.Tuple [a,b] k2 pt2) pos.line X.env=pure false:=by rfl) :
  PS X (.Assign [.Tuple [.Name x px,.Name y py] kt pt] (.Tuple [a,b] k2 pt2) pos) (tPar i j ta):=by
 intro jC s σ H D I h;rw[exec_Assign_arm];refine xa (wpAny_standAt ?_);rw[hs];refine xa (xb ?_);rw[if_neg (by decide)];refine xa (Tuple_ (ZM (ha _ jC s σ H _ I h) λus s1 ⟨vs,H1,I1,r1,q1⟩=>?_));obtain⟨v,w,e1,q1⟩:=q1;subst e1;obtain⟨u1,u2,rfl,rv,rw'⟩:∃u1 u2,us=[u1,u2]/\ZH v u1/\ZH w u2:=by
  cases r1 with
  | cons p q=>
   cases q with
   | cons p' q'=>
    cases q'
    exact⟨_,_,rfl,p,p'⟩
 refine xl ?_ (by show 2<=xg;decide);have I2:Inv X jC σ H1 { s1 with heap:=s1.heap.push { cls:=.type "tuple",data:=.seq [u1,u2].toArray } }:=I1.kept (t':=s1.toks) λb o e=>qf _ e;rw[hw];refine xa (xb ?_);show xf (xw X.prog X.w) X.A (do rule "assign.swapped-stores";let items<-unpackItems (.ref s1.heap.objs.size) 2 none;assignInOrder [λv=>bindName X.env y v,λv=>bindName X.env x v] items.reverse;pure Flow.next) _ _ _;refine xa (wpAny_rule (xa (unpackItems_tuple (items:=#[u1,u2]) (I.ok.hd hc) (qbR s1.heap _) λh' hx'=>?_)));have I3:=I2.kept (h':=h') (t':=s1.toks) λb o e=>hx' b o (qR (qJ e)) e;show xf _ _ (assignInOrder [λv=>bindName X.env y v,λv=>bindName X.env x v] [u2,u1] >>= λ_=>pure Flow.next) _ _ _;refine xa (assignInOrder_cons (wpAny_bindName (B0 I3 hN hj (.inl hy) rw' (λs2 I4=>?_) (.inr hy))));refine assignInOrder_cons (wpAny_bindName (B0 I4 hN hi (.inl hx) rv (λs3 I5=>assignInOrder_nil (xb ?_)) (.inr hx)));rw[List.set_comm _ _ (zH hij)]at I5;exact⟨_,H1,I5,q1⟩
end
section
variable {X:Cx}{pos:Pos}
end
structure It where
 go:Nat->Hp->Prop
 yld:Nat->Hp->V->Hp->Prop
 stop:Nat->Hp->Prop
noncomputable def Ws (X:Cx)(jC:Qb)(H:Hp)(b:Addr):Prop:=
 H b=none/\b≠X.env.locals/\b∉X.fs/\(b∈X.ex∨X.s₀.heap.objs.size<=b)/\(∀x c,X.env.cells.lookup x=some c->c≠b)/\∀p∈X.pn++jC,p.1≠b
theorem Inv.fpOk {X:Cx}{jC:Qb}{σ:St}{H H':Hp}{s:Shared}{b:Addr}(I:Inv X jC σ H s)(hb:s.heap.objs.size<=b)(hn:H' b=none):Ws X jC H' b:=by
 refine⟨hn,qbB (zd I.lt hb),I.nofs hb,.inr (zj I.sz hb),λx c e z=>?_,λp hp z=>?_⟩
 ·obtain⟨v,q⟩:=I.cell x c e
  exact absurd (zd q.lt (by rw[z];exact hb)) (yC _)
 ·exact absurd (zd (qJ (I.pin p hp).1) (by rw[z];exact hb)) (yC _)
structure Turn (P:xz)(w:World)(K:qk)(tg:Expr)(J:It)(fp:List Addr)(it:Addr)(tn:Nat->Heap->Prop):Prop where
 mem:it∈fp
 obj:∀i h,tn i h->∀b∈fp,∃o,h.get? b=some o/\∀v,o.data≠.cell v
 keep:∀i h h',tn i h->(∀b∈fp,∀o,h.get? b=some o->h'.get? b=some o)->tn i h'
 item:∀(X:Cx),X.prog=P->X.w=w->X.K=K->X.calm=true->∀(i:Nat) (jC:Qb) (s:Shared) (σ:St) (H:Hp) (E:xB),Inv X jC σ H s->(∀b∈fp,Ws X jC H b)->tn i s.heap->J.go i H->
  xf (xw P w) X.A (pyNext (.ref it)) (λr s1=>∃u,r=some u/\
   xf (xw P w) X.A (letOwnedTupleGo tg (.ref it) u) (λ_ s2=>∃x H',Inv X jC σ H' s2/\ZH x u/\J.yld i H x H'/\tn (i+1) s2.heap/\∀b∈fp,H' b=none) E s1) E s
 done:∀(X:Cx),X.prog=P->X.w=w->X.K=K->X.calm=true->∀(i:Nat) (jC:Qb) (s:Shared) (σ:St) (H:Hp) (E:xB),Inv X jC σ H s->(∀b∈fp,Ws X jC H b)->tn i s.heap->J.stop i H->
  xf (xw P w) X.A (pyNext (.ref it)) (λr s1=>r=none/\Inv X jC σ H s1) E s
 self:∀(A:xA) (i:Nat) (s:Shared) (Q:xB) (E:xB),tn i s.heap->Q (.ref it) s->xf (xw P w) A (pyIter (.ref it)) Q E s
noncomputable abbrev TI:=St->Hp->(It->Hp->Prop)->Prop
noncomputable def PIE (X:Cx)(jC:Qb)(σ:St)(tg:Expr)(R:It->Hp->Prop)(itv:Value)(s2:Shared):Prop:=
 ∃(it:Addr) (fp:List Addr) (tn:Nat->Heap->Prop) (J:It) (H':Hp),itv=.ref it/\Inv X jC σ H' s2/\Turn X.prog X.w X.K tg J fp it tn/\tn 0 s2.heap/\(∀b∈fp,Ws X jC H' b)/\R J H'
noncomputable def PI (X:Cx)(tg iter:Expr)(wi:TI):Prop:=
 ∀(jC:Qb) (s:Shared) (σ:St) (H:Hp) (R:It->Hp->Prop),Inv X jC σ H s->wi σ H R->
  xf (xw X.prog X.w) X.A (eval iter X.env) (λv s1=>xf (xw X.prog X.w) X.A (pyIter v) (PIE X jC σ tg R) X.xe s1) X.xe s
theorem ZiT {M : Model}{A : xA}{E : Value -> Shared -> Prop}{s : Shared}{tg : Expr}{it : Addr}{u : Value}{o : Obj}{n : String}{vs : Array Value}{Q : Unit -> Shared -> Prop}(ho : s.heap.get? it = some o)(hc : o.cls = .type n)(hd : o.data = .fields vs)
    (hn : ["enumerate", "zip", "dict_itemiterator", "dict_reverseitemiterator", "odict_iterator", "itertools.zip_longest", "itertools.pairwise"].contains n = false) (hQ : Q () s) : xf M A (letOwnedTupleGo tg (.ref it) u) Q E s := by
  unfold letOwnedTupleGo
  cases tg <;> first
    | exact xb hQ
    | (cases u <;> first
        | exact xb hQ
        | (refine xa (wpAny_load ho ?_)
           rw[hc, hd];show xf M A (if (["enumerate", "zip", "dict_itemiterator", "dict_reverseitemiterator", "odict_iterator", "itertools.zip_longest", "itertools.pairwise"].contains n && vs[0]? == some (rawInt _)) = true then _ else _) Q E s;rw[if_neg (by intro h; rw[hn, Bool.false_and] at h; cases h)];exact xb hQ))
noncomputable def Itl (K:qk)(a:Addr):It:=
 ⟨λi H=>∃xs x,ZF K H a xs/\xs[i]?=some x,λi H x H'=>H'=H/\∀xs,ZF K H a xs->xs[i]?=some x,λi H=>∃xs,ZF K H a xs/\xs.length<=i⟩
noncomputable def Itt (K:qk)(a:Addr):It:=
 ⟨λi H=>∃xs x,ZI K H a xs/\xs[i]?=some x,λi H x H'=>H'=H/\∀xs,ZI K H a xs->xs[i]?=some x,λi H=>∃xs,ZI K H a xs/\xs.length<=i⟩
noncomputable def BA (lo:Int)(n:Nat):It:=⟨λi _=>i<n,λi H x H'=>H'=H/\x=.int (lo+i),λi _=>n<=i⟩
theorem ZhN {P:xz}{w:World}{K:qk}{tg:Expr}(a it:Addr):Turn P w K tg (Itl K a) [it] it (λi h=>h.IsListIter it a i) where
 mem:=by simp
 obj:=λi h st b hb=>by
  have e:b=it:=by simpa using hb
  subst e;obtain⟨o,e,c,d⟩:=st;exact⟨o,e,λv z=>by rw[d]at z;cases z⟩
 keep:=λi h h' st k=>st.at λo e=>k it (by simp) o e
 item:=by
  intro X hP hw hK hc i jC s σ H E I hf st hg;subst hP hw hK;obtain⟨xs,x,hq,hx⟩:=hg;obtain⟨jE,rv,p,hz⟩:=I.list hq;obtain⟨u,hu,ru⟩:=rv.get hx;obtain⟨f0,f1,f2,f3,f4,f5⟩:=hf it (by simp);refine wpAny_pyNext_list_item st p.isList (x:=u) (by simpa using hu) λh' st' sb=>?_;have I1:Inv X jC σ H { s with heap:=h' }:=I.turned (t':=s.toks) (λb o hb e=>(sb.2 b hb).trans e) f0 f1 f3 f4 f5;obtain⟨o,e,c,d⟩:=id st';exact⟨u,rfl,ZiT (s:={ s with heap:=h' }) e c d (by decide) ⟨x,H,I1,ru,⟨rfl,λys hy=>by rw[I.list_inj hy hq];exact hx⟩,st',λb hb=>(hf b hb).1⟩⟩
 done:=by
  intro X hP hw hK hc i jC s σ H E I hf st hg;subst hP hw hK;obtain⟨xs,hq,hx⟩:=hg;obtain⟨jE,rv,p,hz⟩:=I.list hq;obtain⟨f0,f1,f2,f3,f4,f5⟩:=hf it (by simp);have hl:=rv.length;exact wpAny_pyNext_list_end (I.ok.hd hc) st p.isList (by simp;omega) λh' eb=>⟨rfl,I.turned (t':=s.toks) (λb o hb e=>eb b o hb e) f0 f1 f3 f4 f5⟩
 self:=λ_ _ _ _ _ st h=>wpAny_pyIter_listiter st h
theorem Zf1 {P:xz}{w:World}{K:qk}{tg:Expr}(a it:Addr):Turn P w K tg (Itt K a) [it] it (λi h=>h.IsTupleIter it a i) where
 mem:=by simp
 obj:=λi h st b hb=>by
  have e:b=it:=by simpa using hb
  subst e;obtain⟨o,e,c,d⟩:=st;exact⟨o,e,λv z=>by rw[d]at z;cases z⟩
 keep:=λi h h' st k=>st.at λo e=>k it (by simp) o e
 item:=by
  intro X hP hw hK hc i jC s σ H E I hf st hg;subst hP hw hK;obtain⟨xs,x,hq,hx⟩:=hg;obtain⟨jE,rv,p,hz⟩:=I.tuple hq;obtain⟨u,hu,ru⟩:=rv.get hx;obtain⟨f0,f1,f2,f3,f4,f5⟩:=hf it (by simp);refine wpAny_pyNext_tuple_item st (show s.heap.IsTuple a jE.toArray from p) (x:=u) (by simpa using hu) λh' st' sb=>?_;have I1:Inv X jC σ H { s with heap:=h' }:=I.turned (t':=s.toks) (λb o hb e=>(sb.2 b hb).trans e) f0 f1 f3 f4 f5;obtain⟨o,e,c,d⟩:=id st';exact⟨u,rfl,ZiT (s:={ s with heap:=h' }) e c d (by decide) ⟨x,H,I1,ru,⟨rfl,λys hy=>by rw[I.tuple_inj hy hq];exact hx⟩,st',λb hb=>(hf b hb).1⟩⟩
 done:=by
  intro X hP hw hK hc i jC s σ H E I hf st hg;subst hP hw hK;obtain⟨xs,hq,hx⟩:=hg;obtain⟨jE,rv,p,hz⟩:=I.tuple hq;obtain⟨f0,f1,f2,f3,f4,f5⟩:=hf it (by simp);have hl:=rv.length;exact wpAny_pyNext_tuple_end (I.ok.hd hc) st (show s.heap.IsTuple a jE.toArray from p) (by simp;omega) λh' eb=>⟨rfl,I.turned (t':=s.toks) (λb o hb e=>eb b o hb e) f0 f1 f3 f4 f5⟩
 self:=λ_ _ _ _ _ st h=>wpAny_pyIter_tupleiter st h
theorem Zf2 {P:xz}{w:World}{K:qk}{tg:Expr}(it:Addr)(lo:Int)(n:Nat):Turn P w K tg (BA lo n) [it] it (λi h=>IsRangeIter h it (lo+(i:Nat)*1) ((n:Int)-(i:Nat)) 1) where
 mem:=by simp
 obj:=λi h st b hb=>by
  have e:b=it:=by simpa using hb
  subst e;exact⟨_,st,λv z=>by
   have z':Data.fields _=Data.cell v:=z
   cases z'⟩
 keep:=λi h h' st k=>k it (by simp) _ st
 item:=by
  intro X hP hw hK hc i jC s σ H E I hf st hg;subst hP hw hK;obtain⟨f0,f1,f2,f3,f4,f5⟩:=hf it (by simp);have W:=Walks.range (prog:=X.prog) (w:=X.w) (I.ok.hd hc) it lo 1 n;refine W.item i s _ _ hg st λv h' tk hv st' kk=>?_;obtain⟨t,rfl⟩:=hv;have I1:Inv X jC σ H { s with heap:=h',toks:=tk }:=I.turned (λb o hb e=>kk b o (by simpa using hb) e) f0 f1 f3 f4 f5;refine⟨_,rfl,ZiT (s:={ s with heap:=h',toks:=tk }) (n:="range_iterator") st' rfl rfl (by decide) ⟨.int (lo+i),H,I1,⟨t,?_⟩,⟨rfl,rfl⟩,st',λb hb=>(hf b hb).1⟩⟩;rw[Int.mul_one]
 done:=by
  intro X hP hw hK hc i jC s σ H E I hf st hg;subst hP hw hK;obtain⟨f0,f1,f2,f3,f4,f5⟩:=hf it (by simp);exact wpAny_pyNext_range_end (I.ok.hd hc) st (by have:n<=i:=hg;omega) λh' eb=>⟨rfl,I.turned (t':=s.toks) (λb o hb e=>eb b o hb e) f0 f1 f3 f4 f5⟩
 self:=λ_ _ _ _ _ st h=>wpAny_pyIter_rangeiter st h
section
variable {X:Cx}{tg:Expr}
noncomputable def ZnB (K:qk)(tl:TE):TI:=fun σ H R=>tl σ H λx H1=>∃a,x=.ref a/\(∃xs,ZF K H1 a xs)/\R (Itl K a) H1
noncomputable def iTup (K:qk)(tl:TE):TI:=fun σ H R=>tl σ H λx H1=>∃a,x=.ref a/\(∃xs,ZI K H1 a xs)/\R (Itt K a) H1
theorem ZkN {l:Expr}{tl:TE}(hl:PE X l tl):PI X tg l (ZnB X.K tl):=by
 intro jC s σ H R I h;refine ZM (hl jC s σ H _ I h) λv s1 ⟨x,H1,I1,r1,q1⟩=>?_;obtain⟨a,e,⟨xs,hq⟩,q⟩:=q1;subst e
 cases r1
 obtain⟨jE,rv,p,hz⟩:=I1.list hq;refine wpAny_pyIter_list p.isList ?_;refine⟨s1.heap.objs.size,[s1.heap.objs.size],_,_,H1,rfl,I1.kept (t':=s1.toks) λb o e=>qf _ e,ZhN a _,⟨_,qI _ rfl,rfl,rfl⟩,λb hb=>?_,q⟩;have e:b=s1.heap.objs.size:=by simpa using hb
 subst e;exact I1.fpOk (qm _) (I1.hok.fresh (qm _))
theorem Zmw {l:Expr}{tl:TE}(hl:PE X l tl):PI X tg l (iTup X.K tl):=by
 intro jC s σ H R I h;refine ZM (hl jC s σ H _ I h) λv s1 ⟨x,H1,I1,r1,q1⟩=>?_;obtain⟨a,e,⟨xs,hq⟩,q⟩:=q1;subst e
 cases r1
 obtain⟨jE,rv,p,hz⟩:=I1.tuple hq;refine wpAny_pyIter_tuple (show s1.heap.IsTuple a jE.toArray from p) ?_;refine⟨s1.heap.objs.size,[s1.heap.objs.size],_,_,H1,rfl,I1.kept (t':=s1.toks) λb o e=>qf _ e,Zf1 a _,⟨_,qI _ rfl,rfl,rfl⟩,λb hb=>?_,q⟩;have e:b=s1.heap.objs.size:=by simpa using hb
 subst e;exact I1.fpOk (qm _) (I1.hok.fresh (qm _))
theorem ZeY {jC:Qb}{σ:St}{H:Hp}{s:Shared}{R:It->Hp->Prop}{E:xB}{lo hi:Int}{t u v:Tok}{tk:Nat}(I:Inv X jC σ H s)(h1:-(2 ^ 62)<=lo)(h2:lo<2 ^ 62)(h3:-(2 ^ 62)<=hi)(h4:hi<2 ^ 62)
  (q:R (BA lo (hi-lo).toNat) H):xf (xw X.prog X.w) X.A (pyIter (.ref s.heap.objs.size)) (PIE X jC σ tg R) E { s with heap:=s.heap.push { cls:=.type "range",data:=.fields #[.int lo t,.int hi u,.int 1 v] },toks:=tk }:=by
 refine wpAny_pyIter_range (IsRange.new ..) (small_one h1 h2 h3 h4) ?_;have I1:Inv X jC σ H { s with heap:=s.heap.push { cls:=.type "range",data:=.fields #[.int lo t,.int hi u,.int 1 v] },toks:=tk }:=I.kept λb o e=>qf _ e;refine⟨(s.heap.push { cls:=.type "range",data:=.fields #[.int lo t,.int hi u,.int 1 v] }).objs.size,[(s.heap.push { cls:=.type "range",data:=.fields #[.int lo t,.int hi u,.int 1 v] }).objs.size],_,_,H,rfl,
  I1.kept (t':=tk) λb o e=>qf _ e,Zf2 _ lo (hi-lo).toNat,?_,λb hb=>?_,q⟩
 ·have e1:lo+((0:Nat):Int)*1=lo:=by simp
  have e2:(((hi-lo).toNat:Nat):Int)-((0:Nat):Int)=qbf lo hi 1:=by rw[rangeSize_one];split <;> omega
  show IsRangeIter _ _ (lo+((0:Nat):Int)*1) ((((hi-lo).toNat:Nat):Int)-((0:Nat):Int)) 1;rw[e1,e2];exact qI _ rfl
 ·have e:b=(s.heap.push { cls:=.type "range",data:=.fields #[.int lo t,.int hi u,.int 1 v] }).objs.size:=by simpa using hb
  subst e;exact I1.fpOk (qm _) (I1.hok.fresh (qm _))
noncomputable def ZnC (ta:TA):TI:=fun σ H R=>ta σ H λvs H1=>∃j:Int,vs=[.int j]/\-(2 ^ 62)<=j/\j<2 ^ 62/\R (BA 0 j.toNat) H1
noncomputable def ZnD (ta:TA):TI:=fun σ H R=>ta σ H λvs H1=>∃i j:Int,vs=[.int i,.int j]/\(-(2 ^ 62)<=i/\i<2 ^ 62/\-(2 ^ 62)<=j/\j<2 ^ 62)/\R (BA i (j-i).toNat) H1
theorem Zdt {a:Expr}{ta:TA}{p pos:Pos}(hg:Gl X "range")(hm:X.mg "range" = none)(ha:PA X [a] ta)(hs:xh [a] X.env=[(false,eval a X.env)]:=by rfl):PI X tg (.Call (.Name "range" p) [a] [] pos) (ZnC ta):=by
 intro jC s σ H R I h;refine Call_ (Uy I hg hm boot_range (yw (ZM (ha pos jC s σ H _ I h) λus s1 ⟨vs,H1,I1,r1,q1⟩=>?_) hs rfl));obtain⟨j,e,q1,q2,q⟩:=q1;subst e
 cases r1 with
 | cons r rr=>
  cases rr
  obtain⟨t,rfl⟩:=r;exact call_range_1 (ZeY I1 (by omega) (by omega) q1 q2 (by simpa using q))
theorem ZhO {a b:Expr}{ta:TA}{p pos:Pos}(hg:Gl X "range")(hm:X.mg "range" = none)(ha:PA X [a,b] ta)(hs:xh [a,b] X.env=[(false,eval a X.env),(false,eval b X.env)]:=by rfl)(hs2:xh [b] X.env=[(false,eval b X.env)]:=by rfl) :
  PI X tg (.Call (.Name "range" p) [a,b] [] pos) (ZnD ta):=by
 intro jC s σ H R I h;refine Call_ (Uy I hg hm boot_range (yw (ZM (ha pos jC s σ H _ I h) λus s1 ⟨vs,H1,I1,r1,q1⟩=>?_) (by rw[hs,hs2]) (by rw[hs2];rfl)));obtain⟨i,j,e,⟨q1,q2,q3,q4⟩,q⟩:=q1;subst e
 cases r1 with
 | cons r rr=>
  cases rr with
  | cons r' rr=>
   cases rr
   obtain⟨t,rfl⟩:=r;obtain⟨t',rfl⟩:=r';exact call_range_2 (ZeY I1 q1 q2 q3 q4 q)
noncomputable def tFor (wi:TI)(g:TG)(tb:TS):TS:=λD σ H=>wi σ H λJ H1=>∃W:Nat->Nat->St->Hp->Prop,(∃m,W 0 m σ H1)/\∀i m σ H,W i m σ H->
 (J.stop i H/\D.nx σ H)∨(J.go i H/\∃N:St->Hp->Prop,(∀σ' H',N σ' H'->∃m',m'<m/\W (i+1) m' σ' H')/\∀x H',J.yld i H x H'->g x σ H' fun σ2 H2=>tb { D with nx:=N,ct:=N,bk:=D.nx } σ2 H2)
noncomputable def JX (fp:List Addr)(h:Heap):Qb:=fp.filterMap λb=>(h.get? b).map λo=>(b,o)
theorem UU {fp:List Addr}{h:Heap}{b:Addr}{o:Obj}(hb:b∈fp)(e:h.get? b=some o):(b,o)∈JX fp h:=qaD.mpr ⟨b,hb,by rw[e];rfl⟩
theorem ZhP {fp:List Addr}{h:Heap}{p:Addr×Obj}(hp:p∈JX fp h):p.1∈fp/\h.get? p.1=some p.2:=by
 obtain⟨b,hb,e⟩:=qaD.mp hp
 cases q:h.get? b with
 | none=>rw[q]at e;cases e
 | some o=>
  rw[q]at e;have e':(b,o)=p:=zp e;subst e';exact⟨hb,q⟩
theorem Inv.pinned {jC:Qb}{σ:St}{H:Hp}{s:Shared}{fp:List Addr}(I:Inv X jC σ H s)(hf:∀b∈fp,Ws X jC H b)(ho:∀b∈fp,∃o,s.heap.get? b=some o/\∀v,o.data≠.cell v):Inv X (jC++JX fp s.heap) σ H s:=
 I.pins_of λp hp=>(qY.mp hp).elim (λz=>I.pin p (zg _ z)) λz=>by
  obtain⟨hb,e⟩:=ZhP z;obtain⟨f0,f1,f2,_⟩:=hf p.1 hb;obtain⟨o,e',d⟩:=ho p.1 hb;rw[e]at e';cases e';exact⟨e,f0,f1,f2,d⟩
theorem Inv.unpinned {jC pl:Qb}{σ:St}{H:Hp}{s:Shared}(I:Inv X (jC++pl) σ H s):Inv X jC σ H s:=I.pins_of λp hp=>I.pin p (zg _ (qal _ hp))
theorem Zmx {iter:Expr}{body:List Stmt}{wi:TI}{g:TG}{tb:TS}{pos:Pos}(hp:PassesOwn (xw X.prog X.w) X.A X.env X.xe)(hc:X.calm=true)(hi:PI X tg iter wi)(hg:PG X tg g)(hb:Wj X body tb)
  (hs:∀x,foldedSetIterable iter X.env x=pure x:=by intro _;rfl):PS X (.For tg iter body [] pos) (tFor wi g tb):=by
 intro jC s σ H D I h;refine wpAny_For (ZM (hi jC s σ H _ I h) λv s1 h1=>ZM h1 λitv s2 h2=>?_) hs;obtain⟨it,fp,tn,J,H2,e,I2,T,jO,f2,W,⟨m0,w0⟩,turn⟩:=h2;subst e
 -- what stays true of the iterator's objects through the loop
 have stat:∀{H':Hp},(∀b∈fp,H' b=none)->∀b∈fp,Ws X jC H' b:=λhn b hb=>⟨hn b hb,(f2 b hb).2⟩;refine codeAny_forLoop_any (λn s'=>∃i σ' H',Inv X jC σ' H' s'/\tn i s'.heap/\(∀b∈fp,H' b=none)/\W i n σ' H') ?_ m0 ⟨0,σ,H2,I2,jO,λb hb=>(f2 b hb).1,w0⟩;rintro n s3 ⟨i,σ3,H3,I3,st3,fr3,w3⟩;rcases turn i n σ3 H3 w3 with⟨stop,qn⟩ | ⟨go,N,hN,step⟩
 ·refine wpAny_passesOwn hp (ZM (T.done X rfl rfl rfl hc i jC s3 σ3 H3 X.xe I3 (stat fr3) st3 stop) λr s4 ⟨hr,I4⟩=>?_)
  subst hr;exact wpAny_execs_nil ⟨σ3,H3,I4,qn⟩
 ·refine wpAny_passesOwn hp (ZM (T.item X rfl rfl rfl hc i jC s3 σ3 H3 X.xe I3 (stat fr3) st3 go) λr s4 ⟨u,hr,h4⟩=>?_)
  subst hr;refine wpAny_passesOwn hp (ZM h4 λ_ s5 ⟨x,H5,I5,r5,y5,st5,fr5⟩=>?_);have I5':=I5.pinned (stat fr5) (T.obj _ _ st5);refine wpAny_passesOwn hp (ZM (hg _ s5 σ3 H5 x u _ I5' r5 (step x H5 y5)) λ_ s6 ⟨σ6,H6,I6,q6⟩=>?_);refine wpAny_passesOwn hp (ZM (hb _ s6 σ6 H6 _ I6 q6) λf s7 q7=>?_);have again:∀{σ7:St} {H7:Hp},Inv X (jC++JX fp s5.heap) σ7 H7 s7->N σ7 H7->∃m,m<n/\∃i σ' H',Inv X jC σ' H' s7/\tn i s7.heap/\(∀b∈fp,H' b=none)/\W i m σ' H':=λ{σ7 H7} I7 n7=>by
   obtain⟨m',hm,w7⟩:=hN σ7 H7 n7;refine⟨m',hm,i+1,σ7,H7,I7.unpinned,T.keep _ _ _ st5 λb hb o e=>(I7.pin (b,o) (zg _ (zg _ (UU hb e)))).1,λb hb=>?_,w7⟩;obtain⟨o,e,d⟩:=T.obj _ _ st5 b hb;exact(I7.pin (b,o) (zg _ (zg _ (UU hb e)))).2.1
  cases f with
  | next=>obtain⟨σ7,H7,I7,n7⟩:=q7;exact again I7 n7
  | cont=>obtain⟨σ7,H7,I7,n7⟩:=q7;exact again I7 n7
  | brk=>obtain⟨σ7,H7,I7,q7⟩:=q7;exact⟨σ7,H7,I7.unpinned,q7⟩
  | ret v=>obtain⟨x7,σ7,H7,I7,r7,q7⟩:=q7;exact⟨x7,σ7,H7,I7.unpinned,r7,q7⟩
end
noncomputable abbrev R2:=V->V->Hp->VK->Prop
noncomputable def Z7 (X:Cx)(f:Value->Value->Sem Value)(r:R2):Prop:=
 ∀(jC:Qb) (s:Shared) (σ:St) (H:Hp) (x y:V) (v u:Value) (Q:VK),Inv X jC σ H s->ZH x v->ZH y u->r x y H Q->
  xf (xw X.prog X.w) X.A (f v u) (EP X jC σ Q) X.xe s
noncomputable def Xb (X:Cx)(f:Value)(r:List V->Hp->VK->Prop):Prop:=
 ∀(jC:Qb) (s:Shared) (σ:St) (H:Hp) (xs:List V) (us:List Value) (Q:VK),Inv X jC σ H s->Zy xs us->r xs H Q->
  xf (xw X.prog X.w) X.A (call f us) (EP X jC σ Q) X.xe s
noncomputable def Wk (r:R2)(ta tb:TE):TE:=fun σ H Q=>ta σ H λx H1=>tb σ H1 λy H2=>r x y H2 Q
noncomputable def rI (C:Int->Int->Prop)(g:Int->Int->V):R2:=λx y H Q=>∃i j,x=.int i/\y=.int j/\C i j/\Q (g i j) H
noncomputable def Vf (g:Int->Int->V):R2:=λx y H Q=>∃i j,x=.int i/\y=.int j/\Q (g i j) H
section
variable {X:Cx}{a b c:Expr}{ta tb tc:TE}{pos:Pos}
theorem binT (ha:PE X a ta)(hb:PE X b tb){jC:Qb}{s:Shared}{σ:St}{H:Hp}{R:V->V->Hp->Prop}(I:Inv X jC σ H s)
  (h:ta σ H λx H1=>tb σ H1 λy H2=>R x y H2) {Q:xB} {f:Value->Value->Sem Value}
  (hf:∀v u s2 x y H2,Inv X jC σ H2 s2->ZH x v->ZH y u->R x y H2->xf (xw X.prog X.w) X.A (f v u) Q X.xe s2) :
  xf (xw X.prog X.w) X.A (eval a X.env) (λv s₁=>xf (xw X.prog X.w) X.A (eval b X.env) (λu s₂=>xf (xw X.prog X.w) X.A (f v u) Q X.xe s₂) X.xe s₁) X.xe s:=by
 refine ZM (ha jC s σ H _ I h) λv s1 ⟨x,H1,I1,r1,q1⟩=>?_;refine ZM (hb jC s1 σ H1 _ I1 q1) λu s2 ⟨y,H2,I2,r2,q2⟩=>?_;exact hf v u s2 x y H2 I2 r1 r2 q2
theorem VN {op:Operator}{r:R2}(ho:Z7 X (binaryOp op) r)(ha:PE X a ta)(hb:PE X b tb):PE X (.BinOp a op b pos) (Wk r ta tb):=by
 intro jC s σ H Q I h;exact wpAny_BinOp (binT ha hb I h λv u s2 x y H2 I2 rx ry q=>ho jC s2 σ H2 x y v u Q I2 rx ry q)
theorem opI {f:Value->Value->Sem Value}{C:Int->Int->Prop}{g:Int->Int->Int}
  (rule:∀(i j:Int) (t u:Tok) (s:Shared) (Q:xB) (E:xB),C i j->Q (.int (g i j) s.toks) { s with toks:=s.toks+1 }->xf (xw X.prog X.w) X.A (f (.int i t) (.int j u)) Q E s) :
  Z7 X f (rI C λi j=>.int (g i j)):=by
 intro jC s σ H x y v u Q I rx ry h;obtain⟨i,j,rfl,rfl,hc,q⟩:=h;obtain⟨t,rfl⟩:=rx;obtain⟨t',rfl⟩:=ry;exact rule i j t t' s _ _ hc ⟨.int (g i j),H,I.tok _,⟨_,rfl⟩,q⟩
theorem opI0 {f:Value->Value->Sem Value}{g:Int->Int->Int}
  (rule:∀(i j:Int) (t u:Tok) (s:Shared) (Q:xB) (E:xB),Q (.int (g i j) s.toks) { s with toks:=s.toks+1 }->xf (xw X.prog X.w) X.A (f (.int i t) (.int j u)) Q E s) :
  Z7 X f (Vf λi j=>.int (g i j)):=by
 intro jC s σ H x y v u Q I rx ry h;obtain⟨i,j,rfl,rfl,q⟩:=h;obtain⟨t,rfl⟩:=rx;obtain⟨t',rfl⟩:=ry;exact rule i j t t' s _ _ ⟨.int (g i j),H,I.tok _,⟨_,rfl⟩,q⟩
theorem opB0 {f:Value->Value->Sem Value}{g:Int->Int->Bool}
  (rule:∀(i j:Int) (t u:Tok) (s:Shared) (Q:xB) (E:xB),Q (.bool (g i j)) s->xf (xw X.prog X.w) X.A (f (.int i t) (.int j u)) Q E s) :
  Z7 X f (Vf λi j=>.bl (g i j)):=by
 intro jC s σ H x y v u Q I rx ry h;obtain⟨i,j,rfl,rfl,q⟩:=h;obtain⟨t,rfl⟩:=rx;obtain⟨t',rfl⟩:=ry;exact rule i j t t' s _ _ ⟨.bl (g i j),H,I,rfl,q⟩
noncomputable def CDiv (i j:Int):Prop:=0<j/\j<1073741824
noncomputable def CPow (i j:Int):Prop:=0<=j/\j<=1000000/\i.natAbs<2 ^ 64
noncomputable def CMul (i j:Int):Prop:=(-(2 ^ 64)<i/\i<2 ^ 64)∨(-(2 ^ 64)<j/\j<2 ^ 64)
theorem CMul.ok {i j:Int}(h:CMul i j):IntMulOk i j:=by
 rcases h with⟨h1,h2⟩ | ⟨h1,h2⟩
 ·exact .of_left (intBits_le_64 h1 h2)
 ·exact .of_right (intBits_le_64 h1 h2)
theorem Zf3:Z7 X (binaryOp .Add) (Vf λi j=>.int (i+j)):=opI0 λ_ _ _ _ _ _ _ q=>add_int q
theorem Zmy:Z7 X (binaryOp .Sub) (Vf λi j=>.int (i-j)):=opI0 λ_ _ _ _ _ _ _ q=>sub_int q
theorem Zf4:Z7 X (binaryOp .Mult) (rI CMul λi j=>.int (i*j)):=opI λ_ _ _ _ _ _ _ hc q=>mul_int q hc.ok
theorem Zg1:Z7 X (binaryOp .FloorDiv) (rI CDiv λi j=>.int (i / j)):=opI λi j _ _ _ _ _ hc q=>by
 have h1:(0:Int)<j:=hc.1;have h2:j<1073741824:=hc.2;exact floordiv_int (by omega) (by rw[Int.fdiv_eq_ediv_of_nonneg i (by omega)];exact q) (.inl (PyProof.noPylong_small (by omega)))
theorem Zed:Z7 X (binaryOp .Mod) (rI (λ_ j=>0<j) λi j=>.int (i % j)):=opI λi j _ _ _ _ _ hc q=>by
 have h1:(0:Int)<j:=hc;exact mod_int' (by omega) (by rw[Int.fmod_eq_emod_of_nonneg i (by omega)];exact q)
theorem Zmz:Z7 X (binaryOp .Pow) (rI CPow λi j=>.int (i ^ j.toNat)):=opI λ_ _ _ _ _ _ _ hc q=>pow_int_small hc.1 hc.2.1 hc.2.2 q
end
section
variable {X:Cx}{a b c:Expr}{ta tb tc:TE}{pos:Pos}
theorem ZiU:Z7 X (xk .Lt) (Vf λi j=>.bl (decide (i<j))):=opB0 λ_ _ _ _ _ _ _ q=>lt_int q
theorem ZnE:Z7 X (xk .LtE) (Vf λi j=>.bl (decide (i<=j))):=opB0 λ_ _ _ _ _ _ _ q=>le_int q
theorem ZlW:Z7 X (xk .Gt) (Vf λi j=>.bl (decide (j<i))):=opB0 λ_ _ _ _ _ _ _ q=>gt_int q
theorem ZnF:Z7 X (xk .GtE) (Vf λi j=>.bl (decide (j<=i))):=opB0 λ_ _ _ _ _ _ _ q=>ge_int q
theorem Z7.or {f:Value->Value->Sem Value}{r r':R2}(h:Z7 X f r)(h':Z7 X f r'):Z7 X f (λx y H Q=>r x y H Q∨r' x y H Q):=by
 intro jC s σ H x y v u Q I rx ry q;rcases q with q | q
 ·exact h jC s σ H x y v u Q I rx ry q
 ·exact h' jC s σ H x y v u Q I rx ry q
theorem JY (b:Expr){op:CmpOp}(h:op≠.In:=by decide)(h2:op≠.NotIn:=by decide):behindInMarks op b=false:=by
 have e1:(op==CmpOp.In)=false:=by cases op <;> first | rfl | exact absurd rfl h
 have e2:(op==CmpOp.NotIn)=false:=by cases op <;> first | rfl | exact absurd rfl h2
 cases b <;> simp[behindInMarks,e1,e2]
theorem ZkO {op:CmpOp}{r:R2}(ho:Z7 X (xk op) r)(ha:PE X a ta)(hb:PE X b tb)(hm:behindInMarks op b=false):PE X (.Compare a [op] [b] pos) (Wk r ta tb):=by
 intro jC s σ H Q I h;exact wpAny_Compare1 (binT ha hb I h λv u s2 x y H2 I2 rx ry q=>ho jC s2 σ H2 x y v u Q I2 rx ry q) hm
noncomputable def ZnG (t:TE):TT:=fun σ H Q=>t σ H λx H'=>∃k,x=.bl k/\Q k H'
theorem Zb9 {op:CmpOp}{r:R2}(ho:Z7 X (xk op) r)(ha:PE X a ta)(hb:PE X b tb)(hm:behindInMarks op b=false):PT X (.Compare a [op] [b] pos) (ZnG (Wk r ta tb)):=by
 intro jC s σ H Q I h;refine wpAny_isTrue_Compare1 (ZM (ha jC s σ H _ I h) λv s1 ⟨x,H1,I1,r1,q1⟩=>ZM (hb jC s1 σ H1 _ I1 q1) λu s2 ⟨y,H2,I2,r2,q2⟩=>
  ZM (ho jC s2 σ H2 x y v u _ I2 r1 r2 q2) λc s3 ⟨z,H3,I3,r3,k,e,q3⟩=>?_) hm
 subst e
 cases r3
 exact wpAny_truthy_bool ⟨H3,I3,q3⟩
theorem JZ:(xg:Nat)<2 ^ 63:=by rw[sizeLine_eq];decide
theorem XU {x:V}{us:List Value}(r:Zy [x] us):∃u,us=[u]/\ZH x u:=by
 cases r with
 | cons r1 r2=>cases r2;exact⟨_,rfl,r1⟩
theorem Zg2 {x y:V}{us:List Value}(r:Zy [x,y] us):∃u w',us=[u,w']/\ZH x u/\ZH y w':=by
 cases r with
 | cons r1 r2=>
  cases r2 with
  | cons r3 r4=>cases r4;exact⟨_,_,rfl,r1,r3⟩
theorem ZhQ (hc:X.calm=true):Xb X (.builtin "max") (λxs H Q=>∃i j,xs=[.int i,.int j]/\Q (.int (if j > i then j else i)) H):=by
 intro jC s σ H xs us Q I r h;obtain⟨i,j,rfl,q⟩:=h;obtain⟨u,w',rfl,⟨t,rfl⟩,⟨t',rfl⟩⟩:=Zg2 r;refine max_two_ints (I.ok.hd hc) λh' tk k=>⟨_,H,I.kept k,?_,q⟩;by_cases hj:j > i
 ·rw[if_pos hj,if_pos hj];exact⟨_,rfl⟩
 ·rw[if_neg hj,if_neg hj];exact⟨_,rfl⟩
theorem ZhR (hc:X.calm=true):Xb X (.builtin "min") (λxs H Q=>∃i j,xs=[.int i,.int j]/\Q (.int (if j<i then j else i)) H):=by
 intro jC s σ H xs us Q I r h;obtain⟨i,j,rfl,q⟩:=h;obtain⟨u,w',rfl,⟨t,rfl⟩,⟨t',rfl⟩⟩:=Zg2 r;refine min_two_ints (I.ok.hd hc) λh' tk k=>⟨_,H,I.kept k,?_,q⟩;by_cases hj:j<i
 ·rw[if_pos hj,if_pos hj];exact⟨_,rfl⟩
 ·rw[if_neg hj,if_neg hj];exact⟨_,rfl⟩
theorem ZhS:Xb X (.type "int") (λxs H Q=>(∃i,xs=[.int i]/\Q (.int i) H)∨∃k,xs=[.bl k]/\Q (.int (if k then 1 else 0)) H):=by
 intro jC s σ H xs us Q I r h;rcases h with⟨i,rfl,q⟩ | ⟨k,rfl,q⟩
 ·obtain⟨u,rfl,t,rfl⟩:=XU r
  exact call_int_int ⟨.int i,H,I,⟨_,rfl⟩,q⟩
 ·obtain⟨u,rfl,r1⟩:=XU r
  cases r1
  exact call_int_bool ⟨.int (if k then 1 else 0),H,I.tok _,⟨_,rfl⟩,q⟩
end
structure ObjM (h:Heap)(x dx C:Addr)(mA:Str->Option Value):Prop where
 obj:h.get? x=some (qcu C dx)
 ns:h.Ns1 dx mA
 ne:dx≠x
theorem ZhT {h:Heap}{dx:Addr}{mA:Str->Option Value}(n:h.Ns1 dx mA):∃od,h.get? dx=some od/\∀name,qcB name od=some (mA name):=by
 obtain⟨o,es,ep,ho,hd,hk,_,hm⟩:=n;refine⟨o,ho,λname=>?_⟩;have e:=hm name;unfold nsFind findBy at e;rw[<-Array.find?_toList]at e;unfold qcB;rw[hd];dsimp only;split
 ·rename_i y q
  rw[q]at e;exact congrArg some e
 ·rename_i q
  rw[q]at e;have a:es.toList.any (·.refKey)=false:=by
   rw[List.any_eq_false];intro y hy;obtain⟨z,t,hkey⟩:=hk y (ze.mp hy);simp[DictEntry.refKey,hkey]
  have a':¬es.toList.any (·.refKey)=true:=by rw[a];exact yH
  rw[if_neg a'];exact congrArg some e
theorem ObjM.look {h:Heap}{x dx C:Addr}{mA:Str->Option Value}(I:ObjM h x dx C mA):∃od,PySem.W.InstAt h x (qcu C dx) C (some od)/\∀name,qcB name od=some (mA name):=
 let ⟨od,ho,hl⟩:=ZhT I.ns
 ⟨od,⟨I.obj,rfl,rfl,ho⟩,hl⟩
section
variable {prog:xz}{w:World}{A:xA}{E:xB}{s:Shared}{K:qk}{x dx C f:Addr}{mA:Str->Option Value}{name:Str}{v:Value}
end
section
variable {P:xz}{w:World}{H H':Hp}{h h':Heap}{a C dx:Addr}{fs fs':List (Str×V)}
theorem ZkP (hok:Yi P w H h)(e:H a=some (.ins C dx fs)):∃mA,ObjM h a dx C mA/\(∀f,UI (fs.lookup f) (mA f))/\PySem.Within mA (fs.map (·.1))/\fs.length<=1000/\H dx=some (.own a):=by
 obtain⟨d,z,ne,ob,mA,n,r,q⟩:=(show Yn P w H h a (.ins C dx fs)from hok a _ e);exact⟨mA,⟨ob,n,ne⟩,r,q,z,d⟩
end
structure Cls (K:qk)(C:Addr):Prop where
 pg:PySem.W.plainGet K C Str.empty=true
 hd:PySem.W.hasDictIn K C=true
 po:PySem.W.plainOver K C=true
 sa:PySem.W.findIn K (.ref C) "__setattr__" = some (some (.builtin "object.__setattr__"))
theorem Cls.get {K:qk}{C:Addr}(c:Cls K C)(f:Str):PySem.W.plainGet K C f=true:=c.pg
section
variable {X:Cx}{jC:Qb}{σ:St}{H:Hp}{s:Shared}{a C dx:Addr}{fs:List (Str×V)}{f:Str}{v:V}{A:xA}{E:xB}
end
section
variable {X:Cx}{o e value:Expr}{f:Str}{pos pos' tpos:Pos}{ta tv:TE}
end
section
variable {X:Cx}{jC:Qb}{σ:St}{H:Hp}{s:Shared}{A:xA}{E:xB}{Q:xB}{c:Value}{b:Bool}
inductive TyOf (K:qk)(H:Hp):V->Value->Prop where
 | non:TyOf K H .non (.type "NoneType")
 | bl (x:Bool):TyOf K H (.bl x) (.type "bool")
 | int (i:Int):TyOf K H (.int i) (.type "int")
 | str (x:Str):TyOf K H (.str x) (.type "str")
 | flt (x:UInt64):TyOf K H (.flt x) (.type "float")
 | lst {a:Addr} {xs:List V} (e:H a=some (.lst xs)):TyOf K H (.ref a) (.type "list")
 | frz {a:Addr} {o:Obj} {xs:List V} (e:H a=some (.frz o (.lst xs))):TyOf K H (.ref a) (.type "list")
 | tup {a:Addr} {xs:List V} (e:H a=some (.tup xs)):TyOf K H (.ref a) (.type "tuple")
 | dK {a:Addr} {kvs:List (Zu×V)} (e:H a=some (.dK kvs)):TyOf K H (.ref a) (.type "dict")
 | dT {a:Addr} {kvs:List (List Zu×V)} (e:H a=some (.dT kvs)):TyOf K H (.ref a) (.type "dict")
 | ins {a C dx:Addr} {fs:List (Str×V)} (e:H a=some (.ins C dx fs)) (cl:Cls K C) (ha:PySem.W.findIn K (.ref C) "__class__" = some (some (.builtin "object.__class__")))
   (hn:PySem.W.specialIn K (.builtin "object.__class__") "__get__" = some (some (.builtin "getset_descriptor.__get__"))) (htk:PySem.W.takesIn K (.builtin "object.__class__")=some true)
   (hm:PySem.W.mroIn K C (.type "object")=some true):TyOf K H (.ref a) (.ref C)
theorem ZhU {x:V}{u t:Value}(I:Inv X jC σ H s)(rx:ZH x u)(ty:TyOf X.K H x t)(e:PySem.W.kitOne X.K t c=some b)(h:∀tk,Q (.bool b) { s with toks:=tk }) :
  xf (xw X.prog X.w) A (call (.builtin "isinstance") [u,c]) Q E s:=by
 cases ty with
 | non=>cases (show u=zo from rx);exact yb PySem.W.kitx_none I.kIn y4 e (λz=>nomatch z) h
 | bl y=>cases (show u=yP y from rx);exact yb PySem.W.kitx_bool I.kIn y4 e (λz=>nomatch z) h
 | int i=>obtain⟨t,q⟩:=(show ∃t,u=qct i t from rx);cases q;exact yb PySem.W.kitx_int I.kIn y4 e (λz=>nomatch z) h
 | str y=>obtain⟨t,q⟩:=(show ∃t,u=qc6 y t from rx);cases q;exact yb PySem.W.kitx_str I.kIn y4 e (λz=>nomatch z) h
 | flt y=>obtain⟨t,q⟩:=(show ∃t,u=Value.float y t from rx);cases q;exact yb PySem.W.kitx_float I.kIn y4 e (λz=>nomatch z) h
 | @lst a xs ea=>
  cases (show u=qT a from rx)
  obtain⟨_,_,n,_,h1⟩:=(show Yn X.prog X.w H s.heap a (.lst xs)from I.hok a _ ea);exact yb PySem.W.kitx_list I.kIn ⟨_,h1,rfl⟩ e (λz=>nomatch z) h
 | @frz a ob xs ea=>
  cases (show u=qT a from rx)
  obtain⟨_,_,_,n,_,h1⟩:=(show Yn X.prog X.w H s.heap a (.frz ob (.lst xs))from I.hok a _ ea);exact yb PySem.W.kitx_list I.kIn ⟨_,h1,rfl⟩ e (λz=>nomatch z) h
 | @tup a xs ea=>
  cases (show u=qT a from rx)
  obtain⟨_,_,_,p⟩:=(show Yn X.prog X.w H s.heap a (.tup xs)from I.hok a _ ea);obtain⟨o,h1,h2,_⟩:=p;exact yb PySem.W.kitx_tuple I.kIn ⟨o,h1,h2⟩ e (λz=>nomatch z) h
 | @dK a kvs ea=>
  cases (show u=qT a from rx)
  obtain⟨_,_,vs,_,p⟩:=(show Yn X.prog X.w H s.heap a (.dK kvs)from I.hok a _ ea);obtain⟨o,es,ep,h1,h2,_⟩:=p;exact yb PySem.W.kitx_dict I.kIn ⟨o,h1,h2.1⟩ e (λz=>nomatch z) h
 | @dT a kvs ea=>
  cases (show u=qT a from rx)
  obtain⟨_,_,xs,_,o,es,ep,h1,h2,_⟩:=(show Yn X.prog X.w H s.heap a (.dT kvs)from I.hok a _ ea);exact yb PySem.W.kitx_dict I.kIn ⟨o,h1,h2.1⟩ e (λz=>nomatch z) h
 | @ins a C dx fs ea cl ha hn htk hm=>
  cases (show u=qT a from rx)
  obtain⟨mA,O,_⟩:=ZkP I.hok ea;obtain⟨od,J,_⟩:=O.look;exact yb (PySem.W.kitx_own (cl.get _) cl.hd ha hn htk hm) I.kIn J e (λz=>nomatch z) h
end
structure Room (k:Nat)(A:xA):Prop where
 hd:A.handled=none
 dp:A.depth+3*k+5<recursionLimit
 un:A.units+16*k+200<cLine
 gd:A.guards=some []
theorem Room.mono {j k:Nat}{A:xA}(r:Room k A)(h:j<=k):Room j A:=⟨r.hd,by have:=r.dp;omega,by have:=r.un;omega,r.gd⟩
theorem Room.deeper {k:Nat}{A:xA}(r:Room (k+1) A)(env:Env):Room k (A.deeper env):=
 ⟨r.hd,by have:=r.dp;show A.depth+1+3*k+5<_;omega,by have:=r.un;show A.units+3+16*k+200<_;omega,r.gd⟩
theorem Room.depth {k:Nat}{A:xA}(r:Room k A):A.depth<recursionLimit:=by have:=r.dp;omega
theorem Room.units {k:Nat}{A:xA}(r:Room k A):A.units+64<cLine:=by have:=r.un;omega
theorem Room.units0 {k:Nat}{A:xA}(r:Room k A):A.units<cLine:=by have:=r.un;omega
noncomputable def tNil:TA:=λ_ H Q=>Q [] H
noncomputable def Zg3 (ta:TE)(tr:TA):TA:=fun σ H Q=>ta σ H λx H1=>tr σ H1 λxs H2=>Q (x::xs) H2
section
variable {X:Cx}{e:Expr}{es:List Expr}{te:TE}{t:TA}{pos:Pos}
theorem Xt:PA X [] tNil:=λ_ _ _ _ H Q I h=>Calls.spliced_nil ⟨[],H,I,.nil,h⟩
theorem YU (ha:PE X e te)(hr:PA X es t)(hs:xh (e::es) X.env=(false,eval e X.env)::xh es X.env:=by rfl):PA X (e::es) (Zg3 te t):=by
 intro pos jC s σ H Q I h;rw[hs];show xf _ _ (spliced ((false,eval e X.env)::backTo pos (xh es X.env))) _ _ s;refine Calls.spliced_cons (ZM (ha jC s σ H _ I h) λu s1 ⟨x,H1,I1,r1,q1⟩=>?_);exact ZM (hr pos jC s1 σ H1 _ I1 q1) λus s2 ⟨xs,H2,I2,r2,q2⟩=>⟨x::xs,H2,I2,.cons r1 r2,q2⟩
noncomputable def tTup (t:TA):TE:=fun σ H Q=>t σ H λxs H1=>xs.length<=xg/\∀p,H1 p=none->Q (.ref p) (Zl H1 p (.tup xs))
noncomputable def tLst (t:TA):TE:=fun σ H Q=>t σ H λxs H1=>xs.length<=xg/\∀p,H1 p=none->Q (.ref p) (Zl H1 p (.lst xs))
theorem ZmA {x1}(h:PA X es t):PE X (.Tuple es x1 pos) (tTup t):=by
 intro jC s σ H Q I hq;refine wpAny_Tuple_spliced (ZM (h pos jC s σ H _ I hq) λus s1 ⟨xs,H1,I1,r,z,q⟩=>⟨by rw[<-r.length];exact z,?_⟩);have hf:H1 s1.heap.objs.size=none:=I1.hok.fresh (qm _);refine⟨.ref s1.heap.objs.size,Zl H1 s1.heap.objs.size (.tup xs),I1.laid (t':=s1.toks) (λb u e=>qf _ e) (qm _) ?_,rfl,q _ hf⟩;exact⟨z,us,r,⟨_,qI _ rfl,rfl,_,rfl⟩⟩
theorem ZmB (h:PA X es t):PE X (.List es pos) (tLst t):=by
 intro jC s σ H Q I hq;refine wpAny_List_spliced (ZM (h pos jC s σ H _ I hq) λus s1 ⟨xs,H1,I1,r,z,q⟩=>⟨by rw[<-r.length];exact z,?_⟩);have hf:H1 s1.heap.objs.size=none:=I1.hok.fresh (qm _);refine⟨.ref s1.heap.objs.size,Zl H1 s1.heap.objs.size (.lst xs),I1.laid (t':=s1.toks) (λb u e=>qf _ e) (qm _) ?_,rfl,q _ hf⟩;exact⟨z,us,0,r,qI _ rfl⟩
end
noncomputable abbrev Sp:=List V->Hp->VK->XK->Prop
noncomputable abbrev XQ:=List Env->Hp->Shared->XK->xB
structure Env0 (P:xz)(w:World)(K:qk)(mg:Str->Option Value)(base:Heap)(A:xA)(outer:List Env)(s:Shared)(H:Hp):Prop where
 frames:A.frames=some outer
 mod:Mod K mg base
 bs:∀b o,base.get? b=some o->s.heap.get? b=some o/\H b=none
 bsz:base.objs.size<=s.heap.objs.size
 funs:s.heap.FunFrames base outer
 frf:∀b∈XO outer,H b=none
 hok:Yi P w H s.heap
 bare:AllBare s.gens
noncomputable def CE (outer:List Env)(P:xz)(w:World)(H:Hp)(s:Shared)(Q:VK)(u:Value)(s':Shared):Prop:=
 ∃v H',s'.os=s.os/\AllBare s'.gens/\Un (XO outer) [] H H' s.heap s'.heap/\Yi P w H' s'.heap/\ZH v u/\Q v H'
noncomputable def CR (CX:XQ)(outer:List Env)(P:xz)(w:World)(H:Hp)(s:Shared)(Q:VK)(E:XK)(r:Result)(s':Shared):Prop:=
 match r with
 | .ok (.ret u)=>CE outer P w H s Q u s'
 | .ok _=>False
 | .error e=>CX outer H s E e s'
structure FnOk (P:xz)(w:World)(K:qk)(mg:Str->Option Value)(base:Heap)(CX:XQ)(k:Nat)(f:Addr)(fd:xy)(ps:List Str)(sp:Sp):Prop where
 len:∀vs H Q E,sp vs H Q E->vs.length=ps.length
 run:∀(A:xA) (outer:List Env) (s:Shared) (H:Hp) (args:Args) (us:List Value) (vs:List V) (Q:VK) (E:XK),Room k A->Env0 P w K mg base A outer s H->BindsTo s fd args (ps.zip us)->Zy vs us->sp vs H Q E->
  xo (xw P w) A (.call (.ref f) args) (CR CX outer P w H s Q E) s
theorem FnOk.mono {P:xz}{w:World}{K:qk}{mg:Str->Option Value}{base:Heap}{CX:XQ}{j k:Nat}{f:Addr}{fd:xy}{ps:List Str}{sp:Sp}(F:FnOk P w K mg base CX j f fd ps sp)(h:j<=k) :
  FnOk P w K mg base CX k f fd ps sp:=⟨F.len,λA outer s H args us vs Q E hr=>F.run A outer s H args us vs Q E (hr.mono h)⟩
theorem FnOk.imp {P:xz}{w:World}{K:qk}{mg:Str->Option Value}{base:Heap}{CX:XQ}{k:Nat}{f:Addr}{fd:xy}{ps:List Str}{sp sp':Sp}(F:FnOk P w K mg base CX k f fd ps sp)
  (h:∀vs H Q E,sp' vs H Q E->sp vs H Q E):FnOk P w K mg base CX k f fd ps sp':=
 ⟨λvs H Q E q=>F.len vs H Q E (h _ _ _ _ q),λA outer s H args us vs Q E hr he hb hv hs=>F.run A outer s H args us vs Q E hr he hb hv (h _ _ _ _ hs)⟩
section
variable {X:Cx}{jC:Qb}{σ:St}{H:Hp}{s s':Shared}
theorem Inv.env0 (I:Inv X jC σ H s):Env0 X.prog X.w X.K X.mg X.base X.A X.stack s H:=
 ⟨I.ok.frames,I.ok.mod,I.bs,zj I.ok.bsz I.sz,I.stack,I.stkFree,I.hok,I.bare⟩
theorem Inv.after {Q:VK}{u:Value}(I:Inv X jC σ H s)(h:CE X.stack X.prog X.w H s Q u s'):EP X jC σ Q u s':=by
 obtain⟨v,H',os,bare,un,hok,r,q⟩:=h;obtain⟨hh,g,d,t,os'⟩:=s';obtain rfl:os'=s.os:=os;exact⟨v,H',I.call (h':=hh) (g':=g) (d':=d) (t':=t) (ch:=[]) un hok bare (λb z=>absurd z (by simp)),r,q⟩
end
noncomputable def ZnH (sp:Sp)(dvs:List V)(E:XK)(t:TA):TE:=fun σ H Q=>t σ H λvs H1=>sp (vs++dvs) H1 Q E
noncomputable def Wf (K:qk)(fd:xy)(ps:List Str)(ds:List Value):Prop:=
 ∀(s:Shared) (us:List Value),K.In s.heap->(us++ds).length=ps.length->BindsTo s fd ⟨us,[]⟩ (ps.zip (us++ds))
theorem Wf.all {K:qk}{fd:xy}{ps:List Str}(h:∀us:List Value,us.length=ps.length->bindArgs fd ⟨us,[]⟩=pure (ps.zip us)):Wf K fd ps []:=λs us _ hl=>by
 rw[zq]at hl⊢;exact .of_eq (h us hl)
noncomputable def Zee (CX:XQ)(X:Cx)(E:XK):Prop:=∀(jC:Qb) (σ:St) (H:Hp) (s:Shared) (e:Value) (s':Shared),Inv X jC σ H s->CX X.stack H s E e s'->X.xe e s'
section
variable {X:Cx}{CX:XQ}{k:Nat}{f C:Addr}{fd:xy}{ps:List Str}{sp:Sp}{dvs:List V}{ds:List Value}{E:XK}{x m:Str}{p pos apos:Pos}{e o:Expr}{es:List Expr}{ta:TE}{t:TA}
theorem ZiV {jC:Qb}{σ:St}{H:Hp}{s:Shared}{Q:VK}{us:List Value}{vs:List V}(F:FnOk X.prog X.w X.K X.mg X.base CX k f fd ps sp)(hr:Room k X.A)(hb:Wf X.K fd ps ds)(hd:Zy dvs ds)(hx:Zee CX X E)
  (I:Inv X jC σ H s) (r:Zy vs us) (h:sp (vs++dvs) H Q E):xf (xw X.prog X.w) X.A (call (.ref f) us) (EP X jC σ Q) X.xe s:=by
 have r2:Zy (vs++dvs) (us++ds):=r.append hd;have hl:(us++ds).length=ps.length:=by rw[<-r2.length];exact F.len _ _ _ _ h
 refine xu (codeAny_mono (F.run X.A X.stack s H ⟨us,[]⟩ (us++ds) (vs++dvs) Q E hr I.env0 (hb s us I.kIn hl) r2 h) λr s' hq=>?_)
 cases r with
 | error e=>exact hx jC σ H s e s' I hq
 | ok fl=>
  cases fl with
  | ret u=>exact I.after hq
  | next=>exact yq hq
  | brk=>exact yq hq
  | cont=>exact yq hq
theorem ZkQ (F:FnOk X.prog X.w X.K X.mg X.base CX k f fd ps sp)(hr:Room k X.A)(hg:Gl X x)(hm:X.mg x=some (.ref f))(hk:yI X.K (.ref f)=true)(hb:Wf X.K fd ps ds)(hd:Zy dvs ds)(hx:Zee CX X E)
  (ha:PA X (e::es) t) (hdb:(x==("__debug__" : Str))=false:=by decide) (he:xh (e::es) X.env=(false,eval e X.env)::xh es X.env:=by rfl) (hpl:(backTo pos (xh es X.env)).any (·.1)=false:=by rfl) :
  PE X (.Call (.Name x p) (e::es) [] pos) (ZnH sp dvs E t):=by
 intro jC s σ H Q I h;refine wpAny_Call_Name_kw (ZgY I hg hm ?_ hdb);refine PySem.W.callWith_K (h₀:=X.base) I.ok.mod.kin hk (ZM (ha pos jC s σ H _ I h) λus s1 ⟨vs,H1,I1,r,q⟩=>⟨I1.kIn,?_⟩) he hpl;exact ZiV F hr hb hd hx I1 r q
end
section
variable {X:Cx}{CX:XQ}{k:Nat}{f C:Addr}{fd:xy}{ps ks:List Str}{sp:Sp}{E:XK}{x m:Str}{p pos apos kpos:Pos}{e o:Expr}{es:List Expr}{kws:List Keyword}{te ta:TE}{t tk:TA}{nm:Option Str}
variable {g:List Value->List Value->List Value}{gV:List V->List V->List V}
end
structure FnScope (N P:List Str)(sc:Scope):Prop where
 kind:sc.kind=.function
 co:sc.isCoroutine=false
 gen:sc.isGenerator=false
 nd:N.Nodup
 pre:N.take P.length=P
 par:∀x∈P,sc.names.lookup x=some .local∨sc.names.lookup x=some .cell
 nofree:∀y∈sc.names,y.2≠.free
theorem Zdu {kindOf:Str->Option NameKind}{x:Str}:∀{binds:List (Str×Value)} {m:Str->Option Value},(∀v,(x,v)∉binds)->bindL kindOf binds m x=m x
 | [],_,_=>rfl
 | (n,v)::r,m,h=>by
  unfold bindL;rw[Zdu λw hw=>h w (qS _ hw)];split
  ·have:x≠n:=by rintro rfl;exact h v zB
   simp[this]
  ·rfl
theorem Zdv {kindOf:Str->Option NameKind}{x:Str}:∀{binds:List (Str×Value)} {m:Str->Option Value},(∀v,(x,v)∉binds)->bindC kindOf binds m x=m x
 | [],_,_=>rfl
 | (n,v)::r,m,h=>by
  unfold bindC;rw[Zdv λw hw=>h w (qS _ hw)];split
  ·rfl
  ·have:x≠n:=by rintro rfl;exact h v zB
   simp[this]
theorem Zdw {kindOf:Str->Option NameKind}{x:Str}{v:Value}:∀{P:List Str} {vs:List Value} {i:Nat} {m:Str->Option Value},P.Nodup->P[i]?=some x->vs[i]?=some v->kindOf x=some .local->
  bindL kindOf (P.zip vs) m x=some v
 | [],_,_,_,_,h,_,_=>by simp at h
 | _::_,[],_,_,_,_,h,_=>by simp at h
 | p::P,w::vs,0,m,nd,h1,h2,hk=>by
  simp at h1 h2;subst h1;subst h2;show bindL kindOf ((p,w)::P.zip vs) m p=_;unfold bindL;rw[Zdu λv hv=>(zv.mp nd).1 (qaE hv).1,if_pos hk];simp
 | p::P,w::vs,i+1,m,nd,h1,h2,hk=>by
  show bindL kindOf ((p,w)::P.zip vs) m x=_;unfold bindL;exact Zdw (i:=i) (zv.mp nd).2 (by simpa using h1) (by simpa using h2) hk
theorem Zdx {kindOf:Str->Option NameKind}{x:Str}{v:Value}:∀{P:List Str} {vs:List Value} {i:Nat} {m:Str->Option Value},P.Nodup->P[i]?=some x->vs[i]?=some v->kindOf x≠some .local->
  bindC kindOf (P.zip vs) m x=some v
 | [],_,_,_,_,h,_,_=>by simp at h
 | _::_,[],_,_,_,_,h,_=>by simp at h
 | p::P,w::vs,0,m,nd,h1,h2,hk=>by
  simp at h1 h2;subst h1;subst h2;show bindC kindOf ((p,w)::P.zip vs) m p=_;unfold bindC;rw[Zdv λv hv=>(zv.mp nd).1 (qaE hv).1,if_neg hk];simp
 | p::P,w::vs,i+1,m,nd,h1,h2,hk=>by
  show bindC kindOf ((p,w)::P.zip vs) m x=_;unfold bindC;exact Zdx (i:=i) (zv.mp nd).2 (by simpa using h1) (by simpa using h2) hk
noncomputable def start (N:List Str)(vs:List V):St:=vs.map some++qw (N.length-vs.length) none
noncomputable def Vb (CX:XQ)(P:xz)(w:World)(K:qk)(mg:Str->Option Value)(base:Heap)(N:List Str)(qual:Str)(scope:Scope)(f:Addr)(cd:Value)(A:xA)(outer:List Env)(s:Shared)(H:Hp)(E:XK):Cx where
 prog:=P
 w:=w
 K:=K
 mg:=mg
 base:=base
 A:=A.deeper (envOfC qual scope s.heap.objs.size f cd)
 N:=N
 s₀:=s
 H₀:=H
 env:=envOfC qual scope s.heap.objs.size f cd
 outer:=outer
 stack:=envOfC qual scope s.heap.objs.size f cd::outer
 ex:=[]
 calm:=true
 fn:=λ_=>true
 pn:=[]
 xe:=λe s'=>xf (xw P w) (A.deeper (envOfC qual scope s.heap.objs.size f cd)) (leaving (envOfC qual scope s.heap.objs.size f cd) e) (λ_ s''=>CX outer H s E e s'') (λe' s''=>CX outer H s E e' s'') s'
theorem ZeZ {sc:Scope}{n:Nat}{x:Str}(h:sc.names.lookup x=some .cell):∃c,(cellsFrom n sc.names []).lookup x=some c:=by
 have q:=qcv sc.names n [] (.inl h);exact yQ.mp q
theorem ZhV {CX:XQ}{P:xz}{w:World}{K:qk}{mg:Str->Option Value}{base:Heap}{N ps:List Str}{qual:Str}{scope:Scope}{f:Addr}{cd:Value}{A:xA}{outer:List Env}{s s1:Shared}{H:Hp}{E:XK}{us:List Value}{vs:List V}
  (S:FnScope N ps scope) (hd:A.handled=none) (e0:Env0 P w K mg base A outer s H) (hl:vs.length=ps.length) (r:Zy vs us)
  (x:InCallC s s.heap.objs.size (bindL (envOfC qual scope s.heap.objs.size f cd).kindOf (ps.zip us) λ_=>none) (cellsFrom (s.heap.objs.size+1) scope.names []) (bindC (envOfC qual scope s.heap.objs.size f cd).kindOf (ps.zip us) λ_=>none) s1) :
  Inv (Vb CX P w K mg base N qual scope f cd A outer s H E) [] (start N vs) H s1:=by
 have hpl:ps.length<=N.length:=by have:=congrArg qbn S.pre;rw[qV]at this;omega
 obtain⟨h1,tk,rfl,hk⟩:=x.done;have noA:∀b:Addr,b∉(Vb CX P w K mg base N qual scope f cd A outer s H E).ex:=λb z=>absurd (show b∈([]:List Addr)from z) (by simp);refine⟨⟨e0.mod,S.kind,rfl,rfl,qm _,λy z c h1 h2=>?_,λy hy=>?_,λy c _ h=>?_,λ_=>hd,qcL e0.frames,.inr ⟨rfl,rfl⟩,λb z=>absurd z (noA b),e0.bs,e0.bsz,λb _ _=>noA b,λb z=>absurd z (noA b),e0.funs,e0.frf⟩,
  rfl,e0.bare,Un.kept hk,⟨_,x.toInCall.ns,λi y v h1 h2 h3=>?_⟩,λy c h=>⟨_,x.cell y c h⟩,e0.hok.fresh (qm _),λy c h=>?_,λp hp=>absurd (show p∈([]:Qb)from hp) (by simp),e0.hok.kept hk,?_⟩
 ·exact name_of_addr x.apart (zM h1) (zM h2)
 ·have hy:scope.names.lookup y=some .cell∨scope.names.lookup y=some .free:=hy
  rcases hy with hy | hy
  ·exact ZeZ hy
  ·exact absurd rfl (S.nofree _ (zM hy))
 ·exact qb9 (x.above y c (zM h))
 ·have hi:i<vs.length:=by
   unfold start at h2;by_cases hi:i<vs.length
   ·exact hi
   ·rw[yg (by simpa using hi)]at h2
    rw[yV]at h2;split at h2 <;> cases h2
  have ha:vs[i]?=some v:=by
   unfold start at h2;rw[zw (by simpa using hi),qC]at h2
   cases e:vs[i]? with
   | none=>rw[e]at h2;cases h2
   | some a=>rw[e]at h2;cases h2;rfl
  obtain⟨u,hu,rv⟩:=r.get ha;have hp:ps[i]?=some y:=by
   rw[<-S.pre,zL (by omega)];exact h1
  have ndP:ps.Nodup:=by rw[<-S.pre];exact S.nd.sublist (zF _ _)
  refine⟨u,rv,?_⟩;rcases S.par y (zu hp)with k | k
  ·exact .inl ⟨k,Zdw ndP hp hu k⟩
  ·obtain⟨c,e⟩:=ZeZ (n:=s.heap.objs.size+1) k
   refine .inr ⟨.inl k,c,e,?_⟩;have q:=x.cell y c e;rw[Zdx ndP hp hu (by show scope.names.lookup y≠_;rw[k];decide)]at q;exact q
 ·exact e0.hok.fresh (qb9 (x.above y c (zM h)))
 ·unfold start
  show _=N.length;rw[qG,qj,List.length_replicate];omega
theorem ZlX {CX:XQ}{P:xz}{w:World}{K:qk}{mg:Str->Option Value}{base:Heap}{k:Nat}{f:Addr}{name qual:Str}{params:Arguments}{body:List Stmt}{scope:Scope}{dV kV doc pm cdv ct oc:Value}{an od:Option Addr}
  {osl:Array (Option Value)} {N ps:List Str} {sp:Sp} (lk:K.lookup f=some ⟨oc,od,.func (yR name qual params body scope dV kV doc pm an cdv ct),osl⟩) (hcd:qbb K cdv qual=true) (S:FnScope N ps scope)
  (len:∀vs H Q E,sp vs H Q E->vs.length=ps.length)
  (hbody:∀(A:xA) (outer:List Env) (s:Shared) (H:Hp) (vs:List V) (Q:VK) (E:XK),Room k (A.deeper (envOfC qual scope s.heap.objs.size f cdv))->sp vs H Q E->
   ∃t,Wj (Vb CX P w K mg base N qual scope f cdv A outer s H E) body t/\t { nx:=λ_ H'=>Q .non H',rt:=Q } (start N vs) H) :
  FnOk P w K mg base CX (k+1) f (yR name qual params body scope dV kV doc pm an cdv ct) ps sp:=by
 refine⟨len,λA outer s H args us vs Q E hr e0 hb r hsp=>?_⟩;have hl:=len _ _ _ _ hsp;have KX:K.In s.heap:=e0.mod.kin.keeps λb o e=>(e0.bs b o e).1;have lim:s.heap.NoLimit:=e0.mod.nolimit.keeps λb o e=>(e0.bs b o e).1;have hkind:∀y∈ps.zip us,scope.names.lookup y.1=some .local∨(scope.names.lookup y.1=some .cell/\((cellsFrom (s.heap.objs.size+1) scope.names []).lookup y.1).isSome=true):=λ⟨n,v⟩ hy=>by
  rcases S.par n (qaE hy).1 with q | q
  ·exact .inl q
  ·exact .inr ⟨q,qcv _ _ _ (.inl q)⟩
 refine codeAny_call_function hr.depth (KX _ _ lk) rfl S.co S.gen rfl (PySem.W.codeRec_of KX hcd) (hb _ _ _ _ ?_);refine wpAny_newFunctionEnv_cells S.kind hkind λenv he s1 x=>?_;subst he;refine⟨lim.keeps x.toInCall.keep,codeAny_func ?_⟩;obtain⟨t,ht,hq⟩:=hbody A outer s H vs Q E (hr.deeper _) hsp;have I:Inv (Vb CX P w K mg base N qual scope f cdv A outer s H E) [] (start N vs) H s1:=ZhV S hr.hd e0 hl r x;refine xc (ht [] s1 (start N vs) H _ I hq) (λfl s' hs=>?_) λe s' hs=>hs;have fin:∀{σ':St} {H':Hp} {v:V} {u:Value},Inv (Vb CX P w K mg base N qual scope f cdv A outer s H E) [] σ' H' s'->ZH v u->Q v H'->CE outer P w H s Q u s':=
  λ{σ' H' v u} J rv q=>⟨v,H',J.os,J.bare,J.base,J.hok,rv,q⟩
 cases fl with
 | ret u=>
  obtain⟨v,σ',H',J,rv,q⟩:=hs;exact fin J rv q
 | next=>
  obtain⟨σ',H',J,q⟩:=hs;exact fin (v:=V.non) (u:=zo) J rfl q
 | brk=>
  obtain⟨_,_,_,q⟩:=hs;exact yq q
 | cont=>
  obtain⟨_,_,_,q⟩:=hs;exact yq q
section
variable {X:Cx}{x:Str}{p pos:Pos}{e:Expr}{es:List Expr}{t:TA}{id T:String}{r:List V->Hp->VK->Prop}
noncomputable def tCB (r:List V->Hp->VK->Prop)(t:TA):TE:=fun σ H Q=>t σ H λvs H1=>r vs H1 Q
theorem UW (hc:Xb X (.builtin id) r)(hg:Gl X x)(hm:X.mg x=none)(hv:xj x=some (.builtin id))(ha:PA X (e::es) t)(hn:x≠"__name__":=by decide)(hdb:(x==("__debug__" : Str))=false:=by decide)
  (he:xh (e::es) X.env=(false,eval e X.env)::xh es X.env:=by rfl) (hpl:(backTo pos (xh es X.env)).any (·.1)=false:=by rfl):PE X (.Call (.Name x p) (e::es) [] pos) (tCB r t):=by
 intro jC s σ H Q I h;refine wpAny_Call_Name_kw (Uy I hg hm hv ?_ hn hdb);exact PyProof.Rows.callWith_builtin1 (ZM (ha pos jC s σ H _ I h) λus s1 ⟨vs,H1,I1,r1,q1⟩=>hc jC s1 σ H1 vs us Q I1 r1 q1) he hpl
theorem JG (hc:Xb X (.type T) r)(hg:Gl X x)(hm:X.mg x=none)(hv:xj x=some (.type T))(ha:PA X (e::es) t)(hn:x≠"__name__":=by decide)(hdb:(x==("__debug__" : Str))=false:=by decide)
  (he:xh (e::es) X.env=(false,eval e X.env)::xh es X.env:=by rfl) (hpl:(backTo pos (xh es X.env)).any (·.1)=false:=by rfl):PE X (.Call (.Name x p) (e::es) [] pos) (tCB r t):=by
 intro jC s σ H Q I h;refine wpAny_Call_Name_kw (Uy I hg hm hv ?_ hn hdb);exact yw (ZM (ha pos jC s σ H _ I h) λus s1 ⟨vs,H1,I1,r1,q1⟩=>hc jC s1 σ H1 vs us Q I1 r1 q1) he hpl
end
end L2
namespace HT
noncomputable def lexLt:List Int->List Int->Bool
 | [],[]=>false
 | [],_::_=>true
 | _::_,[]=>false
 | x::xs,y::ys=>if x=y then lexLt xs ys else decide (x<y)
theorem Zf5 (x y:Int)(xs ys:List Int):lexLt (x::xs) (y::ys)=if x=y then lexLt xs ys else decide (x<y):=rfl
theorem Zdb:lexLt [] []=false:=rfl
theorem Zcl (y:Int)(ys:List Int):lexLt [] (y::ys)=true:=rfl
theorem Zcm (x:Int)(xs:List Int):lexLt (x::xs) []=false:=rfl
theorem ZiW (A:xA)(s:Shared)(a:Int)(t:Tok)(c:Int)(u:Tok):∃e,qaP A s (.int a t) (.int c u) e/\(e=true↔a=c):=
 ⟨(a==c),qaP.int_int a t c u,by simp⟩
theorem ZiX (A:xA)(s:Shared)(a:Int)(t:Tok)(c:Int)(u:Tok)(prog:xz)(w:World)(E:xB)(Q:xB)(h:Q (.bool (decide (a<c))) s) :
  xf (xw prog w) A (richCompare .Lt (.int a t) (.int c u)) Q E s:=
 (PyProof.Rows.lt_int h:xf (xw prog w) A (xk .Lt (.int a t) (.int c u)) Q E s)
section
open PySem.SeqAt
open PySem.AutoSeq1 (wpAny_loadPart')
open PySem.MeetsSeq PySem.MeetsSeq2 PySem.MeetsSeq3
theorem Zdc (l b:Addr)(items items2:Array Value)(n n2:Nat)(dd dd2:Option Addr)(sl sl2:Array (Option Value))(ns ms:List Int)(hi:IntsAre items.toList ns)(hj:IntsAre items2.toList ms) :
  Meets (Builtin.«tuple.__lt__» ⟨[.ref l,.ref b],[]⟩)
   (λ_ R s=>s.heap.get? l=some { cls:=.type "tuple",dict:=dd,data:=.seq items n,slots:=sl }/\s.heap.get? b=some { cls:=.type "tuple",dict:=dd2,data:=.seq items2 n2,slots:=sl2 }/\
    R (.ok (.ret (.bool (lexLt ns ms)))) s):=
 .of_wp λprog w A R s h=>by
  obtain⟨hp,g,d,tk,os⟩:=s;obtain⟨hl,hb,h⟩:=h;have f2:=qar;have z1:items.size=ns.length:=by rw[<-hi.length];simp
  have z2:items2.size=ms.length:=by rw[<-hj.length];simp
  wp_walk using wpAny_loadPart' hl,wpAny_loadPart' hb,wpAny_forIn_list _ (λrest b s'=>b.1=none/\s'=⟨hp,g,d,tk,os⟩/\∃(vs ws:List Value) (ns' ms':List Int),rest=vs.zip ws/\
   IntsAre vs ns'/\IntsAre ws ms'/\ns'.length+items2.size=ms'.length+items.size/\R (.ok (.ret (.bool (lexLt ns' ms')))) ⟨hp,g,d,tk,os⟩) _
  case turn=>
   rintro⟨y,x⟩ rest b s' ⟨hb',rfl,vs,ws,ns',ms',hz,hvi,hwi,jM,hR⟩
   cases hvi with
   | nil=>rw[List.zip_nil_left]at hz;cases hz
   | cons a t hvi'=>
    cases hwi with
    | nil=>rw[List.zip_nil_right]at hz;cases hz
    | cons c u hwi'=>
     rw[List.zip_cons_cons]at hz;injection hz with hyx hrest;injection hyx with hy hx;subst hy hx;rw[Zf5]at hR;simp only[qB]at jM;obtain⟨e,he,hiff⟩:=ZiW A.in1 ⟨hp,g,d,tk,os⟩ a t c u;refine xa (he prog w _ _ ?_)
     cases e with
     | true=>
      rw[if_pos (hiff.mp rfl)]at hR
      wp_walk
      exact⟨rfl,rfl,_,_,_,_,hrest,hvi',hwi',by omega,hR⟩
     | false=>
      rw[if_neg (λq=>absurd (hiff.mpr q) yH)]at hR;have hri:=ZiX A.in1 ⟨hp,g,d,tk,os⟩ a t c u prog w
      wp_walk using hri
      exact⟨_,rfl,by simpa using hR⟩
  case fin=>
   rintro⟨b1,b2⟩ s' ⟨hb',rfl,vs,ws,ns',ms',hz,hvi,hwi,jM,hR⟩;simp only at hb';subst hb';have hv:lexLt ns' ms'=decide (items.size<items2.size):=by
    cases hvi with
    | nil=>
     cases hwi with
     | nil=>
      simp only[qaZ]at jM;rw[Zdb];exact(decide_eq_false (by omega)).symm
     | cons c u hw=>
      simp only[qaZ,qB]at jM;rw[Zcl];exact(decide_eq_true (by omega)).symm
    | cons a t hv=>
     cases hwi with
     | nil=>
      simp only[qaZ,qB]at jM;rw[Zcm];exact(decide_eq_false (by omega)).symm
     | cons c u hw=>
      rw[List.zip_cons_cons]at hz
      cases hz
   rw[hv]at hR
   wp_walk
   exact⟨_,rfl,by simpa[Builtin.Tuple.tupleCompareSizes]using hR⟩
  case h=>
   exact⟨rfl,rfl,items.toList,items2.toList,ns,ms,rfl,hi,hj,by omega,h⟩
end
section
variable {prog:xz}{w:World}{A:xA}{E:xB}{s:Shared}
theorem lt_tupInts {l b:Addr}{items items2:Array Value}{ns ms:List Int}{Q:xB}(hl:IsTup s.heap l items)(hb:IsTup s.heap b items2)(hi:IntsAre items.toList ns)(hj:IntsAre items2.toList ms)
  (hu:A.units<cLine) (h:Q (.bool (lexLt ns ms)) s):xf (xw prog w) A (xk .Lt (.ref l) (.ref b)) Q E s:=by
 obtain⟨⟨cls,dd,data,sl⟩,ho,hc,n,hd⟩:=id hl;obtain⟨⟨cls2,dd2,data2,sl2⟩,ho2,hc2,n2,hd2⟩:=id hb;simp only at hc hd hc2 hd2;subst hc hd hc2 hd2;exact richCompare_meets_room (op:=.Lt) ⟨_,ho,rfl⟩ ⟨_,ho2,rfl⟩ PySem.F.slot_tuple_lt PySem.F.entry_tuple_lt (PySem.F.args_tuple_lt_2 _ _) (Zdc l b items items2 n n2 dd dd2 sl sl2 ns ms hi hj)
  ⟨ho,ho2,show yP (lexLt ns ms)≠qcM/\Q (.bool (lexLt ns ms)) s from⟨(λx=>nomatch x),h⟩⟩ hu
theorem cat_tup {t b:Addr}{vs ws:List Value}{Q:xB}(ht:IsTup s.heap t vs.toArray)(hb:IsTup s.heap b ws.toArray)(hv:vs≠[])
  (h1:ws=[]->Q (.ref t) s) (h2:ws≠[]->Q (.ref s.heap.objs.size) { s with heap:=s.heap.push { cls:=.type "tuple",data:=.seq (vs++ws).toArray } })
  (hsz:vs.length+ws.length<=xg):xf (xw prog w) A (binaryOp .Add (.ref t) (.ref b)) Q E s:=by
 obtain⟨⟨cls,dd,data,sl⟩,ho,hc,n,hd⟩:=id ht;obtain⟨⟨cls2,dd2,data2,sl2⟩,ho2,hc2,n2,hd2⟩:=id hb;simp only at hc hd hc2 hd2;subst hc hd hc2 hd2;have e:vs.toArray++ws.toArray=(vs++ws).toArray:=by simp
 by_cases hw:ws=[]
 ·exact concat_meets ⟨_,ho,rfl⟩ ⟨_,ho2,rfl⟩ noFill_tuple_add seq_tuple_add qbo qbg (qa2 _ _)
   (tuple_addW1 t b vs.toArray ws.toArray n n2 dd dd2 sl sl2 (by simpa using hv) (by simp[hw])) ⟨ho,ho2,h1 hw⟩
 ·refine concat_meets ⟨_,ho,rfl⟩ ⟨_,ho2,rfl⟩ noFill_tuple_add seq_tuple_add qbo qbg (qa2 _ _)
   (tuple_addW2 t b vs.toArray ws.toArray n n2 dd dd2 sl sl2 (by simpa using hv) (by simpa using hw) (by rw[qL,qL];exact hsz)) ⟨ho,ho2,?_⟩
  rw[e];exact h2 hw
noncomputable def sIx (n d:Nat):Option Int->Nat
 | none=>d
 | some v=>if v<0 then (v+(n:Int)).toNat else min v.toNat n
theorem ZmC (n d:Nat)(hd:d<=n)(o:Option Int):sIx n d o<=n:=by
 cases o with
 | none=>exact hd
 | some v=>
  show(if v<0 then (v+(n:Int)).toNat else min v.toNat n)<=n;by_cases hv:v<0
  ·rw[if_pos hv];omega
  ·rw[if_neg hv];exact Nat.min_le_right _ _
theorem Zg4 (v:Int)(n d:Nat):(if v<0 then max (v+(n:Int)) 0 else min v (n:Int))=((sIx n d (some v):Nat):Int):=by
 show(if v<0 then max (v+(n:Int)) 0 else min v (n:Int))=(((if v<0 then (v+(n:Int)).toNat else min v.toNat n):Nat):Int);by_cases hv:v<0
 ·simp only[if_pos hv];omega
 ·simp only[if_neg hv];omega
theorem Zf6 (lo hi:Option Int)(n:Nat):qa0 lo hi 1 (n:Int)=(((sIx n 0 lo:Nat):Int),((sIx n n hi:Nat):Int)):=by
 have h1:¬((1:Int)<0):=by omega
 unfold qa0;simp only[h1,if_false];refine qcN ?_ ?_
 ·cases lo with
  | none=>rfl
  | some v=>exact Zg4 v n 0
 ·cases hi with
  | none=>rfl
  | some v=>exact Zg4 v n n
theorem Zf7 (i j:Nat):qam (i:Int) (j:Int) 1=j-i:=by
 unfold qam;have h1:(1:Int) > 0:=by omega
 simp only[h1,if_true,Int.ediv_one];split <;> omega
theorem Zcn {v:Value}{o:Option Int}{Q:Option Int->Shared->Prop}(p:IsPart v o)(h:Q o s):xf (xw prog w) A (Builtin.Slice.slicePartIndex v) Q E s:=by
 cases p with
 | none=>exact slicePart_none h
 | int i t=>exact slicePart_int h
theorem Zar {sl:Addr}{vl vu:Value}{lo hi:Option Int}{n:Nat}{Q:Int×Int×Nat->Shared->Prop}(hs:s.heap.IsSliceOf sl vl vu .none)(pl:IsPart vl lo)(pu:IsPart vu hi)
  (h:Q (((sIx n 0 lo:Nat):Int),1,sIx n n hi-sIx n 0 lo) s):xf (xw prog w) A (qbW (.ref sl) (pure (n:Int))) Q E s:=by
 obtain⟨os,hos,hcs,hds⟩:=id hs;unfold qbW Builtin.Slice.sliceFields;refine xa (xa (wpAny_field hos hds (x:=vl) rfl (xa (wpAny_field hos hds (x:=vu) rfl (xa (wpAny_field hos hds (x:=.none) rfl (xb ?_)))))));refine xa (slicePart_none ?_);show xf _ _ (if ((1:Int)==0)=true then _ else _) _ _ s;rw[if_neg (by decide)];refine xa (Zcn pl (xa (Zcn pu (xa (xb ?_)))));show xf _ _ (match qa0 lo hi 1 (n:Int)with | (lo,hi)=>pure (lo,(1:Int),qam lo hi 1)) _ _ s;rw[Zf6 lo hi n];show xf _ _ (pure (((sIx n 0 lo:Nat):Int),(1:Int),qam ((sIx n 0 lo:Nat):Int) ((sIx n n hi:Nat):Int) 1)) _ _ s;rw[Zf7];exact xb h
theorem ZiY (xs:Array Value)(i k:Nat):((qp k).filterMap λ(m:Nat)=>xs[((i:Int)+(m:Int)*1).toNat]?).toArray=((xs.toList.drop i).take k).toArray:=by
 have e:(λ(m:Nat)=>xs[((i:Int)+(m:Int)*1).toNat]?)=λm=>xs[i+m]?:=by
  funext m;have:((i:Int)+(m:Int)*1).toNat=i+m:=by omega
  rw[this]
 rw[e];have:=pick_run xs i k;rw[List.filterMap_map]at this;have e2:((λx=>xs[x]?)∘λx=>i+x)=λm=>xs[i+m]?:=rfl;rw[e2]at this;rw[this]
theorem getItem_tuple_cut {t sl:Addr}{items:Array Value}{vl vu:Value}{lo hi:Option Int}{Q:xB}(ht:IsTup s.heap t items)(hs:s.heap.IsSliceOf sl vl vu .none)(pl:IsPart vl lo)(pu:IsPart vu hi)
  (hw:¬(sIx items.size 0 lo=0/\sIx items.size items.size hi=items.size))
  (h:Q (.ref s.heap.objs.size) { s with heap:=s.heap.push { cls:=.type "tuple",data:=.seq ((items.toList.drop (sIx items.size 0 lo)).take (sIx items.size items.size hi-sIx items.size 0 lo)).toArray } })
  (hsz:items.size<=xg):xf (xw prog w) A (getItem (.ref t) (.ref sl)) Q E s:=by
 have htake:sizeOk (.seq ((items.toList.drop (sIx items.size 0 lo)).take (sIx items.size items.size hi-sIx items.size 0 lo)).toArray):=by
  show((items.toList.drop (sIx items.size 0 lo)).take (sIx items.size items.size hi-sIx items.size 0 lo)).toArray.size<=xg;rw[qL,qV,zS,qz];omega
 have hj:sIx items.size items.size hi<=items.size:=ZmC _ _ (qm _) hi;obtain⟨os,hos,hcs,hds⟩:=id hs;have hTs:s.TypeIs (.ref sl) "slice":=⟨os,hos,hcs⟩;unfold getItem
 try with_reducible refine xt ?_
 first | refine xa (xb ?_) | skip
 refine xa (wpAny_sequenceKey ht.typeIs (by decide) ?_);refine xa (wpAny_callSpecial?_slot (name:=y9 "__getitem__") ht.typeIs zP
  (wpAny_call_entry zP ht.typeIs entry_tuple_getitem ?_ (args_tuple_getitem _ _)))
 show xf _ _ (qbX (.ref t) >>= _) _ _ s;refine xa (tupleItemsOf_ ht ?_);refine xa (wpAny_typeOf hTs ?_);rw[if_pos (by decide)];refine xa (Zar hs pl pu ?_);have hno:¬((((sIx items.size 0 lo:Nat):Int)==0&&(1:Int)==1&&(sIx items.size items.size hi-sIx items.size 0 lo)==items.size)=true):=by
  intro q;rw[zi,zi]at q;have q1:((sIx items.size 0 lo:Nat):Int)=0:=eq_of_beq q.1.1;have q2:sIx items.size items.size hi-sIx items.size 0 lo=items.size:=eq_of_beq q.2;exact hw ⟨by omega,by omega⟩
 show xf _ _ (if (((sIx items.size 0 lo:Nat):Int)==0&&(1:Int)==1&&(sIx items.size items.size hi-sIx items.size 0 lo)==items.size)=true then _ else _) _ _ s;rw[if_neg hno,ZiY]
 first
  | exact xa (m:=qas _) (xl (xb ⟨_,rfl,xb h⟩) htake)
  | exact xa (m:=qas _) (xl (xa (xb (xb ⟨_,rfl,xb h⟩))) htake)
  | exact xa (xa (m:=qas _) (xl (xb (xb ⟨_,rfl,xb h⟩)) htake))
  | exact xa (xa (m:=qas _) (xl (xb ⟨_,rfl,xb h⟩) htake))
end
end HT
namespace L2
noncomputable abbrev TO:=St->Hp->(Option Int->Hp->Prop)->Prop
noncomputable def PO (X:Cx)(e:Option Expr)(t:TO):Prop:=
 ∀(jC:Qb) (s:Shared) (σ:St) (H:Hp) (Q:Option Int->Hp->Prop),Inv X jC σ H s->t σ H Q->
  xf (xw X.prog X.w) X.A (evalPart e X.env) (λu s'=>∃o H',Inv X jC σ H' s'/\IsPart u o/\Q o H') X.xe s
noncomputable def ZkR:TO:=λ_ H Q=>Q none H
noncomputable def ZnI (t:TE):TO:=fun σ H Q=>t σ H λx H1=>∃i,x=.int i/\Q (some i) H1
theorem Vj {ns:List Int}:∀{us:List Value},Zy (ns.map V.int) us->IntsAre us ns:=by
 induction ns with
 | nil=>intro us r;rw[qbC]at r;cases r;exact .nil
 | cons n ns ih=>
  intro us r;rw[qX]at r
  cases r with
  | cons r1 r2=>
   obtain⟨t,e⟩:=r1;subst e;exact .cons n t (ih r2)
section
variable {X:Cx}{e:Expr}{te:TE}{lo hi:Option Expr}{tl th:TO}{pos p2:Pos}
theorem ZkS:PO X none ZkR:=by
 intro jC s σ H Q I h;rw[evalPart_none];exact xb ⟨none,H,I,.none,h⟩
theorem ZkT (h:PE X e te):PO X (some e) (ZnI te):=by
 intro jC s σ H Q I hw;rw[evalPart_some];refine ZM (h jC s σ H _ I hw) λu s1 ⟨x,H1,I1,r1,q1⟩=>?_;obtain⟨i,rfl,q⟩:=q1;obtain⟨t,rfl⟩:=r1;exact⟨some i,H1,I1,.int i t,q⟩
noncomputable def Ud (X:Cx)(r:V->Option Int->Option Int->Hp->VK->Prop):Prop:=
 ∀(jC:Qb) (s:Shared) (σ:St) (H:Hp) (x:V) (v vl vu:Value) (lo hi:Option Int) (sl:Addr) (Q:VK),Inv X jC σ H s->ZH x v->s.heap.IsSliceOf sl vl vu .none->IsPart vl lo->IsPart vu hi->r x lo hi H Q->
  ∃T id,typeLookup (.type T) "__getitem__" = pure (some (.builtin id))/\s.TypeIs v T/\xf (xw X.prog X.w) X.A (getItem v (.ref sl)) (EP X jC σ Q) X.xe s
theorem Ud.or {r r':V->Option Int->Option Int->Hp->VK->Prop}(h:Ud X r)(h':Ud X r'):Ud X (λx lo hi H Q=>r x lo hi H Q∨r' x lo hi H Q):=by
 intro jC s σ H x v vl vu lo hi sl Q I rx hs pl pu q;rcases q with q | q
 ·exact h jC s σ H x v vl vu lo hi sl Q I rx hs pl pu q
 ·exact h' jC s σ H x v vl vu lo hi sl Q I rx hs pl pu q
noncomputable def tSl (r:V->Option Int->Option Int->Hp->VK->Prop)(te:TE)(tl th:TO):TE:=fun σ H Q=>te σ H λx H1=>tl σ H1 λl H2=>th σ H2 λu H3=>r x l u H3 Q
theorem ZiZ {r:V->Option Int->Option Int->Hp->VK->Prop}(hr:Ud X r)(he:PE X e te)(hl:PO X lo tl)(hu:PO X hi th):PE X (.Subscript e (.Slice lo hi none p2) pos) (tSl r te tl th):=by
 intro jC s σ H Q I h;refine Subscript_ (ZM (he jC s σ H _ I h) λv s1 ⟨x,H1,I1,r1,q1⟩=>?_);refine wpAny_Slice (ZM (hl jC s1 σ H1 _ I1 q1) λvl s2 ⟨l,H2,I2,pl,q2⟩=>ZM (hu jC s2 σ H2 _ I2 q2) λvu s3 ⟨u,H3,I3,pu,q3⟩=>?_);rw[evalPart_none];refine xb ?_;have I4:Inv X jC σ H3 { s3 with heap:=s3.heap.push { cls:=.type "slice",data:=.fields #[vl,vu,.none] } }:=I3.kept (t':=s3.toks) λb ob q=>qf _ q;obtain⟨T,id,hT,ht,hg⟩:=hr jC { s3 with heap:=s3.heap.push { cls:=.type "slice",data:=.fields #[vl,vu,.none] } } σ H3 x v vl vu l u s3.heap.objs.size Q I4 r1 (Heap.IsSliceOf.new ..) pl pu q3;show xf (xw X.prog X.w) X.A (subscriptTail e (.Slice lo hi none p2) v (.ref s3.heap.objs.size)) (EP X jC σ Q) X.xe { s3 with heap:=s3.heap.push { cls:=.type "slice",data:=.fields #[vl,vu,.none] } };exact tail_any (ops:=[.ref s3.heap.objs.size,v]) ht hT hg (by with_unfolding_all rfl)
noncomputable def Vu (xs:List V)(lo hi:Option Int):List V:=(xs.drop (HT.sIx xs.length 0 lo)).take (HT.sIx xs.length xs.length hi-HT.sIx xs.length 0 lo)
theorem ZbO (xs:List V)(lo hi:Option Int):(Vu xs lo hi).length<=xs.length:=by
 unfold Vu;rw[qV,zS];omega
noncomputable def rSlT (K:qk):V->Option Int->Option Int->Hp->VK->Prop:=λx lo hi H Q=>∃a xs,x=.ref a/\ZI K H a xs/\
 ¬(HT.sIx xs.length 0 lo=0/\HT.sIx xs.length xs.length hi=xs.length)/\∀p,H p=none->Q (.ref p) (Zl H p (.tup (Vu xs lo hi)))
theorem ZmD:Ud X (rSlT X.K):=by
 intro jC s σ H x v vl vu lo hi sl Q I rx hs pl pu h;obtain⟨a,xs,rfl,hx,hw,q⟩:=h
 cases rx
 obtain⟨jE,r,ht,hz⟩:=I.tuple hx;have jM:jE.toArray.size=xs.length:=by rw[qL];exact r.length.symm
 refine⟨"tuple",_,zP.lookup,ht.typeIs,?_⟩;refine HT.getItem_tuple_cut ht hs pl pu (by rw[jM];exact hw) ?_ (by rw[jM];exact hz);rw[jM];refine⟨.ref s.heap.objs.size,_,I.laid (t':=s.toks) (o:=.tup (Vu xs lo hi)) (λb ob q=>qf _ q) (qm _) ?_,rfl,q _ (I.hok.fresh (qm _))⟩;exact⟨zj (ZbO xs lo hi) hz,_,(r.drop (HT.sIx xs.length 0 lo)).take (HT.sIx xs.length xs.length hi-HT.sIx xs.length 0 lo),qbR _ _⟩
noncomputable def rLtT (K:qk):R2:=λx y H Q=>∃a b ns ms,x=.ref a/\y=.ref b/\ZI K H a (ns.map V.int)/\ZI K H b (ms.map V.int)/\Q (.bl (HT.lexLt ns ms)) H
theorem ZmE (hu:X.A.units<cLine):Z7 X (xk .Lt) (rLtT X.K):=by
 intro jC s σ H x y v u Q I rx ry h;obtain⟨a,b,ns,ms,rfl,rfl,ha,hb,q⟩:=h
 cases rx
 cases ry
 obtain⟨jE,r1,p1,_⟩:=I.tuple ha;obtain⟨jW,r2,p2,_⟩:=I.tuple hb;have i1:IntsAre jE.toArray.toList ns:=Vj r1;have i2:IntsAre jW.toArray.toList ms:=Vj r2;exact HT.lt_tupInts p1 p2 i1 i2 hu ⟨.bl (HT.lexLt ns ms),H,I,rfl,q⟩
noncomputable def ZnJ (K:qk):R2:=λx y H Q=>∃a b xs ys,x=.ref a/\y=.ref b/\ZI K H a xs/\ZI K H b ys/\xs≠[]/\xs.length+ys.length<=xg/\
 (ys=[]->Q (.ref a) H)/\(ys≠[]->∀p,H p=none->Q (.ref p) (Zl H p (.tup (xs++ys))))
theorem Zy.nil_iff {xs:List V}{us:List Value}(r:Zy xs us):us=[]↔xs=[]:=by
 cases r with
 | nil=>simp
 | cons _ _=>simp
theorem ZkU:Z7 X (binaryOp .Add) (ZnJ X.K):=by
 intro jC s σ H x y v u Q I rx ry h;obtain⟨a,b,xs,ys,rfl,rfl,ha,hb,hx,hz,q1,q2⟩:=h
 cases rx
 cases ry
 obtain⟨jE,r1,p1,_⟩:=I.tuple ha;obtain⟨jW,r2,p2,_⟩:=I.tuple hb;refine HT.cat_tup p1 p2 (λz=>hx (r1.nil_iff.mp z)) (λz=>⟨.ref a,H,I,rfl,q1 (r2.nil_iff.mp z)⟩) (λz=>?_) (by rw[<-r1.length,<-r2.length];exact hz);refine⟨.ref s.heap.objs.size,_,I.laid (t':=s.toks) (o:=.tup (xs++ys)) (λb ob q=>qf _ q) (qm _) ?_,rfl,q2 (λw=>z (r2.nil_iff.mpr w)) _ (I.hok.fresh (qm _))⟩;exact⟨by rw[qG];exact hz,_,r1.append r2,qbR _ _⟩
end
noncomputable def Ue (n:Nat)(i:Int):Option Nat:=if 0<=i then (if i<n then some i.toNat else none)else if -(n:Int)<=i then some (i+n).toNat else none
noncomputable def XF {α:Type}(xs:List α)(i:Int):Option α:=(Ue xs.length i).bind λj=>xs[j]?
theorem Zg5 {n:Nat}{i:Int}{j:Nat}(h:Ue n i=some j):seqIndex? i n=some j/\j<n/\-(n:Int)<=i/\i<n:=by
 unfold Ue at h;by_cases h0:0<=i
 ·rw[if_pos h0]at h
  by_cases h1:i<n
  ·rw[if_pos h1]at h
   have e:i.toNat=j:=zp h;exact⟨by rw[seqIndex_of h0 h1,e],by omega,by omega,h1⟩
  ·rw[if_neg h1]at h;cases h
 ·rw[if_neg h0]at h
  by_cases h1:-(n:Int)<=i
  ·rw[if_pos h1]at h
   have e:(i+n).toNat=j:=zp h;exact⟨by rw[seqIndex_neg (by omega) h1,e],by omega,h1,by omega⟩
  ·rw[if_neg h1]at h;cases h
theorem Zg6 {α:Type}{xs:List α}{i:Int}{v:α}(h:XF xs i=some v):∃j,seqIndex? i xs.length=some j/\xs[j]?=some v/\j<xs.length/\-(xs.length:Int)<=i/\i<xs.length:=by
 unfold XF at h
 cases e:Ue xs.length i with
 | none=>rw[e]at h;cases h
 | some j=>
  rw[e]at h;obtain⟨h1,h2,h3,h4⟩:=Zg5 e;exact⟨j,h1,h,h2,h3,h4⟩
theorem W0 {α:Type}{xs:List α}{j:Nat}{v:α}(h:xs[j]?=some v):XF xs (j:Int)=some v:=by
 have hj:j<xs.length:=(qu.mp h).1;have e:Ue xs.length (j:Int)=some j:=by
  unfold Ue;rw[if_pos (by omega),if_pos (by omega)];simp
 unfold XF;rw[e];exact h
noncomputable def Zg7 (b:Expr):Prop:=∀o i,subscripted b false o i=operate [o,i] (getItem o i)
noncomputable def Uf (X:Cx)(r:R2):Prop:=
 ∀(value slice:Expr) (jC:Qb) (s:Shared) (σ:St) (H:Hp) (x y:V) (v u:Value) (Q:VK),Inv X jC σ H s->ZH x v->ZH y u->r x y H Q->
  subscripted slice false v u=operate [v,u] (getItem v u)->xf (xw X.prog X.w) X.A (subscriptTail value slice v u) (EP X jC σ Q) X.xe s
noncomputable def MtR (X:Cx)(id:String)(r:V->List V->Hp->VK->Prop):Prop:=
 ∀(jC:Qb) (s:Shared) (σ:St) (H:Hp) (x:V) (xs:List V) (v:Value) (us:List Value) (Q:VK),Inv X jC σ H s->ZH x v->Zy xs us->r x xs H Q->
  xf (xw X.prog X.w) X.A (call (.builtin id) (v::us)) (EP X jC σ Q) X.xe s
section
variable {X:Cx}{a b:Expr}{ta tb:TE}{pos:Pos}
theorem Uf.or {r r':R2}(h:Uf X r)(h':Uf X r'):Uf X (λx y H Q=>r x y H Q∨r' x y H Q):=by
 intro value slice jC s σ H x y v u Q I rx ry q hs;rcases q with q | q
 ·exact h value slice jC s σ H x y v u Q I rx ry q hs
 ·exact h' value slice jC s σ H x y v u Q I rx ry q hs
theorem WK {r:R2}(hr:Uf X r)(ha:PE X a ta)(hb:PE X b tb)(hs:Zg7 b):PE X (.Subscript a b pos) (Wk r ta tb):=by
 intro jC s σ H Q I h;exact Subscript_ (binT ha hb I h λv u s2 x y H2 I2 rx ry q=>hr a b jC s2 σ H2 x y v u Q I2 rx ry q (hs _ _))
noncomputable def Bn (K:qk):R2:=λx y H Q=>∃p xs i v,x=.ref p/\y=.int i/\ZF K H p xs/\XF xs i=some v/\Q v H
noncomputable def rIxT (K:qk):R2:=λx y H Q=>∃p xs i v,x=.ref p/\y=.int i/\ZI K H p xs/\XF xs i=some v/\Q v H
theorem WG:Uf X (Bn X.K):=by
 intro value slice jC s σ H x y v u Q I rx ry h hs;obtain⟨p,xs,i,z,rfl,rfl,hq,he,q⟩:=h
 cases rx
 obtain⟨t,rfl⟩:=ry;obtain⟨jE,r,pl,hz⟩:=I.list hq;obtain⟨j,h1,h2,h3,h4,h5⟩:=Zg6 he;obtain⟨w,ew,rw'⟩:=r.get h2;have hl:=r.length;have hn:=JZ;have fin:EP X jC σ Q w s:=⟨z,H,I,rw',q⟩;by_cases h0:0<=i
 ·have hj:i.toNat=j:=by
   rw[seqIndex_of h0 h5]at h1;exact zp h1
  exact item_listR pl.isList h0 (by omega) (by rw[hj];simpa using ew) fin hs
 ·have hj:(i+(jE.toArray.size:Int)).toNat=j:=by
   rw[seqIndex_neg (by omega) h4]at h1;rw[qL,<-hl];exact zp h1
  exact subscriptTail_builtinR (x:=w) pl.isList.typeIs slot_list_getitem.lookup
   (wpAny_getItem_list_neg (Q:=λr s'=>r=w/\EP X jC σ Q r s') pl.isList (by omega) (by rw[qL] <;> omega) (by omega) (by rw[hj];simpa using ew) ⟨rfl,fin⟩) hs
theorem ZmF:Uf X (rIxT X.K):=by
 intro value slice jC s σ H x y v u Q I rx ry h hs;obtain⟨p,xs,i,z,rfl,rfl,hq,he,q⟩:=h
 cases rx
 obtain⟨t,rfl⟩:=ry;obtain⟨jE,r,pl,hz⟩:=I.tuple hq;obtain⟨j,h1,h2,h3,h4,h5⟩:=Zg6 he;obtain⟨w,ew,rw'⟩:=r.get h2;have hl:=r.length;have hn:=JZ;have fin:EP X jC σ Q w s:=⟨z,H,I,rw',q⟩;exact subscriptTail_builtinR (x:=w) pl.typeIs slot_tuple_getitem.lookup
  (getItem_tuple (j:=j) (Q:=λr s'=>r=w/\EP X jC σ Q r s') pl (by omega) (by omega) (by rw[qL,<-hl];exact h1) (by simpa using ew) ⟨rfl,fin⟩) hs
theorem Zf8 (jE:List Value)(n j:Nat)(u:Value):zU (·.setIfInBounds j u) { cls:=.type "list",data:=.seq jE.toArray n } = { cls:=.type "list",data:=.seq (jE.set j u).toArray n }:=by
 simp[zU]
theorem Inv.lst {jC:Qb}{σ:St}{H:Hp}{s:Shared}{p:Addr}{xs:List V}(I:Inv X jC σ H s)(h:H p=some (.lst xs)) :
  ∃(jE:List Value) (n:Nat),Zy xs jE/\s.heap.get? p=some { cls:=.type "list",data:=.seq jE.toArray n }/\xs.length<=xg:=by
 obtain⟨z,jE,n,r,e⟩:=I.hok p _ h;exact⟨jE,n,r,e,z⟩
theorem Inv.lstUpd {jC:Qb}{σ:St}{H:Hp}{s:Shared}{p:Addr}{xs ys:List V}{jE its':List Value}{n n':Nat}{f:Obj->Obj}(I:Inv X jC σ H s)(h:H p=some (.lst xs))
  (ho:s.heap.get? p=some { cls:=.type "list",data:=.seq jE.toArray n }) (hf:f { cls:=.type "list",data:=.seq jE.toArray n } = { cls:=.type "list",data:=.seq its'.toArray n' }) (r:Zy ys its') (hz:ys.length<=xg) (t:Nat) :
  Inv X jC σ (Zl H p (.lst ys)) { s with heap:=s.heap.update p f,toks:=t }:=by
 have e:(s.heap.update p f).get? p=some { cls:=.type "list",data:=.seq its'.toArray n' }:=by
  rw[zY f ho (by rw[hf] <;> rfl),hf]
 refine I.write (x:=p) (e:=p) (by rw[h];trivial) (.inl rfl) (λb u hb q=>(yh _ _ (zH hb)).trans q) ⟨_,e⟩ ?_;exact⟨hz,its',n',r,e⟩
noncomputable def Bb:V->V->V->Hp->(Hp->Prop)->Prop:=λo i v H Q=>∃p xs k j,o=.ref p/\i=.int k/\H p=some (.lst xs)/\Ue xs.length k=some j/\Q (Zl H p (.lst (xs.set j v)))
theorem Zco:PSet X Bb:=by
 intro jC s σ H o i v ov iv u Q I ro ri rv h;obtain⟨p,xs,k,j,rfl,rfl,hp,hj,q⟩:=h
 cases ro
 obtain⟨t,rfl⟩:=ri;obtain⟨jE,n,r,ho,hz⟩:=I.lst hp;obtain⟨h1,h2,h3,h4⟩:=Zg5 hj;have hl:=r.length;have hn:=JZ;have I':Inv X jC σ (Zl H p (.lst (xs.set j v))) { s with heap:=s.heap.update p (zU (·.setIfInBounds j u)) }:=
  I.lstUpd hp ho (Zf8 jE n j u) (r.set rv j) (by rw[List.length_set];exact hz) s.toks
 by_cases h0:0<=k
 ·have hk:k.toNat=j:=by
   rw[seqIndex_of h0 h4]at h1;exact zp h1
  exact PySem.W.ki_setAt ho h0 (by omega) (by rw[qL,<-hl];exact h4) (by rw[hk];exact⟨_,I',q⟩)
 ·have hk:(k+(jE.toArray.size:Int)).toNat=j:=by
   rw[seqIndex_neg (by omega) h3]at h1;rw[qL,<-hl];exact zp h1
  exact PySem.W.ki_setBack ho (by omega) (by rw[qL,<-hl];exact h3) (by omega) (by rw[hk];exact⟨_,I',q⟩)
theorem Zef (lo hi:Option Int)(n:Nat):(sliceBounds lo hi none n).1=((HT.sIx n 0 lo:Nat):Int)/\(sliceBounds lo hi none n).2.1=((HT.sIx n n hi:Nat):Int)/\(sliceBounds lo hi none n).2.2=1:=by
 refine⟨?_,?_,rfl⟩
 ·cases lo with
  | none=>simp[sliceBounds,HT.sIx]
  | some i=>
   simp only[sliceBounds,HT.sIx,Option.getD_none,show(1:Int) > 0 by decide,if_true];by_cases h:i<0
   ·simp only[h,if_true] <;> omega
   ·simp only[h,if_false] <;> omega
 ·cases hi with
  | none=>simp[sliceBounds,HT.sIx]
  | some i=>
   simp only[sliceBounds,HT.sIx,Option.getD_none,show(1:Int) > 0 by decide,if_true];by_cases h:i<0
   ·simp only[h,if_true] <;> omega
   ·simp only[h,if_false] <;> omega
theorem Zdd (jE:List Value)(lo hi:Option Int):slicePick jE.toArray lo hi none=((jE.drop (HT.sIx jE.length 0 lo)).take (HT.sIx jE.length jE.length hi-HT.sIx jE.length 0 lo)).toArray:=by
 obtain⟨h1,h2,h3⟩:=Zef lo hi jE.toArray.size;unfold slicePick;rw[h1,h2,h3];simp only[sliceRange_one,pick_run,qL] <;> rfl
noncomputable def rSlL (K:qk):V->Option Int->Option Int->Hp->VK->Prop:=λx lo hi H Q=>∃a xs,x=.ref a/\ZF K H a xs/\∀p,H p=none->Q (.ref p) (Zl H p (.lst (Vu xs lo hi)))
theorem ZkV:Ud X (rSlL X.K):=by
 intro jC s σ H x v vl vu lo hi sl Q I rx hs pl pu h;obtain⟨a,xs,rfl,hx,q⟩:=h
 cases rx
 obtain⟨jE,r,ht,hz⟩:=I.list hx;have jM:=r.length;refine⟨"list",_,slot_list_getitem.lookup,ht.isList.typeIs,?_⟩;refine wpAny_getItem_list_slice ht.isList hs pl pu .none (by simp) ?_ (by rw[qL] <;> omega);rw[Zdd,<-jM];refine⟨.ref s.heap.objs.size,_,I.laid (t':=s.toks) (o:=.lst (Vu xs lo hi)) (λb ob q=>qf _ q) (qm _) ?_,rfl,q _ (I.hok.fresh (qm _))⟩;exact⟨zj (ZbO xs lo hi) hz,_,0,(r.drop (HT.sIx xs.length 0 lo)).take (HT.sIx xs.length xs.length hi-HT.sIx xs.length 0 lo),qI _ rfl⟩
theorem BK:Xb X (.builtin "len") (λxs H Q=>∃p ys,xs=[.ref p]/\(ZF X.K H p ys∨ZI X.K H p ys)/\Q (.int ys.length) H):=by
 intro jC s σ H xs us Q I r h;obtain⟨p,ys,rfl,hq,q⟩:=h;obtain⟨u,rfl,rx⟩:=XU r
 cases rx
 have hn:=JZ;rcases hq with hq | hq
 ·obtain⟨jE,r',pl,hz⟩:=I.list hq
  have jM:=r'.length;exact Calls.call_len_list pl.isList (by simp only[qL] <;> omega) ⟨.int ys.length,H,I.tok _,⟨s.toks+1,by rw[qL,jM]⟩,q⟩
 ·obtain⟨jE,r',pl,hz⟩:=I.tuple hq
  have jM:=r'.length;exact len_tuple pl (by simp only[qL] <;> omega) ⟨.int ys.length,H,I.tok _,⟨s.toks+1,by rw[qL,jM]⟩,q⟩
theorem Zeg:Xb X (.type "list") (λxs H Q=>∃p ys,xs=[.ref p]/\(ZF X.K H p ys∨ZI X.K H p ys)/\∀l,H l=none->Q (.ref l) (Zl H l (.lst ys))):=by
 intro jC s σ H xs us Q I r h;obtain⟨p,ys,rfl,hq,q⟩:=h;obtain⟨u,rfl,rx⟩:=XU r
 cases rx
 have fin:∀(jE:List Value),Zy ys jE->ys.length<=xg->∀(h':Heap) (c':Nat),(∀b o',s.heap.get? b=some o'->h'.get? b=some o')->
   h'.get? s.heap.objs.size=some { cls:=.type "list",dict:=none,data:=.seq jE.toArray c',slots:=#[] }->EP X jC σ Q (.ref s.heap.objs.size) { s with heap:=h' }:=λjE r' hz h' c' kp e=>
  ⟨.ref s.heap.objs.size,_,I.laid (t':=s.toks) kp (qm _) (show Yn X.prog X.w _ h' _ (.lst ys)from⟨hz,jE,c',r',e⟩),rfl,q _ (I.hok.fresh (qm _))⟩
 rcases hq with hq | hq
 ·obtain⟨jE,r',pl,hz⟩:=I.list hq
  have jM:=r'.length;obtain⟨o,ho,hc,n,hd⟩:=pl.isList;exact call_list_seq p (.inl rfl) ho hc hd (λh' c' kp e=>fin jE r' hz h' c' kp e) (by simp only[qL] <;> omega)
 ·obtain⟨jE,r',pl,hz⟩:=I.tuple hq
  have jM:=r'.length;obtain⟨o,ho,hc,n,hd⟩:=pl;exact call_list_seq p (.inr rfl) ho hc hd (λh' c' kp e=>fin jE r' hz h' c' kp e) (by simp only[qL] <;> omega)
theorem Zde:Xb X (.type "tuple") (λxs H Q=>∃p ys,xs=[.ref p]/\((ZF X.K H p ys/\∀l,H l=none->Q (.ref l) (Zl H l (.tup ys)))∨(ZI X.K H p ys/\Q (.ref p) H))):=by
 intro jC s σ H xs us Q I r h;obtain⟨p,ys,rfl,h⟩:=h;obtain⟨u,rfl,rx⟩:=XU r
 cases rx
 rcases h with⟨hq,q⟩ | ⟨hq,q⟩
 ·obtain⟨jE,r',pl,hz⟩:=I.list hq
  have jM:=r'.length;refine call_tuple_list pl.isList (λh' kp=>?_) (by simp only[qL] <;> omega);have I1:Inv X jC σ H { s with heap:=h' }:=I.kept (t':=s.toks) kp;have I2:Inv X jC σ (Zl H h'.objs.size (.tup ys)) { s with heap:=h'.push { cls:=.type "tuple",data:=.seq jE.toArray } }:=
   I1.laid (t':=s.toks) (λb o e=>qf _ e) (qm _) (show Yn X.prog X.w _ _ _ (.tup ys)from⟨hz,jE,r',qbR _ _⟩)
  exact⟨.ref h'.objs.size,_,I2,rfl,q _ (I1.hok.fresh (qm _))⟩
 ·obtain⟨jE,r',pl,hz⟩:=I.tuple hq
  exact call_tuple_same pl ⟨.ref p,H,I,rfl,q⟩
noncomputable def tyV (K:qk)(T:String)(x:V)(H:Hp):Prop:=match x with
 | .str _=>T = "str"
 | .int _=>T = "int"
 | .ref p=>(T = "list"/\∃xs,ZF K H p xs)∨(T = "tuple"/\∃o,K.lookup p=some o/\o.cls=.type "tuple"/\o.dict=none)∨
   (T = "dict"/\((∃kvs,H p=some (.dK kvs))∨∃kvs,H p=some (.dT kvs)))∨(T = "set"/\∃S n,H p=some (.set S n))
 | _=>False
theorem ZmG {jC:Qb}{σ:St}{H:Hp}{s:Shared}{T:String}{x:V}{v:Value}(I:Inv X jC σ H s)(r:ZH x v)(ty:tyV X.K T x H) :
  s.TypeIs v T/\∀a,v=.ref a->∃ob,s.heap.get? a=some ob/\ob.dict=none:=by
 cases x with
 | str z=>
  obtain⟨t,rfl⟩:=r
  cases (show T = "str" from ty)
  exact⟨typeIs_str s z t,λ_ e=>nomatch e⟩
 | int i=>
  obtain⟨t,rfl⟩:=r
  cases (show T = "int" from ty)
  exact⟨typeIs_int s i t,λ_ e=>nomatch e⟩
 | ref p=>
  cases r
  rcases ty with⟨rfl,xs,hq⟩ | ⟨rfl,o,hk,hc,hd⟩ | ⟨rfl,hk⟩ | ⟨rfl,S,n,hk⟩
  ·obtain⟨jE,_,pl,_⟩:=I.list hq
   refine⟨pl.isList.typeIs,λa e=>?_⟩
   cases e
   obtain⟨o,n,e,c,hd,_⟩:=pl;exact⟨o,e,hd⟩
  ·refine⟨⟨o,I.kIn p o hk,hc⟩,λa e=>?_⟩
   cases e
   exact⟨o,I.kIn _ o hk,hd⟩
  ·have z:∃o,s.heap.get? p=some o/\o.ExactDict:=by
    rcases hk with⟨kvs,hk⟩ | ⟨kvs,hk⟩
    ·obtain⟨_,_,_,_,o,_,_,e,ex,_⟩:=I.hok p _ hk
     exact⟨o,e,ex⟩
    ·obtain⟨_,_,_,_,o,_,_,e,ex,_⟩:=I.hok p _ hk
     exact⟨o,e,ex⟩
   obtain⟨o,e,ex⟩:=z;refine⟨⟨o,e,ex.1⟩,λa e2=>?_⟩
   cases e2
   exact⟨o,e,ex.2.1⟩
  ·obtain⟨o,_,_,_,e,ex,_⟩:=I.hok p _ hk
   refine⟨⟨o,e,ex.1⟩,λa e2=>?_⟩
   cases e2
   exact⟨o,e,ex.2.1⟩
 | _=>exact yq ty
noncomputable def tBM (K:qk)(T:String)(r:V->List V->Hp->VK->Prop)(to:TE)(t:TA):TE:=fun σ H Q=>to σ H λx H1=>tyV K T x H1/\t σ H1 λxs H2=>r x xs H2 Q
variable {o e:Expr}{es:List Expr}{to:TE}{t:TA}{name:Str}{apos cpos:Pos}{T id:String}{r:V->List V->Hp->VK->Prop}
theorem ZlY (pa:PlainAttrs T)(slot:Slot T name id)(hty:typeOf (.builtin id)=pure (.type "method_descriptor"))(hm:MtR X id r)(ho:PE X o to)(ha:PA X (e::es) t)
  (hbase:xp o name X.env (eval o X.env)=eval o X.env:=by rfl)
  (hfew:((backTo cpos (xh (e::es) X.env)).all (λx=>!x.1)&&(backToKw cpos (xi [] X.env)).all (λx=>x.1.isSome)
   && decide ((e::es).length+([]:List Keyword).length+(if ([]:List Keyword).isEmpty then 0 else 1)<30))=true:=by rfl)
  (hline:(apos.endLine==cpos.line)=true:=by rfl) (hs:xh (e::es) X.env=(false,eval e X.env)::xh es X.env:=by rfl) (hplain:(backTo cpos (xh es X.env)).any (·.1)=false:=by rfl) :
  PE X (.Call (.Attribute o name apos) (e::es) [] cpos) (tBM X.K T r to t):=by
 intro jC s σ H Q I h;refine wpAny_Call_method_late hbase hfew hline rfl (ZM (ho jC s σ H _ I h) λv s1 ⟨x,H1,I1,r1,ty,q1⟩=>?_);obtain⟨h1,h2⟩:=ZmG I1 r1 ty;refine⟨T,id,pa,slot,hty,h1,h2,?_⟩;have hA:=ha cpos jC s1 σ H1 _ I1 q1;rw[hs]at hA⊢;refine Calls.callWith_builtin (by show(false||(backTo cpos (xh es X.env)).any (·.1))=false;rw[hplain] <;> rfl) (Calls.evalArgs_plain ?_);exact ZM hA λus s2 ⟨vs,H2,I2,r2,q2⟩=>hm jC s2 σ H2 x vs v us Q I2 r1 r2 q2
end
noncomputable def MtM (X:Cx)(id:String)(r:V->List V->Hp->VK->Prop):Prop:=
 ∀(jC:Qb) (s:Shared) (σ:St) (H:Hp) (x:V) (xs:List V) (v:Value) (us:List Value) (Q:VK),Inv X jC σ H s->ZH x v->Zy xs us->r x xs H Q->
  xf (xw X.prog X.w) X.A (call (.builtin id) (v::us)) (EP X jC σ Q) X.xe s
theorem Zy.one:∀{x:V} {us:List Value},Zy [x] us->∃u,us=[u]/\ZH x u
 | _,_,.cons r .nil=>⟨_,rfl,r⟩
theorem Zy.two:∀{x y:V} {us:List Value},Zy [x,y] us->∃u v,us=[u,v]/\ZH x u/\ZH y v
 | _,_,_,.cons r (.cons q .nil)=>⟨_,_,rfl,r,q⟩
theorem Zy.rep {xs:List V}{us:List Value}(h:Zy xs us):∀k:Nat,Zy (qw k xs).flatten (qw k us).flatten
 | 0=>.nil
 | k+1=>by
  rw[yk,yk,zN,zN];exact Zy.append h (Zy.rep h k)
theorem Zbv (jE:List Value):∀(k:Nat) (jH:List Value),
  qbD (λx1 x2=>x1++x2) jH.toArray (qw k jE.toArray)=(jH++(qw k jE).flatten).toArray
 | 0,jH=>by simp
 | k+1,jH=>by
  have e:jH.toArray++jE.toArray=(jH++jE).toArray:=by simp
  have e2:(jH++jE)++(qw k jE).flatten=jH++(qw (k+1) jE).flatten:=by
   rw[yk,zN,qK]
  rw[<-e2,<-Zbv jE k (jH++jE),<-e,yk,qae]
section
variable {X:Cx}{jC:Qb}{σ:St}{H:Hp}{s:Shared}{l b:Addr}{xs ys zs:List V}
theorem Inv.lset {jE its':List Value}{n:Nat}{f:Array Value->Array Value}{t':Nat}(I:Inv X jC σ H s)(hH:H l=some (.lst xs))
  (e:s.heap.get? l=some { cls:=.type "list",data:=.seq jE.toArray n }) (hf:f jE.toArray=its'.toArray) (hv:Zy ys its') (hz:ys.length<=xg) :
  Inv X jC σ (Zl H l (.lst ys)) { s with heap:=s.heap.update l (zU f),toks:=t' }:=by
 have q:=PySem.IsL.update e f;rw[hf]at q;refine I.write (x:=l) (e:=l) (by rw[hH];exact trivial) (.inl rfl) (λb' u hb hu=>(yh s.heap (zU f) (zH hb)).trans hu) ⟨_,q⟩ ?_;exact⟨hz,its',_,hv,q⟩
theorem Inv.lnew {jE:List Value}{t':Nat}(I:Inv X jC σ H s)(hv:Zy ys jE)(hz:ys.length<=xg) :
  Inv X jC σ (Zl H s.heap.objs.size (.lst ys)) { s with heap:=s.heap.push { cls:=.type "list",data:=.seq jE.toArray },toks:=t' }:=
 I.laid (λ_ _ q=>qf _ q) (qm _) ⟨hz,jE,0,hv,qI _ rfl⟩
theorem Inv.fresh (I:Inv X jC σ H s):H s.heap.objs.size=none:=I.hok.fresh (qm _)
theorem Inv.lstM (I:Inv X jC σ H s)(hH:H l=some (.lst xs)):xs.length<=xg/\∃(jE:List Value) (n:Nat),Zy xs jE/\xs.length=jE.length/\s.heap.get? l=some { cls:=.type "list",data:=.seq jE.toArray n }:=by
 obtain⟨z,jE,n,r,e⟩:=I.hok l _ hH;exact⟨z,jE,n,r,r.length,e⟩
theorem Zi0 {n:Nat}(h:n<=xg):qa3 n=false:=by
 unfold qa3;exact decide_eq_false (by omega)
end
section
variable {X:Cx}
noncomputable def Zca:V->List V->Hp->VK->Prop:=λx vs H Q=>∃l xs y,x=.ref l/\vs=[y]/\H l=some (.lst xs)/\xs.length<xg/\Q .non (Zl H l (.lst (xs ++ [y])))
theorem Zdy:MtM X "list.append" Zca:=by
 intro jC s σ H x vs v us Q I rx rv h;obtain⟨l,xs,y,rfl,rfl,hH,hz,q⟩:=h
 cases rx
 obtain⟨u,rfl,ru⟩:=rv.one;obtain⟨z,jE,n,r,hl,e⟩:=I.lstM hH;refine call_meets F.slot_list_append ⟨_,e,rfl⟩ F.entry_list_append (F.args_list_append_2 _ _) (PySem.list_append l jE.toArray n u (by rw[qL];omega)) ⟨e,?_⟩;refine⟨.non,_,I.lset (its':=jE ++ [u]) hH e (by simp) (r.append (.cons ru .nil)) ?_,rfl,q⟩;rw[qG,qaN];omega
noncomputable def rCat:R2:=λx y H Q=>∃l b xs zs,x=.ref l/\y=.ref b/\H l=some (.lst xs)/\H b=some (.lst zs)/\xs.length+zs.length<=xg/\∀p,H p=none->Q (.ref p) (Zl H p (.lst (xs++zs)))
theorem ZmH:Z7 X (binaryOp .Add) rCat:=by
 intro jC s σ H x y v u Q I rx ry h;obtain⟨l,b,xs,zs,rfl,rfl,hH,hB,hz,q⟩:=h
 cases rx
 cases ry
 obtain⟨z,jE,n,r,hl,e⟩:=I.lstM hH;obtain⟨z2,jW,n2,r2,hl2,e2⟩:=I.lstM hB;refine PySem.P.add_list e e2 ?_ (by rw[qL,qL];omega);have ea:jE.toArray++jW.toArray=(jE++jW).toArray:=by simp
 rw[ea];exact⟨.ref _,_,I.lnew (t':=s.toks) (r.append r2) (by rw[qG];omega),rfl,q _ I.fresh⟩
noncomputable def rRep:R2:=λx y H Q=>∃l k xs,x=.ref l/\y=.int k/\H l=some (.lst xs)/\-(2 ^ 63)<=k/\k<2 ^ 63/\xs.length*k.toNat<=xg/\
 ∀p,H p=none->Q (.ref p) (Zl H p (.lst (qw k.toNat xs).flatten))
theorem Zeh {α:Type}(xs:List α)(k:Nat):(qw k xs).flatten.length=k*xs.length:=by
 induction k with
 | zero=>simp
 | succ k ih=>rw[yk,zN,qG,ih,Nat.succ_mul,qc8]
theorem ZmI:Z7 X (binaryOp .Mult) rRep:=by
 intro jC s σ H x y v u Q I rx ry h;obtain⟨l,k,xs,rfl,rfl,hH,h1,h2,hz,q⟩:=h
 cases rx
 obtain⟨t,rfl⟩:=ry;obtain⟨z,jE,n,r,hl,e⟩:=I.lstM hH;have jM:jE.toArray.size*k.toNat<=xg:=by rw[qL,<-hl];exact hz
 have hcap:¬jE.toArray.size*k.toNat > (2 ^ 63-1) / 8:=by
  have:(xg:Nat)<=(2 ^ 63-1) / 8:=by decide
  omega
 have hfit:¬(!Builtin.List.listFitsIndex k)=true:=by
  rw[fitsIndex_both h1 h2];exact yH
 have hlong:¬qa3 (jE.toArray.size*k.toNat)=true:=by
  rw[Zi0 jM];exact yH
 have hnew:qbD (λx1 x2=>x1++x2) #[] (qw (if jE.toArray.isEmpty=true then 0 else k.toNat) jE.toArray)=(qw k.toNat jE).flatten.toArray:=by
  have f0:∀m:Nat,qbD (λx1 x2=>x1++x2) #[] (qw m jE.toArray)=(qw m jE).flatten.toArray:=λm=>by
   have:=Zbv jE m [];rw[qaf]at this;exact this
  rw[f0]
  cases jE with
  | nil=>simp
  | cons a r'=>rw[if_neg (by simp)]
 refine wpAny_binaryOp_repeat_ref (T:="list") (U:="int") (by decide) ⟨_,e,rfl⟩ (λs'=>typeIs_int s' k t) noFill_list_mul qbE yS repeat_list qbu.lookup
  (call_meets yS (typeIs_int s k t) qbv (qbk _ _) (int___rmul___int_list k t l jE.toArray n)
   ⟨e,rfl,⟨_,e,rfl⟩,call_meets F.slot_list_mul ⟨_,e,rfl⟩ F.entry_list_mul (F.args_list_mul_2 _ _) (AutoListH.list___mul___list_int_3 l jE.toArray n k t hfit hcap hlong) ⟨e,?_⟩⟩)
 rw[hnew];exact⟨.ref _,_,I.lnew (t':=s.toks) (r.rep k.toNat) (by rw[Zeh,qbF];exact hz),rfl,q _ I.fresh⟩
end
section
variable {prog:xz}{w:World}{A:xA}{E:xB}{s:Shared}
end
section
variable {X:Cx}
end
section
variable {κ:Type}[DecidableEq κ]
noncomputable def Z8 (kvs:List (κ×V))(k:κ):Option V:=(kvs.find? λkv=>decide (kv.1=k)).map (·.2)
noncomputable def Yo (kvs:List (κ×V))(k:κ)(v:V):List (κ×V):=
 if (kvs.any λkv=>decide (kv.1=k))=true then kvs.map (λkv=>if kv.1=k then (kv.1,v)else kv)else kvs ++ [(k,v)]
theorem WD {p:κ×V}{r:List (κ×V)}{k:κ}(e:p.1=k):Z8 (p::r) k=some p.2:=by simp[Z8,qag,e]
theorem WE {p:κ×V}{r:List (κ×V)}{k:κ}(e:¬p.1=k):Z8 (p::r) k=Z8 r k:=by simp[Z8,qag,e]
theorem JL (k:κ):∀kvs:List (κ×V),(kvs.any λkv=>decide (kv.1=k))=(Z8 kvs k).isSome
 | []=>rfl
 | p::r=>by
  rw[qaB];by_cases e:p.1=k
  ·simp only[WD e,decide_eq_true e,Bool.true_or,Option.isSome_some]
  ·rw[WE e,decide_eq_false e,Bool.false_or];exact JL k r
theorem Ze0 (k j:κ)(y:V):∀kvs:List (κ×V),Z8 (kvs.map λkv=>if kv.1=k then (kv.1,y)else kv) j=(Z8 kvs j).map λx=>if j=k then y else x
 | []=>rfl
 | p::r=>by
  have ih:=Ze0 k j y r;rw[qX];by_cases h:p.1=k
  ·rw[if_pos h]
   by_cases e:p.1=j
   ·rw[WD (p:=(p.1,y)) e,WD e,yc,if_pos (e.symm.trans h)]
   ·rw[WE (p:=(p.1,y)) e,WE e,ih]
  ·rw[if_neg h]
   by_cases e:p.1=j
   ·rw[WD (p:=p) e,WD e,yc,if_neg (λz=>h (e.trans z))]
   ·rw[WE (p:=p) e,WE e,ih]
theorem Zdz (k j:κ)(y:V):∀kvs:List (κ×V),Z8 kvs k=none->Z8 (kvs ++ [(k,y)]) j=if j=k then some y else Z8 kvs j
 | [],_=>by
  by_cases e:k=j
  ·rw[if_pos e.symm];exact WD (p:=(k,y)) e
  ·rw[if_neg (λz=>e z.symm)];exact WE (p:=(k,y)) e
 | p::r,hn=>by
  rw[qbw];have hk:¬p.1=k:=λz=>by rw[WD z]at hn;cases hn
  rw[WE hk]at hn;have ih:=Zdz k j y r hn;by_cases e:p.1=j
  ·rw[WD e,WD e,if_neg (λz=>hk (e.trans z))]
  ·rw[WE e,WE e,ih]
theorem Ze1 (kvs:List (κ×V))(k j:κ)(y:V):Z8 (Yo kvs k y) j=if j=k then some y else Z8 kvs j:=by
 unfold Yo;by_cases a:(kvs.any λkv=>decide (kv.1=k))=true
 ·rw[if_pos a,Ze0]
  rw[JL]at a;by_cases e:j=k
  ·obtain⟨x,hx⟩:=yQ.mp a
   rw[if_pos e,e,hx,yc,if_pos rfl]
  ·rw[if_neg e]
   cases Z8 kvs j with
   | none=>rfl
   | some x=>rw[yc,if_neg e]
 ·rw[if_neg a]
  refine Zdz k j y kvs ?_;rw[JL]at a
  cases q:Z8 kvs k with
  | none=>rfl
  | some x=>rw[q]at a;exact(a rfl).elim
theorem Uk (kvs:List (κ×V))(k:κ)(v:V):(Yo kvs k v).length<=kvs.length+1:=by
 unfold Yo;split
 ·rw[qj];omega
 ·rw[qG,qB,qaZ];omega
theorem Zi1 {kvs:List (κ×V)}{k:κ}(v:V)(h:Z8 kvs k=none):Yo kvs k v=kvs ++ [(k,v)]:=by
 unfold Yo;rw[JL,h];exact if_neg (by decide)
theorem UI.isSome_eq {o:Option V}{u:Option Value}(r:UI o u):o.isSome=u.isSome:=by
 cases o with
 | none=>cases u with
  | none=>rfl
  | some _=>exact(show False from r).elim
 | some _=>cases u with
  | none=>exact(show False from r).elim
  | some _=>rfl
theorem KV.val {kvs:List (κ×V)}{vs:List (κ×Value)}(r:KV kvs vs)(k:κ):UI (Z8 kvs k) (valueAt vs k):=by
 unfold KV at r
 induction r with
 | nil=>exact y4
 | @cons p q ps qs h t ih=>
  obtain⟨h1,h2⟩:=h;by_cases e:p.1=k
  ·have e':q.1=k:=h1.symm.trans e
   have b:valueAt (q::qs) k=some q.2:=by simp[valueAt,qag,e']
   rw[WD e,b];exact h2
  ·have e':¬q.1=k:=λz=>e (h1.trans z)
   have b:valueAt (q::qs) k=valueAt qs k:=by simp[valueAt,qag,e']
   rw[WE e,b];exact ih
theorem KV.any {kvs:List (κ×V)}{vs:List (κ×Value)}(r:KV kvs vs)(k:κ):(kvs.any λkv=>decide (kv.1=k))=vs.any λkv=>decide (kv.1=k):=by
 unfold KV at r
 induction r with
 | nil=>rfl
 | cons h t ih=>rw[qaB,qaB,ih,h.1]
theorem KV.repl {kvs:List (κ×V)}{vs:List (κ×Value)}(r:KV kvs vs)(k:κ){y:V}{u:Value}(ry:ZH y u) :
  KV (kvs.map λkv=>if kv.1=k then (kv.1,y)else kv) (vs.map λkv=>if kv.1=k then (kv.1,u)else kv):=by
 unfold KV at r⊢
 induction r with
 | nil=>exact .nil
 | @cons p q ps qs h t ih=>
  rw[qX,qX];refine .cons ?_ ih;obtain⟨h1,h2⟩:=h;by_cases e:p.1=k
  ·rw[if_pos e,if_pos (h1.symm.trans e)];exact⟨h1,ry⟩
  ·rw[if_neg e,if_neg (λz=>e (h1.trans z))];exact⟨h1,h2⟩
theorem KV.put {kvs:List (κ×V)}{vs:List (κ×Value)}(r:KV kvs vs)(k:κ){y:V}{u:Value}(ry:ZH y u):KV (Yo kvs k y) (stored vs k u):=by
 unfold Yo stored;rw[r.any k];by_cases e:(vs.any λkv=>decide (kv.1=k))=true
 ·rw[if_pos e,if_pos e];exact r.repl k ry
 ·rw[if_neg e,if_neg e];exact Paired.snoc r ⟨rfl,ry⟩
theorem KV.length {kvs:List (κ×V)}{vs:List (κ×Value)}(r:KV kvs vs):kvs.length=vs.length:=qaA r
end
theorem Bc {P:xz}{w:World}{k:Zu}{u:Value}(r:ZH (kV k) u):(Wa P w).is k u=true:=by
 cases k with
 | inl i=>obtain⟨t,e⟩:=(show ∃t,u=qct i t from r);subst e;exact ZeU P w i t
 | inr x=>obtain⟨t,e⟩:=(show ∃t,u=qc6 x t from r);subst e;exact ZeV P w x t
theorem ZdA {P:xz}{w:World}:∀{ks:List Zu} {us:List Value},Zy (ks.map kV) us->ItemsAre (Wa P w) ks us
 | [],_,r=>by rw[qbC]at r;cases r;exact .nil
 | k::ks,_,r=>by
  rw[qX]at r
  cases r with
  | cons h t=>exact .cons (Bc h) (ZdA t)
noncomputable abbrev KT (H:Hp):List (List Zu×V)->List (List Zu×Addr×Value)->Prop:=Paired λp q=>p.1=q.1/\H q.2.1=some (.tup (p.1.map kV))/\ZH p.2 q.2.2
theorem KT.val {H:Hp}{kvs:List (List Zu×V)}{xs:List (List Zu×Addr×Value)}(r:KT H kvs xs)(k:List Zu):UI (Z8 kvs k) ((atKey xs k).map (·.2)):=by
 induction r with
 | nil=>exact y4
 | @cons p q ps qs h t ih=>
  obtain⟨h1,_,h2⟩:=h;by_cases e:p.1=k
  ·have e':q.1=k:=h1.symm.trans e
   have b:atKey (q::qs) k=some q.2:=by simp[atKey,qag,e']
   rw[WD e,b];exact h2
  ·have e':¬q.1=k:=λz=>e (h1.trans z)
   have b:atKey (q::qs) k=atKey qs k:=by simp[atKey,qag,e']
   rw[WE e,b];exact ih
theorem KT.repl {H:Hp}{kvs:List (List Zu×V)}{xs:List (List Zu×Addr×Value)}(r:KT H kvs xs)(k:List Zu){y:V}{u:Value}(ry:ZH y u) :
  KT H (kvs.map λkv=>if kv.1=k then (kv.1,y)else kv) (xs.map (putAt k u)):=by
 induction r with
 | nil=>exact .nil
 | @cons p q ps qs h t ih=>
  rw[qX,qX];refine .cons ?_ ih;obtain⟨h1,h2,h3⟩:=h;unfold putAt;by_cases e:p.1=k
  ·rw[if_pos e,if_pos (h1.symm.trans e)];exact⟨h1,h2,ry⟩
  ·rw[if_neg e,if_neg (λz=>e (h1.trans z))];exact⟨h1,h2,h3⟩
theorem KT.put {H:Hp}{kvs:List (List Zu×V)}{xs:List (List Zu×Addr×Value)}(r:KT H kvs xs)(k:List Zu){b:Addr}{y:V}{u:Value}(hb:H b=some (.tup (k.map kV)))(ry:ZH y u) :
  KT H (Yo kvs k y) (storedH xs k b u):=by
 have e:(kvs.any λkv=>decide (kv.1=k))=(atKey xs k).isSome:=by
  rw[JL,(r.val k).isSome_eq,qb3]
 unfold Yo storedH;rw[e];by_cases q:(atKey xs k).isSome=true
 ·rw[if_pos q,if_pos q];exact r.repl k ry
 ·rw[if_neg q,if_neg q];exact Paired.snoc r ⟨rfl,hb,ry⟩
theorem KT.keeps {H H':Hp}{kvs:List (List Zu×V)}{xs:List (List Zu×Addr×Value)}(r:KT H kvs xs)(ht:∀b ys,H b=some (.tup ys)->H' b=some (.tup ys)):KT H' kvs xs:=
 Paired.mapP r λ_ _ z=>⟨z.1,ht _ _ z.2.1,z.2.2⟩
section
variable {P:xz}{w:World}{H:Hp}{h:Heap}{a:Addr}
theorem ZlZ {u:HO}(ok:Yi P w H h)(e:Rd H a u):Yn P w H h a u:=e.ok ok
theorem Zi2 {kvs:List (Zu×V)}(ok:Yi P w H h)(e:Rd H a (.dK kvs)):kvs.length<=xg/\(a==sysModules)=false/\∃vs,KV kvs vs/\h.DictOf (Wa P w) a vs:=
 show Yn P w H h a (.dK kvs)from ZlZ ok e
theorem Zl0 {kvs:List (Zu×V)}(ok:Yi P w H h)(e:H a=some (.dK kvs)):kvs.length<=xg/\(a==sysModules)=false/\∃vs,KV kvs vs/\h.DictOf (Wa P w) a vs:=Zi2 ok (.inl e)
theorem J6 {ks:List Zu}(ok:Yi P w H h)(e:H a=some (.tup (ks.map kV))):(tupleKind (Wa P w)).is h ks a:=by
 obtain⟨_,jE,r,o,h1,h2,n,h3⟩:=(show Yn P w H h a (.tup (ks.map kV))from ok a _ e);exact⟨o,jE.toArray,n,h1,h2,h3,by simpa using ZdA r⟩
theorem Zi3 {kvs:List (List Zu×V)}(ok:Yi P w H h)(e:Rd H a (.dT kvs)):kvs.length<=xg/\(a==sysModules)=false/\
  ∃xs,KT H kvs xs/\h.DictOfH (tupleKind (Wa P w)) a xs:=by
 obtain⟨z,y,xs,r,o,es,ep,h1,h2,h3,h4,h5⟩:=(show Yn P w H h a (.dT kvs)from ZlZ ok e);refine⟨z,y,xs,r,o,es,ep,h1,h2,h3,h4,λx hx=>?_,h5⟩;have all:∀{l:List (List Zu×V)} {m:List (List Zu×Addr×Value)},KT H l m->∀x∈m,(tupleKind (Wa P w)).is h x.1 x.2.1:=by
  intro l m q
  induction q with
  | nil=>intro x hx;exact nomatch hx
  | @cons p q ps qs hq t ih=>
   intro x hx;rcases qq.mp hx with e | hx
   ·subst e
    exact J6 ok (by rw[<-hq.1];exact hq.2.1)
   ·exact ih x hx
 exact all r x hx
theorem Zl1 {kvs:List (List Zu×V)}(ok:Yi P w H h)(e:H a=some (.dT kvs)):kvs.length<=xg/\(a==sysModules)=false/\
  ∃xs,KT H kvs xs/\h.DictOfH (tupleKind (Wa P w)) a xs:=Zi3 ok (.inl e)
end
noncomputable def Vc (H:Hp)(a:Addr)(y:V)(r:Option V):Prop:=
 (∃kvs k,Rd H a (.dK kvs)/\y=kV k/\r=Z8 kvs k)∨∃kvs k b,Rd H a (.dT kvs)/\y=.ref b/\H b=some (.tup (k.map kV))/\r=Z8 kvs k
noncomputable def WP (H:Hp)(a:Addr)(y v:V)(H':Hp):Prop:=
 (∃kvs k,H a=some (.dK kvs)/\y=kV k/\kvs.length<xg/\H'=Zl H a (.dK (Yo kvs k v)))∨
 ∃kvs k b,H a=some (.dT kvs)/\y=.ref b/\H b=some (.tup (k.map kV))/\kvs.length<xg/\H'=Zl H a (.dT (Yo kvs k v))
theorem Vc.k {H:Hp}{a:Addr}{kvs:List (Zu×V)}{k:Zu}(e:H a=some (.dK kvs)):Vc H a (kV k) (Z8 kvs k):=.inl ⟨kvs,k,.inl e,rfl,rfl⟩
theorem Vc.t {H:Hp}{a b:Addr}{kvs:List (List Zu×V)}{k:List Zu}(e:H a=some (.dT kvs))(eb:H b=some (.tup (k.map kV))):Vc H a (.ref b) (Z8 kvs k):=.inr ⟨kvs,k,b,.inl e,rfl,eb,rfl⟩
theorem WP.k {H:Hp}{a:Addr}{kvs:List (Zu×V)}{k:Zu}{v:V}(e:H a=some (.dK kvs))(hl:kvs.length<xg):WP H a (kV k) v (Zl H a (.dK (Yo kvs k v))):=.inl ⟨kvs,k,e,rfl,hl,rfl⟩
theorem WP.t {H:Hp}{a b:Addr}{kvs:List (List Zu×V)}{k:List Zu}{v:V}(e:H a=some (.dT kvs))(eb:H b=some (.tup (k.map kV)))(hl:kvs.length<xg) :
  WP H a (.ref b) v (Zl H a (.dT (Yo kvs k v))):=.inr ⟨kvs,k,b,e,rfl,eb,hl,rfl⟩
section
variable {X:Cx}{jC:Qb}{σ:St}{H:Hp}{s:Shared}{a:Addr}{y v:V}{u r:Value}{o:Option V}{A:xA}{E:xB}
theorem Inv.big (I:Inv X jC σ H s):sysModules<s.heap.objs.size:=by
 have h:mainGlobals<s.heap.objs.size:=(I.mod.glob.keeps I.bk).lt;exact qaa (by decide) h
theorem d_in {Q:xB}(hu:A.units+1<cLine)(I:Inv X jC σ H s)(g:Vc H a y o)(ry:ZH y u)(h:∀s',Inv X jC σ H s'->Q (.bool o.isSome) s') :
  xf (xw X.prog X.w) A (xk .In u (.ref a)) Q E s:=by
 rcases g with⟨kvs,k,e,ey,l⟩ | ⟨kvs,k,b,e,ey,eb,l⟩
 ·subst ey
  obtain⟨z,hd,vs,rel,dd⟩:=Zi2 I.hok e;refine wpAny_in_of (Bc ry) hd dd.mapOf ?_;rw[<-(rel.val k).isSome_eq,<-l];exact h _ (I.tok _)
 ·subst ey
  cases (show u=qT b from ry)
  obtain⟨z,hd,xs,rel,dd⟩:=Zi3 I.hok e;refine wpAny_in_heap (tupleKind_room_in1 hu) (J6 I.hok eb) hd dd ?_;have q:=(rel.val k).isSome_eq;rw[qb3]at q;rw[<-q,<-l];exact h _ (I.tok _)
theorem ZkW {Q:xB}(hu:A.units+1<cLine)(I:Inv X jC σ H s)(g:Vc H a y o)(ry:ZH y u)(h:∀s',Inv X jC σ H s'->Q (.bool (!o.isSome)) s') :
  xf (xw X.prog X.w) A (xk .NotIn u (.ref a)) Q E s:=by
 rcases g with⟨kvs,k,e,ey,l⟩ | ⟨kvs,k,b,e,ey,eb,l⟩
 ·subst ey
  obtain⟨z,hd,vs,rel,dd⟩:=Zi2 I.hok e;refine wpAny_notIn_of (Bc ry) hd dd.mapOf ?_;rw[<-(rel.val k).isSome_eq,<-l];exact h _ (I.tok _)
 ·subst ey
  cases (show u=qT b from ry)
  obtain⟨z,hd,xs,rel,dd⟩:=Zi3 I.hok e;refine wpAny_notIn_heap (tupleKind_room_in1 hu) (J6 I.hok eb) hd dd ?_;have q:=(rel.val k).isSome_eq;rw[qb3]at q;rw[<-q,<-l];exact h _ (I.tok _)
theorem Zcb {h':Heap}{t':Nat}{ob:HO}(I:Inv X jC σ H s)(mu:Bx (H a))(hs:yf a s.heap h')(he:∃q,h'.get? a=some q)(new:Yn X.prog X.w (Zl H a ob) h' a ob) :
  Inv X jC σ (Zl H a ob) { s with heap:=h',toks:=t' }:=
 I.write (x:=a) (e:=a) mu (.inl rfl) (λb q hb z=>(hs.2 b hb).trans z) he new
theorem Zi4 {P:xz}{w:World}{H':Hp}{h':Heap}{kvs:List (Zu×V)}{vs:List (Zu×Value)}(z:kvs.length<=xg)(hd:(a==sysModules)=false)(rel:KV kvs vs)(dd:h'.DictOf (Wa P w) a vs) :
  Yn P w H' h' a (.dK kvs):=⟨z,hd,vs,rel,dd⟩
theorem ZhW {H':Hp}{Q:Unit->Shared->Prop}(hu:A.units+1<cLine)(I:Inv X jC σ H s)(g:WP H a y v H')(ry:ZH y u)(rv:ZH v r)(h:∀s',Inv X jC σ H' s'->Q () s') :
  xf (xw X.prog X.w) A (setItem (.ref a) u r) Q E s:=by
 rcases g with⟨kvs,k,e,ey,l,eH⟩ | ⟨kvs,k,b,e,ey,eb,l,eH⟩
 ·subst ey eH
  obtain⟨z,hd,vs,rel,dd⟩:=Zl0 I.hok e;have hz:vs.length<=xg:=by rw[<-rel.length];exact z
  have hl:(Yo kvs k v).length<=xg:=by have:=Uk kvs k v;omega
  refine wpAny_setItem_pairs (hsz:=hz) (Bc ry) dd λh' dd' hs=>h _ ?_;have he:∃q,h'.get? a=some q:=let ⟨q,_,_,hq,_⟩:=dd';⟨q,hq⟩;exact Zcb I (by rw[e];exact y4) hs he (Zi4 hl hd (rel.put k rv) dd')
 ·subst ey eH
  cases (show u=qT b from ry)
  obtain⟨z,hd,xs,rel,dd⟩:=Zl1 I.hok e;have hz:xs.length<=xg:=by rw[<-qaA rel];exact z
  have hl:(Yo kvs k v).length<=xg:=by have:=Uk kvs k v;omega
  refine wpAny_setItem_heap (hsz:=hz) (tupleKind_room_in1 hu) (J6 I.hok eb) dd λh' dd' hs=>h _ ?_;obtain⟨q,es,ep,hq,h2,h3,h4,_,h5⟩:=dd';refine Zcb I (by rw[e];exact y4) hs ⟨q,hq⟩ ⟨hl,hd,_,(rel.put k eb rv).keeps λc ys ec=>?_,q,es,ep,hq,h2,h3,h4,h5⟩;rw[Zx (ZlV ec e (λz=>nomatch z))];exact ec
end
section
variable {X:Cx}{jC:Qb}{σ:St}{H:Hp}{s:Shared}{a:Addr}{kvs:List (Zu×V)}{k:Zu}{u:Value}{A:xA}{E:xB}
end
noncomputable def ZnK (td ty tv:TE):TS:=λD σ H=>tv σ H λv H1=>td σ H1 λx H2=>ty σ H2 λy H3=>∃a H4,x=.ref a/\WP H3 a y v H4/\D.nx σ H4
section
variable {X:Cx}{o i e value:Expr}{pos pos' tpos:Pos}{td ty tv:TE}
theorem ZkX (hu:X.A.units+1<cLine)(ho:PE X o td)(hi:PE X i ty)(hv:PE X value tv)(hs:xq value (some (.Subscript o i pos')) pos.line X.env=pure false) :
  PS X (.Assign [.Subscript o i pos'] value pos) (ZnK td ty tv):=by
 intro jC s σ H D I h;refine wpAny_Assign_Subscript (ZM (hv jC s σ H _ I h) λr s1 ⟨v,H1,I1,rv,q1⟩=>ZM (ho jC s1 σ H1 _ I1 q1) λu s2 ⟨x,H2,I2,rx,q2⟩=>ZM (hi jC s2 σ H2 _ I2 q2) λiv s3 ⟨y,H3,I3,ry,a,H4,ex,g,q3⟩=>?_) hs;subst ex;obtain rfl:u=qT a:=rx;exact ZhW hu I3 g ry rv λs4 I4=>⟨σ,H4,I4,q3⟩
end
theorem Zi5 {P:xz}{w:World}{H:Hp}(h:Heap)(hb:sysModules<h.objs.size):Yn P w H (h.push { cls:=.type "dict",data:=.dict #[] }) h.objs.size (.dK []):=
 ⟨zy _,beq_eq_false_iff_ne.mpr (zH (qR hb)),[],.nil,Heap.DictOf.new h⟩
theorem Ze2 {P:xz}{w:World}{H:Hp}(h:Heap)(hb:sysModules<h.objs.size):Yn P w H (h.push { cls:=.type "dict",data:=.dict #[] }) h.objs.size (.dT []):=
 ⟨zy _,beq_eq_false_iff_ne.mpr (zH (qR hb)),[],.nil,_,#[],0,qI _ rfl,⟨rfl,rfl,rfl⟩,rfl,rfl,qbN⟩
noncomputable def ZmJ:TE:=λ_ H Q=>∀p,H p=none->Q (.ref p) (Zl H p (.dT []))
section
variable {X:Cx}{pos:Pos}
theorem Zi6:PE X (.Dict [] [] pos) ZmJ:=λjC s σ H Q I h=>
 wpAny_Dict_empty ⟨.ref s.heap.objs.size,_,I.laid (a:=s.heap.objs.size) (o:=.dT []) (t':=s.toks) (λ_ _ q=>qf _ q) (qm _) (Ze2 s.heap I.big),rfl,h _ (I.hok.fresh (qm _))⟩
end
section
variable {X:Cx}{jC:Qb}{σ:St}{H:Hp}{s:Shared}{a:Addr}{y d:V}{u r:Value}{o:Option V}{A:xA}{E:xB}
end
section
variable {X:Cx}{o e f:Expr}{apos cpos:Pos}{td ty tx:TE}
end
section
variable {X:Cx}{jC:Qb}{σ:St}{H:Hp}{s:Shared}{a:Addr}{kvs:List (Zu×V)}{A:xA}{E:xB}
end
section
variable {X:Cx}{jC:Qb}{σ:St}{H:Hp}{s:Shared}{a:Addr}{y:V}{u:Value}{A:xA}{E:xB}
end
end L2
namespace Att
open PySem.W PySem.Calls
theorem Zb4 {P:Params}{h:Heap}:∀(ns:List Int) (vs:List Value),WellAll P h vs (ns.map WData.int)->IntsAre vs ns:=by
 intro ns
 induction ns with
 | nil=>
  intro vs w;rw[qbC]at w
  cases w
  exact .nil
 | cons n ns ih=>
  intro vs w;rw[qX]at w
  cases w with
  | cons a b=>
   cases a
   exact .cons _ _ (ih _ b)
theorem ZhX {l:OpenLaw}{n:Nat}(hn:l.most=some n){P:Params}{h:Heap}{args:List WData}{vals:List Value}
  (hpre:l.row.toRowW.claim.pre args=true) (hwl:WellAll P h vals args) :
  ∃a vs ns,vals=[qT a]/\args=[WData.list (ns.map WData.int)]/\h.get? a=some { cls:=.type "list",data:=.seq vs.toArray }/\IntsAre vs ns/\ns.length<=n:=by
 have hsh:WShape.hasAll [] args [.list .int]=true:=(pre_splitW hpre).1;have hc:l.pre.holds [] { args:=args }=true:=(pre_splitW hpre).2;obtain⟨d,r,rfl,h1,h2⟩:=hasAllW_cons hsh;obtain rfl:=hasAllW_nil h2;obtain⟨xs,rfl,h3⟩:=hasW_list h1;obtain⟨ns,rfl⟩:=items_int h3;have jM:ns.length<=n:=by
  unfold OpenLaw.pre at hc;have h4:(WTm.not (.lt (.lit (.int (n:Int))) (.len (.arg 0)))).holds [] { args:=[.list (ns.map .int)] }=true:=by
   have h4:=(holds_andW hc).1;rw[hn]at h4;exact h4
  have h5:=condW_of h4 (w_not (w_lt w_lit (w_len_list (w_arg rfl))));rw[qj]at h5;refine Nat.le_of_not_lt λq=>?_;have q':(n:Int)<((ns.length:Nat):Int):=by omega
  first
   | (rw[decide_eq_true q']at h5;exact absurd h5 (by decide))
   | (simp at h5;omega)
 cases hwl with
 | cons w1 w2=>
  cases w2
  cases w1 with
  | list ho hall=>exact⟨_,_,ns,rfl,rfl,ho,Zb4 ns _ hall,jM⟩
theorem ZhY (l:OpenLaw)(args:List WData):l.row.toRowW.claim.post args (.bool true) args=true:=
 postW_of (r:=l.row.toRowW) (X:=(true==true))
  (show WShape.has [] (.bool true) .bool=true by first | rfl | decide | simp[WShape.has,WShape.arms,WShape.armsAll])
  (show(WTm.eq .res (.lit (.bool true))).value [] { args:=args,res:=some (.bool true),after:=args }=some (.bool (true==true))from w_eq_bool (w_res rfl) w_lit) rfl
theorem attach_call {l:OpenLaw}{n:Nat}{q:xz}{loose:List Str}{XP:(Str->Option Value)->Heap->Prop}{YP:World->Heap->Prop}{d:DefRec}
  (hn:l.most=some n) (hdf:d.params.defaults=[])
  (call:∀(w:World) (s₀ s₁:Shared) (mg mb:Str->Option Value) (fa:Addr) (o:Obj) (pm cd doc:Value) (a:Addr) (vs:List Value) (ns:List Int),
   Ground q loose [] XP w s₀ mg mb s₁.heap->YP w s₁.heap->
   s₁.heap.get? fa=some o->o.data=.func (docDef d.name d.params d.body d.scope pm cd doc)->s₁.heap.CodeRec cd d.name->mg d.name=some (.ref fa)->
   s₁.heap.get? a=some { cls:=.type "list",data:=.seq vs.toArray }->IntsAre vs ns->ns.length<=n->s₁.gens = #[]->
   xo (xw l.prog w) callerA (.call (.ref fa) ⟨[.ref a],[]⟩) (λr s'=>r=.ok (.ret (.bool true))/\OldK s₁.heap s'.heap/\s'.os=s₁.os/\AllBare s'.gens) s₁) :
  WalkO q loose XP YP l.row.toRowW d [] (λf vs=>qcO f vs):=by
 intro w s₀ s₁ mg mb G Y fa o pm cd doc dV kV ho hd hcd hD hmg hg args vals as hpre hlay hrd hwl hlo;obtain rfl:dV=.none:=Dflts.none hD hdf;obtain rfl:kV=.none:=Dflts.noKw hD;obtain⟨a,vs,ns,rfl,rfl,hobj,hints,jM⟩:=ZhX hn hpre hwl;refine enter_call (codeAny_mono (call w s₀ s₁ mg mb fa o pm cd doc a vs ns G Y ho (fd_plain hd) hcd hmg hobj hints jM hg) λr s' hq=>?_);obtain⟨rfl,h2,h3,h4⟩:=hq;exact⟨.inl ⟨.bool true,.bool true,[],rfl,λ_=>rfl,.bool true,ZhY l _,λ_=>⟨zV,λ_ hm=>(nomatch hm)⟩⟩,h2,h3,h4⟩
section
variable {prog:xz}{w:World}{A:xA}{E:xB}{s:Shared}{K:Frag}
end
end Att
namespace L2
theorem ZdB:∀{vs:List Value} {ns:List Int},IntsAre vs ns->Zy (ns.map V.int) vs
 | _,_,.nil=>.nil
 | _,_,.cons n t h=>.cons ⟨t,rfl⟩ (ZdB h)
noncomputable def WH (s:Stmt):Arguments:=match s with
 | .FunctionDef _ a _ _ _ _ _ _ _ _=>a
 | _=>{ posonlyargs:=[],args:=[],vararg:=none,kwonlyargs:=[],kw_defaults:=[],kwarg:=none,defaults:=[] }
noncomputable def Wb (s:Stmt):List Stmt:=match s with
 | .FunctionDef _ _ b _ _ _ _ _ _ _=>b
 | _=>[]
noncomputable def ZD (s:Stmt):Scope:=match s with
 | .FunctionDef _ _ _ _ _ _ sc _ _ _=>sc
 | _=>{ kind:=.function,names:=[],isGenerator:=false,isCoroutine:=false }
noncomputable abbrev ZV:XQ:=λ_ _ _ _ _ _=>False
noncomputable abbrev E0:XK:=λ_ _ _=>False
theorem Zl2 {X:Cx}:Zee ZV X E0:=λ_ _ _ _ _ _ _ h=>h.elim
structure Fun (K:qk)(x qual:Str)(st:Stmt)(f:Addr)(fd:xy):Prop where
 ex:∃(oc:Value) (od:Option Addr) (kV doc pm:Value) (an:Option Addr) (cdv ct:Value) (osl:Array (Option Value)),
  fd=yR x qual (WH st) (Wb st) (ZD st) .none kV doc pm an cdv ct/\K.lookup f=some ⟨oc,od,.func fd,osl⟩/\qbb K cdv qual=true
 kp:yI K (.ref f)=true
section
variable {P:xz}{w:World}{K:qk}{mg:Str->Option Value}{base:Heap}
theorem Fun.ok {x qual:Str}{st:Stmt}{f:Addr}{fd:xy}{N ps:List Str}{k:Nat}{sp:Sp}(F:Fun K x qual st f fd)(S:FnScope N ps (ZD st))(len:∀vs H Q E,sp vs H Q E->vs.length=ps.length)
  (hbody:∀(cdv:Value) (A:xA) (outer:List Env) (s:Shared) (H:Hp) (vs:List V) (Q:VK) (E:XK),Room k (A.deeper (envOfC qual (ZD st) s.heap.objs.size f cdv))->sp vs H Q E->
   ∃t,Wj (Vb ZV P w K mg base N qual (ZD st) f cdv A outer s H E).nox (Wb st) t/\t { nx:=λ_ H'=>Q .non H',rt:=Q } (start N vs) H):FnOk P w K mg base ZV (k+1) f fd ps sp:=by
 obtain⟨oc,od,kV,doc,pm,an,cdv,ct,osl,rfl,lk,hcd⟩:=F.ex;refine ZlX lk hcd S len λA outer s H vs Q E hr hsp=>?_;obtain⟨t,h,q⟩:=hbody cdv A outer s H vs Q E hr hsp;exact⟨t,h.nox,q⟩
theorem Fun.binds {x qual:Str}{st:Stmt}{f:Addr}{fd:xy}{ps:List Str}(F:Fun K x qual st f fd)
  (h:∀(kV doc pm:Value) (an:Option Addr) (cdv ct:Value) (us:List Value),us.length=ps.length->bindArgs (yR x qual (WH st) (Wb st) (ZD st) .none kV doc pm an cdv ct) ⟨us,[]⟩=pure (ps.zip us)):Wf K fd ps []:=by
 obtain⟨oc,od,kV,doc,pm,an,cdv,ct,osl,rfl,lk,hcd⟩:=F.ex;exact .all (h kV doc pm an cdv ct)
theorem ZmK {x qual:Str}{st:Stmt}{f:Addr}{oc:Value}{od an:Option Addr}{osl:Array (Option Value)}{kV doc pm cdv ct:Value}(l:K.lookup f=some ⟨oc,od,.func (yR x qual (WH st) (Wb st) (ZD st) .none kV doc pm an cdv ct),osl⟩)
  (c:qbb K cdv qual=true) (k:yI K (.ref f)=true):Fun K x qual st f (yR x qual (WH st) (Wb st) (ZD st) .none kV doc pm an cdv ct):=⟨⟨oc,od,kV,doc,pm,an,cdv,ct,osl,rfl,l,c⟩,k⟩
end
theorem hu_of {A:xA}{k:Nat}(hr:Room k A):A.units+1<cLine:=Nat.lt_of_le_of_lt (Nat.add_le_add_left (by decide:1<=64) _) hr.units
section
variable {X:Cx}
theorem pv (i:Nat){x:Str}{pos:Pos}(hN:X.N[i]?=some x:=by rfl)(hv:By X.env.scope x:=by first | exact za rfl | exact qa4 (za rfl) | exact qa4 (qa4 rfl))(hd:(x==("__debug__" : Str))=false:=by decide)
  (hcd:(x==("__classdict__" : Str))=false:=by decide):PE X (.Name x pos) (YG i):=Zmn hN hv hd hcd
end
theorem Je {A B:Prop}(h:B):if false=true then A else B:=by
 rw[if_neg yH];exact h
theorem Jg {A B:Prop}(h:A):if true=true then A else B:=by
 rw[if_pos rfl];exact h
section
variable {X:Cx}
end
section
variable {κ:Type}[DecidableEq κ]
end
theorem Ze3 {prog:xz}{w:World}{A:xA}{R:Result->Shared->Prop}{s:Shared}{elt target iter:Expr}{ifs:List Expr}{scope:Scope}{pos:Pos}{it jH:Value}{env:Env}(I:Nat->Shared->Prop)
  (turn:∀n s,I n s->xf (xw prog w) A (pyNext it) (λr s₁=>match r with
   | none=>R (.ok .next) s₁
   | some v=>xf (xw prog w) A (letOwnedTupleGo target it v) (λ_ s₁'=>xf (xw prog w) A (assign target env v) (λ_ s₂=>
     xf (xw prog w) A (forIn ifs true λc r=>if r=true then do let ok<-isTrue c env (eval c env);pure (qah ok)else pure (qah r)) (λok s₃=>
      if ok=true then xf (xw prog w) A (eval elt env) (λx s₄=>
       xf (xw prog w) A (call (.builtin "list.append") [jH,x]) (λ_ s₅=>∃m,m<n/\I m s₅) (notedBy (xw prog w) A env λe s'=>R (.error e) s') s₄) (notedBy (xw prog w) A env λe s'=>R (.error e) s') s₃
      else ∃m,m<n/\I m s₃) (notedBy (xw prog w) A env λe s'=>R (.error e) s') s₂) (notedBy (xw prog w) A env λe s'=>R (.error e) s') s₁') (notedBy (xw prog w) A env λe s'=>R (.error e) s') s₁) (notedBy (xw prog w) A env λe s'=>R (.error e) s') s)
  (n:Nat) (h:I n s) :
  xo (xw prog w) A (.compLoop (.ListComp elt [⟨target,iter,ifs,0⟩] scope pos) 0 it jH env) R s:=by
 refine codeAny_loop rfl I (λn s hI=>?_) n h;show xf _ A ((compTurn (.ListComp elt [⟨target,iter,ifs,0⟩] scope pos) 0 it jH env).onRaise (λx=>do noteFrame x env;theTreesLotGoes x)) _ _ s;refine wpAny_noted ?_;rw[compTurn_list];refine xa (wpAny_standAt (xa (xc (turn n s hI) (λr s₁ h₁=>?_) λ_ _ h'=>h')))
 cases r with
 | none=>exact xb h₁
 | some v=>
  refine xa (xc h₁ (λ_ s₁' h₁'=>?_) λ_ _ h'=>h');refine xa (xc h₁' (λ_ s₂ h₂=>xa (xc h₂ (λok s₃ h₃=>?_) λ_ _ h'=>h')) λ_ _ h'=>h')
  cases ok with
  | false=>exact xb ⟨rfl,h₃⟩
  | true=>
   exact xa (xa (xc h₃ (λx s₄ h₄=>xa (xc h₄ (λ_ s₅ h₅=>xb (xb ⟨rfl,h₅⟩)) λ_ _ h'=>h')) λ_ _ h'=>h'))
noncomputable def Yv (X:Cx)(jC:Qb)(N':List Str)(scope:Scope)(cl:List (Str×Addr))(C:Addr)(s:Shared)(H:Hp)(fp:List Addr):Cx where
 prog:=X.prog
 w:=X.w
 K:=X.K
 mg:=X.mg
 base:=X.base
 A:=X.A
 N:=N'
 s₀:=s
 H₀:=H
 env:=compEnvC scope cl C X.env
 outer:=X.stack
 stack:=X.stack
 ex:=fp
 fn:=λ_=>false
 calm:=X.calm
 pn:=X.pn++jC
 xe:=λ_ _=>False
noncomputable def Vv (X:Cx)(ifs:List Expr)(t:TT):Prop:=
 ∀(jC:Qb) (s:Shared) (σ:St) (H:Hp) (Q:Bool->Hp->Prop),Inv X jC σ H s->t σ H Q->
  xf (xw X.prog X.w) X.A (forIn ifs true λc r=>if r=true then do let ok<-isTrue c X.env (eval c X.env);pure (qah ok)else pure (qah r)) (TP X jC σ Q) X.xe s
noncomputable def ZnL:TT:=λ_ H Q=>Q true H
theorem Zi7 {X:Cx}:Vv X [] ZnL:=λ_ _ _ H _ I h=>xb ⟨H,I,h⟩
theorem Zi8 {X:Cx}{c:Expr}{t:TT}(h:PT X c t):Vv X [c] t:=λjC s σ H Q I hq=>wpAny_tests_one (h jC s σ H Q I hq)
structure BlkOk (X:Cx)(N':List Str)(src:List (Option Nat))(scope:Scope)(cl:List (Str×Addr)):Prop where
 clos:closureFor scope X.env=pure cl
 nocell:∀y∈scope.names,y.2≠.cell
 kind:scope.kind=.function
 names:∀y∈scope.names,y.2=.local->scope.names.lookup y.1=some .local
 len:src.length=N'.length
 cells:∀x c,cl.lookup x=some c->X.env.cells.lookup x=some c
 has:∀x,((relabel scope X.env).names.lookup x=some .cell∨(relabel scope X.env).names.lookup x=some .free)->∃c,cl.lookup x=some c
 from_:∀(i j:Nat) x,src[i]?=some (some j)->N'[i]?=some x->X.N[j]?=some x/\(X.env.kindOf x=some .cell∨X.env.kindOf x=some .free)/\((relabel scope X.env).names.lookup x=some .cell∨(relabel scope X.env).names.lookup x=some .free)
noncomputable def Vr (src:List (Option Nat))(σ:St):St:=src.map λo=>o.bind λj=>(σ[j]?).bind id
theorem ZkY {X:Cx}{jC:Qb}{σ:St}{H:Hp}{s s1:Shared}{N':List Str}{src:List (Option Nat)}{scope:Scope}{cl:List (Str×Addr)}{C:Addr}{fp:List Addr}{m:Str->Option Value}
  (B:BlkOk X N' src scope cl) (I:Inv X jC σ H s) (hf:∀b∈fp,Ws X jC H b) (hC:s.heap.objs.size<=C) (hCf:∀b∈fp,b≠C)
  (hs:s1.os=s.os) (hg:s1.gens=s.gens) (hk:∀b o,s.heap.get? b=some o->s1.heap.get? b=some o) (hn:s1.heap.Ns C m):Inv (Yv X jC N' scope cl C s H fp) [] (Vr src σ) H s1:=by
 have noC:∀b o,s.heap.get? b=some o->b≠C:=λb o e=>qR (zd (qJ e) hC);refine⟨⟨I.ok.mod,B.kind,I.ok.glob,I.ok.blt,hC,λx y c h1 h2=>I.ok.inj x y c (B.cells _ _ h1) (B.cells _ _ h2),λx hx=>B.has x hx,λx c hf _=>(by cases hf),I.ok.hd,I.ok.frames,.inl rfl,λb hb=>?_,I.bs,zj I.ok.bsz I.sz,λb o e hb=>?_,λb hb z=>?_,I.stack,I.stkFree⟩,
  hs,by rw[hg];exact I.bare,Un.kept hk,⟨m,hn,λi x v h1 h2 h3=>?_⟩,λx c e=>?_,I.hok.fresh hC,λx c e=>I.freeC x c (B.cells _ _ e),λp hp=>?_,I.hok.kept hk,?_⟩
 ·obtain⟨f0,f1,f2,f3,f4,f5⟩:=hf b hb
  exact⟨hCf b hb,λx c e=>f4 x c (B.cells _ _ e)⟩
 ·obtain⟨f0,f1,f2,f3,f4,f5⟩:=hf b hb
  rcases f3 with z | z
  ·exact I.ok.noex b o e z
  ·exact absurd (zd (qJ (I.ok.bs b o e).1) z) (yC _)
 ·obtain⟨f0,f1,f2,f3,f4,f5⟩:=hf b hb
  rcases qq.mp (I.stkSub b z)with e | e
  ·exact f1 e
  ·exact f2 e
 ·have h2':(Vr src σ)[i]?=some (some v):=h2
  unfold Vr at h2';rw[qC]at h2'
  cases e:src[i]? with
  | none=>rw[e]at h2';cases h2'
  | some o=>
   rw[e]at h2'
   cases o with
   | none=>simp at h2'
   | some j=>
    obtain⟨q1,q2,q3⟩:=B.from_ i j x e h1;have hj:σ[j]?=some (some v):=by
     simp only[yc,Option.bind_some,qb4]at h2'
     cases e2:σ[j]? with
     | none=>rw[e2]at h2';cases h2'
     | some o2=>rw[e2]at h2';simp at h2';rw[h2']
    obtain⟨mm,X2,hl⟩:=I.loc;have vis:By X.env.scope x:=by
     rcases q2 with z | z
     ·exact .inr (.inl z)
     ·exact .inr (.inr z)
    obtain⟨u,r,l⟩:=hl j x v q1 hj vis;refine⟨u,r,?_⟩;rcases l with⟨k,_⟩ | ⟨_,c,ec,z⟩
    ·rcases q2 with z | z <;> rw[z]at k <;> cases k
    ·obtain⟨c',ec'⟩:=B.has x q3
     have ee:c'=c:=by
      have:=B.cells _ _ ec';rw[ec]at this;exact(zp this).symm
     subst ee;obtain⟨o,ho,hd⟩:=z;exact .inr ⟨q3,c',ec',o,hk _ _ ho,hd⟩
 ·obtain⟨v,o,ho,hd⟩:=I.cell x c (B.cells _ _ e)
  exact⟨v,o,hk _ _ ho,hd⟩
 ·have hp':p∈X.pn++jC:=by simpa[Yv]using hp
  obtain⟨e,n,ne,nf,d⟩:=I.pin p hp';refine⟨hk _ _ e,n,noC _ _ e,λz=>?_,d⟩;rcases qq.mp (I.stkSub p.1 z)with q | q
  ·exact ne q
  ·exact nf q
 ·show(Vr src σ).length=N'.length
  unfold Vr;rw[qj,B.len]
noncomputable def Zi9 (src:List (Option Nat))(wi:TI)(g:TG)(tt:TT)(te:TE):TE:=fun σ H Q=>wi σ H λJ H1=>∀p,H1 p=none->
 ∃W:Nat->Nat->St->Hp->Prop,(∃m,W 0 m (Vr src σ) (Zl H1 p (.lst [])))/\∀i m σ2 H2,W i m σ2 H2->
  (J.stop i H2/\Q (.ref p) H2)∨(J.go i H2/\∀x H3,J.yld i H2 x H3->g x σ2 H3 fun σ4 H4=>tt σ4 H4 λok H5=>
   if ok=true then te σ4 H5 λy H6=>∃xs,H6 p=some (.lst xs)/\xs.length<xg/\∃m',m'<m/\W (i+1) m' σ4 (Zl H6 p (.lst (xs ++ [y])))
   else ∃m',m'<m/\W (i+1) m' σ4 H5)
theorem ZdC {X:Cx}{elt tg iter:Expr}{ifs:List Expr}{scope:Scope}{pos:Pos}{N':List Str}{src:List (Option Nat)}{cl:List (Str×Addr)}{g:TG}{tt:TT}{te:TE}
  {jC:Qb} {σ:St} {H2:Hp} {s₂:Shared} {it:Addr} {fp:List Addr} {tn:Nat->Heap->Prop} {J:It} {Qp:Addr->Hp->Prop} {RR:Value->Addr->Result->Shared->Prop} {E:xB}
  (hc:X.calm=true) (B:BlkOk X N' src scope cl)
  (hg:∀jC C s H fp,PG (Yv X jC N' scope cl C s H fp) tg g) (ht:∀jC C s H fp,Vv (Yv X jC N' scope cl C s H fp) ifs tt) (he:∀jC C s H fp,PE (Yv X jC N' scope cl C s H fp) elt te)
  (I2:Inv X jC σ H2 s₂) (T:Turn X.prog X.w X.K tg J fp it tn) (jO:tn 0 s₂.heap) (f2:∀b∈fp,Ws X jC H2 b)
  (q2:∀p,H2 p=none->∃W:Nat->Nat->St->Hp->Prop,(∃m,W 0 m (Vr src σ) (Zl H2 p (.lst [])))/\∀i m σ2 H2,W i m σ2 H2->
   (J.stop i H2/\Qp p H2)∨(J.go i H2/\∀x H3,J.yld i H2 x H3->g x σ2 H3 fun σ4 H4=>tt σ4 H4 λok H5=>
    if ok=true then te σ4 H5 λy H6=>∃xs,H6 p=some (.lst xs)/\xs.length<xg/\∃m',m'<m/\W (i+1) m' σ4 (Zl H6 p (.lst (xs ++ [y])))
    else ∃m',m'<m/\W (i+1) m' σ4 H5))
  (hfin:∀p C s6 H5 mm,Inv X jC σ H5 s6->s6.heap.Ns C mm->Ws X jC H5 C->Qp p H5->RR (.ref p) C (.ok .next) s6) :
  xf (xw X.prog X.w) X.A (newList []) (λjH s₃=>xf (xw X.prog X.w) X.A (newFunctionEnv scope X.env.globals cl [] X.env.qual none .none (some X.env)) (λcenv s₄=>
   xo (xw X.prog X.w) X.A (.compStart (.ListComp elt [⟨tg,iter,ifs,0⟩] scope pos) 0 (.ref it) jH { cenv with scope:=relabel scope X.env }) (RR jH cenv.locals) s₄) E s₃) E s₂:=by
 have fpold:∀b∈fp,b<s₂.heap.objs.size:=λb hb=>by
  obtain⟨o,e,_⟩:=T.obj _ _ jO b hb;exact qJ e
 have q2:=q2 s₂.heap.objs.size (I2.hok.fresh (qm _));obtain⟨W,⟨m0,w0⟩,turn⟩:=q2
 -- the new list
 refine xl ?_;have I3:Inv X jC σ (Zl H2 s₂.heap.objs.size (.lst [])) { s₂ with heap:=s₂.heap.push { cls:=.type "list",dict:=none,data:=.seq ([]:List Value).toArray } }:=
  I2.lnew (t':=s₂.toks) (ys:=[]) .nil (zy _)
 have st3:tn 0 (s₂.heap.push { cls:=.type "list",dict:=none,data:=.seq ([]:List Value).toArray }):=T.keep _ _ _ jO λb _ o e=>qf _ e;have f3:∀b∈fp,Ws X jC (Zl H2 s₂.heap.objs.size (.lst [])) b:=λb hb=>by
  obtain⟨f0,f1⟩:=f2 b hb;exact⟨by rw[Zx (qR (fpold b hb))];exact f0,f1⟩
 generalize hs3:({ s₂ with heap:=s₂.heap.push { cls:=.type "list",dict:=none,data:=.seq ([]:List Value).toArray } }:Shared)=s₃ at I3;have st3':tn 0 s₃.heap:=by rw[<-hs3];exact st3
 have lt3:s₂.heap.objs.size<s₃.heap.objs.size:=by rw[<-hs3];show _<(Heap.push _ _).objs.size;rw[zZ];exact qat _
 refine wpAny_newFunctionEnv B.nocell (by intro y hy;simp at hy) (λh₁ hns₁ hsb₁=>?_) B.kind;have kp1:∀b o,s₃.heap.get? b=some o->h₁.get? b=some o:=λb o e=>hsb₁.extBut b o (qR (qJ e)) (qf _ e);have I4:=ZkY (s1:={ s₃ with heap:=h₁,toks:=s₃.toks+([]:List (Str×Value)).length }) (C:=s₃.heap.objs.size) B I3 f3 (qm _) (λb hb=>qR (qaa (fpold b hb) lt3)) rfl rfl kp1 hns₁;have st4:tn 0 h₁:=T.keep _ _ _ st3' λb _ o e=>kp1 b o e;show xo (xw X.prog X.w) X.A (.compStart (.ListComp elt [⟨tg,iter,ifs,0⟩] scope pos) 0 (.ref it) (.ref s₂.heap.objs.size) (compEnvC scope cl s₃.heap.objs.size X.env)) (RR (.ref s₂.heap.objs.size) s₃.heap.objs.size) _;generalize hs4:({ s₃ with heap:=h₁,toks:=s₃.toks+([]:List (Str×Value)).length }:Shared)=s₄ at I4;have st4':tn 0 s₄.heap:=by rw[<-hs4];exact st4
 have blkX:∀{b:Addr} {H':Hp},b∈fp->H' b=none->Ws (Yv X jC N' scope cl s₃.heap.objs.size s₃ (Zl H2 s₂.heap.objs.size (.lst [])) fp) [] H' b:=λ{b H'} hb hn=>by
  obtain⟨f0,f1,f2',f3',f4',f5'⟩:=f3 b hb;refine⟨hn,qR (qaa (fpold b hb) lt3),λz=>?_,.inl hb,λx c e=>f4' x c (B.cells _ _ e),λp hp=>?_⟩
  ·rcases qq.mp (I3.stkSub b z)with e | e
   ·exact f1 e
   ·exact f2' e
  ·exact f5' p (by simpa[Yv]using hp)
 have loop:xo (xw X.prog X.w) X.A (.compLoop (.ListComp elt [⟨tg,iter,ifs,0⟩] scope pos) 0 (.ref it) (.ref s₂.heap.objs.size) (compEnvC scope cl s₃.heap.objs.size X.env)) (RR (.ref s₂.heap.objs.size) s₃.heap.objs.size) s₄:=by
  refine Ze3 (λn s'=>∃i σ' H',Inv (Yv X jC N' scope cl s₃.heap.objs.size s₃ (Zl H2 s₂.heap.objs.size (.lst [])) fp) [] σ' H' s'/\tn i s'.heap/\(∀b∈fp,H' b=none)/\W i n σ' H') ?_ m0 ⟨0,_,_,I4,st4',λb hb=>(f3 b hb).1,w0⟩;rintro n s5 ⟨i,σ5,H5,I5,st5,fr5,w5⟩;rcases turn i n σ5 H5 w5 with⟨stop,qn⟩ | ⟨go,step⟩
  ·refine xc (T.done (Yv X jC N' scope cl s₃.heap.objs.size s₃ (Zl H2 s₂.heap.objs.size (.lst [])) fp) rfl rfl rfl hc i [] s5 σ5 H5 (λ_ _=>False) I5 (λb hb=>blkX hb (fr5 b hb)) st5 stop) (λr s6 ⟨hr,I6⟩=>?_) λ_ _ f=>f.elim
   subst hr;obtain⟨mm,X2,_⟩:=id I6.loc;have nC:H5 s₃.heap.objs.size=none:=I6.free;have J1:Inv X jC σ H5 s6:=by
    refine I3.call' (ch:=fp) I6.os I6.base I6.hok I6.bare λb hb=>?_;obtain⟨f0,f1,f2',f3',f4',f5'⟩:=f3 b hb;exact⟨f3',f1,f4',f5'⟩
   exact hfin _ _ s6 H5 mm J1 X2 (I3.fpOk (qm _) nC) qn
  ·refine xc (T.item (Yv X jC N' scope cl s₃.heap.objs.size s₃ (Zl H2 s₂.heap.objs.size (.lst [])) fp) rfl rfl rfl hc i [] s5 σ5 H5 (λ_ _=>False) I5 (λb hb=>blkX hb (fr5 b hb)) st5 go) (λr s6 ⟨u,hr,h6⟩=>?_) λ_ _ f=>f.elim
   subst hr;refine xc h6 (λ_ s7 ⟨x,H7,I7,r7,y7,st7,fr7⟩=>?_) λ_ _ f=>f.elim;have I7':=I7.pinned (λb hb=>blkX hb (fr7 b hb)) (T.obj _ _ st7);refine xc (hg _ _ _ _ _ _ s7 σ5 H7 x u _ I7' r7 (step x H7 y7)) (λ_ s8 ⟨σ8,H8,I8,q8⟩=>?_) λ_ _ f=>f.elim;refine xc (ht _ _ _ _ _ _ s8 σ8 H8 _ I8 q8) (λok s9 ⟨H9,I9,q9⟩=>?_) λ_ _ f=>f.elim;have again:∀{σ7:St} {H7:Hp} {sz:Shared},Inv (Yv X jC N' scope cl s₃.heap.objs.size s₃ (Zl H2 s₂.heap.objs.size (.lst [])) fp) ([]++JX fp s7.heap) σ7 H7 sz->(∃m',m'<n/\W (i+1) m' σ7 H7)->
     ∃m,m<n/\∃i σ' H',Inv (Yv X jC N' scope cl s₃.heap.objs.size s₃ (Zl H2 s₂.heap.objs.size (.lst [])) fp) [] σ' H' sz/\tn i sz.heap/\(∀b∈fp,H' b=none)/\W i m σ' H':=λ{σ7 H7 sz} Iz ⟨m',hm,wz⟩=>by
    refine⟨m',hm,i+1,σ7,H7,Iz.unpinned,T.keep _ _ _ st7 λb hb o e=>(Iz.pin (b,o) (zg _ (zg _ (UU hb e)))).1,λb hb=>?_,wz⟩;obtain⟨o,e,d⟩:=T.obj _ _ st7 b hb;exact(Iz.pin (b,o) (zg _ (zg _ (UU hb e)))).2.1
   cases ok with
   | false=>
    show ∃m,m<n/\_;exact again I9 (by simpa using q9)
   | true=>
    have q9':te σ8 H9 λy H6=>∃xs,H6 s₂.heap.objs.size=some (.lst xs)/\xs.length<xg/\∃m',m'<n/\W (i+1) m' σ8 (Zl H6 s₂.heap.objs.size (.lst (xs ++ [y]))):=by simpa using q9
    show xf _ _ _ _ _ _;refine xc (he _ _ _ _ _ _ s9 σ8 H9 _ I9 q9') (λy sA ⟨yv,HA,IA,rA,xs,eA,zA,mA⟩=>?_) λ_ _ f=>f.elim;refine xc (Zdy (X:=Yv X jC N' scope cl s₃.heap.objs.size s₃ (Zl H2 s₂.heap.objs.size (.lst [])) fp) _ sA σ8 HA (.ref s₂.heap.objs.size) [yv] (.ref s₂.heap.objs.size) [y] (λ_ HB=>HB=Zl HA s₂.heap.objs.size (.lst (xs ++ [yv]))) IA rfl (.cons rA .nil) ⟨_,xs,yv,rfl,rfl,eA,zA,rfl⟩) (λ_ sB ⟨_,HB,IB,_,eB⟩=>?_) λ_ _ f=>f.elim;subst eB;exact again IB mA
 exact codeAny_compStart_list loop (T.self _ 0 _ _ _ st4' loop)
theorem ZkZ {X:Cx}{elt tg iter:Expr}{ifs:List Expr}{scope:Scope}{pos:Pos}{N':List Str}{src:List (Option Nat)}{cl:List (Str×Addr)}{wi:TI}{g:TG}{tt:TT}{te:TE}
  (hc:X.calm=true) (B:BlkOk X N' src scope cl) (hi:PI X tg iter wi)
  (hg:∀jC C s H fp,PG (Yv X jC N' scope cl C s H fp) tg g) (ht:∀jC C s H fp,Vv (Yv X jC N' scope cl C s H fp) ifs tt) (he:∀jC C s H fp,PE (Yv X jC N' scope cl C s H fp) elt te)
  (hs:∀x,foldedSetIterable iter X.env x=pure x:=by intro _;rfl):PE X (.ListComp elt [⟨tg,iter,ifs,0⟩] scope pos) (Zi9 src wi g tt te):=by
 intro jC s σ H Q I h;rw[eval_ListComp];refine wpAny_comprehension_free (use:=none) rfl hs B.clos B.kind B.names (xc (hi jC s σ H _ I h) (λxv s₁ h₁=>xc h₁ (λit s₂ h₂=>?_) λ_ _ e=>e) λ_ _ e=>e);obtain⟨it,fp,tn,J,H2,e,I2,T,jO,f2,q2⟩:=h₂;subst e;refine ZdC (RR:=λjH C=>compPost (xw X.prog X.w) X.A X.xe none (EP X jC σ Q) jH C) (Qp:=λp H=>Q (.ref p) H) hc B hg ht he I2 T jO f2 q2 ?_;intro p C s6 H5 mm J1 X2 fC qn;refine⟨mm,X2,λh' sb=>?_⟩;obtain⟨c0,c1,c2,c3,c4,c5⟩:=fC;exact⟨.ref p,H5,J1.turned (t':=s6.toks) (it:=C) (λb o hb e=>(sb.2 b hb).trans e) c0 c1 c3 c4 c5,rfl,qn⟩
theorem Zk0 {X:Cx}{elt tg iter:Expr}{ifs:List Expr}{scope:Scope}{pos pos' spos:Pos}{N':List Str}{src:List (Option Nat)}{cl:List (Str×Addr)}{wi:TI}{g:TG}{tt:TT}{te:TE}{i:Nat}{x:Str}
  (hN:X.N.Nodup) (hi':X.N[i]?=some x) (hx:Ve X.env.scope x)
  (hc:X.calm=true) (B:BlkOk X N' src scope cl) (hi:PI X tg iter wi)
  (hg:∀jC C s H fp,PG (Yv X jC N' scope cl C s H fp) tg g) (ht:∀jC C s H fp,Vv (Yv X jC N' scope cl C s H fp) ifs tt) (he:∀jC C s H fp,PE (Yv X jC N' scope cl C s H fp) elt te)
  (hsw:xq (.ListComp elt [⟨tg,iter,ifs,0⟩] scope pos) (some (.Name x pos')) spos.line X.env=pure true:=by rfl)
  (hs:∀x,foldedSetIterable iter X.env x=pure x:=by intro _;rfl)
  (hf:X.fn x=true∨X.env.scope.names.lookup x=some .local:=by first | exact .inl rfl | exact .inr rfl | assumption) :
  PS X (.Assign [.Name x pos'] (.ListComp elt [⟨tg,iter,ifs,0⟩] scope pos) spos) (λD σ H=>Zi9 src wi g tt te σ H λy H1=>D.nx (σ.set i (some y)) H1):=by
 intro jC s σ H D I h;rw[exec_Assign_Name_used _ _ _ _ hsw];refine xa (wpAny_standAt (xa ?_));show xf _ _ (do let _<-comprehension (.ListComp elt [⟨tg,iter,ifs,0⟩] scope pos) scope X.env _ (newList []) false (eval iter X.env) (some (assign (.Name x pos') X.env))) _ _ s;refine xa (xc (wpAny_comprehension_free (use:=some (assign (.Name x pos') X.env)) (Q:=λ_ s'=>SP X jC D .next s') rfl hs B.clos B.kind B.names
  (xc (hi jC s σ H _ I h) (λxv s₁ h₁=>xc h₁ (λit s₂ h₂=>?_) λ_ _ e=>e) λ_ _ e=>e)) (λ_ s' hq=>xb (xb hq)) λ_ _ e=>e)
 obtain⟨it,fp,tn,J,H2,e,I2,T,jO,f2,q2⟩:=h₂;subst e;refine ZdC (RR:=λjH C=>compPost (xw X.prog X.w) X.A X.xe (some (assign (.Name x pos') X.env)) (λ_ s'=>SP X jC D .next s') jH C) (Qp:=λp H=>D.nx (σ.set i (some (.ref p))) H) hc B hg ht he I2 T jO f2 q2 ?_;intro p C s6 H5 mm J1 X2 fC qn;obtain⟨oC,es,ep,hoC,hdC,hrC⟩:=id X2;have fC':∀b∈[C],Ws X jC H5 b:=by
  intro b hb;have e:b=C:=by simpa using hb
  rw[e];exact fC
 have oC':∀b∈[C],∃o,s6.heap.get? b=some o/\∀v,o.data≠.cell v:=by
  intro b hb;have e:b=C:=by simpa using hb
  rw[e];exact⟨oC,hoC,λv z=>by rw[hdC]at z;cases z⟩
 have J2:=J1.pinned (fp:=[C]) fC' oC';show xf _ _ (assign (.Name x pos') X.env (.ref p)) _ _ _;refine xc (B9 (X:=X) (pos:=pos') hN hi' hx hf _ s6 σ H5 (.ref p) (.ref p) (fun σ' H'=>σ'=σ.set i (some (.ref p))/\H'=H5) J2 rfl ⟨rfl,rfl⟩) (λ_ s7 ⟨σ7,H7,I7,e7,e7'⟩=>?_) λ_ _ e=>e;subst e7 e7';have pC:=I7.pin (C,oC) (zg _ (zg _ (UU (by simp) hoC)));refine⟨mm,⟨oC,es,ep,pC.1,hdC,hrC⟩,λh' sb=>?_⟩;obtain⟨c0,c1,c2,c3,c4,c5⟩:=fC;exact⟨_,_,(I7.unpinned).turned (t':=s7.toks) (it:=C) (λb o hb e=>(sb.2 b hb).trans e) c0 c1 c3 c4 c5,qn⟩
end L2
namespace TF
open L2
inductive D where
 | non | bl (b:Bool) | int (i:Int) | str (x:Str) | tup (xs:List D) | lst (xs:List D)
 | dk (kvs:List (Zu×V)) | dt (kvs:List (List Zu×V)) | du (kvs:List (List Zu×V)) | df (kvs:List (Zu×V)) | pen | ty (n:String) | clo (t:Nat) (caps:List D)
noncomputable abbrev St:=L2.St
noncomputable abbrev Pn:=List Int×List Int
noncomputable abbrev M (α:Type):=Pn->Option (α×Pn)
noncomputable abbrev Zb:=List (Option D)
noncomputable def ZB {α:Type}(a:α):M α:=λs=>some (a,s)
noncomputable def Zp {α β:Type}(m:M α)(k:α->M β):M β:=λs=>match m s with | none=>none | some p=>k p.1 p.2
noncomputable def ZE {α:Type}:M α:=λ_=>none
noncomputable def YZ {α:Type}(o:Option α):M α:=λs=>match o with | none=>none | some a=>some (a,s)
theorem ZG {α β:Type}{m:M α}{k:α->M β}{s s':Pn}{b:β}(h:Zp m k s=some (b,s')):∃a s1,m s=some (a,s1)/\k a s1=some (b,s'):=by
 unfold Zp at h
 cases e:m s with
 | none=>rw[e]at h;cases h
 | some p=>rw[e]at h;exact⟨p.1,p.2,rfl,h⟩
theorem ZR {α:Type}{a b:α}{s s':Pn}(h:ZB a s=some (b,s')):b=a/\s'=s:=by
 unfold ZB at h
 cases h
 exact⟨rfl,rfl⟩
theorem WZ {α:Type}{o:Option α}{b:α}{s s':Pn}(h:YZ o s=some (b,s')):o=some b/\s'=s:=by
 unfold YZ at h
 cases e:o with
 | none=>rw[e]at h;cases h
 | some a=>rw[e]at h;cases h;exact⟨rfl,rfl⟩
structure Gh where
 fp:Addr->Prop
 rd:Addr->Prop
 pen:V
 st:Pn->Hp->Prop
 mono:∀s H H',st s H->(∀b o,rd b->H b=some o->H' b=some o)->(∀b φ,H b=some (.ext φ)->H' b=some (.ext φ))->st s H'
 sub:∀b,fp b->rd b
 dom:∀s H b,st s H->rd b->∃o,H b=some o
 ntp:∀s H b vs,st s H->fp b->H b≠some (.tup vs)
 clo:Nat->V->List V->Prop:=λ_ _ _=>False
mutual
noncomputable def Zj (G:Gh)(H:Hp):D->V->Prop
 | .non,v=>v=.non
 | .bl b,v=>v=.bl b
 | .int i,v=>v=.int i
 | .str x,v=>v=.str x
 | .tup ds,v=>∃a vs,v=.ref a/\¬G.fp a/\H a=some (.tup vs)/\Zi G H ds vs
 | .lst ds,v=>∃a vs,v=.ref a/\¬G.fp a/\H a=some (.lst vs)/\Zi G H ds vs
 | .dk kvs,v=>∃a,v=.ref a/\¬G.fp a/\H a=some (.dK kvs)
 | .dt kvs,v=>∃a o,v=.ref a/\¬G.fp a/\H a=some (.frz o (.dT kvs))
 | .du kvs,v=>∃a,v=.ref a/\¬G.fp a/\H a=some (.dT kvs)
 | .df kvs,v=>∃a o,v=.ref a/\¬G.fp a/\H a=some (.frz o (.dK kvs))
 | .pen,v=>v=G.pen
 | .ty n,v=>v=.ty n
 | .clo t ds,v=>∃vs,G.clo t v vs/\Zi G H ds vs
noncomputable def Zi (G:Gh)(H:Hp):List D->List V->Prop
 | [],vs=>vs=[]
 | d::ds,vs=>∃v r,vs=v::r/\Zj G H d v/\Zi G H ds r
end
noncomputable def Zz (G:Gh)(H H':Hp):Prop:=∀b o,¬G.fp b->H b=some o->H' b=some o
theorem Zz.refl (G:Gh)(H:Hp):Zz G H H:=λ_ _ _ e=>e
theorem Zz.trans {G:Gh}{H H1 H2:Hp}(a:Zz G H H1)(b:Zz G H1 H2):Zz G H H2:=λc o n e=>b c o n (a c o n e)
mutual
theorem Zj.ext {G:Gh}{H H':Hp}(e:Zz G H H'):∀{d:D} {v:V},Zj G H d v->Zj G H' d v
 | .non,_,h=>h
 | .bl _,_,h=>h
 | .int _,_,h=>h
 | .str _,_,h=>h
 | .tup ds,v,h=>by
  unfold Zj at h⊢;obtain⟨a,vs,e1,n,e2,r⟩:=h;exact⟨a,vs,e1,n,e _ _ n e2,Zi.ext e r⟩
 | .lst ds,v,h=>by
  unfold Zj at h⊢;obtain⟨a,vs,e1,n,e2,r⟩:=h;exact⟨a,vs,e1,n,e _ _ n e2,Zi.ext e r⟩
 | .dk kvs,v,h=>by
  unfold Zj at h⊢;obtain⟨a,e1,n,e2⟩:=h;exact⟨a,e1,n,e _ _ n e2⟩
 | .dt kvs,v,h=>by
  unfold Zj at h⊢;obtain⟨a,o,e1,n,e2⟩:=h;exact⟨a,o,e1,n,e _ _ n e2⟩
 | .df kvs,v,h=>by
  unfold Zj at h⊢;obtain⟨a,o,e1,n,e2⟩:=h;exact⟨a,o,e1,n,e _ _ n e2⟩
 | .du kvs,v,h=>by
  unfold Zj at h⊢;obtain⟨a,e1,n,e2⟩:=h;exact⟨a,e1,n,e _ _ n e2⟩
 | .pen,_,h=>h
 | .ty _,_,h=>h
 | .clo t ds,v,h=>by
  unfold Zj at h⊢;obtain⟨vs,c,r⟩:=h;exact⟨vs,c,Zi.ext e r⟩
theorem Zi.ext {G:Gh}{H H':Hp}(e:Zz G H H'):∀{ds:List D} {vs:List V},Zi G H ds vs->Zi G H' ds vs
 | [],_,h=>h
 | d::ds,vs,h=>by
  unfold Zi at h⊢;obtain⟨v,r,e1,r1,r2⟩:=h;exact⟨v,r,e1,Zj.ext e r1,Zi.ext e r2⟩
end
section
variable {G:Gh}{H:Hp}
theorem jc {ds:List D}{v:V}:Zj G H (.tup ds) v↔∃a vs,v=.ref a/\¬G.fp a/\H a=some (.tup vs)/\Zi G H ds vs:=by unfold Zj;exact qaq
theorem jb {ds:List D}{v:V}:Zj G H (.lst ds) v↔∃a vs,v=.ref a/\¬G.fp a/\H a=some (.lst vs)/\Zi G H ds vs:=by unfold Zj;exact qaq
theorem jj {kvs:List (Zu×V)}{v:V}:Zj G H (.dk kvs) v↔∃a,v=.ref a/\¬G.fp a/\H a=some (.dK kvs):=by unfold Zj;exact qaq
theorem jk {kvs:List (List Zu×V)}{v:V}:Zj G H (.dt kvs) v↔∃a o,v=.ref a/\¬G.fp a/\H a=some (.frz o (.dT kvs)):=by unfold Zj;exact qaq
theorem jl {kvs:List (List Zu×V)}{v:V}:Zj G H (.du kvs) v↔∃a,v=.ref a/\¬G.fp a/\H a=some (.dT kvs):=by unfold Zj;exact qaq
theorem js {kvs:List (Zu×V)}{v:V}:Zj G H (.df kvs) v↔∃a o,v=.ref a/\¬G.fp a/\H a=some (.frz o (.dK kvs)):=by unfold Zj;exact qaq
theorem ja {i:Int}{v:V}:Zj G H (.int i) v↔v=.int i:=by unfold Zj;exact qaq
theorem je {b:Bool}{v:V}:Zj G H (.bl b) v↔v=.bl b:=by unfold Zj;exact qaq
theorem jh {b:Str}{v:V}:Zj G H (.str b) v↔v=.str b:=by unfold Zj;exact qaq
theorem jg {v:V}:Zj G H .non v↔v=.non:=by unfold Zj;exact qaq
theorem jp {v:V}:Zj G H .pen v↔v=G.pen:=by unfold Zj;exact qaq
theorem jq {n:String}{v:V}:Zj G H (.ty n) v↔v=.ty n:=by unfold Zj;exact qaq
theorem jv {t:Nat}{ds:List D}{v:V}:Zj G H (.clo t ds) v↔∃vs,G.clo t v vs/\Zi G H ds vs:=by unfold Zj;exact qaq
theorem Zi.nil_iff {vs:List V}:Zi G H [] vs↔vs=[]:=by unfold Zi;exact qaq
theorem jd {d:D}{ds:List D}{vs:List V}:Zi G H (d::ds) vs↔∃v r,vs=v::r/\Zj G H d v/\Zi G H ds r:=by
 constructor
 ·intro h;unfold Zi at h;exact h
 ·intro h;unfold Zi;exact h
theorem Zi.length:∀{ds:List D} {vs:List V},Zi G H ds vs->ds.length=vs.length
 | [],vs,h=>by rw[Zi.nil_iff.mp h];rfl
 | d::ds,vs,h=>by
  obtain⟨v,r,rfl,_,h2⟩:=jd.mp h;simp[Zi.length h2]
theorem Zi.get:∀{ds:List D} {vs:List V} {i:Nat} {d:D},Zi G H ds vs->ds[i]?=some d->∃v,vs[i]?=some v/\Zj G H d v
 | [],_,_,_,_,e=>by simp at e
 | d::ds,vs,0,d',h,e=>by
  obtain⟨v,r,rfl,h1,_⟩:=jd.mp h;simp at e;subst e;exact⟨v,rfl,h1⟩
 | d::ds,vs,i+1,d',h,e=>by
  obtain⟨v,r,rfl,_,h2⟩:=jd.mp h;obtain⟨u,e1,e2⟩:=Zi.get h2 (i:=i) (d:=d') (by simpa using e);exact⟨u,by simpa using e1,e2⟩
theorem Zi.append:∀{ds es:List D} {vs us:List V},Zi G H ds vs->Zi G H es us->Zi G H (ds++es) (vs++us)
 | [],es,vs,us,h,h'=>by rw[Zi.nil_iff.mp h];exact h'
 | d::ds,es,vs,us,h,h'=>by
  obtain⟨v,r,rfl,h1,h2⟩:=jd.mp h;exact jd.mpr ⟨v,r++us,rfl,h1,Zi.append h2 h'⟩
theorem Zi.one {d:D}{v:V}(h:Zj G H d v):Zi G H [d] [v]:=jd.mpr ⟨v,[],rfl,h,Zi.nil_iff.mpr rfl⟩
theorem Zi.cons {d:D}{v:V}{ds:List D}{vs:List V}(h:Zj G H d v)(h2:Zi G H ds vs):Zi G H (d::ds) (v::vs):=jd.mpr ⟨v,vs,rfl,h,h2⟩
theorem Zi.take:∀{ds:List D} {vs:List V} (n:Nat),Zi G H ds vs->Zi G H (ds.take n) (vs.take n)
 | _,_,0,_=>Zi.nil_iff.mpr (by simp)
 | [],vs,n+1,h=>by rw[Zi.nil_iff.mp h];exact Zi.nil_iff.mpr (by simp)
 | d::ds,vs,n+1,h=>by
  obtain⟨u,r,rfl,h1,h2⟩:=jd.mp h;exact Zi.cons h1 (Zi.take n h2)
theorem Zi.drop:∀{ds:List D} {vs:List V} (n:Nat),Zi G H ds vs->Zi G H (ds.drop n) (vs.drop n)
 | _,_,0,h=>h
 | [],vs,n+1,h=>by rw[Zi.nil_iff.mp h];exact Zi.nil_iff.mpr (by simp)
 | d::ds,vs,n+1,h=>by
  obtain⟨u,r,rfl,h1,h2⟩:=jd.mp h;exact Zi.drop n h2
end
noncomputable def Nt (o:Option HO):Prop:=∃u,o=some u/\∀vs,u≠.tup vs
theorem Nt.no {o:Option HO}(h:Nt o)(e:o=none):False:=by
 obtain⟨u,q,_⟩:=h;rw[e]at q;cases q
structure Gr (G:Gh)(Hf H Hf' H':Hp):Prop where
 hh:Zz G H H'
 ff:Zz G Hf Hf'
 fh:Zz G Hf' H'
 nw:∀b,¬G.fp b->Hf b=none->Nt (H b)->Hf' b=none
theorem Gr.refl {G:Gh}{Hf H:Hp}(e:Zz G Hf H):Gr G Hf H Hf H:=⟨.refl _ _,.refl _ _,e,λ_ _ h _=>h⟩
theorem Gr.trans {G:Gh}{Hf H jQ H1 jX H2:Hp}(a:Gr G Hf H jQ H1)(b:Gr G jQ H1 jX H2):Gr G Hf H jX H2:=
 ⟨a.hh.trans b.hh,a.ff.trans b.ff,b.fh,λc n h1 h2=>b.nw c n (a.nw c n h1 h2) (let ⟨u,e,nt⟩:=h2;⟨u,a.hh c u n e,nt⟩)⟩
theorem Gr.new {G:Gh}{Hf H:Hp}{p:Addr}{o:HO}(e:Zz G Hf H)(hp:H p=none)(nf:¬G.fp p):Gr G Hf H (Zl Hf p o) (Zl H p o) where
 hh:=λb u n q=>by rw[Zx (Yq q hp)];exact q
 ff:=λb u n q=>by rw[Zx (Yq (e b u n q) hp)];exact q
 fh:=λb u n q=>by
  by_cases hb:b=p
  ·subst hb;rw[ZW]at q⊢;exact q
  ·rw[Zx hb]at q⊢;exact e b u n q
 nw:=λb n h1 h2=>by
  by_cases hb:b=p
  ·subst hb;exact(h2.no hp).elim
  ·rw[Zx hb];exact h1
theorem Gh.nofp {G:Gh}{s:Pn}{H:Hp}{p:Addr}(h:G.st s H)(hp:H p=none):¬G.fp p:=λf=>by
 obtain⟨o,e⟩:=G.dom s H p h (G.sub p f);rw[hp]at e;cases e
theorem jz {G:Gh}{s:Pn}{H:Hp}{p:Addr}(h:G.st s H)(hp:H p=none):¬G.rd p:=λf=>by
 obtain⟨o,e⟩:=G.dom s H p h f;rw[hp]at e;cases e
theorem Gh.grow {G:Gh}{s:Pn}{H:Hp}{p:Addr}{o:HO}(h:G.st s H)(hp:H p=none):G.st s (Zl H p o):=G.mono s H _ h (λb u _ q=>by
 rw[Zx (Yq q hp)];exact q) λb φ q=>by
 rw[Zx (Yq q hp)];exact q
noncomputable def U8:D->Prop
 | .lst _=>True
 | .dk _=>True
 | .dt _=>True
 | .du _=>True
 | _=>False
noncomputable def Ye (G:Gh)(H Hf':Hp)(d:D)(v:V):Prop:=∀a,v=.ref a->U8 d->H a=none/\∀ds,d=.lst ds->∃vs Hm,Hf' a=some (.lst vs)/\Hm a=none/\Zz G Hm Hf'/\Zi G Hm ds vs
theorem jm {G:Gh}{H H' Hf':Hp}{d:D}{v:V}(e:Zz G H H')(r:∀a,v=.ref a->U8 d->¬G.fp a)(h:Ye G H' Hf' d v):Ye G H Hf' d v:=λa ea m=>by
 refine⟨?_,(h a ea m).2⟩
 cases q:H a with
 | none=>rfl
 | some o=>
  have:=e a o (r a ea m) q;rw[(h a ea m).1]at this;cases this
theorem Zj.nofp {G:Gh}{H:Hp}{d:D}{v:V}(r:Zj G H d v):∀a,v=.ref a->U8 d->¬G.fp a:=λa e m=>by
 cases d with
 | lst ds=>obtain⟨b,vs,e1,n,_⟩:=jb.mp r;rw[e]at e1;cases e1;exact n
 | dk ds=>obtain⟨b,e1,n,_⟩:=jj.mp r;rw[e]at e1;cases e1;exact n
 | dt ds=>obtain⟨b,_,e1,n,_⟩:=jk.mp r;rw[e]at e1;cases e1;exact n
 | du ds=>obtain⟨b,e1,n,_⟩:=jl.mp r;rw[e]at e1;cases e1;exact n
 | _=>exact m.elim
noncomputable def YB (G:Gh)(H:Hp)(σ:St)(ρ:Zb):Prop:=∀(i:Nat) (d:D),ρ[i]?=some (some d)->∃v,σ[i]?=some (some v)/\Zj G H d v
theorem YB.ext {G:Gh}{H H':Hp}{σ:St}{ρ:Zb}(h:YB G H σ ρ)(e:Zz G H H'):YB G H' σ ρ:=λi d q=>let ⟨v,a,b⟩:=h i d q;⟨v,a,b.ext e⟩
noncomputable def PD (X:Cx)(G:Gh)(fr:Bool)(e:Expr)(f:Zb->M D):Prop:=
 ∃t,PE X e t/\∀(σ:St) (Hf H:Hp) (ρ:Zb) (s:Pn) (d:D) (s':Pn) (Q:VK),Zz G Hf H->YB G Hf σ ρ->G.st s H->f ρ s=some (d,s')->
  (∀v Hf' H',Gr G Hf H Hf' H'->G.st s' H'->Zj G Hf' d v->(fr=true->Ye G H Hf' d v)->Q v H')->t σ H Q
noncomputable def XZ (X:Cx)(G:Gh)(e:Expr)(f:Zb->M Bool):Prop:=
 ∃t,PT X e t/\∀(σ:St) (Hf H:Hp) (ρ:Zb) (s:Pn) (b:Bool) (s':Pn) (Q:Bool->Hp->Prop),Zz G Hf H->YB G Hf σ ρ->G.st s H->f ρ s=some (b,s')->
  (∀Hf' H',Gr G Hf H Hf' H'->G.st s' H'->Q b H')->t σ H Q
noncomputable def Wy (X:Cx)(G:Gh)(es:List Expr)(f:Zb->M (List D)):Prop:=
 ∃t,PA X es t/\∀(σ:St) (Hf H:Hp) (ρ:Zb) (s:Pn) (ds:List D) (s':Pn) (Q:List V->Hp->Prop),Zz G Hf H->YB G Hf σ ρ->G.st s H->f ρ s=some (ds,s')->
  (∀vs Hf' H',Gr G Hf H Hf' H'->G.st s' H'->Zi G Hf' ds vs->Q vs H')->t σ H Q
section
variable {X:Cx}{G:Gh}
theorem PD.weak {e:Expr}{f:Zb->M D}{fr:Bool}(h:PD X G fr e f):PD X G false e f:=by
 obtain⟨t,p,q⟩:=h;exact⟨t,p,fun σ Hf H ρ s d s' Q e1 e2 e3 e4 k=>q σ Hf H ρ s d s' Q e1 e2 e3 e4 λv Hf' H' g1 g2 g3 _=>k v Hf' H' g1 g2 g3 (λz=>by cases z)⟩
noncomputable def Za (i:Nat):Zb->M D:=fun ρ=>YZ ((ρ[i]?).bind id)
noncomputable def dC (d:D):Zb->M D:=λ_=>ZB d
theorem Zf9 (i:Nat){x:Str}{pos:Pos}(h:PE X (.Name x pos) (YG i)):PD X G false (.Name x pos) (Za i):=by
 refine⟨_,h,fun σ Hf H ρ s d s' Q e1 e2 e3 e4 k=>?_⟩;obtain⟨e,rfl⟩:=WZ e4;have e':ρ[i]?=some (some d):=by
  cases q:ρ[i]? with
  | none=>rw[q]at e;cases e
  | some o=>rw[q]at e;simp at e;rw[e]
 obtain⟨v,h1,h2⟩:=e2 i d e';exact⟨v,h1,k v Hf H (.refl e1) e3 h2 (λz=>by cases z)⟩
theorem Ye.scal {H Hf':Hp}{d:D}{v:V}(h:U8 d->False):Ye G H Hf' d v:=λ_ _ m=>(h m).elim
theorem Zt {i:Int}{j pos}:PD X G true (.Constant (.int i) j pos) (dC (.int i)):=by
 refine⟨_,Xa,fun σ Hf H ρ s d s' Q e1 e2 e3 e4 k=>?_⟩;obtain⟨rfl,rfl⟩:=ZR e4;exact k _ Hf H (.refl e1) e3 (ja.mpr rfl) λ_=>.scal λz=>z
theorem Xz {b:Bool}{j pos}:PD X G true (.Constant (.bool b) j pos) (dC (.bl b)):=by
 refine⟨_,Znx,fun σ Hf H ρ s d s' Q e1 e2 e3 e4 k=>?_⟩;obtain⟨rfl,rfl⟩:=ZR e4;exact k _ Hf H (.refl e1) e3 (je.mpr rfl) λ_=>.scal λz=>z
theorem ZmL {j pos}:PD X G true (.Constant .none j pos) (dC .non):=by
 refine⟨_,Zmo,fun σ Hf H ρ s d s' Q e1 e2 e3 e4 k=>?_⟩;obtain⟨rfl,rfl⟩:=ZR e4;exact k _ Hf H (.refl e1) e3 (jg.mpr rfl) λ_=>.scal λz=>z
noncomputable def Zf:Zb->M (List D):=λ_=>ZB []
noncomputable def Zc (f:Zb->M D)(g:Zb->M (List D)):Zb->M (List D):=fun ρ=>Zp (f ρ) λd=>Zp (g ρ) λds=>ZB (d::ds)
theorem Zk:Wy X G [] Zf:=by
 refine⟨_,Xt,fun σ Hf H ρ s d s' Q e1 e2 e3 e4 k=>?_⟩;obtain⟨rfl,rfl⟩:=ZR e4;exact k _ Hf H (.refl e1) e3 (Zi.nil_iff.mpr rfl)
theorem Ze {e:Expr}{es:List Expr}{f:Zb->M D}{g:Zb->M (List D)}{fr:Bool}(h:PD X G fr e f)(hr:Wy X G es g)(hs:xh (e::es) X.env=(false,eval e X.env)::xh es X.env:=by rfl):Wy X G (e::es) (Zc f g):=by
 obtain⟨t,p,q⟩:=h;obtain⟨u,p2,q2⟩:=hr;refine⟨_,YU p p2 hs,fun σ Hf H ρ s ds s' Q e1 e2 e3 e4 k=>?_⟩;obtain⟨d,s1,a1,a2⟩:=ZG e4;obtain⟨r,s2,a3,a4⟩:=ZG a2;obtain⟨rfl,rfl⟩:=ZR a4;refine q σ Hf H ρ s d s1 _ e1 e2 e3 a1 λv jQ H1 g1 jT r1 _=>?_;refine q2 σ jQ H1 ρ s1 r _ _ g1.fh (e2.ext g1.ff) jT a3 λvs jX H2 g2 jO r2=>?_;exact k _ jX H2 (g1.trans g2) jO (Zi.cons (r1.ext g2.ff) r2)
noncomputable def Yg (f:Zb->M (List D)):Zb->M D:=fun ρ=>Zp (f ρ) λds=>if ds.length<=xg then ZB (.tup ds)else ZE
noncomputable def YS (f:Zb->M (List D)):Zb->M D:=fun ρ=>Zp (f ρ) λds=>if ds.length<=xg then ZB (.lst ds)else ZE
theorem Xj {α:Type}{c:Prop}[Decidable c]{a:M α}{s s':Pn}{b:α}(h:(if c then a else ZE) s=some (b,s')):c/\a s=some (b,s'):=by
 split at h
 ·rename_i hc;exact⟨hc,h⟩
 ·cases h
theorem Ye.mk {Hf H:Hp}{p:Addr}{vs:List V}{ds:List D}(e:Zz G Hf H)(hp:H p=none)(nf:¬G.fp p)(r:Zi G Hf ds vs):Ye G H (Zl Hf p (.lst vs)) (.lst ds) (.ref p):=λa ea _=>by
 cases ea
 refine⟨hp,λds' ed=>?_⟩
 cases ed
 have hf:Hf p=none:=by
  cases q:Hf p with
  | none=>rfl
  | some o=>rw[e p o nf q]at hp;cases hp
 exact⟨vs,Hf,ZW,hf,λb o n q=>by rw[Zx (Yq q hf)];exact q,r⟩
theorem Xy {es:List Expr}{f:Zb->M (List D)}{x1:Nat}{pos:Pos}(h:Wy X G es f):PD X G true (.Tuple es x1 pos) (Yg f):=by
 obtain⟨t,p,q⟩:=h;refine⟨_,ZmA p,fun σ Hf H ρ s d s' Q e1 e2 e3 e4 k=>?_⟩;obtain⟨ds,s1,a1,a2⟩:=ZG e4;obtain⟨hl,a3⟩:=Xj a2;obtain⟨rfl,rfl⟩:=ZR a3;refine q σ Hf H ρ s ds s' _ e1 e2 e3 a1 λvs jQ H1 g1 jT r1=>⟨by rw[<-r1.length];exact hl,λp hp=>?_⟩;have nf:=Gh.nofp jT hp;have g2:=Gr.new (o:=.tup vs) g1.fh hp nf;exact k (.ref p) _ _ (g1.trans g2) (Gh.grow jT hp) (jc.mpr ⟨p,vs,rfl,nf,ZW,r1.ext g2.ff⟩) λ_=>.scal λz=>z
theorem Wd {es:List Expr}{f:Zb->M (List D)}{pos:Pos}(h:Wy X G es f):PD X G true (.List es pos) (YS f):=by
 obtain⟨t,p,q⟩:=h;refine⟨_,ZmB p,fun σ Hf H ρ s d s' Q e1 e2 e3 e4 k=>?_⟩;obtain⟨ds,s1,a1,a2⟩:=ZG e4;obtain⟨hl,a3⟩:=Xj a2;obtain⟨rfl,rfl⟩:=ZR a3;refine q σ Hf H ρ s ds s' _ e1 e2 e3 a1 λvs jQ H1 g1 jT r1=>⟨by rw[<-r1.length];exact hl,λp hp=>?_⟩;have nf:=Gh.nofp jT hp;have g2:=Gr.new (o:=.lst vs) g1.fh hp nf;refine k (.ref p) _ _ (g1.trans g2) (Gh.grow jT hp) (jb.mpr ⟨p,vs,rfl,nf,ZW,r1.ext g2.ff⟩) λ_=>jm g1.hh (λa ea _=>by cases ea;exact nf) (Ye.mk g1.fh hp nf r1)
noncomputable def Y0 (X:Cx)(G:Gh)(f:Value->Value->Sem Value)(g:D->D->Option D):Prop:=
 ∃r,Z7 X f r/\∀(Hf H:Hp) (s:Pn) (x y:V) (d e c:D) (Q:VK),Zz G Hf H->G.st s H->Zj G Hf d x->Zj G Hf e y->g d e=some c->
  (∀v Hf' H',Gr G Hf H Hf' H'->G.st s H'->Zj G Hf' c v->Ye G H Hf' c v->Q v H')->r x y H Q
noncomputable def Zd (g:D->D->Option D)(a b:Zb->M D):Zb->M D:=fun ρ=>Zp (a ρ) λd=>Zp (b ρ) λe=>YZ (g d e)
theorem op2D {fa fb:Zb->M D}{g:D->D->Option D}{ta tb:TE}{r:R2}
  (qa:∀(σ:St) (Hf H:Hp) (ρ:Zb) (s:Pn) (d:D) (s':Pn) (Q:VK),Zz G Hf H->YB G Hf σ ρ->G.st s H->fa ρ s=some (d,s')->(∀v Hf' H',Gr G Hf H Hf' H'->G.st s' H'->Zj G Hf' d v->Q v H')->ta σ H Q)
  (qb:∀(σ:St) (Hf H:Hp) (ρ:Zb) (s:Pn) (d:D) (s':Pn) (Q:VK),Zz G Hf H->YB G Hf σ ρ->G.st s H->fb ρ s=some (d,s')->(∀v Hf' H',Gr G Hf H Hf' H'->G.st s' H'->Zj G Hf' d v->Q v H')->tb σ H Q)
  (qo:∀(Hf H:Hp) (s:Pn) (x y:V) (d e c:D) (Q:VK),Zz G Hf H->G.st s H->Zj G Hf d x->Zj G Hf e y->g d e=some c->(∀v Hf' H',Gr G Hf H Hf' H'->G.st s H'->Zj G Hf' c v->Ye G H Hf' c v->Q v H')->r x y H Q)
  (σ:St) (Hf H:Hp) (ρ:Zb) (s:Pn) (d:D) (s':Pn) (Q:VK) (e1:Zz G Hf H) (e2:YB G Hf σ ρ) (e3:G.st s H) (e4:Zd g fa fb ρ s=some (d,s'))
  (k:∀v Hf' H',Gr G Hf H Hf' H'->G.st s' H'->Zj G Hf' d v->Ye G H Hf' d v->Q v H'):Wk r ta tb σ H Q:=by
 obtain⟨da,s1,a1,a2⟩:=ZG e4;obtain⟨db,s2,a3,a4⟩:=ZG a2;obtain⟨a5,rfl⟩:=WZ a4;refine qa σ Hf H ρ s da s1 _ e1 e2 e3 a1 λx jQ H1 g1 jT r1=>?_;refine qb σ jQ H1 ρ s1 db _ _ g1.fh (e2.ext g1.ff) jT a3 λy jX H2 g2 jO r2=>?_;refine qo jX H2 _ x y da db d Q g2.fh jO (r1.ext g2.ff) r2 a5 λv Hf3 H3 g3 st3 r3 fz=>?_;exact k v Hf3 H3 ((g1.trans g2).trans g3) st3 r3 (jm (g1.hh.trans g2.hh) r3.nofp fz)
theorem PD.drop {e:Expr}{f:Zb->M D}{fr:Bool}(h:PD X G fr e f):∃t,PE X e t/\∀(σ:St) (Hf H:Hp) (ρ:Zb) (s:Pn) (d:D) (s':Pn) (Q:VK),Zz G Hf H->YB G Hf σ ρ->G.st s H->f ρ s=some (d,s')->
  (∀v Hf' H',Gr G Hf H Hf' H'->G.st s' H'->Zj G Hf' d v->Q v H')->t σ H Q:=by
 obtain⟨t,p,q⟩:=h;exact⟨t,p,fun σ Hf H ρ s d s' Q a b c d' k=>q σ Hf H ρ s d s' Q a b c d' λv Hf' H' g1 g2 g3 _=>k v Hf' H' g1 g2 g3⟩
theorem ZX {a b:Expr}{op:Operator}{pos:Pos}{fa fb:Zb->M D}{g:D->D->Option D}{r1 r2:Bool}(ho:Y0 X G (binaryOp op) g)(ha:PD X G r1 a fa)(hb:PD X G r2 b fb):PD X G true (.BinOp a op b pos) (Zd g fa fb):=by
 obtain⟨r,po,qo⟩:=ho;obtain⟨ta,pa,qa⟩:=ha.drop;obtain⟨tb,pb,qb⟩:=hb.drop;exact⟨_,VN po pa pb,fun σ Hf H ρ s d s' Q e1 e2 e3 e4 k=>op2D qa qb qo σ Hf H ρ s d s' Q e1 e2 e3 e4 λv Hf' H' g1 g2 g3 fz=>k v Hf' H' g1 g2 g3 λ_=>fz⟩
theorem V4 {a b:Expr}{op:CmpOp}{pos:Pos}{fa fb:Zb->M D}{g:D->D->Option D}{r1 r2:Bool}(ho:Y0 X G (xk op) g)(ha:PD X G r1 a fa)(hb:PD X G r2 b fb)
  (hm:behindInMarks op b=false:=by first | exact JY _ | with_unfolding_all rfl):PD X G true (.Compare a [op] [b] pos) (Zd g fa fb):=by
 obtain⟨r,po,qo⟩:=ho;obtain⟨ta,pa,qa⟩:=ha.drop;obtain⟨tb,pb,qb⟩:=hb.drop;exact⟨_,ZkO po pa pb hm,fun σ Hf H ρ s d s' Q e1 e2 e3 e4 k=>op2D qa qb qo σ Hf H ρ s d s' Q e1 e2 e3 e4 λv Hf' H' g1 g2 g3 fz=>k v Hf' H' g1 g2 g3 λ_=>fz⟩
noncomputable def asB (f:Zb->M D):Zb->M Bool:=fun ρ=>Zp (f ρ) λd=>match d with | .bl b=>ZB b | _=>ZE
theorem Ze4 {f:Zb->M D}{ρ:Zb}{s s':Pn}{b:Bool}(h:asB f ρ s=some (b,s')):f ρ s=some (.bl b,s'):=by
 obtain⟨d,s1,a1,a2⟩:=ZG h
 cases d with
 | bl c=>obtain⟨rfl,rfl⟩:=ZR a2;exact a1
 | _=>cases a2
theorem YJ {a b:Expr}{op:CmpOp}{pos:Pos}{fa fb:Zb->M D}{g:D->D->Option D}{r1 r2:Bool}(ho:Y0 X G (xk op) g)(ha:PD X G r1 a fa)(hb:PD X G r2 b fb)
  (hm:behindInMarks op b=false:=by first | exact JY _ | with_unfolding_all rfl):XZ X G (.Compare a [op] [b] pos) (asB (Zd g fa fb)):=by
 obtain⟨r,po,qo⟩:=ho;obtain⟨ta,pa,qa⟩:=ha.drop;obtain⟨tb,pb,qb⟩:=hb.drop;refine⟨_,Zb9 po pa pb hm,fun σ Hf H ρ s c s' Q e1 e2 e3 e4 k=>?_⟩;exact op2D qa qb qo σ Hf H ρ s (.bl c) s' _ e1 e2 e3 (Ze4 e4) λv Hf' H' g1 g2 g3 fz=>⟨c,je.mp g3,k Hf' H' g1 g2⟩
theorem Xs {e:Expr}{f:Zb->M D}{fr:Bool}(h:PD X G fr e f)(he:∀whole,isTrue e X.env whole=(do let v<-whole;standAt e.pos;holding [v] (truthy v)):=by intro _;rfl):XZ X G e (asB f):=by
 obtain⟨t,p,q⟩:=h;refine⟨_,Zmp p he,fun σ Hf H ρ s c s' Q e1 e2 e3 e4 k=>?_⟩;exact q σ Hf H ρ s (.bl c) s' _ e1 e2 e3 (Ze4 e4) λv Hf' H' g1 g2 g3 fz=>⟨c,je.mp g3,k Hf' H' g1 g2⟩
noncomputable def Xn (f:Zb->M Bool):Zb->M Bool:=fun ρ=>Zp (f ρ) λb=>ZB (!b)
theorem Wn {a:Expr}{pos:Pos}{f:Zb->M Bool}(h:XZ X G a f):XZ X G (.UnaryOp .Not a pos) (Xn f):=by
 obtain⟨t,p,q⟩:=h;refine⟨_,Zms p,fun σ Hf H ρ s c s' Q e1 e2 e3 e4 k=>?_⟩;obtain⟨b,s1,a1,a2⟩:=ZG e4;obtain⟨rfl,rfl⟩:=ZR a2;exact q σ Hf H ρ s b s' _ e1 e2 e3 a1 λHf' H' g1 g2=>k Hf' H' g1 g2
noncomputable def XV (f g:Zb->M Bool):Zb->M Bool:=fun ρ=>Zp (f ρ) λb=>if b=true then g ρ else ZB false
noncomputable def Xg (f g:Zb->M Bool):Zb->M Bool:=fun ρ=>Zp (f ρ) λb=>if b=true then ZB true else g ρ
noncomputable def Y8 (X:Cx)(G:Gh)(e:Expr)(f:Zb->M Bool):Prop:=
 ∃t,PW X e t/\∀(σ:St) (Hf H:Hp) (ρ:Zb) (s:Pn) (b:Bool) (s':Pn) (Q:Bool->Hp->Prop),Zz G Hf H->YB G Hf σ ρ->G.st s H->f ρ s=some (b,s')->
  (∀Hf' H',Gr G Hf H Hf' H'->G.st s' H'->Q b H')->t σ H Q
theorem Y8.pt {e:Expr}{f:Zb->M Bool}(h:Y8 X G e f):XZ X G e f:=by
 obtain⟨t,p,q⟩:=h;exact⟨t,p.pt,q⟩
theorem B1 {a:Expr}{pos:Pos}{f:Zb->M Bool}(h:XZ X G a f):Y8 X G (.BoolOp .And [a] pos) f:=by
 obtain⟨t,p,q⟩:=h;exact⟨t,ZkK p,q⟩
theorem Vo {a:Expr}{pos:Pos}{f:Zb->M Bool}(h:XZ X G a f):Y8 X G (.BoolOp .Or [a] pos) f:=by
 obtain⟨t,p,q⟩:=h;exact⟨t,Zmq p,q⟩
theorem Zcc {a b:Expr}{rest:List Expr}{pos:Pos}{f g:Zb->M Bool}(h:XZ X G a f)(h2:Y8 X G (.BoolOp .And (b::rest) pos) g):Y8 X G (.BoolOp .And (a::b::rest) pos) (XV f g):=by
 obtain⟨t,p,q⟩:=h;obtain⟨u,p2,q2⟩:=h2;refine⟨_,Zmr p p2,fun σ Hf H ρ s c s' Q e1 e2 e3 e4 k=>?_⟩;obtain⟨b,s1,a1,a2⟩:=ZG e4;refine q σ Hf H ρ s b s1 _ e1 e2 e3 a1 λjQ H1 g1 jT=>?_
 cases b with
 | true=>exact q2 σ jQ H1 ρ s1 c s' _ g1.fh (e2.ext g1.ff) jT a2 λjX H2 g2 jO=>k jX H2 (g1.trans g2) jO
 | false=>obtain⟨rfl,rfl⟩:=ZR a2;exact k jQ H1 g1 jT
theorem Wp {a b:Expr}{rest:List Expr}{pos:Pos}{f g:Zb->M Bool}(h:XZ X G a f)(h2:Y8 X G (.BoolOp .Or (b::rest) pos) g):Y8 X G (.BoolOp .Or (a::b::rest) pos) (Xg f g):=by
 obtain⟨t,p,q⟩:=h;obtain⟨u,p2,q2⟩:=h2;refine⟨_,Zny p p2,fun σ Hf H ρ s c s' Q e1 e2 e3 e4 k=>?_⟩;obtain⟨b,s1,a1,a2⟩:=ZG e4;refine q σ Hf H ρ s b s1 _ e1 e2 e3 a1 λjQ H1 g1 jT=>?_
 cases b with
 | true=>obtain⟨rfl,rfl⟩:=ZR a2;exact k jQ H1 g1 jT
 | false=>exact q2 σ jQ H1 ρ s1 c s' _ g1.fh (e2.ext g1.ff) jT a2 λjX H2 g2 jO=>k jX H2 (g1.trans g2) jO
noncomputable def vAnd (f g:Zb->M D):Zb->M D:=fun ρ=>Zp (f ρ) λd=>match d with | .bl true=>g ρ | .bl false=>ZB (.bl false) | _=>ZE
noncomputable def vOr (f g:Zb->M D):Zb->M D:=fun ρ=>Zp (f ρ) λd=>match d with | .bl true=>ZB (.bl true) | .bl false=>g ρ | _=>ZE
noncomputable def Bo (f:Zb->M D):Zb->M D:=fun ρ=>Zp (f ρ) λd=>match d with | .bl b=>ZB (.bl (!b)) | _=>ZE
theorem ZmM {a:Expr}{pos:Pos}{r1:Bool}{f:Zb->M D}(h:PD X G r1 a f):PD X G true (.UnaryOp .Not a pos) (Bo f):=by
 obtain⟨t,p,q⟩:=h.drop;refine⟨_,Zmt p,fun σ Hf H ρ s c s' Q e1 e2 e3 e4 k=>?_⟩;obtain⟨d,s1,a1,a2⟩:=ZG e4;refine q σ Hf H ρ s d s1 _ e1 e2 e3 a1 λv jQ H1 g1 jT r1=>?_
 cases d with
 | bl b=>obtain⟨rfl,rfl⟩:=ZR a2;exact⟨b,je.mp r1,k _ jQ H1 g1 jT (je.mpr rfl) λ_=>.scal λz=>z⟩
 | _=>cases a2
noncomputable def BB (c:Zb->M Bool)(f g:Zb->M D):Zb->M D:=fun ρ=>Zp (c ρ) λb=>if b=true then f ρ else g ρ
theorem ZnM {c a b:Expr}{pos:Pos}{r1 r2:Bool}{fc:Zb->M Bool}{f g:Zb->M D}(hc:XZ X G c fc)(ha:PD X G r1 a f)(hb:PD X G r2 b g):PD X G false (.IfExp c a b pos) (BB fc f g):=by
 obtain⟨tc,pc,qc⟩:=hc;obtain⟨ta,pa,qa⟩:=ha.drop;obtain⟨tb,pb,qb⟩:=hb.drop;refine⟨_,ZiR pc pa pb,fun σ Hf H ρ s d s' Q e1 e2 e3 e4 k=>?_⟩;obtain⟨b,s1,a1,a2⟩:=ZG e4;refine qc σ Hf H ρ s b s1 _ e1 e2 e3 a1 λjQ H1 g1 jT=>?_
 cases b with
 | true=>exact Jg (qa σ jQ H1 ρ s1 d s' _ g1.fh (e2.ext g1.ff) jT a2 λv jX H2 g2 jO r2=>k v jX H2 (g1.trans g2) jO r2 (λz=>by cases z))
 | false=>exact Je (qb σ jQ H1 ρ s1 d s' _ g1.fh (e2.ext g1.ff) jT a2 λv jX H2 g2 jO r2=>k v jX H2 (g1.trans g2) jO r2 (λz=>by cases z))
noncomputable def Wg (X:Cx)(G:Gh)(f:Value)(g:List D->Option D):Prop:=
 ∃r,Xb X f r/\∀(Hf H:Hp) (s:Pn) (xs:List V) (ds:List D) (c:D) (Q:VK),Zz G Hf H->G.st s H->Zi G Hf ds xs->g ds=some c->
  (∀v Hf' H',Gr G Hf H Hf' H'->G.st s H'->Zj G Hf' c v->Ye G H Hf' c v->Q v H')->r xs H Q
noncomputable def ZJ (g:List D->Option D)(fs:Zb->M (List D)):Zb->M D:=fun ρ=>Zp (fs ρ) λds=>YZ (g ds)
theorem YT {id:String}{x:Str}{p pos:Pos}{e:Expr}{es:List Expr}{g:List D->Option D}{fs:Zb->M (List D)}(hc:Wg X G (.builtin id) g)(hg:Gl X x)(hm:X.mg x=none)(hv:xj x=some (.builtin id))(ha:Wy X G (e::es) fs)
  (hn:x≠"__name__":=by decide) (hdb:(x==("__debug__" : Str))=false:=by decide)
  (he:xh (e::es) X.env=(false,eval e X.env)::xh es X.env:=by rfl) (hpl:(backTo pos (xh es X.env)).any (·.1)=false:=by rfl):PD X G true (.Call (.Name x p) (e::es) [] pos) (ZJ g fs):=by
 obtain⟨r,pr,qr⟩:=hc;obtain⟨t,pa,qa⟩:=ha;refine⟨_,UW pr hg hm hv pa hn hdb he hpl,fun σ Hf H ρ s d s' Q e1 e2 e3 e4 k=>?_⟩;obtain⟨ds,s1,a1,a2⟩:=ZG e4;obtain⟨a3,rfl⟩:=WZ a2;refine qa σ Hf H ρ s ds _ _ e1 e2 e3 a1 λvs jQ H1 g1 jT r1=>?_;exact qr jQ H1 _ vs ds d Q g1.fh jT r1 a3 λv jX H2 g2 jO r2 fz=>k v jX H2 (g1.trans g2) jO r2 λ_=>jm g1.hh r2.nofp fz
theorem VZ {T:String}{x:Str}{p pos:Pos}{e:Expr}{es:List Expr}{g:List D->Option D}{fs:Zb->M (List D)}(hc:Wg X G (.type T) g)(hg:Gl X x)(hm:X.mg x=none)(hv:xj x=some (.type T))(ha:Wy X G (e::es) fs)
  (hn:x≠"__name__":=by decide) (hdb:(x==("__debug__" : Str))=false:=by decide)
  (he:xh (e::es) X.env=(false,eval e X.env)::xh es X.env:=by rfl) (hpl:(backTo pos (xh es X.env)).any (·.1)=false:=by rfl):PD X G true (.Call (.Name x p) (e::es) [] pos) (ZJ g fs):=by
 obtain⟨r,pr,qr⟩:=hc;obtain⟨t,pa,qa⟩:=ha;refine⟨_,JG pr hg hm hv pa hn hdb he hpl,fun σ Hf H ρ s d s' Q e1 e2 e3 e4 k=>?_⟩;obtain⟨ds,s1,a1,a2⟩:=ZG e4;obtain⟨a3,rfl⟩:=WZ a2;refine qa σ Hf H ρ s ds _ _ e1 e2 e3 a1 λvs jQ H1 g1 jT r1=>?_;exact qr jQ H1 _ vs ds d Q g1.fh jT r1 a3 λv jX H2 g2 jO r2 fz=>k v jX H2 (g1.trans g2) jO r2 λ_=>jm g1.hh r2.nofp fz
noncomputable def IxD (X:Cx)(G:Gh)(g:D->D->Option D):Prop:=
 ∃r,Uf X r/\∀(Hf H:Hp) (s:Pn) (x y:V) (d e c:D) (Q:VK),Zz G Hf H->G.st s H->Zj G Hf d x->Zj G Hf e y->g d e=some c->
  (∀v,Zj G Hf c v->Q v H)->r x y H Q
theorem ZP {a b:Expr}{pos:Pos}{fa fb:Zb->M D}{g:D->D->Option D}{r1 r2:Bool}(ho:IxD X G g)(ha:PD X G r1 a fa)(hb:PD X G r2 b fb)(hs:Zg7 b:=by intro _ _;rfl):PD X G false (.Subscript a b pos) (Zd g fa fb):=by
 obtain⟨r,po,qo⟩:=ho;obtain⟨ta,pa,qa⟩:=ha.drop;obtain⟨tb,pb,qb⟩:=hb.drop;refine⟨_,WK po pa pb hs,fun σ Hf H ρ s d s' Q e1 e2 e3 e4 k=>?_⟩;obtain⟨da,s1,a1,a2⟩:=ZG e4;obtain⟨db,s2,a3,a4⟩:=ZG a2;obtain⟨a5,rfl⟩:=WZ a4;refine qa σ Hf H ρ s da s1 _ e1 e2 e3 a1 λx jQ H1 g1 jT r1=>?_;refine qb σ jQ H1 ρ s1 db _ _ g1.fh (e2.ext g1.ff) jT a3 λy jX H2 g2 jO r2=>?_;exact qo jX H2 _ x y da db d Q g2.fh jO (r1.ext g2.ff) r2 a5 λv r3=>k v jX H2 (g1.trans g2) jO r3 (λz=>by cases z)
noncomputable def Yl (n:Nat)(fr:Bool)(GG:Gh->Prop)(F:List D->M D):Sp:=λvs H Q _=>∃(G:Gh) (Hf:Hp) (ds:List D) (s:Pn) (d:D) (s':Pn),GG G/\vs.length=n/\Zz G Hf H/\Zi G Hf ds vs/\G.st s H/\F ds s=some (d,s')/\
 ∀v Hf' H',Gr G Hf H Hf' H'->G.st s' H'->Zj G Hf' d v->(fr=true->Ye G H Hf' d v)->Q v H'
noncomputable def Zs (F:List D->M D)(fs:Zb->M (List D)):Zb->M D:=fun ρ=>Zp (fs ρ) F
theorem Zk1 {CX:XQ}{k:Nat}{f:Addr}{fd:xy}{ps:List Str}{n:Nat}{fr:Bool}{GG:Gh->Prop}{F:List D->M D}{E:XK}{x:Str}{p pos:Pos}{e:Expr}{es:List Expr}{fs:Zb->M (List D)}
  (FN:FnOk X.prog X.w X.K X.mg X.base CX k f fd ps (Yl n fr GG F)) (hG:GG G) (hr:Room k X.A) (hg:Gl X x) (hm:X.mg x=some (.ref f)) (hk:yI X.K (.ref f)=true) (hb:Wf X.K fd ps []) (hx:Zee CX X E)
  (ha:Wy X G (e::es) fs) (jM:(e::es).length=n:=by rfl) (hal:∀ρ s ds s',fs ρ s=some (ds,s')->ds.length=(e::es).length)
  (hdb:(x==("__debug__" : Str))=false:=by decide) (he:xh (e::es) X.env=(false,eval e X.env)::xh es X.env:=by rfl) (hpl:(backTo pos (xh es X.env)).any (·.1)=false:=by rfl) :
  PD X G fr (.Call (.Name x p) (e::es) [] pos) (Zs F fs):=by
 obtain⟨t,pa,qa⟩:=ha;refine⟨_,ZkQ FN hr hg hm hk hb .nil hx pa hdb he hpl,fun σ Hf H ρ s d s' Q e1 e2 e3 e4 k=>?_⟩;obtain⟨ds,s1,a1,a2⟩:=ZG e4;refine qa σ Hf H ρ s ds _ _ e1 e2 e3 a1 λvs jQ H1 g1 jT r1=>?_;refine⟨G,jQ,ds,s1,d,s',hG,by rw[zq,<-r1.length,hal _ _ _ _ a1];exact jM,g1.fh,by rw[zq];exact r1,jT,a2,λv jX H2 g2 jO r2 fz=>?_⟩;exact k v jX H2 (g1.trans g2) jO r2 λz=>jm g1.hh r2.nofp (fz z)
theorem YN {f:Zb->M D}{g:Zb->M (List D)}{n:Nat}(h:∀ρ s ds s',g ρ s=some (ds,s')->ds.length=n):∀ρ s ds s',Zc f g ρ s=some (ds,s')->ds.length=n+1:=fun ρ s ds s' q=>by
 obtain⟨d,s1,a1,a2⟩:=ZG q;obtain⟨r,s2,a3,a4⟩:=ZG a2;obtain⟨rfl,rfl⟩:=ZR a4;simp[h _ _ _ _ a3]
theorem V2:∀ρ s ds s',Zf ρ s=some (ds,s')->ds.length=0:=fun ρ s ds s' q=>by
 obtain⟨rfl,rfl⟩:=ZR q;rfl
end
mutual
noncomputable def X5:D->Bool
 | .tup ds=>U2 ds
 | .lst _=>false
 | .dk _=>false
 | .dt _=>false
 | .du _=>false
 | .df _=>false
 | .clo _ _=>false
 | _=>true
noncomputable def U2:List D->Bool
 | []=>true
 | d::ds=>X5 d&&U2 ds
end
mutual
theorem Zj.only {G:Gh}{H H':Hp}(e:∀b vs,¬G.fp b->H b=some (.tup vs)->H' b=some (.tup vs)):∀{d:D} {v:V},X5 d=true->Zj G H d v->Zj G H' d v
 | .non,_,_,h=>h
 | .bl _,_,_,h=>h
 | .int _,_,_,h=>h
 | .str _,_,_,h=>h
 | .tup ds,v,n,h=>by
  obtain⟨a,vs,e1,nf,e2,r⟩:=jc.mp h;exact jc.mpr ⟨a,vs,e1,nf,e _ _ nf e2,Zi.only e (by simpa[X5]using n) r⟩
 | .lst ds,v,n,h=>by simp[X5]at n
 | .dk kvs,v,n,h=>by simp[X5]at n
 | .dt kvs,v,n,h=>by simp[X5]at n
 | .du kvs,v,n,h=>by simp[X5]at n
 | .df kvs,v,n,h=>by simp[X5]at n
 | .pen,_,_,h=>h
 | .ty _,_,_,h=>h
 | .clo _ _,v,n,h=>by simp[X5]at n
theorem Zi.only {G:Gh}{H H':Hp}(e:∀b vs,¬G.fp b->H b=some (.tup vs)->H' b=some (.tup vs)):∀{ds:List D} {vs:List V},U2 ds=true->Zi G H ds vs->Zi G H' ds vs
 | [],_,_,h=>h
 | d::ds,vs,n,h=>by
  obtain⟨v,r,e1,r1,r2⟩:=jd.mp h;have n':X5 d=true/\U2 ds=true:=by simpa[U2]using n
  exact jd.mpr ⟨v,r,e1,Zj.only e n'.1 r1,Zi.only e n'.2 r2⟩
end
noncomputable def VJ (G:Gh)(Hf H:Hp)(a:Addr):D->Prop
 | .lst ds=>∃vs,H a=some (.lst vs)/\Zi G Hf ds vs
 | .dk kvs=>H a=some (.dK kvs)
 | .dt kvs=>∃o,H a=some (.frz o (.dT kvs))
 | .du kvs=>H a=some (.dT kvs)
 | _=>False
theorem VJ.there {G:Gh}{Hf H:Hp}{a:Addr}{d:D}(h:VJ G Hf H a d):∃o,H a=some o/\∀vs,o≠.tup vs:=by
 cases d with
 | lst ds=>obtain⟨vs,e,_⟩:=h;exact⟨_,e,λ_ z=>by cases z⟩
 | dk kvs=>exact⟨_,h,λ_ z=>by cases z⟩
 | dt kvs=>obtain⟨o,h⟩:=h;exact⟨_,h,λ_ z=>by cases z⟩
 | du kvs=>exact⟨_,h,λ_ z=>by cases z⟩
 | _=>exact h.elim
theorem VJ.keep {G:Gh}{Hf H Hf' H':Hp}{a:Addr}{d:D}(h:VJ G Hf H a d)(e:Zz G Hf Hf')(ha:∀o,H a=some o->H' a=some o):VJ G Hf' H' a d:=by
 cases d with
 | lst ds=>obtain⟨vs,q,r⟩:=h;exact⟨vs,ha _ q,r.ext e⟩
 | dk kvs=>exact ha _ h
 | dt kvs=>obtain⟨o,h⟩:=h;exact⟨o,ha _ h⟩
 | du kvs=>exact ha _ h
 | _=>exact h.elim
theorem VJ.rep {G:Gh}{Hf H Hf':Hp}{a:Addr}{d:D}(h:VJ G Hf H a d)(nf:¬G.fp a)(e:Zz G Hf Hf')(ha:∀o,H a=some o->Hf' a=some o):Zj G Hf' d (.ref a):=by
 cases d with
 | lst ds=>obtain⟨vs,q,r⟩:=h;exact jb.mpr ⟨a,vs,rfl,nf,ha _ q,r.ext e⟩
 | dk kvs=>exact jj.mpr ⟨a,rfl,nf,ha _ h⟩
 | dt kvs=>obtain⟨o,h⟩:=h;exact jk.mpr ⟨a,o,rfl,nf,ha _ h⟩
 | du kvs=>exact jl.mpr ⟨a,rfl,nf,ha _ h⟩
 | _=>exact h.elim
structure Jf (G:Gh)(own:List Nat)(kn jN H0:Hp)(σ:St)(Hf H:Hp)(ρ:Zb):Prop where
 len:σ.length=ρ.length
 kn:Zz G kn Hf
 gr:Gr G jN H0 Hf H
 fz:∀(i:Nat) (d:D),i∉own->ρ[i]?=some (some d)->∃v,σ[i]?=some (some v)/\Zj G Hf d v
 ow:∀(i:Nat) (d:D),i∈own->ρ[i]?=some (some d)->∃a,σ[i]?=some (some (.ref a))/\¬G.rd a/\Hf a=none/\H0 a=none/\VJ G Hf H a d
 ne:∀(i j:Nat) (a:Addr) (di dj:D),i∈own->j∈own->i≠j->ρ[i]?=some (some di)->ρ[j]?=some (some dj)->σ[i]?=some (some (.ref a))->σ[j]?=some (some (.ref a))->False
noncomputable def J (G:Gh)(own:List Nat)(kn jN H0:Hp)(σ:St)(H:Hp)(ρ:Zb):Prop:=∃Hf,Jf G own kn jN H0 σ Hf H ρ
noncomputable def Yu (own:List Nat)(ρ:Zb):Zb:=ρ.mapIdx λi o=>if i∈own then none else o
theorem Zcp (ρ:Zb):Yu [] ρ=ρ:=by
 unfold Yu;apply qak;intro i;simp
theorem Zja {own:List Nat}{ρ:Zb}{i:Nat}{d:D}(h:(Yu own ρ)[i]?=some (some d)):i∉own/\ρ[i]?=some (some d):=by
 unfold Yu at h;rw[List.getElem?_mapIdx]at h
 cases e:ρ[i]? with
 | none=>rw[e]at h;cases h
 | some o=>
  rw[e]at h;simp only[yc,qb4]at h;split at h
  ·cases h
  ·rename_i hn;exact⟨hn,by rw[h]⟩
section
variable {X:Cx}{G:Gh}{own:List Nat}{kn jN H0 Hf H:Hp}{σ:St}{ρ:Zb}
theorem Jf.envA (j:Jf G own kn jN H0 σ Hf H ρ):YB G Hf σ (Yu own ρ):=λi d e=>by
 obtain⟨n,q⟩:=Zja e;exact j.fz i d n q
theorem jt {G:Gh}{a:Addr}(h:¬G.rd a):¬G.fp a:=λz=>h (G.sub a z)
theorem Jf.grow {Hf' H':Hp}(j:Jf G own kn jN H0 σ Hf H ρ)(g:Gr G Hf H Hf' H'):Jf G own kn jN H0 σ Hf' H' ρ where
 len:=j.len
 kn:=j.kn.trans g.ff
 gr:=j.gr.trans g
 fz:=λi d n e=>let ⟨v,a,b⟩:=j.fz i d n e;⟨v,a,b.ext g.ff⟩
 ow:=λi d m e=>by
  obtain⟨a,h1,h2,h3,h4,h5⟩:=j.ow i d m e;have nf:=jt h2;refine⟨a,h1,h2,?_,h4,h5.keep g.ff λo q=>g.hh a o nf q⟩;exact g.nw a nf h3 h5.there
 ne:=j.ne
noncomputable def Vw (jN H0 H:Hp):Hp:=λb=>open Classical in if jN b=none/\Nt (H0 b)then none else H b
theorem UX {jN H0 H:Hp}:Zz G (Vw jN H0 H) H:=λb o _ e=>by
 unfold Vw at e;split at e
 ·cases e
 ·exact e
theorem Jf.wideF (j:Jf G own kn jN H0 σ Hf H ρ):Zz G Hf (Vw jN H0 H):=λb o n e=>by
 unfold Vw;split
 ·rename_i h
  rw[j.gr.nw b n h.1 h.2]at e;cases e
 ·exact j.gr.fh b o n e
theorem Jf.envB (j:Jf G own kn jN H0 σ Hf H ρ):YB G (Vw jN H0 H) σ ρ:=λi d e=>by
 by_cases m:i∈own
 ·obtain⟨a,h1,h2,h3,h4,h5⟩:=j.ow i d m e
  refine⟨_,h1,h5.rep (jt h2) j.wideF λo q=>?_⟩;unfold Vw;rw[if_neg (λz=>z.2.no h4)];exact q
 ·obtain⟨v,h1,h2⟩:=j.fz i d m e
  exact⟨v,h1,h2.ext j.wideF⟩
theorem Jf.grW {Hf' H':Hp}(j:Jf G own kn jN H0 σ Hf H ρ)(g:Gr G (Vw jN H0 H) H Hf' H'):Gr G jN H0 Hf' H' where
 hh:=j.gr.hh.trans g.hh
 ff:=λb o n e=>g.ff b o n (j.wideF b o n (j.gr.ff b o n e))
 fh:=g.fh
 nw:=λb n h1 h2=>g.nw b n (by unfold Vw;rw[if_pos ⟨h1,h2⟩]) (let ⟨u,e,nt⟩:=h2;⟨u,j.gr.hh b u n e,nt⟩)
noncomputable def okB:D->Bool
 | .lst ds=>U2 ds
 | .dk _=>true
 | .dt _=>true
 | .du _=>true
 | _=>false
theorem Zk2 {d:D}(h:okB d=true):U8 d:=by
 cases d <;> first | trivial | (simp[okB]at h)
theorem Jf.growB {Hf' H':Hp}(j:Jf G own kn jN H0 σ Hf H ρ)(g:Gr G (Vw jN H0 H) H Hf' H') :
  ∃Hf'',Jf G own kn jN H0 σ Hf'' H' ρ/\Zz G Hf Hf''/\(∀d v,X5 d=true->Zj G Hf' d v->Zj G Hf'' d v)/\∀d v,okB d=true->Ye G H Hf' d v->Zj G Hf' d v->Zj G Hf'' d v/\Ye G H Hf'' d v:=by
 classical
 -- the owned addresses are left out again
 let OA:Addr->Prop:=λb=>∃i d,i∈own/\ρ[i]?=some (some d)/\σ[i]?=some (some (.ref b))
 have oaH:∀b,OA b->Hf b=none/\¬G.rd b/\∃o,H b=some o/\∀vs,o≠.tup vs:=λb ⟨i,d,m,e,q⟩=>by
  obtain⟨a,h1,h2,h3,h4,h5⟩:=j.ow i d m e;rw[q]at h1;cases h1;exact⟨h3,h2,h5.there⟩
 have W:=j.grW g;refine⟨λb=>if OA b then none else Hf' b,?_⟩;have fF:Zz G Hf (λb=>if OA b then none else Hf' b):=λb o n e=>by
  have:¬OA b:=λz=>by rw[(oaH b z).1]at e;cases e
  show(if OA b then none else Hf' b)=_;rw[if_neg this];exact g.ff b o n (j.wideF b o n e)
 have Fh:Zz G (λb=>if OA b then none else Hf' b) H':=λb o n e=>by
  have e':(if OA b then none else Hf' b)=some o:=e;split at e'
  ·cases e'
  ·exact g.fh b o n e'
 have tupK:∀b vs,¬G.fp b->Hf' b=some (.tup vs)->(if OA b then none else Hf' b)=some (.tup vs):=λb vs nf e=>by
  have:¬OA b:=λz=>by
   obtain⟨_,_,o,q,nt⟩:=oaH b z;have q1:=g.hh b o nf q;have q2:=g.fh b _ nf e;rw[q1]at q2;exact nt vs (zp q2)
  rw[if_neg this];exact e
 have frK:∀a,H a=none->¬OA a:=λa e z=>by
  obtain⟨_,_,o,q,nt⟩:=oaH a z;rw[e]at q;cases q
 refine⟨⟨j.len,j.kn.trans fF,⟨W.hh,j.gr.ff.trans fF,Fh,λb n h1 h2=>?_⟩,λi d n e=>?_,λi d m e=>?_,j.ne⟩,fF,λd v n r=>Zj.only tupK n r,λd v ok fr r=>?_⟩
 ·show(if OA b then none else Hf' b)=none
  split
  ·rfl
  ·exact W.nw b n h1 h2
 ·obtain⟨v,a,b⟩:=j.fz i d n e
  exact⟨v,a,b.ext fF⟩
 ·obtain⟨a,h1,h2,h3,h4,h5⟩:=j.ow i d m e
  refine⟨a,h1,h2,?_,h4,h5.keep fF λo q=>g.hh a o (jt h2) q⟩;show(if OA a then none else Hf' a)=none;rw[if_pos ⟨i,d,m,e,h1⟩]
 ·cases d with
  | lst ds=>
   obtain⟨a,vs,e,n,q,r'⟩:=jb.mp r;have na:=frK a (fr a e trivial).1;have ea:(if OA a then none else Hf' a)=some (.lst vs):=by rw[if_neg na];exact q
   refine⟨jb.mpr ⟨a,vs,e,n,ea,Zi.only tupK ok r'⟩,λb eb m=>?_⟩;rw[e]at eb;cases eb;refine⟨(fr a e trivial).1,λds' ed=>?_⟩
   cases ed
   refine⟨vs,λb=>if b=a then none else if OA b then none else Hf' b,ea,if_pos rfl,λb o nb eb=>?_,?_⟩
   ·have eb':(if b=a then none else if OA b then none else Hf' b)=some o:=eb
    split at eb'
    ·cases eb'
    ·exact eb'
   ·refine Zi.only (λb ws nb eb=>?_) ok r'
    have hba:b≠a:=λz=>by rw[z,q]at eb;cases eb
    show(if b=a then none else if OA b then none else Hf' b)=_;rw[if_neg hba];exact tupK b ws nb eb
  | dk ds=>
   obtain⟨a,e,n,q⟩:=jj.mp r;have na:=frK a (fr a e trivial).1;refine⟨jj.mpr ⟨a,e,n,?_⟩,λb eb m=>⟨(fr b eb m).1,λds' ed=>by cases ed⟩⟩;show(if OA a then none else Hf' a)=_;rw[if_neg na];exact q
  | dt ds=>
   obtain⟨a,o,e,n,q⟩:=jk.mp r;have na:=frK a (fr a e trivial).1;refine⟨jk.mpr ⟨a,o,e,n,?_⟩,λb eb m=>⟨(fr b eb m).1,λds' ed=>by cases ed⟩⟩;show(if OA a then none else Hf' a)=_;rw[if_neg na];exact q
  | du ds=>
   obtain⟨a,e,n,q⟩:=jl.mp r;have na:=frK a (fr a e trivial).1;refine⟨jl.mpr ⟨a,e,n,?_⟩,λb eb m=>⟨(fr b eb m).1,λds' ed=>by cases ed⟩⟩;show(if OA a then none else Hf' a)=_;rw[if_neg na];exact q
  | _=>exact absurd (Zk2 ok) (λz=>z)
theorem Jf.set {i:Nat}{d:D}{v:V}{own':List Nat}(j:Jf G own kn jN H0 σ Hf H ρ)(ho:∀k,k∈own'->k≠i/\k∈own)(hk:∀k,k∈own->k≠i->k∈own')(r:Zj G Hf d v):Jf G own' kn jN H0 (σ.set i (some v)) Hf H (ρ.set i (some d)) where
 len:=by simp[j.len]
 kn:=j.kn
 gr:=j.gr
 fz:=λk c n e=>by
  by_cases h:i=k
  ·subst h
   have hl:i < ρ.length:=by
    have:=(qu.mp e).1;simpa using this
   rw[zt hl]at e
   cases e
   exact⟨v,zt (by rw[j.len];exact hl),r⟩
  ·rw[zb h]at e⊢
   exact j.fz k c (λz=>n (hk k z (zH h))) e
 ow:=λk c m e=>by
  have h:i≠k:=zH (ho k m).1;rw[zb h]at e⊢;exact j.ow k c (ho k m).2 e
 ne:=λk l a dk dl mk ml n ek el sk sl=>by
  have h:i≠k:=zH (ho k mk).1;have h':i≠l:=zH (ho l ml).1;rw[zb h]at ek sk;rw[zb h']at el sl;exact j.ne k l a dk dl (ho k mk).2 (ho l ml).2 n ek el sk sl
noncomputable def J7:D->Bool
 | .lst _=>true
 | .dk _=>true
 | .dt _=>true
 | .du _=>true
 | _=>false
theorem Zga {d:D}(h:J7 d=true):U8 d:=by
 cases d <;> first | trivial | (simp[J7]at h)
theorem Jf.setOwn {i:Nat}{d:D}{v:V}{Hb Hq:Hp}{s:Pn}{own':List Nat}(j0:Jf G own kn jN H0 σ Hq Hb ρ)(j:Jf G own kn jN H0 σ Hf H ρ)(ho:∀k,k∈own'↔k=i∨k∈own)(st:G.st s Hb)(hb:Zz G Hb H)(hq:Zz G Hq Hf)
  (r:Zj G Hf d v) (fr:Ye G Hb Hf d v) (ok:J7 d=true):∃Hf',Jf G own' kn jN H0 (σ.set i (some v)) Hf' H (ρ.set i (some d)):=by
 classical
 have mu:=Zga ok;obtain⟨a,ea,nfa⟩:∃a,v=.ref a/\¬G.fp a:=by
  cases d with
  | lst ds=>obtain⟨a,vs,e,n,_⟩:=jb.mp r;exact⟨a,e,n⟩
  | dk ds=>obtain⟨a,e,n,_⟩:=jj.mp r;exact⟨a,e,n⟩
  | dt ds=>obtain⟨a,_,e,n,_⟩:=jk.mp r;exact⟨a,e,n⟩
  | du ds=>obtain⟨a,e,n,_⟩:=jl.mp r;exact⟨a,e,n⟩
  | _=>exact mu.elim
 subst ea;have fra:Hb a=none:=(fr a rfl mu).1;have hqa:Hq a=none:=by
  cases e:Hq a with
  | none=>rfl
  | some o=>rw[j0.gr.fh a o nfa e]at fra;cases fra
 have h0a:H0 a=none:=by
  cases e:H0 a with
  | none=>rfl
  | some o=>rw[j0.gr.hh a o nfa e]at fra;cases fra
 have qF:Zz G Hq (λb=>if b=a then none else Hf b):=λb o n e=>by
  have:b≠a:=λz=>by rw[z,hqa]at e;cases e
  show(if b=a then none else Hf b)=_;rw[if_neg this];exact hq b o n e
 have oldA:∀k c,k∈own->ρ[k]?=some (some c)->σ[k]?≠some (some (.ref a)):=λk c m e z=>by
  obtain⟨b,h1,_,_,_,h5⟩:=j0.ow k c m e;rw[z]at h1;cases h1;obtain⟨o,q,_⟩:=h5.there;rw[fra]at q;cases q
 refine⟨λb=>if b=a then none else Hf b,by simp[j.len],j0.kn.trans qF,⟨j.gr.hh,j0.gr.ff.trans qF,λb o n e=>?_,λb n h1 h2=>?_⟩,λk c n e=>?_,λk c m e=>?_,λk l b dk dl mk ml n ek el sk sl=>?_⟩
 ·have e':(if b=a then none else Hf b)=some o:=e
  split at e'
  ·cases e'
  ·exact j.gr.fh b o n e'
 ·show(if b=a then none else Hf b)=none
  split
  ·rfl
  ·exact j.gr.nw b n h1 h2
 ·have h:i≠k:=λz=>n ((ho k).mpr (.inl z.symm))
  rw[zb h]at e⊢;obtain⟨v,q1,q2⟩:=j0.fz k c (λz=>n ((ho k).mpr (.inr z))) e;exact⟨v,q1,q2.ext qF⟩
 ·by_cases h:i=k
  ·subst h
   have hl:i < ρ.length:=by
    have:=(qu.mp e).1;simpa using this
   rw[zt hl]at e
   cases e
   refine⟨a,zt (by rw[j.len];exact hl),jz st fra,by show(if a=a then none else Hf a)=none;rw[if_pos rfl],h0a,?_⟩
   cases d with
   | lst ds=>
    obtain⟨a',vs,e',n',q',r'⟩:=jb.mp r
    cases e'
    obtain⟨ws,Hm,f1,f2,f3,f4⟩:=(fr a rfl mu).2 ds rfl;rw[q']at f1;cases f1;refine⟨vs,j.gr.fh a _ n' q',f4.ext λb o nb eb=>?_⟩;have:b≠a:=λz=>by rw[z,f2]at eb;cases eb
    show(if b=a then none else Hf b)=_;rw[if_neg this];exact f3 b o nb eb
   | dk ds=>obtain⟨a',e',n',q'⟩:=jj.mp r;cases e';exact j.gr.fh a _ n' q'
   | dt ds=>obtain⟨a',o',e',n',q'⟩:=jk.mp r;cases e';exact⟨o',j.gr.fh a _ n' q'⟩
   | du ds=>obtain⟨a',e',n',q'⟩:=jl.mp r;cases e';exact j.gr.fh a _ n' q'
   | _=>exact mu.elim
  ·have m':k∈own:=((ho k).mp m).resolve_left (zH h)
   rw[zb h]at e⊢;obtain⟨b,h1,h2,h3,h4,h5⟩:=j0.ow k c m' e;obtain⟨b',g1,g2,g3,g4,g5⟩:=j.ow k c m' e;rw[h1]at g1;cases g1;refine⟨b,h1,h2,?_,h4,h5.keep qF λo q=>hb b o (jt h2) q⟩;show(if b=a then none else Hf b)=none;split
   ·rfl
   ·exact g3
 ·by_cases hk:i=k
  ·subst hk
   have h':i≠l:=n;have hl:i < σ.length:=by
    have:=(qu.mp sk).1;simpa using this
   rw[zt hl]at sk
   cases sk
   rw[zb h']at el sl;exact oldA l dl (((ho l).mp ml).resolve_left (zH h')) el sl
  ·by_cases hl':i=l
   ·subst hl'
    have hl:i < σ.length:=by
     have:=(qu.mp sl).1;simpa using this
    rw[zt hl]at sl
    cases sl
    rw[zb hk]at ek sk;exact oldA k dk (((ho k).mp mk).resolve_left (zH hk)) ek sk
   ·rw[zb hk]at ek sk
    rw[zb hl']at el sl;exact j.ne k l b dk dl (((ho k).mp mk).resolve_left (zH hk)) (((ho l).mp ml).resolve_left (zH hl')) n ek el sk sl
theorem Jf.freeze {own':List Nat}(j:Jf G own kn jN H0 σ Hf H ρ)(ho:∀k,k∈own'->k∈own):∃Hf',Jf G own' kn jN H0 σ Hf' H ρ:=by
 classical
 let OA:Addr->Prop:=λb=>∃i d,i∈own/\i∉own'/\ρ[i]?=some (some d)/\σ[i]?=some (some (.ref b))
 have oaH:∀b,OA b->Hf b=none/\H0 b=none:=λb ⟨i,d,m,_,e,q⟩=>by
  obtain⟨a,h1,h2,h3,h4,h5⟩:=j.ow i d m e;rw[q]at h1;cases h1;exact⟨h3,h4⟩
 have fF:Zz G Hf (λb=>if OA b then H b else Hf b):=λb o n e=>by
  have:¬OA b:=λz=>by rw[(oaH b z).1]at e;cases e
  show(if OA b then H b else Hf b)=_;rw[if_neg this];exact e
 refine⟨λb=>if OA b then H b else Hf b,j.len,j.kn.trans fF,⟨j.gr.hh,j.gr.ff.trans fF,λb o n e=>?_,λb n h1 h2=>?_⟩,λk c n e=>?_,λk c m e=>?_,λk l b dk dl mk ml=>j.ne k l b dk dl (ho k mk) (ho l ml)⟩
 ·have e':(if OA b then H b else Hf b)=some o:=e
  split at e'
  ·exact e'
  ·exact j.gr.fh b o n e'
 ·have:¬OA b:=λz=>h2.no (oaH b z).2
  show(if OA b then H b else Hf b)=none;rw[if_neg this];exact j.gr.nw b n h1 h2
 ·by_cases m:k∈own
  ·obtain⟨a,h1,h2,h3,h4,h5⟩:=j.ow k c m e
   refine⟨_,h1,h5.rep (jt h2) fF λo q=>?_⟩;show(if OA a then H a else Hf a)=_;rw[if_pos ⟨k,c,m,n,e,h1⟩];exact q
  ·obtain⟨v,h1,h2⟩:=j.fz k c m e
   exact⟨v,h1,h2.ext fF⟩
 ·obtain⟨a,h1,h2,h3,h4,h5⟩:=j.ow k c (ho k m) e
  refine⟨a,h1,h2,?_,h4,h5.keep fF λo q=>q⟩;have:¬OA a:=λ⟨i,d,mi,ni,ei,qi⟩=>j.ne i k a d c mi (ho k m) (λz=>ni (z▸m)) ei e qi h1;show(if OA a then H a else Hf a)=none;rw[if_neg this];exact h3
end
theorem Jf.setF {G:Gh}{own:List Nat}{kn jN H0 Hf H:Hp}{σ:St}{ρ:Zb}{i:Nat}{d:D}{v:V}(j:Jf G own kn jN H0 σ Hf H ρ)(hi:i∉own)(r:Zj G Hf d v):Jf G own kn jN H0 (σ.set i (some v)) Hf H (ρ.set i (some d)):=
 j.set (own':=own) (λk m=>⟨λz=>hi (by rw[<-z];exact m),m⟩) (λk m _=>m) r
noncomputable def VA (G:Gh)(fr:Bool)(t:TE)(f:Zb->M D):Prop:=
 ∀(σ:St) (Hf H:Hp) (ρ:Zb) (s:Pn) (d:D) (s':Pn) (Q:VK),Zz G Hf H->YB G Hf σ ρ->G.st s H->f ρ s=some (d,s')->
  (∀v Hf' H',Gr G Hf H Hf' H'->G.st s' H'->Zj G Hf' d v->(fr=true->Ye G H Hf' d v)->Q v H')->t σ H Q
noncomputable def UJ (G:Gh)(own:List Nat)(fr:Bool)(t:TE)(f:Zb->M D):Prop:=
 ∀(kn jN H0:Hp) (σ:St) (Hf H:Hp) (ρ:Zb) (s:Pn) (d:D) (s':Pn) (Q:VK),Jf G own kn jN H0 σ Hf H ρ->G.st s H->f ρ s=some (d,s')->
  (∀v Hf' H',Jf G own kn jN H0 σ Hf' H' ρ->Zz G Hf Hf'->Zz G H H'->G.st s' H'->Zj G Hf' d v->(fr=true->Ye G H Hf' d v)->Q v H')->t σ H Q
section
variable {X:Cx}{G:Gh}{own:List Nat}{fr:Bool}{t:TE}{f:Zb->M D}
theorem VA.a (h:VA G fr t f):UJ G own fr t (fun ρ=>f (Yu own ρ)):=λkn jN H0 σ Hf H ρ s d s' Q j st e k=>
 h σ Hf H (Yu own ρ) s d s' Q j.gr.fh j.envA st e λv Hf' H' g st' r fz=>k v Hf' H' (j.grow g) g.ff g.hh st' r fz
theorem VA.n (h:VA G fr t f):UJ G [] fr t f:=λkn jN H0 σ Hf H ρ s d s' Q j st e k=>
 h.a kn jN H0 σ Hf H ρ s d s' Q j st (by show f (Yu [] ρ) s=_;rw[Zcp];exact e) k
inductive Out where
 | nx (ρ:Zb) | rt (d:D) | bk (ρ:Zb) | ct (ρ:Zb)
noncomputable def Post (G:Gh)(ob own':List Nat)(kn jN H0:Hp)(fr:Bool)(out:Out)(s':Pn)(E:Ends):Prop:=match out with
 | .nx ρ=>∀σ H,J G own' kn jN H0 σ H ρ->G.st s' H->E.nx σ H
 | .bk ρ=>∀σ H,J G ob kn jN H0 σ H ρ->G.st s' H->E.bk σ H
 | .ct ρ=>∀σ H,J G ob kn jN H0 σ H ρ->G.st s' H->E.ct σ H
 | .rt d=>∀v Hf' H',Gr G jN H0 Hf' H'->G.st s' H'->Zj G Hf' d v->(fr=true->Ye G H0 Hf' d v)->E.rt v H'
noncomputable def Dos (G:Gh)(ob own own':List Nat)(fr:Bool)(t:TS)(g:Zb->M Out):Prop:=
 ∀(kn jN H0:Hp) (σ:St) (H:Hp) (ρ:Zb) (s:Pn) (out:Out) (s':Pn) (E:Ends),J G own kn jN H0 σ H ρ->G.st s H->g ρ s=some (out,s')->Post G ob own' kn jN H0 fr out s' E->t E σ H
noncomputable def Y5 (X:Cx)(G:Gh)(ob own own':List Nat)(fr:Bool)(st:Stmt)(g:Zb->M Out):Prop:=∃t,PS X st t/\Dos G ob own own' fr t g
noncomputable def X6 (X:Cx)(G:Gh)(ob own own':List Nat)(fr:Bool)(sts:List Stmt)(g:Zb->M Out):Prop:=∃t,Wj X sts t/\Dos G ob own own' fr t g
variable {ob own' own2:List Nat}
theorem Y5.frz {st:Stmt}{g:Zb->M Out}(h:Y5 X G ob own2 own' fr st g)(hs:∀k,k∈own2->k∈own:=by decide):Y5 X G ob own own' fr st g:=by
 obtain⟨t,p,q⟩:=h;exact⟨t,p,λkn jN H0 σ H ρ s out s' E ⟨Hf,j⟩ st e po=>q kn jN H0 σ H ρ s out s' E (j.freeze hs) st e po⟩
noncomputable def Zn:Zb->M Out:=fun ρ=>ZB (.nx ρ)
noncomputable def Zh (g1 g2:Zb->M Out):Zb->M Out:=fun ρ=>Zp (g1 ρ) λo=>match o with | .nx ρ'=>g2 ρ' | .rt d=>ZB (.rt d) | .bk ρ'=>ZB (.bk ρ') | .ct ρ'=>ZB (.ct ρ')
theorem Ya (hs:∀k,k∈own'->k∈own:=by decide):X6 X G ob own own' fr [] Zn:=⟨_,Zeb,λkn jN H0 σ H ρ s out s' E ⟨Hf,j⟩ st e p=>by
 obtain⟨rfl,rfl⟩:=ZR e;exact p σ H (j.freeze hs) st⟩
theorem Yx {st:Stmt}{sts:List Stmt}{g1 g2:Zb->M Out}(h:Y5 X G ob own own2 fr st g1)(h2:X6 X G ob own2 own' fr sts g2):X6 X G ob own own' fr (st::sts) (Zh g1 g2):=by
 obtain⟨t,p,q⟩:=h;obtain⟨u,p2,q2⟩:=h2;refine⟨_,VE p p2,λkn jN H0 σ H ρ s out s' E j st e po=>?_⟩;obtain⟨o,s1,a1,a2⟩:=ZG e;refine q kn jN H0 σ H ρ s o s1 _ j st a1 ?_
 cases o with
 | nx ρ1=>exact fun σ1 H1 j1 jT=>q2 kn jN H0 σ1 H1 ρ1 s1 out s' E j1 jT a2 po
 | rt d=>obtain⟨rfl,rfl⟩:=ZR a2;exact po
 | bk ρ1=>obtain⟨rfl,rfl⟩:=ZR a2;exact po
 | ct ρ1=>obtain⟨rfl,rfl⟩:=ZR a2;exact po
noncomputable def ZC (f:Zb->M D):Zb->M Out:=fun ρ=>Zp (f ρ) λd=>ZB (.rt d)
theorem Z2 {e:Expr}{pos:Pos}(h:PD X G fr e f):Y5 X G ob own own' fr (.Return (some e) pos) (ZC f):=by
 obtain⟨t,p,q⟩:=h;refine⟨_,ZfZ p,λkn jN H0 σ H ρ s out s' E ⟨Hf,j⟩ st e po=>?_⟩;obtain⟨d,s1,a1,a2⟩:=ZG e;obtain⟨rfl,rfl⟩:=ZR a2;exact q σ _ H ρ s d s' _ UX j.envB st a1 λv Hf' H' g st' r fz=>po v Hf' H' (j.grW g) st' r λz=>jm j.gr.hh r.nofp (fz z)
theorem Zgb {i:Nat}{x:Str}{pos pos':Pos}(hi:i∈own)(h:PE X (.Name x pos') (YG i)):Y5 X G ob own own' true (.Return (some (.Name x pos')) pos) (ZC (Za i)):=by
 refine⟨_,ZfZ h,λkn jN H0 σ H ρ s out s' E ⟨Hf,j⟩ st e po=>?_⟩;obtain⟨d,s1,a1,a2⟩:=ZG e;obtain⟨rfl,rfl⟩:=ZR a2;obtain⟨e1,rfl⟩:=WZ a1;have e':ρ[i]?=some (some d):=by
  cases q:ρ[i]? with
  | none=>rw[q]at e1;cases e1
  | some o=>rw[q]at e1;simp at e1;rw[e1]
 obtain⟨v,h1,h2⟩:=j.envB i d e';obtain⟨a,g1,g2,g3,g4,g5⟩:=j.ow i d hi e';rw[g1]at h1;cases h1;refine⟨_,g1,po (.ref a) _ H (j.grW (.refl UX)) st h2 λ_ b eb _=>?_⟩
 cases eb
 refine⟨g4,λds ed=>?_⟩;subst ed;obtain⟨vs,q1,q2⟩:=g5;refine⟨vs,Hf,?_,g3,j.wideF,q2⟩;unfold Vw;rw[if_neg (λz=>z.2.no g4)];exact q1
noncomputable def Z9 (c:Zb->M Bool)(g1 g2:Zb->M Out):Zb->M Out:=fun ρ=>Zp (c ρ) λb=>if b=true then g1 ρ else g2 ρ
theorem Zei {c:Expr}{a b:List Stmt}{pos:Pos}{fc:Zb->M Bool}{g1 g2:Zb->M Out}(hc:XZ X G c fc)(ha:X6 X G ob own own' fr a g1)(hb:X6 X G ob own own' fr b g2):Y5 X G ob own own' fr (.If c a b pos) (Z9 fc g1 g2):=by
 obtain⟨tc,pc,qc⟩:=hc;obtain⟨ta,pa,qa⟩:=ha;obtain⟨tb,pb,qb⟩:=hb;refine⟨_,Zg0 pc pa pb,λkn jN H0 σ H ρ s out s' E ⟨Hf,j⟩ st e po=>?_⟩;obtain⟨b,s1,a1,a2⟩:=ZG e;refine qc σ _ H ρ s b s1 _ UX j.envB st a1 λHf' H' g st'=>?_;obtain⟨F,j',fF,q1,q2⟩:=j.growB g
 cases b with
 | true=>exact Jg (qa kn jN H0 σ H' ρ s1 out s' E ⟨F,j'⟩ st' a2 po)
 | false=>exact Je (qb kn jN H0 σ H' ρ s1 out s' E ⟨F,j'⟩ st' a2 po)
noncomputable def Bp (X:Cx)(G:Gh)(fr:Bool)(i:Nat)(st:Stmt)(f:Zb->M D):Prop:=∃te,PS X st (λE σ H=>te σ H λy H1=>E.nx (σ.set i (some y)) H1)/\VA G fr te f
theorem Yy {i:Nat}{x:Str}{e:Expr}{pos pos':Pos}(hN:X.N.Nodup)(hi:X.N[i]?=some x)(hx:Ve X.env.scope x)(he:PD X G fr e f)(hs:xq e (some (.Name x pos')) pos.line X.env=pure false:=by rfl)
  (hf:X.fn x=true∨X.env.scope.names.lookup x=some .local:=by first | exact .inl rfl | exact .inr rfl | assumption):Bp X G fr i (.Assign [.Name x pos'] e pos) f:=by
 obtain⟨t,p,q⟩:=he;exact⟨t,Uz hN hi hx p hs hf,q⟩
noncomputable def Z1 (i:Nat)(f:Zb->M D):Zb->M Out:=fun ρ=>Zp (f ρ) λd=>ZB (.nx (ρ.set i (some d)))
theorem Ze5 {i:Nat}{st:Stmt}{te:TE}(hp:PS X st (λE σ H=>te σ H λy H1=>E.nx (σ.set i (some y)) H1))(hy:UJ G own fr te f)(hi:i∉own){fr':Bool}:Y5 X G ob own own fr' st (Z1 i f):=
 ⟨_,hp,λkn jN H0 σ H ρ s out s' E ⟨Hf,j⟩ st e po=>by
  obtain⟨d,s1,a1,a2⟩:=ZG e;obtain⟨rfl,rfl⟩:=ZR a2;exact hy kn jN H0 σ Hf H ρ s d s' _ j st a1 λv Hf' H' j' e1 e2 st' r fz=>po _ H' ⟨Hf',j'.setF hi r⟩ st'⟩
theorem YO {i:Nat}{st:Stmt}{fr':Bool}(h:Bp X G fr i st f):Y5 X G ob [] [] fr' st (Z1 i f):=let ⟨_,p,q⟩:=h;Ze5 p q.n (by simp)
theorem JM {i:Nat}{st:Stmt}{fr':Bool}(h:Bp X G fr i st f)(hi:i∉own:=by decide):Y5 X G ob own own fr' st (Z1 i (fun ρ=>f (Yu own ρ))):=let ⟨_,p,q⟩:=h;Ze5 p q.a hi
noncomputable def V9 (i:Nat)(f:Zb->M D):Zb->M Out:=fun ρ=>Zp (f ρ) λd=>if J7 d=true then ZB (.nx (ρ.set i (some d)))else ZE
theorem Zjb {i:Nat}{st:Stmt}{te:TE}(hp:PS X st (λE σ H=>te σ H λy H1=>E.nx (σ.set i (some y)) H1))(hy:UJ G own true te f)(ho:∀k,k∈own'↔k=i∨k∈own){fr':Bool}:Y5 X G ob own own' fr' st (V9 i f):=
 ⟨_,hp,λkn jN H0 σ H ρ s out s' E ⟨Hf,j⟩ st e po=>by
  obtain⟨d,s1,a1,a2⟩:=ZG e;obtain⟨ok,a3⟩:=Xj a2;obtain⟨rfl,rfl⟩:=ZR a3;exact hy kn jN H0 σ Hf H ρ s d s' _ j st a1 λv Hf' H' j' e1 e2 st' r fz=>po _ H' (j.setOwn j' ho st e2 e1 r (fz rfl) ok) st'⟩
theorem JN {i:Nat}{st:Stmt}{fr':Bool}(h:Bp X G true i st f):Y5 X G ob [] [i] fr' st (V9 i f):=let ⟨_,p,q⟩:=h;Zjb p q.n (by intro k;simp)
noncomputable def Ji (i j:Nat)(fs:Zb->M (List D)):Zb->M Out:=fun ρ=>Zp (fs ρ) λds=>match ds with | [a,b]=>if (X5 a&&X5 b)=true then ZB (.nx ((ρ.set i (some a)).set j (some b)))else ZE | _=>ZE
theorem Zej {i j:Nat}{x y:Str}{a b:Expr}{fs:Zb->M (List D)}{px py pt pos:Pos}{kt k2 pt2}(hc:X.calm=true)(hN:X.N.Nodup)(hi:X.N[i]?=some x)(hj:X.N[j]?=some y)(hij:i≠j)(oi:i∉own)(oj:j∉own)
  (hx:X.env.scope.names.lookup x=some .local) (hy:X.env.scope.names.lookup y=some .local) (ha:Wy X G [a,b] fs)
  (hw:swappedStores [.Tuple [.Name x px,.Name y py] kt pt] (.Tuple [a,b] k2 pt2) X.env=pure (some [x,y]))
  (hs:swapsWithSole [.Tuple [.Name x px,.Name y py] kt pt] (.Tuple [a,b] k2 pt2) pos.line X.env=pure false:=by rfl) :
  Y5 X G ob own own fr (.Assign [.Tuple [.Name x px,.Name y py] kt pt] (.Tuple [a,b] k2 pt2) pos) (Ji i j fs):=by
 obtain⟨t,p,q⟩:=ha;refine⟨_,Zmv hc hN hi hj hij hx hy p hw hs,λkn jN H0 σ H ρ s out s' E ⟨Hf,j'⟩ st e po=>?_⟩;obtain⟨ds,s1,a1,a2⟩:=ZG e;refine q σ _ H ρ s ds s1 _ UX j'.envB st a1 λvs Hf' H' g st' r=>?_
 match ds,a2,r with
 | [d1,d2],a2,r=>
  obtain⟨c,a3⟩:=Xj a2;obtain⟨rfl,rfl⟩:=ZR a3;obtain⟨c1,c2⟩:=qaQ.mp c;obtain⟨v1,r1,rfl,q1,q2⟩:=jd.mp r;obtain⟨v2,r2,rfl,q3,q4⟩:=jd.mp q2;rw[Zi.nil_iff.mp q4];obtain⟨F,jF,fF,f1,f2⟩:=j'.growB g;exact⟨v1,v2,rfl,po _ H' ⟨F,(jF.setF oi (f1 _ _ c1 q1)).setF oj (f1 _ _ c2 q3)⟩ st'⟩
 | [],a2,_=>cases a2
 | [_],a2,_=>cases a2
 | _::_::_::_,a2,_=>cases a2
inductive Sets (G:Gh)(Hf:Hp)(ok:Nat->Prop):St->Zb->St->Zb->Prop
 | nil {σ ρ}:Sets G Hf ok σ ρ σ ρ
 | cons {σ ρ σ' ρ'} {i:Nat} {d:D} {v:V}:ok i->Zj G Hf d v->Sets G Hf ok (σ.set i (some v)) (ρ.set i (some d)) σ' ρ'->Sets G Hf ok σ ρ σ' ρ'
noncomputable def Vg (X:Cx)(G:Gh)(tg:Expr)(ok:Nat->Prop)(τ:D->Zb->Option Zb):Prop:=
 ∃g,PG X tg g/\∀(x:V) (σ:St) (Hf H:Hp) (d:D) (ρ ρ':Zb) (Q:St->Hp->Prop),Zz G Hf H->Zj G Hf d x->τ d ρ=some ρ'->(∀σ',Sets G Hf ok σ ρ σ' ρ'->Q σ' H)->g x σ H Q
noncomputable def ZK (i:Nat):D->Zb->Option Zb:=λd ρ=>some (ρ.set i (some d))
theorem Xx {i:Nat}{x:Str}{pos:Pos}{ok:Nat->Prop}(hN:X.N.Nodup)(hi:X.N[i]?=some x)(hx:Ve X.env.scope x)(oi:ok i)(hf:X.fn x=true∨X.env.scope.names.lookup x=some .local:=by first | exact .inl rfl | exact .inr rfl | assumption):Vg X G (.Name x pos) ok (ZK i):=
 ⟨_,B9 hN hi hx hf,λx σ Hf H d ρ ρ' Q e r q k=>by
  cases q
  exact k _ (.cons oi r .nil)⟩
noncomputable def Zl3 (i j:Nat):D->Zb->Option Zb:=λd ρ=>match d with | .tup [a,b]=>some ((ρ.set i (some a)).set j (some b)) | _=>none
theorem Zjc {i j:Nat}{x y:Str}{pos px py:Pos}{k:Nat}{ok:Nat->Prop}(hc:X.calm=true)(hN:X.N.Nodup)(hi:X.N[i]?=some x)(hj:X.N[j]?=some y)(hx:Ve X.env.scope x)(hy:Ve X.env.scope y)(oi:ok i)(oj:ok j)
  (hfx:X.fn x=true∨X.env.scope.names.lookup x=some .local:=by first | exact .inl rfl | exact .inr rfl | assumption) (hfy:X.fn y=true∨X.env.scope.names.lookup y=some .local:=by first | exact .inl rfl | exact .inr rfl | assumption)
  (hn:(assignEach [.Name x px,.Name y py] X.env).length=2:=by rfl) (hst:(assignEach [.Name x px,.Name y py] X.env).findIdx? (·.1)=none:=by rfl)
  (hp:Bz X [.Name x px,.Name y py] (ZiS (U7 i) (ZiS (U7 j) gNil))):Vg X G (.Tuple [.Name x px,.Name y py] k pos) ok (Zl3 i j):=
 ⟨_,Zmu hc hp hn hst,λx σ Hf H d ρ ρ' Q e r q k=>by
  match d,q,r with
  | .tup [a,b],q,r=>
   cases q
   obtain⟨ad,vs,rfl,n,h,rl⟩:=jc.mp r;obtain⟨v1,r1,rfl,q1,q2⟩:=jd.mp rl;obtain⟨v2,r2,rfl,q3,q4⟩:=jd.mp q2;have:=Zi.nil_iff.mp q4;subst this;exact⟨ad,_,rfl,ZI.of (e _ _ n h),rfl,v1,_,rfl,v2,_,rfl,rfl,k _ (.cons oi q1 (.cons oj q3 .nil))⟩⟩
theorem Sets.jf {kn jN H0 Hf H:Hp}{σ σ':St}{ρ ρ':Zb}(h:Sets G Hf (λi=>i∉own) σ ρ σ' ρ'):Jf G own kn jN H0 σ Hf H ρ->Jf G own kn jN H0 σ' Hf H ρ':=by
 induction h with
 | nil=>exact λj=>j
 | cons o r _ ih=>exact λj=>ih (j.setF o r)
noncomputable def VQ (G:Gh)(J:It)(Hf':Hp)(ds:List D):Prop:=
 ∀(i:Nat) (jX H2:Hp) (s:Pn),Zz G Hf' jX->Zz G jX H2->G.st s H2->
  (∀d,ds[i]?=some d->J.go i H2/\∀x H3,J.yld i H2 x H3->∃Hf3,Gr G jX H2 Hf3 H3/\G.st s H3/\Zj G Hf3 d x)/\(i=ds.length->J.stop i H2)
noncomputable def X0 (X:Cx)(G:Gh)(tg iter:Expr)(f:Zb->M (List D)):Prop:=
 ∃wi,PI X tg iter wi/\∀(σ:St) (Hf H:Hp) (ρ:Zb) (s:Pn) (ds:List D) (s':Pn) (R:It->Hp->Prop),Zz G Hf H->YB G Hf σ ρ->G.st s H->f ρ s=some (ds,s')->
  (∀J Hf' H',Gr G Hf H Hf' H'->G.st s' H'->VQ G J Hf' ds->R J H')->wi σ H R
theorem VQ.range {lo:Int}{n:Nat}{Hf:Hp}{ds:List D}(e:ds=(qp n).map λ(i:Nat)=>D.int (lo+i)):VQ G (BA lo n) Hf ds:=λi jX H2 s e1 e2 st=>by
 subst e;refine⟨λd q=>?_,λq=>by show n<=i;rw[q];simp⟩;have hi:i<n:=by
  have:=(qu.mp q).1;simpa using this
 have hd:d=.int (lo+i):=by
  rw[qC,yX hi]at q;simp at q;exact q.symm
 subst hd;refine⟨hi,λx H3 y=>?_⟩;obtain⟨y1,y2⟩:=y;subst y1 y2;exact⟨jX,.refl e2,st,ja.mpr rfl⟩
theorem VQ.list {K:qk}{a:Addr}{vs:List V}{Hf:Hp}{ds:List D}(nf:¬G.fp a)(h:Hf a=some (.lst vs))(r:Zi G Hf ds vs):VQ G (Itl K a) Hf ds:=λi jX H2 s e1 e2 st=>by
 have h2:ZF K H2 a vs:=ZF.of (e2 _ _ nf (e1 _ _ nf h));refine⟨λd q=>?_,λq=>⟨vs,h2,by rw[q,r.length];exact qm _⟩⟩;obtain⟨v,q1,q2⟩:=r.get q;refine⟨⟨vs,v,h2,q1⟩,λx H3 ⟨y1,y2⟩=>?_⟩;subst y1;have e:=y2 vs h2;rw[q1]at e;cases e;exact⟨jX,.refl e2,st,q2.ext e1⟩
theorem VQ.tup {K:qk}{a:Addr}{vs:List V}{Hf:Hp}{ds:List D}(nf:¬G.fp a)(h:Hf a=some (.tup vs))(r:Zi G Hf ds vs):VQ G (Itt K a) Hf ds:=λi jX H2 s e1 e2 st=>by
 have h2:ZI K H2 a vs:=ZI.of (e2 _ _ nf (e1 _ _ nf h));refine⟨λd q=>?_,λq=>⟨vs,h2,by rw[q,r.length];exact qm _⟩⟩;obtain⟨v,q1,q2⟩:=r.get q;refine⟨⟨vs,v,h2,q1⟩,λx H3 ⟨y1,y2⟩=>?_⟩;subst y1;have e:=y2 vs h2;rw[q1]at e;cases e;exact⟨jX,.refl e2,st,q2.ext e1⟩
noncomputable def Z0 (lo:Int)(n:Nat):List D:=(qp n).map λ(i:Nat)=>D.int (lo+i)
noncomputable def Xk (f:Zb->M D):Zb->M (List D):=fun ρ=>Zp (f ρ) λd=>match d with | .int j=>if -(2 ^ 62)<=j/\j<2 ^ 62 then ZB (Z0 0 j.toNat)else ZE | _=>ZE
theorem Za0 {tg a:Expr}{p pos:Pos}{r1:Bool}(hg:Gl X "range")(hm:X.mg "range" = none)(ha:PD X G r1 a f)(hs:xh [a] X.env=[(false,eval a X.env)]:=by rfl):X0 X G tg (.Call (.Name "range" p) [a] [] pos) (Xk f):=by
 obtain⟨t,pa,qa⟩:=ha.drop;refine⟨_,Zdt hg hm (YU pa Xt (by rw[hs];rfl)) hs,fun σ Hf H ρ s ds s' R e1 e2 e3 e4 k=>?_⟩;obtain⟨d,s1,a1,a2⟩:=ZG e4
 cases d with
 | int j=>
  obtain⟨c,a3⟩:=Xj a2;obtain⟨rfl,rfl⟩:=ZR a3;refine qa σ Hf H ρ s _ _ _ e1 e2 e3 a1 λv jQ H1 g st r=>?_;rw[ja.mp r];exact⟨j,rfl,c.1,c.2,k _ jQ H1 g st (.range rfl)⟩
 | _=>cases a2
noncomputable def Ut (f g:Zb->M D):Zb->M (List D):=fun ρ=>Zp (f ρ) λd=>Zp (g ρ) λe=>match d,e with | .int i,.int j=>if -(2 ^ 62)<=i/\i<2 ^ 62/\-(2 ^ 62)<=j/\j<2 ^ 62 then ZB (Z0 i (j-i).toNat)else ZE | _,_=>ZE
noncomputable def Yf (f:Zb->M D):Zb->M (List D):=fun ρ=>Zp (f ρ) λd=>match d with | .lst ds=>ZB ds | _=>ZE
noncomputable def WL (f:Zb->M D):Zb->M (List D):=fun ρ=>Zp (f ρ) λd=>match d with | .tup ds=>ZB ds | _=>ZE
theorem X8 {tg l:Expr}{r1:Bool}(hl:PD X G r1 l f):X0 X G tg l (Yf f):=by
 obtain⟨t,pa,qa⟩:=hl.drop;refine⟨_,ZkN pa,fun σ Hf H ρ s ds s' R e1 e2 e3 e4 k=>?_⟩;obtain⟨d,s1,a1,a2⟩:=ZG e4
 cases d with
 | lst es=>
  obtain⟨rfl,rfl⟩:=ZR a2;refine qa σ Hf H ρ s _ _ _ e1 e2 e3 a1 λv jQ H1 g st r=>?_;obtain⟨a,vs,rfl,nf,h,rl⟩:=jb.mp r;exact⟨a,rfl,⟨vs,ZF.of (g.fh _ _ nf h)⟩,k _ jQ H1 g st (.list nf h rl)⟩
 | _=>cases a2
theorem JR {tg l:Expr}{r1:Bool}(hl:PD X G r1 l f):X0 X G tg l (WL f):=by
 obtain⟨t,pa,qa⟩:=hl.drop;refine⟨_,Zmw pa,fun σ Hf H ρ s ds s' R e1 e2 e3 e4 k=>?_⟩;obtain⟨d,s1,a1,a2⟩:=ZG e4
 cases d with
 | tup es=>
  obtain⟨rfl,rfl⟩:=ZR a2;refine qa σ Hf H ρ s _ _ _ e1 e2 e3 a1 λv jQ H1 g st r=>?_;obtain⟨a,vs,rfl,nf,h,rl⟩:=jc.mp r;exact⟨a,rfl,⟨vs,ZI.of (g.fh _ _ nf h)⟩,k _ jQ H1 g st (.tup nf h rl)⟩
 | _=>cases a2
noncomputable def XW (τ:D->Zb->Option Zb)(body:Zb->M Out):List D->Zb->M Out
 | [],ρ=>ZB (.nx ρ)
 | d::ds,ρ=>Zp (YZ (τ d ρ)) fun ρ1=>Zp (body ρ1) λo=>match o with | .nx ρ2=>XW τ body ds ρ2 | .ct ρ2=>XW τ body ds ρ2 | .bk ρ2=>ZB (.nx ρ2) | .rt d=>ZB (.rt d)
noncomputable def Y2 (fi:Zb->M (List D))(τ:D->Zb->Option Zb)(body:Zb->M Out):Zb->M Out:=fun ρ=>Zp (fi ρ) λds=>XW τ body ds ρ
noncomputable def Bq (X:Cx)(G:Gh)(own:List Nat)(tg iter:Expr)(f:Zb->M (List D)):Prop:=
 ∃wi,PI X tg iter wi/\∀(kn jN H0:Hp) (σ:St) (Hf H:Hp) (ρ:Zb) (s:Pn) (ds:List D) (s':Pn) (R:It->Hp->Prop),Jf G own kn jN H0 σ Hf H ρ->G.st s H->f ρ s=some (ds,s')->
  (∀J Hf' H',Jf G own kn jN H0 σ Hf' H' ρ->Zz G Hf Hf'->G.st s' H'->VQ G J Hf' ds->R J H')->wi σ H R
theorem X0.a {tg iter:Expr}{fi:Zb->M (List D)}(h:X0 X G tg iter fi):Bq X G own tg iter (fun ρ=>fi (Yu own ρ)):=by
 obtain⟨wi,p,q⟩:=h;exact⟨wi,p,λkn jN H0 σ Hf H ρ s ds s' R j st e k=>q σ Hf H _ s ds s' R j.gr.fh j.envA st e λJ Hf' H' g st' it=>k J Hf' H' (j.grow g) g.ff st' it⟩
theorem X0.n {tg iter:Expr}{fi:Zb->M (List D)}(h:X0 X G tg iter fi):Bq X G [] tg iter fi:=by
 obtain⟨wi,p,q⟩:=h.a (own:=[]);exact⟨wi,p,λkn jN H0 σ Hf H ρ s ds s' R j st e k=>q kn jN H0 σ Hf H ρ s ds s' R j st (by show fi (Yu [] ρ) s=_;rw[Zcp];exact e) k⟩
theorem VY {tg a:Expr}{p pos:Pos}{r1:Bool}(hg:Gl X "range")(hm:X.mg "range" = none)(ha:PD X G r1 a f)(hs:xh [a] X.env=[(false,eval a X.env)]:=by rfl):Bq X G own tg (.Call (.Name "range" p) [a] [] pos) (Xk f):=by
 obtain⟨t,pa,qa⟩:=ha.drop;refine⟨_,Zdt hg hm (YU pa Xt (by rw[hs];rfl)) hs,λkn jN H0 σ Hf H ρ s ds s' R j st e4 k=>?_⟩;obtain⟨d,s1,a1,a2⟩:=ZG e4
 cases d with
 | int i=>
  obtain⟨c,a3⟩:=Xj a2;obtain⟨rfl,rfl⟩:=ZR a3;refine qa σ _ H ρ s _ _ _ UX j.envB st a1 λv jQ H1 g st r=>?_;obtain⟨F,j',fF,q1,q2⟩:=j.growB g;rw[ja.mp r];exact⟨i,rfl,c.1,c.2,k _ F H1 j' fF st (.range rfl)⟩
 | _=>cases a2
theorem ZaD {tg a b:Expr}{p pos:Pos}{r1 r2:Bool}{f2:Zb->M D}(hg:Gl X "range")(hm:X.mg "range" = none)(ha:PD X G r1 a f)(hb:PD X G r2 b f2)
  (hs:xh [a,b] X.env=[(false,eval a X.env),(false,eval b X.env)]:=by rfl) (hs2:xh [b] X.env=[(false,eval b X.env)]:=by rfl):Bq X G own tg (.Call (.Name "range" p) [a,b] [] pos) (Ut f f2):=by
 obtain⟨t,pa,qa⟩:=ha.drop;obtain⟨u,pb,qb⟩:=hb.drop;refine⟨_,ZhO hg hm (YU pa (YU pb Xt (by rw[hs2];rfl)) (by rw[hs,hs2])) hs hs2,λkn jN H0 σ Hf H ρ s ds s' R j st e4 k=>?_⟩;obtain⟨d,s1,a1,a2⟩:=ZG e4;obtain⟨d2,s2,a3,a4⟩:=ZG a2
 match d,d2,a4,a1,a3 with
 | .int i,.int l,a4,a1,a3=>
  obtain⟨c,a5⟩:=Xj a4;obtain⟨rfl,rfl⟩:=ZR a5;refine qa σ _ H ρ s _ _ _ UX j.envB st a1 λv jQ H1 g st r=>?_;refine qb σ jQ H1 ρ s1 _ _ _ g.fh (j.envB.ext g.ff) st a3 λv2 jX H2 g2 jO r2=>?_;obtain⟨F,j',fF,q1,q2⟩:=j.growB (g.trans g2);rw[ja.mp r,ja.mp r2];exact⟨i,l,rfl,c,k _ F H2 j' fF jO (.range rfl)⟩
theorem Jf.weak {kn kn' jN H0 Hf H:Hp}{σ:St}{ρ:Zb}(j:Jf G own kn' jN H0 σ Hf H ρ)(e:Zz G kn kn'):Jf G own kn jN H0 σ Hf H ρ:=⟨j.len,e.trans j.kn,j.gr,j.fz,j.ow,j.ne⟩
theorem XH {tg iter:Expr}{body:List Stmt}{pos:Pos}{fi:Zb->M (List D)}{τ:D->Zb->Option Zb}{g:Zb->M Out}(hp:PassesOwn (xw X.prog X.w) X.A X.env X.xe)(hc:X.calm=true)(hi:Bq X G own tg iter fi)(hg:Vg X G tg (λi=>i∉own) τ)(hb:X6 X G own own own fr body g)
  (hs:∀x,foldedSetIterable iter X.env x=pure x:=by intro _;rfl):Y5 X G ob own own fr (.For tg iter body [] pos) (Y2 fi τ g):=by
 obtain⟨wi,pi,qi⟩:=hi;obtain⟨gt,pg,qg⟩:=hg;obtain⟨tb,pb,qb⟩:=hb;refine⟨_,Zmx hp hc pi pg pb hs,λkn jN H0 σ H ρ s out s' E ⟨Hf,j⟩ st e po=>?_⟩;obtain⟨ds,s1,a1,a2⟩:=ZG e;refine qi kn jN H0 σ Hf H ρ s ds s1 _ j st a1 λJt jQ H1 j1 e1 jT it=>?_;refine⟨λi m σ2 H2=>∃ρ2 s2,J G own jQ jN H0 σ2 H2 ρ2/\G.st s2 H2/\XW τ g (ds.drop i) ρ2 s2=some (out,s')/\i<=ds.length/\m=ds.length-i,⟨_,ρ,s1,⟨jQ,⟨j1.len,.refl _ _,j1.gr,j1.fz,j1.ow,j1.ne⟩⟩,jT,a2,zy _,rfl⟩,?_⟩;rintro i m σ2 H2 ⟨ρ2,s2,⟨jX,j2⟩,jO,eq2,hle,rfl⟩;obtain⟨i1,i2⟩:=it i jX H2 s2 j2.kn j2.gr.fh jO;by_cases hlt:i<ds.length
 ·have hd:ds.drop i=ds[i]::ds.drop (i+1):=qan hlt
  rw[hd]at eq2;obtain⟨ρ3,s3,b1,b2⟩:=ZG eq2;obtain⟨b1',e3⟩:=WZ b1;subst e3;obtain⟨o,s4,b3,b4⟩:=ZG b2;obtain⟨go,yl⟩:=i1 ds[i] (by simp[hlt]);refine .inr ⟨go,fun σ' H'=>∃ρ5 s5,J G own jQ jN H0 σ' H' ρ5/\G.st s5 H'/\XW τ g (ds.drop (i+1)) ρ5 s5=some (out,s'),fun σ' H' ⟨ρ5,s5,j5,st5,q5⟩=>⟨_,by omega,ρ5,s5,j5,st5,q5,hlt,rfl⟩,λx H3 y3=>?_⟩;obtain⟨Hf3,g3,st3,r3⟩:=yl x H3 y3;have j3:=j2.grow g3;refine qg x σ2 Hf3 H3 ds[i] ρ2 ρ3 _ g3.fh r3 b1' fun σ3 sets=>?_;have j4:=sets.jf j3;refine qb jQ jN H0 σ3 H3 ρ3 s3 o s4 _ ⟨Hf3,j4⟩ st3 b3 ?_
  cases o with
  | nx ρ5=>exact fun σ5 H5 j5 st5=>⟨ρ5,s4,j5,st5,b4⟩
  | ct ρ5=>exact fun σ5 H5 j5 st5=>⟨ρ5,s4,j5,st5,b4⟩
  | bk ρ5=>
   obtain⟨rfl,rfl⟩:=ZR b4;exact fun σ5 H5 ⟨Hf5,j5⟩ st5=>po σ5 H5 ⟨Hf5,j5.weak (j.kn.trans e1)⟩ st5
  | rt d=>
   obtain⟨rfl,rfl⟩:=ZR b4;exact po
 ·have hd:ds.drop i=[]:=qcP.mpr (by omega)
  rw[hd]at eq2;obtain⟨rfl,rfl⟩:=ZR eq2;exact .inl ⟨i2 (by omega),po σ2 H2 ⟨jX,j2.weak (j.kn.trans e1)⟩ jO⟩
end
noncomputable def runB (n k:Nat)(g:Zb->M Out):List D->M D:=λds=>if ds.length=k then Zp (g (ds.map some++qw (n-k) none)) λo=>match o with | .rt d=>ZB d | .nx _=>ZB .non | _=>ZE else ZE
theorem Y1 {P:xz}{w:World}{K:qk}{mg:Str->Option Value}{base:Heap}{x qual:Str}{st:Stmt}{f:Addr}{fd:xy}{N ps:List Str}{k:Nat}{own:List Nat}{fr:Bool}{GG:Gh->Prop}{g:Zb->M Out}
  (F:Fun K x qual st f fd) (S:FnScope N ps (ZD st))
  (hb:∀(cdv:Value) (A:xA) (outer:List Env) (s:Shared) (H:Hp) (E:XK),Room k (A.deeper (envOfC qual (ZD st) s.heap.objs.size f cdv))->∀G,GG G->X6 (Vb ZV P w K mg base N qual (ZD st) f cdv A outer s H E).nox G [] [] own fr (Wb st) g) :
  FnOk P w K mg base ZV (k+1) f fd ps (Yl ps.length fr GG (runB N.length ps.length g)):=by
 refine F.ok S (λvs H Q E h=>?_) λcdv A outer s H vs Q E hr h=>?_
 ·obtain⟨G,Hf,ds,pn,d,pn',_,e,_⟩:=h
  exact e
 ·obtain⟨G,Hf,ds,pn,d,pn',hG,el,e1,r,st',eF,k'⟩:=h
  obtain⟨t,p,q⟩:=hb cdv A outer s H E hr G hG;refine⟨t,p,?_⟩;obtain⟨hl,a0⟩:=Xj eF;obtain⟨o,s1,a1,a2⟩:=ZG a0;have hpl:ps.length<=N.length:=by have:=congrArg qbn S.pre;rw[qV]at this;omega
  have j0:Jf G [] Hf Hf H (L2.start N vs) Hf H (ds.map some++qw (N.length-ps.length) none):=by
   refine⟨?_,.refl _ _,.refl e1,λi d n e=>?_,λi d m e=>?_,λi j a di dj mi mj n e=>?_⟩
   ·unfold L2.start;simp;omega
   ·have hi:i<ds.length:=by
     by_cases hi:i<ds.length
     ·exact hi
     ·rw[yg (by simpa using hi),yV]at e
      split at e <;> cases e
    have e':ds[i]?=some d:=by
     rw[zw (by simpa using hi),qC]at e
     cases q:ds[i]? with
     | none=>rw[q]at e;cases e
     | some c=>rw[q]at e;simp at e;rw[e]
    obtain⟨v,h1,h2⟩:=r.get e';refine⟨v,?_,h2⟩;unfold L2.start;rw[zw (by simp;rw[<-r.length];exact hi),qC,h1];rfl
   ·exact absurd m (by simp)
   ·exact absurd mi (by simp)
  refine q Hf Hf H (L2.start N vs) H _ pn o s1 _ ⟨Hf,j0⟩ st' a1 ?_
  cases o with
  | rt c=>
   obtain⟨rfl,rfl⟩:=ZR a2;exact λv Hf' H' g' jO r2 fz=>k' v Hf' H' g' jO r2 fz
  | nx ρ'=>
   obtain⟨rfl,rfl⟩:=ZR a2;exact fun σ' H' ⟨Hf',j'⟩ jO=>k' .non Hf' H' j'.gr jO (jg.mpr rfl) λ_=>.scal λz=>z
  | bk ρ'=>cases a2
  | ct ρ'=>cases a2
noncomputable def tOf (G:Gh)(fr:Bool)(f:Zb->M D):TE:=fun σ H Q=>∃(Hf:Hp) (ρ:Zb) (s:Pn) (d:D) (s':Pn),Zz G Hf H/\YB G Hf σ ρ/\G.st s H/\f ρ s=some (d,s')/\
 ∀v Hf' H',Gr G Hf H Hf' H'->G.st s' H'->Zj G Hf' d v->(fr=true->Ye G H Hf' d v)->Q v H'
noncomputable def UK (G:Gh)(f:Zb->M Bool):TT:=fun σ H Q=>∃(Hf:Hp) (ρ:Zb) (s:Pn) (b:Bool) (s':Pn),Zz G Hf H/\YB G Hf σ ρ/\G.st s H/\f ρ s=some (b,s')/\
 ∀Hf' H',Gr G Hf H Hf' H'->G.st s' H'->Q b H'
noncomputable def gOf (G:Gh)(ok:Nat->Prop)(τ:D->Zb->Option Zb):TG:=λx σ H Q=>∃(Hf:Hp) (d:D) (ρ ρ':Zb),Zz G Hf H/\Zj G Hf d x/\τ d ρ=some ρ'/\∀σ',Sets G Hf ok σ ρ σ' ρ'->Q σ' H
section
variable {X:Cx}{G:Gh}{own:List Nat}{fr:Bool}{f:Zb->M D}
theorem PD.canon {e:Expr}(h:PD X G fr e f):PE X e (tOf G fr f):=by
 obtain⟨t,p,q⟩:=h;exact λjC s σ H Q I ⟨Hf,ρ,pn,d,pn',a1,a2,a3,a4,k⟩=>p jC s σ H Q I (q σ Hf H ρ pn d pn' Q a1 a2 a3 a4 k)
theorem XZ.canon {e:Expr}{f:Zb->M Bool}(h:XZ X G e f):PT X e (UK G f):=by
 obtain⟨t,p,q⟩:=h;exact λjC s σ H Q I ⟨Hf,ρ,pn,d,pn',a1,a2,a3,a4,k⟩=>p jC s σ H Q I (q σ Hf H ρ pn d pn' Q a1 a2 a3 a4 k)
theorem Vg.canon {tg:Expr}{ok:Nat->Prop}{τ:D->Zb->Option Zb}(h:Vg X G tg ok τ):PG X tg (gOf G ok τ):=by
 obtain⟨t,p,q⟩:=h;exact λjC s σ H v u Q I r ⟨Hf,d,ρ,ρ',a1,a2,a3,k⟩=>p jC s σ H v u Q I r (q v σ Hf H d ρ ρ' Q a1 a2 a3 k)
noncomputable def We (src:List (Option Nat))(ρ:Zb):Zb:=src.map λo=>o.bind λj=>(ρ[j]?).bind id
theorem Zgc {Hf:Hp}{σ:St}{ρ:Zb}{src:List (Option Nat)}(h:YB G Hf σ ρ):YB G Hf (Vr src σ) (We src ρ):=λi d e=>by
 unfold We at e;rw[qC]at e
 cases q:src[i]? with
 | none=>rw[q]at e;cases e
 | some o=>
  rw[q]at e
  cases o with
  | none=>simp at e
  | some j=>
   simp only[yc,Option.bind_some,qb4]at e;have hj:ρ[j]?=some (some d):=by
    cases e2:ρ[j]? with
    | none=>rw[e2]at e;cases e
    | some o2=>rw[e2]at e;simp at e;rw[e]
   obtain⟨v,h1,h2⟩:=h j d hj;refine⟨v,?_,h2⟩;unfold Vr;rw[qC,q];simp[h1]
theorem Sets.len {Hf:Hp}{ok:Nat->Prop}{σ σ':St}{ρ ρ':Zb}(h:Sets G Hf ok σ ρ σ' ρ'):(σ.length=ρ.length->σ'.length=ρ'.length)/\σ'.length=σ.length:=by
 induction h with
 | nil=>exact⟨λe=>e,rfl⟩
 | cons _ _ _ ih=>exact⟨λe=>ih.1 (by simp[e]),ih.2.trans (by simp)⟩
theorem Sets.env {Hf:Hp}{ok:Nat->Prop}{σ σ':St}{ρ ρ':Zb}(h:Sets G Hf ok σ ρ σ' ρ'):σ.length=ρ.length->YB G Hf σ ρ->YB G Hf σ' ρ':=by
 induction h with
 | nil=>exact λ_ e=>e
 | @cons σ ρ σ' ρ' i d v o r _ ih=>
  intro hl he;refine ih (by simp[hl]) λk c e=>?_;by_cases h:i=k
  ·subst h
   have hk:i < ρ.length:=by
    have:=(qu.mp e).1;simpa using this
   rw[zt hk]at e
   cases e
   exact⟨v,zt (by rw[hl];exact hk),r⟩
  ·rw[zb h]at e⊢
   exact he k c e
theorem Sets.envOld {Hf:Hp}{ok:Nat->Prop}{σ σ':St}{ρ ρ' ρ0:Zb}(h:Sets G Hf ok σ ρ σ' ρ')(h0:∀i d,ok i->ρ0[i]?≠some (some d)):YB G Hf σ ρ0->YB G Hf σ' ρ0:=by
 induction h with
 | nil=>exact λe=>e
 | @cons σ ρ σ' ρ' i d v o r _ ih=>
  intro he;refine ih λk c e=>?_;have hne:i≠k:=λz=>h0 k c (z▸o) e;rw[zb hne];exact he k c e
noncomputable def VO (τ:D->Zb->Option Zb)(ft:Zb->M Bool)(fe:Zb->M D)(ρ:Zb):List D->M (List D)
 | []=>ZB []
 | d::ds=>Zp (YZ (τ d ρ)) fun ρ1=>Zp (ft ρ1) λb=>if b=true then Zp (fe ρ1) λc=>Zp (VO τ ft fe ρ ds) λr=>ZB (c::r)else VO τ ft fe ρ ds
noncomputable def Yj (src:List (Option Nat))(fi:Zb->M (List D))(τ:D->Zb->Option Zb)(ft:Zb->M Bool)(fe:Zb->M D):Zb->M D:=fun ρ=>
 Zp (fi ρ) λds=>if ds.length<=xg then Zp (VO τ ft fe (We src ρ) ds) λr=>ZB (.lst r)else ZE
noncomputable def Ys:Zb->M Bool:=λ_=>ZB true
theorem Ze6 {src:List (Option Nat)}{wi:TI}{fi:Zb->M (List D)}{τ:D->Zb->Option Zb}{ft:Zb->M Bool}{fe:Zb->M D}{r1:Bool}
  (qi:∀(σ:St) (Hf H:Hp) (ρ:Zb) (s:Pn) (ds:List D) (s':Pn) (R:It->Hp->Prop),Zz G Hf H->YB G Hf σ ρ->G.st s H->fi ρ s=some (ds,s')->
   (∀J Hf' H',Gr G Hf H Hf' H'->G.st s' H'->VQ G J Hf' ds->R J H')->wi σ H R) :
  VA G true (Zi9 src wi (gOf G (λi=>src[i]?=some none) τ) (UK G ft) (tOf G r1 fe)) (Yj src fi τ ft fe):=by
 intro σ Hf H ρ s d s' Q e1 e2 e3 e4 k;obtain⟨ds,s1,a1,a2⟩:=ZG e4;obtain⟨hz,a3⟩:=Xj a2;obtain⟨r,s2,a4,a5⟩:=ZG a3;obtain⟨rfl,rfl⟩:=ZR a5;refine qi σ Hf H ρ s ds s1 _ e1 e2 e3 a1 λJt jQ H1 g1 jT it=>?_;intro p hp;have nrp:=jz jT hp;have nfp:=jt nrp;have hf1p:jQ p=none:=by
  cases e:jQ p with
  | none=>rfl
  | some o=>rw[g1.fh p o nfp e]at hp;cases hp
 have h0:∀(i:Nat) (d:D),src[i]?=some none->(We src ρ)[i]?≠some (some d):=λi d e q=>by
  unfold We at q;rw[qC,e]at q;simp at q
 refine⟨λi m σ2 H2=>∃(jX:Hp) (s2:Pn) (vs:List V) (jH rest:List D),i<=ds.length/\m=ds.length-i/\Gr G jQ H1 jX H2/\YB G jX σ2 (We src ρ)/\σ2.length=(We src ρ).length/\G.st s2 H2/\jX p=none/\H2 p=some (.lst vs)/\Zi G jX jH vs/\jH.length<=i/\
  VO τ ft fe (We src ρ) (ds.drop i) s2=some (rest,s')/\jH++rest=r,⟨_,jQ,s1,[],[],r,zy _,rfl,?_,?_,?_,Gh.grow jT hp,hf1p,ZW,Zi.nil_iff.mpr rfl,qm _,a4,rfl⟩,?_⟩
 ·refine⟨λb o n e=>?_,.refl _ _,λb o n e=>?_,λb n h1 h2=>h1⟩
  ·rw[Zx (Yq e hp)];exact e
  ·rw[Zx (Yq e hf1p)];exact g1.fh b o n e
 ·exact Zgc (e2.ext g1.ff)
 ·unfold Vr We;simp
 ·rintro i m σ2 H2 ⟨jX,sz,vs,jH,rest,hle,rfl,g2,env2,len2,jO,hfp2,hp2,racc,hacc,eq2,hr⟩
  obtain⟨i1,i2⟩:=it i jX H2 sz g2.ff g2.fh jO;by_cases hlt:i<ds.length
  ·have hd:ds.drop i=ds[i]::ds.drop (i+1):=qan hlt
   rw[hd]at eq2;obtain⟨ρ3,s3,b1,b2⟩:=ZG eq2;obtain⟨b1',e3'⟩:=WZ b1;subst e3';obtain⟨bo,s4,b3,b4⟩:=ZG b2;obtain⟨go,yl⟩:=i1 ds[i] (by simp[hlt]);refine .inr ⟨go,λx H3 y3=>?_⟩;obtain⟨Hf3,g3,st3,r3⟩:=yl x H3 y3;refine⟨Hf3,ds[i],We src ρ,ρ3,g3.fh,r3,b1',fun σ4 sets=>?_⟩;have env2':=env2.ext g3.ff;have env4:=sets.env len2 env2';have env4':=sets.envOld h0 env2';refine⟨Hf3,ρ3,s3,bo,s4,g3.fh,env4,st3,b3,λHf5 H5 g5 st5=>?_⟩;have g25:=g3.trans g5;have hfp5:Hf5 p=none:=g25.nw p nfp hfp2 ⟨_,hp2,λ_ z=>by cases z⟩;have hp5:H5 p=some (.lst vs):=g25.hh p _ nfp hp2
   cases bo with
   | false=>
    refine Je ⟨ds.length-(i+1),by omega,Hf5,s4,vs,jH,rest,hlt,rfl,g2.trans g25,env4'.ext g5.ff,by rw[<-len2];exact sets.len.2,st5,hfp5,hp5,racc.ext g25.ff,by omega,?_,hr⟩;exact b4
   | true=>
    have b4':Zp (fe ρ3) (λc=>Zp (VO τ ft fe (We src ρ) (ds.drop (i+1))) λr=>ZB (c::r)) s4=some (rest,s'):=b4;obtain⟨c,s6,b5,b6⟩:=ZG b4';obtain⟨rr,s7,b7,b8⟩:=ZG b6;obtain⟨rfl,rfl⟩:=ZR b8;refine Jg ⟨Hf5,ρ3,s4,c,s6,g5.fh,env4.ext g5.ff,st5,b5,λv Hf6 H6 g6 st6 r6 _=>?_⟩;have hfp6:Hf6 p=none:=g6.nw p nfp hfp5 ⟨_,hp5,λ_ z=>by cases z⟩;have hp6:H6 p=some (.lst vs):=g6.hh p _ nfp hp5;have hl:vs.length<xg:=by rw[<-racc.length];omega
    refine⟨vs,hp6,hl,ds.length-(i+1),by omega,Hf6,s6,vs ++ [v],jH ++ [c],rr,hlt,rfl,?_,(env4'.ext g5.ff).ext g6.ff,by rw[<-len2];exact sets.len.2,?_,hfp6,ZW,(racc.ext (g25.ff.trans g6.ff)).append (.one r6),by simp;omega,b7,by rw[<-hr];simp⟩
    ·have gg:=(g2.trans g25).trans g6
     refine⟨λb o n e=>?_,gg.ff,λb o n e=>?_,gg.nw⟩
     ·rw[Zx (Yq e hp)];exact gg.hh b o n e
     ·rw[Zx (Yq e hfp6)];exact gg.fh b o n e
    ·refine G.mono _ _ _ st6 (λb o rb e=>?_) λb φ e=>?_
     ·have:b≠p:=λz=>nrp (z▸rb)
      rw[Zx this];exact e
     ·have:b≠p:=λz=>by rw[z,hp6]at e;cases e
      rw[Zx this];exact e
  ·have hd:ds.drop i=[]:=qcP.mpr (by omega)
   rw[hd]at eq2;obtain⟨rfl,rfl⟩:=ZR eq2;refine .inl ⟨i2 (by omega),?_⟩;rw[zq]at hr;subst hr;refine k (.ref p) (Zl jX p (.lst vs)) H2 (g1.trans ⟨g2.hh,λb o n e=>?_,λb o n e=>?_,λb n h1 h2=>?_⟩) jO (jb.mpr ⟨p,vs,rfl,nfp,ZW,racc.ext λb o n e=>?_⟩) λ_ a ea _=>?_
   ·rw[Zx (Yq (g2.ff b o n e) hfp2)];exact g2.ff b o n e
   ·by_cases hb:b=p
    ·subst hb;rw[ZW]at e;rw[hp2];exact e
    ·rw[Zx hb]at e;exact g2.fh b o n e
   ·have:b≠p:=λz=>h2.no (z▸hp)
    rw[Zx this];exact g2.nw b n h1 h2
   ·rw[Zx (Yq e hfp2)];exact e
   ·cases ea
    refine⟨?_,λds' ed=>?_⟩
    ·cases q:H p with
     | none=>rfl
     | some o=>rw[g1.hh p o nfp q]at hp;cases hp
    ·cases ed
     exact⟨vs,jX,ZW,hfp2,λb o n e=>by rw[Zx (Yq e hfp2)];exact e,racc⟩
theorem W3:Vv X [] (UK G Ys):=λjC s σ H Q I ⟨Hf,ρ,pn,b,pn',a1,a2,a3,a4,k⟩=>by
 obtain⟨rfl,rfl⟩:=ZR a4;exact Zi7 jC s σ H Q I (k Hf H (.refl a1) a3)
theorem Bd {c:Expr}{ft:Zb->M Bool}(h:XZ X G c ft):Vv X [c] (UK G ft):=Zi8 h.canon
theorem Jf.put {kn jN H0 Hf H:Hp}{σ:St}{ρ:Zb}{i:Nat}{a:Addr}{d d':D}{o':HO}(j:Jf G own kn jN H0 σ Hf H ρ)(hi:i∈own)(e:ρ[i]?=some (some d))(sa:σ[i]?=some (some (.ref a)))
  (new:VJ G Hf (Zl H a o') a d'):Jf G own kn jN H0 σ Hf (Zl H a o') (ρ.set i (some d')):=by
 obtain⟨a',h1,h2,h3,h4,h5⟩:=j.ow i d hi e;rw[sa]at h1;cases h1;have il:i < ρ.length:=(qu.mp e).1;refine⟨by simp[j.len],j.kn,⟨λb o n q=>?_,j.gr.ff,λb o n q=>?_,j.gr.nw⟩,λk c n q=>?_,λk c m q=>?_,λk l b dk dl mk ml n ek el sk sl=>?_⟩
 ·rw[Zx (Yq q h4)];exact j.gr.hh b o n q
 ·rw[Zx (Yq q h3)];exact j.gr.fh b o n q
 ·have hne:i≠k:=λz=>n (z▸hi)
  rw[zb hne]at q;exact j.fz k c n q
 ·by_cases hk:i=k
  ·subst hk
   rw[zt il]at q
   cases q
   exact⟨a,sa,h2,h3,h4,new⟩
  ·rw[zb hk]at q
   obtain⟨b,g1,g2,g3,g4,g5⟩:=j.ow k c m q;have hab:b≠a:=λz=>j.ne i k a d c hi m hk e q sa (z▸g1);exact⟨b,g1,g2,g3,g4,g5.keep (.refl _ _) λo z=>by rw[Zx hab];exact z⟩
 ·have ek':∃d,ρ[k]?=some (some d):=by
   by_cases hk:i=k
   ·exact⟨d,hk▸e⟩
   ·rw[zb hk]at ek;exact⟨_,ek⟩
  have el':∃d,ρ[l]?=some (some d):=by
   by_cases hl:i=l
   ·exact⟨d,hl▸e⟩
   ·rw[zb hl]at el;exact⟨_,el⟩
  obtain⟨_,ek'⟩:=ek';obtain⟨_,el'⟩:=el';exact j.ne k l b _ _ mk ml n ek' el' sk sl
theorem Zg8 {kn jN H0 Hf H:Hp}{σ:St}{ρ:Zb}{i:Nat}{ds:List D}(j:Jf G own kn jN H0 σ Hf H ρ)(hi:i∈own)(e:ρ[i]?=some (some (.lst ds))) :
  ∃a vs,σ[i]?=some (some (.ref a))/\¬G.rd a/\H a=some (.lst vs)/\Zi G Hf ds vs:=by
 obtain⟨a,h1,h2,h3,h4,vs,h5,h6⟩:=j.ow i _ hi e;exact⟨a,vs,h1,h2,h5,h6⟩
theorem Zg9 {ρ:Zb}{i:Nat}{d:D}(h:(ρ[i]?).bind id=some d):ρ[i]?=some (some d):=by
 cases q:ρ[i]? with
 | none=>rw[q]at h;cases h
 | some o=>rw[q]at h;simp at h;rw[h]
theorem jy {s:Pn}{H:Hp}{a:Addr}{o:HO}(st:G.st s H)(h:¬G.rd a)
  (hx:∀φ,H a≠some (.ext φ):=by intro φ z;first | (have z2:=z.symm.trans (by assumption:_=some (L2.HO.lst _));cases z2) | (have z2:=z.symm.trans (by assumption:_=some (L2.HO.dK _));cases z2) | (have z2:=z.symm.trans (by assumption:_=some (L2.HO.dT _));cases z2)):G.st s (Zl H a o):=G.mono _ _ _ st (λb u rb e=>by
 have:b≠a:=λz=>h (z▸rb);rw[Zx this];exact e) λb φ e=>by
 have:b≠a:=λz=>hx φ (z▸e);rw[Zx this];exact e
noncomputable def VR (i:Nat)(f:Zb->M D):Zb->M Out:=fun ρ=>Zp (f ρ) λd=>match (ρ[i]?).bind id with
 | some (.lst ds)=>if ds.length<xg then ZB (.nx (ρ.set i (some (.lst (ds ++ [d])))))else ZE
 | _=>ZE
theorem Zk3 {i:Nat}{ob:List Nat}{te:TE}{r1:Bool}(hi:i∈own)(hy:UJ G own r1 te f) :
  Dos G ob own own fr (ZgZ (tBM X.K "list" Zca (YG i) (Zg3 te tNil))) (VR i f):=λkn jN H0 σ H ρ s out s' E ⟨Hf,j⟩ st e po=>by
 obtain⟨d,s1,a1,a2⟩:=ZG e
 cases hb:(ρ[i]?).bind id with
 | none=>rw[hb]at a2;cases a2
 | some c=>
  rw[hb]at a2
  cases c with
  | lst ds=>
   have a2':(if ds.length<xg then ZB (.nx (ρ.set i (some (.lst (ds ++ [d])))))else ZE) s1=some (out,s'):=a2;obtain⟨c2,a3⟩:=Xj a2';obtain⟨rfl,rfl⟩:=ZR a3;have ei:=Zg9 hb;obtain⟨a,vs,h1,h2,h3,h4⟩:=Zg8 j hi ei;refine⟨_,h1,.inl ⟨rfl,vs,ZF.of h3⟩,?_⟩;refine hy kn jN H0 σ Hf H ρ s d s' _ j st a1 λv Hf' H' j' e1 e2 st' r fz=>?_;obtain⟨a',vs',h1',h2',h3',h4'⟩:=Zg8 j' hi ei;rw[h1]at h1';cases h1';refine⟨a,vs',v,rfl,rfl,h3',by rw[<-h4'.length];exact c2,?_⟩;exact po σ _ ⟨Hf',j'.put hi ei h1 ⟨vs' ++ [v],ZW,h4'.append (.one r)⟩⟩ (jy st' h2)
  | _=>cases a2
theorem BW {i:Nat}{x:Str}{e:Expr}{pos p1 p2 p3:Pos}{te:TE}(hv:PE X (.Name x p1) (YG i))(p:PE X e te)
  (hbase:xp (.Name x p1) "append" X.env (eval (.Name x p1) X.env)=eval (.Name x p1) X.env:=by rfl)
  (hfew:((backTo p3 (xh [e] X.env)).all (λx=>!x.1)&&(backToKw p3 (xi [] X.env)).all (λx=>x.1.isSome)
   && decide ([e].length+([]:List Keyword).length+(if ([]:List Keyword).isEmpty then 0 else 1)<30))=true:=by rfl)
  (hline:(p2.endLine==p3.line)=true:=by rfl) (hs:xh [e] X.env=(false,eval e X.env)::xh [] X.env:=by rfl)
  (hsw:xq (.Call (.Attribute (.Name x p1) "append" p2) [e] [] p3) none pos.line X.env=pure false:=by rfl) :
  PS X (.Expr (.Call (.Attribute (.Name x p1) "append" p2) [e] [] p3) pos) (ZgZ (tBM X.K "list" Zca (YG i) (Zg3 te tNil))):=
 ZkL (ZlY qcl PySem.F.slot_list_append PySem.F.type_list_append Zdy hv (YU p Xt hs) hbase hfew hline hs rfl) hsw
section
variable {i:Nat}{x:Str}{e:Expr}{pos p1 p2 p3:Pos}{r1:Bool}{ob:List Nat}{st:Stmt}
theorem B2 (hi:i∈own)(he:PD X G r1 e f)(hp:∀te,PE X e te->PS X st (ZgZ (tBM X.K "list" Zca (YG i) (Zg3 te tNil)))):Y5 X G ob own own fr st (VR i (fun ρ=>f (Yu own ρ))):=by
 obtain⟨t,p,q⟩:=he;exact⟨_,hp t p,Zk3 hi (VA.a q)⟩
end
end
section
variable {X:Cx}{G:Gh}
noncomputable def dI (C:Int->Int->Bool)(g:Int->Int->D):D->D->Option D
 | .int i,.int j=>if C i j=true then some (g i j)else none
 | _,_=>none
theorem Zek {C:Int->Int->Bool}{g:Int->Int->D}{d e c:D}(h:dI C g d e=some c):∃i j,d=.int i/\e=.int j/\C i j=true/\c=g i j:=by
 match d,e,h with
 | .int i,.int j,h=>
  have h':(if C i j=true then some (g i j)else none)=some c:=h;split at h'
  ·rename_i hc;cases h';exact⟨i,j,rfl,rfl,hc,rfl⟩
  ·cases h'
theorem Zha {f:Value->Value->Sem Value}{C:Int->Int->Prop}{Cb:Int->Int->Bool}{g:Int->Int->Int}(h:Z7 X f (rI C λi j=>.int (g i j)))(hc:∀i j,Cb i j=true->C i j):Y0 X G f (dI Cb λi j=>.int (g i j)):=
 ⟨_,h,λHf H s x y d e c Q e1 st rx ry q k=>by
  obtain⟨i,j,rfl,rfl,hcb,rfl⟩:=Zek q;exact⟨i,j,ja.mp rx,ja.mp ry,hc i j hcb,k _ Hf H (.refl e1) st (ja.mpr rfl) (.scal λz=>z)⟩⟩
theorem ZmN {f:Value->Value->Sem Value}{g:Int->Int->Int}(h:Z7 X f (Vf λi j=>.int (g i j))):Y0 X G f (dI (λ_ _=>true) λi j=>.int (g i j)):=
 ⟨_,h,λHf H s x y d e c Q e1 st rx ry q k=>by
  obtain⟨i,j,rfl,rfl,hcb,rfl⟩:=Zek q;exact⟨i,j,ja.mp rx,ja.mp ry,k _ Hf H (.refl e1) st (ja.mpr rfl) (.scal λz=>z)⟩⟩
theorem Zgd {f:Value->Value->Sem Value}{g:Int->Int->Bool}(h:Z7 X f (Vf λi j=>.bl (g i j))):Y0 X G f (dI (λ_ _=>true) λi j=>.bl (g i j)):=
 ⟨_,h,λHf H s x y d e c Q e1 st rx ry q k=>by
  obtain⟨i,j,rfl,rfl,hcb,rfl⟩:=Zek q;exact⟨i,j,ja.mp rx,ja.mp ry,k _ Hf H (.refl e1) st (je.mpr rfl) (.scal λz=>z)⟩⟩
noncomputable def Wt:=dI (λ_ _=>true) λi j=>.int (i-j)
noncomputable def UD (i j:Int):Bool:=(decide (-(2 ^ 64)<i)&&decide (i<2 ^ 64))||(decide (-(2 ^ 64)<j)&&decide (j<2 ^ 64))
noncomputable def WQ:=dI UD λi j=>.int (i*j)
noncomputable def Zhb:=dI (λ_ j=>decide (0<j)&&decide (j<1073741824)) λi j=>.int (i / j)
noncomputable def Wu:=dI (λ_ j=>decide (0<j)) λi j=>.int (i % j)
noncomputable def dPow:=dI (λi j=>decide (0<=j)&&decide (j<=1000000)&&decide (i.natAbs<2 ^ 64)) λi j=>.int (i ^ j.toNat)
theorem Vp:Y0 X G (binaryOp .Sub) Wt:=ZmN Zmy
theorem VF:Y0 X G (binaryOp .Mult) WQ:=Zha Zf4 λi j h=>by
 simp only[UD,Bool.or_eq_true,zi,decide_eq_true_eq]at h;exact h
theorem Zjd:Y0 X G (binaryOp .FloorDiv) Zhb:=Zha Zg1 λi j h=>by simpa[CDiv]using h
theorem UY:Y0 X G (binaryOp .Mod) Wu:=Zha Zed λi j h=>by simpa using h
theorem Zk4:Y0 X G (binaryOp .Pow) dPow:=Zha Zmz λi j h=>by
 simp only[zi,decide_eq_true_eq]at h;exact⟨h.1.1,h.1.2,h.2⟩
noncomputable def Jn:=dI (λ_ _=>true) λi j=>.bl (decide (i<=j))
noncomputable def dGt:=dI (λ_ _=>true) λi j=>.bl (decide (j<i))
noncomputable def Wz:=dI (λ_ _=>true) λi j=>.bl (decide (j<=i))
theorem Zje:Y0 X G (xk .LtE) Jn:=Zgd ZnE
theorem ZmO:Y0 X G (xk .Gt) dGt:=Zgd ZlW
theorem Zel:Y0 X G (xk .GtE) Wz:=Zgd ZnF
noncomputable def ZO:List D->Option (List Int)
 | []=>some []
 | .int i::ds=>(ZO ds).map (i :: ·)
 | _::_=>none
theorem Vm:∀{ds:List D} {ns:List Int},ZO ds=some ns->ds=ns.map D.int
 | [],ns,h=>by simp[ZO]at h;subst h;rfl
 | .int i::ds,ns,h=>by
  cases e:ZO ds with
  | none=>simp[ZO,e]at h
  | some ms=>simp[ZO,e]at h;subst h;simp[Vm e]
 | .non::_,_,h=>by simp[ZO]at h
 | .bl _::_,_,h=>by simp[ZO]at h
 | .str _::_,_,h=>by simp[ZO]at h
 | .tup _::_,_,h=>by simp[ZO]at h
 | .lst _::_,_,h=>by simp[ZO]at h
 | .dk _::_,_,h=>by simp[ZO]at h
 | .dt _::_,_,h=>by simp[ZO]at h
 | .du _::_,_,h=>by simp[ZO]at h
 | .df _::_,_,h=>by simp[ZO]at h
 | .pen::_,_,h=>by simp[ZO]at h
 | .ty _::_,_,h=>by simp[ZO]at h
theorem Jz (ns:List Int):ZO (ns.map D.int)=some ns:=by
 induction ns with
 | nil=>rfl
 | cons n ns ih=>simp[ZO,ih]
theorem jn {H:Hp}:∀{ns:List Int} {vs:List V},Zi G H (ns.map D.int) vs->vs=ns.map V.int
 | [],vs,h=>Zi.nil_iff.mp h
 | n::ns,vs,h=>by
  obtain⟨v,r,rfl,h1,h2⟩:=jd.mp h;rw[ja.mp h1,jn h2];rfl
noncomputable def XR:D->D->Option D
 | .int i,.int j=>some (.bl (decide (i<j)))
 | .tup a,.tup b=>match ZO a,ZO b with | some ns,some ms=>some (.bl (HT.lexLt ns ms)) | _,_=>none
 | _,_=>none
theorem UA (hu:X.A.units<cLine):Y0 X G (xk .Lt) XR:=
 ⟨_,ZiU.or (ZmE hu),λHf H s x y d e c Q e1 st rx ry q k=>by
  match d,e,q,rx,ry with
  | .int i,.int j,q,rx,ry=>
   cases q
   exact .inl ⟨i,j,ja.mp rx,ja.mp ry,k _ Hf H (.refl e1) st (je.mpr rfl) (.scal λz=>z)⟩
  | .tup a,.tup b,q,rx,ry=>
   have q:(match ZO a,ZO b with | some ns,some ms=>some (D.bl (HT.lexLt ns ms)) | _,_=>none)=some c:=q
   cases ea:ZO a with
   | none=>rw[ea]at q;simp at q
   | some ns=>
    cases eb:ZO b with
    | none=>rw[ea,eb]at q;simp at q
    | some ms=>
     rw[ea,eb]at q
     cases q
     rw[Vm ea]at rx;rw[Vm eb]at ry;obtain⟨p,vs,rfl,np,hp,rp⟩:=jc.mp rx;obtain⟨p2,vs2,rfl,np2,hp2,rp2⟩:=jc.mp ry;rw[jn rp]at hp;rw[jn rp2]at hp2;exact .inr ⟨p,p2,ns,ms,rfl,rfl,ZI.of (e1 _ _ np hp),ZI.of (e1 _ _ np2 hp2),k _ Hf H (.refl e1) st (je.mpr rfl) (.scal λz=>z)⟩⟩
theorem Zk5:Z7 X (binaryOp .Add) (λx y H Q=>∃a b ys,x=.ref a/\y=.ref b/\ZI X.K H a []/\ZI X.K H b ys/\Q (.ref b) H):=by
 intro jC s σ H x y v u Q I rx ry h;obtain⟨a,b,ys,rfl,rfl,ha,hb,q⟩:=h
 cases rx
 cases ry
 obtain⟨jE,r1,p1,_⟩:=I.tuple ha;obtain⟨jW,r2,p2,_⟩:=I.tuple hb;have e0:jE=[]:=by cases r1;rfl
 subst e0;obtain⟨⟨cls,dd,data,sl⟩,ho,hc,n,hd⟩:=id p1;obtain⟨⟨cls2,dd2,data2,sl2⟩,ho2,hc2,n2,hd2⟩:=id p2;simp only at hc hd hc2 hd2;subst hc hd hc2 hd2;exact concat_meets ⟨_,ho,rfl⟩ ⟨_,ho2,rfl⟩ noFill_tuple_add seq_tuple_add qbo qbg (qa2 _ _)
   (tuple_addW0 a b ([]:List Value).toArray jW.toArray n n2 dd dd2 sl sl2 rfl) ⟨ho,ho2,⟨.ref b,H,I,rfl,q⟩⟩
noncomputable def Yc:D->D->Option D
 | .int i,.int j=>some (.int (i+j))
 | .tup a,.tup b=>if a.length+b.length<=xg then some (.tup (a++b))else none
 | .lst a,.lst b=>if a.length+b.length<=xg then some (.lst (a++b))else none
 | _,_=>none
theorem YV:Y0 X G (binaryOp .Add) Yc:=
 ⟨_,Zf3.or (ZmH.or (ZkU.or Zk5)),λHf H s x y d e c Q e1 st rx ry q k=>by
  match d,e,q,rx,ry with
  | .int i,.int j,q,rx,ry=>
   cases q
   exact .inl ⟨i,j,ja.mp rx,ja.mp ry,k _ Hf H (.refl e1) st (ja.mpr rfl) (.scal λz=>z)⟩
  | .lst a,.lst b,q,rx,ry=>
   have q:(if a.length+b.length<=xg then some (D.lst (a++b))else none)=some c:=q;split at q
   ·rename_i hz
    cases q
    obtain⟨p,vs,rfl,np,hp,rp⟩:=jb.mp rx;obtain⟨p2,vs2,rfl,np2,hp2,rp2⟩:=jb.mp ry;refine .inr (.inl ⟨p,p2,vs,vs2,rfl,rfl,e1 _ _ np hp,e1 _ _ np2 hp2,by rw[<-rp.length,<-rp2.length];exact hz,λl hl=>?_⟩);have nf:=Gh.nofp st hl;have g2:=Gr.new (o:=.lst (vs++vs2)) e1 hl nf;have rr:=rp.append rp2;exact k (.ref l) _ _ g2 (Gh.grow st hl) (jb.mpr ⟨l,_,rfl,nf,ZW,rr.ext g2.ff⟩) (Ye.mk e1 hl nf rr)
   ·cases q
  | .tup a,.tup b,q,rx,ry=>
   have q:(if a.length+b.length<=xg then some (D.tup (a++b))else none)=some c:=q;split at q
   ·rename_i hz
    cases q
    obtain⟨p,vs,rfl,np,hp,rp⟩:=jc.mp rx;obtain⟨p2,vs2,rfl,np2,hp2,rp2⟩:=jc.mp ry;by_cases hv:vs=[]
    ·subst hv
     have ea:a=[]:=zQ.mp (by rw[rp.length];rfl);subst ea;exact .inr (.inr (.inr ⟨p,p2,vs2,rfl,rfl,ZI.of (e1 _ _ np hp),ZI.of (e1 _ _ np2 hp2),k _ Hf H (.refl e1) st ry (.scal λz=>z)⟩))
    ·refine .inr (.inr (.inl ⟨p,p2,vs,vs2,rfl,rfl,ZI.of (e1 _ _ np hp),ZI.of (e1 _ _ np2 hp2),hv,by rw[<-rp.length,<-rp2.length];exact hz,λz=>?_,λ_ l hl=>?_⟩))
     ·subst z
      have eb:b=[]:=zQ.mp (by rw[rp2.length];rfl);subst eb;rw[zq]at k;exact k _ Hf H (.refl e1) st rx (.scal λz=>z)
     ·have nf:=Gh.nofp st hl
      have g2:=Gr.new (o:=.tup (vs++vs2)) e1 hl nf;exact k (.ref l) _ _ g2 (Gh.grow st hl) (jc.mpr ⟨l,_,rfl,nf,ZW,(rp.append rp2).ext g2.ff⟩) (.scal λz=>z)
   ·cases q⟩
noncomputable def Zm:D->D->Option D
 | .lst ds,.int i=>XF ds i
 | .tup ds,.int i=>XF ds i
 | _,_=>none
theorem Zhc {Hf:Hp}{ds:List D}{vs:List V}{i:Int}{c:D}(r:Zi G Hf ds vs)(h:XF ds i=some c):∃v,XF vs i=some v/\Zj G Hf c v:=by
 unfold XF at h⊢;rw[<-r.length]
 cases e:Ue ds.length i with
 | none=>rw[e]at h;cases h
 | some j=>
  rw[e]at h;obtain⟨v,h1,h2⟩:=r.get (i:=j) (d:=c) h;exact⟨v,h1,h2⟩
theorem ZQ:IxD X G Zm:=
 ⟨_,WG.or ZmF,λHf H s x y d e c Q e1 st rx ry q k=>by
  match d,e,q,rx,ry with
  | .lst ds,.int i,q,rx,ry=>
   obtain⟨p,vs,rfl,np,hp,rp⟩:=jb.mp rx;obtain⟨v,h1,h2⟩:=Zhc rp q;exact .inl ⟨p,vs,i,v,rfl,ja.mp ry,ZF.of (e1 _ _ np hp),h1,k v h2⟩
  | .tup ds,.int i,q,rx,ry=>
   obtain⟨p,vs,rfl,np,hp,rp⟩:=jc.mp rx;obtain⟨v,h1,h2⟩:=Zhc rp q;exact .inr ⟨p,vs,i,v,rfl,ja.mp ry,ZI.of (e1 _ _ np hp),h1,k v h2⟩⟩
theorem ji {H:Hp}{d:D}{xs:List V}(h:Zi G H [d] xs):∃v,xs=[v]/\Zj G H d v:=by
 obtain⟨v,r,rfl,h1,h2⟩:=jd.mp h;rw[Zi.nil_iff.mp h2];exact⟨v,rfl,h1⟩
theorem jo {H:Hp}{d e:D}{xs:List V}(h:Zi G H [d,e] xs):∃v w,xs=[v,w]/\Zj G H d v/\Zj G H e w:=by
 obtain⟨v,r,rfl,h1,h2⟩:=jd.mp h;obtain⟨w,rfl,h3⟩:=ji h2;exact⟨v,w,rfl,h1,h3⟩
noncomputable def Y3:List D->Option D
 | [.lst ds]=>some (.int ds.length)
 | [.tup ds]=>some (.int ds.length)
 | _=>none
theorem Zge:Wg X G (.builtin "len") Y3:=
 ⟨_,BK,λHf H s xs ds c Q e1 st r q k=>by
  match ds,q,r with
  | [.lst es],q,r=>
   cases q
   obtain⟨v,rfl,rv⟩:=ji r;obtain⟨p,vs,rfl,np,hp,rp⟩:=jb.mp rv;exact⟨p,vs,rfl,.inl (ZF.of (e1 _ _ np hp)),k _ Hf H (.refl e1) st (ja.mpr (by rw[rp.length])) (.scal λz=>z)⟩
  | [.tup es],q,r=>
   cases q
   obtain⟨v,rfl,rv⟩:=ji r;obtain⟨p,vs,rfl,np,hp,rp⟩:=jc.mp rv;exact⟨p,vs,rfl,.inr (ZI.of (e1 _ _ np hp)),k _ Hf H (.refl e1) st (ja.mpr (by rw[rp.length])) (.scal λz=>z)⟩⟩
noncomputable def U3:List D->Option D
 | [.lst ds]=>some (.tup ds)
 | [.tup ds]=>some (.tup ds)
 | _=>none
theorem BL:Wg X G (.type "tuple") U3:=
 ⟨_,Zde,λHf H s xs ds c Q e1 st r q k=>by
  match ds,q,r with
  | [.lst es],q,r=>
   cases q
   obtain⟨v,rfl,rv⟩:=ji r;obtain⟨p,vs,rfl,np,hp,rp⟩:=jb.mp rv;refine⟨p,vs,rfl,.inl ⟨ZF.of (e1 _ _ np hp),λl hl=>?_⟩⟩;have nf:=Gh.nofp st hl;have g2:=Gr.new (o:=.tup vs) e1 hl nf;exact k (.ref l) _ _ g2 (Gh.grow st hl) (jc.mpr ⟨l,_,rfl,nf,ZW,rp.ext g2.ff⟩) (.scal λz=>z)
  | [.tup es],q,r=>
   cases q
   obtain⟨v,rfl,rv⟩:=ji r;obtain⟨p,vs,rfl,np,hp,rp⟩:=jc.mp rv;exact⟨p,vs,rfl,.inr ⟨ZI.of (e1 _ _ np hp),k _ Hf H (.refl e1) st rv (.scal λz=>z)⟩⟩⟩
noncomputable def Zl4:List D->Option D
 | [.lst ds]=>some (.lst ds)
 | [.tup ds]=>some (.lst ds)
 | _=>none
theorem Ze7:Wg X G (.type "list") Zl4:=
 ⟨_,Zeg,λHf H s xs ds c Q e1 st r q k=>by
  match ds,q,r with
  | [.lst es],q,r=>
   cases q
   obtain⟨v,rfl,rv⟩:=ji r;obtain⟨p,vs,rfl,np,hp,rp⟩:=jb.mp rv;refine⟨p,vs,rfl,.inl (ZF.of (e1 _ _ np hp)),λl hl=>?_⟩;have nf:=Gh.nofp st hl;have g2:=Gr.new (o:=.lst vs) e1 hl nf;exact k (.ref l) _ _ g2 (Gh.grow st hl) (jb.mpr ⟨l,_,rfl,nf,ZW,rp.ext g2.ff⟩) (Ye.mk e1 hl nf rp)
  | [.tup es],q,r=>
   cases q
   obtain⟨v,rfl,rv⟩:=ji r;obtain⟨p,vs,rfl,np,hp,rp⟩:=jc.mp rv;refine⟨p,vs,rfl,.inr (ZI.of (e1 _ _ np hp)),λl hl=>?_⟩;have nf:=Gh.nofp st hl;have g2:=Gr.new (o:=.lst vs) e1 hl nf;exact k (.ref l) _ _ g2 (Gh.grow st hl) (jb.mpr ⟨l,_,rfl,nf,ZW,rp.ext g2.ff⟩) (Ye.mk e1 hl nf rp)⟩
noncomputable def UE:List D->Option D
 | [.int i,.int j]=>some (.int (if j > i then j else i))
 | _=>none
noncomputable def VP:List D->Option D
 | [.int i,.int j]=>some (.int (if j<i then j else i))
 | _=>none
theorem Za1 (hc:X.calm=true):Wg X G (.builtin "max") UE:=
 ⟨_,ZhQ hc,λHf H s xs ds c Q e1 st r q k=>by
  match ds,q,r with
  | [.int i,.int j],q,r=>
   cases q
   obtain⟨v,w,rfl,rv,rw'⟩:=jo r;rw[ja.mp rv,ja.mp rw'];exact⟨i,j,rfl,k _ Hf H (.refl e1) st (ja.mpr rfl) (.scal λz=>z)⟩⟩
theorem JA (hc:X.calm=true):Wg X G (.builtin "min") VP:=
 ⟨_,ZhR hc,λHf H s xs ds c Q e1 st r q k=>by
  match ds,q,r with
  | [.int i,.int j],q,r=>
   cases q
   obtain⟨v,w,rfl,rv,rw'⟩:=jo r;rw[ja.mp rv,ja.mp rw'];exact⟨i,j,rfl,k _ Hf H (.refl e1) st (ja.mpr rfl) (.scal λz=>z)⟩⟩
noncomputable def Zhd:List D->Option D
 | [.int i]=>some (.int i)
 | [.bl b]=>some (.int (if b then 1 else 0))
 | _=>none
theorem Zgf:Wg X G (.type "int") Zhd:=
 ⟨_,ZhS,λHf H s xs ds c Q e1 st r q k=>by
  match ds,q,r with
  | [.int i],q,r=>
   cases q
   obtain⟨v,rfl,rv⟩:=ji r;rw[ja.mp rv];exact .inl ⟨i,rfl,k _ Hf H (.refl e1) st (ja.mpr rfl) (.scal λz=>z)⟩
  | [.bl i],q,r=>
   cases q
   obtain⟨v,rfl,rv⟩:=ji r;rw[je.mp rv];exact .inr ⟨i,rfl,k _ Hf H (.refl e1) st (ja.mpr rfl) (.scal λz=>z)⟩⟩
theorem W4 {x:Str}{n:String}{pos:Pos}(hg:Gl X x)(hm:X.mg x=none)(hv:xj x=some (.type n))(hn:x≠"__name__":=by decide)(hd:(x==("__debug__" : Str))=false:=by decide):PD X G true (.Name x pos) (dC (.ty n)):=by
 refine⟨_,ZkJ (v:=.ty n) hg hm hv rfl hn hd,fun σ Hf H ρ s d s' Q e1 e2 e3 e4 k=>?_⟩;obtain⟨rfl,rfl⟩:=ZR e4;exact k _ Hf H (.refl e1) e3 (jq.mpr rfl) λ_=>.scal λz=>z
noncomputable def Zem:D->Option String
 | .non=>some "NoneType"
 | .bl _=>some "bool"
 | .int _=>some "int"
 | .str _=>some "str"
 | .tup _=>some "tuple"
 | .lst _=>some "list"
 | .dk _=>some "dict"
 | .dt _=>none
 | .du _=>none
 | .df _=>none
 | _=>none
noncomputable def Be:List String:=["int","bool","str","tuple","list","dict"]
noncomputable def WR:List D->Option D
 | [d,.ty T]=>match Zem d with
  | some n=>if Be.contains T then some (.bl (n==T||(n == "bool" && T == "int")))else none
  | none=>none
 | _=>none
theorem Zk6 (K:qk):∀n∈["NoneType","bool","int","str","tuple","list","dict"],∀T∈Be,PySem.W.kitOne K (.type n) (.type T)=some (n==T||(n == "bool" && T == "int")):=by
 intro n hn T hT;simp only[Be,qq,ye,or_false]at hn hT;rcases hn with rfl | rfl | rfl | rfl | rfl | rfl | rfl <;> rcases hT with rfl | rfl | rfl | rfl | rfl | rfl <;> rfl
theorem ZhZ {Hf H:Hp}{d:D}{v:V}{n:String}(e1:Zz G Hf H)(r:Zj G Hf d v)(h:Zem d=some n):TyOf X.K H v (.type n)/\n∈["NoneType","bool","int","str","tuple","list","dict"]:=by
 cases d with
 | non=>cases h;rw[jg.mp r];exact⟨.non,by decide⟩
 | bl b=>cases h;rw[je.mp r];exact⟨.bl b,by decide⟩
 | int b=>cases h;rw[ja.mp r];exact⟨.int b,by decide⟩
 | str b=>cases h;rw[jh.mp r];exact⟨.str b,by decide⟩
 | tup ds=>cases h;obtain⟨p,vs,rfl,np,hp,rp⟩:=jc.mp r;exact⟨.tup (e1 _ _ np hp),by decide⟩
 | lst ds=>cases h;obtain⟨p,vs,rfl,np,hp,rp⟩:=jb.mp r;exact⟨.lst (e1 _ _ np hp),by decide⟩
 | dk ds=>cases h;obtain⟨p,rfl,np,hp⟩:=jj.mp r;exact⟨.dK (e1 _ _ np hp),by decide⟩
 | dt ds=>cases h
 | du ds=>cases h
 | df ds=>cases h
 | pen=>cases h
 | ty _=>cases h
 | clo _ _=>cases h
theorem Zh0:Xb X (.builtin "isinstance") (λxs H Q=>∃x n T,xs=[x,.ty T]/\TyOf X.K H x (.type n)/\n∈["NoneType","bool","int","str","tuple","list","dict"]/\T∈Be/\Q (.bl (n==T||(n == "bool" && T == "int"))) H):=by
 intro jC s σ H xs us Q I r h;obtain⟨x,n,T,rfl,ty,hn,hT,q⟩:=h;obtain⟨u,w',rfl,ru,rw'⟩:=Zg2 r
 cases (show w'=yB T from rw')
 exact ZhU I ru ty (Zk6 X.K n hn T hT) λtk=>⟨.bl _,H,I.tok tk,rfl,q⟩
theorem WX:Wg X G (.builtin "isinstance") WR:=
 ⟨_,Zh0,λHf H s xs ds c Q e1 st r q k=>by
  match ds,q,r with
  | [d,.ty T],q,r=>
   obtain⟨v,w,rfl,rv,rw'⟩:=jo r;rw[jq.mp rw'];have q:(match Zem d with | some n=>if Be.contains T then some (D.bl (n==T||(n == "bool" && T == "int")))else none | none=>none)=some c:=q
   cases e:Zem d with
   | none=>rw[e]at q;cases q
   | some n=>
    rw[e]at q;simp only at q;split at q
    ·rename_i hk
     cases q
     obtain⟨t1,t2⟩:=ZhZ (X:=X) e1 rv e;exact⟨v,n,T,rfl,t1,t2,by simpa using hk,k _ Hf H (.refl e1) st (je.mpr rfl) (.scal λz=>z)⟩
    ·cases q⟩
end
mutual
noncomputable def Zo:D->Bool
 | .non=>true
 | .bl _=>true
 | .int _=>true
 | .str _=>true
 | .tup ds=>Ym ds
 | .lst ds=>Ym ds
 | _=>false
noncomputable def Ym:List D->Bool
 | []=>true
 | d::ds=>Zo d&&Ym ds
end
mutual
noncomputable def Z4:D->Nat
 | .tup ds=>Y7 ds+1
 | .lst ds=>Y7 ds+1
 | _=>0
noncomputable def Y7:List D->Nat
 | []=>0
 | d::ds=>max (Z4 d) (Y7 ds)
end
theorem UZ:∀{ds:List D} {d:D},d∈ds->Z4 d<=Y7 ds
 | e::ds,d,h=>by
  rcases qq.mp h with rfl | h
  ·simp only[Y7];omega
  ·have:=UZ h
   simp only[Y7];omega
theorem Uq:∀{ds:List D} {d:D},Ym ds=true->d∈ds->Zo d=true
 | e::ds,d,n,h=>by
  have n':Zo e=true/\Ym ds=true:=by simpa[Ym]using n
  rcases qq.mp h with rfl | h
  ·exact n'.1
  ·exact Uq n'.2 h
mutual
noncomputable def ZA:D->D->Bool
 | .non,.non=>true
 | .bl a,.bl b=>a==b
 | .bl a,.int i=>(if a then 1 else 0)==i
 | .int i,.bl b=>i==(if b then 1 else 0)
 | .int i,.int j=>i==j
 | .str x,.str y=>x==y
 | .tup a,.tup b=>Xe a b
 | .lst a,.lst b=>Xe a b
 | _,_=>false
noncomputable def Xe:List D->List D->Bool
 | [],[]=>true
 | a::as,b::bs=>ZA a b&&Xe as bs
 | _,_=>false
end
mutual
theorem Zcq:∀d:D,Zo d=true->ZA d d=true
 | .non,_=>by simp[ZA]
 | .bl _,_=>by simp[ZA]
 | .int _,_=>by simp[ZA]
 | .str _,_=>by simp[ZA]
 | .tup ds,h=>by simp only[ZA];exact Zbw ds (by simpa[Zo]using h)
 | .lst ds,h=>by simp only[ZA];exact Zbw ds (by simpa[Zo]using h)
 | .dk _,h=>by simp[Zo]at h
 | .dt _,h=>by simp[Zo]at h
 | .du _,h=>by simp[Zo]at h
 | .df _,h=>by simp[Zo]at h
 | .pen,h=>by simp[Zo]at h
 | .ty _,h=>by simp[Zo]at h
 | .clo _ _,h=>by simp[Zo]at h
theorem Zbw:∀ds:List D,Ym ds=true->Xe ds ds=true
 | [],_=>by simp[Xe]
 | d::ds,h=>by
  have n':Zo d=true/\Ym ds=true:=by simpa[Ym]using h
  simp only[Xe,Zcq d n'.1,Zbw ds n'.2,Bool.and_self]
end
theorem Zcr:∀{a b:List D},Xe a b=true->a.length=b.length
 | [],[],_=>rfl
 | a::as,b::bs,h=>by
  have:ZA a b=true/\Xe as bs=true:=by simpa[Xe]using h
  simp[Zcr this.2]
 | [],_::_,h=>by simp[Xe]at h
 | _::_,[],h=>by simp[Xe]at h
theorem Za2:∀(a b:List D),a.length=b.length->(qp a.length).all (λj=>ZA (a.getD j .non) (b.getD j .non))=Xe a b
 | [],[],_=>rfl
 | a::as,b::bs,h=>by
  have h':as.length=bs.length:=by simpa using h
  rw[qB,y6,List.all_cons,List.all_map,Xe,<-Za2 as bs h'];rfl
 | [],_::_,h=>by simp at h
 | _::_,[],h=>by simp at h
theorem Ze8:∀(a b:List D),((qp (min a.length b.length)).all (λj=>ZA (a.getD j .non) (b.getD j .non))&&a.length==b.length)=Xe a b:=λa b=>by
 by_cases h:a.length=b.length
 ·rw[<-Za2 a b h,h];simp
 ·have:Xe a b=false:=by
   cases e:Xe a b with
   | false=>rfl
   | true=>exact absurd (Zcr e) h
  rw[this];simp[h]
mutual
theorem Zj.inj {G:Gh}{H:Hp}:∀{d e:D} {v:V},Zo d=true->Zo e=true->Zj G H d v->Zj G H e v->d=e
 | .non,e,v,_,pe,h,h'=>by
  rw[jg.mp h]at h'
  cases e <;> first | rfl | (simp[Zo]at pe;done) | (simp[Zj]at h')
 | .bl b,e,v,_,pe,h,h'=>by
  rw[je.mp h]at h'
  cases e <;> first | (simp[Zo]at pe;done) | (simp[Zj]at h';rw[h']) | (simp[Zj]at h')
 | .int b,e,v,_,pe,h,h'=>by
  rw[ja.mp h]at h'
  cases e <;> first | (simp[Zo]at pe;done) | (simp[Zj]at h';rw[h']) | (simp[Zj]at h')
 | .str b,e,v,_,pe,h,h'=>by
  rw[jh.mp h]at h'
  cases e <;> first | (simp[Zo]at pe;done) | (simp[Zj]at h';rw[h']) | (simp[Zj]at h')
 | .tup ds,e,v,pd,pe,h,h'=>by
  obtain⟨a,vs,rfl,n,q,r⟩:=jc.mp h
  cases e with
  | tup es=>
   obtain⟨a',vs',e',n',q',r'⟩:=jc.mp h'
   cases e'
   rw[q]at q';cases q';rw[Zi.inj (by simpa[Zo]using pd) (by simpa[Zo]using pe) r r']
  | lst es=>
   obtain⟨a',vs',e',n',q',r'⟩:=jb.mp h'
   cases e'
   rw[q]at q';cases q'
  | _=>first | (simp[Zj]at h';done) | (simp[Zo]at pe;done)
 | .lst ds,e,v,pd,pe,h,h'=>by
  obtain⟨a,vs,rfl,n,q,r⟩:=jb.mp h
  cases e with
  | lst es=>
   obtain⟨a',vs',e',n',q',r'⟩:=jb.mp h'
   cases e'
   rw[q]at q';cases q';rw[Zi.inj (by simpa[Zo]using pd) (by simpa[Zo]using pe) r r']
  | tup es=>
   obtain⟨a',vs',e',n',q',r'⟩:=jc.mp h'
   cases e'
   rw[q]at q';cases q'
  | _=>first | (simp[Zj]at h';done) | (simp[Zo]at pe;done)
 | .dk _,_,_,pd,_,_,_=>by simp[Zo]at pd
 | .dt _,_,_,pd,_,_,_=>by simp[Zo]at pd
 | .du _,_,_,pd,_,_,_=>by simp[Zo]at pd
 | .df _,_,_,pd,_,_,_=>by simp[Zo]at pd
 | .pen,_,_,pd,_,_,_=>by simp[Zo]at pd
 | .ty _,_,_,pd,_,_,_=>by simp[Zo]at pd
 | .clo _ _,_,_,pd,_,_,_=>by simp[Zo]at pd
theorem Zi.inj {G:Gh}{H:Hp}:∀{ds es:List D} {vs:List V},Ym ds=true->Ym es=true->Zi G H ds vs->Zi G H es vs->ds=es
 | [],es,vs,_,pe,h,h'=>by
  rw[Zi.nil_iff.mp h]at h'
  cases es with
  | nil=>rfl
  | cons e es=>obtain⟨v,r,e1,_⟩:=jd.mp h';cases e1
 | d::ds,es,vs,pd,pe,h,h'=>by
  obtain⟨v,r,rfl,r1,r2⟩:=jd.mp h;have pd':Zo d=true/\Ym ds=true:=by simpa[Ym]using pd
  cases es with
  | nil=>have:=Zi.nil_iff.mp h';cases this
  | cons e es=>
   obtain⟨v',r',e1,r1',r2'⟩:=jd.mp h'
   cases e1
   have pe':Zo e=true/\Ym es=true:=by simpa[Ym]using pe
   rw[Zj.inj pd'.1 pe'.1 r1 r1',Zi.inj pd'.2 pe'.2 r2 r2']
end
section
variable {X:Cx}{G:Gh}{jC:Qb}{σ:St}{Hf H:Hp}{s:Shared}
theorem JH (A:xA):A.in1.units=A.units+1:=rfl
theorem Zcd {ds:List D}{vs:List V}{us:List Value}(r:Zi G Hf ds vs)(rv:Zy vs us){j:Nat}(h:j<us.toArray.size):∃v,Zj G Hf (ds.getD j .non) v/\ZH v us.toArray[j]/\ds.getD j .non∈ds:=by
 have hl:j<ds.length:=by rw[r.length,rv.length];simpa using h
 have e:ds[j]?=some (ds.getD j .non):=by simp[qbz,hl]
 obtain⟨v,h1,h2⟩:=r.get e;obtain⟨u,h3,h4⟩:=rv.get h1;refine⟨v,h2,?_,?_⟩
 ·have:us.toArray[j]=u:=by
   have h':j<us.length:=by simpa using h
   have q:us[j]?=some us[j]:=by simp[h']
   rw[h3]at q;simpa using(zp q).symm
  rw[this];exact h4
 ·simp[qbz,hl]
theorem Zjf (I:Inv X jC σ H s)(e1:Zz G Hf H):∀(n:Nat) (A:xA) (d e:D) (x y:V) (u v:Value),Z4 d<=n->Z4 e<=n->A.units+n+1<cLine->Zo d=true->Zo e=true->Zj G Hf d x->Zj G Hf e y->ZH x u->ZH y v->
  qaP A s u v (ZA d e)/\qcQ A s u v (ZA d e)/\qca A s u v (!ZA d e):=by
 intro n
 induction n with
 | zero=>
  intro A d e x y u v hd he hu pd pe rd re ru rv;have hu':A.units<cLine:=by omega
  cases d with
  | tup ds=>simp[Z4]at hd
  | lst ds=>simp[Z4]at hd
  | dk _=>simp[Zo]at pd
  | dt _=>simp[Zo]at pd
  | du _=>simp[Zo]at pd
  | df _=>simp[Zo]at pd
  | pen=>simp[Zo]at pd
  | ty _=>simp[Zo]at pd
  | clo _ _=>simp[Zo]at pd
  | non=>
   rw[jg.mp rd]at ru
   cases (show u=zo from ru)
   cases e with
   | tup ds=>simp[Z4]at he
   | lst ds=>simp[Z4]at he
   | dk _=>simp[Zo]at pe
   | dt _=>simp[Zo]at pe
   | du _=>simp[Zo]at pe
   | df _=>simp[Zo]at pe
   | pen=>simp[Zo]at pe
   | ty _=>simp[Zo]at pe
   | clo _ _=>simp[Zo]at pe
   | non=>rw[jg.mp re]at rv;cases (show v=zo from rv);simp only[ZA];exact⟨.same _,.none_none,.none_none⟩
   | bl b=>rw[je.mp re]at rv;cases (show v=yP b from rv);simp only[ZA];exact⟨.none_bool b,.none_bool b,.none_bool b⟩
   | int b=>rw[ja.mp re]at rv;obtain⟨t,rfl⟩:=rv;simp only[ZA];exact⟨.none_int b t,.none_int b t,.none_int b t⟩
   | str b=>rw[jh.mp re]at rv;obtain⟨t,rfl⟩:=rv;simp only[ZA];exact⟨.none_str b t,.none_str b t,.none_str b t⟩
  | bl a=>
   rw[je.mp rd]at ru
   cases (show u=yP a from ru)
   cases e with
   | tup ds=>simp[Z4]at he
   | lst ds=>simp[Z4]at he
   | dk _=>simp[Zo]at pe
   | dt _=>simp[Zo]at pe
   | du _=>simp[Zo]at pe
   | df _=>simp[Zo]at pe
   | pen=>simp[Zo]at pe
   | ty _=>simp[Zo]at pe
   | clo _ _=>simp[Zo]at pe
   | non=>rw[jg.mp re]at rv;cases (show v=zo from rv);simp only[ZA];exact⟨.bool_none a,.bool_none a,.bool_none a⟩
   | bl b=>rw[je.mp re]at rv;cases (show v=yP b from rv);simp only[ZA];exact⟨.bool_bool a b,.bool_bool a b,.bool_bool a b⟩
   | int b=>rw[ja.mp re]at rv;obtain⟨t,rfl⟩:=rv;simp only[ZA];exact⟨.bool_int a b t,.bool_int a b t,.bool_int a b t⟩
   | str b=>rw[jh.mp re]at rv;obtain⟨t,rfl⟩:=rv;simp only[ZA];exact⟨.bool_str a b t,.bool_str a b t,.bool_str a b t⟩
  | int a=>
   rw[ja.mp rd]at ru;obtain⟨ta,rfl⟩:=ru
   cases e with
   | tup ds=>simp[Z4]at he
   | lst ds=>simp[Z4]at he
   | dk _=>simp[Zo]at pe
   | dt _=>simp[Zo]at pe
   | du _=>simp[Zo]at pe
   | df _=>simp[Zo]at pe
   | pen=>simp[Zo]at pe
   | ty _=>simp[Zo]at pe
   | clo _ _=>simp[Zo]at pe
   | non=>rw[jg.mp re]at rv;cases (show v=zo from rv);simp only[ZA];exact⟨.int_none a ta,.int_none a ta,.int_none a ta⟩
   | bl b=>rw[je.mp re]at rv;cases (show v=yP b from rv);simp only[ZA];exact⟨.int_bool a ta b,.int_bool a ta b,.int_bool a ta b⟩
   | int b=>rw[ja.mp re]at rv;obtain⟨t,rfl⟩:=rv;simp only[ZA];exact⟨.int_int a ta b t,.int_int a ta b t,.int_int a ta b t⟩
   | str b=>rw[jh.mp re]at rv;obtain⟨t,rfl⟩:=rv;simp only[ZA];exact⟨.int_str a ta b t,.int_str a ta b t,.int_str a ta b t⟩
  | str a=>
   rw[jh.mp rd]at ru;obtain⟨ta,rfl⟩:=ru
   cases e with
   | tup ds=>simp[Z4]at he
   | lst ds=>simp[Z4]at he
   | dk _=>simp[Zo]at pe
   | dt _=>simp[Zo]at pe
   | du _=>simp[Zo]at pe
   | df _=>simp[Zo]at pe
   | pen=>simp[Zo]at pe
   | ty _=>simp[Zo]at pe
   | clo _ _=>simp[Zo]at pe
   | non=>rw[jg.mp re]at rv;cases (show v=zo from rv);simp only[ZA];exact⟨.str_none a ta,.str_none a ta,.str_none a ta⟩
   | bl b=>rw[je.mp re]at rv;cases (show v=yP b from rv);simp only[ZA];exact⟨.str_bool a ta b,.str_bool a ta b,.str_bool a ta b⟩
   | int b=>rw[ja.mp re]at rv;obtain⟨t,rfl⟩:=rv;simp only[ZA];exact⟨.str_int a ta b t,.str_int a ta b t,.str_int a ta b t⟩
   | str b=>rw[jh.mp re]at rv;obtain⟨t,rfl⟩:=rv;simp only[ZA];exact⟨.str_str a ta b t,.str_str a ta b t,.str_str a ta b t⟩
 | succ n ih=>
  intro A d e x y u v hd he hu pd pe rd re ru rv;have hu':A.units<cLine:=by omega
  by_cases hs:Z4 d<=n/\Z4 e<=n
  ·exact ih A d e x y u v hs.1 hs.2 (by omega) pd pe rd re ru rv
  -- two refs
  have same:∀{l b:Addr},x=.ref l->y=.ref b->l=b->ZA d e=true:=λex ey el=>by
   subst ex ey el;have:=Zj.inj pd pe rd re;subst this;exact Zcq d pd
  cases d with
  | dk _=>simp[Zo]at pd
  | dt _=>simp[Zo]at pd
  | du _=>simp[Zo]at pd
  | df _=>simp[Zo]at pd
  | pen=>simp[Zo]at pd
  | ty _=>simp[Zo]at pd
  | clo _ _=>simp[Zo]at pd
  | tup ds=>
   obtain⟨l,vs,rfl,nl,hl,rl⟩:=jc.mp rd
   cases (show u=qT l from ru)
   obtain⟨jE,rits,pits,_⟩:=I.tuple (ZI.of (K:=X.K) (e1 _ _ nl hl));have il:s.heap.IsTuple l jE.toArray:=pits
   cases e with
   | dk _=>simp[Zo]at pe
   | dt _=>simp[Zo]at pe
   | du _=>simp[Zo]at pe
   | df _=>simp[Zo]at pe
   | pen=>simp[Zo]at pe
   | ty _=>simp[Zo]at pe
   | clo _ _=>simp[Zo]at pe
   | non=>rw[jg.mp re]at rv;cases (show v=zo from rv);simp only[ZA];exact⟨.tuple_none il hu',.tuple_none il hu',.tuple_none il hu'⟩
   | bl b=>rw[je.mp re]at rv;cases (show v=yP b from rv);simp only[ZA];exact⟨.tuple_bool b il hu',.tuple_bool b il hu',.tuple_bool b il hu'⟩
   | int b=>rw[ja.mp re]at rv;obtain⟨t,rfl⟩:=rv;simp only[ZA];exact⟨.tuple_int b t il hu',.tuple_int b t il hu',.tuple_int b t il hu'⟩
   | str b=>rw[jh.mp re]at rv;obtain⟨t,rfl⟩:=rv;simp only[ZA];exact⟨.tuple_str b t il hu',.tuple_str b t il hu',.tuple_str b t il hu'⟩
   | lst es=>
    obtain⟨b,ws,rfl,nb,hb,rb⟩:=jb.mp re
    cases (show v=qT b from rv)
    obtain⟨jW,ke,jU,_⟩:=I.list (ZF.of (K:=X.K) (e1 _ _ nb hb));simp only[ZA];exact⟨.tuple_list il jU.isList hu',.tuple_list il jU.isList hu',.tuple_list il jU.isList hu'⟩
   | tup es=>
    obtain⟨b,ws,rfl,nb,hb,rb⟩:=jc.mp re
    cases (show v=qT b from rv)
    obtain⟨jW,ke,jU,_⟩:=I.tuple (ZI.of (K:=X.K) (e1 _ _ nb hb));have ib:s.heap.IsTuple b jW.toArray:=jU;have hit:∀j (h1:j<jE.toArray.size) (h2:j<jW.toArray.size),qaP A.in1 s jE.toArray[j] jW.toArray[j] ((λj=>ZA (ds.getD j .non) (es.getD j .non)) j):=λj h1 h2=>by
     obtain⟨v1,a1,a2,a3⟩:=Zcd rl rits h1;obtain⟨v2,b1,b2,b3⟩:=Zcd rb ke h2;exact(ih A.in1 _ _ v1 v2 _ _ (zj (UZ a3) (by simp[Z4]at hd;omega)) (zj (UZ b3) (by simp[Z4]at he;omega)) (by rw[JH];omega)
      (Uq (by simpa[Zo]using pd) a3) (Uq (by simpa[Zo]using pe) b3) a1 b1 a2 b2).1
    have sz1:jE.toArray.size=ds.length:=by rw[rl.length,rits.length];simp
    have sz2:jW.toArray.size=es.length:=by rw[rb.length,ke.length];simp
    have rc:=qcQ.tuples (e:=λj=>ZA (ds.getD j .non) (es.getD j .non)) il ib hu' hit;have rn:=qca.tuples (e:=λj=>ZA (ds.getD j .non) (es.getD j .non)) il ib hu' hit;rw[sz1,sz2,Ze8]at rc rn;simp only[ZA];refine⟨?_,rc,rn⟩;by_cases hlb:l=b
    ·have q:=same rfl rfl hlb
     simp only[ZA]at q;subst hlb;rw[q];exact .same _
    ·exact .of_refs hlb rc
  | lst ds=>
   obtain⟨l,vs,rfl,nl,hl,rl⟩:=jb.mp rd
   cases (show u=qT l from ru)
   obtain⟨jE,rits,pits,_⟩:=I.list (ZF.of (K:=X.K) (e1 _ _ nl hl));have il:=pits.isList
   cases e with
   | dk _=>simp[Zo]at pe
   | dt _=>simp[Zo]at pe
   | du _=>simp[Zo]at pe
   | df _=>simp[Zo]at pe
   | pen=>simp[Zo]at pe
   | ty _=>simp[Zo]at pe
   | clo _ _=>simp[Zo]at pe
   | non=>rw[jg.mp re]at rv;cases (show v=zo from rv);simp only[ZA];exact⟨.list_none il hu',.list_none il hu',.list_none il hu'⟩
   | bl b=>rw[je.mp re]at rv;cases (show v=yP b from rv);simp only[ZA];exact⟨.list_bool b il hu',.list_bool b il hu',.list_bool b il hu'⟩
   | int b=>rw[ja.mp re]at rv;obtain⟨t,rfl⟩:=rv;simp only[ZA];exact⟨.list_int b t il hu',.list_int b t il hu',.list_int b t il hu'⟩
   | str b=>rw[jh.mp re]at rv;obtain⟨t,rfl⟩:=rv;simp only[ZA];exact⟨.list_str b t il hu',.list_str b t il hu',.list_str b t il hu'⟩
   | tup es=>
    obtain⟨b,ws,rfl,nb,hb,rb⟩:=jc.mp re
    cases (show v=qT b from rv)
    obtain⟨jW,ke,jU,_⟩:=I.tuple (ZI.of (K:=X.K) (e1 _ _ nb hb));have ib:s.heap.IsTuple b jW.toArray:=jU;simp only[ZA];exact⟨.list_tuple il ib hu',.list_tuple il ib hu',.list_tuple il ib hu'⟩
   | lst es=>
    obtain⟨b,ws,rfl,nb,hb,rb⟩:=jb.mp re
    cases (show v=qT b from rv)
    obtain⟨jW,ke,jU,_⟩:=I.list (ZF.of (K:=X.K) (e1 _ _ nb hb));have ib:=jU.isList;have hit:∀j (h1:j<jE.toArray.size) (h2:j<jW.toArray.size),qaP A.in1 s jE.toArray[j] jW.toArray[j] ((λj=>ZA (ds.getD j .non) (es.getD j .non)) j):=λj h1 h2=>by
     obtain⟨v1,a1,a2,a3⟩:=Zcd rl rits h1;obtain⟨v2,b1,b2,b3⟩:=Zcd rb ke h2;exact(ih A.in1 _ _ v1 v2 _ _ (zj (UZ a3) (by simp[Z4]at hd;omega)) (zj (UZ b3) (by simp[Z4]at he;omega)) (by rw[JH];omega)
      (Uq (by simpa[Zo]using pd) a3) (Uq (by simpa[Zo]using pe) b3) a1 b1 a2 b2).1
    have sz1:jE.toArray.size=ds.length:=by rw[rl.length,rits.length];simp
    have sz2:jW.toArray.size=es.length:=by rw[rb.length,ke.length];simp
    have key:qcQ A s (.ref l) (.ref b) (Xe ds es)/\qca A s (.ref l) (.ref b) (!Xe ds es):=by
     by_cases hsz:ds.length=es.length
     ·have rc:=qcQ.lists (e:=λj=>ZA (ds.getD j .non) (es.getD j .non)) il ib (by rw[sz1,sz2];exact hsz) hu' hit
      have rn:=qca.lists (e:=λj=>ZA (ds.getD j .non) (es.getD j .non)) il ib (by rw[sz1,sz2];exact hsz) hu' hit;rw[sz1,Za2 ds es hsz]at rc rn;exact⟨rc,rn⟩
     ·have hne:(jE.toArray.size != jW.toArray.size)=true:=by rw[sz1,sz2];simpa using hsz
      have hf:Xe ds es=false:=by
       cases e:Xe ds es with
       | false=>rfl
       | true=>exact absurd (Zcr e) hsz
      rw[hf];exact⟨.lists_lengths il ib hne hu',.lists_lengths il ib hne hu'⟩
    simp only[ZA];refine⟨?_,key.1,key.2⟩;by_cases hlb:l=b
    ·have q:=same rfl rfl hlb
     simp only[ZA]at q;subst hlb;rw[q];exact .same _
    ·exact .of_refs hlb key.1
  | non=>
   rw[jg.mp rd]at ru
   cases (show u=zo from ru)
   cases e with
   | tup es=>
    obtain⟨b,ws,rfl,nb,hb,rb⟩:=jc.mp re
    cases (show v=qT b from rv)
    obtain⟨jW,ke,jU,_⟩:=I.tuple (ZI.of (K:=X.K) (e1 _ _ nb hb));have ib:s.heap.IsTuple b jW.toArray:=jU;simp only[ZA];exact⟨.none_tuple ib hu',.none_tuple ib hu',.none_tuple ib hu'⟩
   | lst es=>
    obtain⟨b,ws,rfl,nb,hb,rb⟩:=jb.mp re
    cases (show v=qT b from rv)
    obtain⟨jW,ke,jU,_⟩:=I.list (ZF.of (K:=X.K) (e1 _ _ nb hb));have ib:=jU.isList;simp only[ZA];exact⟨.none_list ib hu',.none_list ib hu',.none_list ib hu'⟩
   | _=>simp[Z4]at hs
  | bl a=>
   rw[je.mp rd]at ru
   cases (show u=yP a from ru)
   cases e with
   | tup es=>
    obtain⟨b,ws,rfl,nb,hb,rb⟩:=jc.mp re
    cases (show v=qT b from rv)
    obtain⟨jW,ke,jU,_⟩:=I.tuple (ZI.of (K:=X.K) (e1 _ _ nb hb));have ib:s.heap.IsTuple b jW.toArray:=jU;simp only[ZA];exact⟨.bool_tuple a ib hu',.bool_tuple a ib hu',.bool_tuple a ib hu'⟩
   | lst es=>
    obtain⟨b,ws,rfl,nb,hb,rb⟩:=jb.mp re
    cases (show v=qT b from rv)
    obtain⟨jW,ke,jU,_⟩:=I.list (ZF.of (K:=X.K) (e1 _ _ nb hb));have ib:=jU.isList;simp only[ZA];exact⟨.bool_list a ib hu',.bool_list a ib hu',.bool_list a ib hu'⟩
   | _=>simp[Z4]at hs
  | int a=>
   rw[ja.mp rd]at ru;obtain⟨ta,rfl⟩:=ru
   cases e with
   | tup es=>
    obtain⟨b,ws,rfl,nb,hb,rb⟩:=jc.mp re
    cases (show v=qT b from rv)
    obtain⟨jW,ke,jU,_⟩:=I.tuple (ZI.of (K:=X.K) (e1 _ _ nb hb));have ib:s.heap.IsTuple b jW.toArray:=jU;simp only[ZA];exact⟨.int_tuple a ta ib hu',.int_tuple a ta ib hu',.int_tuple a ta ib hu'⟩
   | lst es=>
    obtain⟨b,ws,rfl,nb,hb,rb⟩:=jb.mp re
    cases (show v=qT b from rv)
    obtain⟨jW,ke,jU,_⟩:=I.list (ZF.of (K:=X.K) (e1 _ _ nb hb));have ib:=jU.isList;simp only[ZA];exact⟨.int_list a ta ib hu',.int_list a ta ib hu',.int_list a ta ib hu'⟩
   | _=>simp[Z4]at hs
  | str a=>
   rw[jh.mp rd]at ru;obtain⟨ta,rfl⟩:=ru
   cases e with
   | tup es=>
    obtain⟨b,ws,rfl,nb,hb,rb⟩:=jc.mp re
    cases (show v=qT b from rv)
    obtain⟨jW,ke,jU,_⟩:=I.tuple (ZI.of (K:=X.K) (e1 _ _ nb hb));have ib:s.heap.IsTuple b jW.toArray:=jU;simp only[ZA];exact⟨.str_tuple a ta ib hu',.str_tuple a ta ib hu',.str_tuple a ta ib hu'⟩
   | lst es=>
    obtain⟨b,ws,rfl,nb,hb,rb⟩:=jb.mp re
    cases (show v=qT b from rv)
    obtain⟨jW,ke,jU,_⟩:=I.list (ZF.of (K:=X.K) (e1 _ _ nb hb));have ib:=jU.isList;simp only[ZA];exact⟨.str_list a ta ib hu',.str_list a ta ib hu',.str_list a ta ib hu'⟩
   | _=>simp[Z4]at hs
end
section
variable {X:Cx}{G:Gh}
noncomputable def Vx (d e:D):Bool:=Zo d&&Zo e&&decide (Z4 d<=60)&&decide (Z4 e<=60)
theorem ZdD {d e:D}(h:Vx d e=true):Zo d=true/\Zo e=true/\Z4 d<=60/\Z4 e<=60:=by
 simp only[Vx,zi,decide_eq_true_eq]at h;exact⟨h.1.1.1,h.1.1.2,h.1.2,h.2⟩
noncomputable def YD (d e:D):Option D:=if Vx d e=true then some (.bl (ZA d e))else none
noncomputable def XC (d e:D):Option D:=if Vx d e=true then some (.bl (!ZA d e))else none
noncomputable def rEqD (G:Gh)(neg:Bool):R2:=λx y H Q=>∃Hf d e,Zz G Hf H/\Vx d e=true/\Zj G Hf d x/\Zj G Hf e y/\Q (.bl (if neg then !ZA d e else ZA d e)) H
theorem ZmP (hu:X.A.units+64<cLine):Z7 X (xk .Eq) (rEqD G false):=by
 intro jC s σ H x y v u Q I rx ry h;obtain⟨Hf,d,e,e1,ok,rd,re,q⟩:=h;obtain⟨o1,o2,o3,o4⟩:=ZdD ok;exact(Zjf I e1 60 X.A d e x y v u o3 o4 (by omega) o1 o2 rd re rx ry).2.1 _ _ _ _ ⟨.bl (ZA d e),H,I,rfl,q⟩
theorem ZmQ (hu:X.A.units+64<cLine):Z7 X (xk .NotEq) (rEqD G true):=by
 intro jC s σ H x y v u Q I rx ry h;obtain⟨Hf,d,e,e1,ok,rd,re,q⟩:=h;obtain⟨o1,o2,o3,o4⟩:=ZdD ok;exact(Zjf I e1 60 X.A d e x y v u o3 o4 (by omega) o1 o2 rd re rx ry).2.2 _ _ _ _ ⟨.bl (!ZA d e),H,I,rfl,q⟩
theorem VL (hu:X.A.units+64<cLine):Y0 X G (xk .Eq) YD:=
 ⟨_,ZmP (G:=G) hu,λHf H s x y d e c Q e1 st rx ry q k=>by
  unfold YD at q;split at q
  ·rename_i ok
   cases q
   exact⟨Hf,d,e,e1,ok,rx,ry,k _ Hf H (.refl e1) st (je.mpr rfl) (.scal λz=>z)⟩
  ·cases q⟩
theorem UB (hu:X.A.units+64<cLine):Y0 X G (xk .NotEq) XC:=
 ⟨_,ZmQ (G:=G) hu,λHf H s x y d e c Q e1 st rx ry q k=>by
  unfold XC at q;split at q
  ·rename_i ok
   cases q
   exact⟨Hf,d,e,e1,ok,rx,ry,k _ Hf H (.refl e1) st (je.mpr rfl) (.scal λz=>z)⟩
  ·cases q⟩
noncomputable def XJ (x:D)(ds:List D):Bool:=Zo x&&Ym ds&&decide (Z4 x<=60)&&decide (Y7 ds<=60)
noncomputable def XS (x:D)(ds:List D):Bool:=ds.any λd=>ZA d x
theorem Zh1 {x:D}{ds:List D}(h:XJ x ds=true):Zo x=true/\Ym ds=true/\Z4 x<=60/\Y7 ds<=60:=by
 simp only[XJ,zi,decide_eq_true_eq]at h;exact⟨h.1.1.1,h.1.1.2,h.1.2,h.2⟩
open Classical in
noncomputable def UL (G:Gh)(Hf:Hp)(x:D)(u:Value):Bool:=if h:∃d v,Zo d=true/\Zj G Hf d v/\ZH v u then ZA h.choose x else false
theorem Zhe {Hf:Hp}{x d:D}{v:V}{u:Value}(pd:Zo d=true)(r:Zj G Hf d v)(ru:ZH v u):UL G Hf x u=ZA d x:=by
 have h:∃d v,Zo d=true/\Zj G Hf d v/\ZH v u:=⟨d,v,pd,r,ru⟩;unfold UL;rw[dif_pos h];obtain⟨v',p',r',ru'⟩:=h.choose_spec;have ev:v'=v:=ZH.inj ru' ru;subst ev;rw[Zj.inj p' pd r' r]
theorem Ze9 {Hf:Hp}{x:D}:∀{ds:List D} {vs:List V} {us:List Value},Ym ds=true->Zi G Hf ds vs->Zy vs us->us.any (UL G Hf x)=XS x ds
 | [],vs,us,_,r,rv=>by
  rw[Zi.nil_iff.mp r]at rv
  cases rv
  rfl
 | d::ds,vs,us,p,r,rv=>by
  obtain⟨v,rr,rfl,r1,r2⟩:=jd.mp r;have p':Zo d=true/\Ym ds=true:=by simpa[Ym]using p
  cases rv with
  | cons a b=>
   rw[qaB,Zhe p'.1 r1 a,Ze9 p'.2 r2 b];rfl
theorem Zfa {Hf:Hp}:∀{ds:List D} {vs:List V} {us:List Value} {u:Value},Zi G Hf ds vs->Zy vs us->u∈us->∃d v,d∈ds/\Zj G Hf d v/\ZH v u
 | [],vs,us,u,r,rv,m=>by
  rw[Zi.nil_iff.mp r]at rv
  cases rv
  simp at m
 | d::ds,vs,us,u,r,rv,m=>by
  obtain⟨v,rr,rfl,r1,r2⟩:=jd.mp r
  cases rv with
  | cons a b=>
   rcases qq.mp m with e | m
   ·subst e;exact⟨d,v,by simp,r1,a⟩
   ·obtain⟨d',v',m',h1,h2⟩:=Zfa r2 b m
    exact⟨d',v',by simp[m'],h1,h2⟩
noncomputable def rInD (G:Gh)(neg:Bool):R2:=λx y H Q=>∃Hf d ds,Zz G Hf H/\XJ d ds=true/\Zj G Hf d x/\(Zj G Hf (.lst ds) y∨Zj G Hf (.tup ds) y)/\Q (.bl (if neg then !XS d ds else XS d ds)) H
theorem Zce {jC:Qb}{s:Shared}{σ:St}{Hf H:Hp}{d:D}{ds:List D}{x:V}{v:Value}{vs:List V}{jE:List Value}(hu:X.A.units+64<cLine)(I:Inv X jC σ H s)(e1:Zz G Hf H)(ok:XJ d ds=true)(rd:Zj G Hf d x)(rx:ZH x v)
  (rl:Zi G Hf ds vs) (rv:Zy vs jE):(∀y,y∈jE.toArray->qaP X.A.in1 s y v (UL G Hf d y))/\jE.toArray.any (UL G Hf d)=XS d ds:=by
 obtain⟨o1,o2,o3,o4⟩:=Zh1 ok;refine⟨λy hy=>?_,?_⟩
 ·obtain⟨c,w,m,h1,h2⟩:=Zfa rl rv (by simpa using hy)
  rw[Zhe (Uq o2 m) h1 h2];exact(Zjf I e1 60 X.A.in1 c d w x y v (zj (UZ m) o4) o3 (by rw[JH];omega) (Uq o2 m) o1 h1 rd h2 rx).1
 ·rw[show jE.toArray.any (UL G Hf d)=jE.any (UL G Hf d) by simp,Ze9 o2 rl rv]
theorem ZmR (hu:X.A.units+64<cLine):Z7 X (xk .In) (rInD G false):=by
 intro jC s σ H x y v u Q I rx ry h;obtain⟨Hf,d,ds,e1,ok,rd,hl,q⟩:=h;rcases hl with hl | hl
 ·obtain⟨p,vs,rfl,np,hp,rp⟩:=jb.mp hl
  cases (show u=qT p from ry)
  obtain⟨jE,rv,pl,hz⟩:=I.list (ZF.of (K:=X.K) (e1 _ _ np hp));obtain⟨c1,c2⟩:=Zce hu I e1 ok rd rx rp rv;refine SeqAt.in_listAt _ pl.isList c1 ⟨.bl _,H,I,rfl,?_⟩;rw[c2];exact q
 ·obtain⟨p,vs,rfl,np,hp,rp⟩:=jc.mp hl
  cases (show u=qT p from ry)
  obtain⟨jE,rv,pl,hz⟩:=I.tuple (ZI.of (K:=X.K) (e1 _ _ np hp));obtain⟨c1,c2⟩:=Zce hu I e1 ok rd rx rp rv;refine SeqAt.in_tupleAt _ pl c1 ⟨.bl _,H,I,rfl,?_⟩;rw[c2];exact q
theorem Zh2 (hu:X.A.units+64<cLine):Z7 X (xk .NotIn) (rInD G true):=by
 intro jC s σ H x y v u Q I rx ry h;obtain⟨Hf,d,ds,e1,ok,rd,hl,q⟩:=h;rcases hl with hl | hl
 ·obtain⟨p,vs,rfl,np,hp,rp⟩:=jb.mp hl
  cases (show u=qT p from ry)
  obtain⟨jE,rv,pl,hz⟩:=I.list (ZF.of (K:=X.K) (e1 _ _ np hp));obtain⟨c1,c2⟩:=Zce hu I e1 ok rd rx rp rv;refine SeqAt.notIn_listAt _ pl.isList c1 ⟨.bl _,H,I,rfl,?_⟩;rw[c2];exact q
 ·obtain⟨p,vs,rfl,np,hp,rp⟩:=jc.mp hl
  cases (show u=qT p from ry)
  obtain⟨jE,rv,pl,hz⟩:=I.tuple (ZI.of (K:=X.K) (e1 _ _ np hp));obtain⟨c1,c2⟩:=Zce hu I e1 ok rd rx rp rv;refine SeqAt.notIn_tupleAt _ pl c1 ⟨.bl _,H,I,rfl,?_⟩;rw[c2];exact q
end
theorem Zh3:typeLookup (.type "list") "keys" = pure none:=by rw[typeLookup_type,builtinLookup_eq_fast];kernel_rfl
theorem Zai:entryFor table "dict.update.loop" = some Builtin.«dict.update.loop»:=entryFor_of_tree (by kernel_rfl)
theorem BF:plainId "dict.update.loop" = true:=by decide +kernel
theorem Za3 {prog:xz}{w:World}{A:xA}{E:xB}{s:Shared}{a:Addr}{o:Obj}{xs:Array Value}{k:Nat}{Q:Option Value->Shared->Prop}
  (hx:s.heap.get? a=some o) (hc:o.cls=.type "list") (hdat:o.data=.seq xs k) (hd:o.dict=none) (hA:A.handled=none)
  (h:∀h' tk,(∀b o,s.heap.get? b=some o->h'.get? b=some o)->Q none { s with heap:=h',toks:=tk }) :
  xf (xw prog w) A (getAttr? (.ref a) "keys") Q E s:=by
 have hmiss:=Zh3;have hname:(["__module__","__name__","__qualname__","__doc__","__annotations__"]:List Str).contains ("keys" : Str)=false:=by decide +kernel
 have hsz:("keys" : Str).length+100<=xg:=by decide +kernel
 obtain⟨c,dct,dat,sl⟩:=o;simp only at hc hdat hd;subst hc hdat hd;obtain⟨hp,g,d,tk,os⟩:=s;have hT:∀tk',(⟨hp,g,d,tk',os⟩:Shared).TypeIs (.ref a) "list":=λ_=>⟨_,hx,rfl⟩;have f1:=sub_AttributeError;have f3:=qa5.lookup;have f4:=qa5.bind (.ref a);have f5:=am_list_getattr_none;unfold getAttr? getAttrBy?;refine xa ?_;refine wpAny_mkText ?_;refine xa (wpAny_attempt ?_);unfold getAttrBy
 repeat (any_goals (first | assumption | exact hT _ | ((with_reducible show xf _ _ (call (Value.builtin "list.__getattribute__") _ _) _ _ _);refine call_meets qa5 (hT _) am_entry_list_getattribute (F.args_list_getattribute_2 _ _) (meets_getattribute_miss_list a xs k sl "keys" _ hmiss hname hsz) ⟨hx,hA,λh' tk' e hx'=>?_⟩) | wp_step))
 obtain⟨t',u',he⟩:=hx'.there;have hTe:∀tk',(⟨h',g,d,tk',os⟩:Shared).TypeIs (.ref e) "AttributeError":=λ_=>⟨_,he,rfl⟩;have fin:∀tk',xf (xw prog w) A (do
   let b<-isInstance (.ref e) (.type "AttributeError")
   if b=true then pure none else throw (.ref e)) Q E ⟨h',g,d,tk',os⟩:=λtk'=>by
  refine xa (wpAny_isInstance (hTe _) f1 ?_);simp only[if_true];exact xb (h h' tk' hx'.of.keeps)
 show xf _ _ (getattributeRaised _ _ _ _ _ _ _) _ _ _;unfold getattributeRaised
 repeat (any_goals (first | assumption | exact fin _ | wp_step))
section
variable {X:Cx}{jC:Qb}{σ:St}{H:Hp}{s:Shared}{A:xA}{E:xB}{a:Addr}{y v:V}{u r:Value}
theorem Zh4 {H':Hp}{Q:Unit->Shared->Prop}(hu:A.units<cLine)(I:Inv X jC σ H s)(g:WP H a y v H')(ry:ZH y u)(rv:ZH v r)(h:∀s',Inv X jC σ H' s'->Q () s') :
  xf (xw X.prog X.w) A (dictSet a u r) Q E s:=by
 rcases g with⟨kvs,k,e,ey,l,eH⟩ | ⟨kvs,k,b,e,ey,eb,l,eH⟩
 ·subst ey eH
  obtain⟨z,hd,vs,rel,dd⟩:=Zl0 I.hok e;have hz:vs.length<=xg:=by rw[<-rel.length];exact z
  have hl:(Yo kvs k v).length<=xg:=by have:=Uk kvs k v;omega
  refine wpAny_dictSet_pairs (hsz:=hz) (Bc ry) dd λh' dd' hs=>h _ ?_;have he:∃q,h'.get? a=some q:=let ⟨q,_,_,hq,_⟩:=dd';⟨q,hq⟩;exact Zcb I (by rw[e];exact y4) hs he (Zi4 hl hd (rel.put k rv) dd')
 ·subst ey eH
  cases (show u=qT b from ry)
  obtain⟨z,hd,xs,rel,dd⟩:=Zl1 I.hok e;have hz:xs.length<=xg:=by rw[<-qaA rel];exact z
  have hl:(Yo kvs k v).length<=xg:=by have:=Uk kvs k v;omega
  refine wpAny_dictSet_heap (hsz:=hz) (knd:=tupleKind (Wa X.prog X.w)) hu (J6 I.hok eb) dd λh' dd' hs=>h _ ?_;obtain⟨q,es,ep,hq,h2,h3,h4,_,h5⟩:=dd';refine Zcb I (by rw[e];exact y4) hs ⟨q,hq⟩ ⟨hl,hd,_,(rel.put k eb rv).keeps λc ys ec=>?_,q,es,ep,hq,h2,h3,h4,h5⟩;rw[Zx (ZlV ec e (λz=>nomatch z))];exact ec
end
section
variable {X:Cx}{jC:Qb}{σ:St}
inductive Puts (d:Addr):Hp->List V->Hp->Prop
 | nil {H:Hp}:Puts d H [] H
 | cons {H H1 H2:Hp} {b:Addr} {k v:V} {r:List V}:H b=some (.tup [k,v])->WP H d k v H1->Puts d H1 r H2->Puts d H (.ref b::r) H2
theorem Zjg {d l it:Addr}{vs:List V}{E:xB}{Q:Shared->Prop}{H':Hp}{A:xA}(hA:A.handled=none)(hu:A.units+1<cLine)
  (hQ:∀s',Inv X jC σ H' s'->Q s') (hfp:∀Hx:Hp,Hx it=none->Ws X jC Hx it) :
  ∀(k i:Nat) (s:Shared) (H:Hp),vs.length-i=k->i<=vs.length->Inv X jC σ H s->H it=none->s.heap.IsListIter it l i->H l=some (.lst vs)->l≠d->(∀Hx Hy y v,WP Hx d y v Hy->Hx l=some (.lst vs)->Hy l=some (.lst vs))->Puts d H (vs.drop i) H'->
   xo (xw X.prog X.w) A (.builtin "dict.update.loop" ⟨[.ref d,.ref it,rawInt i,.none],[]⟩) (wants (λr s₂=>r=.none/\Q s₂) E) s:=by
 intro k
 induction k with
 | zero=>
  intro i s H hk hi I hit st hl hne hkeep hp;have hil:i=vs.length:=by omega
  obtain⟨jE,rv,pl,hz⟩:=I.list (ZF.of (K:=X.K) hl);refine xm Zai ?_;rw[yr BF _];show xf _ A.in1 (pyNext (.ref it) >>= _) _ _ s;obtain⟨f0,f1,f2,f3,f4,f5⟩:=hfp H hit;have jM:=rv.length;refine xa (wpAny_pyNext_list_end (A:=A.in1) hA st pl.isList (by simp;omega) λh' eb=>?_);have I2:Inv X jC σ H { s with heap:=h' }:=I.turned (t':=s.toks) (λb o hb e=>eb b o hb e) f0 f1 f3 f4 f5;have e0:vs.drop i=[]:=by rw[hil];simp
  rw[e0]at hp
  cases hp
  show xf _ _ (Builtin.Dict.addKeywords d [] >>= _) _ _ _;refine xa (xb ?_);exact xb ⟨rfl,hQ _ I2⟩
 | succ k ih=>
  intro i s H hk hi I hit st hl hne hkeep hp;have hlt:i<vs.length:=by omega
  obtain⟨jE,rv,pl,hz⟩:=I.list (ZF.of (K:=X.K) hl);have jM:=rv.length;refine xm Zai ?_;rw[yr BF _];show xf _ A.in1 (pyNext (.ref it) >>= _) _ _ s;obtain⟨f0,f1,f2,f3,f4,f5⟩:=hfp H hit;have hd:vs.drop i=vs[i]::vs.drop (i+1):=qan hlt;rw[hd]at hp;generalize hvi:vs[i]=x at hp;generalize hrest:vs.drop (i+1)=rest at hp
  cases hp with
  | @cons _ H1 _ b k0 v0 _ hb hput hrec=>
   have gx:vs[i]?=some (.ref b):=by rw[qD hlt,hvi]
   obtain⟨u,hu1,ru⟩:=rv.get gx
   cases (show u=qT b from ru)
   refine xa (wpAny_pyNext_list_item (A:=A.in1) st pl.isList (x:=.ref b) (by simpa using hu1) λh' st' sb=>?_);have I1:Inv X jC σ H { s with heap:=h' }:=I.turned (t':=s.toks) (λc o hc e=>(sb.2 c hc).trans e) f0 f1 f3 f4 f5;obtain⟨jW,rv2,pt,_⟩:=I1.tuple (ZI.of (K:=X.K) hb);obtain⟨ku,vu,e2,rk,rvv⟩:=rv2.two;subst e2;obtain⟨o,ho,hoc,n,hod⟩:=id pt;show xf _ _ (holding [qT b] _ >>= _) _ _ _;refine xa (xt ?_);refine xa (wpAny_tryCatch ?_);unfold Builtin.Dict.pairItems;refine xa (wpAny_typeOf (T:="tuple") ⟨o,ho,hoc⟩ ?_);rw[if_pos (by decide)];refine xa (xr ho hod ?_);refine xb ?_;show xf _ _ (holding [ku,vu] (dictSet d ku vu)) _ _ _;refine xt ?_;obtain⟨oi,hoi,ci,di⟩:=id st';have Ip:=I1.pinned (fp:=[it]) (λc hc=>by
    have e:c=it:=by simpa using hc
    subst e;exact hfp H hit) (λc hc=>by
    have e:c=it:=by simpa using hc
    subst e;exact⟨oi,hoi,λw z=>by rw[di]at z;cases z⟩)
   refine Zh4 (by rw[JH];exact hu) Ip hput rk rvv λs2 I2=>?_;have pit:=I2.pin (it,oi) (zg _ (zg _ (UU (by simp) hoi)));have ec:((i:Int)+1)=((i+1:Nat):Int):=by push_cast;rfl
   show xf _ _ (again (.builtin "dict.update.loop" ⟨[.ref d,.ref it,rawInt ((i:Int)+1),.none],[]⟩)) _ _ _;rw[ec];refine xb ⟨plainId_quiet BF _,?_⟩;refine ih (i+1) s2 H1 (by omega) hlt I2.unpinned pit.2.1 ⟨oi,pit.1,ci,di⟩ (hkeep _ _ _ _ hput hl) hne hkeep ?_;rw[hrest];exact hrec
theorem Zcs (hc:X.calm=true)(hu:X.A.units+64<cLine)(tk:Bool):Xb X (.type "dict") (λxs H Q=>∃l vs,xs=[.ref l]/\H l=some (.lst vs)/\∀p,H p=none->∃H',Puts p (Zl H p (if tk then .dT []else .dK [])) vs H'/\Q (.ref p) H'):=by
 intro jC s σ H xs us Q I r h;obtain⟨l,vs,rfl,hl,q⟩:=h;obtain⟨u,rfl,ru⟩:=XU r
 cases (show u=qT l from ru)
 obtain⟨H',puts,q'⟩:=q s.heap.objs.size (I.hok.fresh (qm _));have hA:=I.ok.hd hc;refine callType_codes (Q₁:=λobj s₁=>obj=.ref s.heap.objs.size/\s₁ = { s with heap:=s.heap.push { cls:=.type "dict",data:=.dict #[] } }) F.kt_called_dict (F.kt_typeCall_dict_1 _) F.entry_dict_init (kt_code_dict_new _ ⟨rfl,rfl⟩) ?_;rintro obj s₁ ⟨rfl,rfl⟩;have hbig:=I.big;have I1:Inv X jC σ (Zl H s.heap.objs.size (if tk then .dT []else .dK [])) { s with heap:=s.heap.push { cls:=.type "dict",data:=.dict #[] } }:=
  I.laid (t':=s.toks) (λb o e=>qf _ e) (qm _) (by
   cases tk
   ·exact Zi5 s.heap hbig
   ·exact Ze2 s.heap hbig)
 have hnew:(s.heap.push { cls:=.type "dict",data:=.dict #[] }).get? s.heap.objs.size=some { cls:=.type "dict",data:=.dict #[] }:=qI _ rfl;have hTd:({ s with heap:=s.heap.push { cls:=.type "dict",data:=.dict #[] } }:Shared).TypeIs (.ref s.heap.objs.size) "dict":=⟨_,hnew,rfl⟩;have hld:l≠s.heap.objs.size:=Yq hl (I.hok.fresh (qm _));have hl1:(Zl H s.heap.objs.size (if tk then HO.dT []else HO.dK [])) l=some (.lst vs):=by rw[Zx hld];exact hl
 obtain⟨zz,jE,n,rits,hlo⟩:=(show Yn X.prog X.w _ _ l (.lst vs)from I1.hok l _ hl1);refine⟨hTd,F.args_dict_init_2 _ _,?_⟩;unfold Builtin.«dict.__init__»;refine xa ?_;unfold Builtin.Dict.selfAndRest;refine xa (wpAny_notOrdered_dict hTd ?_);show xf _ _ (pure (s.heap.objs.size,[qT l])) _ _ _;refine xb ?_;show xf _ _ (qcm "dict.__init__" s.heap.objs.size (.ref l) [] .none) _ _ _;unfold qcm;have hTl:({ s with heap:=s.heap.push { cls:=.type "dict",data:=.dict #[] } }:Shared).TypeIs (.ref l) "list":=⟨_,hlo,rfl⟩;refine xa (wpAny_typeOf hTl ?_);rw[if_pos (by decide)];refine xa (Za3 hlo rfl rfl rfl hA λh2 tk2 kp2=>?_);simp only[Option.isNone_none,if_true];refine xa (wpAny_rule ?_);have I2:Inv X jC σ (Zl H s.heap.objs.size (if tk then .dT []else .dK [])) { s with heap:=h2,toks:=tk2 }:=I1.kept kp2;obtain⟨its',rv',pl',hz'⟩:=I2.list (ZF.of (K:=X.K) hl1);refine xa (wpAny_pyIter_list pl'.isList ?_);refine xb ⟨plainId_quiet BF _,?_⟩;have I3:Inv X jC σ (Zl H s.heap.objs.size (if tk then .dT []else .dK [])) { s with heap:=h2.push { cls:=.type "list_iterator",data:=.fields #[.ref l,.int 0 0] },toks:=tk2 }:=I2.kept (t':=tk2) λb o e=>qf _ e;have hfresh:(Zl H s.heap.objs.size (if tk then HO.dT []else HO.dK [])) h2.objs.size=none:=I2.hok.fresh (qm _);have hst:(h2.push { cls:=.type "list_iterator",data:=.fields #[.ref l,.int 0 0] }).IsListIter h2.objs.size l 0:=⟨_,qI _ rfl,rfl,rfl⟩;refine Zjg (l:=l) (vs:=vs) (H':=H') (A:=X.A.in1) (jC:=jC) (σ:=σ) hA (by rw[JH];omega) (λs' I'=>⟨.ref s.heap.objs.size,H',I',rfl,q'⟩) (λHx hn=>I2.fpOk (qm _) hn) vs.length 0 _ _ rfl (zy _) I3 hfresh hst hl1 hld ?_ puts;intro Hx Hy y v hput hxl;rcases hput with⟨kvs,k,e,ey,l',eH⟩ | ⟨kvs,k,b,e,ey,eb,l',eH⟩
 ·subst eH;rw[Zx hld];exact hxl
 ·subst eH;rw[Zx hld];exact hxl
end
section
variable {X:Cx}{G:Gh}
noncomputable def Vs:D->Option Zu
 | .int i=>some (.inl i)
 | .str x=>some (.inr x)
 | _=>none
noncomputable def XI:List D->Option (List Zu)
 | []=>some []
 | d::ds=>match Vs d,XI ds with | some k,some ks=>some (k::ks) | _,_=>none
noncomputable def Wq:D->Option V
 | .int i=>some (.int i)
 | .bl b=>some (.bl b)
 | .str x=>some (.str x)
 | .non=>some .non
 | _=>none
theorem Zbx {H:Hp}{d:D}{v:V}{k:Zu}(h:Vs d=some k)(r:Zj G H d v):v=kV k:=by
 cases d with
 | int i=>cases h;rw[ja.mp r];rfl
 | str i=>cases h;rw[jh.mp r];rfl
 | _=>cases h
theorem JB {H:Hp}:∀{ds:List D} {vs:List V} {ks:List Zu},XI ds=some ks->Zi G H ds vs->vs=ks.map kV
 | [],vs,ks,h,r=>by cases h;exact Zi.nil_iff.mp r
 | d::ds,vs,ks,h,r=>by
  obtain⟨v,rr,rfl,r1,r2⟩:=jd.mp r;unfold XI at h
  cases e1:Vs d with
  | none=>rw[e1]at h;cases h
  | some k=>
   cases e2:XI ds with
   | none=>rw[e1,e2]at h;cases h
   | some ks'=>
    rw[e1,e2]at h
    cases h
    rw[Zbx e1 r1,JB e2 r2];rfl
theorem Zby {H:Hp}{d:D}{v w:V}(h:Wq d=some w)(r:Zj G H d v):v=w:=by
 cases d with
 | int i=>cases h;exact ja.mp r
 | str i=>cases h;exact jh.mp r
 | bl i=>cases h;exact je.mp r
 | non=>cases h;exact jg.mp r
 | _=>cases h
noncomputable def Zhf:D->Option (List Zu×V)
 | .tup [.tup ks,v]=>match XI ks,Wq v with | some k,some w=>some (k,w) | _,_=>none
 | _=>none
noncomputable def Zjh:D->Option (Zu×V)
 | .tup [k,v]=>match Vs k,Wq v with | some k,some w=>some (k,w) | _,_=>none
 | _=>none
noncomputable def W5:List (List Zu×V)->List D->Option (List (List Zu×V))
 | jH,[]=>some jH
 | jH,d::ds=>match Zhf d with | some (k,v)=>W5 (Yo jH k v) ds | none=>none
noncomputable def WM:List (Zu×V)->List D->Option (List (Zu×V))
 | jH,[]=>some jH
 | jH,d::ds=>match Zjh d with | some (k,v)=>WM (Yo jH k v) ds | none=>none
theorem Zgg {d:D}{k:List Zu}{v:V}(h:Zhf d=some (k,v)):∃ks w,d=.tup [.tup ks,w]/\XI ks=some k/\Wq w=some v:=by
 match d,h with
 | .tup [.tup ks,w],h=>
  have h':(match XI ks,Wq w with | some k,some w=>some (k,w) | _,_=>none)=some (k,v):=h
  cases e1:XI ks with
  | none=>rw[e1]at h';cases h'
  | some k'=>
   cases e2:Wq w with
   | none=>rw[e1,e2]at h';cases h'
   | some w'=>rw[e1,e2]at h';cases h';exact⟨ks,w,rfl,e1,e2⟩
theorem Zgh {d:D}{k:Zu}{v:V}(h:Zjh d=some (k,v)):∃ks w,d=.tup [ks,w]/\Vs ks=some k/\Wq w=some v:=by
 match d,h with
 | .tup [ks,w],h=>
  have h':(match Vs ks,Wq w with | some k,some w=>some (k,w) | _,_=>none)=some (k,v):=h
  cases e1:Vs ks with
  | none=>rw[e1]at h';cases h'
  | some k'=>
   cases e2:Wq w with
   | none=>rw[e1,e2]at h';cases h'
   | some w'=>rw[e1,e2]at h';cases h';exact⟨ks,w,rfl,e1,e2⟩
theorem Zji {Hf H:Hp}{p:Addr}(e1:Zz G Hf H)(hp:H p=none):∀{ds:List D} {vs:List V} {jH res:List (List Zu×V)},Zi G Hf ds vs->W5 jH ds=some res->jH.length+ds.length<=xg->Puts p (Zl H p (.dT jH)) vs (Zl H p (.dT res))
 | [],vs,jH,res,r,h,_=>by
  rw[Zi.nil_iff.mp r]
  cases h
  exact .nil
 | d::ds,vs,jH,res,r,h,hl=>by
  obtain⟨v,rr,rfl,r1,r2⟩:=jd.mp r;unfold W5 at h
  cases e:Zhf d with
  | none=>rw[e]at h;cases h
  | some kv=>
   obtain⟨k,w⟩:=kv;rw[e]at h;have h:W5 (Yo jH k w) ds=some res:=h;obtain⟨ks,wd,rfl,q1,q2⟩:=Zgg e;obtain⟨b,ws,rfl,nb,hb,rb⟩:=jc.mp r1;obtain⟨v1,v2,rfl,rk,rv⟩:=jo rb;obtain⟨c,cs,rfl,nc,hcx,rc⟩:=jc.mp rk;have ec:=JB q1 rc;subst ec;have ev:=Zby q2 rv;subst ev;have hb':=e1 _ _ nb hb;have hc':=e1 _ _ nc hcx;have ll:=Uk jH k v2;have hl':jH.length+(ds.length+1)<=xg:=by simpa using hl
   refine .cons (by rw[Zx (Yq hb' hp)];exact hb') (WP.t (k:=k) ZW (by rw[Zx (Yq hc' hp)];exact hc') (by omega)) ?_;rw[Zea];exact Zji e1 hp r2 h (by omega)
theorem Zjj {Hf H:Hp}{p:Addr}(e1:Zz G Hf H)(hp:H p=none):∀{ds:List D} {vs:List V} {jH res:List (Zu×V)},Zi G Hf ds vs->WM jH ds=some res->jH.length+ds.length<=xg->Puts p (Zl H p (.dK jH)) vs (Zl H p (.dK res))
 | [],vs,jH,res,r,h,_=>by
  rw[Zi.nil_iff.mp r]
  cases h
  exact .nil
 | d::ds,vs,jH,res,r,h,hl=>by
  obtain⟨v,rr,rfl,r1,r2⟩:=jd.mp r;unfold WM at h
  cases e:Zjh d with
  | none=>rw[e]at h;cases h
  | some kv=>
   obtain⟨k,w⟩:=kv;rw[e]at h;have h:WM (Yo jH k w) ds=some res:=h;obtain⟨ks,wd,rfl,q1,q2⟩:=Zgh e;obtain⟨b,ws,rfl,nb,hb,rb⟩:=jc.mp r1;obtain⟨v1,v2,rfl,rk,rv⟩:=jo rb;have ek:=Zbx q1 rk;subst ek;have ev:=Zby q2 rv;subst ev;have hb':=e1 _ _ nb hb;have ll:=Uk jH k v2;have hl':jH.length+(ds.length+1)<=xg:=by simpa using hl
   refine .cons (by rw[Zx (Yq hb' hp)];exact hb') (WP.k (k:=k) ZW (by omega)) ?_;rw[Zea];exact Zjj e1 hp r2 h (by omega)
noncomputable def Zjk:List D->Option D
 | [.lst ds]=>if ds.length<=xg then (W5 [] ds).map .dt else none
 | _=>none
noncomputable def Zen:List D->Option D
 | [.lst ds]=>if ds.length<=xg then (WM [] ds).map .dk else none
 | _=>none
theorem Zgi (hc:X.calm=true)(hu:X.A.units+64<cLine):Xb X (.type "dict") (λxs H Q=>∃l vs,xs=[.ref l]/\H l=some (.lst vs)/\∀p,H p=none->∃kvs,Puts p (Zl H p (.dT [])) vs (Zl H p (.dT kvs))/\∀o,Q (.ref p) (Zl H p (.frz o (.dT kvs)))):=by
 intro jC s σ H xs us Q I r h;obtain⟨l,vs,ex,hl,hp⟩:=h;refine ZM (Zcs hc hu true jC s σ H xs us (λv H'=>∃p kvs,v=.ref p/\H'=Zl H p (.dT kvs)/\∀o,Q (.ref p) (Zl H p (.frz o (.dT kvs)))) I r ⟨l,vs,ex,hl,λp hn=>?_⟩) λu s1 ⟨v,H1,I1,r1,p,kvs,ev,eH,q⟩=>?_
 ·obtain⟨kvs,pu,q⟩:=hp p hn
  exact⟨_,pu,p,kvs,rfl,rfl,q⟩
 ·subst ev eH
  have ok:=I1.hok p (.dT kvs) ZW;obtain⟨_,_,xs',_,o,es,ep,h1,_⟩:=(show Yn X.prog X.w _ s1.heap p (.dT kvs)from ok);have I2:=I1.write (x:=p) (e:=p) (o:=.frz o (.dT kvs)) (h':=s1.heap) (t':=s1.toks) (by rw[ZW];trivial) (.inl rfl) (λ_ _ _ e=>e) ⟨o,h1⟩ ⟨h1,ok.stay (λ_ _ _ e=>e) (λb e=>?_) λb xs e=>?_⟩
  ·rw[Zea]at I2
   exact⟨.ref p,_,I2,r1,q o⟩
  ·have:b≠p:=λz=>by rw[z,ZW]at e;cases e
   rw[Zx this];exact e
  ·have:b≠p:=λz=>by rw[z,ZW]at e;cases e
   rw[Zx this];exact e
theorem Zgj (hc:X.calm=true)(hu:X.A.units+64<cLine):Wg X G (.type "dict") Zjk:=
 ⟨_,Zgi hc hu,λHf H s xs ds c Q e1 st r q k=>by
  match ds,q,r with
  | [.lst es],q,r=>
   have q:(if es.length<=xg then (W5 [] es).map D.dt else none)=some c:=q;split at q
   ·rename_i hz
    cases e:W5 [] es with
    | none=>rw[e]at q;cases q
    | some res=>
     rw[e]at q
     cases q
     obtain⟨v,rfl,rv⟩:=ji r;obtain⟨l,vs,rfl,nl,hl,rl⟩:=jb.mp rv;refine⟨l,vs,rfl,e1 _ _ nl hl,λp hp=>⟨_,Zji e1 hp rl e (by simpa using hz),λo=>?_⟩⟩;have nf:=Gh.nofp st hp;have g2:=Gr.new (o:=.frz o (.dT res)) e1 hp nf;exact k (.ref p) _ _ g2 (Gh.grow st hp) (jk.mpr ⟨p,o,rfl,nf,ZW⟩) λa ea _=>by cases ea;exact⟨hp,λds ed=>by cases ed⟩
   ·cases q⟩
theorem Zgk (hc:X.calm=true)(hu:X.A.units+64<cLine):Wg X G (.type "dict") Zen:=
 ⟨_,Zcs hc hu false,λHf H s xs ds c Q e1 st r q k=>by
  match ds,q,r with
  | [.lst es],q,r=>
   have q:(if es.length<=xg then (WM [] es).map D.dk else none)=some c:=q;split at q
   ·rename_i hz
    cases e:WM [] es with
    | none=>rw[e]at q;cases q
    | some res=>
     rw[e]at q
     cases q
     obtain⟨v,rfl,rv⟩:=ji r;obtain⟨l,vs,rfl,nl,hl,rl⟩:=jb.mp rv;refine⟨l,vs,rfl,e1 _ _ nl hl,λp hp=>⟨_,Zjj e1 hp rl e (by simpa using hz),?_⟩⟩;have nf:=Gh.nofp st hp;have g2:=Gr.new (o:=.dK res) e1 hp nf;exact k (.ref p) _ _ g2 (Gh.grow st hp) (jj.mpr ⟨p,rfl,nf,ZW⟩) λa ea _=>by cases ea;exact⟨hp,λds ed=>by cases ed⟩
   ·cases q⟩
theorem ZmS (hu:X.A.units+1<cLine):Z7 X (xk .In) (λx y H Q=>∃a o,y=.ref a/\Vc H a x o/\Q (.bl o.isSome) H):=by
 intro jC s σ H x y v u Q I rx ry h;obtain⟨a,o,rfl,g,q⟩:=h
 cases (show u=qT a from ry)
 exact d_in hu I g rx λs' I'=>⟨.bl _,H,I',rfl,q⟩
theorem Zh5 (hu:X.A.units+1<cLine):Z7 X (xk .NotIn) (λx y H Q=>∃a o,y=.ref a/\Vc H a x o/\Q (.bl (!o.isSome)) H):=by
 intro jC s σ H x y v u Q I rx ry h;obtain⟨a,o,rfl,g,q⟩:=h
 cases (show u=qT a from ry)
 exact ZkW hu I g rx λs' I'=>⟨.bl _,H,I',rfl,q⟩
noncomputable def Ua:D->D->Option Bool
 | x,.lst ds=>if XJ x ds=true then some (XS x ds)else none
 | x,.tup ds=>if XJ x ds=true then some (XS x ds)else none
 | .tup ks,.dt kvs=>(XI ks).map λk=>(Z8 kvs k).isSome
 | .tup ks,.du kvs=>(XI ks).map λk=>(Z8 kvs k).isSome
 | x,.dk kvs=>(Vs x).map λk=>(Z8 kvs k).isSome
 | _,_=>none
noncomputable def Xq (x y:D):Option D:=(Ua x y).map .bl
noncomputable def VM (x y:D):Option D:=(Ua x y).map λb=>.bl (!b)
theorem ZdE {Hf H:Hp}{x y:V}{d e:D}{b:Bool}(e1:Zz G Hf H)(rx:Zj G Hf d x)(ry:Zj G Hf e y)(h:Ua d e=some b) :
  (∃ds,XJ d ds=true/\(Zj G Hf (.lst ds) y∨Zj G Hf (.tup ds) y)/\b=XS d ds)∨∃a o,y=.ref a/\Vc H a x o/\b=o.isSome:=by
 cases e with
 | lst ds=>
  have h:(if XJ d ds=true then some (XS d ds)else none)=some b:=by cases d <;> exact h
  split at h
  ·rename_i ok;cases h;exact .inl ⟨ds,ok,.inl ry,rfl⟩
  ·cases h
 | tup ds=>
  have h:(if XJ d ds=true then some (XS d ds)else none)=some b:=by cases d <;> exact h
  split at h
  ·rename_i ok;cases h;exact .inl ⟨ds,ok,.inr ry,rfl⟩
  ·cases h
 | dt kvs=>
  obtain⟨a,o,rfl,na,ha⟩:=jk.mp ry
  cases d with
  | tup ks=>
   have h:(XI ks).map (λk=>(Z8 kvs k).isSome)=some b:=h
   cases q:XI ks with
   | none=>rw[q]at h;cases h
   | some k=>
    rw[q]at h;cases h;obtain⟨c,cs,rfl,nc,hcx,rc⟩:=jc.mp rx;have ec:=JB q rc;subst ec;exact .inr ⟨a,_,rfl,.inr ⟨kvs,k,c,.inr ⟨o,e1 _ _ na ha⟩,rfl,e1 _ _ nc hcx,rfl⟩,rfl⟩
  | _=>cases h
 | du kvs=>
  obtain⟨a,rfl,na,ha⟩:=jl.mp ry
  cases d with
  | tup ks=>
   have h:(XI ks).map (λk=>(Z8 kvs k).isSome)=some b:=h
   cases q:XI ks with
   | none=>rw[q]at h;cases h
   | some k=>
    rw[q]at h;cases h;obtain⟨c,cs,rfl,nc,hcx,rc⟩:=jc.mp rx;have ec:=JB q rc;subst ec;exact .inr ⟨a,_,rfl,Vc.t (e1 _ _ na ha) (e1 _ _ nc hcx),rfl⟩
  | _=>cases h
 | dk kvs=>
  obtain⟨a,rfl,na,ha⟩:=jj.mp ry;have h:(Vs d).map (λk=>(Z8 kvs k).isSome)=some b:=by cases d <;> exact h
  cases q:Vs d with
  | none=>rw[q]at h;cases h
  | some k=>
   rw[q]at h;cases h;have ek:=Zbx q rx;subst ek;exact .inr ⟨a,_,rfl,Vc.k (e1 _ _ na ha),rfl⟩
 | _=>cases d <;> cases h
theorem J8 (hu:X.A.units+64<cLine):Y0 X G (xk .In) Xq:=
 ⟨_,(ZmR (G:=G) hu).or (ZmS (by omega)),λHf H s x y d e c Q e1 st rx ry q k=>by
  unfold Xq at q
  cases h:Ua d e with
  | none=>rw[h]at q;cases q
  | some b=>
   rw[h]at q;cases q;have kk:=k (.bl b) Hf H (.refl e1) st (je.mpr rfl) (.scal λz=>z);rcases ZdE e1 rx ry h with⟨ds,ok,hl,rfl⟩ | ⟨a,o,ey,g,rfl⟩
   ·exact .inl ⟨Hf,d,ds,e1,ok,rx,hl,kk⟩
   ·exact .inr ⟨a,o,ey,g,kk⟩⟩
theorem ZdF (hu:X.A.units+64<cLine):Y0 X G (xk .NotIn) VM:=
 ⟨_,(Zh2 (G:=G) hu).or (Zh5 (by omega)),λHf H s x y d e c Q e1 st rx ry q k=>by
  unfold VM at q
  cases h:Ua d e with
  | none=>rw[h]at q;cases q
  | some b=>
   rw[h]at q;cases q;have kk:=k (.bl (!b)) Hf H (.refl e1) st (je.mpr rfl) (.scal λz=>z);rcases ZdE e1 rx ry h with⟨ds,ok,hl,rfl⟩ | ⟨a,o,ey,g,rfl⟩
   ·exact .inl ⟨Hf,d,ds,e1,ok,rx,hl,kk⟩
   ·exact .inr ⟨a,o,ey,g,kk⟩⟩
end
section
variable {X:Cx}{G:Gh}{own ob:List Nat}{fr:Bool}{f:Zb->M D}
noncomputable def Zk7 (ta:TA):TE:=fun σ H Q=>ta σ H λvs H1=>∃j:Int,vs=[.int j]/\∀p,H1 p=none->Q (.ref p) (Zl H1 p (.rng 0 j))
theorem Zh6 {a:Expr}{ta:TA}{p pos:Pos}(hg:Gl X "range")(hm:X.mg "range" = none)(ha:PA X [a] ta)(hs:xh [a] X.env=[(false,eval a X.env)]:=by rfl):PE X (.Call (.Name "range" p) [a] [] pos) (Zk7 ta):=by
 intro jC s σ H Q I h;refine Call_ (Uy I hg hm boot_range (yw (ZM (ha pos jC s σ H _ I h) λus s1 ⟨vs,H1,I1,r1,q1⟩=>?_) hs rfl));obtain⟨j,e,q⟩:=q1;subst e
 cases r1 with
 | cons r rr=>
  cases rr
  obtain⟨t,rfl⟩:=r;refine call_range_1 ⟨.ref s1.heap.objs.size,Zl H1 s1.heap.objs.size (.rng 0 j),I1.laid (t':=s1.toks+1+1) (λb o e=>qf _ e) (qm _) ?_,rfl,q _ (I1.hok.fresh (qm _))⟩;exact⟨_,_,_,qI _ rfl⟩
theorem Za4:∀(ys:List Value) (lo:Int),(∀(j:Nat) v,ys[j]?=some v->∃t,v=.int (lo+j) t)->Zy ((qp ys.length).map λ(i:Nat)=>V.int (lo+i)) ys
 | [],lo,_=>.nil
 | y::ys,lo,h=>by
  obtain⟨t,e⟩:=h 0 y rfl;rw[qB,y6,qX,qM];refine .cons ⟨t,by rw[e]⟩ ?_;have q:=Za4 ys (lo+1) λj v hv=>by
   obtain⟨t,e⟩:=h (j+1) v (by simpa using hv);exact⟨t,by rw[e];congr 1;push_cast;omega⟩
  have ee:((λ(i:Nat)=>V.int (lo+i))∘Nat.succ)=λ(i:Nat)=>V.int (lo+1+i):=by
   funext i;show V.int (lo+(Nat.succ i:Nat))=V.int (lo+1+i);congr 1;push_cast;omega
  rw[ee];exact q
theorem Zeo (hc:X.calm=true):Xb X (.type "list") (λxs H Q=>∃r j,xs=[.ref r]/\H r=some (.rng 0 j)/\-(2 ^ 62)<=j/\j<=2 ^ 24/\∀l,H l=none->Q (.ref l) (Zl H l (.lst ((qp j.toNat).map λ(i:Nat)=>V.int (0+i))))):=by
 intro jC s σ H xs us Q I r h;obtain⟨rr,j,rfl,hr,h1,h2,q⟩:=h;obtain⟨u,rfl,ru⟩:=XU r
 cases (show u=qT rr from ru)
 obtain⟨t,u',v',hro⟩:=(show Yn X.prog X.w H s.heap rr (.rng 0 j)from I.hok rr _ hr);have hn:qbf 0 j 1=((j.toNat:Nat):Int):=by rw[rangeSize_one];split <;> omega
 refine call_list_range (I.ok.hd hc) (show IsRange s.heap rr 0 j 1 t u' v' from hro) (small_one (by omega) (by omega) h1 (by omega)) hn (by omega) λh' tk acc' c' hk hS hacc=>?_;obtain⟨sz,hit⟩:=hacc;have rv:=Za4 acc'.toList 0 λi v hv=>by
  obtain⟨t,e⟩:=hit i v (by simpa using hv);exact⟨t,by rw[e];simp⟩
 have el:acc'.toList.length=j.toNat:=by simpa using sz
 rw[el]at rv;refine⟨.ref s.heap.objs.size,Zl H s.heap.objs.size (.lst ((qp j.toNat).map λ(i:Nat)=>V.int (0+i))),I.laid hk (qm _) ?_,rfl,q _ (I.hok.fresh (qm _))⟩;refine⟨?_,acc'.toList,c',rv,?_⟩
 ·rw[qj,zc]
  show j.toNat<=2 ^ 24;omega
 ·rw[qcR]
  exact hS
noncomputable def Vl (f:Zb->M D):Zb->M D:=fun ρ=>Zp (f ρ) λd=>match d with | .int j=>if -(2 ^ 62)<=j/\j<=2 ^ 24 then ZB (.lst (Z0 0 j.toNat))else ZE | _=>ZE
theorem Za5 {Hf:Hp}(lo:Int):∀(l:List Nat),Zi G Hf (l.map λ(i:Nat)=>D.int (lo+i)) (l.map λ(i:Nat)=>V.int (lo+i))
 | []=>Zi.nil_iff.mpr rfl
 | i::l=>Zi.cons (ja.mpr rfl) (Za5 lo l)
theorem BM {a:Expr}{p1 p2 pos1 pos:Pos}{r1:Bool}(hc:X.calm=true)(hg:Gl X "range")(hm:X.mg "range" = none)(hg2:Gl X "list")(hm2:X.mg "list" = none)(hv2:xj "list" = some (.type "list"))(ha:PD X G r1 a f)
  (hs:xh [a] X.env=[(false,eval a X.env)]:=by rfl)
  (he:xh [.Call (.Name "range" p1) [a] [] pos1] X.env=(false,eval (.Call (.Name "range" p1) [a] [] pos1) X.env)::xh [] X.env:=by rfl):PD X G true (.Call (.Name "list" p2) [.Call (.Name "range" p1) [a] [] pos1] [] pos) (Vl f):=by
 obtain⟨t,pa,qa⟩:=ha.drop;refine⟨_,JG (Zeo hc) hg2 hm2 hv2 (YU (Zh6 hg hm (YU pa Xt (by rw[hs];rfl)) hs) Xt he) (by decide) (by decide) he rfl,fun σ Hf H ρ s d s' Q e1 e2 e3 e4 k=>?_⟩;obtain⟨dj,s1,a1,a2⟩:=ZG e4
 cases dj with
 | int j=>
  obtain⟨c,a3⟩:=Xj a2;obtain⟨rfl,rfl⟩:=ZR a3;refine qa σ Hf H ρ s _ _ _ e1 e2 e3 a1 λv jQ H1 g st r=>?_;rw[ja.mp r];refine⟨j,rfl,λp hp=>⟨p,j,rfl,ZW,c.1,c.2,λl hl=>?_⟩⟩;have hlp:l≠p:=λz=>by rw[z,ZW]at hl;cases hl
  have hl1:H1 l=none:=by rw[Zx hlp]at hl;exact hl
  have jO:G.st s' (Zl H1 p (.rng 0 j)):=Gh.grow st hp;have nf:=Gh.nofp jO hl;have fp:jQ p=none:=by
   cases q:jQ p with
   | none=>rfl
   | some o=>rw[g.fh p o (Gh.nofp st hp) q]at hp;cases hp
  have gA:Gr G jQ H1 jQ (Zl H1 p (.rng 0 j)):=⟨λb o n q=>by rw[Zx (Yq q hp)];exact q,.refl _ _,λb o n q=>by rw[Zx (Yq q fp)];exact g.fh b o n q,λb n h1 h2=>h1⟩;have gB:=Gr.new (o:=.lst ((qp j.toNat).map λ(i:Nat)=>V.int (0+i))) gA.fh hl nf;have rr:Zi G jQ (Z0 0 j.toNat) ((qp j.toNat).map λ(i:Nat)=>V.int (0+i)):=Za5 0 _;refine k (.ref l) _ _ ((g.trans gA).trans gB) (Gh.grow jO hl) (jb.mpr ⟨l,_,rfl,nf,ZW,rr.ext gB.ff⟩) λ_=>?_;exact jm (g.trans gA).hh (λa ea _=>by cases ea;exact nf) (Ye.mk gA.fh hl nf rr)
 | _=>cases a2
end
structure BlkS (X:Cx)(XN:List Str)(NS:List (Str×NameKind))(N':List Str)(src:List (Option Nat))(scope:Scope):Prop where
 xn:X.N=XN
 ns:X.env.scope.names=NS
 nocell:∀y∈scope.names,y.2≠.cell
 kind:scope.kind=.function
 names:∀y∈scope.names,y.2=.local->scope.names.lookup y.1=some .local
 len:src.length=N'.length
 free:∀y∈scope.names,y.2=.free->NS.lookup y.1=some .cell∨NS.lookup y.1=some .free
 from_:(src.zip N').all (λp=>match p.1 with | some j=>decide (XN[j]?=some p.2)&&(decide (NS.lookup p.2=some .cell)||decide (NS.lookup p.2=some .free))&&decide (scope.names.lookup p.2=some .free) | none=>true)=true
theorem Zag {env:Env}:∀{names:List (Str×NameKind)} {x:Str},names.lookup x=some .free->
  (names.map λ(n,k)=>if (k==zX&&env.scope.kind == .function&&env.kindOf n==some .cell)then (n,qaW)else (n,k)).lookup x=some .cell∨
  (names.map λ(n,k)=>if (k==zX&&env.scope.kind == .function&&env.kindOf n==some .cell)then (n,qaW)else (n,k)).lookup x=some .free
 | [],_,h=>by simp at h
 | (n,k)::r,x,h=>by
  have ih:=@Zag env r x;show qdg x ((if (k==zX&&env.scope.kind == .function&&env.kindOf n==some .cell)=true then (n,qaW)else (n,k))::_)=_∨qdg x ((if (k==zX&&env.scope.kind == .function&&env.kindOf n==some .cell)=true then (n,qaW)else (n,k))::_)=_
  cases hx:x==n with
  | true=>
   simp only[zm,hx]at h
   cases h
   by_cases hc:(zX==zX&&env.scope.kind == .function&&env.kindOf n==some .cell)=true
   ·rw[if_pos hc];left;simp[zm,hx]
   ·rw[if_neg hc];right;simp[zm,hx]
  | false=>
   simp only[zm,hx]at h;by_cases hc:(k==zX&&env.scope.kind == .function&&env.kindOf n==some .cell)=true
   ·rw[if_pos hc];simp only[zm,hx];exact ih h
   ·rw[if_neg hc];simp only[zm,hx];exact ih h
theorem Zaa {env:Env}:∀{names:List (Str×NameKind)} {x:Str} {k':NameKind},(∀y∈names,y.2≠.cell)->(k'=.cell∨k'=.free)->
  (names.map λ(n,k)=>if (k==zX&&env.scope.kind == .function&&env.kindOf n==some .cell)then (n,qaW)else (n,k)).lookup x=some k'->names.lookup x=some .free
 | [],_,_,_,_,h=>by simp at h
 | (n,k)::r,x,k',nc,hk,h=>by
  have ih:=@Zaa env r x k' (λy hy=>nc y (qS _ hy)) hk;have h:qdg x ((if (k==zX&&env.scope.kind == .function&&env.kindOf n==some .cell)=true then (n,qaW)else (n,k))::_)=_:=h
  cases hx:x==n with
  | true=>
   by_cases hc:(k==zX&&env.scope.kind == .function&&env.kindOf n==some .cell)=true
   ·have:k=.free:=by
     simp only[zi,beq_iff_eq]at hc;exact hc.1.1
    subst this;simp[zm,hx]
   ·rw[if_neg hc]at h
    simp only[zm,hx]at h⊢
    cases h
    rcases hk with rfl | rfl
    ·exact absurd rfl (nc _ zB)
    ·rfl
  | false=>
   by_cases hc:(k==zX&&env.scope.kind == .function&&env.kindOf n==some .cell)=true
   ·rw[if_pos hc]at h;simp only[zm,hx]at h⊢;exact ih h
   ·rw[if_neg hc]at h;simp only[zm,hx]at h⊢;exact ih h
theorem BN {env:Env}:∀(names:List (Str×NameKind)) (jH:List (Str×Addr)),(∀y∈names,y.2=.free->∃c,env.cells.lookup y.1=some c)->
  (∀x c,jH.lookup x=some c->env.cells.lookup x=some c)->
  ∃cl,(forIn names jH λ(p:Str×NameKind) (cs:List (Str×Addr))=>(if (p.2==zX)=true then do let a<-cellOf env p.1;pure (qah ((p.1,a)::cs))else pure (qah cs):Sem (ForInStep (List (Str×Addr)))))=pure cl/\
   (∀x c,cl.lookup x=some c->env.cells.lookup x=some c)/\(∀x c,jH.lookup x=some c->∃c',cl.lookup x=some c')/\∀y∈names,y.2=.free->∃c,cl.lookup y.1=some c
 | [],jH,_,h2=>⟨jH,by simp,h2,λx c h=>⟨c,h⟩,λy hy=>by simp at hy⟩
 | (n,k)::r,jH,h1,h2=>by
  by_cases hk:k=.free
  ·subst hk
   obtain⟨c,hc⟩:=h1 (n,.free) zB rfl;have hcell:cellOf env n=pure c:=by unfold cellOf;rw[hc]
   obtain⟨cl,q1,q2,q3,q4⟩:=BN (env:=env) r ((n,c)::jH) (λy hy=>h1 y (qS _ hy)) λx c' h=>by
    cases hx:x==n with
    | true=>
     simp only[zm,hx]at h
     cases h
     have:x=n:=by simpa using hx
     rw[this];exact hc
    | false=>simp only[zm,hx]at h;exact h2 x c' h
   refine⟨cl,?_,q2,λx c' h=>?_,λy hy hf=>?_⟩
   ·rw[List.forIn_cons]
    simp only[beq_self_eq_true,if_true,hcell,pure_bind];exact q1
   ·cases hx:x==n with
    | true=>exact q3 x c (by simp[zm,hx])
    | false=>exact q3 x c' (by simp only[zm,hx];exact h)
   ·rcases qq.mp hy with e | hy
    ·subst e;exact q3 n c (by simp[zm])
    ·exact q4 y hy hf
  ·obtain⟨cl,q1,q2,q3,q4⟩:=BN (env:=env) r jH (λy hy=>h1 y (qS _ hy)) h2
   refine⟨cl,?_,q2,q3,λy hy hf=>?_⟩
   ·rw[List.forIn_cons]
    have:(k==zX)=false:=by simpa using hk
    simp only[this,qQ,if_false,pure_bind];exact q1
   ·rcases qq.mp hy with e | hy
    ·subst e;exact absurd hf hk
    ·exact q4 y hy hf
theorem BlkS.ok {X:Cx}{XN:List Str}{NS:List (Str×NameKind)}{N':List Str}{src:List (Option Nat)}{scope:Scope}(B:BlkS X XN NS N' src scope)(ok:X.Ok):∃cl,BlkOk X N' src scope cl:=by
 have hcells:∀y∈scope.names,y.2=.free->∃c,X.env.cells.lookup y.1=some c:=λy hy hf=>ok.has y.1 (by
  have:=B.free y hy hf;rw[<-B.ns]at this;exact this)
 obtain⟨cl,q1,q2,q3,q4⟩:=BN (env:=X.env) scope.names [] hcells (λx c h=>by simp at h);refine⟨cl,?_,B.nocell,B.kind,B.names,B.len,q2,λx hx=>?_,λi j x e1 e2=>?_⟩
 ·unfold closureFor
  show(forIn scope.names [] _ >>= _)=_;rw[show(forIn scope.names ([]:List (Str×Addr)) λ(x:Str×NameKind) (r:List (Str×Addr))=>_)=_ from q1];rfl
 ·have hf:scope.names.lookup x=some .free:=by
   rcases hx with h | h
   ·exact Zaa B.nocell (.inl rfl) h
   ·exact Zaa B.nocell (.inr rfl) h
  exact q4 (x,.free) (zM hf) rfl
 ·have hm:(some j,x)∈src.zip N':=by
   have:(src.zip N')[i]?=some (some j,x):=by
    rw[ym];exact⟨e1,e2⟩
   exact zu this
  have q:=yF.mp B.from_ _ hm;simp only[zi,Bool.or_eq_true,decide_eq_true_eq]at q;obtain⟨⟨p1,p2⟩,p3⟩:=q;refine⟨by rw[B.xn];exact p1,?_,Zag p3⟩;show X.env.scope.names.lookup x=_∨X.env.scope.names.lookup x=_;rw[B.ns];exact p2
section
variable {X:Cx}{G:Gh}{elt tg iter:Expr}{ifs:List Expr}{scope:Scope}{pos pos' spos:Pos}{XN:List Str}{NS:List (Str×NameKind)}{N':List Str}{src:List (Option Nat)}{fi:Zb->M (List D)}{τ:D->Zb->Option Zb}{ft:Zb->M Bool}{fe:Zb->M D}{r1:Bool}{i:Nat}{x:Str}
theorem Zjl (hc:X.calm=true)(B:BlkS X XN NS N' src scope)(hi:X0 X G tg iter fi)
  (hg:∀cl jC C s H fp,Vg (Yv X jC N' scope cl C s H fp) G tg (λi=>src[i]?=some none) τ) (ht:∀cl jC C s H fp,Vv (Yv X jC N' scope cl C s H fp) ifs (UK G ft)) (he:∀cl jC C s H fp,PD (Yv X jC N' scope cl C s H fp) G r1 elt fe)
  (hs:∀x,foldedSetIterable iter X.env x=pure x:=by intro _;rfl):PD X G true (.ListComp elt [⟨tg,iter,ifs,0⟩] scope pos) (Yj src fi τ ft fe):=by
 obtain⟨wi,pi,qi⟩:=hi;refine⟨_,λjC s σ H Q I h=>?_,Ze6 (r1:=r1) qi⟩;obtain⟨cl,B'⟩:=B.ok I.ok;exact ZkZ hc B' pi (λjC C s H fp=>(hg cl jC C s H fp).canon) (ht cl) (λjC C s H fp=>(he cl jC C s H fp).canon) hs jC s σ H Q I h
theorem JC (hN:X.N.Nodup)(hi':X.N[i]?=some x)(hx:Ve X.env.scope x)
  (hc:X.calm=true) (B:BlkS X XN NS N' src scope) (hi:X0 X G tg iter fi)
  (hg:∀cl jC C s H fp,Vg (Yv X jC N' scope cl C s H fp) G tg (λi=>src[i]?=some none) τ) (ht:∀cl jC C s H fp,Vv (Yv X jC N' scope cl C s H fp) ifs (UK G ft)) (he:∀cl jC C s H fp,PD (Yv X jC N' scope cl C s H fp) G r1 elt fe)
  (hsw:xq (.ListComp elt [⟨tg,iter,ifs,0⟩] scope pos) (some (.Name x pos')) spos.line X.env=pure true:=by rfl)
  (hs:∀x,foldedSetIterable iter X.env x=pure x:=by intro _;rfl)
  (hf:X.fn x=true∨X.env.scope.names.lookup x=some .local:=by first | exact .inl rfl | exact .inr rfl | assumption) :
  Bp X G true i (.Assign [.Name x pos'] (.ListComp elt [⟨tg,iter,ifs,0⟩] scope pos) spos) (Yj src fi τ ft fe):=by
 obtain⟨wi,pi,qi⟩:=hi;refine⟨_,λjC s σ H D I h=>?_,Ze6 (r1:=r1) qi⟩;obtain⟨cl,B'⟩:=B.ok I.ok;exact Zk0 hN hi' hx hc B' pi (λjC C s H fp=>(hg cl jC C s H fp).canon) (ht cl) (λjC C s H fp=>(he cl jC C s H fp).canon) hsw hs hf jC s σ H D I h
end
noncomputable def ZL (P:xz)(w:World)(K:qk)(mg:Str->Option Value)(base:Heap)(k:Nat)(x:Str)(n:Nat)(fr:Bool)(GG:Gh->Prop)(F:List D->M D):Prop:=
 ∃f fd ps,FnOk P w K mg base ZV k f fd ps (Yl n fr GG F)/\mg x=some (.ref f)/\yI K (.ref f)=true/\Wf K fd ps []
theorem ZL.mono {P:xz}{w:World}{K:qk}{mg:Str->Option Value}{base:Heap}{j k:Nat}{x:Str}{n:Nat}{fr:Bool}{GG:Gh->Prop}{F:List D->M D}(c:ZL P w K mg base j x n fr GG F)(h:j<=k:=by decide):ZL P w K mg base k x n fr GG F:=
 let ⟨f,fd,ps,a,b,c,d⟩:=c
 ⟨f,fd,ps,a.mono h,b,c,d⟩
theorem Zjm {X:Cx}{G:Gh}{k:Nat}{x:Str}{n:Nat}{fr:Bool}{GG:Gh->Prop}{F:List D->M D}{p pos:Pos}{e:Expr}{es:List Expr}{fs:Zb->M (List D)}(c:ZL X.prog X.w X.K X.mg X.base k x n fr GG F)(hG:GG G)(hr:Room k X.A)(hg:Gl X x)
  (ha:Wy X G (e::es) fs) (hal:∀ρ s ds s',fs ρ s=some (ds,s')->ds.length=(e::es).length) (jM:(e::es).length=n:=by rfl)
  (hdb:(x==("__debug__" : Str))=false:=by decide) (he:xh (e::es) X.env=(false,eval e X.env)::xh es X.env:=by rfl) (hpl:(backTo pos (xh es X.env)).any (·.1)=false:=by rfl) :
  PD X G fr (.Call (.Name x p) (e::es) [] pos) (Zs F fs):=by
 obtain⟨f,fd,ps,a,b,c,d⟩:=c;exact Zk1 a hG hr hg b c d Zl2 ha jM hal hdb he hpl
noncomputable def Vd (h base:Heap)(as:List Addr):Heap:=PySem.W.hideAll h ((qp h.objs.size).filter λa=>!((base.get? a).isSome||decide (a∈as)))
theorem Zh7 {h base:Heap}{as:List Addr}:(Vd h base as).objs.size=h.objs.size:=qcI _ _
theorem Zfb {h base:Heap}{as:List Addr}{b:Addr}{o:Obj}(e:h.get? b=some o)(n:(∃u,base.get? b=some u)∨b∈as):(Vd h base as).get? b=some o:=
 qcY _ e λhm=>by
  have q:=(qW.mp hm).2;rcases n with⟨u,n⟩ | n
  ·simp[n]at q
  ·simp[n]at q
theorem Zhg {h base:Heap}{as:List Addr}{b:Addr}{o:Obj}(e:(Vd h base as).get? b=some o):h.get? b=some o/\((∃u,base.get? b=some u)∨b∈as):=by
 have e':h.get? b=some o:=PySem.W.of_hideAll _ e;refine⟨e',?_⟩;by_cases c:((base.get? b).isSome||decide (b∈as))=true
 ·rcases Bool.or_eq_true_iff.mp c with c | c
  ·exact .inl (yQ.mp c)
  ·exact .inr (of_decide_eq_true c)
 ·have z:(Vd h base as).get? b=none:=qcJ _ (qW.mpr ⟨qO.mpr (qJ e'),by simpa using c⟩)
  rw[z]at e;cases e
theorem Env0.more {P:xz}{w:World}{K:qk}{mg:Str->Option Value}{base:Heap}{A:xA}{outer:List Env}{s:Shared}{H:Hp}{as:List Addr}(e:Env0 P w K mg base A outer s H)(ha:∀b∈as,H b=none)(hf:∀b∈as,b∉XO outer) :
  Env0 P w K mg (Vd s.heap base as) A outer s H:=by
 have up:∀b o,base.get? b=some o->(Vd s.heap base as).get? b=some o:=λb o q=>Zfb (e.bs b o q).1 (.inl ⟨o,q⟩);refine⟨e.frames,⟨e.mod.kin.keeps up,e.mod.glob.keeps up,let ⟨mb,h1,h2⟩:=e.mod.blt;⟨mb,h1.keeps up,h2⟩,e.mod.nolimit.keeps up⟩,λb o q=>?_,Nat.le_of_eq Zh7,?_,e.frf,e.hok,e.bare⟩
 ·obtain⟨q1,q2⟩:=Zhg q
  refine⟨q1,?_⟩;rcases q2 with⟨u,q2⟩ | q2
  ·exact(e.bs b u q2).2
  ·exact ha b q2
 ·have all:∀l:List Env,(∀b∈XO l,b∈XO outer)->s.heap.FunFrames base l->s.heap.FunFrames (Vd s.heap base as) l:=by
   intro l
   induction l with
   | nil=>intro _ _;trivial
   | cons env r ih=>
    intro hs hl;obtain⟨hk,⟨L,o,hf',hn,ho,hd⟩,hr⟩:=hl;have hL:L∈XO outer:=hs L (by unfold XO;rw[yy,hf'];exact zB);refine⟨hk,⟨L,o,hf',?_,ho,hd⟩,ih (λb hb=>hs b (by unfold XO;rw[yy,hf'];exact qS _ hb)) hr⟩
    cases q:(Vd s.heap base as).get? L with
    | none=>rfl
    | some u=>
     rcases (Zhg q).2 with⟨u',q'⟩ | q'
     ·rw[hn]at q';cases q'
     ·exact absurd hL (hf L q')
  exact all outer (λ_ h=>h) e.funs
noncomputable def fnφ (p:Addr)(fd:xy):Heap->Prop:=λh=>∃oc od sl,h.get? p=some ⟨oc,od,.func fd,sl⟩
noncomputable def codeφ (c:Addr)(q:Str):Heap->Prop:=λh=>h.CodeRec (.ref c) q
theorem fnφ_at {P:xz}{w:World}{H:Hp}{h:Heap}{p:Addr}{fd:xy}(ok:Yi P w H h)(e:H p=some (.ext (fnφ p fd))):fnφ p fd h:=(ok p _ e).1
theorem codeφ_at {P:xz}{w:World}{H:Hp}{h:Heap}{c:Addr}{q:Str}(ok:Yi P w H h)(e:H c=some (.ext (codeφ c q))):h.CodeRec (.ref c) q:=(ok c _ e).1
structure CloScope (N ps:List Str)(sc:Scope):Prop where
 kind:sc.kind=.function
 co:sc.isCoroutine=false
 gen:sc.isGenerator=false
 nd:N.Nodup
 pre:N.take ps.length=ps
 par:∀x∈ps,sc.names.lookup x=some .local
 nocell:∀y∈sc.names,y.2≠.cell
noncomputable def BC (CX:XQ)(P:xz)(w:World)(K:qk)(mg:Str->Option Value)(base:Heap)(N:List Str)(qual:Str)(scope:Scope)(f:Addr)(cd:Value)(cl:List (Str×Addr))(A:xA)(outer:List Env)(s:Shared)(H:Hp)(E:XK):Cx where
 prog:=P
 w:=w
 K:=K
 mg:=mg
 base:=base
 A:=A.deeper (qab qual scope s.heap.objs.size f cd cl)
 N:=N
 s₀:=s
 H₀:=H
 env:=qab qual scope s.heap.objs.size f cd cl
 outer:=outer
 stack:=qab qual scope s.heap.objs.size f cd cl::outer
 ex:=[]
 calm:=true
 fn:=λ_=>false
 pn:=[]
 xe:=λe s'=>xf (xw P w) (A.deeper (qab qual scope s.heap.objs.size f cd cl)) (leaving (qab qual scope s.heap.objs.size f cd cl) e) (λ_ s''=>CX outer H s E e s'') (λe' s''=>CX outer H s E e' s'') s'
structure CloAt (base:Heap)(cl:List (Str×Addr))(sc:Scope)(N ps:List Str)(cvs:List V):Prop where
 inj:∀x y c,cl.lookup x=some c->cl.lookup y=some c->x=y
 cell:∀x c,cl.lookup x=some c->∃v,base.IsCell c v
 has:∀x,sc.names.lookup x=some .free->∃c,cl.lookup x=some c
 cap:∀(i:Nat) (x:Str) (v:V),N[ps.length+i]?=some x->cvs[i]?=some v->sc.names.lookup x=some .free/\∃c u,cl.lookup x=some c/\base.IsCell c (some u)/\ZH v u
 len:N.length=ps.length+cvs.length
theorem Zbe {α:Type}:∀{l:List (Str×α)} {x:Str} {u:α},(l.map (·.1)).Nodup->(x,u)∈l->l.lookup x=some u
 | [],_,_,_,h=>by simp at h
 | (y,w)::l,x,u,nd,h=>by
  rw[qX,zv]at nd;rcases qq.mp h with e | hm
  ·cases e;simp[zm]
  ·have hne:(x==y)=false:=by
    simp only[beq_eq_false_iff_ne];rintro rfl;exact nd.1 (qax (f:=(·.1)) hm)
   rw[zm,hne];exact Zbe nd.2 hm
theorem ZbP:∀(ps:List Str) (us:List Value),((ps.zip us).map (·.1)).Sublist ps
 | [],_=>by simp
 | _::_,[]=>by simp
 | p::ps,u::us=>by simpa using ZbP ps us
theorem Zct {ps:List Str}{us:List Value}{i:Nat}{x:Str}{u:Value}(nd:ps.Nodup)(h1:ps[i]?=some x)(h2:us[i]?=some u):(ps.zip us).reverse.lookup x=some u:=by
 refine Zbe ?_ ?_
 ·rw[List.map_reverse]
  refine qcC.mpr ?_;exact(nd.sublist (ZbP _ _)).imp zH
 ·rw[qaR]
  exact zu (i:=i) (ym.mpr ⟨h1,h2⟩)
theorem Zk8 {CX:XQ}{P:xz}{w:World}{K:qk}{mg:Str->Option Value}{base:Heap}{N ps:List Str}{qual:Str}{scope:Scope}{f:Addr}{cd:Value}{cl:List (Str×Addr)}{A:xA}{outer:List Env}{s:Shared}{H:Hp}{E:XK}{us:List Value}{vs cvs:List V}{h':Heap}{tk:Nat}
  (S:CloScope N ps scope) (C:CloAt base cl scope N ps cvs) (hd:A.handled=none) (e0:Env0 P w K mg base A outer s H) (hl:vs.length=ps.length) (r:Zy vs us)
  (hns:h'.Ns s.heap.objs.size (λx=>(ps.zip us).reverse.lookup x)) (hk:∀b o,s.heap.get? b=some o->h'.get? b=some o) :
  Inv (BC CX P w K mg base N qual scope f cd cl A outer s H E) [] (vs.map some++cvs.map some) H { s with heap:=h',toks:=tk }:=by
 have noA:∀b:Addr,b∉(BC CX P w K mg base N qual scope f cd cl A outer s H E).ex:=λb z=>absurd (show b∈([]:List Addr)from z) (by simp);have up:∀b o,base.get? b=some o->h'.get? b=some o:=λb o q=>hk b o (e0.bs b o q).1;have cellAt:∀x c,cl.lookup x=some c->∃v,base.IsCell c v:=C.cell;refine⟨⟨e0.mod,S.kind,rfl,rfl,qm _,λy z c h1 h2=>C.inj y z c h1 h2,λy hy=>?_,λy c z _=>(by cases z),λ_=>hd,qcL e0.frames,.inr ⟨rfl,rfl⟩,λb z=>absurd z (noA b),e0.bs,e0.bsz,λb _ _=>noA b,λb z=>absurd z (noA b),e0.funs,e0.frf⟩,
  rfl,e0.bare,Un.kept hk,⟨_,hns,λi y v h1 h2 h3=>?_⟩,λy c h=>?_,e0.hok.fresh (qm _),λy c h=>?_,λp hp=>absurd (show p∈([]:Qb)from hp) (by simp),e0.hok.kept hk,?_⟩
 ·have hy:scope.names.lookup y=some .cell∨scope.names.lookup y=some .free:=hy
  rcases hy with hy | hy
  ·exact absurd rfl (S.nocell _ (zM hy))
  ·exact C.has y hy
 ·have h1:N[i]?=some y:=h1
  by_cases hi:i<vs.length
  ·have ha:vs[i]?=some v:=by
    rw[zw (by simpa using hi),qC]at h2
    cases e:vs[i]? with
    | none=>rw[e]at h2;cases h2
    | some a=>rw[e]at h2;cases h2;rfl
   obtain⟨u,hu,rv⟩:=r.get ha;have hp:ps[i]?=some y:=by
    rw[<-S.pre,zL (by omega)];exact h1
   have ndP:ps.Nodup:=by rw[<-S.pre];exact S.nd.sublist (zF _ _)
   exact⟨u,rv,.inl ⟨S.par y (zu hp),Zct ndP hp hu⟩⟩
  ·rw[yg (by simpa using hi),qC,qj]at h2
   have hc:cvs[i-vs.length]?=some v:=by
    cases e:cvs[i-vs.length]? with
    | none=>rw[e]at h2;cases h2
    | some a=>rw[e]at h2;cases h2;rfl
   obtain⟨q1,c,u,q2,q3,q4⟩:=C.cap (i-vs.length) y v (by rw[show ps.length+(i-vs.length)=i by omega];exact h1) hc;exact⟨u,q4,.inr ⟨.inr q1,c,q2,q3.keeps up⟩⟩
 ·obtain⟨v,q⟩:=C.cell y c h
  exact⟨v,q.keeps up⟩
 ·obtain⟨v,o,q,_⟩:=C.cell y c h
  exact(e0.bs c o q).2
 ·show _=N.length
  rw[C.len];simp[hl]
theorem Zk9 {CX:XQ}{P:xz}{w:World}{K:qk}{mg:Str->Option Value}{base:Heap}{k:Nat}{f:Addr}{name qual:Str}{params:Arguments}{body:Expr}{scope:Scope}{cl:List (Str×Addr)}{pm ct:Value}{c':Addr}{N ps:List Str}{cvs:List V}{sp:Sp}
  (S:CloScope N ps scope) (C:CloAt base cl scope N ps cvs) (len:∀vs H Q E,sp vs H Q E->vs.length=ps.length)
  (at_:∀vs H Q E,sp vs H Q E->H f=some (.ext (fnφ f (yY name qual params body scope cl pm (.ref c') ct)))/\H c'=some (.ext (codeφ c' qual)))
  (hbody:∀(A:xA) (outer:List Env) (s:Shared) (H:Hp) (vs:List V) (Q:VK) (E:XK),Room k (A.deeper (qab qual scope s.heap.objs.size f (.ref c') cl))->sp vs H Q E->
   ∃t,PE (BC CX P w K mg base N qual scope f (.ref c') cl A outer s H E) body t/\t (vs.map some++cvs.map some) H Q) :
  FnOk P w K mg base CX (k+1) f (yY name qual params body scope cl pm (.ref c') ct) ps sp:=by
 refine⟨len,λA outer s H args us vs Q E hr e0 hb r hsp=>?_⟩;have hl:=len _ _ _ _ hsp;obtain⟨a1,a2⟩:=at_ _ _ _ _ hsp;obtain⟨oc,od,sl,ho⟩:=fnφ_at e0.hok a1;have lim:s.heap.NoLimit:=e0.mod.nolimit.keeps λb o e=>(e0.bs b o e).1;have hkind:∀y∈ps.zip us,scope.names.lookup y.1=some .local:=λ⟨n,v⟩ hy=>S.par n (qaE hy).1;refine PySem.W.kla_callFunE hr.depth ho rfl S.co S.gen rfl (codeφ_at e0.hok a2) (hb _ _ _ _ ?_);refine wpAny_newFunctionEnv S.nocell hkind (λh' hns hsb=>?_) S.kind;have hk:∀b o,s.heap.get? b=some o->h'.get? b=some o:=λb o e=>hsb.extBut b o (qR (qJ e)) (qf _ e);refine⟨lim.keeps hk,?_⟩;show xo _ _ (.expr body (qab qual scope s.heap.objs.size f (.ref c') cl)) _ _;obtain⟨t,ht,hq⟩:=hbody A outer s H vs Q E (hr.deeper _) hsp;refine PySem.W.kla_codeExpr (xc (ht [] _ _ H Q (Zk8 S C hr.hd e0 hl r hns hk) hq) (λu s' hs=>?_) λe s' hs=>hs);obtain⟨v,H',J,rv,q⟩:=hs;exact⟨v,H',J.os,J.bare,J.base,J.hok,rv,q⟩
structure Mk0 (X:Cx)(c P:Addr):Prop where
 code:X.env.code=.ref c
 hd:yt X.base c P
 bm:∃bm o,X.mg "__builtins__" = some (.ref bm)/\bm≠builtinsNs/\bm≠mainGlobals/\X.base.get? bm=some o/\o.cls=.type "module"/\o.dict=some builtinsNs/\o.data=.plain
noncomputable def Slot (P:Addr)(q:Str)(lpos:Pos)(ps:Array Value)(H Hm:Hp)(c':Addr):Prop:=
 (Hm=H/\codeAmong lpos ps.toList=some (.ref c')/\H c'=some (.ext (codeφ c' q)))∨(codeAmong lpos ps.toList=none/\H c'=none/\c'≠P/\Hm=Zl (Zl H P (.tbl (ps ++ #[rawInt lpos.line,rawInt lpos.col,.ref c']))) c' (.ext (codeφ c' q)))
noncomputable def ZnN (P:Addr)(q:Str)(lpos:Pos)(isFd:xy->Addr->Prop)(H:Hp)(R:Addr->Addr->xy->Hp->Prop):Prop:=
 ∃ps,H P=some (.tbl ps)/\TriplesOk ps.toList/\(∀cv,codeAmong lpos ps.toList=some cv->∃c',cv=.ref c'/\H c'=some (.ext (codeφ c' q)))/\
  ∀p c' fd Hm,isFd fd c'->Slot P q lpos ps H Hm c'->Hm p=none->R p c' fd (Zl Hm p (.ext (fnφ p fd)))
section
variable {X:Cx}{jC:Qb}{σ:St}{H:Hp}{s:Shared}{c P:Addr}{ps:Array Value}
theorem Mk0.bat (M:Mk0 X c P)(I:Inv X jC σ H s)(hP:H P=some (.tbl ps)):s.heap.BuiltinsAt X.mg P:=by
 obtain⟨bm,o,e1,e2,e3,e4,e5⟩:=M.bm;refine⟨bm,o,e1,e2,e3,λz=>?_,I.bk _ _ e4,e5⟩;have:=(I.bs _ _ e4).2;rw[z,hP]at this;cases this
theorem gne (I:Inv X jC σ H s)(hP:H P=some (.tbl ps)):mainGlobals≠P:=λz=>by
 obtain⟨o,es,ep,e,_⟩:=I.mod.glob;have:=(I.bs _ _ e).2;rw[z,hP]at this;cases this
theorem Zgl {P0:xz}{w:World}{H':Hp}{h:Heap}{a:Addr}{φ:Heap->Prop}(h1:φ h)(h2:∃o,h.get? a=some o)(h3:∀h1 h2:Heap,φ h1->(∀o,h1.get? a=some o->h2.get? a=some o)->φ h2):Yn P0 w H' h a (.ext φ):=⟨h1,h2,h3⟩
theorem fnφ_keep {p:Addr}{fd:xy}:∀h1 h2:Heap,fnφ p fd h1->(∀o,h1.get? p=some o->h2.get? p=some o)->fnφ p fd h2:=λh1 h2 ⟨oc,od,sl,e⟩ k=>⟨oc,od,sl,k _ e⟩
theorem codeφ_keep {p:Addr}{q:Str}:∀h1 h2:Heap,codeφ p q h1->(∀o,h1.get? p=some o->h2.get? p=some o)->codeφ p q h2:=λh1 h2 ⟨a,o,vs,t,e,e1,r⟩ k=>by
 cases e
 exact⟨p,o,vs,t,rfl,k _ e1,r⟩
theorem codeφ_there {p:Addr}{q:Str}{h:Heap}(x:codeφ p q h):∃o,h.get? p=some o:=by
 obtain⟨a,o,vs,t,e,e1,r⟩:=x
 cases e
 exact⟨o,e1⟩
theorem Zla {h':Heap}{tk:Nat}{c':Addr}{more:Array Value}{q:Str}(I:Inv X jC σ H s)(hP:H P=some (.tbl ps))(hx:qbp P s.heap h')(hge:s.heap.objs.size<=c')(hc:h'.CodeRec (.ref c') q)(ht:h'.get? P=some (qbc (ps++more))) :
  Inv X jC σ (Zl (Zl H P (.tbl (ps++more))) c' (.ext (codeφ c' q))) { s with heap:=h',toks:=tk }/\H c'=none/\c'≠P:=by
 have hc0:H c'=none:=I.hok.fresh hge;have hcP:c'≠P:=λz=>by rw[z,hP]at hc0;cases hc0
 have old:∀{b:Addr} {u:HO},H b=some u->b≠c':=λe z=>by rw[z,hc0]at e;cases e
 have get:∀{b:Addr} {u:HO},H b=some u->b≠P->Zl (Zl H P (.tbl (ps++more))) c' (.ext (codeφ c' q)) b=some u:=λ{b u} e n=>by rw[Zx (old e),Zx n];exact e
 refine⟨I.call (g':=s.gens) (d':=s.drawn) (ch:=[]) ?_ ?_ I.bare (λb hb=>absurd hb (by simp)),hc0,hcP⟩
 ·refine⟨λb o e n _ _=>hx b o (λz=>by rw[z,hP]at n;cases n) e,λb o e n _ _=>⟨o.slots,hx b o (λz=>by rw[z,hP]at n;cases n) e⟩,λb o e n _=>?_,λb o e _=>?_,λb xs e=>get e (λz=>by rw[z,hP]at e;cases e),λb o u e=>get e (λz=>by rw[z,hP]at e;cases e),λb ps' e=>?_⟩
  ·rw[Zx (qR (zd (qJ e) hge)),Zx (λz=>by rw[z,hP]at n;cases n)];exact n
  ·by_cases hb:b=P
   ·exact⟨_,hb▸ht⟩
   ·exact⟨o,hx b o hb e⟩
  ·by_cases hb:b=P
   ·subst hb
    rw[hP]at e;cases e;exact⟨more,by rw[Zx (old hP),ZW]⟩
   ·exact⟨#[],by rw[get e hb];simp⟩
 ·intro a o e
  by_cases ha:a=c'
  ·subst ha
   rw[ZW]at e;cases e;exact Zgl hc (codeφ_there hc) codeφ_keep
  ·rw[Zx ha]at e
   by_cases hb:a=P
   ·subst hb
    rw[ZW]at e;cases e;exact ht
   ·rw[Zx hb]at e
    refine(I.hok a o e).stay (λb u hb' r=>hx b u ?_ r) (λb r=>get r (λz=>by rw[z,hP]at r;cases r)) λb xs r=>get r (λz=>by rw[z,hP]at r;cases r);rcases hb' with rfl | hb'
    ·exact hb
    ·intro z;rw[z,hP]at hb';cases hb'
structure CloOf (X:Cx)(scope:Scope)(cl:List (Str×Addr)):Prop where
 of:∀x c,cl.lookup x=some c->X.env.cells.lookup x=some c
 has:∀y∈scope.names,y.2=.free->∃c,cl.lookup y.1=some c
theorem Zlb {scope:Scope}(ok:X.Ok)(hfree:∀y∈scope.names,y.2=.free->X.env.kindOf y.1=some .cell∨X.env.kindOf y.1=some .free):∃cl,closureFor scope X.env=pure cl/\CloOf X scope cl:=by
 obtain⟨cl,q1,q2,q3,q4⟩:=BN (env:=X.env) scope.names [] (λy hy hf=>ok.has y.1 (hfree y hy hf)) (λx c h=>by simp at h);refine⟨cl,?_,q2,q4⟩;unfold closureFor;show(forIn scope.names [] _ >>= _)=_;rw[show(forIn scope.names ([]:List (Str×Addr)) λ(x:Str×NameKind) (r:List (Str×Addr))=>_)=_ from q1];rfl
theorem ZmT {params:Arguments}{body:Expr}{scope:Scope}{lpos:Pos}{q:Str}(M:Mk0 X c P)(hq:X.env.qual ++ "<lambda>" = q)(hfree:∀y∈scope.names,y.2=.free->X.env.kindOf y.1=some .cell∨X.env.kindOf y.1=some .free)(hdef:defaultsOf params X.env=([],[]):=by rfl) :
  PE X (.Lambda params body scope lpos) (fun σ H Q=>ZnN P q lpos (λfd c'=>∃cl pm ctv,CloOf X scope cl/\fd=yY "<lambda>" q params body scope cl pm (.ref c') ctv) H λp _ _ H'=>Q (.ref p) H'):=by
 intro jC s σ H Q I ⟨ps,hP,ht,hhit,h⟩;obtain⟨cl,hcl,co⟩:=Zlb I.ok hfree;have hP':s.heap.get? P=some (qbc ps):=I.hok P _ hP;have hg:s.heap.Ns mainGlobals X.mg:=I.mod.glob.keeps I.bk;have hb:=M.bat I hP;refine PySem.W.kla_eval hdef ?_;rw[hq]
 cases hc:codeAmong lpos ps.toList with
 | some cv=>
  obtain⟨c',rfl,hc'⟩:=hhit cv hc;refine PySem.W.kla_makeFunctionHit hcl I.ok.glob hg M.code (M.hd.keeps I.bk) hP' ht hc hb λctv h' tk hk hsz=>?_;refine⟨.ref h'.objs.size,Zl H h'.objs.size (.ext (fnφ _ _)),I.laid (t':=tk) (λb u e=>qf _ (hk b u e)) hsz (Zgl ⟨_,_,_,qI _ rfl⟩ ⟨_,qI _ rfl⟩ fnφ_keep),rfl,h _ c' _ H ⟨cl,_,_,co,rfl⟩ (.inl ⟨rfl,hc,hc'⟩) (I.hok.fresh hsz)⟩
 | none=>
  refine PySem.W.kla_makeFunction hcl I.ok.glob hg M.code (M.hd.keeps I.bk) hP' ht hc (gne I hP) hb λc' ctv h' tk hx hge hlt hrec htb=>?_;obtain⟨I1,hc0,hcP⟩:=Zla (tk:=tk) I hP hx hge hrec htb;refine⟨.ref h'.objs.size,Zl _ h'.objs.size (.ext (fnφ _ _)),I1.laid (t':=tk) (λb u e=>qf _ e) (qm _) (Zgl ⟨_,_,_,qI _ rfl⟩ ⟨_,qI _ rfl⟩ fnφ_keep),rfl,h _ c' _ _ ⟨cl,_,_,co,rfl⟩ (.inr ⟨hc,hc0,hcP,rfl⟩) (I1.hok.fresh (qm _))⟩
end
structure Cells (X:Cx)(σ:St)(base':Heap):Prop where
 inj:∀x y c,X.env.cells.lookup x=some c->X.env.cells.lookup y=some c->x=y
 cell:∀x c,X.env.cells.lookup x=some c->∃v,base'.IsCell c v
 has:∀x,(X.env.kindOf x=some .cell∨X.env.kindOf x=some .free)->∃c,X.env.cells.lookup x=some c
 val:∀(i:Nat) (x:Str) (v:V),X.N[i]?=some x->σ[i]?=some (some v)->X.env.kindOf x=some .cell->∃c u,X.env.cells.lookup x=some c/\base'.IsCell c (some u)/\ZH v u
section
variable {X:Cx}{jC:Qb}{σ:St}{H:Hp}{s:Shared}
noncomputable def Bf (X:Cx):List Addr:=X.env.cells.filterMap λp=>X.env.cells.lookup p.1
theorem Zh8 {x:Str}{c:Addr}(e:X.env.cells.lookup x=some c):c∈Bf X:=qaD.mpr ⟨(x,c),zM e,e⟩
theorem Zfc {c:Addr}(h:c∈Bf X):∃x,X.env.cells.lookup x=some c:=by
 obtain⟨p,_,e⟩:=qaD.mp h;exact⟨p.1,e⟩
theorem Zh9 (I:Inv X jC σ H s)(hfn:∀x,X.fn x=true):Env0 X.prog X.w X.K X.mg (Vd s.heap X.base (Bf X)) X.A X.stack s H/\Cells X σ (Vd s.heap X.base (Bf X)):=by
 have cellK:∀x c v,X.env.cells.lookup x=some c->s.heap.IsCell c v->(Vd s.heap X.base (Bf X)).IsCell c v:=λx c v e ⟨o,ho,hd⟩=>⟨o,Zfb ho (.inr (Zh8 e)),hd⟩;refine⟨Env0.more I.env0 (λb hb=>?_) λb hb hf=>?_,⟨I.ok.inj,λx c e=>?_,I.ok.has,λi x v h1 h2 h3=>?_⟩⟩
 ·obtain⟨x,e⟩:=Zfc hb
  exact I.freeC x b e
 ·obtain⟨x,e⟩:=Zfc hb
  rcases qq.mp (I.stkSub b hf)with z | z
  ·exact I.cne x b e z
  ·obtain⟨_,o,ho,_⟩:=I.ok.funs.mem z
   exact absurd (zd (qJ ho) (I.ok.cab x b (hfn x) e)) (yC _)
 ·obtain⟨v,q⟩:=I.cell x c e
  exact⟨v,cellK x c v e q⟩
 ·obtain⟨m,_,hl⟩:=I.loc
  obtain⟨u,r,l⟩:=hl i x v h1 h2 (.inr (.inl h3));rcases l with⟨hk,_⟩ | ⟨_,c,hc,hcell⟩
  ·rw[h3]at hk;cases hk
  ·exact⟨c,u,hc,cellK x c _ hc hcell,r⟩
theorem Zjn {x:Str}{p pos:Pos}{e:Expr}{es:List Expr}{t:TA}{k:Nat}{f:Addr}{fd:xy}{ps:List Str}{sp:Heap->Sp}(F:∀base,FnOk X.prog X.w X.K X.mg base ZV k f fd ps (sp base))(hfn:∀x,X.fn x=true)(hr:Room k X.A)(hg:Gl X x)(hm:X.mg x=some (.ref f))(hk:yI X.K (.ref f)=true)(hb:Wf X.K fd ps [])
  (ha:PA X (e::es) t) (hdb:(x==("__debug__" : Str))=false:=by decide) (he:xh (e::es) X.env=(false,eval e X.env)::xh es X.env:=by rfl) (hpl:(backTo pos (xh es X.env)).any (·.1)=false:=by rfl) :
  PE X (.Call (.Name x p) (e::es) [] pos) (fun σ H Q=>t σ H λvs H1=>∀base',Cells X σ base'->sp base' vs H1 Q E0):=by
 intro jC s σ H Q I h;refine wpAny_Call_Name_kw (ZgY I hg hm ?_ hdb);refine PySem.W.callWith_K (h₀:=X.base) I.ok.mod.kin hk (ZM (ha pos jC s σ H _ I h) λus s1 ⟨vs,H1,I1,r,q⟩=>⟨I1.kIn,?_⟩) he hpl;obtain⟨e0,cs⟩:=Zh9 I1 hfn;have q':=q _ cs;have hl:(us ++ []).length=ps.length:=by rw[zq,<-r.length];exact(F _).len _ _ _ _ q'
 refine xu (codeAny_mono ((F _).run X.A X.stack s1 H1 ⟨us,[]⟩ us vs Q E0 hr e0 (by have:=hb s1 us I1.kIn hl;rw[zq]at this;exact this) r q') λr s' hq=>?_)
 cases r with
 | error e=>exact hq.elim
 | ok fl=>
  cases fl with
  | ret u=>exact I1.after hq
  | next=>exact yq hq
  | brk=>exact yq hq
  | cont=>exact yq hq
theorem Zjo {x:Str}{p pos:Pos}{e:Expr}{es:List Expr}{t:TA}{k i:Nat}(hf:PE X (.Name x p) (YG i))(hr:Room k X.A)(ha:PA X (e::es) t)
  (he:xh (e::es) X.env=(false,eval e X.env)::xh es X.env:=by rfl) (hpl:(backTo pos (xh es X.env)).any (·.1)=false:=by rfl) :
  PE X (.Call (.Name x p) (e::es) [] pos) (fun σ H Q=>∃f fd ps sp,σ[i]?=some (some (.ref f))/\Wf X.K fd ps []/\FnOk X.prog X.w X.K X.mg X.base ZV k f fd ps sp/\(∀h:Heap,Yi X.prog X.w H h->X.K.In h->fnφ f fd h)/\
   t σ H λvs H1=>(∀h:Heap,Yi X.prog X.w H1 h->X.K.In h->fnφ f fd h)/\sp vs H1 Q E0):=by
 intro jC s σ H Q I ⟨f,fd,ps,sp,e,hb,F,h0,h⟩;refine wpAny_Call_Name_kw (ZM (hf jC s σ H (λv H'=>v=.ref f/\H'=H) I ⟨_,e,rfl,rfl⟩) λu s1 ⟨v,H1,I1,rv,ev,eH⟩=>?_);subst ev eH
 cases (show u=qT f from rv)
 have at1:∀{jC σ H s},Inv X jC σ H s->(∀h:Heap,Yi X.prog X.w H h->X.K.In h->fnφ f fd h)->PySem.W.FnAt f s.heap:=λI z=>by
  obtain⟨oc,od,sl,q⟩:=z _ I.hok I.kIn;exact⟨oc,od,fd,sl,q⟩
 refine PySem.W.callWith_F (at1 I1 h0) (ZM (ha pos jC s1 σ _ _ I1 h) λus s2 ⟨vs,H2,I2,r,h2,q⟩=>⟨at1 I2 h2,?_⟩) he hpl;exact ZiV F hr hb .nil Zl2 I2 r (by rw[zq];exact q)
end
mutual
noncomputable def Yw:D->Bool
 | .tup ds=>Y6 ds
 | .lst ds=>Y6 ds
 | .clo _ _=>false
 | _=>true
noncomputable def Y6:List D->Bool
 | []=>true
 | d::ds=>Yw d&&Y6 ds
end
mutual
theorem Zj.re {G G':Gh}{H:Hp}(hf:G'.fp=G.fp)(hp:G'.pen=G.pen):∀{d:D} {v:V},Yw d=true->Zj G H d v->Zj G' H d v
 | .non,_,_,h=>jg.mpr (jg.mp h)
 | .bl _,_,_,h=>je.mpr (je.mp h)
 | .int _,_,_,h=>ja.mpr (ja.mp h)
 | .str _,_,_,h=>jh.mpr (jh.mp h)
 | .tup ds,v,n,h=>by
  obtain⟨a,vs,e1,nf,e2,r⟩:=jc.mp h;exact jc.mpr ⟨a,vs,e1,by rw[hf];exact nf,e2,Zi.re hf hp (by simpa[Yw]using n) r⟩
 | .lst ds,v,n,h=>by
  obtain⟨a,vs,e1,nf,e2,r⟩:=jb.mp h;exact jb.mpr ⟨a,vs,e1,by rw[hf];exact nf,e2,Zi.re hf hp (by simpa[Yw]using n) r⟩
 | .dk _,_,_,h=>by
  obtain⟨a,e1,nf,e2⟩:=jj.mp h;exact jj.mpr ⟨a,e1,by rw[hf];exact nf,e2⟩
 | .dt _,_,_,h=>by
  obtain⟨a,o,e1,nf,e2⟩:=jk.mp h;exact jk.mpr ⟨a,o,e1,by rw[hf];exact nf,e2⟩
 | .du _,_,_,h=>by
  obtain⟨a,e1,nf,e2⟩:=jl.mp h;exact jl.mpr ⟨a,e1,by rw[hf];exact nf,e2⟩
 | .df _,_,_,h=>by
  obtain⟨a,o,e1,nf,e2⟩:=js.mp h;exact js.mpr ⟨a,o,e1,by rw[hf];exact nf,e2⟩
 | .pen,_,_,h=>jp.mpr ((jp.mp h).trans hp.symm)
 | .ty _,_,_,h=>jq.mpr (jq.mp h)
 | .clo _ _,_,n,_=>by simp[Yw]at n
theorem Zi.re {G G':Gh}{H:Hp}(hf:G'.fp=G.fp)(hp:G'.pen=G.pen):∀{ds:List D} {vs:List V},Y6 ds=true->Zi G H ds vs->Zi G' H ds vs
 | [],_,_,h=>Zi.nil_iff.mpr (Zi.nil_iff.mp h)
 | d::ds,vs,n,h=>by
  obtain⟨v,r,e,h1,h2⟩:=jd.mp h;have n':Yw d=true/\Y6 ds=true:=by simpa[Y6]using n
  exact jd.mpr ⟨v,r,e,Zj.re hf hp n'.1 h1,Zi.re hf hp n'.2 h2⟩
end
theorem Gr.re {G G':Gh}{Hf H Hf' H':Hp}(hf:G'.fp=G.fp)(g:Gr G Hf H Hf' H'):Gr G' Hf H Hf' H':=
 ⟨λb o n=>g.hh b o (by rw[<-hf];exact n),λb o n=>g.ff b o (by rw[<-hf];exact n),λb o n=>g.fh b o (by rw[<-hf];exact n),λb n=>g.nw b (by rw[<-hf];exact n)⟩
theorem Zz.re {G G':Gh}{H H':Hp}(hf:G'.fp=G.fp)(g:Zz G H H'):Zz G' H H':=λb o n=>g b o (by rw[<-hf];exact n)
theorem Ye.re {G G':Gh}{H Hf':Hp}{d:D}{v:V}(hf:G'.fp=G.fp)(hp:G'.pen=G.pen)(n:Yw d=true)(h:Ye G H Hf' d v):Ye G' H Hf' d v:=λa e m=>by
 obtain⟨h1,h2⟩:=h a e m;refine⟨h1,λds ed=>?_⟩;obtain⟨vs,Hm,q1,q2,q3,q4⟩:=h2 ds ed;subst ed;exact⟨vs,Hm,q1,q2,q3.re hf,q4.re hf hp (by simpa[Yw]using n)⟩
noncomputable def spK (n:Nat)(G:Gh)(cvs:List V)(F:List D->M D):Sp:=λus H Q _=>∃(Hf:Hp) (ds cds:List D) (s:Pn) (d:D) (s':Pn),us.length=n/\Zz G Hf H/\Zi G Hf ds us/\Zi G Hf cds cvs/\G.st s H/\F (ds++cds) s=some (d,s')/\
 ∀v Hf' H',Gr G Hf H Hf' H'->G.st s' H'->Zj G Hf' d v->Q v H'
noncomputable def UM (P:xz)(w:World)(K:qk)(mg:Str->Option Value)(k n:Nat)(T:Nat->List D->M D)(base:Heap)(G:Gh):Prop:=
 ∀t v cvs,G.clo t v cvs->∃f fd ps,v=.ref f/\ps.length=n/\Wf K fd ps []/\(∀s H,G.st s H->∀h:Heap,Yi P w H h->K.In h->fnφ f fd h)/\FnOk P w K mg base ZV k f fd ps (spK n G cvs (T t))
noncomputable def Br (T:Nat->List D->M D)(i:Nat)(fs:Zb->M (List D)):Zb->M D:=fun ρ=>Zp (Za i ρ) λc=>Zp (fs ρ) λds=>match c with | .clo t cds=>T t (ds++cds) | _=>ZE
theorem Zia {i:Nat}{ρ:Zb}{s s':Pn}{d:D}(h:Za i ρ s=some (d,s')):ρ[i]?=some (some d)/\s'=s:=by
 obtain⟨e,rfl⟩:=WZ h;refine⟨?_,rfl⟩
 cases q:ρ[i]? with
 | none=>rw[q]at e;cases e
 | some o=>rw[q]at e;simp at e;rw[e]
section
variable {X:Cx}{G:Gh}
theorem Zjp {T:Nat->List D->M D}{k n i:Nat}{x:Str}{p pos:Pos}{e:Expr}{es:List Expr}{fs:Zb->M (List D)}(hG:UM X.prog X.w X.K X.mg k n T X.base G)(hr:Room k X.A)(hf:PE X (.Name x p) (YG i))(ha:Wy X G (e::es) fs)
  (hal:∀ρ s ds s',fs ρ s=some (ds,s')->ds.length=(e::es).length) (jM:(e::es).length=n:=by rfl)
  (he:xh (e::es) X.env=(false,eval e X.env)::xh es X.env:=by rfl) (hpl:(backTo pos (xh es X.env)).any (·.1)=false:=by rfl) :
  PD X G false (.Call (.Name x p) (e::es) [] pos) (Br T i fs):=by
 obtain⟨t,pa,qa⟩:=ha;refine⟨_,Zjo hf hr pa he hpl,fun σ Hf H ρ s d s' Q e1 e2 e3 e4 k=>?_⟩;obtain⟨c,s0,b0,b1⟩:=ZG e4;obtain⟨a0,rfl⟩:=Zia b0;obtain⟨ds,s1,a1,a2⟩:=ZG b1
 cases c with
 | clo t cds=>
  obtain⟨v,hσ,r⟩:=e2 i _ a0;obtain⟨cvs,hc,rc⟩:=jv.mp r;obtain⟨f,fd,ps,rfl,hl,hb,hat,F⟩:=hG t v cvs hc;refine⟨f,fd,ps,_,hσ,hb,F,hat _ H e3,qa σ Hf H ρ _ ds s1 _ e1 e2 e3 a1 λvs jQ H1 g1 jT r1=>⟨hat _ H1 jT,jQ,ds,cds,s1,d,s',?_,g1.fh,r1,rc.ext g1.ff,jT,a2,λv jX H2 g2 jO r2=>k v jX H2 (g1.trans g2) jO r2 (λz=>by cases z)⟩⟩;rw[<-r1.length,hal _ _ _ _ a1];exact jM
 | _=>cases a2
end
noncomputable def VS (n:Nat)(f:Zb->M D):List D->M D:=λds=>if ds.length=n then f (ds.map some)else ZE
theorem Zlc {G:Gh}{Hf:Hp}{ds:List D}{vs:List V}(r:Zi G Hf ds vs):YB G Hf (vs.map some) (ds.map some):=λi d e=>by
 rw[qC]at e
 cases q:ds[i]? with
 | none=>rw[q]at e;cases e
 | some d'=>
  rw[q]at e;cases e;obtain⟨v,h1,h2⟩:=r.get q;exact⟨v,by rw[qC,h1];rfl,h2⟩
theorem fnKE {P:xz}{w:World}{K:qk}{mg:Str->Option Value}{base:Heap}{k:Nat}{f:Addr}{name qual:Str}{params:Arguments}{body:Expr}{scope:Scope}{cl:List (Str×Addr)}{pm ct:Value}{c':Addr}{N ps:List Str}{cvs:List V}{G:Gh}{fr:Bool}{fe:Zb->M D}
  (S:CloScope N ps scope) (C:CloAt base cl scope N ps cvs) (hG:∀s H,G.st s H->H f=some (.ext (fnφ f (yY name qual params body scope cl pm (.ref c') ct)))/\H c'=some (.ext (codeφ c' qual)))
  (hb:∀(A:xA) (outer:List Env) (s:Shared) (H:Hp) (E:XK),Room k (A.deeper (qab qual scope s.heap.objs.size f (.ref c') cl))->PD (BC ZV P w K mg base N qual scope f (.ref c') cl A outer s H E).nox G fr body fe) :
  FnOk P w K mg base ZV (k+1) f (yY name qual params body scope cl pm (.ref c') ct) ps (spK ps.length G cvs (VS N.length fe)):=by
 refine Zk9 (cvs:=cvs) S C (λvs H Q E ⟨_,_,_,_,_,_,h,_⟩=>h) (λvs H Q E ⟨_,_,_,s,_,_,_,_,_,_,st,_⟩=>hG s H st) λA outer s H vs Q E hr h=>?_;obtain⟨Hf,ds,cds,pn,d,pn',el,e1,r1,r2,st,eF,k'⟩:=h;obtain⟨t,p,q⟩:=hb A outer s H E hr;refine⟨t,p.nox,?_⟩;obtain⟨hl,a0⟩:=Xj eF;have env:=Zlc (r1.append r2);rw[zK]at env;exact q _ Hf H _ pn d pn' Q e1 env st a0 λv Hf' H' g st' r _=>k' v Hf' H' g st' r
structure TabG (P:Addr)(q:Str)(G:Gh):Prop where
 get:∀s H,G.st s H->∃ps,H P=some (.tbl ps)/\TriplesOk ps.toList/\∀pos cv,codeAmong pos ps.toList=some cv->∃c',cv=.ref c'/\H c'=some (.ext (codeφ c' q))/\¬G.fp c'
 fp:G.fp P
 put:∀s H ps (pos:Pos) c',G.st s H->H P=some (.tbl ps)->H c'=none->codeAmong pos ps.toList=none->G.st s (Zl (Zl H P (.tbl (ps ++ #[rawInt pos.line,rawInt pos.col,.ref c']))) c' (.ext (codeφ c' q)))
noncomputable def Wv (G:Gh)(t:Nat)(p c':Addr)(fd:xy)(q:Str)(cvs:List V):Gh where
 fp:=G.fp
 rd:=G.rd
 pen:=G.pen
 st:=λs H=>G.st s H/\H p=some (.ext (fnφ p fd))/\H c'=some (.ext (codeφ c' q))
 mono:=λs H H' ⟨h1,h2,h3⟩ k1 k2=>⟨G.mono s H H' h1 k1 k2,k2 _ _ h2,k2 _ _ h3⟩
 sub:=G.sub
 dom:=λs H b h=>G.dom s H b h.1
 ntp:=λs H b vs h=>G.ntp s H b vs h.1
 clo:=λt' v cs=>t'=t/\v=.ref p/\cs=cvs
noncomputable def UN (P:xz)(w:World)(K:qk)(mg:Str->Option Value)(k:Nat)(x:Str)(n:Nat)(fr:Bool)(GG:Heap->Gh->Prop)(F:List D->M D):Prop:=
 ∃f fd ps,(∀base,FnOk P w K mg base ZV k f fd ps (Yl n fr (GG base) F))/\mg x=some (.ref f)/\yI K (.ref f)=true/\Wf K fd ps []
theorem UN.mono {P:xz}{w:World}{K:qk}{mg:Str->Option Value}{j k:Nat}{x:Str}{n:Nat}{fr:Bool}{GG:Heap->Gh->Prop}{F:List D->M D}(c:UN P w K mg j x n fr GG F)(h:j<=k:=by decide):UN P w K mg k x n fr GG F:=
 let ⟨f,fd,ps,a,b,c,d⟩:=c
 ⟨f,fd,ps,λbase=>(a base).mono h,b,c,d⟩
structure CapS (X:Cx)(XN:List Str)(NS:List (Str×NameKind))(N ps:List Str)(cix:List Nat)(scope:Scope):Prop where
 xn:X.N=XN
 ns:X.env.scope.names=NS
 len:N.length=ps.length+cix.length
 at_:(cix.zip (N.drop ps.length)).all (λp=>decide (XN[p.1]?=some p.2)&&decide (NS.lookup p.2=some .cell)&&decide (scope.names.lookup p.2=some .free))=true
 free:∀y∈scope.names,y.2=.free->NS.lookup y.1=some .cell∨NS.lookup y.1=some .free
theorem CapS.hfree {X:Cx}{XN:List Str}{NS:List (Str×NameKind)}{N ps:List Str}{cix:List Nat}{scope:Scope}(B:CapS X XN NS N ps cix scope):∀y∈scope.names,y.2=.free->X.env.kindOf y.1=some .cell∨X.env.kindOf y.1=some .free:=λy hy hf=>by
 have:=B.free y hy hf;rw[<-B.ns]at this;exact this
theorem CapS.cloAt {X:Cx}{XN:List Str}{NS:List (Str×NameKind)}{N ps:List Str}{cix:List Nat}{scope:Scope}{σ:St}{base':Heap}{cl:List (Str×Addr)}{cvs:List V}(B:CapS X XN NS N ps cix scope)(cs:Cells X σ base')(co:CloOf X scope cl)(hl:cvs.length=cix.length)
  (hv:∀(i j:Nat) (v:V),cix[i]?=some j->cvs[i]?=some v->σ[j]?=some (some v)):CloAt base' cl scope N ps cvs:=by
 refine⟨λx y c h1 h2=>cs.inj x y c (co.of x c h1) (co.of y c h2),λx c h=>cs.cell x c (co.of x c h),λx h=>co.has (x,.free) (zM h) rfl,λi x v h1 h2=>?_,by rw[B.len,hl]⟩;have hi:i<cix.length:=by rw[<-hl];exact(qu.mp h2).1
 have hj:cix[i]?=some cix[i]:=qD hi;have hx:(N.drop ps.length)[i]?=some x:=by rw[zR];exact h1
 have q:=yF.mp B.at_ (cix[i],x) (zu (i:=i) (ym.mpr ⟨hj,hx⟩));simp only[zi,decide_eq_true_eq]at q;obtain⟨⟨q1,q2⟩,q3⟩:=q;refine⟨q3,?_⟩;obtain⟨c,u,e1,e2,e3⟩:=cs.val cix[i] x v (by rw[B.xn];exact q1) (hv i _ v hj h2) (by show X.env.scope.names.lookup x=_;rw[B.ns];exact q2);obtain⟨c2,e4⟩:=co.has (x,.free) (zM q3) rfl;have e5:=co.of x c2 e4;rw[e1]at e5;cases e5;exact⟨c,u,e4,e2,e3⟩
noncomputable def U9 (ρ:Zb):List Nat->Option (List D)
 | []=>some []
 | i::r=>((ρ[i]?).bind id).bind λd=>(U9 ρ r).map (d :: ·)
theorem Zfd {G:Gh}{Hf:Hp}{σ:St}{ρ:Zb}(e:YB G Hf σ ρ):∀{cix:List Nat} {cds:List D},U9 ρ cix=some cds->∃cvs,cvs.length=cix.length/\Zi G Hf cds cvs/\∀(i j:Nat) (v:V),cix[i]?=some j->cvs[i]?=some v->σ[j]?=some (some v)
 | [],cds,h=>by cases h;exact⟨[],rfl,Zi.nil_iff.mpr rfl,λi j v h1=>by simp at h1⟩
 | a::r,cds,h=>by
  unfold U9 at h
  cases q:(ρ[a]?).bind id with
  | none=>rw[q]at h;cases h
  | some d=>
   rw[q]at h
   cases q2:U9 ρ r with
   | none=>rw[q2]at h;cases h
   | some ds=>
    rw[q2]at h;cases h;obtain⟨v,h1,h2⟩:=e a d (by
     cases q3:ρ[a]? with
     | none=>rw[q3]at q;cases q
     | some o=>rw[q3]at q;simp at q;rw[q])
    obtain⟨cvs,l1,l2,l3⟩:=Zfd e q2;refine⟨v::cvs,by simp[l1],Zi.cons h2 l2,λi j u e1 e2=>?_⟩
    cases i with
    | zero=>simp at e1 e2;subst e1;subst e2;exact h1
    | succ i=>exact l3 i j u (by simpa using e1) (by simpa using e2)
noncomputable def Bt (F:List D->M D)(t:Nat)(cix:List Nat)(f:Zb->M D):Zb->M D:=fun ρ=>Zp (f ρ) λd=>Zp (YZ (U9 ρ cix)) λcds=>if (Yw d&&Y6 cds)=true then Zp (F [d,.clo t cds]) λc=>if Yw c=true then ZB c else ZE else ZE
section
variable {X:Cx}{G:Gh}{P c:Addr}{q:Str}
theorem Zld {lpos:Pos}{ps:Array Value}{H Hm:Hp}{c':Addr}{s:Pn}(TG:TabG P q G)(st:G.st s H)(hP:H P=some (.tbl ps))(sl:Slot P q lpos ps H Hm c'):G.st s Hm/\Hm c'=some (.ext (codeφ c' q))/\Zz G H Hm:=by
 rcases sl with⟨rfl,h1,h2⟩ | ⟨h1,h2,h3,rfl⟩
 ·exact⟨st,h2,.refl _ _⟩
 ·refine⟨TG.put s H ps lpos c' st hP h2 h1,ZW,λb o n e=>?_⟩
  rw[Zx (Yq e h2),Zx (λz=>n (by rw[z];exact TG.fp))];exact e
theorem Zle {Hf H Hm:Hp}{p:Addr}{o:HO}(e1:Zz G Hf H)(ex:Zz G H Hm)(hp:Hm p=none):Gr G Hf H Hf (Zl Hm p o):=by
 have hh:Zz G H (Zl Hm p o):=λb u n e=>by
  have:=ex b u n e;rw[Zx (Yq this hp)];exact this
 exact⟨hh,.refl _ _,e1.trans hh,λ_ _ h _=>h⟩
theorem ZmU {base':Heap}{k:Nat}{T:Nat->List D->M D}{t:Nat}{p c':Addr}{fd:xy}{cvs:List V}{ps:List Str}{F:List D->M D}(hb:Wf X.K fd ps [])(hF:FnOk X.prog X.w X.K X.mg base' ZV k p fd ps (spK ps.length (Wv G t p c' fd q cvs) cvs F))(hT:T t=F) :
  UM X.prog X.w X.K X.mg k ps.length T base' (Wv G t p c' fd q cvs):=by
 rintro t' v cs ⟨rfl,rfl,rfl⟩;exact⟨p,fd,ps,rfl,rfl,hb,λs H st h ok _=>fnφ_at ok st.2.1,by rw[hT];exact hF⟩
variable {k kl:Nat}{x:Str}{fr frb:Bool}{F:List D->M D}{T:Nat->List D->M D}{t:Nat}{e1:Expr}{f1:Zb->M D}{r1:Bool}{params:Arguments}{scope:Scope}{lpos ppos pos:Pos}{XN N ps:List Str}{NS:List (Str×NameKind)}{cix:List Nat}
theorem ofC {t:Nat}{p c':Addr}{fd:xy}{cvs:List V}{H:Hp}{d:D}{v:V}(n:Yw d=true)(r:Zj (Wv G t p c' fd q cvs) H d v):Zj G H d v:=Zj.re (G:=Wv G t p c' fd q cvs) (G':=G) rfl rfl n r
theorem toC {t:Nat}{p c':Addr}{fd:xy}{cvs:List V}{H:Hp}{d:D}{v:V}(n:Yw d=true)(r:Zj G H d v):Zj (Wv G t p c' fd q cvs) H d v:=Zj.re (G:=G) (G':=Wv G t p c' fd q cvs) rfl rfl n r
theorem toCL {t:Nat}{p c':Addr}{fd:xy}{cvs:List V}{H:Hp}{d:List D}{v:List V}(n:Y6 d=true)(r:Zi G H d v):Zi (Wv G t p c' fd q cvs) H d v:=Zi.re (G:=G) (G':=Wv G t p c' fd q cvs) rfl rfl n r
theorem grC {t:Nat}{p c':Addr}{fd:xy}{cvs:List V}{Hf H Hf' H':Hp}(g:Gr (Wv G t p c' fd q cvs) Hf H Hf' H'):Gr G Hf H Hf' H':=Gr.re (G:=Wv G t p c' fd q cvs) (G':=G) rfl g
theorem frC {t:Nat}{p c':Addr}{fd:xy}{cvs:List V}{H Hf':Hp}{d:D}{v:V}(n:Yw d=true)(h:Ye (Wv G t p c' fd q cvs) H Hf' d v):Ye G H Hf' d v:=Ye.re (G:=Wv G t p c' fd q cvs) (G':=G) rfl rfl n h
theorem Zcu {body:Expr}{fe:Zb->M D}(M:Mk0 X c P)(TG:TabG P q G)(hW:UN X.prog X.w X.K X.mg k x 2 fr (UM X.prog X.w X.K X.mg (kl+1) ps.length T) F)(hfn:∀x,X.fn x=true)(hr:Room k X.A)(hg:Gl X x)(h1:PD X G r1 e1 f1)
  (hq:X.env.qual ++ "<lambda>" = q) (S:CloScope N ps scope) (B:CapS X XN NS N ps cix scope) (hT:T t=VS N.length fe)
  (hbind:∀(cl:List (Str×Addr)) (pm cd ct:Value) (us:List Value),us.length=ps.length->bindArgs (yY "<lambda>" q params body scope cl pm cd ct) ⟨us,[]⟩=pure (ps.zip us))
  (hb:∀(base:Heap) (f c':Addr) (cl:List (Str×Addr)) (G:Gh) (A:xA) (outer:List Env) (s:Shared) (H:Hp) (E:XK),Room kl (A.deeper (qab q scope s.heap.objs.size f (.ref c') cl))->PD (BC ZV X.prog X.w X.K X.mg base N q scope f (.ref c') cl A outer s H E).nox G frb body fe)
  (hdef:defaultsOf params X.env=([],[]):=by rfl) (hdb:(x==("__debug__" : Str))=false:=by decide)
  (he:xh [e1,.Lambda params body scope lpos] X.env=(false,eval e1 X.env)::xh [.Lambda params body scope lpos] X.env:=by rfl) (he2:xh [Expr.Lambda params body scope lpos] X.env=(false,eval (.Lambda params body scope lpos) X.env)::xh [] X.env:=by rfl)
  (hpl:(backTo pos (xh [Expr.Lambda params body scope lpos] X.env)).any (·.1)=false:=by rfl) :
  PD X G fr (.Call (.Name x ppos) [e1,.Lambda params body scope lpos] [] pos) (Bt F t cix f1):=by
 obtain⟨t1,p1,q1⟩:=h1.drop;obtain⟨f,fd0,ps0,FN,hm,hk,hbd⟩:=hW;refine⟨_,Zjn FN hfn hr hg hm hk hbd (YU p1 (YU (ZmT M hq B.hfree hdef) Xt he2) he) hdb he hpl,fun σ Hf H ρ s d s' Q x1 x2 x3 x4 k=>?_⟩;obtain⟨d1,s1,a1,a2⟩:=ZG x4;obtain⟨cds,s2,b3,a4⟩:=ZG a2;obtain⟨a3,rfl⟩:=WZ b3;obtain⟨hn,a5⟩:=Xj a4;obtain⟨cc,s3,a6,a7⟩:=ZG a5;obtain⟨hn2,a8⟩:=Xj a7;obtain⟨rfl,rfl⟩:=ZR a8;obtain⟨hn0,hn1⟩:=qaQ.mp hn;refine q1 σ Hf H ρ s d1 _ _ x1 x2 x3 a1 λv1 jQ H1 g1 jT rv1=>?_;obtain⟨tp,hP,htr,hhit⟩:=TG.get _ H1 jT;refine⟨tp,hP,htr,λcv h=>let ⟨c',z1,z2,_⟩:=hhit lpos cv h;⟨c',z1,z2⟩,λp c' fd Hm ⟨cl,pm,ctv,co,efd⟩ sl hp=>?_⟩;subst efd;obtain⟨stm,hc',ex⟩:=Zld TG jT hP sl;have gr:=Zle (o:=.ext (fnφ p (yY "<lambda>" q params body scope cl pm (.ref c') ctv))) g1.fh ex hp;have hcp:c'≠p:=λz=>by rw[z,hp]at hc';cases hc'
 obtain⟨cvs,l1,l2,l3⟩:=Zfd (x2.ext g1.ff) a3;intro base' cs;have C:CloAt base' cl scope N ps cvs:=B.cloAt cs co l1 l3;refine⟨Wv G t p c' (yY "<lambda>" q params body scope cl pm (.ref c') ctv) q cvs,jQ,[d1,.clo t cds],_,d,_,ZmU (X:=X) (.all (hbind cl pm (.ref c') ctv)) (fnKE S C (λs H st=>st.2) λA outer s H E hr=>hb base' p c' cl _ A outer s H E hr) hT,rfl,gr.fh,?_,⟨Gh.grow stm hp,ZW,by rw[Zx hcp];exact hc'⟩,a6,λv Hf3 H3 g3 st3 r3 fz=>?_⟩
 ·refine .cons (toC hn0 rv1) (.one (jv.mpr ⟨cvs,⟨rfl,rfl,rfl⟩,toCL hn1 l2⟩))
 ·have g3':Gr G jQ _ Hf3 H3:=grC g3
  have gg:=(g1.trans gr).trans g3';have rr:Zj G Hf3 d v:=ofC hn2 r3;refine k v Hf3 H3 gg st3.1 rr λz=>?_;exact jm (g1.hh.trans gr.hh) rr.nofp (frC hn2 (fz z))
end
theorem boot_len:xj "len" = some (.builtin "len"):=by decide +kernel
theorem boot_isinstance:xj "isinstance" = some (.builtin "isinstance"):=by decide +kernel
theorem boot_max:xj "max" = some (.builtin "max"):=by decide +kernel
theorem boot_min:xj "min" = some (.builtin "min"):=by decide +kernel
theorem boot_set:xj "set" = some (.type "set"):=by decide +kernel
theorem boot_sorted:xj "sorted" = some (.builtin "sorted"):=by decide +kernel
theorem boot_tuple:xj "tuple" = some (.type "tuple"):=by decide +kernel
theorem boot_list:xj "list" = some (.type "list"):=by decide +kernel
theorem boot_int:xj "int" = some (.type "int"):=by decide +kernel
theorem boot_bool:xj "bool" = some (.type "bool"):=by decide +kernel
theorem boot_dict:xj "dict" = some (.type "dict"):=by decide +kernel
noncomputable abbrev ZZ:Gh->Prop:=λ_=>True
noncomputable def BD (K:qk)(p sa:Addr)(tr:Bool)(s:Pn)(H:Hp):Prop:=
 ∃a h,s.1=[a,h]/\H p=some (.lst [.ref sa,.int a,.int h])/\sa≠p/\ZF K H sa (s.2.map V.int)/\(tr=true->∃o,H sa=some o)/\(tr=false->∀H':Hp,ZF K H' sa (s.2.map V.int))
noncomputable def Ub (K:qk)(p sa:Addr)(tr:Bool):Gh where
 fp:=λb=>b=p
 rd:=λb=>b=p∨(tr=true/\b=sa)
 pen:=.ref p
 st:=BD K p sa tr
 mono:=λs H H' ⟨a,h,e0,e1,ne,sq,t1,t2⟩ k _=>by
  refine⟨a,h,e0,k p _ (.inl rfl) e1,ne,?_,λht=>?_,t2⟩
  ·cases tr with
   | false=>exact t2 rfl H'
   | true=>
    rcases sq with(q | ⟨o,q⟩) | q
    ·exact .inl (.inl (k sa _ (.inr ⟨rfl,rfl⟩) q))
    ·exact .inl (.inr ⟨o,k sa _ (.inr ⟨rfl,rfl⟩) q⟩)
    ·exact .inr q
  ·obtain⟨o,q⟩:=t1 ht
   exact⟨o,k sa o (.inr ⟨ht,rfl⟩) q⟩
 sub:=λb h=>.inl h
 dom:=λs H b ⟨a,h,e0,e1,ne,sq,t1,t2⟩ hb=>by
  rcases hb with rfl | ⟨ht,rfl⟩
  ·exact⟨_,e1⟩
  ·exact t1 ht
 ntp:=λs H b vs ⟨a,h,e0,e1,ne,sq,t1,t2⟩ hb z=>by
  rw[hb,e1]at z;cases z
noncomputable def WS (K:qk):Gh->Prop:=λG=>∃p sa tr,G=Ub K p sa tr
noncomputable def Bg (ns:List Int)(a:Int):Int:=if a<ns.length then ns.getD a.toNat 0 else if 0<ns.length then ns.getD (a*7 % ns.length).toNat 0 % 1000003+a*1000003 else 0
noncomputable def W6 (c a:Int):Int:=
 if 10 ^ 18<=c then c else
  let x:=(c % 2147483647*48271+a*69621+11) % 2147483629
  let y:=(x*x+48271*x+a) % 2147483587
  y*2147483579+(y*y+69621*a) % 2147483579
noncomputable def XA (m a h:Int)(ns:List Int):Int×Int:=if h<m then (a+1,W6 (Bg ns a) a)else (a,h)
noncomputable def Xm:List D->M D:=λds s=>match ds,s with
 | [.pen,.int m],([a,h],ns)=>if 0<m/\m<1073741824/\0<=a then some (.int ((XA m a h ns).2 % m),([(XA m a h ns).1,(XA m a h ns).2 / m],ns))else none
 | _,_=>none
noncomputable def Ww (s:Pn):Prop:=∃a h,s.1=[a,h]/\0<=a/\0<=h
theorem Zjq (c a:Int)(ha:0<=a):0<=W6 c a:=by
 unfold W6;split
 ·have:(0:Int)<=10 ^ 18:=by decide
  omega
 ·dsimp only
  have h2:=qai (((c % 2147483647*48271+a*69621+11) % 2147483629)*((c % 2147483647*48271+a*69621+11) % 2147483629)+48271*((c % 2147483647*48271+a*69621+11) % 2147483629)+a) (show(2147483587:Int)≠0 by decide);generalize hy:(((c % 2147483647*48271+a*69621+11) % 2147483629)*((c % 2147483647*48271+a*69621+11) % 2147483629)+48271*((c % 2147483647*48271+a*69621+11) % 2147483629)+a) % 2147483587=y at h2⊢;have h3:=qai (y*y+69621*a) (show(2147483579:Int)≠0 by decide);omega
theorem Zlf {m:Int}{s:Pn}(ok:Ww s)(h1:0<m)(h2:m<1073741824):∃r s',Xm [.pen,.int m] s=some (.int r,s')/\0<=r/\r<m/\Ww s':=by
 obtain⟨a,h,e,ha,hh⟩:=ok;obtain⟨l,ns⟩:=s;simp only at e;subst e;refine⟨(XA m a h ns).2 % m,([(XA m a h ns).1,(XA m a h ns).2 / m],ns),?_,qai _ (by omega),qaF _ h1,⟨_,_,rfl,?_,?_⟩⟩
 ·show(if 0<m/\m<1073741824/\0<=a then _ else _)=_
  rw[if_pos ⟨h1,h2,ha⟩]
 ·unfold XA
  split
  ·show 0<=a+1
   omega
  ·exact ha
 ·have:0<=(XA m a h ns).2:=by
   unfold XA;split
   ·exact Zjq _ _ ha
   ·exact hh
  exact Int.ediv_nonneg this (by omega)
noncomputable def Zjr (G:Gh)(ob own own':List Nat)(fr:Bool)(g:Zb->M Out):TS:=λE σ H=>∃kn jN H0 ρ s out s',J G own kn jN H0 σ H ρ/\G.st s H/\g ρ s=some (out,s')/\Post G ob own' kn jN H0 fr out s' E
noncomputable def ZnO (K:qk)(t:TA):TE:=fun σ H Q=>t σ H λxs H1=>xs.length<=xg/\∀p,H1 p=none->K.lookup p=none->Q (.ref p) (Zl H1 p (.lst xs))
theorem Zlg {X:Cx}{es:List Expr}{t:TA}{pos:Pos}(h:PA X es t):PE X (.List es pos) (ZnO X.K t):=by
 intro jC s σ H Q I hq;refine wpAny_List_spliced (ZM (h pos jC s σ H _ I hq) λus s1 ⟨xs,H1,I1,r,z,q⟩=>⟨by rw[<-r.length];exact z,?_⟩);have hf:H1 s1.heap.objs.size=none:=I1.hok.fresh (qm _);have hk:X.K.lookup s1.heap.objs.size=none:=by
  cases e:X.K.lookup s1.heap.objs.size with
  | none=>rfl
  | some o=>
   have:=I1.kIn _ _ e;rw[qcK (qm _)]at this;cases this
 refine⟨.ref s1.heap.objs.size,Zl H1 s1.heap.objs.size (.lst xs),I1.laid (t':=s1.toks) (λb u e=>qf _ e) (qm _) ?_,rfl,q _ hf hk⟩;exact⟨z,us,0,r,qI _ rfl⟩
noncomputable def Ok {α:Type}(m:M α)(s:Pn)(Q:α->Pn->Prop):Prop:=∃a s',m s=some (a,s')/\Q a s'
theorem Ok.bind {α β:Type}{m:M α}{k:α->M β}{s:Pn}{Q:β->Pn->Prop}(h:Ok m s λa s1=>Ok (k a) s1 Q):Ok (Zp m k) s Q:=by
 obtain⟨a,s1,e,b,s2,e2,q⟩:=h;exact⟨b,s2,by unfold Zp;rw[e];exact e2,q⟩
theorem Ok.ret {α:Type}{a:α}{s:Pn}{Q:α->Pn->Prop}(h:Q a s):Ok (ZB a) s Q:=⟨a,s,rfl,h⟩
theorem Ok.eq {α:Type}{m:M α}{s s':Pn}{a:α}{Q:α->Pn->Prop}(e:m s=some (a,s'))(h:Q a s'):Ok m s Q:=⟨a,s',e,h⟩
theorem Ok.mono {α:Type}{m:M α}{s:Pn}{Q Q':α->Pn->Prop}(h:Ok m s Q)(k:∀a s',Q a s'->Q' a s'):Ok m s Q':=let ⟨a,s',e,q⟩:=h;⟨a,s',e,k a s' q⟩
theorem Ok.of {α:Type}{o:Option α}{a:α}{s:Pn}{Q:α->Pn->Prop}(e:o=some a)(h:Q a s):Ok (YZ o) s Q:=⟨a,s,by unfold YZ;rw[e],h⟩
theorem Ok.ite {α:Type}{c:Prop}[Decidable c]{m:M α}{s:Pn}{Q:α->Pn->Prop}(hc:c)(h:Ok m s Q):Ok (if c then m else ZE) s Q:=by rw[if_pos hc];exact h
section
variable {ρ:Zb}{s:Pn}{Q:Out->Pn->Prop}{f:Zb->M D}{g1 g2:Zb->M Out}
theorem Ok.seq (h:Ok (g1 ρ) s λo s1=>match o with | .nx ρ'=>Ok (g2 ρ') s1 Q | .rt d=>Q (.rt d) s1 | .bk ρ'=>Q (.bk ρ') s1 | .ct ρ'=>Q (.ct ρ') s1):Ok (Zh g1 g2 ρ) s Q:=by
 refine Ok.bind (h.mono λo s1 q=>?_)
 cases o with
 | nx ρ'=>exact q
 | rt d=>exact .ret q
 | bk ρ'=>exact .ret q
 | ct ρ'=>exact .ret q
theorem Ok.next (h:Q (.nx ρ) s):Ok (Zn ρ) s Q:=.ret h
theorem Ok.sset {i:Nat}(h:Ok (f ρ) s λd s1=>Q (.nx (ρ.set i (some d))) s1):Ok (Z1 i f ρ) s Q:=.bind (h.mono λ_ _ q=>.ret q)
theorem Ok.sown {i:Nat}(h:Ok (f ρ) s λd s1=>J7 d=true/\Q (.nx (ρ.set i (some d))) s1):Ok (V9 i f ρ) s Q:=.bind (h.mono λ_ _ q=>.ite q.1 (.ret q.2))
theorem Ok.sret (h:Ok (f ρ) s λd s1=>Q (.rt d) s1):Ok (ZC f ρ) s Q:=.bind (h.mono λ_ _ q=>.ret q)
theorem Ok.sif {c:Zb->M Bool}(h:Ok (c ρ) s λb s1=>if b=true then Ok (g1 ρ) s1 Q else Ok (g2 ρ) s1 Q):Ok (Z9 c g1 g2 ρ) s Q:=by
 refine .bind (h.mono λb s1 q=>?_)
 cases b with
 | true=>simpa using q
 | false=>simpa using q
theorem Ok.sapp {i:Nat}{ds:List D}(hi:(ρ[i]?).bind id=some (.lst ds))(hl:ds.length<xg)(h:Ok (f ρ) s λd s1=>Q (.nx (ρ.set i (some (.lst (ds ++ [d]))))) s1):Ok (VR i f ρ) s Q:=by
 refine .bind (h.mono λd s1 q=>?_);simp only[hi];exact .ite hl (.ret q)
theorem Ok.spar {i j:Nat}{fs:Zb->M (List D)}(h:Ok (fs ρ) s λds s1=>∃a b,ds=[a,b]/\X5 a=true/\X5 b=true/\Q (.nx ((ρ.set i (some a)).set j (some b))) s1):Ok (Ji i j fs ρ) s Q:=by
 refine .bind (h.mono λd s1 q=>?_);obtain⟨a,b,rfl,n1,n2,q⟩:=q;exact .ite (by simp[n1,n2]) (.ret q)
theorem Ok.loop {τ:D->Zb->Option Zb}{body:Zb->M Out}(I:Nat->Zb->Pn->Prop):∀(ds:List D) (k:Nat) (ρ:Zb) (s:Pn),I k ρ s->
  (∀i d ρ s,ds[i]?=some d->I (k+i) ρ s->∃ρ1,τ d ρ=some ρ1/\Ok (body ρ1) s λo s'=>∃ρ',o=.nx ρ'/\I (k+i+1) ρ' s')->Ok (XW τ body ds ρ) s λo s'=>∃ρ',o=.nx ρ'/\I (k+ds.length) ρ' s'
 | [],k,ρ,s,h0,_=>.ret ⟨ρ,rfl,h0⟩
 | d::ds,k,ρ,s,h0,h=>by
  obtain⟨ρ1,e1,ok⟩:=h 0 d ρ s rfl h0;refine Ok.bind (.of e1 (.bind (ok.mono λo s' q=>?_)));obtain⟨ρ',rfl,q⟩:=q;refine(Ok.loop I ds (k+1) ρ' s' q λi d' ρ2 s2 e2 q2=>?_).mono λo s2 q2=>?_
  ·have:=h (i+1) d' ρ2 s2 (by simpa using e2) (by rw[show k+(i+1)=k+1+i by omega];exact q2)
   rw[show k+(i+1)+1=k+1+i+1 by omega]at this;exact this
  ·rw[show k+(d::ds).length=k+1+ds.length by simp;omega]
   exact q2
theorem Ok.sfor {fi:Zb->M (List D)}{τ:D->Zb->Option Zb}{body:Zb->M Out}(I:Nat->Zb->Pn->Prop)(h:Ok (fi ρ) s λds s1=>I 0 ρ s1/\(∀i d ρ s,ds[i]?=some d->I i ρ s->∃ρ1,τ d ρ=some ρ1/\Ok (body ρ1) s λo s'=>∃ρ',o=.nx ρ'/\I (i+1) ρ' s')/\
  ∀ρ' s',I ds.length ρ' s'->Q (.nx ρ') s'):Ok (Y2 fi τ body ρ) s Q:=by
 refine .bind (h.mono λds s1 q=>?_);obtain⟨q0,q1,q2⟩:=q;refine(Ok.loop I ds 0 ρ s1 q0 λi d ρ s e=>?_).mono λo s' q=>?_
 ·rw[qac];exact q1 i d ρ s e
 ·obtain⟨ρ',rfl,q⟩:=q
  rw[qac]at q;exact q2 ρ' s' q
end
section
variable {ρ ρ':Zb}{s s1 s2:Pn}{f f2:Zb->M D}{g1 g2:Zb->M Out}{d e c:D}{r:Option (Out×Pn)}
theorem Xl {n k:Nat}{g:Zb->M Out}{ds:List D}(hl:ds.length=k)(h:g (ds.map some++qw (n-k) none) s=some (.rt d,s1)):runB n k g ds s=some (d,s1):=by
 unfold runB;rw[if_pos hl];unfold Zp;rw[h];rfl
theorem Y9 (h:f ρ s=some (d,s1)):ZC f ρ s=some (.rt d,s1):=by unfold ZC Zp;rw[h];rfl
theorem YA (h:g1 ρ s=some (.rt d,s1)):Zh g1 g2 ρ s=some (.rt d,s1):=by unfold Zh Zp;rw[h];rfl
theorem YK (h:g1 ρ s=some (.nx ρ',s1))(h2:g2 ρ' s1=r):Zh g1 g2 ρ s=r:=by unfold Zh Zp;rw[h];exact h2
theorem XT {i:Nat}(h:f ρ s=some (d,s1)):Z1 i f ρ s=some (.nx (ρ.set i (some d)),s1):=by unfold Z1 Zp;rw[h];rfl
theorem Zq {g:D->D->Option D}(h1:f ρ s=some (d,s1))(h2:f2 ρ s1=some (e,s2))(h:g d e=some c):Zd g f f2 ρ s=some (c,s2):=by
 unfold Zd Zp;rw[h1];simp only;rw[h2];simp only;unfold YZ;rw[h]
theorem Yb {g:List D->Option D}{fs:Zb->M (List D)}{ds:List D}(h1:fs ρ s=some (ds,s1))(h:g ds=some c):ZJ g fs ρ s=some (c,s1):=by
 unfold ZJ Zp;rw[h1];simp only;unfold YZ;rw[h]
theorem Z5 {F:List D->M D}{fs:Zb->M (List D)}{ds:List D}{q:Option (D×Pn)}(h1:fs ρ s=some (ds,s1))(h:F ds s1=q):Zs F fs ρ s=q:=by
 unfold Zs Zp;rw[h1];exact h
theorem Zg {fs:Zb->M (List D)}{ds:List D}(h1:f ρ s=some (d,s1))(h2:fs ρ s1=some (ds,s2)):Zc f fs ρ s=some (d::ds,s2):=by
 unfold Zc Zp;rw[h1];simp only;rw[h2];rfl
theorem Vq {fs:Zb->M (List D)}{ds:List D}(h1:fs ρ s=some (ds,s1))(hl:ds.length<=xg):Yg fs ρ s=some (.tup ds,s1):=by
 unfold Yg Zp;rw[h1];simp only;rw[if_pos hl];rfl
theorem W1 {fs:Zb->M (List D)}{ds:List D}(h1:fs ρ s=some (ds,s1))(hl:ds.length<=xg):YS fs ρ s=some (.lst ds,s1):=by
 unfold YS Zp;rw[h1];simp only;rw[if_pos hl];rfl
theorem Z3 {b:Bool}(h:f ρ s=some (.bl b,s1)):asB f ρ s=some (b,s1):=by unfold asB Zp;rw[h];rfl
theorem Wo {fb:Zb->M Bool}{b:Bool}(h:fb ρ s=some (b,s1)):Xn fb ρ s=some (!b,s1):=by unfold Xn Zp;rw[h];rfl
end
theorem ZdG {τ:D->Zb->Option Zb}{ft:Zb->M Bool}{fe:Zb->M D}{ρ:Zb}{s:Pn}(r:D->Zb)(b:D->Bool)(c:D->D):∀(ds:List D),(∀d∈ds,τ d ρ=some (r d)/\ft (r d) s=some (b d,s)/\(b d=true->fe (r d) s=some (c d,s)))->
  VO τ ft fe ρ ds s=some ((ds.filter b).map c,s)
 | [],_=>rfl
 | d::ds,h=>by
  obtain⟨h1,h2,h3⟩:=h d (by simp);have ih:=ZdG r b c ds λd' m=>h d' (by simp[m]);unfold VO;simp only[Zp,YZ,h1,h2]
  cases hb:b d with
  | true=>simp[Zp,h3 hb,ih,hb,ZB]
  | false=>simp[ih,hb]
theorem Zcv {τ:D->Zb->Option Zb}{fe:Zb->M D}{ρ:Zb}(P:D->Prop)(I:Pn->Prop):∀(ds:List D) (s:Pn),I s->(∀d∈ds,∀s,I s->∃ρ1,τ d ρ=some ρ1/\Ok (fe ρ1) s λc s'=>P c/\I s')->
  Ok (VO τ Ys fe ρ ds) s λr s'=>r.length=ds.length/\(∀c∈r,P c)/\I s'
 | [],s,hs,_=>.ret ⟨rfl,by simp,hs⟩
 | d::ds,s,hs,h=>by
  obtain⟨ρ1,e1,ok⟩:=h d (by simp) s hs;unfold VO;refine .bind (.of e1 (.bind (.ret ?_)));refine .bind (ok.mono λc s1 q=>.bind ((Zcv P I ds s1 q.2 λd' m=>h d' (by simp[m])).mono λr s2 q2=>.ret ⟨by simp[q2.1],?_,q2.2.2⟩));intro x hx;rcases qq.mp hx with e | hx
  ·subst e;exact q.1
  ·exact q2.2.1 x hx
end TF
namespace TP
open L2 TF
noncomputable def Zgm:Zb->M Out:=(Zh (V9 1 (YS Zf))
 (Zh (Y2 (Xk (ZJ Y3 (Zc (Za 0) Zf))) (ZK 2)
 (Zh (Y2 (Ut (Zd Yc (Za 2) (dC (.int 1))) (ZJ Y3 (Zc (Za 0) Zf))) (ZK 3)
 (Zh (VR 1 (fun ρ=>(Yg (Zc (Zd Zm (Za 0) (Za 2)) (Zc (Zd Zm (Za 0) (Za 3)) Zf))) (Yu [1] ρ)))
 Zn))
 Zn))
 (Zh (ZC (Za 1))
 Zn)))
noncomputable def JD:List D->M D:=runB 4 1 Zgm
noncomputable def Zcw:Zb->M Out:=(Zh (ZC (Zd Xq (Yg (Zc (ZJ VP (Zc (Za 1) (Zc (Za 2) Zf))) (Zc (ZJ UE (Zc (Za 1) (Zc (Za 2) Zf))) Zf))) (Za 0)))
 Zn)
noncomputable def WW:List D->M D:=runB 3 3 Zcw
noncomputable def ZmV:Zb->M Out:=(Zh (ZC (Yj [none,some 0,some 1] (Xk (Zd Zm (Za 0) (dC (.int 0)))) (ZK 0) (asB (Zs WW (Zc (Zd Zm (Za 1) (dC (.int 1))) (Zc (Za 2) (Zc (Za 0) Zf))))) (Za 0)))
 Zn)
noncomputable def U4:List D->M D:=runB 2 2 ZmV
noncomputable def Zdf:Zb->M Out:=(Zh (ZC (ZJ Zjk (Zc (Yj [none] (WL (Zd Zm (Za 0) (dC (.int 1)))) (ZK 0) Ys (Yg (Zc (Za 0) (Zc (dC (.bl true)) Zf)))) Zf)))
 Zn)
noncomputable def Uj:List D->M D:=runB 1 1 Zdf
noncomputable def ZaE:Zb->M Out:=(Zh (Z9 (asB (Zd Wz (Za 0) (Zd dPow (dC (.int 10)) (dC (.int 18)))))
 (Zh (ZC (Za 0))
 Zn)
 Zn)
 (Zh (Z1 2 (Zd Wu (Zd Yc (Zd Yc (Zd WQ (Zd Wu (Za 0) (dC (.int 2147483647))) (dC (.int 48271))) (Zd WQ (Za 1) (dC (.int 69621)))) (dC (.int 11))) (dC (.int 2147483629))))
 (Zh (Z1 2 (Zd Wu (Zd Yc (Zd Yc (Zd WQ (Za 2) (Za 2)) (Zd WQ (dC (.int 48271)) (Za 2))) (Za 1)) (dC (.int 2147483587))))
 (Zh (ZC (Zd Yc (Zd WQ (Za 2) (dC (.int 2147483579))) (Zd Wu (Zd Yc (Zd WQ (Za 2) (Za 2)) (Zd WQ (dC (.int 69621)) (Za 1))) (dC (.int 2147483579)))))
 Zn))))
noncomputable def Ul:List D->M D:=runB 3 2 ZaE
noncomputable def ZbQ:Zb->M Out:=(Zh (ZC (Zd Xq (Yg (Zc (ZJ VP (Zc (Za 1) (Zc (Za 2) Zf))) (Zc (ZJ UE (Zc (Za 1) (Zc (Za 2) Zf))) Zf))) (Zd Zm (Za 0) (dC (.int 1)))))
 Zn)
noncomputable def Vi:List D->M D:=runB 3 3 ZbQ
local macro_rules | `(tactic| walk_at "ev")=>`(tactic| simp[runB,Zh,ZC,Z1,Zn,Z9,asB,Zd,ZJ,Zc,Zf,Yg,YS,Za,dC,Zs,Zp,ZB,YZ,Yc,Wt,dI,Yu,We,vOr,vAnd,Bo,XV,Xg,Xn])
noncomputable def Zv (p:Nat×Nat):D:=.tup [.int p.1,.int p.2]
noncomputable def Zw (n:Nat)(jD:Qa):D:=.tup [.int n,.tup (jD.map Zv)]
noncomputable def tied (jD:Qa)(a b:Nat):Bool:=decide ((min a b,max a b)∈jD)
theorem Zjs (p q:Nat×Nat):ZA (Zv p) (Zv q)=decide (p=q):=by
 obtain⟨a,b⟩:=p;obtain⟨c,d⟩:=q;simp only[Zv,ZA,Xe,Bool.and_true];by_cases h1:a=c
 ·by_cases h2:b=d
  ·subst h1 h2;simp
  ·have:((b:Int)==(d:Int))=false:=by simp;omega
   simp[this,h2]
 ·have:((a:Int)==(c:Int))=false:=by simp;omega
  simp[this,h1]
theorem Zib (p:Nat×Nat)(jD:Qa):XS (Zv p) (jD.map Zv)=decide (p∈jD):=by
 unfold XS
 induction jD with
 | nil=>simp
 | cons t ts ih=>
  rw[qX,qaB,ih,Zjs];by_cases h:t=p
  ·subst h;simp
  ·have:¬p=t:=λz=>h z.symm
   simp[h,this]
theorem ZbR:∀jD:Qa,Ym (jD.map Zv)=true
 | []=>by simp[Ym]
 | t::ts=>by simp[Ym,Zv,Zo,ZbR ts]
theorem Za6:∀jD:Qa,Y7 (jD.map Zv)<=1
 | []=>by simp[Y7]
 | t::ts=>by
  have:=Za6 ts;simp only[qX,Y7,Zv,Z4];omega
theorem Zjt (p:Nat×Nat):Z4 (Zv p)=1:=by simp[Zv,Z4,Y7]
theorem Zgn (p:Nat×Nat):Zo (Zv p)=true:=by simp[Zv,Zo,Ym]
theorem Zgo (p:Nat×Nat)(jD:Qa):XJ (Zv p) (jD.map Zv)=true:=by
 have:=Za6 jD;simp[XJ,Zgn,ZbR,Zjt];omega
theorem Zic (p:Nat×Nat)(jD:Qa):Xq (Zv p) (.tup (jD.map Zv))=some (.bl (decide (p∈jD))):=by
 have:Ua (Zv p) (.tup (jD.map Zv))=some (decide (p∈jD)):=by
  show(if XJ (Zv p) (jD.map Zv)=true then some (XS (Zv p) (jD.map Zv))else none)=_;rw[if_pos (Zgo p jD),Zib]
 unfold Xq;rw[this];rfl
theorem min_eq (a b:Nat):(if (b:Int)<a then (b:Int)else a)=((min a b:Nat):Int):=by split <;> omega
theorem max_eq (a b:Nat):(if (b:Int) > a then (b:Int)else a)=((max a b:Nat):Int):=by split <;> omega
theorem Vt {α:Type}(x:α)(xs:List α):XF (x::xs) 0=some x:=W0 (j:=0) rfl
theorem W7 {α:Type}(x y:α)(xs:List α):XF (x::y::xs) 1=some y:=W0 (j:=1) rfl
theorem two_le:2<=xg:=by decide
theorem Zcx (a b:Nat):D.tup [.int (if b<a then (b:Int)else a),.int (if a<b then (b:Int)else a)]=Zv (min a b,max a b):=by
 unfold Zv;congr 2
 ·congr 1;split <;> omega
 ·congr 2;split <;> omega
theorem ZbS (n:Nat)(jD:Qa)(a b:Nat)(s:Pn):Vi [Zw n jD,.int a,.int b] s=some (.bl (tied jD a b),s):=by
 simp[Vi,ZbQ,runB,Zh,ZC,Zn,Zd,ZJ,Zc,Zf,Yg,Za,dC,Zp,ZB,YZ,VP,UE,two_le,Zcx,Zw,Zm,W7,Zic,tied]
theorem X4 {src:List (Option Nat)}{fi:Zb->M (List D)}{τ:D->Zb->Option Zb}{ft:Zb->M Bool}{fe:Zb->M D}{ρ:Zb}{s:Pn}{ds:List D}(r:D->Zb)(b:D->Bool)(c:D->D)(hi:fi ρ s=some (ds,s))(hl:ds.length<=xg)
  (h:∀d∈ds,τ d (We src ρ)=some (r d)/\ft (r d) s=some (b d,s)/\(b d=true->fe (r d) s=some (c d,s))):Yj src fi τ ft fe ρ s=some (.lst ((ds.filter b).map c),s):=by
 unfold Yj;simp only[Zp,hi,hl,if_true,ZdG r b c ds h,ZB]
theorem Zid (n:Nat)(h:n<=100000):-(2 ^ 62)<=(n:Int)/\(n:Int)<2 ^ 62:=by omega
theorem YI:xg=16777216:=by decide
theorem WY {f:Zb->M D}{ρ:Zb}{s:Pn}{n:Nat}(h:f ρ s=some (.int n,s))(hn:n<=100000):Xk f ρ s=some (Z0 0 n,s):=by
 unfold Xk;simp only[Zp,h];show(if -(2 ^ 62)<=(n:Int)/\(n:Int)<2 ^ 62 then ZB (Z0 0 (n:Int).toNat)else ZE) s=_;rw[if_pos (Zid n hn)];rfl
theorem Zbz {f g:Zb->M D}{ρ:Zb}{s:Pn}{a n:Nat}(h:f ρ s=some (.int a,s))(h2:g ρ s=some (.int n,s))(ha:a<=100000)(hn:n<=100000):Ut f g ρ s=some (Z0 a (n-a),s):=by
 unfold Ut;simp only[Zp,h,h2];show(if -(2 ^ 62)<=(a:Int)/\(a:Int)<2 ^ 62/\-(2 ^ 62)<=(n:Int)/\(n:Int)<2 ^ 62 then ZB (Z0 a ((n:Int)-a).toNat)else ZE) s=_;rw[if_pos (by omega),show((n:Int)-(a:Int)).toNat=n-a by omega];rfl
theorem X3 (lo:Int)(n:Nat):(Z0 lo n).length=n:=by simp[Z0]
theorem BT {lo n i:Nat}{d:D}(h:(Z0 lo n)[i]?=some d):i<n/\d=.int ((lo+i:Nat):Int):=by
 have hi:i<n:=by
  have:=(qu.mp h).1;simpa[Z0]using this
 refine⟨hi,?_⟩;unfold Z0 at h;rw[qC,yX hi]at h;simp at h;rw[<-h];simp
theorem Zcy {n:Nat}{d:D}(h:d∈Z0 0 n):∃i:Nat,i<n/\d=.int (i:Int):=by
 unfold Z0 at h;obtain⟨i,hi,e⟩:=qE.mp h;exact⟨i,by simpa using hi,by rw[<-e];simp⟩
theorem Uu (n:Nat):Z0 0 n=(qp n).map λ(i:Nat)=>D.int (i:Int):=by
 unfold Z0;simp
noncomputable def Z6:D->Nat
 | .int i=>i.toNat
 | _=>0
theorem Zfe (n:Nat)(p:Nat->Bool):((Z0 0 n).filter λd=>p (Z6 d)).map (λd=>d)=((qp n).filter p).map λ(i:Nat)=>D.int (i:Int):=by
 rw[Uu,qa1];simp only[List.map_id'];congr 1
theorem jr {α:Type}{m:M α}{s s':Pn}{a:α}(h:Ok m s λb t=>b=a/\t=s'):m s=some (a,s'):=by
 obtain⟨b,t,e,rfl,rfl⟩:=h;exact e
theorem Zep {n:Nat}(hn:n<=100000):(Z0 0 n).length<=xg:=by rw[X3,YI];omega
noncomputable def Jj (row:D)(ds:List D):Prop:=row=.lst ds∨row=.tup ds
theorem Jj.len {row:D}{ds:List D}(h:Jj row ds):Y3 [row]=some (.int ds.length):=by
 rcases h with rfl | rfl <;> rfl
theorem Jj.ix {row:D}{ds:List D}(h:Jj row ds){i:Nat}(hi:i<ds.length):Zm row (.int (i:Int))=some (ds.getD i .non):=by
 have e:ds[i]?=some (ds.getD i .non):=by simp[qbz,hi]
 rcases h with rfl | rfl <;> exact W0 e
noncomputable def Xf (n i:Nat):Qa:=(qp i).flatMap λa=>(qp (n-(a+1))).map λk=>(a,a+1+k)
noncomputable def YX (n:Nat):Qa:=Xf n n
theorem JI (n i:Nat):Xf n (i+1)=Xf n i++(qp (n-(i+1))).map λk=>(i,i+1+k):=by
 unfold Xf;rw[qbG,List.flatMap_append];simp
theorem B3 (n:Nat):∀i,(Xf n i).length<=i*n
 | 0=>by simp[Xf]
 | i+1=>by
  have:=B3 n i;rw[JI,qG,qj,zc];have e:(i+1)*n=i*n+n:=Nat.succ_mul i n;omega
noncomputable def Ug (ds:List D)(p:Nat×Nat):D:=.tup [ds.getD p.1 .non,ds.getD p.2 .non]
theorem Zhh (n i j:Nat)(hn:n<=1000)(hi:i<n)(hj:j<=n):(Xf n i).length+j<xg:=by
 have h1:=B3 n i;have h2:i*n<=1000*1000:=qcD (by omega) hn;rw[YI];omega
theorem Zff (row:D)(ds:List D)(h:Jj row ds)(hn:ds.length<=1000)(s:Pn):JD [row] s=some (.lst ((YX ds.length).map (Ug ds)),s):=by
 refine Xl rfl (jr ?_);refine Ok.seq (.sown (.eq (a:=.lst []) rfl ⟨rfl,?_⟩));show Ok _ s _;refine Ok.seq (.sfor (λi ρ s'=>s=s'/\∃o2 o3,ρ=[some row,some (.lst ((Xf ds.length i).map (Ug ds))),o2,o3]) (.eq (WY (Yb (Zg rfl rfl) h.len) (by omega)) ⟨⟨rfl,none,none,rfl⟩,λi d ρ s' hd hI=>?_,fun ρ' s' hI=>?_⟩))
 ·obtain⟨rfl,o2,o3,rfl⟩:=hI
  obtain⟨hi,rfl⟩:=BT hd;refine⟨_,rfl,?_⟩;refine Ok.seq (.sfor (λj ρ s'=>s=s'/\∃o3,ρ=[some row,some (.lst ((Xf ds.length i).map (Ug ds)++(qp j).map λk=>Ug ds (i,i+1+k))),some (.int ((0+i:Nat):Int)),o3]) (.eq (Zbz (a:=i+1) (Zq (d:=.int ((0+i:Nat):Int)) (e:=.int 1) (c:=.int ((i+1:Nat):Int)) rfl rfl (by simp[Yc])) (Yb (Zg rfl rfl) h.len) (by omega) (by omega)) ⟨⟨rfl,o3,by simp⟩,λj d ρ s' hd hJ=>?_,fun ρ' s' hJ=>?_⟩))
  ·obtain⟨rfl,o3,rfl⟩:=hJ
   obtain⟨hj,rfl⟩:=BT hd;refine⟨_,rfl,?_⟩;refine Ok.seq (.sapp (ds:=(Xf ds.length i).map (Ug ds)++(qp j).map λk=>Ug ds (i,i+1+k)) rfl (by simp only[qG,qj,zc];exact Zhh _ _ _ hn hi (by omega)) (.eq (Vq (Zg (Zq (d:=row) (e:=.int ((0+i:Nat):Int)) rfl rfl (by rw[qac];exact h.ix hi)) (Zg (Zq (d:=row) (e:=.int ((i+1+j:Nat):Int)) rfl rfl (h.ix (by omega))) rfl)) two_le) ?_));refine Ok.next ⟨_,rfl,rfl,some (.int ((i+1+j:Nat):Int)),?_⟩;rw[qbG,zK,<-qK];rfl
  ·obtain⟨rfl,o3',rfl⟩:=hJ
   refine Ok.next ⟨_,rfl,rfl,some (.int ((0+i:Nat):Int)),o3',?_⟩;rw[JI,zK,qM,X3];rfl
 ·obtain⟨rfl,o2,o3,rfl⟩:=hI
  refine Ok.seq (.sret (.eq rfl ⟨?_,rfl⟩));rw[X3];rfl
noncomputable def XM (p:Nat×Nat):List Zu:=[.inl (p.1:Int),.inl (p.2:Int)]
theorem Zju {p q:Nat×Nat}(h:XM p=XM q):p=q:=by
 simp only[XM,qbH,yo.injEq,and_true]at h;obtain⟨a,b⟩:=p;obtain⟨c,d⟩:=q;simp only at h;have h1:a=c:=by omega
 have h2:b=d:=by omega
 rw[h1,h2]
noncomputable def YE (jH:List (List Zu×V))(jD:Qa):List (List Zu×V):=jD.foldl (λjH p=>Yo jH (XM p) (.bl true)) jH
theorem Zlh (p:Nat×Nat):Zhf (.tup [Zv p,.bl true])=some (XM p,.bl true):=rfl
theorem ZdH:∀(jD:Qa) (jH:List (List Zu×V)),W5 jH (jD.map λp=>D.tup [Zv p,.bl true])=some (YE jH jD)
 | [],jH=>rfl
 | t::ts,jH=>by
  rw[qX];unfold W5;rw[Zlh];exact ZdH ts _
theorem Zfg (p:Nat×Nat):∀(jD:Qa) (jH:List (List Zu×V)),(Z8 (YE jH jD) (XM p)).isSome=(decide (p∈jD)||(Z8 jH (XM p)).isSome)
 | [],jH=>by simp[YE]
 | t::ts,jH=>by
  have ih:=Zfg p ts (Yo jH (XM t) (.bl true));have e:YE jH (t::ts)=YE (Yo jH (XM t) (.bl true)) ts:=rfl;rw[e,ih,Ze1];by_cases h:p=t
  ·subst h;simp
  ·have hk:¬XM p=XM t:=λz=>h (Zju z)
   rw[if_neg hk];simp[h]
theorem ZdI (n:Nat)(jD:Qa)(s:Pn)(hl:jD.length<=100000):Uj [Zw n jD] s=some (.dt (YE [] jD),s):=by
 have hc:Yj [none] (WL (Zd Zm (Za 0) (dC (.int 1)))) (ZK 0) Ys (Yg (Zc (Za 0) (Zc (dC (.bl true)) Zf))) [some (Zw n jD)] s=some (.lst ((jD.map Zv).map λd=>D.tup [d,.bl true]),s):=by
  have q:=X4 (src:=[none]) (fi:=WL (Zd Zm (Za 0) (dC (.int 1)))) (τ:=ZK 0) (ft:=Ys) (fe:=Yg (Zc (Za 0) (Zc (dC (.bl true)) Zf))) (ρ:=[some (Zw n jD)]) (s:=s) (ds:=jD.map Zv) (λd=>[some d]) (λ_=>true) (λd=>D.tup [d,.bl true])
   (by unfold WL Zp;rw[Zq (d:=Zw n jD) (e:=.int 1) (c:=.tup (jD.map Zv)) rfl rfl (by unfold Zw;exact W7 _ _ _)];rfl) (by rw[qj,YI];omega)
   (λd hd=>⟨rfl,rfl,λ_=>Vq (Zg rfl (Zg rfl rfl)) two_le⟩)
  have q2:(jD.map Zv).filter (λ_=>true)=jD.map Zv:=qcZ.mpr (by simp);rw[q,q2]
 refine Xl rfl (YA (Y9 (Yb (Zg hc rfl) ?_)));rw[qM];show(if ((jD.map ((λd=>D.tup [d,.bl true])∘Zv)).length<=xg)then (W5 [] _).map D.dt else none)=_;rw[if_pos (by rw[qj,YI];omega)];have e:=ZdH jD [];show(W5 [] (jD.map λp=>D.tup [Zv p,.bl true])).map D.dt=_;rw[e];rfl
theorem B4 {n i:Nat}{p:Nat×Nat}(h:p∈Xf n i):p.1<i/\p.1<p.2/\p.2<n:=by
 unfold Xf at h;obtain⟨a,ha,h⟩:=List.mem_flatMap.mp h;obtain⟨k,hk,rfl⟩:=qE.mp h;simp at ha hk;exact⟨ha,by simp;omega,by simp;omega⟩
theorem Zie {n:Nat}{p:Nat×Nat}(h:p∈YX n):Ug (Z0 0 n) p=Zv p:=by
 obtain⟨h1,h2,h3⟩:=B4 h;have g:∀i,i<n->(Z0 0 n).getD i .non=.int (i:Int):=λi hi=>by
  rw[Uu];simp[qbz,hi]
 unfold Ug Zv;rw[g _ h1,g _ h3]
theorem Zfh {n:Nat}(s:Pn)(hn:n<=1000):JD [.lst (Z0 0 n)] s=some (.lst ((YX n).map Zv),s):=by
 rw[Zff _ _ (.inl rfl) (by rw[X3];exact hn) s,X3];congr 3;exact zD λp hp=>Zie hp
theorem Zav {f:Zb->M D}{ρ:Zb}{s:Pn}{n:Nat}(h:f ρ s=some (.int n,s))(hn:n<=1000):Vl f ρ s=some (.lst (Z0 0 n),s):=by
 unfold Vl Zp;rw[h];show(if -(2 ^ 62)<=(n:Int)/\(n:Int)<=2 ^ 24 then ZB (D.lst (Z0 0 (n:Int).toNat))else ZE) s=_;rw[if_pos (by omega)];rfl
theorem Zjv (n:Nat)(hn:n<=1000):(YX n).length<=1000000:=by
 have h1:=B3 n n;have h2:n*n<=1000*1000:=qcD hn hn;unfold YX;omega
theorem Zeq (l:Qa)(b:D->Bool)(q:Nat×Nat->Bool)(h:∀p,b (Zv p)=q p):((l.map Zv).filter b).map (λd=>d)=(l.filter q).map Zv:=by
 rw[qa1,List.map_id'];congr 1;exact qaI λp _=>h p
noncomputable def nat2:D->Nat×Nat
 | .tup [a,b]=>(Z6 a,Z6 b)
 | _=>(0,0)
theorem Zif (p:Nat×Nat):nat2 (Zv p)=p:=rfl
end TP
namespace TF
open L2
theorem Zhi {n:Nat}:∀(l:List D),(∀d∈l,Z4 d<=n)->Y7 l<=n
 | [],_=>by simp[Y7]
 | d::l,h=>by
  have:=h d (by simp);have:=Zhi l λx m=>h x (by simp[m]);simp only[Y7];omega
theorem Ok.runB {n k:Nat}{g:Zb->M Out}{ds:List D}{s:Pn}{Q:D->Pn->Prop}(hl:ds.length=k)(h:Ok (g (ds.map some++qw (n-k) none)) s λo s'=>match o with | .rt d=>Q d s' | .nx _=>Q .non s' | _=>False):Ok (runB n k g ds) s Q:=by
 unfold TF.runB;rw[if_pos hl];refine .bind (h.mono λo s' q=>?_)
 cases o with
 | rt d=>exact .ret q
 | nx ρ=>exact .ret q
 | bk ρ=>exact q.elim
 | ct ρ=>exact q.elim
theorem Ok.fn {F:List D->M D}{fs:Zb->M (List D)}{ρ:Zb}{s s1:Pn}{ds:List D}{Q:D->Pn->Prop}(h1:fs ρ s=some (ds,s1))(h:Ok (F ds) s1 Q):Ok (Zs F fs ρ) s Q:=by
 obtain⟨a,s',e,q⟩:=h;exact⟨a,s',Z5 h1 e,q⟩
theorem Ok.draw {fs:Zb->M (List D)}{ρ:Zb}{s:Pn}{m:Nat}{Q:D->Pn->Prop}(ok:Ww s)(h1:fs ρ s=some ([.pen,.int (m:Int)],s))(hm:0<m)(hm2:m<1073741824)(h:∀(r:Nat) s',r<m->Ww s'->Q (.int (r:Int)) s'):Ok (Zs Xm fs ρ) s Q:=by
 obtain⟨r,s1,e,r0,r1,ok1⟩:=Zlf ok (show 0<(m:Int) by omega) (show(m:Int)<1073741824 by omega);obtain⟨n,rfl⟩:=Int.eq_ofNat_of_zero_le r0;exact .fn h1 (.eq e (h n s1 (by omega) ok1))
theorem Ok.op {g:D->D->Option D}{f f2:Zb->M D}{ρ:Zb}{s:Pn}{Q:D->Pn->Prop}(h:Ok (f ρ) s λd s1=>Ok (f2 ρ) s1 λe s2=>∃c,g d e=some c/\Q c s2):Ok (Zd g f f2 ρ) s Q:=
 .bind (h.mono λd s1 q=>.bind (q.mono λe s2 q=>let ⟨c,e1,q⟩:=q;.of e1 q))
theorem Ok.cons {f:Zb->M D}{fs:Zb->M (List D)}{ρ:Zb}{s:Pn}{Q:List D->Pn->Prop}(h:Ok (f ρ) s λd s1=>Ok (fs ρ) s1 λds s2=>Q (d::ds) s2):Ok (Zc f fs ρ) s Q:=
 .bind (h.mono λd s1 q=>.bind (q.mono λe s2 q=>.ret q))
theorem Ok.nil {ρ:Zb}{s:Pn}{Q:List D->Pn->Prop}(h:Q [] s):Ok (Zf ρ) s Q:=.ret h
theorem Ok.asB {f:Zb->M D}{ρ:Zb}{s:Pn}{Q:Bool->Pn->Prop}(h:Ok (f ρ) s λd s1=>∃b,d=.bl b/\Q b s1):Ok (asB f ρ) s Q:=
 .bind (h.mono λd s1 q=>by obtain⟨b,rfl,q⟩:=q;exact .ret q)
theorem Ok.comp {src:List (Option Nat)}{fi:Zb->M (List D)}{τ:D->Zb->Option Zb}{fe:Zb->M D}{ρ:Zb}{s:Pn}{ds:List D}{Q:D->Pn->Prop}(P:D->Prop)(I:Pn->Prop)(hi:fi ρ s=some (ds,s))(hl:ds.length<=xg)(h0:I s)
  (hb:∀d∈ds,∀s,I s->∃ρ1,τ d (We src ρ)=some ρ1/\Ok (fe ρ1) s λc s'=>P c/\I s') (hq:∀r s',r.length=ds.length->(∀c∈r,P c)->I s'->Q (.lst r) s'):Ok (Yj src fi τ Ys fe ρ) s Q:=by
 unfold Yj;refine .bind (.eq hi ?_);exact .ite hl (.bind ((Zcv P I ds s h0 hb).mono λr s' q=>.ret (hq r s' q.1 q.2.1 q.2.2)))
theorem Za7 {α:Type}:∀{s l:List α},s.Sublist l->l.Nodup->∀p:α->Bool,(∀x∈l,p x=true↔x∈s)->l.filter p=s
 | _,_,.slnil,_,_,_=>rfl
 | s,_,.cons (l₂:=l) a h,n,p,hp=>by
  have n':=zv.mp n;have e:p a=false:=by
   cases q:p a with
   | false=>rfl
   | true=>exact absurd (h.subset ((hp a (by simp)).mp q)) n'.1
  rw[yW (by simp[e])];exact Za7 h n'.2 p λx hx=>hp x (by simp[hx])
 | _,_,.cons₂ (l₁:=s) (l₂:=l) a h,n,p,hp=>by
  have n':=zv.mp n;rw[qaz ((hp a (by simp)).mpr (by simp))];congr 1;refine Za7 h n'.2 p λx hx=>?_;have:x≠a:=λz=>n'.1 (z▸hx);have q:=hp x (by simp[hx]);simpa[this]using q
end TF
namespace TP
open L2 TF
theorem Zcz (n:Nat):∀i,(Xf n i).Nodup
 | 0=>by simp[Xf]
 | i+1=>by
  rw[JI,qb5];refine⟨Zcz n i,?_,?_⟩
  ·refine zW.mpr (List.Pairwise.imp ?_ yZ)
   intro a b h e;have:=congrArg Prod.snd e;simp at this;exact h this
  ·intro a ha b hb e
   have h1:=(B4 ha).1;obtain⟨k,_,rfl⟩:=qE.mp hb;rw[e]at h1;simp at h1
theorem ZcA (n:Nat):(YX n).Nodup:=Zcz n n
theorem JO {n:Nat}{p:Nat×Nat}:p∈YX n↔p.1<p.2/\p.2<n:=by
 constructor
 ·intro h;exact(B4 h).2
 ·intro ⟨h1,h2⟩
  unfold YX Xf;refine List.mem_flatMap.mpr ⟨p.1,by simp;omega,qE.mpr ⟨p.2-(p.1+1),by simp;omega,?_⟩⟩;obtain⟨a,b⟩:=p;simp only at h1 h2⊢;rw[show a+1+(b-(a+1))=b by omega]
theorem Jx {n i:Nat}{d:D}(h:(Z0 0 n)[i]?=some d):i<n/\d=.int (i:Int):=by
 have:=BT (lo:=0) h;rw[qac]at this;exact this
noncomputable def Yk (n:Nat)(jD:Qa):Prop:=jD.Sublist (YX n)
theorem Yk.mem {n:Nat}{jD:Qa}(h:Yk n jD){p:Nat×Nat}(hp:p∈jD):p.1<p.2/\p.2<n:=JO.mp (h.subset hp)
theorem Yk.len {n:Nat}{jD:Qa}(h:Yk n jD)(hn:n<=24):jD.length<=576:=by
 have h1:=h.length_le;have h2:=B3 n n;have h3:n*n<=24*24:=qcD hn hn;unfold YX at h1;omega
theorem Yk.filter {n:Nat}(f:Nat×Nat->Bool):Yk n ((YX n).filter f):=zT
theorem Yk.self {n:Nat}{jD:Qa}(h:Yk n jD):(YX n).filter (λp=>decide (p∈jD))=jD:=Za7 h (ZcA n) _ λx _=>by simp
theorem Zer {n:Nat}{jD:Qa}(h:Yk n jD):(YX n).filter (λp=>!decide (p∈(YX n).filter λq=>!decide (q∈jD)))=jD:=by
 conv=>rhs;rw[<-h.self]
 refine qaI λp hp=>?_;by_cases hq:p∈jD <;> simp[hq,hp]
theorem JS {jD:Qa}{a b:Nat}(h:a<b):tied jD a b=decide ((a,b)∈jD):=by
 unfold tied;rw[show min a b=a by omega,show max a b=b by omega]
theorem BX (jD:Qa)(a b:Nat):tied jD a b=tied jD b a:=by
 unfold tied;rw[show min a b=min b a by omega,show max a b=max b a by omega]
theorem Wx {n:Nat}{jD:Qa}:Zm (Zw n jD) (.int 0)=some (.int n):=by unfold Zw;exact Vt _ _
theorem Bu {n:Nat}{jD:Qa}:Zm (Zw n jD) (.int 1)=some (.tup (jD.map Zv)):=by unfold Zw;exact W7 _ _ _
theorem Zli {n i j:Nat}{l:Qa}(h:l.Sublist (Xf n i++(qp j).map λk=>(i,i+1+k)))(hn:n<=1000)(hi:i<n)(hj:j<=n):(l.map Zv).length<xg:=by
 have h1:=h.length_le;rw[qG,qj,zc]at h1;have h2:=Zhh n i j hn hi hj;rw[qj];omega
end TP
namespace HT
section
variable {prog:xz}{w:World}{A:xA}{E:xB}{s:Shared}
theorem getItem_tuple_whole {t sl:Addr}{items:Array Value}{vl vu:Value}{lo hi:Option Int}{Q:xB}(ht:IsTup s.heap t items)(hs:s.heap.IsSliceOf sl vl vu .none)(pl:IsPart vl lo)(pu:IsPart vu hi)
  (hw:sIx items.size 0 lo=0/\sIx items.size items.size hi=items.size)
  (h:Q (.ref t) s)
  (hsz:items.size<=xg):xf (xw prog w) A (getItem (.ref t) (.ref sl)) Q E s:=by
 obtain⟨os,hos,hcs,hds⟩:=id hs;have hTs:s.TypeIs (.ref sl) "slice":=⟨os,hos,hcs⟩;unfold getItem
 try with_reducible refine xt ?_
 first | refine xa (xb ?_) | skip
 refine xa (wpAny_sequenceKey ht.typeIs (by decide) ?_);refine xa (wpAny_callSpecial?_slot (name:=y9 "__getitem__") ht.typeIs zP
  (wpAny_call_entry zP ht.typeIs entry_tuple_getitem ?_ (args_tuple_getitem _ _)))
 show xf _ _ (qbX (.ref t) >>= _) _ _ s;refine xa (tupleItemsOf_ ht ?_);refine xa (wpAny_typeOf hTs ?_);rw[if_pos (by decide)];refine xa (Zar hs pl pu ?_);have hyes:((((sIx items.size 0 lo:Nat):Int)==0&&(1:Int)==1&&(sIx items.size items.size hi-sIx items.size 0 lo)==items.size)=true):=by
  rw[hw.1,hw.2];simp
 show xf _ _ (if (((sIx items.size 0 lo:Nat):Int)==0&&(1:Int)==1&&(sIx items.size items.size hi-sIx items.size 0 lo)==items.size)=true then _ else _) _ _ s;rw[if_pos hyes];unfold Builtin.Tuple.tupleIsExact;refine xa (xa (wpAny_typeOf ht.typeIs ?_));refine xb ?_;rw[if_pos (by decide)];refine xa (wpAny_rule ?_)
 first
  | exact xa (xb ⟨_,rfl,xb h⟩)
  | exact xa (xb (xb ⟨_,rfl,xb h⟩))
end
end HT
namespace TF
open L2
noncomputable def ZnP (K:qk):V->Option Int->Option Int->Hp->VK->Prop:=λx lo hi H Q=>∃a xs,x=.ref a/\ZI K H a xs/\
 (HT.sIx xs.length 0 lo=0/\HT.sIx xs.length xs.length hi=xs.length)/\Q (.ref a) H
section
variable {X:Cx}{G:Gh}
theorem Zlj:Ud X (ZnP X.K):=by
 intro jC s σ H x v vl vu lo hi sl Q I rx hs pl pu h;obtain⟨a,xs,rfl,hx,hw,q⟩:=h
 cases rx
 obtain⟨jE,r,ht,hz⟩:=I.tuple hx;have jM:jE.toArray.size=xs.length:=by rw[qL];exact r.length.symm
 refine⟨"tuple",_,zP.lookup,ht.typeIs,?_⟩;exact HT.getItem_tuple_whole ht hs pl pu (by rw[jM];exact hw) ⟨.ref a,H,I,rfl,q⟩ (by rw[jM];exact hz)
noncomputable def Uc (ds:List D)(lo hi:Option Int):List D:=(ds.drop (HT.sIx ds.length 0 lo)).take (HT.sIx ds.length ds.length hi-HT.sIx ds.length 0 lo)
noncomputable def POD (X:Cx)(G:Gh)(e:Option Expr)(f:Zb->M (Option Int)):Prop:=
 ∃t,PO X e t/\∀(σ:St) (Hf H:Hp) (ρ:Zb) (s:Pn) (o:Option Int) (s':Pn) (Q:Option Int->Hp->Prop),Zz G Hf H->YB G Hf σ ρ->G.st s H->f ρ s=some (o,s')->
  (∀Hf' H',Gr G Hf H Hf' H'->G.st s' H'->Q o H')->t σ H Q
noncomputable def Zl5:Zb->M (Option Int):=λ_=>ZB none
noncomputable def Zl6 (f:Zb->M D):Zb->M (Option Int):=fun ρ=>Zp (f ρ) λd=>match d with | .int i=>ZB (some i) | _=>ZE
theorem Zjw:POD X G none Zl5:=⟨_,ZkS,fun σ Hf H ρ s o s' Q e1 e2 e3 e4 k=>by
 obtain⟨rfl,rfl⟩:=ZR e4;exact k Hf H (.refl e1) e3⟩
theorem Zjx {e:Expr}{f:Zb->M D}{r1:Bool}(h:PD X G r1 e f):POD X G (some e) (Zl6 f):=by
 obtain⟨t,p,q⟩:=h.drop;refine⟨_,ZkT p,fun σ Hf H ρ s o s' Q e1 e2 e3 e4 k=>?_⟩;obtain⟨d,s1,a1,a2⟩:=ZG e4;refine q σ Hf H ρ s d s1 _ e1 e2 e3 a1 λv jQ H1 g1 jT r1=>?_
 match d,a2,r1 with
 | .int i,a2,r1=>
  obtain⟨rfl,rfl⟩:=ZR a2;exact⟨i,ja.mp r1,k jQ H1 g1 jT⟩
noncomputable def Zjy (f:Zb->M D)(fl fh:Zb->M (Option Int)):Zb->M D:=fun ρ=>Zp (f ρ) λd=>Zp (fl ρ) λlo=>Zp (fh ρ) λhi=>match d with
 | .tup ds=>ZB (.tup (Uc ds lo hi))
 | .lst ds=>ZB (.lst (Uc ds lo hi))
 | _=>ZE
theorem Zhj {Hf:Hp}{ds:List D}{vs:List V}(r:Zi G Hf ds vs)(lo hi:Option Int):Zi G Hf (Uc ds lo hi) (Vu vs lo hi):=by
 unfold Uc Vu;rw[r.length];exact(r.drop _).take _
theorem Zgp {ds:List D}{lo hi:Option Int}(h:HT.sIx ds.length 0 lo=0/\HT.sIx ds.length ds.length hi=ds.length):Uc ds lo hi=ds:=by
 unfold Uc;rw[h.1,h.2];simp
theorem Zjz {e:Expr}{lo hi:Option Expr}{p2 pos:Pos}{f:Zb->M D}{fl fh:Zb->M (Option Int)}{r1:Bool}(he:PD X G r1 e f)(hl:POD X G lo fl)(hh:POD X G hi fh):PD X G true (.Subscript e (.Slice lo hi none p2) pos) (Zjy f fl fh):=by
 obtain⟨t,p,q⟩:=he.drop;obtain⟨tl,pl,ql⟩:=hl;obtain⟨th,ph,qh⟩:=hh;refine⟨_,ZiZ (ZkV.or (ZmD.or Zlj)) p pl ph,fun σ Hf H ρ s d s' Q e1 e2 e3 e4 k=>?_⟩;obtain⟨d0,s1,a1,a2⟩:=ZG e4;obtain⟨lo',s2,a3,a4⟩:=ZG a2;obtain⟨hi',s3,a5,a6⟩:=ZG a4;refine q σ Hf H ρ s d0 s1 _ e1 e2 e3 a1 λv jQ H1 g1 jT r1=>?_;refine ql σ jQ H1 ρ s1 lo' s2 _ g1.fh (e2.ext g1.ff) jT a3 λjX H2 g2 jO=>?_;refine qh σ jX H2 ρ s2 hi' s3 _ g2.fh ((e2.ext g1.ff).ext g2.ff) jO a5 λHf3 H3 g3 st3=>?_;have rr:=(r1.ext g2.ff).ext g3.ff;have g:=(g1.trans g2).trans g3
 match d0,a6,rr with
 | .lst ds,a6,rr=>
  obtain⟨rfl,rfl⟩:=ZR a6;obtain⟨a,vs,rfl,na,ha,ra⟩:=jb.mp rr;refine .inl ⟨a,vs,rfl,ZF.of (g.fh _ _ na ha),λl hl=>?_⟩;have nf:=Gh.nofp st3 hl;have g2:=Gr.new (o:=.lst (Vu vs lo' hi')) g.fh hl nf;have rr:=Zhj ra lo' hi';exact k (.ref l) _ _ (g.trans g2) (Gh.grow st3 hl) (jb.mpr ⟨l,_,rfl,nf,ZW,rr.ext g2.ff⟩) λ_=>jm g.hh (λa ea _=>by cases ea;exact nf) (Ye.mk g.fh hl nf rr)
 | .tup ds,a6,rr=>
  obtain⟨rfl,rfl⟩:=ZR a6;obtain⟨a,vs,rfl,na,ha,ra⟩:=jc.mp rr;by_cases hw:HT.sIx vs.length 0 lo'=0/\HT.sIx vs.length vs.length hi'=vs.length
  ·refine .inr (.inr ⟨a,vs,rfl,ZI.of (g.fh _ _ na ha),hw,?_⟩)
   rw[<-ra.length]at hw;exact k (.ref a) _ _ g st3 (by rw[Zgp hw];exact rr) λ_=>.scal λz=>z
  ·refine .inr (.inl ⟨a,vs,rfl,ZI.of (g.fh _ _ na ha),hw,λl hl=>?_⟩)
   have nf:=Gh.nofp st3 hl;have g2:=Gr.new (o:=.tup (Vu vs lo' hi')) g.fh hl nf;exact k (.ref l) _ _ (g.trans g2) (Gh.grow st3 hl) (jc.mpr ⟨l,_,rfl,nf,ZW,(Zhj ra lo' hi').ext g2.ff⟩) λ_=>.scal λz=>z
noncomputable def BE (X:Cx)(ops:List CmpOp)(rs:List Expr)(t:V->TT):Prop:=
 ∀(pos:Pos) (jC:Qb) (s:Shared) (σ:St) (H:Hp) (y:V) (v:Value) (Q:Bool->Hp->Prop),Inv X jC σ H s->ZH y v->t y σ H Q->xf (xw X.prog X.w) X.A (testChain pos v ops (evalEach rs X.env)) (TP X jC σ Q) X.xe s
theorem Zlk {op:CmpOp}{r:R2}{c:Expr}{tc:TE}(ho:Z7 X (xk op) r)(hc:PE X c tc):BE X [op] [c] (λy σ H Q=>tc σ H λz H1=>r y z H1 λw H2=>∃k,w=.bl k/\Q k H2):=by
 intro pos jC s σ H y v Q I r1 h;refine test_last (ZM (hc jC s σ H _ I h) λu s2 ⟨z,H2,I2,r2,q2⟩=>ZM (ho jC s2 σ H2 y z v u _ I2 r1 r2 q2) λd s3 ⟨z',H3,I3,r3,k,e,q3⟩=>?_);subst e
 cases r3
 exact wpAny_truthy_bool ⟨H3,I3,q3⟩
theorem ZjA {op op':CmpOp}{ops:List CmpOp}{r:R2}{b c:Expr}{rs:List Expr}{tb:TE}{t:V->TT}(ho:Z7 X (xk op) r)(hb:PE X b tb)(hr:BE X (op'::ops) (c::rs) t) :
  BE X (op::op'::ops) (b::c::rs) (λy σ H Q=>tb σ H λz H1=>r y z H1 λw H2=>∃k,w=.bl k/\(if k=true then t z σ H2 Q else Q false H2)):=by
 intro pos jC s σ H y v Q I r1 h;refine test_link (ZM (hb jC s σ H _ I h) λu s2 ⟨z,H2,I2,r2,q2⟩=>ZM (ho jC s2 σ H2 y z v u _ I2 r1 r2 q2) λd s3 ⟨z',H3,I3,r3,k,e,q3⟩=>?_);subst e
 cases r3
 refine wpAny_truthy_bool ?_
 cases k with
 | false=>exact ite_ff ⟨H3,I3,q3⟩
 | true=>exact ite_tt (hr pos jC s3 σ H3 z u Q I3 r2 q3)
theorem Zig {op op':CmpOp}{ops:List CmpOp}{a b c:Expr}{rs:List Expr}{pos:Pos}{ta:TE}{t:V->TT}(ha:PE X a ta)(hr:BE X (op::op'::ops) (b::c::rs) t)
  (hm:lastMarks (op::op'::ops) (b::c::rs)=false:=by with_unfolding_all rfl):PT X (.Compare a (op::op'::ops) (b::c::rs) pos) (fun σ H Q=>ta σ H λy H1=>t y σ H1 Q):=by
 intro jC s σ H Q I h;exact isTrue_chain (ZM (ha jC s σ H _ I h) λv s1 ⟨y,H1,I1,r1,q1⟩=>hr pos jC s1 σ H1 y v Q I1 r1 q1) hm
noncomputable def PDCh (X:Cx)(G:Gh)(ops:List CmpOp)(rs:List Expr)(f:D->Zb->M Bool):Prop:=
 ∃t,BE X ops rs t/\∀(y:V) (σ:St) (Hf H:Hp) (d:D) (ρ:Zb) (s:Pn) (b:Bool) (s':Pn) (Q:Bool->Hp->Prop),Zz G Hf H->Zj G Hf d y->YB G Hf σ ρ->G.st s H->f d ρ s=some (b,s')->
  (∀Hf' H',Gr G Hf H Hf' H'->G.st s' H'->Q b H')->t y σ H Q
noncomputable def Jo (o:Option D):M Bool:=match o with | some (.bl k)=>ZB k | _=>ZE
theorem Zfi {o:Option D}{s s':Pn}{b:Bool}(h:Jo o s=some (b,s')):o=some (.bl b)/\s'=s:=by
 unfold Jo at h;split at h
 ·obtain⟨rfl,rfl⟩:=ZR h
  exact⟨rfl,rfl⟩
 ·cases h
noncomputable def Zhk (g:D->D->Option D)(fc:Zb->M D):D->Zb->M Bool:=λd ρ=>Zp (fc ρ) λe=>Jo (g d e)
noncomputable def Bh (g:D->D->Option D)(fb:Zb->M D)(f:D->Zb->M Bool):D->Zb->M Bool:=λd ρ=>Zp (fb ρ) λe=>Zp (Jo (g d e)) λk=>if k=true then f e ρ else ZB false
noncomputable def Zes (fa:Zb->M D)(f:D->Zb->M Bool):Zb->M Bool:=fun ρ=>Zp (fa ρ) λd=>f d ρ
theorem ZjB {op:CmpOp}{g:D->D->Option D}{c:Expr}{fc:Zb->M D}{r1:Bool}(ho:Y0 X G (xk op) g)(hc:PD X G r1 c fc):PDCh X G [op] [c] (Zhk g fc):=by
 obtain⟨r,po,qo⟩:=ho;obtain⟨tc,pc,qc⟩:=hc.drop;refine⟨_,Zlk po pc,λy σ Hf H d ρ s b s' Q e1 ry e2 e3 e4 k=>?_⟩;obtain⟨e,s1,a1,a2⟩:=ZG e4;obtain⟨a3,rfl⟩:=Zfi a2;refine qc σ Hf H ρ s e _ _ e1 e2 e3 a1 λz jQ H1 g1 jT r1=>?_;exact qo jQ H1 _ y z d e _ _ g1.fh jT (ry.ext g1.ff) r1 a3 λv jX H2 g2 jO r2 _=>⟨b,je.mp r2,k jX H2 (g1.trans g2) jO⟩
theorem ZdJ {op op':CmpOp}{ops:List CmpOp}{g:D->D->Option D}{b c:Expr}{rs:List Expr}{fb:Zb->M D}{f:D->Zb->M Bool}{r1:Bool}(ho:Y0 X G (xk op) g)(hb:PD X G r1 b fb)(hr:PDCh X G (op'::ops) (c::rs) f) :
  PDCh X G (op::op'::ops) (b::c::rs) (Bh g fb f):=by
 obtain⟨r,po,qo⟩:=ho;obtain⟨tb,pb,qb⟩:=hb.drop;obtain⟨t,pt,qt⟩:=hr;refine⟨_,ZjA po pb pt,λy σ Hf H d ρ s b' s' Q e1 ry e2 e3 e4 k=>?_⟩;obtain⟨e,s1,a1,a2⟩:=ZG e4;obtain⟨k1,s2,a3',a4⟩:=ZG a2;obtain⟨a3,rfl⟩:=Zfi a3';refine qb σ Hf H ρ s e _ _ e1 e2 e3 a1 λz jQ H1 g1 jT r1=>?_;refine qo jQ H1 _ y z d e _ _ g1.fh jT (ry.ext g1.ff) r1 a3 λv jX H2 g2 jO r2 _=>⟨k1,je.mp r2,?_⟩
 cases k1 with
 | false=>
  obtain⟨rfl,rfl⟩:=ZR a4;rw[if_neg (by decide)];exact k jX H2 (g1.trans g2) jO
 | true=>
  rw[if_pos rfl]at a4⊢;exact qt z σ jX H2 e ρ _ _ _ Q (g1.trans g2).fh (r1.ext g2.ff) ((e2.ext g1.ff).ext g2.ff) jO a4 λHf3 H3 g3 st3=>k Hf3 H3 ((g1.trans g2).trans g3) st3
theorem Zih {op op':CmpOp}{ops:List CmpOp}{a b c:Expr}{rs:List Expr}{pos:Pos}{fa:Zb->M D}{f:D->Zb->M Bool}{r1:Bool}(ha:PD X G r1 a fa)(hr:PDCh X G (op::op'::ops) (b::c::rs) f)
  (hm:lastMarks (op::op'::ops) (b::c::rs)=false:=by with_unfolding_all rfl):XZ X G (.Compare a (op::op'::ops) (b::c::rs) pos) (Zes fa f):=by
 obtain⟨ta,pa,qa⟩:=ha.drop;obtain⟨t,pt,qt⟩:=hr;refine⟨_,Zig pa pt hm,fun σ Hf H ρ s b s' Q e1 e2 e3 e4 k=>?_⟩;obtain⟨d,s1,a1,a2⟩:=ZG e4;refine qa σ Hf H ρ s d _ _ e1 e2 e3 a1 λy jQ H1 g1 jT r1=>?_;exact qt y σ jQ H1 d ρ s1 b s' Q g1.fh r1 (e2.ext g1.ff) jT a2 λjX H2 g2 jO=>k jX H2 (g1.trans g2) jO
noncomputable def sUnp (τ:D->Zb->Option Zb)(f:Zb->M D):Zb->M Out:=fun ρ=>Zp (f ρ) λd=>match τ d ρ with | some ρ'=>ZB (.nx ρ') | none=>ZE
theorem Zll {ob own:List Nat}{fr r1:Bool}{tg e:Expr}{pos:Pos}{τ:D->Zb->Option Zb}{f:Zb->M D}(he:PD X G r1 e f)(hg:Vg X G tg (λi=>i∉own) τ)(hs:swapsWithSole [tg] e pos.line X.env=pure false:=by rfl)(hw:swappedStores [tg] e X.env=pure none:=by rfl)
  (h1:(assignEach [tg] X.env).map (·.2)=[assign tg X.env]:=by rfl):Y5 X G ob own own fr (.Assign [tg] e pos) (sUnp τ (fun ρ=>f (Yu own ρ))):=by
 obtain⟨t,p,q⟩:=he;obtain⟨g,pg,qg⟩:=hg;have hy:VA G r1 t f:=q;refine⟨_,Zec p pg hs hw h1,λkn jN H0 σ H ρ s out s' E ⟨Hf,j⟩ st e po=>?_⟩;obtain⟨d,s1,a1,a2⟩:=ZG e;refine hy.a kn jN H0 σ Hf H ρ s d s1 _ j st a1 λv Hf' H' j' e1 e2 st' r fz=>?_
 cases eq:τ d ρ with
 | none=>rw[eq]at a2;cases a2
 | some ρ'=>
  rw[eq]at a2;obtain⟨rfl,rfl⟩:=ZR a2;exact qg v σ Hf' H' d ρ ρ' _ j'.gr.fh r eq fun σ' hs'=>po σ' H' ⟨Hf',hs'.jf j'⟩ st'
theorem ZjC {ob:List Nat}{fr r1:Bool}{tg e:Expr}{pos:Pos}{τ:D->Zb->Option Zb}{f:Zb->M D}(he:PD X G r1 e f)(hg:Vg X G tg (λi=>i∉([]:List Nat)) τ)(hs:swapsWithSole [tg] e pos.line X.env=pure false:=by rfl)(hw:swappedStores [tg] e X.env=pure none:=by rfl)
  (h1:(assignEach [tg] X.env).map (·.2)=[assign tg X.env]:=by rfl):Y5 X G ob [] [] fr (.Assign [tg] e pos) (sUnp τ f):=by
 have h:=Zll (ob:=ob) (fr:=fr) he hg hs hw h1;have e:(fun ρ=>f (Yu [] ρ))=f:=by funext ρ;rw[Zcp]
 rw[e]at h;exact h
theorem ZL.none {P:xz}{w:World}{K:qk}{mg:Str->Option Value}{base:Heap}{k:Nat}{x:Str}{n:Nat}{fr:Bool}{GG:Gh->Prop}{f:Addr}{fd:xy}{ps:List Str}(hm:mg x=some (.ref f))(hk:yI K (.ref f)=true)(hb:Wf K fd ps []) :
  ZL P w K mg base k x n fr GG (λ_=>ZE):=by
 refine⟨f,fd,ps,⟨λvs H Q E h=>?_,λA outer s H args us vs Q E _ _ _ _ h=>?_⟩,hm,hk,hb⟩
 ·obtain⟨G,Hf,ds,s,d,s',_,_,_,_,_,h,_⟩:=h
  cases h
 ·obtain⟨G,Hf,ds,s,d,s',_,_,_,_,_,h,_⟩:=h
  cases h
end
open PySem.SeqAt
open AutoSeq1 (wpAny_loadPart')
theorem Zgq (l:Addr)(items:Array Value)(n:Nat)(dd:Option Addr)(sl:Array (Option Value))(x:Int)(u:Tok)(hc0:¬((x < -(2 ^ 63):Bool)||(x≥2 ^ 63:Bool))=true)(hc1:¬(items.isEmpty||x==1)=true)(hc2:¬((x<=0:Bool)||items.isEmpty)=true)
  (hc3:¬((items.size:Int)*x > (2 ^ 63-1) / 8)) (hc4:¬qbY ((items.size:Int)*x)=true) (hsz:(qbD (λx1 x2=>x1++x2) #[] (qw x.toNat items)).size<=xg) :
  Meets (Builtin.«tuple.__mul__» ⟨[.ref l,.int x u],[]⟩) (λ_ R s=>s.heap.get? l=some { cls:=.type "tuple",dict:=dd,data:=.seq items n,slots:=sl }/\R (.ok (.ret (qT s.heap.objs.size))) { s with heap:=s.heap.push { cls:=yB "tuple",data:=Data.seq (qbD (λx1 x2=>x1++x2) #[] (qw x.toNat items)) },toks:=s.toks }):=
 .of_wp λprog w A R s h=>by
  obtain⟨hp,g,d,tk,os⟩:=s;obtain⟨hl,h⟩:=h;have f1:=qcb;have f2:=qar;have f3:=qbq;have f4:=qbh;have f5:=qbi;wp_walk using wpAny_loadPart' hl;rw[if_neg hc0];wp_walk using wpAny_loadPart' hl;rw[if_neg hc3];wp_walk using wpAny_loadPart' hl
  try (refine wpAny_ite_false (decide_eq_false (Nat.not_lt.mpr hsz)) ?_;wp_walk)
  exact⟨_,rfl,h⟩
theorem Zab:fillsNumberSlot (.type "tuple") "mul" = pure false:=
 PySem.fillsNumberSlot_seq (id:="tuple.__mul__") (r:=some (.builtin "tuple.__rmul__")) y8.lookup (by decide +kernel) qcn.lookup (by decide +kernel)
theorem Zaw:seqRepeat? (.type "tuple")=pure (some (.builtin "tuple.__mul__")):=by
 unfold seqRepeat?;rw[PySem.seqSlot_of (T:="tuple") (name:="__mul__") (id:="tuple.__mul__") y8.lookup (by decide +kernel),PySem.seqSlot_of (T:="tuple") (name:="__rmul__") (id:="tuple.__rmul__") qcn.lookup (by decide +kernel)];rfl
theorem Zah (a:Int)(t:Tok)(l:Addr)(items:Array Value)(n:Nat)(dd:Option Addr)(sl:Array (Option Value)) :
  Meets (Builtin.«int.__rmul__» ⟨[.int a t,.ref l],[]⟩) (λ_ R s=>s.heap.get? l=some { cls:=.type "tuple",dict:=dd,data:=.seq items n,slots:=sl }/\R (.ok (.ret qcM)) s):=
 .of_wp λprog w A R s h=>by obtain⟨hp,g,d,tk,os⟩:=s;obtain⟨hl,h⟩:=h;wp_walk;exact⟨_,rfl,h⟩
section
variable {X:Cx}{G:Gh}
noncomputable def ZnQ (K:qk):R2:=λx y H Q=>∃l k xs,x=.ref l/\y=.int k/\ZI K H l xs/\xs≠[]/\2<=k/\k<2 ^ 62/\xs.length*k.toNat<=xg/\
 ∀p,H p=none->Q (.ref p) (Zl H p (.tup (qw k.toNat xs).flatten))
theorem Zlm:Z7 X (binaryOp .Mult) (ZnQ X.K):=by
 intro jC s σ H x y v u Q I rx ry h;obtain⟨l,k,xs,rfl,rfl,hH,hne,h1,h2,hz,q⟩:=h
 cases rx
 obtain⟨t,rfl⟩:=ry;obtain⟨jE,r,p1,_⟩:=I.tuple hH;obtain⟨⟨cls,dd,data,sl⟩,ho,hc,n,hd⟩:=id p1;simp only at hc hd;subst hc hd;have hl:=r.length;have hsz:jE.toArray.size=xs.length:=by rw[qL];exact hl.symm
 have hne':jE≠[]:=λz=>hne (r.nil_iff.mp z);have hemp:jE.toArray.isEmpty=false:=by cases jE with | nil=>exact absurd rfl hne' | cons a b=>rfl
 have e0:((k.toNat:Nat):Int)=k:=by omega
 have hcap:((jE.toArray.size:Int)*k)=((xs.length*k.toNat:Nat):Int):=by rw[hsz,Int.natCast_mul,e0]
 have sl2:(xg:Nat)=16777216:=sizeLine_eq;have hnew:qbD (λx1 x2=>x1++x2) #[] (qw k.toNat jE.toArray)=(qw k.toNat jE).flatten.toArray:=by
  have:=Zbv jE k.toNat [];rw[qaf]at this;exact this
 have hfl:(qw k.toNat jE).flatten.length<=xg:=by rw[Zeh,qbF,<-hl];exact hz
 refine wpAny_binaryOp_repeat_ref (T:="tuple") (U:="int") (by decide) ⟨_,ho,rfl⟩ (λs'=>typeIs_int s' k t) Zab qbE yS Zaw qbu.lookup
  (call_meets yS (typeIs_int s k t) qbv (qbk _ _) (Zah k t l jE.toArray n dd sl)
   ⟨ho,rfl,⟨_,ho,rfl⟩,call_meets y8 ⟨_,ho,rfl⟩ qbj (qa6 _ _) (Zgq l jE.toArray n dd sl k t ?_ ?_ ?_ ?_ ?_ ?_) ⟨ho,?_⟩⟩)
 ·simp;omega
 ·rw[hemp];simp;omega
 ·rw[hemp];simp;omega
 ·rw[hcap];omega
 ·unfold qbY
  rw[hcap,decide_eq_true_eq];omega
 ·rw[hnew,qL];exact hfl
 ·rw[hnew]
  exact⟨.ref s.heap.objs.size,_,I.laid (t':=s.toks) (o:=.tup (qw k.toNat xs).flatten) (λb ob q=>qf _ q) (qm _) ⟨by rw[Zeh,qbF];exact hz,_,r.rep k.toNat,qbR _ _⟩,rfl,q _ (I.hok.fresh (qm _))⟩
theorem Zi.rep {Hf:Hp}{ds:List D}{vs:List V}(r:Zi G Hf ds vs):∀k:Nat,Zi G Hf (qw k ds).flatten (qw k vs).flatten
 | 0=>Zi.nil_iff.mpr rfl
 | k+1=>by
  rw[yk,yk,zN,zN];exact r.append (Zi.rep r k)
noncomputable def Ja:D->D->Option D
 | .int i,.int j=>if UD i j=true then some (.int (i*j))else none
 | .tup ds,.int k=>if ds≠[]/\2<=k/\k<2 ^ 62/\ds.length*k.toNat<=xg then some (.tup (qw k.toNat ds).flatten)else none
 | .lst ds,.int k=>if -(2 ^ 63)<=k/\k<2 ^ 63/\ds.length*k.toNat<=xg then some (.lst (qw k.toNat ds).flatten)else none
 | _,_=>none
theorem ZjD:Y0 X G (binaryOp .Mult) Ja:=by
 obtain⟨r0,po,qo⟩:=VF (X:=X) (G:=G);refine⟨_,po.or (Zlm.or ZmI),λHf H s x y d e c Q e1 st rx ry q k=>?_⟩
 match d,e,q,rx,ry with
 | .int i,.int j,q,rx,ry=>exact .inl (qo Hf H s x y _ _ c Q e1 st rx ry q k)
 | .tup ds,.int j,q,rx,ry=>
  have q:(if ds≠[]/\2<=j/\j<2 ^ 62/\ds.length*j.toNat<=xg then some (D.tup (qw j.toNat ds).flatten)else none)=some c:=q;split at q
  ·rename_i hz
   cases q
   obtain⟨p,vs,rfl,np,hp,rp⟩:=jc.mp rx;refine .inr (.inl ⟨p,j,vs,rfl,ja.mp ry,ZI.of (e1 _ _ np hp),λz=>hz.1 (zQ.mp (by rw[rp.length,z];rfl)),hz.2.1,hz.2.2.1,by rw[<-rp.length];exact hz.2.2.2,λl hl=>?_⟩);have nf:=Gh.nofp st hl;have g2:=Gr.new (o:=.tup (qw j.toNat vs).flatten) e1 hl nf;exact k (.ref l) _ _ g2 (Gh.grow st hl) (jc.mpr ⟨l,_,rfl,nf,ZW,(rp.rep _).ext g2.ff⟩) (.scal λz=>z)
  ·cases q
 | .lst ds,.int j,q,rx,ry=>
  have q:(if -(2 ^ 63)<=j/\j<2 ^ 63/\ds.length*j.toNat<=xg then some (D.lst (qw j.toNat ds).flatten)else none)=some c:=q;split at q
  ·rename_i hz
   cases q
   obtain⟨p,vs,rfl,np,hp,rp⟩:=jb.mp rx;refine .inr (.inr ⟨p,j,vs,rfl,ja.mp ry,e1 _ _ np hp,hz.1,hz.2.1,by rw[<-rp.length];exact hz.2.2,λl hl=>?_⟩);have nf:=Gh.nofp st hl;have g2:=Gr.new (o:=.lst (qw j.toNat vs).flatten) e1 hl nf;exact k (.ref l) _ _ g2 (Gh.grow st hl) (jb.mpr ⟨l,_,rfl,nf,ZW,(rp.rep _).ext g2.ff⟩) (Ye.mk e1 hl nf (rp.rep _))
  ·cases q
end
end TF
namespace TF
open L2
section
variable {X:Cx}{G:Gh}
end
section
variable {f g:Zb->M D}{ρ:Zb}{s s1:Pn}{a b:Bool}{r:Option (D×Pn)}
theorem Zln (h:f ρ s=some (.bl a,s1)):Bo f ρ s=some (.bl (!a),s1):=by unfold Bo Zp;rw[h];rfl
end
section
variable {f g:Zb->M Bool}{ρ:Zb}{s s1:Pn}{a b:Bool}{r:Option (Bool×Pn)}
theorem ZmW (h:f ρ s=some (false,s1)):XV f g ρ s=some (false,s1):=by unfold XV Zp;rw[h];rfl
theorem ZmX (h:f ρ s=some (true,s1))(h2:g ρ s1=r):XV f g ρ s=r:=by unfold XV Zp;rw[h];exact h2
theorem ZnR (h:f ρ s=some (true,s1)):Xg f g ρ s=some (true,s1):=by unfold Xg Zp;rw[h];rfl
theorem Wr (h:f ρ s=some (false,s1))(h2:g ρ s1=r):Xg f g ρ s=r:=by unfold Xg Zp;rw[h];exact h2
theorem ZmY (h:f ρ s=some (a,s))(h2:a=false->g ρ s=some (b,s)):Xg f g ρ s=some (a||b,s):=by
 cases a with
 | true=>exact ZnR h
 | false=>rw[Bool.false_or];exact Wr h (h2 rfl)
theorem Zcf (h:f ρ s=some (a,s))(h2:a=true->g ρ s=some (b,s)):XV f g ρ s=some (a&&b,s):=by
 cases a with
 | false=>exact ZmW h
 | true=>rw[Bool.true_and];exact ZmX h (h2 rfl)
end
section
variable {c:Zb->M Bool}{g1 g2:Zb->M Out}{ρ:Zb}{s s1:Pn}{r:Option (Out×Pn)}
theorem Jb (h:c ρ s=some (true,s1))(h2:g1 ρ s1=r):Z9 c g1 g2 ρ s=r:=by unfold Z9 Zp;rw[h];exact h2
theorem UF (h:c ρ s=some (false,s1))(h2:g2 ρ s1=r):Z9 c g1 g2 ρ s=r:=by unfold Z9 Zp;rw[h];exact h2
end
section
variable {fa fb:Zb->M D}{f:D->Zb->M Bool}{g:D->D->Option D}{ρ:Zb}{s s1 s2:Pn}{d e:D}{k:Bool}{r:Option (Bool×Pn)}
theorem Zii (h:fa ρ s=some (d,s1))(h2:f d ρ s1=r):Zes fa f ρ s=r:=by unfold Zes Zp;rw[h];exact h2
theorem ZjE (h:fb ρ s=some (e,s1))(h2:g d e=some (.bl k)):Zhk g fb d ρ s=some (k,s1):=by unfold Zhk Zp;rw[h];show Jo (g d e) s1=_;rw[h2];rfl
theorem Zfj (h:fb ρ s=some (e,s))(h2:g d e=some (.bl k)){b:Bool}(h3:k=true->f e ρ s=some (b,s)):Bh g fb f d ρ s=some (k&&b,s):=by
 unfold Bh Zp;simp only[h,h2,Jo,ZB]
 cases k with
 | false=>rfl
 | true=>simp[h3 rfl]
end
theorem eqi (a b:Int):YD (.int a) (.int b)=some (.bl (a==b)):=by
 unfold YD;rw[if_pos (by simp[Vx,Zo,Z4])];simp[ZA]
theorem nei (a b:Int):XC (.int a) (.int b)=some (.bl (!(a==b))):=by
 unfold XC;rw[if_pos (by simp[Vx,Zo,Z4])];simp[ZA]
theorem BO {τ:D->Zb->Option Zb}{body:Zb->M Out}{d:D}{ds:List D}{ρ ρ1 ρ2:Zb}{s s1:Pn}{r:Option (Out×Pn)}(h:τ d ρ=some ρ1)(hb:body ρ1 s=some (.nx ρ2,s1))(h2:XW τ body ds ρ2 s1=r):XW τ body (d::ds) ρ s=r:=by
 unfold XW Zp YZ;simp only[h,hb];exact h2
theorem Zbf {τ:D->Zb->Option Zb}{body:Zb->M Out}{d e:D}{ds:List D}{ρ ρ1:Zb}{s s1:Pn}(h:τ d ρ=some ρ1)(hb:body ρ1 s=some (.rt e,s1)):XW τ body (d::ds) ρ s=some (.rt e,s1):=by
 unfold XW Zp YZ;simp only[h,hb];rfl
theorem JT {fi:Zb->M (List D)}{τ:D->Zb->Option Zb}{body:Zb->M Out}{ds:List D}{ρ:Zb}{s s1:Pn}{r:Option (Out×Pn)}(h:fi ρ s=some (ds,s1))(h2:XW τ body ds ρ s1=r):Y2 fi τ body ρ s=r:=by
 unfold Y2 Zp;rw[h];exact h2
theorem Zcg {f:Zb->M D}{ρ:Zb}{s s1:Pn}{ds:List D}(h:f ρ s=some (.tup ds,s1)):WL f ρ s=some (ds,s1):=by unfold WL Zp;rw[h];rfl
theorem Wc {f:Zb->M D}{ρ:Zb}{s s1:Pn}{ds:List D}(h:f ρ s=some (.lst ds,s1)):Yf f ρ s=some (ds,s1):=by unfold Yf Zp;rw[h];rfl
end TF
namespace TP
open L2 TF
theorem VD {α:Type}(l:List α):l.filter (λ_=>true)=l:=qcZ.mpr (by simp)
end TP
namespace TF
open L2
section
variable {f:Zb->M D}{fs:Zb->M (List D)}{ρ:Zb}{s:Pn}
theorem Ok.lst {Q:D->Pn->Prop}(h:Ok (fs ρ) s λds s1=>ds.length<=xg/\Q (.lst ds) s1):Ok (YS fs ρ) s Q:=.bind (h.mono λ_ _ q=>.ite q.1 (.ret q.2))
theorem Ok.fn' {F:List D->M D}{Q:D->Pn->Prop}(h:Ok (fs ρ) s λds s1=>Ok (F ds) s1 Q):Ok (Zs F fs ρ) s Q:=.bind h
theorem Ok.sunp {τ:D->Zb->Option Zb}{Q:Out->Pn->Prop}(h:Ok (f ρ) s λd s1=>∃ρ',τ d ρ=some ρ'/\Q (.nx ρ') s1):Ok (sUnp τ f ρ) s Q:=
 .bind (h.mono λd s1 q=>by obtain⟨ρ',e,q⟩:=q;rw[e];exact .ret q)
end
theorem Zlo {f:Zb->M D}{ρ:Zb}{s:Pn}{x:D}(h1:f ρ s=some (x,s)):Yg (Zc f Zf) ρ s=some (.tup [x],s):=Vq (Zg h1 rfl) (by show 1<=xg;decide)
theorem Uv {f g:Zb->M D}{ρ:Zb}{s:Pn}{x y:D}(h1:f ρ s=some (x,s))(h2:g ρ s=some (y,s)):Yg (Zc f (Zc g Zf)) ρ s=some (.tup [x,y],s):=Vq (Zg h1 (Zg h2 rfl)) TP.two_le
theorem Zet {f:Zb->M D}{ρ:Zb}{s:Pn}{x:D}(h1:f ρ s=some (x,s)):YS (Zc f Zf) ρ s=some (.lst [x],s):=W1 (Zg h1 rfl) (by show 1<=xg;decide)
theorem Zlp {f g:Zb->M D}{ρ:Zb}{s:Pn}{x y:D}(h1:f ρ s=some (x,s))(h2:g ρ s=some (y,s)):YS (Zc f (Zc g Zf)) ρ s=some (.lst [x,y],s):=W1 (Zg h1 (Zg h2 rfl)) TP.two_le
theorem ZjF {X:Cx}{GG:Gh->Prop}{ob own own':List Nat}{fr:Bool}{sts:List Stmt}{g:Zb->M Out}(h:∀G,GG G->X6 X G ob own own' fr sts g):Wj X sts (λE σ H=>∃G,GG G/\Zjr G ob own own' fr g E σ H):=by
 intro jC s σ H D I ⟨G,hG,kn,jN,H0,ρ,pn,out,pn',j,st,e,po⟩;obtain⟨t,p,q⟩:=h G hG;exact p jC s σ H D I (q kn jN H0 σ H ρ pn out pn' D j st e po)
theorem ZmZ {K:qk}{H:Hp}{a p:Addr}{xs:List V}{o:HO}(sq:ZF K H a xs)(hp:H p=none):ZF K (Zl H p o) a xs:=by
 have hne:∀u,H a=some u->a≠p:=λu e z=>by rw[z,hp]at e;cases e
 rcases sq with(q | ⟨o',q⟩) | q
 ·exact .inl (.inl (by rw[Zx (hne _ q)];exact q))
 ·exact .inl (.inr ⟨o',by rw[Zx (hne _ q)];exact q⟩)
 ·exact .inr q
noncomputable def Xv (L:List (Addr×Str))(b:Addr):Prop:=∃q,(b,q)∈L
noncomputable def Zl7 (G0:Gh)(L:List (Addr×Str))(P:Addr)(q:Str)(H:Hp):Prop:=∃ps,H P=some (.tbl ps)/\TriplesOk ps.toList/\∀pos cv,codeAmong pos ps.toList=some cv->∃c',cv=.ref c'/\H c'=some (.ext (codeφ c' q))/\¬G0.fp c'/\¬Xv L c'
noncomputable def UG (G0:Gh)(L:List (Addr×Str)):Gh where
 fp:=λb=>G0.fp b∨Xv L b
 rd:=λb=>G0.rd b∨Xv L b
 pen:=G0.pen
 st:=λs H=>G0.st s H/\∀P q,(P,q)∈L->Zl7 G0 L P q H
 mono:=λs H H' ⟨h1,h2⟩ k1 k2=>⟨G0.mono s H H' h1 (λb o r=>k1 b o (.inl r)) k2,λP q m=>by
  obtain⟨ps,e,t,h⟩:=h2 P q m;refine⟨ps,k1 P _ (.inr ⟨q,m⟩) e,t,λpos cv hc=>?_⟩;obtain⟨c',z1,z2,z3⟩:=h pos cv hc;exact⟨c',z1,k2 _ _ z2,z3⟩⟩
 sub:=λb h=>h.elim (λz=>.inl (G0.sub b z)) .inr
 dom:=λs H b ⟨h1,h2⟩ hb=>by
  rcases hb with z | ⟨q,m⟩
  ·exact G0.dom s H b h1 z
  ·obtain⟨ps,e,_⟩:=h2 b q m
   exact⟨_,e⟩
 ntp:=λs H b vs ⟨h1,h2⟩ hb=>by
  rcases hb with z | ⟨q,m⟩
  ·exact G0.ntp s H b vs h1 z
  ·obtain⟨ps,e,_⟩:=h2 b q m
   rw[e];intro z;cases z
theorem Zdg {pos pos':Pos}{c:Value}(l:List Value)(h:TriplesOk l){cv:Value}(hc:codeAmong pos' (l ++ [rawInt pos.line,rawInt pos.col,c])=some cv):codeAmong pos' l=some cv∨cv=c:=by
 fun_induction TriplesOk l with
 | case1=>
  simp only[qaf,rawInt,codeAmong]at hc;split at hc
  ·exact .inr (zp hc).symm
  ·cases hc
 | case2 a b d e f rest ih=>
  simp only[qbw,codeAmong]at hc⊢;split at hc
  ·rename_i h1;rw[if_pos h1];exact .inl hc
  ·rename_i h1;rw[if_neg h1];exact ih h hc
 | case3=>cases h
theorem Zfk {pos:Pos}{c:Value}(l:List Value)(h:TriplesOk l):TriplesOk (l ++ [rawInt pos.line,rawInt pos.col,c]):=by
 fun_induction TriplesOk l with
 | case1=>simp[TriplesOk,rawInt]
 | case2 a b d e f rest ih=>simp only[qbw,TriplesOk];exact ih h
 | case3=>cases h
noncomputable def WA (L:List (Addr×Str)):Prop:=∀P q q',(P,q)∈L->(P,q')∈L->q=q'
noncomputable def Wi (GG0:Gh->Prop)(L:List (Addr×Str))(G:Gh):Prop:=∃G0,GG0 G0/\(∀b,Xv L b->¬G0.rd b)/\G=UG G0 L
theorem Zlq {G0:Gh}{L:List (Addr×Str)}{P:Addr}{q:Str}(lo:WA L)(hrd:∀b,Xv L b->¬G0.rd b)(m:(P,q)∈L):TabG P q (UG G0 L):=by
 refine⟨λs H st=>?_,.inr ⟨q,m⟩,λs H ps pos c' st hP hc hn=>?_⟩
 ·obtain⟨ps,e,t,h⟩:=st.2 P q m
  refine⟨ps,e,t,λpos cv hc=>?_⟩;obtain⟨c',z1,z2,z3,z4⟩:=h pos cv hc;exact⟨c',z1,z2,λz=>z.elim z3 z4⟩
 ·have hcP:c'≠P:=λz=>by rw[z,hP]at hc;cases hc
  have notL:¬Xv L c':=λ⟨q',m'⟩=>by
   obtain⟨_,e,_⟩:=st.2 c' q' m';rw[hc]at e;cases e
  have k2:∀b φ,H b=some (.ext φ)->Zl (Zl H P (.tbl (ps ++ #[rawInt pos.line,rawInt pos.col,.ref c']))) c' (.ext (codeφ c' q)) b=some (.ext φ):=λb φ e=>by
   rw[Zx (Yq e hc),Zx (λz=>by rw[z,hP]at e;cases e)];exact e
  refine⟨G0.mono s H _ st.1 (λb o r e=>?_) k2,λP' q' m'=>?_⟩
  ·rw[Zx (Yq e hc),Zx (λz=>hrd P ⟨q,m⟩ (by rw[<-z];exact r))];exact e
  ·by_cases hb:P'=P
   ·subst hb
    have:=lo P' q q' m m';subst this;obtain⟨ps',e,t,h⟩:=st.2 P' q m;rw[hP]at e;cases e;refine⟨_,by rw[Zx (zH hcP),ZW],?_,λpos' cv hcv=>?_⟩
    ·rw[qZ];exact Zfk _ t
    ·rw[qZ]at hcv
     rcases Zdg (pos:=pos) _ t hcv with z | z
     ·obtain⟨c2,z1,z2,z3⟩:=h pos' cv z
      exact⟨c2,z1,k2 _ _ z2,z3⟩
     ·exact⟨c',z,ZW,Gh.nofp st.1 hc,notL⟩
   ·obtain⟨ps',e,t,h⟩:=st.2 P' q' m'
    refine⟨ps',by rw[Zx (Yq e hc),Zx hb];exact e,t,λpos' cv hcv=>?_⟩;obtain⟨c2,z1,z2,z3⟩:=h pos' cv hcv;exact⟨c2,z1,k2 _ _ z2,z3⟩
noncomputable def Yz (L:List (Addr×Str))(G:Gh):Prop:=∀P q,(P,q)∈L->TabG P q G
theorem jw {GG0:Gh->Prop}{L:List (Addr×Str)}{G:Gh}(lo:WA L)(h:Wi GG0 L G):Yz L G:=by
 obtain⟨G0,_,hrd,rfl⟩:=h;exact λP q m=>Zlq lo hrd m
mutual
theorem Zj.tr {G G':Gh}{H H':Hp}(h:∀a o,¬G.fp a->H a=some o->(∀ps,o≠.tbl ps)->¬G'.fp a/\H' a=some o)(hp:G'.pen=G.pen):∀{d:D} {v:V},Yw d=true->Zj G H d v->Zj G' H' d v
 | .non,_,_,r=>jg.mpr (jg.mp r)
 | .bl _,_,_,r=>je.mpr (je.mp r)
 | .int _,_,_,r=>ja.mpr (ja.mp r)
 | .str _,_,_,r=>jh.mpr (jh.mp r)
 | .tup ds,v,n,r=>by
  obtain⟨a,vs,e1,nf,e2,r⟩:=jc.mp r;obtain⟨z1,z2⟩:=h a _ nf e2 (λ_ z=>by cases z);exact jc.mpr ⟨a,vs,e1,z1,z2,Zi.tr h hp (by simpa[Yw]using n) r⟩
 | .lst ds,v,n,r=>by
  obtain⟨a,vs,e1,nf,e2,r⟩:=jb.mp r;obtain⟨z1,z2⟩:=h a _ nf e2 (λ_ z=>by cases z);exact jb.mpr ⟨a,vs,e1,z1,z2,Zi.tr h hp (by simpa[Yw]using n) r⟩
 | .dk _,_,_,r=>by
  obtain⟨a,e1,nf,e2⟩:=jj.mp r;obtain⟨z1,z2⟩:=h a _ nf e2 (λ_ z=>by cases z);exact jj.mpr ⟨a,e1,z1,z2⟩
 | .dt _,_,_,r=>by
  obtain⟨a,o,e1,nf,e2⟩:=jk.mp r;obtain⟨z1,z2⟩:=h a _ nf e2 (λ_ z=>by cases z);exact jk.mpr ⟨a,o,e1,z1,z2⟩
 | .du _,_,_,r=>by
  obtain⟨a,e1,nf,e2⟩:=jl.mp r;obtain⟨z1,z2⟩:=h a _ nf e2 (λ_ z=>by cases z);exact jl.mpr ⟨a,e1,z1,z2⟩
 | .df _,_,_,r=>by
  obtain⟨a,o,e1,nf,e2⟩:=js.mp r;obtain⟨z1,z2⟩:=h a _ nf e2 (λ_ z=>by cases z);exact js.mpr ⟨a,o,e1,z1,z2⟩
 | .pen,_,_,r=>jp.mpr ((jp.mp r).trans hp.symm)
 | .ty _,_,_,r=>jq.mpr (jq.mp r)
 | .clo _ _,_,n,_=>by simp[Yw]at n
theorem Zi.tr {G G':Gh}{H H':Hp}(h:∀a o,¬G.fp a->H a=some o->(∀ps,o≠.tbl ps)->¬G'.fp a/\H' a=some o)(hp:G'.pen=G.pen):∀{ds:List D} {vs:List V},Y6 ds=true->Zi G H ds vs->Zi G' H' ds vs
 | [],_,_,r=>Zi.nil_iff.mpr (Zi.nil_iff.mp r)
 | d::ds,vs,n,r=>by
  obtain⟨v,rr,e,h1,h2⟩:=jd.mp r;have n':Yw d=true/\Y6 ds=true:=by simpa[Y6]using n
  exact jd.mpr ⟨v,rr,e,Zj.tr h hp n'.1 h1,Zi.tr h hp n'.2 h2⟩
end
open Classical in
noncomputable def VT (L:List (Addr×Str))(H H2:Hp):Hp:=λb=>if Xv L b then H2 b else H b
theorem Zlr {L:List (Addr×Str)}{H H2:Hp}{b:Addr}(h:Xv L b):VT L H H2 b=H2 b:=by unfold VT;rw[if_pos h]
theorem WF {L:List (Addr×Str)}{H H2:Hp}{b:Addr}(h:¬Xv L b):VT L H H2 b=H b:=by unfold VT;rw[if_neg h]
theorem Zls {P:xz}{w:World}{K:qk}{mg:Str->Option Value}{base:Heap}{k:Nat}{f:Addr}{fd:xy}{ps:List Str}{n:Nat}{fr:Bool}{GG0:Gh->Prop}{L:List (Addr×Str)}{F:List D->M D}(FN:FnOk P w K mg base ZV k f fd ps (Yl n fr GG0 F))
  (hF:∀ds s d s',F ds s=some (d,s')->Y6 ds=true/\Yw d=true):FnOk P w K mg base ZV k f fd ps (Yl n fr (Wi GG0 L) F):=by
 refine FN.imp λvs H Q E h=>?_;obtain⟨G,Hf,ds,s,d,s',⟨G0,hG0,hrd,rfl⟩,hl,e1,r,st,eF,k⟩:=h;obtain⟨n1,n2⟩:=hF _ _ _ _ eF;have nfp:∀b,Xv L b->¬G0.fp b:=λb m z=>hrd b m (G0.sub b z);have e1':Zz G0 (VT L Hf λ_=>none) H:=λb o nb q=>by
  by_cases m:Xv L b
  ·rw[Zlr m]at q;cases q
  ·rw[WF m]at q;exact e1 b o (λz=>z.elim nb m) q
 refine⟨G0,VT L Hf λ_=>none,ds,s,d,s',hG0,hl,e1',Zi.tr (G:=UG G0 L) (G':=G0) (λa o na q _=>?_) rfl n1 r,st.1,eF,λv Hf' H' g st' r' fz=>?_⟩
 ·have m:¬Xv L a:=λz=>na (.inr z)
  exact⟨λz=>na (.inl z),by rw[WF m];exact q⟩
 ·have tab:∀b,Xv L b->∃ps,H' b=some (.tbl ps):=λb ⟨q,m⟩=>by
   obtain⟨ps,e,_⟩:=st.2 b q m;exact⟨ps,g.hh b _ (nfp b ⟨q,m⟩) e⟩
  have out:∀a o,¬G0.fp a->Hf' a=some o->(∀ps,o≠.tbl ps)->¬Xv L a:=λa o na q no m=>by
   obtain⟨ps,e⟩:=tab a m;rw[g.fh a o na q]at e;exact no ps (zp e)
  have tr:∀a o,¬G0.fp a->Hf' a=some o->(∀ps,o≠.tbl ps)->¬(UG G0 L).fp a/\VT L Hf' Hf a=some o:=λa o na q no=>by
   have m:=out a o na q no;exact⟨λz=>z.elim na m,by rw[WF m];exact q⟩
  refine k v (VT L Hf' Hf) H' ⟨λb o nb q=>g.hh b o (λz=>nb (.inl z)) q,λb o nb q=>?_,λb o nb q=>?_,λb nb q1 q2=>?_⟩ ⟨st',λP q m=>?_⟩ (Zj.tr (G:=G0) (G':=UG G0 L) tr rfl n2 r') λz a ea mu=>?_
  ·have m:¬Xv L b:=λz=>nb (.inr z)
   rw[WF m];exact g.ff b o (λz=>nb (.inl z)) (by rw[WF m];exact q)
  ·have m:¬Xv L b:=λz=>nb (.inr z)
   rw[WF m]at q;exact g.fh b o (λz=>nb (.inl z)) q
  ·have m:¬Xv L b:=λz=>nb (.inr z)
   rw[WF m];exact g.nw b (λz=>nb (.inl z)) (by rw[WF m];exact q1) q2
  ·obtain⟨ps,e,t,h⟩:=st.2 P q m
   refine⟨ps,g.hh P _ (nfp P ⟨q,m⟩) e,t,λpos cv hc=>?_⟩;obtain⟨c',z1,z2,z3,z4⟩:=h pos cv hc;exact⟨c',z1,g.hh c' _ z3 z2,z3,z4⟩
  ·obtain⟨h1,h2⟩:=fz z a ea mu
   refine⟨h1,λxs ed=>?_⟩;obtain⟨us,Hm,q1,q2,q3,q4⟩:=h2 xs ed;have na:¬Xv L a:=λm=>by
    obtain⟨q,m⟩:=m;obtain⟨ps,e,_⟩:=st.2 a q m;rw[h1]at e;cases e
   refine⟨us,VT L Hm λ_=>none,by rw[WF na];exact q1,by rw[WF na];exact q2,λb o nb q=>?_,?_⟩
   ·have m:¬Xv L b:=λz=>nb (.inr z)
    rw[WF m]at q⊢;exact q3 b o (λz=>nb (.inl z)) q
   ·subst ed
    refine Zi.tr (G:=G0) (G':=UG G0 L) (λb o nb q no=>?_) rfl (by simpa[Yw]using n2) q4;have m:=out b o nb (q3 b o nb q) no;exact⟨λz=>z.elim nb m,by rw[WF m];exact q⟩
theorem ZjG {P:xz}{w:World}{K:qk}{mg:Str->Option Value}{base:Heap}{k:Nat}{x:Str}{n:Nat}{fr:Bool}{GG0:Gh->Prop}{L:List (Addr×Str)}{F:List D->M D}(c:ZL P w K mg base k x n fr GG0 F)(hF:∀ds s d s',F ds s=some (d,s')->Y6 ds=true/\Yw d=true):ZL P w K mg base k x n fr (Wi GG0 L) F:=
 let ⟨f,fd,ps,a,b,c,d⟩:=c
 ⟨f,fd,ps,Zls a hF,b,c,d⟩
theorem ZjH {N ps:List Str}{own:List Nat}{fr:Bool}{G:Gh}{t:TS}{g:Zb->M Out}{vs:List V}{ds:List D}{Hf H:Hp}{pn pn':Pn}{d:D}{Q:VK}(hpl:ps.length<=N.length)(q:Dos G [] [] own fr t g)(e1:Zz G Hf H)(r:Zi G Hf ds vs)(st':G.st pn H)(eF:runB N.length ps.length g ds pn=some (d,pn'))
  (k':∀v Hf' H',Gr G Hf H Hf' H'->G.st pn' H'->Zj G Hf' d v->(fr=true->Ye G H Hf' d v)->Q v H'):t { nx:=λ_ H'=>Q .non H',rt:=Q } (L2.start N vs) H:=by
 obtain⟨hl,a0⟩:=Xj eF;obtain⟨o,s1,a1,a2⟩:=ZG a0;have j0:Jf G [] Hf Hf H (L2.start N vs) Hf H (ds.map some++qw (N.length-ps.length) none):=by
  refine⟨?_,.refl _ _,.refl e1,λi d n e=>?_,λi d m e=>absurd m (by simp),λi j a di dj mi mj n e=>absurd mi (by simp)⟩
  ·have:=r.length
   unfold L2.start;simp;omega
  ·have hi:i<ds.length:=by
    by_cases hi:i<ds.length
    ·exact hi
    ·rw[yg (by simpa using hi),yV]at e
     split at e <;> cases e
   have e':ds[i]?=some d:=by
    rw[zw (by simpa using hi),qC]at e
    cases q:ds[i]? with
    | none=>rw[q]at e;cases e
    | some c=>rw[q]at e;simp at e;rw[e]
   obtain⟨v,h1,h2⟩:=r.get e';refine⟨v,?_,h2⟩;unfold L2.start;rw[zw (by simp;rw[<-r.length];exact hi),qC,h1];rfl
 refine q Hf Hf H (L2.start N vs) H _ pn o s1 _ ⟨Hf,j0⟩ st' a1 ?_
 cases o with
 | rt c=>
  obtain⟨rfl,rfl⟩:=ZR a2;exact λv Hf' H' g' jO r2 fz=>k' v Hf' H' g' jO r2 fz
 | nx ρ'=>
  obtain⟨rfl,rfl⟩:=ZR a2;exact fun σ' H' ⟨Hf',j'⟩ jO=>k' .non Hf' H' j'.gr jO (jg.mpr rfl) λ_=>.scal λz=>z
 | bk ρ'=>cases a2
 | ct ρ'=>cases a2
theorem fnDC {P:xz}{w:World}{K:qk}{mg:Str->Option Value}{base:Heap}{x qual:Str}{st:Stmt}{f:Addr}{fd:xy}{N ps:List Str}{k:Nat}{own:List Nat}{fr:Bool}{GG:Gh->Prop}{g:Zb->M Out}
  (F:Fun K x qual st f fd) (S:FnScope N ps (ZD st))
  (hb:∀(A:xA) (outer:List Env) (s:Shared) (H:Hp) (E:XK),Room k (A.deeper (envOfC qual (ZD st) s.heap.objs.size f fd.code))->∀G,GG G->X6 (Vb ZV P w K mg base N qual (ZD st) f fd.code A outer s H E).nox G [] [] own fr (Wb st) g) :
  FnOk P w K mg base ZV (k+1) f fd ps (Yl ps.length fr GG (runB N.length ps.length g)):=by
 obtain⟨oc,od,kV,doc,pm,an,cdv,ct,osl,rfl,lk,hcd⟩:=F.ex;refine ZlX lk hcd S (λvs H Q E ⟨_,_,_,_,_,_,_,e,_⟩=>e) λA outer s H vs Q E hr h=>?_;obtain⟨G,Hf,ds,pn,d,pn',hG,el,e1,r,st',eF,k'⟩:=h;obtain⟨t,p,q⟩:=hb A outer s H E hr G hG;exact⟨t,p.nox,ZjH (by have:=congrArg qbn S.pre;rw[qV]at this;omega) q e1 r st' eF k'⟩
section
variable {X:Cx}{G:Gh}{P c:Addr}{q:Str}{k kl n:Nat}{x:Str}{fr frb:Bool}{F:List D->M D}{T:Nat->List D->M D}{t:Nat}{e1:Expr}{f1:Zb->M D}{r1:Bool}{params:Arguments}{scope:Scope}{lpos ppos pos:Pos}{XN N ps:List Str}{NS:List (Str×NameKind)}{cix:List Nat}
end
noncomputable def UP (mg:Str->Option Value)(h:Heap):Prop:=∃bm o,mg "__builtins__" = some (.ref bm)/\bm≠builtinsNs/\bm≠mainGlobals/\h.get? bm=some o/\o.cls=.type "module"/\o.dict=some builtinsNs/\o.data=.plain
theorem Zij {P:xz}{w:World}{K:qk}{mg mb:Str->Option Value}{CX:XQ}{k:Nat}{fa a:Addr}{fd:xy}{x:Str}{sp:Sp}{s₁:Shared}{vs:List Value}{ns:List Int}{tb:List (Addr×Addr)}
  (KX:K.In s₁.heap) (hns:s₁.heap.Ns mainGlobals mg) (hb:s₁.heap.Ns builtinsNs mb) (hbb:∀x:Str,x≠"__name__"->mb x=xj x) (hlim:s₁.heap.NoLimit) (hg:s₁.gens = #[])
  (hT:∀e∈tb,yt s₁.heap e.1 e.2/\s₁.heap.get? e.2=some (qbc #[])) (hKt:PySem.W.noTabs K=true) (hbm:UP mg s₁.heap)
  (ha:s₁.heap.get? a=some { cls:=.type "list",data:=.seq vs.toArray }) (hi:IntsAre vs ns) (hl:ns.length<=xg) (hr:Room k callerA)
  (F:∀base:Heap,K.In base->base.Ns mainGlobals mg->(∀e∈tb,yt base e.1 e.2)->UP mg base->FnOk P w K mg base CX k fa fd [x] sp) (hbind:∀(s:Shared) (u:Value),BindsTo s fd ⟨[u],[]⟩ [(x,u)])
  (hsp:∀H:Hp,ZF K H a (ns.map V.int)->(∀e∈tb,H e.2=some (.tbl #[]))->sp [.ref a] H (λv _=>v=.bl true) λ_ _ _=>False)
  (hCX:∀H e s',CX [] H s₁ (λ_ _ _=>False) e s'->False) :
  xo (xw P w) callerA (.call (.ref fa) ⟨[.ref a],[]⟩) (λr s'=>r=.ok (.ret (.bool true))/\OldK s₁.heap s'.heap/\s'.os=s₁.os/\AllBare s'.gens) s₁:=by
 have rv:=ZdB hi;have lenV:=hi.length;have tabne:∀e∈tb,e.2≠a:=λe he z=>by
  have:=(hT e he).2;rw[z,ha]at this;cases this
 have noK:∀e∈tb,K.lookup e.2=none:=λe he=>by
  cases q:K.lookup e.2 with
  | none=>rfl
  | some o=>
   have h2:=yF.mp hKt (e.2,o) (PySem.W.mem_of_lookupK q);have e1:=KX _ _ q;rw[(hT e he).2]at e1
   cases e1
   exact absurd (show false=true from h2) yH
 have core:∀H:Hp,(∀b u,H b=some u->(b=a/\u=.frz { cls:=.type "list",data:=.seq vs.toArray } (.lst (ns.map V.int))/\K.lookup a=none)∨(u=.tbl #[]/\∃e∈tb,e.2=b))->ZF K H a (ns.map V.int)->(∀e∈tb,H e.2=some (.tbl #[]))->
   xo (xw P w) callerA (.call (.ref fa) ⟨[.ref a],[]⟩) (λr s'=>r=.ok (.ret (.bool true))/\OldK s₁.heap s'.heap/\s'.os=s₁.os/\AllBare s'.gens) s₁:=by
  intro H hO hS hTb;have hok:Yi P w H s₁.heap:=λb u e=>by
   rcases hO b u e with⟨rfl,rfl,_⟩ | ⟨rfl,e',he,rfl⟩
   ·exact⟨ha,by rw[qj];exact hl,vs,_,rv,ha⟩
   ·exact(hT e' he).2
  have base_of:∀{b:Addr} {o:Obj},s₁.heap.get? b=some o->H b=none->(Va s₁.heap H).get? b=some o:=λe n=>ZiQ e n;have noA:∀{b:Addr} {o:Obj},s₁.heap.get? b=some o->(∀vs n,o.data≠.seq vs n)->(∀vs,o.data≠.fields vs∨o.cls≠.none)->H b=none:=λ{b o} e d1 d2=>by
   cases q:H b with
   | none=>rfl
   | some u=>
    rcases hO b u q with⟨rfl,_,_⟩ | ⟨_,e',he,rfl⟩
    ·rw[ha]at e;cases e;exact absurd rfl (d1 _ _)
    ·rw[(hT e' he).2]at e;cases e
     rcases d2 #[]with z | z
     ·exact absurd rfl z
     ·exact absurd rfl z
  have nsK:∀{b:Addr} {m:Str->Option Value},s₁.heap.Ns b m->(Va s₁.heap H).Ns b m:=λ{b m} ⟨o,es,ep,e,d,r⟩=>⟨o,es,ep,base_of e (noA e (λ_ _ z=>by rw[d]at z;cases z) λ_=>.inl λz=>by rw[d]at z;cases z),d,r⟩;have hKb:K.In (Va s₁.heap H):=λb o e=>base_of (KX b o e) (by
   cases q:H b with
   | none=>rfl
   | some u=>
    rcases hO b u q with⟨rfl,_,z⟩ | ⟨_,e',he,rfl⟩
    ·rw[z]at e;cases e
    ·rw[noK e' he]at e;cases e)
  have hM:Mod K mg (Va s₁.heap H):=⟨hKb,nsK hns,⟨mb,nsK hb,hbb⟩,let ⟨mc,h1,h2⟩:=hlim;⟨mc,nsK h1,h2⟩⟩;have e0:Env0 P w K mg (Va s₁.heap H) callerA [] s₁ H:=⟨rfl,hM,λb o e=>ZkI e,Nat.le_of_eq (ZhL _ _),trivial,λb hb=>absurd (show b∈([]:List Addr)from hb) (by simp),hok,.of_eq hg⟩;have hCd:∀e∈tb,yt (Va s₁.heap H) e.1 e.2:=λe he=>by
   obtain⟨o,vs',file,tf,flags,tg,inF,text,tt,e1,r1,r2,r3⟩:=(hT e he).1;exact⟨o,vs',file,tf,flags,tg,inF,text,tt,base_of e1 (noA e1 (λ_ _ z=>by rw[r2]at z;cases z) λ_=>.inr (by rw[r1];nofun)),r1,r2,r3⟩
  have hBm:UP mg (Va s₁.heap H):=by
   obtain⟨bm,o,e1,e2,e3,e4,e5,e6,e7⟩:=hbm;exact⟨bm,o,e1,e2,e3,base_of e4 (noA e4 (λ_ _ z=>by rw[e7]at z;cases z) λ_=>.inl λz=>by rw[e7]at z;cases z),e5,e6,e7⟩
  refine codeAny_mono ((F _ hKb (nsK hns) hCd hBm).run callerA [] s₁ H ⟨[.ref a],[]⟩ [.ref a] [.ref a] _ _ hr e0 (hbind s₁ (.ref a)) (.cons rfl .nil) (hsp H hS hTb)) λr s' h=>?_
  cases r with
  | error e=>exact(hCX H e s' h).elim
  | ok fl=>
   cases fl with
   | next=>exact yq h
   | brk=>exact yq h
   | cont=>exact yq h
   | ret u=>
    obtain⟨v,H',os,bare,un,hok',r',q⟩:=h;have q':v=.bl true:=q;subst q';obtain rfl:u=yP true:=r';refine⟨rfl,⟨λb o e=>?_,λb o e=>un.there b o e (by simp)⟩,os,bare⟩
    cases q:H b with
    | none=>exact .inl (un.keep b o e q (by intro z;exact absurd (show b∈([]:List Addr)from z) (by simp)) (by simp))
    | some u=>
     rcases hO b u q with⟨rfl,rfl,_⟩ | ⟨rfl,e',he,rfl⟩
     ·have z2:=un.frzs b _ _ q
      obtain⟨e1,_⟩:=hok b _ q;obtain⟨e2,_⟩:=hok' b _ z2;rw[e]at e1;cases e1;exact .inl e2
     ·obtain⟨more,z⟩:=un.tbls _ _ q
      have z2:s'.heap.get? e'.2=some (qbc (#[]++more)):=hok' _ _ z;have e1:=(hT e' he).2;rw[e]at e1;cases e1;exact .inr (.inl ⟨((hT e' he).1.tab (hT e' he).2).isCodeTable,rfl,#[],more,rfl,z2⟩)
 cases hk:K.lookup a with
 | some o=>
  have e:=KX a o hk;rw[ha]at e
  cases e
  refine core (λb=>open Classical in if ∃e∈tb,e.2=b then some (.tbl #[])else none) (λb u z=>?_) (.inr ⟨_,vs.toArray,_,hk,rfl,rfl,rfl,by rw[qL,lenV];exact hl,by simpa using rv⟩) (λe he=>if_pos ⟨e,he,rfl⟩);by_cases h:∃e∈tb,e.2=b
  ·rw[if_pos h]at z;cases z;exact .inr ⟨rfl,h⟩
  ·rw[if_neg h]at z;cases z
 | none=>
  refine core (λb=>open Classical in if ∃e∈tb,e.2=b then some (.tbl #[])else if b=a then some (.frz { cls:=.type "list",data:=.seq vs.toArray } (.lst (ns.map V.int)))else none) (λb u z=>?_) (.inl (.inr ⟨{ cls:=.type "list",data:=.seq vs.toArray },?_⟩)) (λe he=>if_pos ⟨e,he,rfl⟩)
  ·by_cases h:∃e∈tb,e.2=b
   ·rw[if_pos h]at z;cases z;exact .inr ⟨rfl,h⟩
   ·rw[if_neg h]at z
    by_cases hb:b=a
    ·rw[if_pos hb]at z;cases z;exact .inl ⟨hb,rfl,hk⟩
    ·rw[if_neg hb]at z;cases z
  ·show(if ∃e∈tb,e.2=a then _ else _)=_
   rw[if_neg (λ⟨e,he,z⟩=>tabne e he z),if_pos rfl]
theorem ZjI {l : PySem.W.OpenLaw}{n k : Nat}{q : xz}{loose : List Str}{XP : (Str -> Option Value) -> Heap -> Prop}{YP : World -> Heap -> Prop}{d : DefRec}{K : Params -> qk}{CX : World -> XQ}{sp : World -> Sp}{x : Str}{tb : List (Str × Addr × Addr)}
    (hn : l.most = some n) (hn2 : n <= xg) (hdf : d.params.defaults = []) (hr : Room k callerA)
    (hY : ∀ (w : World) (h : Heap), YP w h -> (K w.params).In h)
    (hrec : ∀ e ∈ tb, ∃ d, (recsOf q).find? (λr => r.name == e.1) = some d) (htab : ∀ w : World, ∀ e ∈ tb, PySem.W.tabIn (K w.params) e.1 = some e.2) (hno : ∀ w : World, PySem.W.noTabs (K w.params) = true)
    (F : ∀ (w : World) (mg : Str -> Option Value) (fa : Addr) (h : Heap), (K w.params).In h -> h.Ns mainGlobals mg -> mg d.name = some (.ref fa) ->
      ∃ fd : xy, (∀ (s : Shared) (u : Value), BindsTo s fd ⟨[u], []⟩ [(x, u)]) /\
        ∀ base : Heap, (K w.params).In base -> base.Ns mainGlobals mg -> (∀ e ∈ tb, yt base e.2.1 e.2.2) -> UP mg base -> FnOk l.prog w (K w.params) mg base (CX w) k fa fd [x] (sp w))
    (hsp : ∀ (w : World) (H : Hp) (a : Addr) (ns : List Int), ns.length <= n -> ZF (K w.params) H a (ns.map V.int) -> (∀ e ∈ tb, H e.2.2 = some (.tbl #[])) -> sp w [.ref a] H (λv _ => v = .bl true) λ_ _ _ => False)
    (hCX : ∀ (w : World) (H : Hp) (s : Shared) (e : Value) (s' : Shared), CX w [] H s (λ_ _ _ => False) e s' -> False) :
    qcU q loose XP YP l.row.toRowW d [] (λf vs => qcO f vs) := by
  refine Att.attach_call hn hdf λw s₀ s₁ mg mb fa o pm cd doc a vs ns G Y ho hd hcd hmg hobj hints jM hg => ?_;have KX := hY w _ Y;obtain⟨fd, hb, hF⟩ := F w mg fa _ KX G.T.g hmg;have hT : ∀ e ∈ tb.map (·.2), yt s₁.heap e.1 e.2 /\ s₁.heap.get? e.2 = some (qbc #[]) := λe he => by
    obtain⟨e', he', rfl⟩ := qE.mp he;obtain⟨d', hd'⟩ := hrec e' he';exact PySem.W.tab_of G.T KX hd' (htab w e' he')
  exact Zij (tb := tb.map (·.2)) KX G.T.g G.T.b G.T.builtins G.T.nolimit hg hT (hno w) (let ⟨bm, ob, a, b, c, d, e, f⟩ := G.T.bmain; ⟨bm, ob, a, b, (λz => by
      obtain⟨o, es, ep, e', hd', _⟩ := G.T.g;rw[z, e'] at c; cases c; rw[hd'] at f; cases f), c, d, e, f⟩) hobj hints (zj jM hn2) hr
    (λbase h1 h2 h3 h4 => hF base h1 h2 (λe he => h3 e.2 (qax (f := (·.2)) he)) h4) hb (λH hS hTb => hsp w H a ns jM hS λe he => hTb e.2 (qax (f := (·.2)) he)) λH e s' => hCX w H s₁ e s'
end TF
namespace L2
section
variable {X:Cx}{jC:Qb}{σ:St}{H:Hp}{s:Shared}{h':Heap}
end
end L2
namespace TF
open L2
section
variable {X:Cx}{G:Gh}
end
section
variable {X:Cx}{G:Gh}
noncomputable def Xo (n:Int)(r:List Int):Int:=r.foldl max n
theorem Zlt (r:List Int):∀n,n<=Xo n r/\∀a∈r,a<=Xo n r:=by
 induction r with
 | nil=>intro n;exact⟨yO _,by simp⟩
 | cons b r ih=>
  intro n;obtain⟨h1,h2⟩:=ih (max n b);refine⟨?_,λa ha=>?_⟩
  ·show n<=Xo (max n b) r;omega
  ·show a<=Xo (max n b) r
   rcases qq.mp ha with rfl | ha
   ·omega
   ·exact h2 a ha
theorem ZjJ (r:List Int):∀n,Xo n r∈n::r:=by
 induction r with
 | nil=>intro n;simp[Xo]
 | cons b r ih=>
  intro n;have h:=ih (max n b);show Xo (max n b) r∈n::b::r;rcases qq.mp h with h | h
  ·rw[h]
   rcases Int.le_total n b with z | z
   ·rw[Int.max_eq_right z];simp
   ·rw[Int.max_eq_left z];simp
  ·exact qS _ (qS _ h)
theorem ZjK {n M:Int}{r:List Int}(h1:M∈n::r)(h2:∀a∈n::r,a<=M):M=Xo n r:=by
 obtain⟨g1,g2⟩:=Zlt r n;have g3:=h2 _ (ZjJ r n);have g4:M<=Xo n r:=by
  rcases qq.mp h1 with h | h
  ·rw[h];exact g1
  ·exact g2 M h
 omega
noncomputable def Jc:List D->Option D
 | [.lst ds]=>match ZO ds with | some (n::r)=>some (.int (Xo n r)) | _=>none
 | _=>none
theorem Zik (hc:X.calm=true):Xb X (.builtin "max") (λxs H Q=>∃p n r,xs=[.ref p]/\ZF X.K H p ((n::r).map V.int)/\Q (.int (Xo n r)) H):=by
 intro jC s σ H xs us Q I r h;obtain⟨p,n,rr,rfl,hp,q⟩:=h;obtain⟨u,rfl,ru⟩:=XU r
 cases ru
 obtain⟨jE,rv,pl,hz⟩:=I.list hp;have hi:IntsAre jE (n::rr):=Vj rv;obtain⟨xs,e⟩:=hi.allInts.items;have hns:n::rr=xs.toList.map (·.1):=by rw[<-hi.numsOf,<-nums_intItems,<-e]
 have hl:=pl.isList;rw[e]at hl;have hsz:0<xs.size:=by
  have h3:0<(n::rr).length:=by simp
  rw[hns,qj,qz]at h3;exact h3
 refine max_intList (I.ok.hd hc) hl hsz λv h' tk hv hk=>?_;obtain⟨t,rfl⟩:=intItems_at hv;obtain⟨h1,h2⟩:=argBest_gt (numAt xs) (xs.size-1);have e2:numAt xs (argBest (λi j=>decide (numAt xs i > numAt xs j)) (xs.size-1))=Xo n rr:=by
  refine ZjK ?_ λa ha=>?_
  ·rw[hns,numAt_eq];exact getD_mem (by rw[qj,qz];omega)
  ·rw[hns]at ha
   obtain⟨j,hj,rfl⟩:=mem_getD ha;rw[qj,qz]at hj;rw[<-numAt_eq];exact h2 j (by omega)
 rw[e2];exact⟨.int (Xo n rr),H,I.kept (t':=tk) hk,⟨_,rfl⟩,q⟩
theorem ZcB (hc:X.calm=true):Wg X G (.builtin "max") Jc:=
 ⟨_,Zik hc,λHf H s xs ds c Q e1 st r q k=>by
  match ds,q,r with
  | [.lst es],q,r=>
   have q:(match ZO es with | some (n::r)=>some (D.int (Xo n r)) | _=>none)=some c:=q
   cases he:ZO es with
   | none=>rw[he]at q;cases q
   | some ns=>
    cases ns with
    | nil=>rw[he]at q;cases q
    | cons n rr=>
     rw[he]at q
     cases q
     obtain⟨v,rfl,rv⟩:=ji r;obtain⟨p,vs,rfl,np,hp,rp⟩:=jb.mp rv;rw[Vm he]at rp;rw[jn rp]at hp;exact⟨p,n,rr,rfl,ZF.of (e1 _ _ np hp),k _ Hf H (.refl e1) st (ja.mpr rfl) (.scal λz=>z)⟩⟩
end
theorem ZaF:∀{a b:List Int},a.Perm b->a.Pairwise (·<=·)->b.Pairwise (·<=·)->a=b
 | [],b,p,_,_=>(List.nil_perm.mp p).symm
 | x::a,[],p,_,_=>absurd p.length_eq (by simp)
 | x::a,y::b,p,ha,hb=>by
  have ha':=yJ.mp ha;have hb':=yJ.mp hb;have e:x=y:=by
   have h1:x∈y::b:=p.mem_iff.mp (by simp);have h2:y∈x::a:=p.mem_iff.mpr (by simp);rcases qq.mp h1 with h1 | h1
   ·exact h1
   ·rcases qq.mp h2 with h2 | h2
    ·exact h2.symm
    ·have:=hb'.1 x h1
     have:=ha'.1 y h2;omega
  subst e;rw[ZaF (qa7.cons_inv p) ha'.2 hb'.2]
noncomputable def WN (ns:List Int):List Int:=ns.mergeSort λa b=>decide (a<=b)
theorem ZcC (ns:List Int):(WN ns).Perm ns:=qc0 ns _
theorem Zeu (ns:List Int):(WN ns).Pairwise (·<=·):=by
 have h:=qco (le:=λ(a b:Int)=>decide (a<=b)) (λa b c h1 h2=>by simp at h1 h2⊢;omega) (λa b=>by simp;omega) ns;exact h.imp λh=>by simpa using h
theorem ZcD {a ns:List Int}(p:a.Perm ns)(h:a.Pairwise (·<=·)):a=WN ns:=ZaF (p.trans (ZcC ns).symm) h (Zeu ns)
section
variable {X:Cx}{G:Gh}
theorem Zbg:∀{vs:List Value} {ns:List Int},IntsAre vs ns->Zy (ns.map V.int) vs
 | _,_,.nil=>.nil
 | _,_,.cons n t r=>.cons ⟨t,rfl⟩ (Zbg r)
theorem Zgr:Xb X (.builtin "sorted") (λxs H Q=>∃(p:Addr) (ns:List Int),xs=[.ref p]/\ZF X.K H p (ns.map V.int)/\ns.length<64/\∀l,H l=none->Q (.ref l) (Zl H l (.lst ((WN ns).map V.int)))):=by
 intro jC s σ H xs us Q I r h;obtain⟨p,ns,rfl,hp,h64,q⟩:=h;obtain⟨u,rfl,ru⟩:=XU r
 cases ru
 obtain⟨jE,rv,pl,hz⟩:=I.list hp;have hi:IntsAre jE ns:=Vj rv;have hl:=rv.length;rw[qj]at hl;refine sorted_ints pl.isList hi (by omega) λout ns' a1 a2 a3=>?_;obtain⟨e,he⟩:=sortedAll_at s.heap jE out;have eo:out=out.toList.toArray:=by simp
 rw[eo]at he;have en:=ZcD a2 a3;subst en;have hle:s.heap.objs.size<=s.heap.objs.size+1:=Nat.le_succ _;refine⟨.ref (s.heap.objs.size+1),_,I.laid (a:=s.heap.objs.size+1) (o:=.lst ((WN ns).map V.int)) (t':=s.toks) (λ_ _=>sortedAll_old) hle ⟨?_,out.toList,e,Zbg a1,he⟩,rfl,q _ (I.hok.fresh hle)⟩;rw[qj,(ZcC ns).length_eq,sizeLine_eq];omega
noncomputable def Zch:List D->Option D
 | [.lst ds]=>match ZO ds with | some ns=>if ns.length<64 then some (.lst ((WN ns).map .int))else none | none=>none
 | _=>none
theorem ZbA {Hf:Hp}:∀ns:List Int,Zi G Hf (ns.map D.int) (ns.map V.int)
 | []=>Zi.nil_iff.mpr rfl
 | n::ns=>.cons (ja.mpr rfl) (ZbA ns)
theorem Zev:Wg X G (.builtin "sorted") Zch:=
 ⟨_,Zgr,λHf H s xs ds c Q e1 st r q k=>by
  match ds,q,r with
  | [.lst es],q,r=>
   have q:(match ZO es with | some ns=>if ns.length<64 then some (D.lst ((WN ns).map .int))else none | none=>none)=some c:=q
   cases he:ZO es with
   | none=>rw[he]at q;cases q
   | some ns=>
    rw[he]at q;have q:(if ns.length<64 then some (D.lst ((WN ns).map .int))else none)=some c:=q;split at q
    ·rename_i h64
     cases q
     obtain⟨v,rfl,rv⟩:=ji r;obtain⟨p,vs,rfl,np,hp,rp⟩:=jb.mp rv;rw[Vm he]at rp;rw[jn rp]at hp;refine⟨p,ns,rfl,ZF.of (e1 _ _ np hp),h64,λl hl=>?_⟩;have nf:=Gh.nofp st hl;have g2:=Gr.new (o:=.lst ((WN ns).map V.int)) e1 hl nf;exact k (.ref l) _ _ g2 (Gh.grow st hl) (jb.mpr ⟨l,_,rfl,nf,ZW,ZbA _⟩) (Ye.mk e1 hl nf (ZbA _))
    ·cases q⟩
end
end TF
namespace HT
section
variable {prog:xz}{w:World}{A:xA}{E:xB}{s:Shared}
end
end HT
namespace TF
open L2
section
variable {X:Cx}{G:Gh}
end
end TF
namespace L2
open AutoSeq1 (wpAny_loadPart')
section
variable {prog:xz}{w:World}{A:xA}{E:xB}{s:Shared}
end
end L2
namespace TF
open L2
section
variable {X:Cx}{G:Gh}
end
section
variable {X:Cx}{G:Gh}
end
end TF
namespace L2
section
variable {prog:xz}{w:World}{A:xA}{E:xB}{s:Shared}
end
end L2
namespace TF
open L2
section
variable {X:Cx}{G:Gh}
end
end TF
namespace L2
end L2
namespace TF
open L2
section
variable {X:Cx}{G:Gh}
end
end TF
namespace L2
section
variable {prog:xz}{w:World}{A:xA}{E:xB}{s:Shared}{o:Obj}{es:Array DictEntry}{d it:Addr}{ep i:Nat}
end
section
variable {X:Cx}{tg:Expr}
end
end L2
namespace TF
open L2
section
variable {X:Cx}{G:Gh}
end
end TF
namespace L2
section
variable {prog:xz}{w:World}{A:xA}{E:xB}{s:Shared}{z TI TO i1 i2:Addr}{f1 f2:List Addr}{n1 n2 k:Nat}{P1 P2:Nat->Value->Prop}{S1 S2:Nat->Heap->Prop}{a b:Value}
end
section
variable {prog:xz}{w:World}{A:xA}{E:xB}{s:Shared}
end
end L2
namespace TF
open L2
section
variable {X:Cx}{G:Gh}
end
end TF
namespace TS
open PySem.W
section
variable {lt:Nat->Nat->Bool}{n:Nat}{p q:Array Nat}
end
noncomputable def Yp:List Int->List Int->Bool
 | [],[]=>false
 | [],_::_=>true
 | _::_,[]=>false
 | a::as,b::bs=>if a=b then Yp as bs else decide (a<b)
theorem ZcE:∀a,Yp a a=false
 | []=>rfl
 | a::as=>by unfold Yp;rw[if_pos rfl];exact ZcE as
theorem Zci:∀a b c,Yp a b=true->Yp b c=true->Yp a c=true
 | [],[],_,h,_=>by cases h
 | [],_::_,[],_,h=>by cases h
 | [],_::_,_::_,_,_=>rfl
 | _::_,[],_,h,_=>by cases h
 | _::_,_::_,[],_,h=>by cases h
 | a::as,b::bs,c::cs,h1,h2=>by
  unfold Yp at h1 h2⊢;split at h1
  ·rename_i e;subst e
   split at h2
   ·rename_i e;subst e;rw[if_pos rfl];exact Zci as bs cs h1 h2
   ·rename_i e;rw[if_neg e];exact h2
  ·rename_i e1
   split at h2
   ·rename_i e;subst e;rw[if_neg e1];exact h1
   ·rename_i e2
    simp at h1 h2;rw[if_neg (by omega)];simp;omega
theorem JU:∀a b,a≠b->Yp a b=false->Yp b a=true
 | [],[],n,_=>absurd rfl n
 | [],_::_,_,h=>by cases h
 | _::_,[],_,_=>rfl
 | a::as,b::bs,n,h=>by
  unfold Yp at h⊢;split at h
  ·rename_i e;subst e;rw[if_pos rfl]
   exact JU as bs (λz=>n (by rw[z])) h
  ·rename_i e
   simp at h;rw[if_neg (zH e)];simp;omega
theorem Zfl {a b:List Int}(h:Yp a b=true):Yp b a=false:=by
 cases e:Yp b a with
 | false=>rfl
 | true=>have:=Zci _ _ _ h e;rw[ZcE]at this;cases this
noncomputable def Xh (a b:List Int):Bool:=!Yp b a
theorem ZjL {a b:List Int}(h1:Xh a b=true)(h2:Xh b a=true):a=b:=by
 unfold Xh at h1 h2;simp at h1 h2;by_cases e:a=b
 ·exact e
 ·rw[JU a b e h2]at h1;cases h1
theorem Zm0 (a b c:List Int)(h1:Xh a b=true)(h2:Xh b c=true):Xh a c=true:=by
 unfold Xh at h1 h2⊢;simp at h1 h2⊢;by_cases e1:a=b
 ·subst e1;exact h2
 ·by_cases e2:b=c
  ·subst e2;exact h1
  ·exact Zfl (Zci _ _ _ (JU b a (zH e1) h1) (JU c b (zH e2) h2))
theorem Zm1 (a b:List Int):(Xh a b||Xh b a)=true:=by
 unfold Xh
 cases e:Yp b a with
 | false=>rfl
 | true=>rw[Zfl e];rfl
theorem ZcF:∀{a b:List (List Int)},a.Perm b->a.Pairwise (λx y=>Xh x y=true)->b.Pairwise (λx y=>Xh x y=true)->a=b
 | [],b,p,_,_=>(List.nil_perm.mp p).symm
 | x::a,[],p,_,_=>absurd p.length_eq (by simp)
 | x::a,y::b,p,ha,hb=>by
  have ha':=yJ.mp ha;have hb':=yJ.mp hb;have e:x=y:=by
   have h1:x∈y::b:=p.mem_iff.mp (by simp);have h2:y∈x::a:=p.mem_iff.mpr (by simp);rcases qq.mp h1 with h1 | h1
   ·exact h1
   ·rcases qq.mp h2 with h2 | h2
    ·exact h2.symm
    ·exact ZjL (ha'.1 y h2) (hb'.1 x h1)
  subst e;rw[ZcF (qa7.cons_inv p) ha'.2 hb'.2]
noncomputable def Xc (jI:List (List Int)):List (List Int):=jI.mergeSort Xh
theorem ZcG (jI:List (List Int)):(Xc jI).Perm jI:=qc0 jI _
theorem Zbh (jI:List (List Int)):(Xc jI).Pairwise (λx y=>Xh x y=true):=qco Zm0 Zm1 jI
theorem Za8 {a jI:List (List Int)}(p:a.Perm jI)(h:a.Pairwise (λx y=>Xh x y=true)):a=Xc jI:=ZcF (p.trans (ZcG jI).symm) h (Zbh jI)
theorem ZaG {a b:List (List Int)}(p:a.Perm b):Xc a=Xc b:=Za8 ((ZcG a).trans p) (Zbh a)
noncomputable def Yt (h:Heap)(v:Value)(ns:List Int):Prop:=∃a xs,v=.ref a/\h.IsTuple a (qau xs)/\IntsAre xs ns
section
variable {prog:xz}{w:World}{A:xA}{E:xB}{s:Shared}
theorem Zl8 {fin:Bool}{Q:Bool->Shared->Prop}:∀{as bs:List Int} {xs ys:List Value} (i:Nat),IntsAre xs as->IntsAre ys bs->fin=decide (as.length<bs.length)->Q (Yp as bs) s->KatLex prog w A true fin Q (xs.zip ys) i s
 | [],[],_,_,i,.nil,.nil,e,h=>by subst e;exact kat_nil h
 | [],_::_,_,_,i,.nil,.cons _ _ _,e,h=>by subst e;exact kat_nil h
 | _::_,[],_,_,i,.cons _ _ _,.nil,e,h=>by subst e;exact kat_nil h
 | a::as,b::bs,_,_,i,.cons _ t hx,.cons _ u hy,e,h=>by
  unfold Yp at h;refine kat_cons (wpAny_eqBool_int ?_);by_cases q:a=b
  ·rw[if_pos q]at h
   rw[show(a==b)=true by simp[q]];exact kat_yes (Zl8 (i+1) hx hy (by rw[e];simp) h)
  ·rw[if_neg q]at h
   rw[show(a==b)=false by simp[q]];refine kat_no ?_;by_cases hi:i=0
   ·subst hi
    exact oneLt_int h
   ·rw[show(true&&i==0)=false by simp[hi]]
    exact kat_one _ _ (lt_int h)
theorem ZnS {x y:Value}{as bs:List Int}{C:Bool->Shared->Prop}(hx:Yt s.heap x as)(hy:Yt s.heap y bs)(h:C (Yp as bs) s):xf (xw prog w) A (keyLt' (tuples' true) x y) C E s:=by
 obtain⟨a,xs,rfl,⟨o,ho,hc,n,hd⟩,ix⟩:=hx;obtain⟨b,ys,rfl,⟨o',ho',hc',n',hd'⟩,iy⟩:=hy;refine kat_lt ho hd ho' hd' ?_;have e:decide ((qau xs).size<(qau ys).size)=decide (as.length<bs.length):=by rw[qL,qL,ix.length,iy.length]
 exact Zl8 0 ix iy e h
theorem ZjM {h:Heap}:∀{vs:List Value} {jI:List (List Int)},Paired (Yt h) vs jI->(∀ns∈jI,ns≠[])->∃fs,KatTups h vs fs/\fs.length=vs.length/\∀v∈fs,∃n t,v=qct n t
 | _,_,.nil,_=>⟨[],.nil,rfl,λ_ z=>by simp at z⟩
 | _,_,.cons (a:=v) (b:=ns) hv r,hne=>by
  obtain⟨fs,h1,h2,h3⟩:=ZjM r λns' m=>hne ns' (qS _ m);obtain⟨a,xs,rfl,⟨o,ho,hc,n,hd⟩,ix⟩:=hv
  cases ix with
  | nil=>exact absurd rfl (hne [] (by simp))
  | cons m t r'=>
   refine⟨.int m t::fs,.cons ho hc hd (by simp) h1,by simp[h2],λv hv=>?_⟩;rcases qq.mp hv with rfl | hv
   ·exact⟨m,t,rfl⟩
   ·exact h3 v hv
theorem Zm2 {vs:List Value}{jI:List (List Int)}{Q:SortKind->Shared->Prop}(h:Paired (Yt s.heap) vs jI)(hne:∀ns∈jI,ns≠[])(h0:0<vs.length)(q:Q (tuples' true) s):xf (xw prog w) A (keyKind' vs.toArray) Q E s:=by
 obtain⟨fs,h1,h2,h3⟩:=ZjM h hne;refine kat_kind (T:=.type "int") h1 (by omega) (λv hv=>?_) rfl ?_
 ·obtain⟨n,t,rfl⟩:=h3 v hv
  exact Looks.of_pure rfl
 ·exact q
theorem Yt.at {h h':Heap}{v:Value}{ns:List Int}{b:Addr}(k:∀c o,c≠b->h.get? c=some o->h'.get? c=some o)(hb:∃o,h.get? b=some o/\o.cls=.type "list")(x:Yt h v ns):Yt h' v ns:=by
 obtain⟨a,xs,e,⟨o,ho,hc,r⟩,i⟩:=x;refine⟨a,xs,e,⟨o,k a o (λz=>?_) ho,hc,r⟩,i⟩;obtain⟨o',h1,h2⟩:=hb;rw[z,h1]at ho;cases ho;rw[h2]at hc;exact absurd (yB.inj hc) (by decide)
theorem ju {α β:Type}{F:α->β->Prop}:∀{l:List α} {r:List β} {i:Nat} (d:α) (d':β),Paired F l r->i<l.length->F (l.getD i d) (r.getD i d')
 | _,_,i,_,_,.nil,e=>absurd e (by simp)
 | _,_,0,_,_,.cons h t,e=>h
 | _,_,i+1,d,d',.cons h t,e=>by
  have:=ju d d' t (i:=i) (by simpa using e);simpa using this
theorem range_getD {α:Type}(vs:List α)(d:α):((qp vs.length).map λi=>vs.getD i d)=vs:=by
 refine List.ext_getElem (by simp) λi h1 h2=>?_;simp[h2]
end
section
variable {prog:xz}{w:World}{A:xA}{E:xB}{s:Shared}
end
theorem Paired.pick {α β:Type}{F:α->β->Prop}{l:List α}{r:List β}(d:α)(d':β)(h:Paired F l r):∀(ix:List Nat),(∀i∈ix,i<l.length)->Paired F (ix.map λi=>l.getD i d) (ix.map λi=>r.getD i d')
 | [],_=>.nil
 | i::ix,hb=>.cons (ju d d' h (hb i (by simp))) (Paired.pick d d' h ix λj m=>hb j (qS _ m))
end TS
namespace TF
open L2 TS
section
variable {X:Cx}{G:Gh}
theorem ZbB {jC:Qb}{s:Shared}{σ:St}{H:Hp}{T:V->List Int->Prop}(I:Inv X jC σ H s)(hT:∀v ns,T v ns->∃a,v=.ref a/\ZI X.K H a (ns.map V.int)):∀{vs:List V} {jE:List Value} {jI:List (List Int)},Zy vs jE->Paired T vs jI->Paired (Yt s.heap) jE jI
 | _,_,_,.nil,.nil=>.nil
 | _,_,_,.cons r rr,.cons t tt=>by
  refine .cons ?_ (ZbB I hT rr tt);obtain⟨a,rfl,hq⟩:=hT _ _ t
  cases r
  obtain⟨xs,rv,pl,hz⟩:=I.tuple hq;exact⟨a,xs,rfl,show s.heap.IsTuple a xs.toArray from pl,Vj rv⟩
noncomputable def XX (ns:List Int):D:=.tup (ns.map .int)
noncomputable def V5:List D->Option (List (List Int))
 | []=>some []
 | .tup ds::r=>match ZO ds,V5 r with | some ns,some jI=>some (ns::jI) | _,_=>none
 | _::_=>none
theorem ZcH:∀jI:List (List Int),V5 (jI.map XX)=some jI
 | []=>rfl
 | ns::jI=>by
  show(match ZO (ns.map D.int),V5 (jI.map XX)with | some ns,some jI=>some (ns::jI) | _,_=>none)=_;rw[Jz,ZcH jI]
theorem ZdK:∀{ds:List D} {jI:List (List Int)},V5 ds=some jI->ds=jI.map XX
 | [],jI,h=>by
  have h:some []=some jI:=h
  cases h;rfl
 | d::r,jI,h=>by
  cases d with
  | tup ds=>
   have h:(match ZO ds,V5 r with | some ns,some jI=>some (ns::jI) | _,_=>none)=some jI:=h
   cases e1:ZO ds with
   | none=>rw[e1]at h;cases h
   | some ns=>
    cases e2:V5 r with
    | none=>rw[e1,e2]at h;cases h
    | some ms=>
     rw[e1,e2]at h;cases h;rw[qX,<-ZdK e2];unfold XX;rw[<-Vm e1]
  | _=>cases h
theorem ZdL {Hf:Hp}:∀{jI:List (List Int)} {vs:List V},Zi G Hf (jI.map XX) vs->Paired (λv ns=>Zj G Hf (XX ns) v) vs jI
 | [],vs,h=>by
  rw[Zi.nil_iff.mp h];exact .nil
 | ns::jI,vs,h=>by
  obtain⟨v,r,rfl,h1,h2⟩:=jd.mp h;exact .cons h1 (ZdL h2)
theorem ZdM {Hf:Hp}:∀{jI:List (List Int)} {vs:List V},Paired (λv ns=>Zj G Hf (XX ns) v) vs jI->Zi G Hf (jI.map XX) vs
 | _,_,.nil=>Zi.nil_iff.mpr rfl
 | _,_,.cons h t=>.cons h (ZdM t)
end
end TF
namespace TF
open L2
section
variable {X:Cx}{G:Gh}{own:List Nat}{fr:Bool}
end
section
variable {X:Cx}{G:Gh}
end
section
variable {X:Cx}{G:Gh}{ob:List Nat}{fr:Bool}
end
section
variable {X:Cx}{G:Gh}{ob own:List Nat}{fr:Bool}
end
section
variable {X:Cx}{G:Gh}{ob own:List Nat}{fr:Bool}
noncomputable def Zm3 (K:qk):V->List V->Hp->VK->Prop:=λx vs H Q=>∃(p:Addr) (ns:List Int) (k:Int),x=.ref p/\vs=[.int k]/\ZF K H p (ns.map V.int)/\k∈ns/\Q (.int (ns.idxOf k:Nat)) H
theorem ZjN : MtR X "list.index" (Zm3 X.K) := by
  intro jC s σ H x xs v us Q I rx rv h;obtain⟨p, ns, k, rfl, rfl, hp, hk, q⟩ := h
  cases rx
  obtain⟨u, rfl, t, rfl⟩ := XU rv;obtain⟨jE, r2, pl, hz⟩ := I.list hp;have hi : IntsAre jE ns := Vj r2;obtain⟨⟨c0, d0, dat, sl0⟩, hob, hcl, n0, hdat⟩ := id pl.isList;simp only at hcl hdat;subst hcl hdat;have l1 := hi.length;have l2 : ns.idxOf k < ns.length := by rw[qa8]; exact hk
  have l3 : ns.length <= xg := by simpa using hz
  have l4 := JZ;have go := SeqAt.list_indexAt p jE.toArray n0 d0 sl0 (.int k t) (isInt k) (ns.idxOf k) (by simpa[l1] using l2) (by omega)
    (by show isInt k jE[ns.idxOf k] = true
        rw[isInt_at k hi (ns.idxOf k) (by omega) l2]; simpa using List.getElem_idxOf l2)
    (λj hjs hlt => by
        show isInt k jE[j] = false;rw[isInt_at k hi j (by simpa using hjs) (by have : j < ns.idxOf k := hlt; omega)]; exact ne_of_lt_idxOf hlt _)
  refine call_meets qcp ⟨_, hob, rfl⟩ PySem.F.entry_list_index (PySem.F.args_list_index_2 _ _) go ⟨hob, λy hy => (eq_isInt k t hi y (by simpa using hy)).at _ _, ?_⟩;exact⟨.int (ns.idxOf k : Nat), H, I.tok _, ⟨_, rfl⟩, q⟩
noncomputable def Zew:D->D->Option D
 | .lst ds,.int k=>(ZO ds).bind λns=>if k∈ns then some (.int (ns.idxOf k:Nat))else none
 | _,_=>none
theorem ZjO {o e:Expr}{ap cp:Pos}{r1 r2:Bool}{fo fe:Zb->M D}(ho:PD X G r1 o fo)(he:PD X G r2 e fe)
  (hbase:xp o "index" X.env (eval o X.env)=eval o X.env:=by rfl)
  (hfew:((backTo cp (xh [e] X.env)).all (λx=>!x.1)&&(backToKw cp (xi [] X.env)).all (λx=>x.1.isSome)
   && decide ([e].length+([]:List Keyword).length+(if ([]:List Keyword).isEmpty then 0 else 1)<30))=true:=by rfl)
  (hline:(ap.endLine==cp.line)=true:=by rfl) (hs:xh [e] X.env=(false,eval e X.env)::xh [] X.env:=by rfl) :
  PD X G true (.Call (.Attribute o "index" ap) [e] [] cp) (Zd Zew fo fe):=by
 obtain⟨to,po,qo⟩:=ho.drop;obtain⟨te,pe,qe⟩:=he.drop;refine⟨_,ZlY qcl qcp PySem.F.type_list_index ZjN po (YU pe Xt hs) hbase hfew hline hs rfl,fun σ Hf H ρ s d s' Q e1 e2 e3 e4 k=>?_⟩;obtain⟨da,s1,a1,a2⟩:=ZG e4;obtain⟨db,s2,a3,a4⟩:=ZG a2;obtain⟨a5,rfl⟩:=WZ a4;refine qo σ Hf H ρ s da s1 _ e1 e2 e3 a1 λx jQ H1 g1 jT r1=>?_
 match da,db,a5,r1,a3 with
 | .lst ds,.int kk,a5,r1,a3=>
  have a5:((ZO ds).bind λns=>if kk∈ns then some (D.int (ns.idxOf kk:Nat))else none)=some d:=a5
  cases he:ZO ds with
  | none=>rw[he]at a5;cases a5
  | some ns=>
   rw[he]at a5;have a5:(if kk∈ns then some (D.int (ns.idxOf kk:Nat))else none)=some d:=a5;split at a5
   ·rename_i hmem
    cases a5
    obtain⟨p,vs,rfl,np,hp,rp⟩:=jb.mp r1;refine⟨.inl ⟨rfl,vs,ZF.of (g1.fh _ _ np hp)⟩,?_⟩;refine qe σ jQ H1 ρ s1 _ _ _ g1.fh (e2.ext g1.ff) jT a3 λy jX H2 g2 jO r2=>?_;rw[Vm he]at rp;rw[jn rp]at hp
    cases (ja.mp r2)
    exact⟨p,ns,kk,rfl,rfl,ZF.of (g2.fh _ _ np (g2.ff _ _ np hp)),hmem,k _ jX H2 (g1.trans g2) jO (ja.mpr rfl) λ_=>.scal λz=>z⟩
   ·cases a5
end
section
variable {X:Cx}{G:Gh}{ob own:List Nat}{fr:Bool}
theorem ZjP {pos:Pos}:PD X G true (.Dict [] [] pos) (dC (.du [])):=by
 refine⟨_,Zi6,fun σ Hf H ρ s d s' Q e1 e2 e3 e4 k=>?_⟩;obtain⟨rfl,rfl⟩:=ZR e4;intro p hp;have nf:=Gh.nofp e3 hp;have g2:=Gr.new (o:=.dT []) e1 hp nf;exact k (.ref p) _ _ g2 (Gh.grow e3 hp) (jl.mpr ⟨p,rfl,nf,ZW⟩) λ_ a ea _=>by cases ea;exact⟨hp,λds ed=>by cases ed⟩
noncomputable def keyT:D->Option (List Zu)
 | .tup ks=>XI ks
 | _=>none
noncomputable def Bi (i:Nat)(fx fv:Zb->M D):Zb->M Out:=fun ρ=>Zp (fv ρ) λv=>Zp (fx ρ) λx=>match (ρ[i]?).bind id with
 | some (.du kvs)=>match keyT x,Wq v with | some k,some w=>if kvs.length<xg then ZB (.nx (ρ.set i (some (.du (Yo kvs k w)))))else ZE | _,_=>ZE
 | _=>ZE
theorem Zil {r1 r2:Bool}{i:Nat}{x:Str}{ex ev:Expr}{p1 p2 pos:Pos}{fx fv:Zb->M D}{tx tv:TE}(hu:X.A.units+1<cLine)(hi:i∈own)(hn:PE X (.Name x p1) (YG i))(px:PE X ex tx)(yx:UJ G own r1 tx fx)(pv':PE X ev tv)(yv:UJ G own r2 tv fv)
  (hs:xq ev (some (.Subscript (.Name x p1) ex p2)) pos.line X.env=pure false) :
  Y5 X G ob own own fr (.Assign [.Subscript (.Name x p1) ex p2] ev pos) (Bi i fx fv):=by
 refine⟨_,ZkX hu hn px pv' hs,λkn jN H0 σ H ρ s out s' E ⟨Hf,j⟩ st e po=>?_⟩;obtain⟨v,s1,a1,a2⟩:=ZG e;obtain⟨xx,s2,a3,a4⟩:=ZG a2;refine yv kn jN H0 σ Hf H ρ s v s1 _ j st a1 λw jQ H1 j1 e1 e2 jT r1 _=>?_
 cases hb:(ρ[i]?).bind id with
 | none=>rw[hb]at a4;cases a4
 | some c=>
  rw[hb]at a4
  cases c with
  | du kvs=>
   have a4':(match keyT xx,Wq v with | some k,some w=>if kvs.length<xg then ZB (Out.nx (ρ.set i (some (.du (Yo kvs k w)))))else ZE | _,_=>ZE) s2=some (out,s'):=a4
   cases hk:keyT xx with
   | none=>rw[hk]at a4';cases a4'
   | some k=>
    cases hw:Wq v with
    | none=>rw[hk,hw]at a4';cases a4'
    | some w'=>
     rw[hk,hw]at a4';obtain⟨hl,a5⟩:=Xj a4';obtain⟨rfl,rfl⟩:=ZR a5;have ei:=Zg9 hb;obtain⟨a,h1,h2,h3,h4,h5⟩:=j1.ow i _ hi ei;refine⟨_,h1,?_⟩;refine yx kn jN H0 σ jQ H1 ρ s1 _ _ _ j1 jT a3 λw2 jX H2 j2 e3 e4 jO r2 _=>?_;obtain⟨a',h1',h2',h3',h4',h5'⟩:=j2.ow i _ hi ei;rw[h1]at h1';cases h1';have ew:=Zby hw r1;subst ew
     match xx,hk,r2 with
     | .tup ks,hk,r2=>
      obtain⟨q,vs,rfl,nq,hq,rq⟩:=jc.mp r2;have ey:=JB (show XI ks=some k from hk) rq;subst ey;refine⟨a,_,rfl,WP.t (k:=k) (show H2 a=some (.dT kvs)from h5') (j2.gr.fh _ _ nq hq) (by omega),?_⟩;exact po σ _ ⟨jX,j2.put hi ei h1 (show Zl H2 a (.dT (Yo kvs k w)) a=some (.dT (Yo kvs k w))from ZW)⟩ (jy jO h2)
  | _=>cases a4
theorem Zgs {r1 r2:Bool}{i:Nat}{x:Str}{ex ev:Expr}{p1 p2 pos:Pos}{fx fv:Zb->M D}(hu:X.A.units+1<cLine)(hi:i∈own)(hn:PE X (.Name x p1) (YG i))(hx:PD X G r1 ex fx)(hv:PD X G r2 ev fv)
  (hs:xq ev (some (.Subscript (.Name x p1) ex p2)) pos.line X.env=pure false:=by rfl) :
  Y5 X G ob own own fr (.Assign [.Subscript (.Name x p1) ex p2] ev pos) (Bi i (fun ρ=>fx (Yu own ρ)) (fun ρ=>fv (Yu own ρ))):=by
 obtain⟨tv,pv',qv⟩:=hv;obtain⟨tx,px,qx⟩:=hx;have yv:VA G r2 tv fv:=qv;have yx:VA G r1 tx fx:=qx;exact Zil hu hi hn px yx.a pv' yv.a hs
end
end TF
namespace HT
theorem Zfm:isSubtype (.type "tuple") (.type "set")=pure false:=by rw[isSubtype_type];kernel_rfl
theorem ZbT:isSubtype (.type "tuple") (.type "frozenset")=pure false:=by rw[isSubtype_type];kernel_rfl
section
variable {prog:xz}{w:World}{A:xA}{E:xB}{s:Shared}
noncomputable abbrev YQ (led:Bool):Obj:={ cls:=.type "set",dict:=none,data:=.set #[] 0 (.fresh 0 0 led) }
theorem set_of_tuple {l:Addr}{items:Array Value}{ns:List Int}{Q:xB}(hh:A.handled=none)(hl:s.heap.IsTuple l items)(hi:IntsAre items.toList ns)(hb:items.size+1<scanBound)
  (h:∀(h':Heap) (tk:Nat),h'.SetOf (intKind prog w) s.heap.objs.size (λk'=>(firstMet (λi=>ns.getD i 0) items.size).any (· == k')) (firstMet (λi=>ns.getD i 0) items.size).length->(∀b o,b<s.heap.objs.size->s.heap.get? b=some o->h'.get? b=some o)->Q (.ref s.heap.objs.size) { s with heap:=h',toks:=tk }) :
  xf (xw prog w) A (call (.type "set") [.ref l]) Q E s:=by
 obtain⟨c,tl,hmro⟩:=zl.mro;have hmade:=zl.made;have hsub:=zl.sub;refine xu (codeAny_of_tree ?_);show xf _ _ (callAny (.type "set") _) _ _ _;refine xb ⟨Code.quiet_builtin _ (by decide +kernel),xm qcq ?_⟩;rw[xA.under_plain (weight_type_call_type "set" [.ref l] []) rfl];have h1:=zl.notType;have h2:=zl.canCreate;have hct:=qcw (.ref l)
 repeat (any_goals (first | assumption | wp_step))
 refine codeAny_mono (code_set_new_1 (.ref l) (E:=E) (Q₁:=λobj s₁=>∃led:Bool,obj=.ref s.heap.objs.size/\s₁ = { s with heap:=s.heap.push (YQ led) }) λled=>⟨led,rfl,rfl⟩) λr s₁ hr=>?_
 cases r with
 | error e=>exact hr
 | ok fl=>
  cases fl with
  | ret obj=>
   obtain⟨led,rfl,rfl⟩:=hr;have hS:(s.heap.push (YQ led)).get? s.heap.objs.size=some (YQ led):=qI _ rfl;have hT:qbZ { s with heap:=s.heap.push (YQ led) } (.ref s.heap.objs.size) "set":=⟨_,hS,rfl⟩;have hli:=zl.init.lookup;have hbi:=zl.init.bind (.ref s.heap.objs.size)
   repeat (any_goals (first | assumption | wp_step))
   refine codeAny_mono (codeAny_call_builtin (R:=wants (λr s₂=>r=.none/\∃h' tk,s₂ = { s with heap:=h',toks:=tk }/\h'.SetOf (intKind prog w) s.heap.objs.size (λk'=>(firstMet (λi=>ns.getD i 0) items.size).any (· == k')) (firstMet (λi=>ns.getD i 0) items.size).length/\(∀b o,b<s.heap.objs.size->s.heap.get? b=some o->h'.get? b=some o)) E) zl.init.plain qcx (check_set_init_1 hT ?_)) λr₂ s₂ hr₂=>?_
   ·obtain⟨ol,hol,hcl,nl,hdl⟩:=hl;obtain⟨ocls,odict,odata,oslots⟩:=ol
    simp only at hcl hdl;subst hcl;subst hdl;have hol':(s.heap.push (YQ led)).get? l=some { cls:=.type "tuple",dict:=odict,data:=.seq items nl,slots:=oslots }:=qf _ hol;have z1:=Zfm;have z2:=ZbT;have hne:(yB "tuple" == yB "dict")=false:=by decide
    have hl1:(s.heap.push (YQ led)).IsTuple l items:=⟨_,hol',rfl,nl,rfl⟩;unfold Builtin.«set.__init__» noKeywords qbO;generalize hPI:pyIter=PI
    wp_walk
    subst hPI;refine wpAny_pyIter_tuple hl1 ?_;refine xa (wpAny_runValue ?_);have hlS:l<s.heap.objs.size:=qJ hol;have hh3:A.in1.in1.in1.handled=none:=by simp[hh]
    have hneI:l≠(s.heap.push (YQ led)).objs.size:=by rw[zZ];exact qR (zO hlS)
    have hSf:s.heap.objs.size∉[(s.heap.push (YQ led)).objs.size,l]:=by
     rw[zZ];simp only[qq,qH,ye,or_false,not_or];exact⟨qR (qat _),qbB hlS⟩
    have hval:∀(i:Nat) (v:Value),items[i]?=some v->∃t,v=.int ((λi=>ns.getD i 0) i) t:=λi v hv=>IntsAre.int_at hi i v (by rw[qy];exact hv);refine codeAny_set_update_loopS ((Walks.tuple hh3 _ l hneI items).toS) s.heap.objs.size hSf (λi=>ns.getD i 0) hval hb (items.size-0) 0 _ (by omega) (zy _) ⟨⟨_,qI _ rfl,rfl,rfl⟩,(hl1.push _)⟩ ?hS0 ?hR
    case hS0=>
     have hget:((s.heap.push (YQ led)).push { cls:=.type "tuple_iterator",data:=.fields #[.ref l,.int 0 0] }).get? s.heap.objs.size=some (YQ led):=qf _ hS;exact SetOf_congr ((setObjOf_fresh (knd:=intKind prog w) led).setOf hget (by unfold scanBound;omega)) (λ_=>rfl) rfl
    case hR=>
     intro s' hm hS';obtain⟨h',g',d',tk',os'⟩:=s';have eg:g'=s.gens:=hm.gens;have ed:d'=s.drawn:=hm.drawn;have eo:os'=s.os:=hm.os;subst eg;subst ed;subst eo;show xf _ _ _ _ _ _;refine xb ?_;show xf _ _ (ret zo) _ _ _;refine xb ⟨rfl,h',tk',rfl,hS',λb o hb e=>?_⟩;have hb1:b≠s.heap.objs.size:=qR hb;have hb2:b≠(s.heap.push (YQ led)).objs.size:=by rw[zZ];exact qR (zO hb)
     exact hm.heap b o (by simp only[qq,qH,ye,or_false,not_or];exact⟨hb1,hb2⟩) (qf _ (qf _ e))
   ·cases r₂ with
    | error e=>exact hr₂
    | ok fl₂=>
     cases fl₂ with
     | ret r=>
      obtain⟨rfl,h',tk,rfl,hS',hk'⟩:=hr₂;repeat (any_goals (first | assumption | wp_step))
      exact h _ _ hS' hk'
     | next=>exact hr₂.elim
     | brk=>exact hr₂.elim
     | cont=>exact hr₂.elim
  | next=>exact hr.elim
  | brk=>exact hr.elim
  | cont=>exact hr.elim
end
end HT
namespace TF
open L2
section
variable {X:Cx}{G:Gh}
noncomputable def Xu (ns:List Int):Nat:=(ns.foldl step_dedup []).length
theorem Zb5 (ns:List Int)(n:Nat)(h:n=ns.length):firstMet (λi=>ns.getD i 0) n=ns.foldl step_dedup []:=by
 unfold firstMet;congr 1;subst h;apply qak;intro i;rw[qC];by_cases hi:i<ns.length
 ·rw[yX hi,qD hi]
  simp[qN,qD hi]
 ·rw[ya (by simp;omega:(qp ns.length).length<=i),ya (by omega)]
  rfl
theorem Zim (hc:X.calm=true):Xb X (.type "set") (λxs H Q=>∃(p:Addr) (ns:List Int),xs=[.ref p]/\(ZF X.K H p (ns.map V.int)∨ZI X.K H p (ns.map V.int))/\ns.length<=1000/\∀l S,H l=none->Q (.ref l) (Zl H l (.set S (Xu ns)))):=by
 intro jC s σ H xs us Q I r h;obtain⟨p,ns,rfl,hp,hl,q⟩:=h;obtain⟨u,rfl,ru⟩:=XU r
 cases ru
 have hsb:(1000:Nat)+1<scanBound:=by unfold scanBound;omega
 have fin:∀(items:Array Value) (_:IntsAre items.toList ns) (h':Heap) (tk:Nat),h'.SetOf (intKind X.prog X.w) s.heap.objs.size (λk'=>(firstMet (λi=>ns.getD i 0) items.size).any (· == k')) (firstMet (λi=>ns.getD i 0) items.size).length->(∀b o,b<s.heap.objs.size->s.heap.get? b=some o->h'.get? b=some o)->EP X jC σ Q (.ref s.heap.objs.size) { s with heap:=h',toks:=tk }:=λitems hi h' tk hS hk=>by
  have e:firstMet (λi=>ns.getD i 0) items.size=ns.foldl step_dedup []:=Zb5 ns _ (by rw[<-hi.length,qz]);rw[e]at hS;exact⟨.ref s.heap.objs.size,_,I.laid (a:=s.heap.objs.size) (o:=.set (λk'=>(ns.foldl step_dedup []).any (· == k')) (Xu ns)) (t':=tk) (λb o e=>hk b o (qJ e) e) (qm _) hS,rfl,q _ _ (I.hok.fresh (qm _))⟩
 rcases hp with hp | hp
 ·obtain⟨jE,rv,pl,hz⟩:=I.list hp
  have hi:IntsAre jE ns:=Vj rv;have hll:=hi.length;exact call_set_list (I.ok.hd hc) pl.isList (by simpa using hi) (by simp;omega) (fin jE.toArray (by simpa using hi))
 ·obtain⟨jE,rv,pl,hz⟩:=I.tuple hp
  have hi:IntsAre jE ns:=Vj rv;have hll:=hi.length;exact HT.set_of_tuple (I.ok.hd hc) (show s.heap.IsTuple p jE.toArray from pl) (by simpa using hi) (by simp;omega) (fin jE.toArray (by simpa using hi))
theorem Zfn:Xb X (.builtin "len") (λxs H Q=>∃(p:Addr) (S:Int->Bool) (n:Nat),xs=[.ref p]/\H p=some (.set S n)/\n<=1000/\Q (.int n) H):=by
 intro jC s σ H xs us Q I r h;obtain⟨p,S,n,rfl,hp,hn,q⟩:=h;obtain⟨u,rfl,ru⟩:=XU r
 cases ru
 obtain⟨o,es,ep,t,h1,h2,h3,h4,h5,h6,h7,h8⟩:=(show s.heap.SetOf (intKind X.prog X.w) p S n from I.hok p _ hp);refine call_len_set h1 h2 h3 h7 (by omega) ?_;rw[h8];exact⟨.int n,H,I.tok _,⟨_,rfl⟩,q⟩
theorem Zlu (ns:List Int):∀jH:List Int,(ns.foldl step_dedup jH).length<=jH.length+ns.length:=by
 induction ns with
 | nil=>intro jH;simp
 | cons a r ih=>
  intro jH;have h:=ih (step_dedup jH a);have:(step_dedup jH a).length<=jH.length+1:=by unfold step_dedup;split <;> simp
  show(r.foldl step_dedup (step_dedup jH a)).length<=_;simp only[qB];omega
theorem Zin (ns:List Int):Xu ns<=ns.length:=by
 have:=Zlu ns [];simpa[Xu]using this
noncomputable def Uw (f:Zb->M D):Zb->M D:=fun ρ=>Zp (f ρ) λd=>match d with
 | .tup ds=>(match ZO ds with | some ns=>if ns.length<=1000 then ZB (.int (Xu ns:Nat))else ZE | none=>ZE)
 | .lst ds=>(match ZO ds with | some ns=>if ns.length<=1000 then ZB (.int (Xu ns:Nat))else ZE | none=>ZE)
 | _=>ZE
theorem ZdN {a:Expr}{p1 p2 pos1 pos:Pos}{r1:Bool}{f:Zb->M D}(hc:X.calm=true)(hg:Gl X "len")(hm:X.mg "len" = none)(hv:xj "len" = some (.builtin "len"))(hg2:Gl X "set")(hm2:X.mg "set" = none)(hv2:xj "set" = some (.type "set"))(ha:PD X G r1 a f)
  (hs:xh [a] X.env=(false,eval a X.env)::xh [] X.env:=by rfl)
  (hs2:xh [qc9 (.Name "set" p2) [a] [] pos1] X.env=(false,eval (qc9 (.Name "set" p2) [a] [] pos1) X.env)::xh [] X.env:=by rfl) (hpl:(backTo pos (xh [] X.env)).any (·.1)=false:=by rfl) (hpl1:(backTo pos1 (xh [] X.env)).any (·.1)=false:=by rfl) :
  PD X G true (.Call (.Name "len" p1) [.Call (.Name "set" p2) [a] [] pos1] [] pos) (Uw f):=by
 obtain⟨t,pa,qa⟩:=ha.drop;refine⟨_,UW Zfn hg hm hv (YU (JG (Zim hc) hg2 hm2 hv2 (YU pa Xt hs) (by decide) (by decide) hs hpl1) Xt hs2) (by decide) (by decide) hs2 hpl,fun σ Hf H ρ s d s' Q e1 e2 e3 e4 k=>?_⟩;obtain⟨d0,s1,a1,a2⟩:=ZG e4;refine qa σ Hf H ρ s d0 s1 _ e1 e2 e3 a1 λv jQ H1 g1 jT r1=>?_;have go:∀ns:List Int,(if ns.length<=1000 then ZB (D.int (Xu ns:Nat))else ZE) s1=some (d,s')->(∃p,v=.ref p/\(ZF X.K H1 p (ns.map V.int)∨ZI X.K H1 p (ns.map V.int)))->∃(p:Addr) (ns:List Int),[v]=[.ref p]/\(ZF X.K H1 p (ns.map V.int)∨ZI X.K H1 p (ns.map V.int))/\ns.length<=1000/\∀l S,H1 l=none->∃(p:Addr) (S':Int->Bool) (n:Nat),[V.ref l]=[.ref p]/\Zl H1 l (.set S (Xu ns)) p=some (.set S' n)/\n<=1000/\Q (.int n) (Zl H1 l (.set S (Xu ns))):=λns h ⟨p,ev,hp⟩=>by
  obtain⟨hl,h⟩:=Xj h;obtain⟨rfl,rfl⟩:=ZR h;have hu:=Zin ns;refine⟨p,ns,by rw[ev],hp,hl,λl S hn=>⟨l,S,Xu ns,rfl,ZW,by omega,?_⟩⟩;have nf:=Gh.nofp jT hn;have g2:=Gr.new (o:=.set S (Xu ns)) g1.fh hn nf;exact k _ _ _ (g1.trans g2) (Gh.grow jT hn) (ja.mpr rfl) λ_=>.scal λz=>z
 match d0,a2,r1 with
 | .tup ds,a2,r1=>
  have a2:(match ZO ds with | some ns=>if ns.length<=1000 then ZB (D.int (Xu ns:Nat))else ZE | none=>ZE) s1=some (d,s'):=a2
  cases he:ZO ds with
  | none=>rw[he]at a2;cases a2
  | some ns=>
   rw[he]at a2;obtain⟨p,vs,rfl,np,hp,rp⟩:=jc.mp r1;rw[Vm he]at rp;rw[jn rp]at hp;exact go ns a2 ⟨p,rfl,.inr (ZI.of (g1.fh _ _ np hp))⟩
 | .lst ds,a2,r1=>
  have a2:(match ZO ds with | some ns=>if ns.length<=1000 then ZB (D.int (Xu ns:Nat))else ZE | none=>ZE) s1=some (d,s'):=a2
  cases he:ZO ds with
  | none=>rw[he]at a2;cases a2
  | some ns=>
   rw[he]at a2;obtain⟨p,vs,rfl,np,hp,rp⟩:=jb.mp r1;rw[Vm he]at rp;rw[jn rp]at hp;exact go ns a2 ⟨p,rfl,.inl (ZF.of (g1.fh _ _ np hp))⟩
theorem Zex (ns:List Int):(ns.foldl step_dedup []).Nodup/\∀x,x∈ns.foldl step_dedup []↔x∈ns:=by
 have gen:∀(r jH:List Int),jH.Nodup->(r.foldl step_dedup jH).Nodup/\∀x,x∈r.foldl step_dedup jH↔x∈jH∨x∈r:=by
  intro r
  induction r with
  | nil=>intro jH h;exact⟨h,λx=>by simp⟩
  | cons a r ih=>
   intro jH h;show(r.foldl step_dedup (step_dedup jH a)).Nodup/\∀x,x∈r.foldl step_dedup (step_dedup jH a)↔_;by_cases m:jH.any (· == a)=true
   ·have e:step_dedup jH a=jH:=by unfold step_dedup;rw[if_pos m]
    rw[e];obtain⟨h1,h2⟩:=ih jH h;obtain⟨y,hy,ey⟩:=qcc.mp m;have ey:y=a:=by simpa using ey
    subst ey;refine⟨h1,λx=>?_⟩;rw[h2 x];constructor
    ·rintro(z | z)
     ·exact .inl z
     ·exact .inr (qS _ z)
    ·rintro(z | z)
     ·exact .inl z
     ·rcases qq.mp z with z | z
      ·subst z;exact .inl hy
      ·exact .inr z
   ·have e:step_dedup jH a=jH ++ [a]:=by unfold step_dedup;rw[if_neg m]
    rw[e];have na:a∉jH:=λz=>m (qcc.mpr ⟨a,z,by simp⟩);obtain⟨h1,h2⟩:=ih (jH ++ [a]) (qb5.mpr ⟨h,by simp,λx hx y hy=>by
     have:=qH.mp hy;subst this;exact λz=>na (z▸hx)⟩)
    refine⟨h1,λx=>?_⟩;rw[h2 x];simp only[qY,qq,ye,or_false];constructor
    ·rintro((z | z) | z)
     ·exact .inl z
     ·exact .inr (.inl z)
     ·exact .inr (.inr z)
    ·rintro(z | z | z)
     ·exact .inl (.inl z)
     ·exact .inl (.inr z)
     ·exact .inr z
 obtain⟨h1,h2⟩:=gen ns [] qbN;exact⟨h1,λx=>by rw[h2 x];simp⟩
end
end TF
namespace HT
section
variable {prog:xz}{w:World}{A:xA}{R:Result->Shared->Prop}{I:Addr}{fp wr:List Addr}{n:Nat}{P:Nat->Value->Prop}{St:Nat->Heap->Prop}
end
section
variable {prog:xz}{w:World}{A:xA}{E:xB}{s:Shared}
end
section
variable {prog:xz}{w:World}{A:xA}{R:Result->Shared->Prop}{I:Addr}{fp wr:List Addr}{n:Nat}{P:Nat->Value->Prop}{St:Nat->Heap->Prop}
end
section
variable {prog:xz}{w:World}{A:xA}{E:xB}{s:Shared}
end
end HT
namespace L2
section
variable {X:Cx}
end
end L2
namespace TF
open L2
section
variable {X:Cx}{G:Gh}
end
end TF
namespace TS
open L2
section
variable {prog:xz}{w:World}{A:xA}{E:xB}{s:Shared}
end
end TS
namespace TF
open L2 TS
section
variable {X:Cx}{G:Gh}
end
end TF
namespace TP2
open L2 TF TP
end TP2
namespace TP3
open L2 TF TP
open TP2
noncomputable def Zey:Zb->M Out:=(Zh (V9 1 (dC (.du [])))
 (Zh (Y2 (fun ρ=>(WL (Zd Zm (Za 0) (dC (.int 1)))) (Yu [1] ρ)) (ZK 2)
 (Zh (Bi 1 (fun ρ=>(Za 2) (Yu [1] ρ)) (fun ρ=>(dC (.bl true)) (Yu [1] ρ)))
 Zn))
 (Zh (Z1 3 (fun ρ=>(YS (Zc (Yg Zf) Zf)) (Yu [1] ρ)))
 (Zh (Y2 (Xk (Zd Zm (Za 0) (dC (.int 0)))) (ZK 4)
 (Zh (V9 5 (YS Zf))
 (Zh (Y2 (fun ρ=>(Yf (Za 3)) (Yu [5] ρ)) (ZK 6)
 (Zh (Z9 (asB (Zd VM (dC (.bl false)) (Yj [none,some 4,some 1] (WL (Za 6)) (ZK 0) Ys (Zd Xq (Yg (Zc (Za 0) (Zc (Za 1) Zf))) (Za 2)))))
 (Zh (VR 5 (fun ρ=>(Zd Yc (Za 6) (Yg (Zc (Za 4) Zf))) (Yu [5] ρ)))
 Zn)
 Zn)
 Zn))
 (Zh (Z1 3 (Zd Yc (Za 3) (Za 5)))
 Zn))))
 (Zh (ZC (Za 3))
 Zn)))))
noncomputable def Jv:List D->M D:=runB 7 1 Zey
noncomputable def Zfo:Zb->M Out:=(Zh (ZC (ZJ Jc (Zc (Yj [none] (Yf (Zs Jv (Zc (Za 0) Zf))) (ZK 0) Ys (ZJ Y3 (Zc (Za 0) Zf))) Zf)))
 Zn)
noncomputable def Um:List D->M D:=runB 1 1 Zfo
noncomputable def ZcI:Zb->M Out:=(Zh (Y2 (Xk (ZJ Y3 (Zc (Za 1) Zf))) (ZK 2)
 (Zh (Y2 (WL (Zjy (Za 1) Zl5 (Zl6 (Za 2)))) (ZK 3)
 (Zh (Z9 (Xn (asB (Zs Vi (Zc (Za 0) (Zc (Za 3) (Zc (Zd Zm (Za 1) (Za 2)) Zf))))))
 (Zh (ZC (dC (.bl false)))
 Zn)
 Zn)
 Zn))
 Zn))
 (Zh (ZC (dC (.bl true)))
 Zn))
noncomputable def US:List D->M D:=runB 4 2 ZcI
end TP3
namespace TQ
open L2 TF TQ
open TP
open TP2
open TP3
noncomputable def Zio:Zb->M Out:=(Zh (ZC (vAnd (Zd XR (Zd Zm (Za 0) (dC (.int 0))) (Zd Zm (Za 1) (dC (.int 1)))) (Zd XR (Zd Zm (Za 1) (dC (.int 0))) (Zd Zm (Za 0) (dC (.int 1))))))
 Zn)
noncomputable def Zip:List D->M D:=runB 2 2 Zio
noncomputable def Zbi:Zb->M Out:=(Zh (ZC (vOr (Zd YD (Za 1) (Za 2)) (Zs WW (Zc (Za 0) (Zc (Za 1) (Zc (Za 2) Zf))))))
 Zn)
noncomputable def Zaj:List D->M D:=runB 3 3 Zbi
noncomputable def Zez:List D->M D:=runB 4 4 (Zh (Z9 (asB (Zd YD (Zd Zm (Za 0) (dC (.int 0))) (Zd Zm (Za 1) (dC (.int 0)))))
 (Zh (ZC (Zs WW (Zc (Zd Zm (Za 2) (Zd Zm (Za 0) (dC (.int 0)))) (Zc (Zd Zm (Za 0) (dC (.int 1))) (Zc (Zd Zm (Za 1) (dC (.int 1))) Zf)))))
 Zn)
 Zn)
 (Zh (ZC (Zs WW (Zc (Za 3) (Zc (Zd Zm (Za 0) (dC (.int 0))) (Zc (Zd Zm (Za 1) (dC (.int 0))) Zf)))))
 Zn))
noncomputable def Zbj:List D->M D:=VS 3 (Bo (Zs WW (Zc (Za 2) (Zc (Za 0) (Zc (Za 1) Zf)))))
noncomputable def ZcJ:List D->M D:=runB 4 4 (Zh (ZC (vAnd (Zs Zaj (Zc (Za 2) (Zc (Zd Zm (Za 0) (dC (.int 0))) (Zc (Zd Zm (Za 1) (dC (.int 0))) Zf)))) (Zs Zaj (Zc (Za 3) (Zc (Zd Zm (Za 0) (dC (.int 1))) (Zc (Zd Zm (Za 1) (dC (.int 1))) Zf))))))
 Zn)
noncomputable def ZaV:List D->M D:=VS 3 (Zs WW (Zc (Za 2) (Zc (Za 0) (Zc (Za 1) Zf))))
noncomputable def Za9:List D->M D:=VS 3 (vOr (Zd Xq (Yg (Zc (Za 0) (Zc (Za 1) Zf))) (Za 2)) (Zd Xq (Yg (Zc (Za 1) (Zc (Za 0) Zf))) (Za 2)))
noncomputable def ZcK:List D->M D:=VS 3 (Zd XC (Zd Wu (Za 0) (Za 2)) (Zd Wu (Za 1) (Za 2)))
noncomputable def Zak:List D->M D:=VS 4 (Zd Xq (ZJ VP (Zc (Zd Wt (Za 1) (Za 0)) (Zc (Zd Yc (Zd Wt (Za 2) (Za 1)) (Za 0)) Zf))) (Za 3))
noncomputable def Tl:Nat->List D->M D
 | 0=>Zbj
 | 1=>ZaV
 | 2=>Zip
 | 3=>Zez
 | 4=>ZcJ
 | 5=>Za9
 | 6=>ZcK
 | 7=>Zak
 | _=>λ_=>ZE
noncomputable def Zfp:Zb->M Out:=(Zh (Z1 2 (Zs JD (Zc (Vl (ZJ Y3 (Zc (Za 0) Zf))) Zf)))
 (Zh (ZC (Yg (Zc (ZJ Y3 (Zc (Za 0) Zf)) (Zc (ZJ U3 (Zc (Yj [none,some 1,some 0] (Yf (Za 2)) (ZK 0) (asB (Br Tl 1 (Zc (Zd Zm (Za 2) (Zd Zm (Za 0) (dC (.int 0)))) (Zc (Zd Zm (Za 2) (Zd Zm (Za 0) (dC (.int 1)))) Zf)))) (Za 0)) Zf)) Zf))))
 Zn))
noncomputable def Uo:List D->M D:=runB 3 2 Zfp
noncomputable def ZjQ:Zb->M Out:=(Zh (Z1 1 (Zs Uj (Zc (Za 0) Zf)))
 (Zh (ZC (Bt Uo 0 [1] (Vl (Zd Zm (Za 0) (dC (.int 0))))))
 Zn))
noncomputable def X9:List D->M D:=runB 2 1 ZjQ
noncomputable def Zdh:Zb->M Out:=(Zh (ZC (Bt Uo 7 [0,1] (Vl (Za 0))))
 Zn)
noncomputable def Js:List D->M D:=runB 2 2 Zdh
end TQ
namespace TF
open L2
noncomputable def Zgt (K:qk)(L:List (Addr×Str)):Sp:=λvs H Q _=>∃(a:Addr) (ns:List Int),vs=[.ref a]/\ZF K H a (ns.map V.int)/\ns.length<=63/\(∀P q,(P,q)∈L->H P=some (.tbl #[]))/\∀H',Q (.bl true) H'
theorem Zgu {L:List (Addr×Str)}{tb:List (Str×Addr×Addr)}{H:Hp}(h:∀P q,(P,q)∈L->∃x c,(x,c,P)∈tb)(hT:∀e∈tb,H e.2.2=some (.tbl #[])):∀P q,(P,q)∈L->H P=some (.tbl #[]):=λP q m=>by
 obtain⟨x,c,z⟩:=h P q m;exact hT _ z
theorem ZnT {G0:Gh}{L:List (Addr×Str)}{H:Hp}(h:∀P q,(P,q)∈L->H P=some (.tbl #[])):∀P q,(P,q)∈L->Zl7 G0 L P q H:=λP q m=>⟨#[],h P q m,trivial,λpos cv hc=>by cases hc⟩
theorem ZjR {K:qk}{L:List (Addr×Str)}{N:List Str}{H:Hp}{a p:Addr}{ns:List Int}{g:Zb->M Out}{Q:VK}{n:Nat}{s':Pn}(sq:ZF K H a (ns.map V.int))(hTb:∀P q,(P,q)∈L->H P=some (.tbl #[]))(hp:H p=none)(hk:K.lookup p=none)(hQ:∀H',Q (.bl true) H')
  (hg:g (none::some .pen::qw n none) ([0,0],ns)=some (.rt (.bl true),s')) :
  ∃G,Wi (WS K) L G/\Zjr G [] [] [] false g { nx:=λ_ H'=>Q .non H',rt:=Q } (some (.ref a)::some (.ref p)::qw n none) (Zl H p (.lst [.ref a,.int 0,.int 0])):=by
 have main:∀tr:Bool,(tr=true->∃o,H a=some o/\∀ps,o≠.tbl ps)->(tr=false->∀H':Hp,ZF K H' a (ns.map V.int))->a≠p->∃G,Wi (WS K) L G/\Zjr G [] [] [] false g { nx:=λ_ H'=>Q .non H',rt:=Q } (some (.ref a)::some (.ref p)::qw n none) (Zl H p (.lst [.ref a,.int 0,.int 0])):=by
  intro tr t1 t2 ne;refine⟨UG (Ub K p a tr) L,⟨Ub K p a tr,⟨p,a,tr,rfl⟩,λb ⟨q,mb⟩ hb=>?_,rfl⟩,λ_=>none,λ_=>none,Zl H p (.lst [.ref a,.int 0,.int 0]),none::some .pen::qw n none,([0,0],ns),_,s',⟨λ_=>none,⟨by simp,.refl _ _,.refl (λb o _ e=>by cases e),λi d _ e=>?_,λi d m=>by simp at m,λi j b di dj m=>by simp at m⟩⟩,⟨⟨0,0,rfl,ZW,ne,?_,λht=>?_,t2⟩,ZnT λP q z=>?_⟩,hg,λv Hf' H' g st r _=>?_⟩
  ·have e:=hTb b q mb
   rcases hb with rfl | ⟨ht,rfl⟩
   ·rw[hp]at e;cases e
   ·obtain⟨o,z1,z2⟩:=t1 ht
    rw[e]at z1;cases z1;exact z2 _ rfl
  ·match i,e with
   | 0,e=>cases e
   | 1,e=>cases e;exact⟨_,rfl,jp.mpr rfl⟩
   | i+2,e=>
    have e':(qw n (none:Option D))[i]?=some (some d):=e;rw[yV]at e';split at e' <;> cases e'
  ·exact ZmZ sq hp
  ·obtain⟨o,q,_⟩:=t1 ht
   exact⟨o,by rw[Zx ne];exact q⟩
  ·rw[Zx (Yq (hTb P q z) hp)];exact hTb P q z
  ·rw[je.mp r]
   exact hQ H'
 have hne:∀o,H a=some o->a≠p:=λo e z=>by rw[z,hp]at e;cases e
 rcases sq with(q | ⟨o,q⟩) | q
 ·exact main true (λ_=>⟨_,q,λ_ z=>by cases z⟩) (λz=>by cases z) (hne _ q)
 ·exact main true (λ_=>⟨_,q,λ_ z=>by cases z⟩) (λz=>by cases z) (hne _ q)
 ·by_cases e:a=p
  ·obtain⟨o,_,_,q1,_⟩:=q
   rw[e,hk]at q1;cases q1
  ·exact main false (λz=>by cases z) (λ_ H'=>.inr q) e
theorem lok_nd:∀{L:List (Addr×Str)},(L.map (·.1)).Nodup->WA L
 | [],_=>λP q q' h=>by simp at h
 | (a,b)::L,nd=>λP q q' h1 h2=>by
  rw[qX,zv]at nd;rcases qq.mp h1 with e1 | m1
  ·cases e1
   rcases qq.mp h2 with e2 | m2
   ·cases e2;rfl
   ·exact absurd (qax (f:=(·.1)) m2) nd.1
  ·rcases qq.mp h2 with e2 | m2
   ·cases e2;exact absurd (qax (f:=(·.1)) m1) nd.1
   ·exact lok_nd nd.2 P q q' m1 m2
theorem ZjS:∀ds s d s',Xm ds s=some (d,s')->Y6 ds=true/\Yw d=true:=λds s d s' h=>by
 unfold Xm at h;split at h
 ·split at h
  ·cases h;exact⟨rfl,rfl⟩
  ·cases h
 ·cases h
end TF
namespace TT
noncomputable def JV:Bool->Keyed->Array Keyed->Nat->Nat->Nat->StateT SortSt Sem (Option Nat):=sortPriv% PySem.Builtin.gallop
noncomputable def JW (left:Bool)(key:Keyed)(arr:Array Keyed)(base:Nat)(i:Nat):StateT SortSt Sem (Option Bool):=do
 let x<-elem' arr (base+i)
 if left then lt' x key else return (<-lt' key x).map (!·)
section
variable {M:Model}{A:xA}{E:xB}{s:Shared}
set_option hygiene false in
local macro_rules | `(tactic| walk_at "galBin")=>`(tactic| (
  refine wpS_bind (wpS_mono (wpS_forRange (I:=λx c st'=>st'=st/\∃l h,c=(none,l,h)/\l<=h/\h<=n/\h-l<=n-x/\(∀i,i<l->B i=true)/\(∀i,h<=i->i<n->B i=false))
   (Q:=λc st'=>st'=st/\∃h,c=(none,h,h)/\h<=n/\(∀i,i<h->B i=true)/\(∀i,h<=i->i<n->B i=false)) ?stepB ?finB ⟨rfl,lo,hi,rfl,h1,h2,by omega,h3,h4⟩) ?postB)
  case postB=>
   rintro c st' ⟨rfl,h,rfl,a1,a2,a3⟩;exact wpS_pure (k h a1 a2 a3)
  case finB=>
   rintro c st' ⟨rfl,l,h,rfl,a1,a2,a3,a4,a5⟩;have:l=h:=by omega
   subst this;exact⟨rfl,l,rfl,a2,a4,a5⟩
  case stepB=>
   rintro x c st' _ hx ⟨rfl,l,h,rfl,a1,a2,a3,a4,a5⟩;dsimp only;by_cases e:l≥h
   ·rw[if_pos e]
    have:l=h:=by omega
    subst this;exact wpS_pure ⟨rfl,l,rfl,a2,a4,a5⟩
   ·rw[if_neg e]
    have hm:l+(h-l) / 2<n:=by omega
    refine wpS_bind (hB _ hm _ ?_);dsimp only
    cases q:B (l+(h-l) / 2)with
    | true=>
     rw[if_pos rfl];exact wpS_pure ⟨rfl,_,_,rfl,by omega,a2,by omega,λi hi=>low (by omega) hm q,a5⟩
    | false=>
     rw[if_neg (by decide)];exact wpS_pure ⟨rfl,_,_,rfl,by omega,by omega,by omega,a4,λi hi hn=>upp hi hn q⟩))
theorem BY {left:Bool}{key:Keyed}{arr:Array Keyed}{base n hint:Nat}{st:SortSt}{Q:Option Nat->SortSt->Prop}(B:Nat->Bool)(hh:hint<n)(mono:∀i j,i<j->j<n->B j=true->B i=true)
  (hB:∀i,i<n->∀F:Option Bool->SortSt->Prop,F (some (B i)) st->wpS M A E s (JW left key arr base i) F st)
  (k:∀r,r<=n->(∀i,i<r->B i=true)->(∀i,r<=i->i<n->B i=false)->Q (some r) st):wpS M A E s (JV left key arr base n hint) Q st:=by
 have low:∀{i j:Nat},i<=j->j<n->B j=true->B i=true:=λ{i j} h1 h2 h3=>by
  rcases Nat.lt_or_eq_of_le h1 with h | h
  ·exact mono i j h h2 h3
  ·rw[h];exact h3
 have upp:∀{i j:Nat},i<=j->j<n->B i=false->B j=false:=λ{i j} h1 h2 h3=>by
  cases e:B j with
  | false=>rfl
  | true=>rw[low h1 h2 e]at h3;cases h3
 refine wpS_bind (hB hint hh _ ?_)
 cases hr:B hint with
 | true=>
  dsimp only;rw[if_pos rfl];refine wpS_bind (wpS_mono (wpS_forRange (I:=λx c st'=>st'=st/\∃l f,c=(none,l,f)/\l<f/\x+1<=f/\hint+l<n/\B (hint+l)=true)
   (Q:=λc st'=>st'=st/\∃l f,c=(none,l,f)/\l<f/\hint+l<n/\B (hint+l)=true/\(f≥n-hint∨hint+f<n/\B (hint+f)=false)) ?step ?fin ⟨rfl,0,1,rfl,by omega,by omega,hh,hr⟩) ?post)
  case post=>
   rintro c jO ⟨e0,l,f,rfl,a1,a2,a3,a4⟩;rw[e0];have h1:hint+l+1<=hint+min f (n-hint):=by omega
   have h2:hint+min f (n-hint)<=n:=by omega
   have h3:∀i,i<hint+l+1->B i=true:=λi hi=>low (by omega) a2 a3;have h4:∀i,hint+min f (n-hint)<=i->i<n->B i=false:=λi hi hn=>by
    rcases a4 with a4 | a4
    ·omega
    ·exact upp (by omega) hn a4.2
   dsimp only;generalize hint+l+1=lo at h1 h3⊢;generalize hint+min f (n-hint)=hi at h1 h2 h4⊢
   walk_at "galBin"
  case fin=>
   rintro c st' ⟨rfl,l,f,rfl,a1,a2,a3,a4⟩;exact⟨rfl,l,f,rfl,a1,a3,a4,.inl (by omega)⟩
  case step=>
   rintro x c st' _ hx ⟨rfl,l,f,rfl,a1,a2,a3,a4⟩;dsimp only;by_cases e:f≥n-hint
   ·rw[if_pos e]
    exact wpS_pure ⟨rfl,l,f,rfl,a1,a3,a4,.inl e⟩
   ·rw[if_neg e]
    refine wpS_bind (hB _ (by omega) _ ?_);dsimp only
    cases q:B (hint+f)with
    | true=>
     rw[if_neg (by decide)];exact wpS_pure ⟨rfl,f,2*f+1,rfl,by omega,by omega,by omega,q⟩
    | false=>
     rw[if_pos (by decide)];exact wpS_pure ⟨rfl,l,f,rfl,a1,a3,a4,.inr ⟨by omega,q⟩⟩
 | false=>
  dsimp only;rw[if_neg (by decide)];refine wpS_bind (wpS_mono (wpS_forRange (I:=λx c st'=>st'=st/\∃l f,c=(none,l,f)/\l<f/\x+1<=f/\l<=hint/\B (hint-l)=false)
   (Q:=λc st'=>st'=st/\∃l f,c=(none,l,f)/\l<f/\l<=hint/\B (hint-l)=false/\(f≥hint+1∨f<=hint/\B (hint-f)=true)) ?step ?fin ⟨rfl,0,1,rfl,by omega,by omega,by omega,hr⟩) ?post)
  case post=>
   rintro c jO ⟨e0,l,f,rfl,a1,a2,a3,a4⟩;rw[e0];have h1:hint+1-min f (hint+1)<=hint-l:=by omega
   have h2:hint-l<=n:=by omega
   have h3:∀i,i<hint+1-min f (hint+1)->B i=true:=λi hi=>by
    rcases a4 with a4 | a4
    ·omega
    ·exact low (j:=hint-f) (by omega) (by omega) a4.2
   have h4:∀i,hint-l<=i->i<n->B i=false:=λi hi hn=>upp hi hn a3;dsimp only;generalize hint+1-min f (hint+1)=lo at h1 h3⊢;generalize hint-l=hi at h1 h2 h4⊢
   walk_at "galBin"
  case fin=>
   rintro c st' ⟨rfl,l,f,rfl,a1,a2,a3,a4⟩;exact⟨rfl,l,f,rfl,a1,a3,a4,.inl (by omega)⟩
  case step=>
   rintro x c st' _ hx ⟨rfl,l,f,rfl,a1,a2,a3,a4⟩;dsimp only;by_cases e:f≥hint+1
   ·rw[if_pos e]
    exact wpS_pure ⟨rfl,l,f,rfl,a1,a3,a4,.inl e⟩
   ·rw[if_neg e]
    refine wpS_bind (hB _ (by omega) _ ?_);dsimp only
    cases q:B (hint-f)with
    | true=>
     rw[if_pos rfl];exact wpS_pure ⟨rfl,l,f,rfl,a1,a3,a4,.inr ⟨by omega,q⟩⟩
    | false=>
     rw[if_neg (by decide)];exact wpS_pure ⟨rfl,f,2*f+1,rfl,by omega,by omega,by omega,q⟩
end
noncomputable abbrev setG (st:SortSt)(g:Nat):SortSt:=SortSt.mk' (kindOf st) (arrOf st) (pendingOf st) g (failedOf st)
noncomputable def ZjT:Array Keyed->Array Keyed->StateT SortSt Sem (Array Keyed):=sortPriv% PySem.Builtin.mergeLo
noncomputable def ZjU:Array Keyed->Array Keyed->StateT SortSt Sem (Array Keyed):=sortPriv% PySem.Builtin.mergeHi
section
variable (rk:Keyed->Int)
noncomputable def SL (l:List Keyed):Prop:=l.Pairwise λx y=>rk x<=rk y
structure Jm (a b out:Array Keyed)(ia ib:Nat):Prop where
 la:ia<=a.size
 lb:ib<=b.size
 pm:out.toList.Perm (a.toList.take ia++b.toList.take ib)
 so:SL rk out.toList
 ga:∀x∈out.toList,∀y∈a.toList.drop ia,rk x<=rk y
 gb:∀x∈out.toList,∀y∈b.toList.drop ib,rk x<=rk y
variable {rk}{a b out:Array Keyed}{ia ib:Nat}
theorem VG {l:List Keyed}{i:Nat}{x:Keyed}(h:l[i]?=some x):l.drop i=x::l.drop (i+1):=by
 obtain⟨hl,e⟩:=qu.mp h;rw[qan hl,e]
theorem VH {l:List Keyed}{i:Nat}{x:Keyed}(h:l[i]?=some x):l.take (i+1)=l.take i ++ [x]:=by
 obtain⟨hl,e⟩:=qu.mp h;rw[List.take_succ_eq_append_getElem hl,e]
theorem SL.drop {l:List Keyed}(h:SL rk l)(i:Nat):SL rk (l.drop i):=h.sublist (List.drop_sublist _ _)
theorem SL.head {l:List Keyed}(h:SL rk l){i:Nat}{x:Keyed}(hx:l[i]?=some x):∀y∈l.drop i,rk x<=rk y:=λy hy=>by
 have:=h.drop i;rw[VG hx]at this hy;rcases qq.mp hy with rfl | hy
 ·exact yO _
 ·exact(yJ.mp this).1 y hy
theorem WT {l:Array Keyed}{i:Nat}{x:Keyed}(h:l[i]?=some x):l.toList[i]?=some x:=by rw[qy];exact h
theorem Jm.pushB (h:Jm rk a b out ia ib)(hb:SL rk b.toList){x:Keyed}(hx:b[ib]?=some x)(hle:∀y∈a.toList.drop ia,rk x<=rk y):Jm rk a b (out.push x) ia (ib+1):=by
 have hx':=WT hx;have hl:ib<b.size:=by
  have:=(qu.mp hx').1;simpa using this
 have hd:=hb.head hx';refine⟨h.la,hl,?_,?_,λo ho y hy=>?_,λo ho y hy=>?_⟩
 ·rw[zf,VH hx',<-qK]
  exact h.pm.append_right _
 ·rw[zf]
  refine qU.mpr ⟨h.so,yd _ _,λo ho y hy=>?_⟩;rw[qH.mp hy];exact h.gb o ho x (by rw[VG hx'];simp)
 ·rw[zf]at ho
  rcases qY.mp ho with ho | ho
  ·exact h.ga o ho y hy
  ·rw[qH.mp ho];exact hle y hy
 ·rw[zf]at ho
  have hy':y∈b.toList.drop ib:=by rw[VG hx'];exact qS _ hy
  rcases qY.mp ho with ho | ho
  ·exact h.gb o ho y hy'
  ·rw[qH.mp ho];exact hd y hy'
theorem Jm.pushA (h:Jm rk a b out ia ib)(ha:SL rk a.toList){x:Keyed}(hx:a[ia]?=some x)(hle:∀y∈b.toList.drop ib,rk x<=rk y):Jm rk a b (out.push x) (ia+1) ib:=by
 have hx':=WT hx;have hl:ia<a.size:=by
  have:=(qu.mp hx').1;simpa using this
 have hd:=ha.head hx';refine⟨hl,h.lb,?_,?_,λo ho y hy=>?_,λo ho y hy=>?_⟩
 ·rw[zf,VH hx']
  refine(h.pm.append_right _).trans ?_;rw[qK,qK];exact qbA _ yp
 ·rw[zf]
  refine qU.mpr ⟨h.so,yd _ _,λo ho y hy=>?_⟩;rw[qH.mp hy];exact h.ga o ho x (by rw[VG hx'];simp)
 ·rw[zf]at ho
  have hy':y∈a.toList.drop ia:=by rw[VG hx'];exact qS _ hy
  rcases qY.mp ho with ho | ho
  ·exact h.ga o ho y hy'
  ·rw[qH.mp ho];exact hd y hy'
 ·rw[zf]at ho
  rcases qY.mp ho with ho | ho
  ·exact h.gb o ho y hy
  ·rw[qH.mp ho];exact hle y hy
theorem Zfq {xs:Array Keyed}{i k:Nat}(h:i+k<xs.size)(out:Array Keyed):out++xs.extract i (i+(k+1))=(out++xs.extract i (i+k)).push xs[i+k]:=by
 apply Array.ext';simp only[qZ,yT,zf,yn,qK];congr 1;have e1:i+(k+1)-i=k+1:=by omega
 have e2:i+k-i=k:=by omega
 rw[e1,e2];have hg:(xs.toList.drop i)[k]?=some xs[i+k]:=by rw[zR,qy,qd h]
 exact VH hg
theorem Jm.bulkA (ha:SL rk a.toList):∀(k:Nat),Jm rk a b out ia ib->ia+k<=a.size->(∀i x,i<k->a[ia+i]?=some x->∀y∈b.toList.drop ib,rk x<=rk y)->Jm rk a b (out++a.extract ia (ia+k)) (ia+k) ib
 | 0,h,_,_=>by
  have:out++a.extract ia (ia+0)=out:=by simp;omega
  rw[this];exact h
 | k+1,h,hk,hle=>by
  have hi:ia+k<a.size:=by omega
  have ih:=Jm.bulkA ha k h (by omega) λi x hi=>hle i x (by omega);rw[Zfq hi];exact ih.pushA ha (qd hi) (hle k _ (by omega) (qd hi))
theorem Jm.bulkB (hb:SL rk b.toList):∀(k:Nat),Jm rk a b out ia ib->ib+k<=b.size->(∀i x,i<k->b[ib+i]?=some x->∀y∈a.toList.drop ia,rk x<=rk y)->Jm rk a b (out++b.extract ib (ib+k)) ia (ib+k)
 | 0,h,_,_=>by
  have:out++b.extract ib (ib+0)=out:=by simp;omega
  rw[this];exact h
 | k+1,h,hk,hle=>by
  have hi:ib+k<b.size:=by omega
  have ih:=Jm.bulkB hb k h (by omega) λi x hi=>hle i x (by omega);rw[Zfq hi];exact ih.pushB hb (qd hi) (hle k _ (by omega) (qd hi))
noncomputable def Mg (rk:Keyed->Int)(a b r:Array Keyed):Prop:=r.toList.Perm (a.toList++b.toList)/\SL rk r.toList
theorem V3 (xs:Array Keyed)(i:Nat):(xs.extract i xs.size).toList=xs.toList.drop i:=by
 rw[yT,yn,qcy];rw[zS,qz];exact qm _
theorem Jm.done (h:Jm rk a b out ia ib)(ha:SL rk a.toList)(hb:SL rk b.toList)(e:ib=b.size∨ia=a.size):Mg rk a b (out++a.extract ia a.size++b.extract ib b.size):=by
 refine⟨?_,?_⟩
 ·rw[qZ,qZ,V3,V3]
  refine((h.pm.append_right _).append_right _).trans ?_;rw[qK,qK];have:(b.toList.take ib++(a.toList.drop ia++b.toList.drop ib)).Perm (a.toList.drop ia++(b.toList.take ib++b.toList.drop ib)):=by
   rw[<-qK,<-qK];exact yp.append_right _
  refine(this.append_left _).trans ?_;rw[zh,<-qK,zh]
 ·rw[SL,qZ,qZ,V3,V3]
  rcases e with e | e
  ·have z:b.toList.drop ib=[]:=by rw[e];exact yi (by simp)
   rw[z,zq];exact qU.mpr ⟨h.so,ha.drop ia,λx hx y hy=>h.ga x hx y hy⟩
  ·have z:a.toList.drop ia=[]:=by rw[e];exact yi (by simp)
   rw[z,zq];exact qU.mpr ⟨h.so,hb.drop ib,λx hx y hy=>h.gb x hx y hy⟩
theorem Jm.last (h:Jm rk a b out ia ib)(ha:SL rk a.toList)(hb:SL rk b.toList)(e:ia+1=a.size)(ZS:∀y∈b.toList,∀x,a[a.size-1]?=some x->rk y<=rk x):Mg rk a b (out++b.extract ib b.size++a.extract ia a.size):=by
 have hi:ia<a.size:=by omega
 refine⟨?_,?_⟩
 ·rw[qZ,qZ,V3,V3]
  refine((h.pm.append_right _).append_right _).trans ?_;rw[qK (a.toList.take ia),zh,qK];refine(yp.append_left _).trans ?_;rw[<-qK,zh]
 ·rw[SL,qZ,qZ,V3,V3]
  have hx:=qd hi;have z:a.toList.drop ia=[a[ia]]:=by
   rw[VG (WT hx)];rw[yi (by simp;omega)]
  rw[z];refine qU.mpr ⟨qU.mpr ⟨h.so,hb.drop ib,λx hx y hy=>h.gb x hx y hy⟩,yd _ _,λx hx2 y hy=>?_⟩;rw[qH.mp hy];rcases qY.mp hx2 with hx2 | hx2
  ·exact h.ga x hx2 _ (by rw[z];simp)
  ·refine ZS x (qaS hx2) _ ?_
   rw[show a.size-1=ia by omega];exact hx
end
structure Sim (st st':SortSt):Prop where
 kind:kindOf st'=kindOf st
 arr:arrOf st'=arrOf st
 pend:pendingOf st'=pendingOf st
 fail:failedOf st'=failedOf st
theorem Sim.refl (st:SortSt):Sim st st:=⟨rfl,rfl,rfl,rfl⟩
theorem Sim.setG {st st':SortSt}(h:Sim st st')(g:Nat):Sim st (setG st' g):=⟨h.kind,h.arr,h.pend,h.fail⟩
section
variable {M:Model}{A:xA}{E:xB}{s:Shared}
noncomputable def WB (M:Model)(A:xA)(E:xB)(s:Shared)(rk:Keyed->Int)(κ:SortKind)(In:Keyed->Prop):Prop:=
 ∀x y,In x->In y->∀(st:SortSt) (F:Option Bool->SortSt->Prop),kindOf st=κ->F (some (decide (rk x<rk y))) st->wpS M A E s (lt' x y) F st
variable {rk:Keyed->Int}{κ:SortKind}{In:Keyed->Prop}
theorem YL {xs:Array Keyed}{i:Nat}{x:Keyed}{st:SortSt}{F:Keyed->SortSt->Prop}(h:xs[i]?=some x)(k:F x st):wpS M A E s (elem' xs i) F st:=by
 rw[elem'_eq,h];exact wpS_pure k
theorem Zfr {key:Keyed}{arr:Array Keyed}{base n hint:Nat}{st:SortSt}{Q:Option Nat->SortSt->Prop}(C:WB M A E s rk κ In)(hk:kindOf st=κ)(hkey:In key)(hin:∀x∈arr.toList,In x)(hs:SL rk (arr.toList.drop base))(hb:base+n<=arr.size)(hh:hint<n)
  (k:∀r,r<=n->(∀i x,i<r->arr[base+i]?=some x->rk x<=rk key)->(∀i x,r<=i->i<n->arr[base+i]?=some x->rk key<rk x)->Q (some r) st):wpS M A E s (JV false key arr base n hint) Q st:=by
 have hx:∀i,i<n->∃x,arr[base+i]?=some x:=λi hi=>⟨arr[base+i]'(by omega),qd (by omega)⟩;have le:∀i j x y,i<j->j<n->arr[base+i]?=some x->arr[base+j]?=some y->rk x<=rk y:=λi j x y hij hj ex ey=>by
  have e1:(arr.toList.drop base)[i]?=some x:=by rw[zR,qy];exact ex
  have e2:(arr.toList.drop base)[j]?=some y:=by rw[zR,qy];exact ey
  obtain⟨l1,e1⟩:=qu.mp e1;obtain⟨l2,e2⟩:=qu.mp e2;have:=zI.mp hs i j l1 l2 hij;rw[e1,e2]at this;exact this
 refine BY (λi=>match arr[base+i]? with | some x=>!decide (rk key<rk x) | none=>false) hh (λi j hij hj h=>?_) (λi hi F hF=>?_) λr h1 h2 h3=>k r h1 (λi x hi ex=>?_) λi x hi hn ex=>?_
 ·obtain⟨x,ex⟩:=hx i (by omega)
  obtain⟨y,ey⟩:=hx j hj;simp only[ex,ey]at h⊢;have:=le i j x y hij hj ex ey;simp only[yU,decide_eq_false_iff_not]at h⊢;omega
 ·obtain⟨x,ex⟩:=hx i hi
  unfold JW;refine wpS_bind (YL ex ?_);simp only[qQ,if_false];refine wpS_bind (C key x hkey (hin x (ze.mpr (zk ex))) st _ hk ?_);refine wpS_pure ?_;simp only[ex]at hF;exact hF
 ·have:=h2 i hi
  simp only[ex,yU,decide_eq_false_iff_not]at this;omega
 ·have:=h3 i hi hn
  simp only[ex,Bool.not_eq_false',decide_eq_true_eq]at this;exact this
theorem Zhl {key:Keyed}{arr:Array Keyed}{base n hint:Nat}{st:SortSt}{Q:Option Nat->SortSt->Prop}(C:WB M A E s rk κ In)(hk:kindOf st=κ)(hkey:In key)(hin:∀x∈arr.toList,In x)(hs:SL rk (arr.toList.drop base))(hb:base+n<=arr.size)(hh:hint<n)
  (k:∀r,r<=n->(∀i x,i<r->arr[base+i]?=some x->rk x<rk key)->(∀i x,r<=i->i<n->arr[base+i]?=some x->rk key<=rk x)->Q (some r) st):wpS M A E s (JV true key arr base n hint) Q st:=by
 have hx:∀i,i<n->∃x,arr[base+i]?=some x:=λi hi=>⟨arr[base+i]'(by omega),qd (by omega)⟩;have le:∀i j x y,i<j->j<n->arr[base+i]?=some x->arr[base+j]?=some y->rk x<=rk y:=λi j x y hij hj ex ey=>by
  have e1:(arr.toList.drop base)[i]?=some x:=by rw[zR,qy];exact ex
  have e2:(arr.toList.drop base)[j]?=some y:=by rw[zR,qy];exact ey
  obtain⟨l1,e1⟩:=qu.mp e1;obtain⟨l2,e2⟩:=qu.mp e2;have:=zI.mp hs i j l1 l2 hij;rw[e1,e2]at this;exact this
 refine BY (λi=>match arr[base+i]? with | some x=>decide (rk x<rk key) | none=>false) hh (λi j hij hj h=>?_) (λi hi F hF=>?_) λr h1 h2 h3=>k r h1 (λi x hi ex=>?_) λi x hi hn ex=>?_
 ·obtain⟨x,ex⟩:=hx i (by omega)
  obtain⟨y,ey⟩:=hx j hj;simp only[ex,ey]at h⊢;have:=le i j x y hij hj ex ey;simp only[decide_eq_true_eq]at h⊢;omega
 ·obtain⟨x,ex⟩:=hx i hi
  unfold JW;refine wpS_bind (YL ex ?_);simp only[if_true];refine C x key (hin x (ze.mpr (zk ex))) hkey st _ hk ?_;simp only[ex]at hF;exact hF
 ·have:=h2 i hi
  simp only[ex,decide_eq_true_eq]at this;exact this
 ·have:=h3 i hi hn
  simp only[ex,decide_eq_false_iff_not]at this;omega
theorem Zl9 {b:Array Keyed}{ib k:Nat}{v:Int}(h:∀i x,k<=i->i<b.size-ib->b[ib+i]?=some x->v<=rk x):∀y∈b.toList.drop (ib+k),v<=rk y:=λy hy=>by
 obtain⟨j,hj⟩:=zC.mp hy;rw[zR,qy]at hj;have hl:ib+k+j<b.size:=(zE.mp hj).1;exact h (k+j) y (by omega) (by omega) (by rw[<-hj];congr 1;omega)
set_option hygiene false in
local macro_rules | `(tactic| walk_at "loEnd")=>`(tactic| (
  refine wpS_bind (YL hax ?_);have J5:=J4.pushA ha hax hge;by_cases d3:(ia2+1+1==a.size)=true
  ·rw[if_pos d3]
   exact wpS_pure ⟨hsim,.inl ⟨_,_,_,_,_,_,_,rfl,J5.last ha hb (by simpa using d3) ZS⟩⟩
  ·rw[if_neg d3]
   have d3':ia2+1+1≠a.size:=by simpa using d3
   split
   ·exact wpS_pure ⟨hsim,.inr ⟨_,_,_,_,_,_,rfl,J5,by omega,by omega,by omega⟩⟩
   ·exact wpS_pure ⟨hsim,_,_,_,_,_,_,rfl,J5,by omega,by omega,by omega⟩))
set_option hygiene false in
local macro_rules | `(tactic| walk_at "loTail")=>`(tactic| (
  refine wpS_bind (YL hbx ?_);have J3:=J2.pushB hb hbx hgt;by_cases d1:(ib+1==b.size)=true
  ·rw[if_pos d1]
   exact wpS_pure ⟨hsim,.inl ⟨_,_,_,_,_,_,_,rfl,J3.done ha hb (.inl (by simpa using d1))⟩⟩
  ·rw[if_neg d1]
   have d1':ib+1≠b.size:=by simpa using d1
   have hax:=qd (xs:=a) (i:=ia2) (by omega);refine wpS_bind (YL hax ?_);refine wpS_bind (Zhl C hk2 (hia _ (ze.mpr (zk hax))) hib (hb.drop _) (by omega) (by omega) λk1 g1 g2 g3=>?_);have hge:=Zl9 (ib:=ib+1) (k:=k1) g3;dsimp only;by_cases e1:k1 > 0
   ·rw[if_pos e1]
    have J4:=Jm.bulkB hb k1 J3 (by omega) λi x hi hx y hy=>qav (yA (g2 i x hi hx)) (ha.head (WT hax) y hy);by_cases d2:(ib+1+k1==b.size)=true
    ·rw[if_pos d2]
     exact wpS_pure ⟨hsim,.inl ⟨_,_,_,_,_,_,_,rfl,J4.done ha hb (.inl (by simpa using d2))⟩⟩
    ·rw[if_neg d2]
     have d2':ib+1+k1≠b.size:=by simpa using d2
     walk_at "loEnd"
   ·rw[if_neg e1]
    have z:k1=0:=by omega
    subst z;have J4:=J3;have d2':ib+1+0≠b.size:=d1'
    walk_at "loEnd"))
set_option hygiene false in
local macro_rules | `(tactic| walk_at "loHead")=>`(tactic| (
  refine wpS_bind (wpS_modify ?_);have hsim:=hsim0.setG gm;have hbx:=qd (xs:=b) (i:=ib) (by omega);refine wpS_bind (YL hbx ?_);have hk2:kindOf (setG jO gm)=κ:=hsim.kind.trans hk;refine wpS_bind (Zfr C hk2 (hib _ (ze.mpr (zk hbx))) hia (ha.drop _) (by omega) (by omega) λk0 f1 f2 f3=>?_);dsimp only;have hgt0:=Zl9 (b:=a) (ib:=ia) (k:=k0) (v:=rk b[ib]) λi x h1 h2 h3=>yA (f3 i x h1 h2 h3);by_cases e0:k0 > 0
  ·rw[if_pos e0]
   have J2:=Jm.bulkA ha k0 J (by omega) λi x hi hx y hy=>qav (f2 i x hi hx) (hb.head (WT hbx) y hy);by_cases d4:(ia+k0+1==a.size)=true
   ·rw[if_pos d4]
    exact wpS_pure ⟨hsim,.inl ⟨_,_,_,_,_,_,_,rfl,J2.last ha hb (by simpa using d4) ZS⟩⟩
   ·rw[if_neg d4]
    have d4':ia+k0+1≠a.size:=by simpa using d4
    by_cases d5:(ia+k0==a.size)=true
    ·rw[if_pos d5]
     exact wpS_pure ⟨hsim,.inl ⟨_,_,_,_,_,_,_,rfl,J2.done ha hb (.inr (by simpa using d5))⟩⟩
    ·rw[if_neg d5]
     have d5':ia+k0≠a.size:=by simpa using d5
     have hgt:=hgt0;have i1:ia+k0+1<a.size:=by omega
     have i2:ia<=ia+k0:=by omega
     generalize ia+k0=ia2 at J2 hgt i1 i2⊢
     walk_at "loTail"
  ·rw[if_neg e0]
   have z0:k0=0:=by omega
   subst z0;have J2:=J;have hgt:∀y∈a.toList.drop ia,rk b[ib]<=rk y:=hgt0;have i1:ia+1<a.size:=l1;have i2:ia<=ia:=qm _;generalize e2:ia=ia2 at J2 hgt i1⊢;rw[e2]at i2
   walk_at "loTail"))
theorem Zgv {a b:Array Keyed}{st:SortSt}{Q:Array Keyed->SortSt->Prop}(C:WB M A E s rk κ In)(hk:kindOf st=κ)(hia:∀x∈a.toList,In x)(hib:∀x∈b.toList,In x)(ha:SL rk a.toList)(hb:SL rk b.toList)(a0:0<a.size)(b0:0<b.size)
  (first:∀x,b[0]?=some x->∀y∈a.toList,rk x<=rk y) (ZS:∀y∈b.toList,∀x,a[a.size-1]?=some x->rk y<=rk x)
  (k:∀r st',Mg rk a b r->Sim st st'->Q r st'):wpS M A E s (ZjT a b) Q st:=by
 refine wpS_bind (wpS_lift (wpAny_rule ⟨rfl,?_⟩));have hb0:=qd b0;refine wpS_bind (YL hb0 ?_);have J0:Jm rk a b #[b[0]] 0 1:=by
  have e:Jm rk a b #[] 0 0:=⟨zy _,zy _,by simp,zV,λx hx=>by simp at hx,λx hx=>by simp at hx⟩;exact e.pushB hb hb0 λy hy=>first _ hb0 y (by simpa using hy)
 dsimp only;by_cases c1:(1==b.size)=true
 ·rw[if_pos c1]
  have:1=b.size:=by simpa using c1
  exact wpS_pure (k _ _ (J0.done ha hb (.inl this)) (Sim.refl st))
 ·rw[if_neg c1]
  by_cases c2:(0+1==a.size)=true
  ·rw[if_pos c2]
   have:0+1=a.size:=by simpa using c2
   exact wpS_pure (k _ _ (J0.last ha hb this ZS) (Sim.refl st))
  ·rw[if_neg c2]
   refine wpS_bind (wpS_get ?_);have c1':1≠b.size:=by simpa using c1
   have c2':0+1≠a.size:=by simpa using c2
   refine wpS_bind (wpS_mono (wpS_forRange (I:=λy c st'=>Sim st st'/\∃out ia ib g,c=(none,out,ia,ib,g)/\Jm rk a b out ia ib/\ia+1<a.size/\ib<b.size/\y<=ia+ib)
    (Q:=λc st'=>Sim st st'/\∃r out ia ib g,c=(some r,out,ia,ib,g)/\Mg rk a b r) ?step ?fin ⟨Sim.refl st,_,_,_,_,rfl,J0,by omega,by omega,by omega⟩) ?post)
   case post=>
    rintro c st' ⟨h1,r,out,ia,ib,g,rfl,h2⟩;exact wpS_pure (k r st' h2 h1)
   case fin=>
    rintro c st' ⟨h1,out,ia,ib,g,rfl,J,l1,l2,h3⟩;omega
   case step=>
    rintro y c jT _ hy ⟨hs1,out,ia,ib,g,rfl,J,l1,l2,h3⟩;dsimp only;refine wpS_bind (wpS_mono (wpS_forRange (I:=λx c st'=>st'=jT/\∃o2 i2 j2 p q,c=(none,o2,i2,j2,p,q)/\Jm rk a b o2 i2 j2/\i2+1<a.size/\j2<b.size/\ia+ib+x<=i2+j2)
     (Q:=λc st'=>st'=jT/\((∃r o2 i2 j2 p q,c=(some r,o2,i2,j2,p,q)/\Mg rk a b r)∨∃o2 i2 j2 p q,c=(none,o2,i2,j2,p,q)/\Jm rk a b o2 i2 j2/\i2+1<a.size/\j2<b.size/\ia+ib+1<=i2+j2)) ?step1 ?fin1 ⟨rfl,_,_,_,_,_,rfl,J,l1,l2,by omega⟩) ?post1)
    case fin1=>
     rintro c st' ⟨rfl,o2,i2,j2,p,q,rfl,J2,m1,m2,m3⟩;omega
    case step1=>
     rintro x c st' _ hx ⟨rfl,o2,i2,j2,p,q,rfl,J2,m1,m2,m3⟩;dsimp only;have hbx:=qd (xs:=b) (i:=j2) m2;have hax:=qd (xs:=a) (i:=i2) (by omega);refine wpS_bind (YL hbx (wpS_bind (YL hax ?_)));refine wpS_bind (C _ _ (hib _ (ze.mpr (zk hbx))) (hia _ (ze.mpr (zk hax))) _ _ (hs1.kind.trans hk) ?_);dsimp only;by_cases w:rk b[j2]<rk a[i2]
     ·rw[if_pos (decide_eq_true w)]
      refine wpS_bind (YL hbx ?_);have J3:=J2.pushB hb hbx λy hy=>qav (yA w) (ha.head (WT hax) y hy);by_cases d:(j2+1==b.size)=true
      ·rw[if_pos d]
       exact wpS_pure ⟨rfl,.inl ⟨_,_,_,_,_,_,rfl,J3.done ha hb (.inl (by simpa using d))⟩⟩
      ·rw[if_neg d]
       have d':j2+1≠b.size:=by simpa using d
       split
       ·exact wpS_pure ⟨rfl,.inr ⟨_,_,_,_,_,rfl,J3,m1,by omega,by omega⟩⟩
       ·exact wpS_pure ⟨rfl,_,_,_,_,_,rfl,J3,m1,by omega,by omega⟩
     ·rw[if_neg (by simpa using w)]
      refine wpS_bind (YL hax ?_);have J3:=J2.pushA ha hax λy hy=>qav (Int.not_lt.mp w) (hb.head (WT hbx) y hy);by_cases d:(i2+1+1==a.size)=true
      ·rw[if_pos d]
       exact wpS_pure ⟨rfl,.inl ⟨_,_,_,_,_,_,rfl,J3.last ha hb (by simpa using d) ZS⟩⟩
      ·rw[if_neg d]
       have d':i2+1+1≠a.size:=by simpa using d
       split
       ·exact wpS_pure ⟨rfl,.inr ⟨_,_,_,_,_,rfl,J3,by omega,m2,by omega⟩⟩
       ·exact wpS_pure ⟨rfl,_,_,_,_,_,rfl,J3,by omega,m2,by omega⟩
    case post1=>
     rintro c st' ⟨rfl,h | h⟩
     ·obtain⟨r,o2,i2,j2,p,q,rfl,h⟩:=h
      exact wpS_pure ⟨hs1,_,_,_,_,_,rfl,h⟩
     ·obtain⟨o2,i2,j2,p,q,rfl,J2,m1,m2,m3⟩:=h
      dsimp only;refine wpS_bind (wpS_lift (wpAny_rule ⟨rfl,?_⟩));refine wpS_bind (wpS_mono (wpS_forRange (I:=λx c jO=>Sim st jO/\∃o3 i3 j3 g p q,c=(none,o3,i3,j3,g,p,q)/\Jm rk a b o3 i3 j3/\i3+1<a.size/\j3<b.size/\i2+j2+x<=i3+j3)
       (Q:=λc jO=>Sim st jO/\((∃r o3 i3 j3 g p q,c=(some r,o3,i3,j3,g,p,q)/\Mg rk a b r)∨∃o3 i3 j3 g p q,c=(none,o3,i3,j3,g,p,q)/\Jm rk a b o3 i3 j3/\i3+1<a.size/\j3<b.size/\i2+j2<=i3+j3)) ?step2 ?fin2 ⟨hs1,_,_,_,_,_,_,rfl,J2,m1,m2,by omega⟩) ?post2)
      case fin2=>
       rintro c jO ⟨h1,o3,i3,j3,g,p,q,rfl,J3,n1,n2,n3⟩;omega
      case post2=>
       rintro c jO ⟨h1,h | h⟩
       ·obtain⟨r,o3,i3,j3,g,p,q,rfl,h⟩:=h
        exact wpS_pure ⟨h1,_,_,_,_,_,rfl,h⟩
       ·obtain⟨o3,i3,j3,g,p,q,rfl,J3,n1,n2,n3⟩:=h
        dsimp only;exact wpS_bind (wpS_modify (wpS_pure ⟨h1.setG _,_,_,_,_,rfl,J3,n1,n2,by omega⟩))
      case step2=>
       clear J l1 l2 h3 J2 m1 m2;rintro x c jO _ hx ⟨hsim0,out,ia,ib,g,p,q,rfl,J,l1,l2,n3⟩;dsimp only;refine' (λ(key:∀gm:Nat,(_:Nat->Prop) gm)=>?m1) ?m2
       case m1=>
        by_cases g1:g > 1
        ·rw[if_pos g1]
         generalize g-1=gm;exact key gm
        ·rw[if_neg g1]
         generalize g=gm;exact key gm
       case m2=>
        intro gm
        walk_at "loHead"
end
section
variable (rk:Keyed->Int)
structure Jh (a b out:Array Keyed)(na nb:Nat):Prop where
 la:na<=a.size
 lb:nb<=b.size
 pm:out.toList.Perm (a.toList.drop na++b.toList.drop nb)
 so:out.toList.Pairwise λx y=>rk y<=rk x
 ga:∀x∈out.toList,∀y∈a.toList.take na,rk y<=rk x
 gb:∀x∈out.toList,∀y∈b.toList.take nb,rk y<=rk x
variable {rk}{a b out:Array Keyed}{na nb:Nat}
theorem SL.last {l:List Keyed}(h:SL rk l){i:Nat}{x:Keyed}(hx:l[i]?=some x):∀y∈l.take (i+1),rk y<=rk x:=λy hy=>by
 have:=h.sublist (zF (i+1) l);rw[VH hx]at this hy;rcases qY.mp hy with hy | hy
 ·exact(qU.mp this).2.2 y hy x (by simp)
 ·rw[qH.mp hy];exact yO _
theorem Jh.pushB (h:Jh rk a b out na (nb+1))(hb:SL rk b.toList){x:Keyed}(hx:b[nb]?=some x)(hle:∀y∈a.toList.take na,rk y<=rk x):Jh rk a b (out.push x) na nb:=by
 have hx':=WT hx;have hd:=hb.last hx';refine⟨h.la,by have:=h.lb;omega,?_,?_,λo ho y hy=>?_,λo ho y hy=>?_⟩
 ·rw[zf,VG hx']
  refine(h.pm.append_right _).trans ?_;rw[qK];exact qbA _ yp
 ·rw[zf]
  refine qU.mpr ⟨h.so,yd _ _,λo ho y hy=>?_⟩;rw[qH.mp hy];exact h.gb o ho x (by rw[VH hx'];simp)
 ·rw[zf]at ho
  rcases qY.mp ho with ho | ho
  ·exact h.ga o ho y hy
  ·rw[qH.mp ho];exact hle y hy
 ·rw[zf]at ho
  have hy':y∈b.toList.take (nb+1):=by rw[VH hx'];exact qal _ hy
  rcases qY.mp ho with ho | ho
  ·exact h.gb o ho y hy'
  ·rw[qH.mp ho];exact hd y hy'
theorem Jh.pushA (h:Jh rk a b out (na+1) nb)(ha:SL rk a.toList){x:Keyed}(hx:a[na]?=some x)(hle:∀y∈b.toList.take nb,rk y<=rk x):Jh rk a b (out.push x) na nb:=by
 have hx':=WT hx;have hd:=ha.last hx';refine⟨by have:=h.la;omega,h.lb,?_,?_,λo ho y hy=>?_,λo ho y hy=>?_⟩
 ·rw[zf,VG hx']
  refine(h.pm.append_right _).trans ?_;exact yp
 ·rw[zf]
  refine qU.mpr ⟨h.so,yd _ _,λo ho y hy=>?_⟩;rw[qH.mp hy];exact h.ga o ho x (by rw[VH hx'];simp)
 ·rw[zf]at ho
  have hy':y∈a.toList.take (na+1):=by rw[VH hx'];exact qal _ hy
  rcases qY.mp ho with ho | ho
  ·exact h.ga o ho y hy'
  ·rw[qH.mp ho];exact hd y hy'
 ·rw[zf]at ho
  rcases qY.mp ho with ho | ho
  ·exact h.gb o ho y hy
  ·rw[qH.mp ho];exact hle y hy
theorem Zfs {xs:Array Keyed}{i n:Nat}(h:i<n)(hn:n<=xs.size)(out:Array Keyed):out++(xs.extract i n).reverse=(out++(xs.extract (i+1) n).reverse).push (xs[i]'(by omega)):=by
 apply Array.ext';simp only[qZ,qao,yT,zf,yn,qK];congr 1;have hg:xs.toList[i]?=some (xs[i]'(by omega)):=WT (qd (by omega));rw[VG hg,show n-i=(n-(i+1))+1 by omega,qc1,List.reverse_cons]
theorem Jh.bulkA (ha:SL rk a.toList){n:Nat}:∀(k:Nat),k<=n->n<=a.size->Jh rk a b out n nb->(∀i x,n-k<=i->i<n->a[i]?=some x->∀y∈b.toList.take nb,rk y<=rk x)->Jh rk a b (out++(a.extract (n-k) n).reverse) (n-k) nb
 | 0,_,hn,h,_=>by
  have:out++(a.extract (n-0) n).reverse=out:=by simp;omega
  rw[this,qcd];exact h
 | k+1,hk,hn,h,hle=>by
  have ih:=Jh.bulkA ha k (by omega) hn h λi x h1=>hle i x (by omega);have e:n-k=n-(k+1)+1:=by omega
  rw[Zfs (by omega) hn,<-e];rw[e]at ih;have:=ih.pushA ha (qd (by omega)) (hle _ _ (by omega) (by omega) (qd (by omega)));rw[<-e]at this;exact this
theorem Jh.bulkB (hb:SL rk b.toList){n:Nat}:∀(k:Nat),k<=n->n<=b.size->Jh rk a b out na n->(∀i x,n-k<=i->i<n->b[i]?=some x->∀y∈a.toList.take na,rk y<=rk x)->Jh rk a b (out++(b.extract (n-k) n).reverse) na (n-k)
 | 0,_,hn,h,_=>by
  have:out++(b.extract (n-0) n).reverse=out:=by simp;omega
  rw[this,qcd];exact h
 | k+1,hk,hn,h,hle=>by
  have ih:=Jh.bulkB hb k (by omega) hn h λi x h1=>hle i x (by omega);have e:n-k=n-(k+1)+1:=by omega
  rw[Zfs (by omega) hn,<-e];rw[e]at ih;have:=ih.pushB hb (qd (by omega)) (hle _ _ (by omega) (by omega) (qd (by omega)));rw[<-e]at this;exact this
theorem V0 (xs:Array Keyed)(i:Nat):(xs.extract 0 i).toList=xs.toList.take i:=by
 rw[yT,yn,qbd,qcd]
theorem Jh.perm (h:Jh rk a b out na nb):(a.toList.take na++b.toList.take nb++out.toList.reverse).Perm (a.toList++b.toList):=by
 refine((List.reverse_perm _).trans h.pm).append_left _ |>.trans ?_;rw[qK];have:(b.toList.take nb++(a.toList.drop na++b.toList.drop nb)).Perm (a.toList.drop na++(b.toList.take nb++b.toList.drop nb)):=by
  rw[<-qK,<-qK];exact yp.append_right _
 refine(this.append_left _).trans ?_;rw[zh,<-qK,zh]
theorem Jh.rev (h:Jh rk a b out na nb):SL rk out.toList.reverse:=qcC.mpr h.so
theorem Jh.done (h:Jh rk a b out na nb)(ha:SL rk a.toList)(hb:SL rk b.toList)(e:na=0∨nb=0):Mg rk a b (a.extract 0 na++b.extract 0 nb++out.reverse):=by
 refine⟨?_,?_⟩
 ·rw[qZ,qZ,V0,V0,qao]
  exact h.perm
 ·rw[SL,qZ,qZ,V0,V0,qao]
  rcases e with e | e
  ·rw[e,qcE,qaf]
   exact qU.mpr ⟨hb.sublist (zF _ _),h.rev,λx hx y hy=>h.gb y (qaR.mp hy) x hx⟩
  ·rw[e,qcE,zq]
   exact qU.mpr ⟨ha.sublist (zF _ _),h.rev,λx hx y hy=>h.ga y (qaR.mp hy) x hx⟩
theorem Jh.first (h:Jh rk a b out na 1)(ha:SL rk a.toList)(bot:∀x,b[0]?=some x->∀y∈a.toList,rk x<=rk y):Mg rk a b (b.extract 0 1++a.extract 0 na++out.reverse):=by
 refine⟨?_,?_⟩
 ·rw[qZ,qZ,V0,V0,qao]
  exact(yp.append_right _).trans h.perm
 ·rw[SL,qZ,qZ,V0,V0,qao]
  refine qU.mpr ⟨qU.mpr ⟨?_,ha.sublist (zF _ _),λx hx y hy=>?_⟩,h.rev,λx hx y hy=>?_⟩
  ·have hl:=List.length_take_le 1 b.toList
   cases e:b.toList.take 1 with
   | nil=>exact zV
   | cons z l=>
    rw[e]at hl;have:l=[]:=by simpa using hl
    rw[this];exact yd _ _
  ·have hb0:0<b.size:=h.lb
   have z:b.toList.take 1=[b[0]]:=by
    have:=VH (l:=b.toList) (i:=0) (WT (qd hb0));simpa using this
   rw[z]at hx;rw[qH.mp hx];exact bot _ (qd hb0) y (yu hy)
  ·rcases qY.mp hx with hx | hx
   ·exact h.gb y (qaR.mp hy) x hx
   ·exact h.ga y (qaR.mp hy) x hx
end
section
variable {M:Model}{A:xA}{E:xB}{s:Shared}{rk:Keyed->Int}{κ:SortKind}{In:Keyed->Prop}
theorem Zma {b:Array Keyed}{k:Nat}{v:Int}(h:∀i x,i<k->b[0+i]?=some x->rk x<=v):∀y∈b.toList.take k,rk y<=v:=λy hy=>by
 obtain⟨j,hj⟩:=zC.mp hy;have hl:=(qu.mp hj).1;rw[qV]at hl;rw[zL (by omega),qy]at hj;exact h j y (by omega) (by rw[qac];exact hj)
theorem Jh.pushA' {a b out:Array Keyed}{na nb:Nat}(h:Jh rk a b out na nb)(hn:0<na)(ha:SL rk a.toList){x:Keyed}(hx:a[na-1]?=some x)(hle:∀y∈b.toList.take nb,rk y<=rk x):Jh rk a b (out.push x) (na-1) nb:=by
 obtain⟨m,rfl⟩:∃m,na=m+1:=⟨na-1,by omega⟩;exact h.pushA ha hx hle
theorem Jh.pushB' {a b out:Array Keyed}{na nb:Nat}(h:Jh rk a b out na nb)(hn:0<nb)(hb:SL rk b.toList){x:Keyed}(hx:b[nb-1]?=some x)(hle:∀y∈a.toList.take na,rk y<=rk x):Jh rk a b (out.push x) na (nb-1):=by
 obtain⟨m,rfl⟩:∃m,nb=m+1:=⟨nb-1,by omega⟩;exact h.pushB hb hx hle
theorem Jh.cutA {a b out:Array Keyed}{na nb t:Nat}(h:Jh rk a b out na nb)(ht:t<=na)(ha:SL rk a.toList)(hle:∀i x,t<=i->i<na->a[i]?=some x->∀y∈b.toList.take nb,rk y<=rk x):Jh rk a b (out++(a.extract t na).reverse) t nb:=by
 have:=Jh.bulkA ha (na-t) (by omega) h.la h (by rw[show na-(na-t)=t by omega];exact hle);rw[show na-(na-t)=t by omega]at this;exact this
theorem Jh.cutB {a b out:Array Keyed}{na nb t:Nat}(h:Jh rk a b out na nb)(ht:t<=nb)(hb:SL rk b.toList)(hle:∀i x,t<=i->i<nb->b[i]?=some x->∀y∈a.toList.take na,rk y<=rk x):Jh rk a b (out++(b.extract t nb).reverse) na t:=by
 have:=Jh.bulkB hb (nb-t) (by omega) h.lb h (by rw[show nb-(nb-t)=t by omega];exact hle);rw[show nb-(nb-t)=t by omega]at this;exact this
theorem Jh.first' {a b out:Array Keyed}{na nb:Nat}(h:Jh rk a b out na nb)(e:nb=1)(ha:SL rk a.toList)(bot:∀x,b[0]?=some x->∀y∈a.toList,rk x<=rk y):Mg rk a b (b.extract 0 nb++a.extract 0 na++out.reverse):=by
 subst e;exact h.first ha bot
theorem Zhm {l:Array Keyed}(h:SL rk l.toList){n:Nat}(hn:0<n){x:Keyed}(hx:l[n-1]?=some x):∀y∈l.toList.take n,rk y<=rk x:=by
 have:=h.last (WT hx);rw[show n-1+1=n by omega]at this;exact this
set_option hygiene false in
local macro_rules | `(tactic| walk_at "hiEnd")=>`(tactic| (
  refine wpS_bind (YL hax ?_);have J5:=J4.pushA' i1 ha hax hge;by_cases d3:(na2-1==0)=true
  ·rw[if_pos d3]
   exact wpS_pure ⟨hsim,.inl ⟨_,_,_,_,_,_,_,rfl,J5.done ha hb (.inl (by simpa using d3))⟩⟩
  ·rw[if_neg d3]
   have d3':na2-1≠0:=by simpa using d3
   split
   ·exact wpS_pure ⟨hsim,.inr ⟨_,_,_,_,_,_,rfl,J5,by omega,by omega,by omega⟩⟩
   ·exact wpS_pure ⟨hsim,_,_,_,_,_,_,rfl,J5,by omega,by omega,by omega⟩))
set_option hygiene false in
local macro_rules | `(tactic| walk_at "hiTail")=>`(tactic| (
  refine wpS_bind (YL hbx ?_);have J3:=J2.pushB' (by omega) hb hbx hgt;by_cases d1:(nb-1==1)=true
  ·rw[if_pos d1]
   exact wpS_pure ⟨hsim,.inl ⟨_,_,_,_,_,_,_,rfl,J3.first' (by simpa using d1) ha first⟩⟩
  ·rw[if_neg d1]
   have d1':nb-1≠1:=by simpa using d1
   have hla:=J2.la;have hax:=qd (xs:=a) (i:=na2-1) (by omega);refine wpS_bind (YL hax ?_);refine wpS_bind (Zhl C hk2 (hia _ (ze.mpr (zk hax))) hib (hb.drop _) (by omega) (by omega) λt1 g1 g2 g3=>?_);have hge:=Zma (b:=b) (k:=t1) λi x h1 h2=>yA (g2 i x h1 h2);have hmax:=Zhm ha i1 hax;dsimp only;by_cases e1:nb-1-t1 > 0
   ·rw[if_pos e1]
    have J4:=J3.cutB g1 hb λi x h1 h2 hx y hy=>qav (hmax y hy) (g3 i x h1 h2 (by rw[qac];exact hx));by_cases d2:(t1==1)=true
    ·rw[if_pos d2]
     exact wpS_pure ⟨hsim,.inl ⟨_,_,_,_,_,_,_,rfl,J4.first' (by simpa using d2) ha first⟩⟩
    ·rw[if_neg d2]
     have d2':t1≠1:=by simpa using d2
     by_cases d6:(t1==0)=true
     ·rw[if_pos d6]
      exact wpS_pure ⟨hsim,.inl ⟨_,_,_,_,_,_,_,rfl,J4.done ha hb (.inr (by simpa using d6))⟩⟩
     ·rw[if_neg d6]
      have d6':t1≠0:=by simpa using d6
      walk_at "hiEnd"
   ·rw[if_neg e1]
    have z:t1=nb-1:=by omega
    subst z;have J4:=J3
    walk_at "hiEnd"))
set_option hygiene false in
local macro_rules | `(tactic| walk_at "hiHead")=>`(tactic| (
  refine wpS_bind (wpS_modify ?_);have hsim:=hsim0.setG gm;have hlb:=J.lb;have hla0:=J.la;have hbx:=qd (xs:=b) (i:=nb-1) (by omega);refine wpS_bind (YL hbx ?_);have hk2:kindOf (setG jO gm)=κ:=hsim.kind.trans hk;refine wpS_bind (Zfr C hk2 (hib _ (ze.mpr (zk hbx))) hia (ha.drop _) (by omega) (by omega) λt0 f1 f2 f3=>?_);dsimp only;have hgt0:=Zma (b:=a) (k:=t0) λi x h1 h2=>f2 i x h1 h2;have hbm:=Zhm hb (by omega:0<nb) hbx;by_cases e0:na-t0 > 0
  ·rw[if_pos e0]
   have J2:=J.cutA f1 ha λi x h1 h2 hx y hy=>qav (hbm y hy) (yA (f3 i x h1 h2 (by rw[qac];exact hx)));by_cases d4:(t0==0)=true
   ·rw[if_pos d4]
    exact wpS_pure ⟨hsim,.inl ⟨_,_,_,_,_,_,_,rfl,J2.done ha hb (.inl (by simpa using d4))⟩⟩
   ·rw[if_neg d4]
    have d4':t0≠0:=by simpa using d4
    have hgt:=hgt0;have i1:0<t0:=by omega
    have i2:t0<=na:=f1;generalize t0=na2 at J2 hgt i1 i2⊢
    walk_at "hiTail"
  ·rw[if_neg e0]
   have z0:t0=na:=by omega
   subst z0;have J2:=J;have hgt:=hgt0;have i1:0<t0:=l1;have i2:t0<=t0:=qm _;generalize e2:t0=na2 at J2 hgt i1⊢;rw[e2]at i2
   walk_at "hiTail"))
theorem Zgw {a b:Array Keyed}{st:SortSt}{Q:Array Keyed->SortSt->Prop}(C:WB M A E s rk κ In)(hk:kindOf st=κ)(hia:∀x∈a.toList,In x)(hib:∀x∈b.toList,In x)(ha:SL rk a.toList)(hb:SL rk b.toList)(a0:0<a.size)(b0:0<b.size)
  (first:∀x,b[0]?=some x->∀y∈a.toList,rk x<=rk y) (ZS:∀y∈b.toList,∀x,a[a.size-1]?=some x->rk y<=rk x)
  (k:∀r st',Mg rk a b r->Sim st st'->Q r st'):wpS M A E s (ZjU a b) Q st:=by
 refine wpS_bind (wpS_lift (wpAny_rule ⟨rfl,?_⟩));have hal:a[a.size-1]?=some (a[a.size-1]'(by omega)):=qd (by omega);dsimp only;refine wpS_bind (YL hal ?_);have J0:Jh rk a b #[a[a.size-1]'(by omega)] (a.size-1) b.size:=by
  have e:Jh rk a b #[] (a.size-1+1) b.size:=⟨by omega,qm _,by
   rw[yi (by simp;omega),yi (by simp)];exact .refl _,zV,λx hx=>by simp at hx,λx hx=>by simp at hx⟩
  exact e.pushA ha hal λy hy=>ZS y (yu hy) _ hal
 by_cases c1:(a.size-1==0)=true
 ·rw[if_pos c1]
  exact wpS_pure (k _ _ (J0.done ha hb (.inl (by simpa using c1))) (Sim.refl st))
 ·rw[if_neg c1]
  have c1':a.size-1≠0:=by simpa using c1
  by_cases c2:(b.size==1)=true
  ·rw[if_pos c2]
   have e1:b.size=1:=by simpa using c2
   have J1:=J0;rw[e1]at J1;have:=J1.first ha first;rw[e1];exact wpS_pure (k _ _ this (Sim.refl st))
  ·rw[if_neg c2]
   have c2':b.size≠1:=by simpa using c2
   refine wpS_bind (wpS_get ?_);refine wpS_bind (wpS_mono (wpS_forRange (I:=λy c st'=>Sim st st'/\∃na nb out g,c=(none,na,nb,out,g)/\Jh rk a b out na nb/\0<na/\1<nb/\na+nb+y<=a.size+b.size)
    (Q:=λc st'=>Sim st st'/\∃r na nb out g,c=(some r,na,nb,out,g)/\Mg rk a b r) ?step ?fin ⟨Sim.refl st,_,_,_,_,rfl,J0,by omega,by omega,by omega⟩) ?post)
   case post=>
    rintro c st' ⟨h1,r,na,nb,out,g,rfl,h2⟩;exact wpS_pure (k r st' h2 h1)
   case fin=>
    rintro c st' ⟨h1,na,nb,out,g,rfl,J,l1,l2,h3⟩;omega
   case step=>
    rintro y c jT _ hy ⟨hs1,na,nb,out,g,rfl,J,l1,l2,h3⟩;dsimp only;refine wpS_bind (wpS_mono (wpS_forRange (I:=λx c st'=>st'=jT/\∃i2 j2 o2 p q,c=(none,i2,j2,o2,p,q)/\Jh rk a b o2 i2 j2/\0<i2/\1<j2/\i2+j2+x<=na+nb)
     (Q:=λc st'=>st'=jT/\((∃r i2 j2 o2 p q,c=(some r,i2,j2,o2,p,q)/\Mg rk a b r)∨∃i2 j2 o2 p q,c=(none,i2,j2,o2,p,q)/\Jh rk a b o2 i2 j2/\0<i2/\1<j2/\i2+j2+1<=na+nb)) ?step1 ?fin1 ⟨rfl,_,_,_,_,_,rfl,J,l1,l2,by omega⟩) ?post1)
    case fin1=>
     rintro c st' ⟨rfl,i2,j2,o2,p,q,rfl,J2,m1,m2,m3⟩;omega
    case step1=>
     rintro x c st' _ hx ⟨rfl,i2,j2,o2,p,q,rfl,J2,m1,m2,m3⟩;dsimp only;have hla:=J2.la;have hlb:=J2.lb;have hbx:=qd (xs:=b) (i:=j2-1) (by omega);have hax:=qd (xs:=a) (i:=i2-1) (by omega);refine wpS_bind (YL hbx (wpS_bind (YL hax ?_)));refine wpS_bind (C _ _ (hib _ (ze.mpr (zk hbx))) (hia _ (ze.mpr (zk hax))) _ _ (hs1.kind.trans hk) ?_);dsimp only;have hA:=Zhm ha m1 hax;have hB:=Zhm hb (by omega:0<j2) hbx;by_cases w:rk b[j2-1]<rk a[i2-1]
     ·rw[if_pos (decide_eq_true w)]
      refine wpS_bind (YL hax ?_);have J3:=J2.pushA' m1 ha hax λy hy=>qav (hB y hy) (yA w);by_cases d:(i2-1==0)=true
      ·rw[if_pos d]
       exact wpS_pure ⟨rfl,.inl ⟨_,_,_,_,_,_,rfl,J3.done ha hb (.inl (by simpa using d))⟩⟩
      ·rw[if_neg d]
       have d':i2-1≠0:=by simpa using d
       split
       ·exact wpS_pure ⟨rfl,.inr ⟨_,_,_,_,_,rfl,J3,by omega,m2,by omega⟩⟩
       ·exact wpS_pure ⟨rfl,_,_,_,_,_,rfl,J3,by omega,m2,by omega⟩
     ·rw[if_neg (by simpa using w)]
      refine wpS_bind (YL hbx ?_);have J3:=J2.pushB' (by omega) hb hbx λy hy=>qav (hA y hy) (Int.not_lt.mp w);by_cases d:(j2-1==1)=true
      ·rw[if_pos d]
       exact wpS_pure ⟨rfl,.inl ⟨_,_,_,_,_,_,rfl,J3.first' (by simpa using d) ha first⟩⟩
      ·rw[if_neg d]
       have d':j2-1≠1:=by simpa using d
       split
       ·exact wpS_pure ⟨rfl,.inr ⟨_,_,_,_,_,rfl,J3,m1,by omega,by omega⟩⟩
       ·exact wpS_pure ⟨rfl,_,_,_,_,_,rfl,J3,m1,by omega,by omega⟩
    case post1=>
     rintro c st' ⟨rfl,h | h⟩
     ·obtain⟨r,i2,j2,o2,p,q,rfl,h⟩:=h
      exact wpS_pure ⟨hs1,_,_,_,_,_,rfl,h⟩
     ·obtain⟨i2,j2,o2,p,q,rfl,J2,m1,m2,m3⟩:=h
      dsimp only;refine wpS_bind (wpS_lift (wpAny_rule ⟨rfl,?_⟩));refine wpS_bind (wpS_mono (wpS_forRange (I:=λx c jO=>Sim st jO/\∃i3 j3 o3 g p q,c=(none,i3,j3,o3,g,p,q)/\Jh rk a b o3 i3 j3/\0<i3/\1<j3/\i3+j3+x<=i2+j2)
       (Q:=λc jO=>Sim st jO/\((∃r i3 j3 o3 g p q,c=(some r,i3,j3,o3,g,p,q)/\Mg rk a b r)∨∃i3 j3 o3 g p q,c=(none,i3,j3,o3,g,p,q)/\Jh rk a b o3 i3 j3/\0<i3/\1<j3/\i3+j3<=i2+j2)) ?step2 ?fin2 ⟨hs1,_,_,_,_,_,_,rfl,J2,m1,m2,by omega⟩) ?post2)
      case fin2=>
       have z1:=J2.la;have z2:=J2.lb;rintro c jO ⟨h1,i3,j3,o3,g,p,q,rfl,J3,n1,n2,n3⟩;omega
      case post2=>
       rintro c jO ⟨h1,h | h⟩
       ·obtain⟨r,i3,j3,o3,g,p,q,rfl,h⟩:=h
        exact wpS_pure ⟨h1,_,_,_,_,_,rfl,h⟩
       ·obtain⟨i3,j3,o3,g,p,q,rfl,J3,n1,n2,n3⟩:=h
        dsimp only;exact wpS_bind (wpS_modify (wpS_pure ⟨h1.setG _,_,_,_,_,rfl,J3,n1,n2,by omega⟩))
      case step2=>
       clear J l1 l2 h3 J2 m1 m2 m3;rintro x c jO _ hx ⟨hsim0,na,nb,out,g,p,q,rfl,J,l1,l2,n3⟩;dsimp only;refine' (λ(key:∀gm:Nat,(_:Nat->Prop) gm)=>?m1) ?m2
       case m1=>
        by_cases g1:g > 1
        ·rw[if_pos g1]
         generalize g-1=gm;exact key gm
        ·rw[if_neg g1]
         generalize g=gm;exact key gm
       case m2=>
        intro gm
        walk_at "hiHead"
end
section
variable {M:Model}{A:xA}{E:xB}{s:Shared}{rk:Keyed->Int}{κ:SortKind}{In:Keyed->Prop}
theorem Ziq {key:Keyed}{arr:Array Keyed}{base n hint:Nat}{st:SortSt}{Q:Option Nat->SortSt->Prop}(C:WB M A E s rk κ In)(hk:kindOf st=κ)(hkey:In key)(hin:∀x∈arr.toList,In x)(le:∀i j x y,i<j->j<n->arr[base+i]?=some x->arr[base+j]?=some y->rk x<=rk y)(hb:base+n<=arr.size)(hh:hint<n)
  (k:∀r,r<=n->(∀i x,i<r->arr[base+i]?=some x->rk x<=rk key)->(∀i x,r<=i->i<n->arr[base+i]?=some x->rk key<rk x)->Q (some r) st):wpS M A E s (JV false key arr base n hint) Q st:=by
 have hx:∀i,i<n->∃x,arr[base+i]?=some x:=λi hi=>⟨arr[base+i]'(by omega),qd (by omega)⟩;refine BY (λi=>match arr[base+i]? with | some x=>!decide (rk key<rk x) | none=>false) hh (λi j hij hj h=>?_) (λi hi F hF=>?_) λr h1 h2 h3=>k r h1 (λi x hi ex=>?_) λi x hi hn ex=>?_
 ·obtain⟨x,ex⟩:=hx i (by omega)
  obtain⟨y,ey⟩:=hx j hj;simp only[ex,ey]at h⊢;have:=le i j x y hij hj ex ey;simp only[yU,decide_eq_false_iff_not]at h⊢;omega
 ·obtain⟨x,ex⟩:=hx i hi
  unfold JW;refine wpS_bind (YL ex ?_);simp only[qQ,if_false];refine wpS_bind (C key x hkey (hin x (ze.mpr (zk ex))) st _ hk ?_);refine wpS_pure ?_;simp only[ex]at hF;exact hF
 ·have:=h2 i hi
  simp only[ex,yU,decide_eq_false_iff_not]at this;omega
 ·have:=h3 i hi hn
  simp only[ex,Bool.not_eq_false',decide_eq_true_eq]at this;exact this
theorem ZjV {key:Keyed}{arr:Array Keyed}{base n hint:Nat}{st:SortSt}{Q:Option Nat->SortSt->Prop}(C:WB M A E s rk κ In)(hk:kindOf st=κ)(hkey:In key)(hin:∀x∈arr.toList,In x)(le:∀i j x y,i<j->j<n->arr[base+i]?=some x->arr[base+j]?=some y->rk x<=rk y)(hb:base+n<=arr.size)(hh:hint<n)
  (k:∀r,r<=n->(∀i x,i<r->arr[base+i]?=some x->rk x<rk key)->(∀i x,r<=i->i<n->arr[base+i]?=some x->rk key<=rk x)->Q (some r) st):wpS M A E s (JV true key arr base n hint) Q st:=by
 have hx:∀i,i<n->∃x,arr[base+i]?=some x:=λi hi=>⟨arr[base+i]'(by omega),qd (by omega)⟩;refine BY (λi=>match arr[base+i]? with | some x=>decide (rk x<rk key) | none=>false) hh (λi j hij hj h=>?_) (λi hi F hF=>?_) λr h1 h2 h3=>k r h1 (λi x hi ex=>?_) λi x hi hn ex=>?_
 ·obtain⟨x,ex⟩:=hx i (by omega)
  obtain⟨y,ey⟩:=hx j hj;simp only[ex,ey]at h⊢;have:=le i j x y hij hj ex ey;simp only[decide_eq_true_eq]at h⊢;omega
 ·obtain⟨x,ex⟩:=hx i hi
  unfold JW;refine wpS_bind (YL ex ?_);simp only[if_true];refine C x key (hin x (ze.mpr (zk ex))) hkey st _ hk ?_;simp only[ex]at hF;exact hF
 ·have:=h2 i hi
  simp only[ex,decide_eq_true_eq]at this;exact this
 ·have:=h3 i hi hn
  simp only[ex,decide_eq_false_iff_not]at this;omega
theorem Zm4 {l:List Keyed}{p:Keyed}:∀{P:List Keyed} {x:Keyed} {R:List Keyed},l=P++x::R->l.set P.length p=P++p::R:=λe=>by
 subst e;rw[List.set_append_right _ _ (qm _),Nat.sub_self];rfl
theorem Zft:∀(ms olds P R:List Keyed) (arr:Array Keyed) (n:Nat),arr.toList=P++olds++R->olds.length=ms.length->((ms.zipIdx n).foldl (λa (p,j)=>a.setIfInBounds (P.length-n+j) p) arr).toList=P++ms++R∨P.length<n
 | [],olds,P,R,arr,n,e,hl=>by
  have:olds=[]:=zQ.mp hl;subst this;exact .inl e
 | m::ms,[],P,R,arr,n,e,hl=>by cases hl
 | m::ms,o::olds,P,R,arr,n,e,hl=>by
  by_cases hn:P.length<n
  ·exact .inr hn
  ·rw[List.zipIdx_cons,qae]
   have e1:(arr.setIfInBounds (P.length-n+n) m).toList=(P ++ [m])++olds++R:=by
    rw[Array.toList_setIfInBounds,show P.length-n+n=P.length by omega,Zm4 (P:=P) (x:=o) (R:=olds++R) (by rw[e];simp)];simp
   have ih:=Zft ms olds (P ++ [m]) R (arr.setIfInBounds (P.length-n+n) m) (n+1) e1 (by simpa using hl);rw[qG,qaN]at ih;rw[show P.length+1-(n+1)=P.length-n by omega]at ih;refine .inl ?_;rcases ih with ih | ih
   ·simpa using ih
   ·omega
theorem Zir {ms olds P R:List Keyed}{arr:Array Keyed}(e:arr.toList=P++olds++R)(hl:olds.length=ms.length):(ms.zipIdx.foldl (λa (p,j)=>a.setIfInBounds (P.length+j) p) arr).toList=P++ms++R:=by
 rcases Zft ms olds P R arr 0 e hl with h | h
 ·simpa using h
 ·omega
theorem ZjW {P As T:List Keyed}{arr:Array Keyed}(e:arr.toList=P++As++T){j:Nat}(hj:j<As.length):arr[P.length+j]?=As[j]?:=by
 rw[<-qy,e,qK,yg (by omega),show P.length+j-P.length=j by omega,zw hj]
theorem SL.le {l:List Keyed}(h:SL rk l){i j:Nat}{x y:Keyed}(hij:i<j)(ex:l[i]?=some x)(ey:l[j]?=some y):rk x<=rk y:=by
 obtain⟨l1,e1⟩:=qu.mp ex;obtain⟨l2,e2⟩:=qu.mp ey;have:=zI.mp h i j l1 l2 hij;rw[e1,e2]at this;exact this
theorem ZbU {l:List Keyed}{k:Nat}{x:Keyed}(h:x∈l.take k):∃i,i<k/\i<l.length/\l[i]?=some x:=by
 obtain⟨i,hi⟩:=zC.mp h;have hl:=(qu.mp hi).1;rw[qV]at hl;rw[zL (by omega)]at hi;exact⟨i,by omega,by omega,hi⟩
theorem ZbV {l:List Keyed}{k:Nat}{x:Keyed}(h:x∈l.drop k):∃i,k<=i/\i<l.length/\l[i]?=some x:=by
 obtain⟨i,hi⟩:=zC.mp h;have hl:=(qu.mp hi).1;rw[zS]at hl;rw[zR]at hi;exact⟨k+i,by omega,by omega,hi⟩
theorem Zgx {st:SortSt}{i p q:Nat}{P As Bs R:List Keyed}{Q:Bool->SortSt->Prop}(C:WB M A E s rk κ In)(hk:kindOf st=κ)(hf:failedOf st=none)(hin:∀x∈(arrOf st).toList,In x)
  (p1:(pendingOf st)[i]?=some (P.length,As.length,p)) (p2:(pendingOf st)[i+1]?=some (P.length+As.length,Bs.length,q)) (e:(arrOf st).toList=P++As++(Bs++R)) (hA:SL rk As) (hB:SL rk Bs) (a0:0<As.length) (b0:0<Bs.length)
  (k:∀st' Ms,(arrOf st').toList=P++Ms++R->Ms.Perm (As++Bs)->SL rk Ms->kindOf st'=κ->failedOf st'=none->pendingOf st'=((pendingOf st).setIfInBounds i (P.length,As.length+Bs.length,p)).eraseIdxIfInBounds (i+1)->Q true st'):wpS M A E s (mergeAt' i) Q st:=by
 refine wpS_bind (wpS_get ?_);rw[p1,p2];dsimp only;have hset:∀{T:SortSt} {F:PUnit->SortSt->Prop},F ⟨⟩ T->wpS M A E s (set T:StateT SortSt Sem PUnit) F st:=λ{T F} h=>by
  unfold wpS;rw[StateT.run_set];exact xb ⟨rfl,h⟩
 refine wpS_bind (hset ?_);have e':(arrOf st).toList=(P++As)++Bs++R:=by rw[e];simp
 have hPA:(P++As).length=P.length+As.length:=qG;have atA:∀{j:Nat},j<As.length->(arrOf st)[P.length+j]?=As[j]?:=λ{j} h=>ZjW e h;have atB:∀{j:Nat},j<Bs.length->(arrOf st)[P.length+As.length+j]?=Bs[j]?:=λ{j} h=>by
  have:=ZjW e' h;rw[hPA]at this;exact this
 have hsz:(arrOf st).size=P.length+As.length+Bs.length+R.length:=by
  rw[<-qz,e];simp only[qG];omega
 have hB0:Bs[0]?=some Bs[0]:=qD b0;have key1:(arrOf st)[P.length+As.length]?=some Bs[0]:=by
  have:=atB (j:=0) b0;rw[qce]at this;rw[this,hB0]
 have mem:∀{j:Nat} {x:Keyed},(arrOf st)[j]?=some x->In x:=λ{j x} h=>hin x (ze.mpr (zk h));refine wpS_bind (YL key1 ?_);refine wpS_bind (Ziq (κ:=κ) (arr:=arrOf st) C hk (mem key1) hin (λi j x y hij hj ex ey=>?_) (by omega) a0 λk1 f1 f2 f3=>?_)
 ·rw[atA (by omega)]at ex
  rw[atA hj]at ey;exact hA.le hij ex ey
 have lowA:∀x∈As.take k1,rk x<=rk Bs[0]:=λx hx=>by
  obtain⟨j,h1,h2,h3⟩:=ZbU hx;exact f2 j x h1 (by rw[atA h2];exact h3)
 have uppA:∀x∈As.drop k1,rk Bs[0]<rk x:=λx hx=>by
  obtain⟨j,h1,h2,h3⟩:=ZbV hx;exact f3 j x h1 h2 (by rw[atA h2];exact h3)
 have geB:∀y∈Bs,rk Bs[0]<=rk y:=λy hy=>hB.head hB0 y (by rw[qbd];exact hy);dsimp only;by_cases c1:(As.length-k1==0)=true
 ·rw[if_pos c1]
  have z:k1=As.length:=by
   have:As.length-k1=0:=by simpa using c1
   omega
  refine wpS_pure (k _ (As++Bs) (by show(arrOf st).toList=_;rw[e];simp) (.refl _) (qU.mpr ⟨hA,hB,λx hx y hy=>?_⟩) hk hf rfl);have h1:=lowA x (by rw[z,yG];exact hx);have h2:=geB y hy;omega
 ·rw[if_neg c1]
  have c1':As.length-k1≠0:=by simpa using c1
  have hAl:As[As.length-1]?=some (As[As.length-1]'(by omega)):=qD (by omega);have key2:(arrOf st)[P.length+k1+(As.length-k1)-1]?=some (As[As.length-1]'(by omega)):=by
   rw[show P.length+k1+(As.length-k1)-1=P.length+(As.length-1) by omega,atA (by omega)];exact hAl
  refine wpS_bind (YL key2 ?_);refine wpS_bind (ZjV (κ:=κ) (arr:=arrOf st) C hk (mem key2) hin (λi j x y hij hj ex ey=>?_) (by omega) (by omega) λn1 g1 g2 g3=>?_)
  ·rw[atB (by omega)]at ex
   rw[atB hj]at ey;exact hB.le hij ex ey
  have lowB:∀y∈Bs.take n1,rk y<=rk (As[As.length-1]'(by omega)):=λy hy=>by
   obtain⟨j,h1,h2,h3⟩:=ZbU hy;exact yA (g2 j y h1 (by rw[atB h2];exact h3))
  have uppB:∀y∈Bs.drop n1,rk (As[As.length-1]'(by omega))<=rk y:=λy hy=>by
   obtain⟨j,h1,h2,h3⟩:=ZbV hy;exact g3 j y h1 h2 (by rw[atB h2];exact h3)
  have leA:∀x∈As,rk x<=rk (As[As.length-1]'(by omega)):=λx hx=>by
   have:=hA.last hAl;rw[show As.length-1+1=As.length by omega,yG]at this;exact this x hx
  dsimp only;by_cases c2:(n1==0)=true
  ·rw[if_pos c2]
   have z:n1=0:=by simpa using c2
   refine wpS_pure (k _ (As++Bs) (by show(arrOf st).toList=_;rw[e];simp) (.refl _) (qU.mpr ⟨hA,hB,λx hx y hy=>?_⟩) hk hf rfl);have h1:=leA x hx;have h2:=uppB y (by rw[z,qbd];exact hy);omega
  ·rw[if_neg c2]
   have c2':n1≠0:=by simpa using c2
   have hx:((arrOf st).extract (P.length+k1) (P.length+As.length)).toList=As.drop k1:=by
    rw[yT,yn,e,qK,List.drop_append,yi (by omega),qaf,show P.length+k1-P.length=k1 by omega,List.drop_append_of_le_length f1,qbL (by rw[zS];omega),qcy (by rw[zS];omega)]
   have hy:((arrOf st).extract (P.length+As.length) (P.length+As.length+n1)).toList=Bs.take n1:=by
    rw[yT,yn,e',qK,List.drop_append,yi (by omega),qaf,hPA,Nat.sub_self,qbd,show P.length+As.length+n1-(P.length+As.length)=n1 by omega,qbL g1]
   generalize (arrOf st).extract (P.length+k1) (P.length+As.length)=X at hx⊢;generalize (arrOf st).extract (P.length+As.length) (P.length+As.length+n1)=Y at hy⊢;have sX:SL rk X.toList:=by rw[hx];exact hA.drop k1
   have sY:SL rk Y.toList:=by rw[hy];exact hB.sublist (zF _ _)
   have lX:X.size=As.length-k1:=by rw[<-qz,hx,zS]
   have lY:Y.size=n1:=by rw[<-qz,hy,qV];omega
   have inX:∀x∈X.toList,In x:=λx h=>by
    rw[hx]at h;exact hin x (by rw[e];simp[qaS h])
   have inY:∀x∈Y.toList,In x:=λx h=>by
    rw[hy]at h;exact hin x (by rw[e];simp[yu h])
   have frst:∀x,Y[0]?=some x->∀y∈X.toList,rk x<=rk y:=λx h y hyy=>by
    rw[<-qy,hy,zL (by omega),hB0]at h
    cases h
    rw[hx]at hyy;exact yA (uppA y hyy)
   have topp:∀y∈Y.toList,∀x,X[X.size-1]?=some x->rk y<=rk x:=λy hyy x h=>by
    rw[<-qy,hx,lX,zR,show k1+(As.length-k1-1)=As.length-1 by omega,hAl]at h
    cases h
    rw[hy]at hyy;exact lowB y hyy
   have fin:∀(r:Array Keyed) (st':SortSt),Mg rk X Y r->Sim (setPending st (((pendingOf st).setIfInBounds i (P.length,As.length+Bs.length,p)).eraseIdxIfInBounds (i+1))) st'->wpS M A E s (do
     modify λs=>setArr s (r.toList.zipIdx.foldl (λa (p,j)=>a.setIfInBounds (P.length+k1+j) p) (arrOf s))
     return (failedOf (<-get)).isNone) Q st':=λr st' hm hs=>by
    refine wpS_bind (wpS_modify (wpS_bind (wpS_get (wpS_pure ?_))));have hff:failedOf st'=none:=hs.fail.trans hf;have hrl:r.toList.length=As.length-k1+n1:=by rw[hm.1.length_eq,qG,qz,qz,lX,lY]
    have eA:(arrOf st').toList=(P++As.take k1)++(As.drop k1++Bs.take n1)++(Bs.drop n1++R):=by
     have:arrOf st'=arrOf st:=hs.arr;rw[this,e];have h1:As=As.take k1++As.drop k1:=(zh _ _).symm;have h2:Bs=Bs.take n1++Bs.drop n1:=(zh _ _).symm
     conv=>lhs;rw[h1,h2]
     simp only[qK]
    have hPl:(P++As.take k1).length=P.length+k1:=by rw[qG,qV];omega
    have fs:=Zir (ms:=r.toList) eA (by rw[qG,zS,qV,hrl];omega);rw[hPl]at fs;have hfail:(failedOf st').isNone=true:=by rw[hff];rfl
    have goalq:=k (setArr st' (r.toList.zipIdx.foldl (λa (p,j)=>a.setIfInBounds (P.length+k1+j) p) (arrOf st'))) (As.take k1++r.toList++Bs.drop n1) (by
     show(r.toList.zipIdx.foldl (λa (p,j)=>a.setIfInBounds (P.length+k1+j) p) (arrOf st')).toList=_;rw[fs];simp only[qK]) ?_ ?_ (hs.kind.trans hk) hff hs.pend
    ·show Q (failedOf st').isNone _
     rw[hfail];exact goalq
    ·have pr:=hm.1
     rw[hx,hy]at pr;refine((pr.append_left _).append_right _).trans ?_;rw[<-qK,zh,qK,zh]
    ·have mr:∀z∈r.toList,(z∈As.drop k1∨z∈Bs.take n1):=λz hz=>by
      have:=hm.1.mem_iff.mp hz;rw[hx,hy]at this;exact qY.mp this
     refine qU.mpr ⟨qU.mpr ⟨hA.sublist (zF _ _),hm.2,λx h1 y h2=>?_⟩,hB.drop n1,λx h1 y h2=>?_⟩
     ·have l1:=lowA x h1
      rcases mr y h2 with h2 | h2
      ·have:=uppA y h2;omega
      ·have:=geB y (yu h2);omega
     ·have hy2:=qaS h2
      rcases qY.mp h1 with h1 | h1
      ·have l1:=lowA x h1
       have:=geB y hy2;omega
      ·have l2:=uppB y h2
       rcases mr x h1 with h1 | h1
       ·have:=leA x (qaS h1);omega
       ·have:=lowB x h1;omega
   by_cases c3:As.length-k1<=n1
   ·rw[if_pos c3]
    refine wpS_bind (Zgv C (st:=setPending st _) hk inX inY sX sY (by omega) (by omega) frst topp λr st' hm hs=>?_);exact fin r st' hm hs
   ·rw[if_neg c3]
    refine wpS_bind (Zgw C (st:=setPending st _) hk inX inY sX sY (by omega) (by omega) frst topp λr st' hm hs=>?_);exact fin r st' hm hs
end
section
variable (rk:Keyed->Int)
noncomputable def Vk (xs:Array Keyed)(i:Nat):Int:=match xs[i]? with
 | some p=>rk p
 | none=>0
noncomputable def Up (xs:Array Keyed)(lo n:Nat):Prop:=∀i j,i<=j->j<n->Vk rk xs (lo+i)<=Vk rk xs (lo+j)
noncomputable def Dn (xs:Array Keyed)(lo n:Nat):Prop:=∀i j,i<=j->j<n->Vk rk xs (lo+j)<=Vk rk xs (lo+i)
end
structure TB (st st':SortSt)(lo:Nat):Prop where
 perm:(arrOf st').toList.Perm (arrOf st).toList
 pre:∀i,i<lo->(arrOf st')[i]?=(arrOf st)[i]?
 kind:kindOf st'=kindOf st
 pend:pendingOf st'=pendingOf st
 fail:failedOf st'=failedOf st
theorem TB.refl (st:SortSt)(lo:Nat):TB st st lo:=⟨.refl _,λ_ _=>rfl,rfl,rfl,rfl⟩
theorem TB.size {st st':SortSt}{lo:Nat}(h:TB st st' lo):(arrOf st').size=(arrOf st).size:=by
 have:=h.perm.length_eq;simpa using this
section
variable {rk:Keyed->Int}
theorem JP {xs ys:Array Keyed}{i j:Nat}(h:xs[i]?=ys[j]?):Vk rk xs i=Vk rk ys j:=by unfold Vk;rw[h]
theorem TB.bub {st st':SortSt}{lo src d:Nat}(h:TB st st' lo)(hs:src<(arrOf st').size)(hd:d<=src)(hl:lo<=src-d):TB st (setArr st' (bubble (arrOf st') src d)) lo:=by
 refine⟨(qb0.mp (bubble_perm _ _ _)).trans h.perm,λi hi=>?_,h.kind,h.pend,h.fail⟩;show(bubble (arrOf st') src d)[i]?=_;rw[getElem?_bubble hs d hd,if_neg (by omega),if_neg (by omega)];exact h.pre i hi
theorem TB.mir {st st':SortSt}{lo i j:Nat}(h:TB st st' lo)(hj:j<=(arrOf st').size)(hl:lo<=i):TB st (setArr st' (mirror (arrOf st') i j ((j-i) / 2))) lo:=by
 refine⟨(qb0.mp (mirror_perm _ _ _ _)).trans h.perm,λk hk=>?_,h.kind,h.pend,h.fail⟩;show(mirror (arrOf st') i j ((j-i) / 2))[k]?=_;rw[getElem?_mirror_all hj,if_neg (by omega)];exact h.pre k hk
theorem ZjX {xs:Array Keyed}{src d:Nat}(hs:src<xs.size)(hd:d<=src)(k:Nat):Vk rk (bubble xs src d) k=if k=src-d then Vk rk xs src else if src-d<k/\k<=src then Vk rk xs (k-1)else Vk rk xs k:=by
 have e:=getElem?_bubble hs d hd k;by_cases h1:k=src-d
 ·rw[if_pos h1]at e⊢;exact JP e
 ·rw[if_neg h1]at e⊢
  by_cases h2:src-d<k/\k<=src
  ·rw[if_pos h2]at e⊢;exact JP e
  ·rw[if_neg h2]at e⊢;exact JP e
theorem Zgy {xs:Array Keyed}{i j:Nat}(hj:j<=xs.size)(k:Nat):Vk rk (mirror xs i j ((j-i) / 2)) k=if i<=k/\k<j then Vk rk xs (i+j-1-k)else Vk rk xs k:=by
 have e:=getElem?_mirror_all (i:=i) hj k;by_cases h1:i<=k/\k<j
 ·rw[if_pos h1]at e⊢;exact JP e
 ·rw[if_neg h1]at e⊢;exact JP e
end
section
variable {M:Model}{A:xA}{E:xB}{s:Shared}{rk:Keyed->Int}{κ:SortKind}{In:Keyed->Prop}
theorem U0 {st0 st:SortSt}{lo i j:Nat}{Q:Option Bool->SortSt->Prop}(C:WB M A E s rk κ In)(hk:kindOf st0=κ)(hin:∀x∈(arrOf st0).toList,In x)(h:TB st0 st lo)(hi:i<(arrOf st0).size)(hj:j<(arrOf st0).size)
  (q:Q (some (decide (Vk rk (arrOf st) i<Vk rk (arrOf st) j))) st):wpS M A E s (ltAt' i j) Q st:=by
 have hi':i<(arrOf st).size:=by rw[h.size];exact hi
 have hj':j<(arrOf st).size:=by rw[h.size];exact hj
 have ei:=qd hi';have ej:=qd hj';have mem:∀{k:Nat} {x:Keyed},(arrOf st)[k]?=some x->In x:=λ{k x} e=>hin x (h.perm.mem_iff.mp (ze.mpr (zk e)));rw[ltAt'_eq];refine wpS_bind (wpS_get ?_);refine wpS_bind (YL ei (wpS_bind (YL ej ?_)));refine C _ _ (mem ei) (mem ej) st _ (h.kind.trans hk) ?_;have v1:Vk rk (arrOf st) i=rk (arrOf st)[i]:=by unfold Vk;rw[ei]
 have v2:Vk rk (arrOf st) j=rk (arrOf st)[j]:=by unfold Vk;rw[ej]
 rw[v1,v2]at q;exact q
theorem Zis {st0 st:SortSt}{lo n ok:Nat}{Q:Bool->SortSt->Prop}(C:WB M A E s rk κ In)(hk:kindOf st0=κ)(hin:∀x∈(arrOf st0).toList,In x)(hn:lo+n<=(arrOf st0).size)(hok:ok<=n)(hT:TB st0 st lo)(hs:Up rk (arrOf st) lo ok)
  (h:∀st',TB st0 st' lo->Up rk (arrOf st') lo n->Q true st'):wpS M A E s (binarySort' lo n ok) Q st:=by
 rw[binarySort'_eq];refine wpS_bind (wpS_mono (wpS_forRange (I:=λk c st'=>c=(none,())/\TB st0 st' lo/\Up rk (arrOf st') lo (min k n))
  (Q:=λc st'=>c=(none,())/\TB st0 st' lo/\Up rk (arrOf st') lo n) ?step ?fin ?init) ?post)
 case post=>
  rintro c st' ⟨rfl,hB',hs'⟩;exact wpS_pure (h st' hB' hs')
 case init=>
  refine⟨rfl,hT,λi j hij hj=>?_⟩;by_cases h1:ok=0
  ·have:i=j:=by omega
   subst this;exact yO _
  ·exact hs i j hij (by omega)
 case fin=>
  rintro c st' ⟨hc,hB',hs'⟩;refine⟨hc,hB',?_⟩
  rwa[show min (max (max ok 1) n) n=n by omega]at hs'
 case step=>
  rintro k c st' hak hkn ⟨rfl,hB',hs'⟩;rw[show min k n=k by omega]at hs';have hk':lo+k<(arrOf st0).size:=by omega
  refine wpS_bind (wpS_mono (wpS_forRange (I:=λx c st''=>st''=st'/\∃l r,c=(none,l,r)/\l<=r/\r<=k/\r-l<=k-x/\
    (∀i,i<l->Vk rk (arrOf st') (lo+i)<=Vk rk (arrOf st') (lo+k))/\(∀i,r<=i->i<k->Vk rk (arrOf st') (lo+k)<Vk rk (arrOf st') (lo+i)))
   (Q:=λc st''=>st''=st'/\∃l r,c=(none,l,r)/\l<=k/\
    (∀i,i<l->Vk rk (arrOf st') (lo+i)<=Vk rk (arrOf st') (lo+k))/\(∀i,l<=i->i<k->Vk rk (arrOf st') (lo+k)<Vk rk (arrOf st') (lo+i))) ?istep ?ifin ?iinit) ?ipost)
  case iinit=>exact⟨rfl,0,k,rfl,by omega,by omega,by omega,λi hi=>by omega,λi h1 h2=>by omega⟩
  case ifin=>
   rintro c st'' ⟨rfl,l,r,rfl,hlr,hrk,hm,hlo,hhi⟩;have:l=r:=by omega
   subst this;exact⟨rfl,l,l,rfl,hrk,hlo,hhi⟩
  case istep=>
   rintro x c st'' _ hxk ⟨e0,l,r,rfl,hlr,hrk,hm,hlo,hhi⟩;rw[e0];dsimp only;by_cases hge:l≥r
   ·rw[if_pos hge]
    have:l=r:=by omega
    subst this;exact wpS_pure ⟨rfl,l,l,rfl,hrk,hlo,hhi⟩
   ·rw[if_neg hge]
    refine wpS_bind (U0 C hk hin hB' hk' (by omega) ?_);by_cases hless:Vk rk (arrOf st') (lo+k)<Vk rk (arrOf st') (lo+(l+r) / 2)
    ·dsimp only
     rw[if_pos (decide_eq_true hless)];refine wpS_pure ⟨rfl,l,(l+r) / 2,rfl,by omega,by omega,by omega,hlo,λi h1 h2=>?_⟩;have:=hs' ((l+r) / 2) i h1 h2;omega
    ·dsimp only
     rw[if_neg (by simpa using hless)];refine wpS_pure ⟨rfl,(l+r) / 2+1,r,rfl,by omega,by omega,by omega,λi h1=>?_,hhi⟩;have:=hs' i ((l+r) / 2) (by omega) (by omega);omega
  case ipost=>
   rintro c st'' ⟨rfl,l,r,rfl,hlk,hlo,hhi⟩;show wpS _ _ _ _ (do moveDown' (lo+k) (lo+l);pure (qah (none,()))) _ _;rw[moveDown'_eq];have hks:lo+k<(arrOf st'').size:=by rw[hB'.size];exact hk'
   refine wpS_bind (wpS_modify (wpS_pure ⟨rfl,hB'.bub hks (by omega) (by omega),?_⟩));rw[show min (k+1) n=k+1 by omega];intro i j hij hj;show Vk rk (bubble (arrOf st'') (lo+k) (lo+k-(lo+l))) (lo+i)<=Vk rk (bubble (arrOf st'') (lo+k) (lo+k-(lo+l))) (lo+j);rw[ZjX hks (by omega),ZjX hks (by omega),show lo+k-(lo+k-(lo+l))=lo+l by omega];have e1:∀m,l<m->lo+m-1=lo+(m-1):=λm hm=>by omega
   by_cases i1:i=l
   ·subst i1
    rw[if_pos rfl];by_cases j1:j=i
    ·rw[if_pos (by omega)];exact yO _
    ·rw[if_neg (by omega),if_pos (by omega),e1 j (by omega)]
     exact yA (hhi _ (by omega) (by omega))
   ·rw[if_neg (by omega)]
    by_cases i2:l<i
    ·rw[if_pos (by omega),if_neg (by omega),if_pos (by omega),e1 i i2,e1 j (by omega)]
     exact hs' _ _ (by omega) (by omega)
    ·rw[if_neg (by omega)]
     by_cases j1:j=l
     ·rw[if_pos (by omega)];exact hlo i (by omega)
     ·rw[if_neg (by omega)]
      by_cases j2:l<j
      ·rw[if_pos (by omega),e1 j j2]
       exact hs' i (j-1) (by omega) (by omega)
      ·rw[if_neg (by omega)]
       exact hs' i j hij (by omega)
end
section
variable {M:Model}{A:xA}{E:xB}{s:Shared}{rk:Keyed->Int}{κ:SortKind}{In:Keyed->Prop}
theorem ZbC {xs:Array Keyed}{i j:Nat}{c:Int}(hj:j<=xs.size)(he:∀k,i<=k->k<j->Vk rk xs k=c)(k:Nat):Vk rk (mirror xs i j ((j-i) / 2)) k=Vk rk xs k:=by
 rw[Zgy hj];split
 ·rw[he _ (by omega) (by omega),he k (by omega) (by omega)]
 ·rfl
theorem ZeA {st:SortSt}{i j:Nat}{F:Unit->SortSt->Prop}(h:F () (setArr st (mirror (arrOf st) i j ((j-i) / 2)))):wpS M A E s (reverseSlice' i j) F st:=by
 rw[reverseSlice'_eq];exact wpS_modify h
theorem Up.next {xs:Array Keyed}{lo x:Nat}(h:Up rk xs lo x)(hx:1<=x)(hv:¬Vk rk xs (lo+x)<Vk rk xs (lo+x-1)):Up rk xs lo (x+1):=λi j hij hj=>by
 by_cases hjx:j<x
 ·exact h i j hij hjx
 ·have e:j=x:=by omega
  subst e;by_cases hi:i=j
  ·subst hi;exact yO _
  ·have:=h i (j-1) (by omega) (by omega)
   rw[show lo+(j-1)=lo+j-1 by omega]at this;omega
theorem Dn.next {xs:Array Keyed}{lo x:Nat}(h:Dn rk xs lo x)(hx:1<=x)(hv:Vk rk xs (lo+x)<=Vk rk xs (lo+x-1)):Dn rk xs lo (x+1):=λi j hij hj=>by
 by_cases hjx:j<x
 ·exact h i j hij hjx
 ·have e:j=x:=by omega
  subst e;by_cases hi:i=j
  ·subst hi;exact yO _
  ·have:=h i (j-1) (by omega) (by omega)
   rw[show lo+(j-1)=lo+j-1 by omega]at this;omega
theorem Dn.flip {xs:Array Keyed}{lo n:Nat}(h:Dn rk xs lo n)(hn:lo+n<=xs.size):Up rk (mirror xs lo (lo+n) ((lo+n-lo) / 2)) lo n:=λi j hij hj=>by
 rw[Zgy hn,Zgy hn,if_pos (by omega),if_pos (by omega),show lo+(lo+n)-1-(lo+i)=lo+(n-1-i) by omega,show lo+(lo+n)-1-(lo+j)=lo+(n-1-j) by omega];exact h _ _ (by omega) (by omega)
set_option hygiene false in
local macro_rules | `(tactic| walk_at "upTail")=>`(tactic| (
  refine wpS_bind (ZeA ?_);have hT3:=hT2.mir (i:=lo) (j:=lo+m) (by rw[hT2.size];omega) (qm _);have hU3:=hD2.flip (by rw[hT2.size];omega);refine wpS_bind (wpS_mono (wpS_forRange (I:=λx c st'=>c=(none,x)/\TB st0 st' lo/\Up rk (arrOf st') lo x) (Q:=λc st'=>∃m,c=(none,m)/\1<=m/\m<=nrem/\TB st0 st' lo/\Up rk (arrOf st') lo m) ?stepU ?finU ⟨rfl,hT3,hU3⟩) ?postU)
  case postU=>
   rintro c st' ⟨m,rfl,a1,a2,a3,a4⟩;exact wpS_pure (h m st' a3 a1 a2 a4)
  case finU=>
   rintro c st' ⟨rfl,a1,a2⟩;rw[show max m nrem=nrem by omega]at a2⊢;exact⟨nrem,rfl,by omega,qm _,a1,a2⟩
  case stepU=>
   rintro x c st' hax hxn ⟨rfl,a1,a2⟩;dsimp only;refine wpS_bind (U0 C hk hin a1 (by omega) (by omega) ?_);dsimp only;by_cases w:Vk rk (arrOf st') (lo+x)<Vk rk (arrOf st') (lo+x-1)
   ·rw[if_pos (decide_eq_true w)]
    exact wpS_pure ⟨x,rfl,by omega,by omega,a1,a2⟩
   ·rw[if_neg (by simpa using w)]
    exact wpS_pure ⟨rfl,a1,a2.next (by omega) w⟩))
set_option hygiene false in
local macro_rules | `(tactic| walk_at "descT")=>`(tactic| (
  refine wpS_bind (wpS_lift (wpAny_rule ⟨rfl,?_⟩));refine wpS_bind (wpS_mono (wpS_forRange (I:=λx c st'=>∃neq,c=(none,x,neq)/\TB st0 st' lo/\Dn rk (arrOf st') lo x/\neq+1<=x/\(∀k,lo+x-(neq+1)<=k->k<lo+x->Vk rk (arrOf st') k=Vk rk (arrOf st') (lo+x-1)))
   (Q:=λc st'=>∃m neq,c=(none,m,neq)/\1<=m/\m<=nrem/\TB st0 st' lo/\Dn rk (arrOf st') lo m/\neq+1<=m/\(∀k,lo+m-(neq+1)<=k->k<lo+m->Vk rk (arrOf st') k=Vk rk (arrOf st') (lo+m-1))) ?stepD ?finD ⟨0,rfl,hTd,hDd,by omega,λk h1 h2=>by congr 1;omega⟩) ?postD)
  case finD=>
   rintro c st' ⟨neq,rfl,a1,a2,a3,a4⟩;rw[show max (n+1) nrem=nrem by omega]at a2 a3 a4⊢;exact⟨nrem,neq,rfl,by omega,qm _,a1,a2,a3,a4⟩
  case stepD=>
   rintro x c st' hax hxn ⟨neq,rfl,a1,a2,a3,a4⟩;dsimp only;refine wpS_bind (U0 C hk hin a1 (by omega) (by omega) ?_);dsimp only;by_cases w:Vk rk (arrOf st') (lo+x)<Vk rk (arrOf st') (lo+x-1)
   ·rw[if_pos (decide_eq_true w)]
    have up:=a2.next (by omega) (yA w);by_cases hq:neq > 0
    ·rw[if_pos hq]
     refine wpS_bind (ZeA ?_);have hm:=ZbC (xs:=arrOf st') (i:=lo+x-(neq+1)) (j:=lo+x) (by rw[a1.size];omega) a4;exact wpS_pure ⟨0,rfl,a1.mir (by rw[a1.size];omega) (by omega),λi j hij hj=>by
      show Vk rk (mirror _ _ _ _) _<=Vk rk (mirror _ _ _ _) _;rw[hm,hm];exact up i j hij hj,by omega,λk h1 h2=>by congr 1;omega⟩
    ·rw[if_neg hq]
     exact wpS_pure ⟨0,rfl,a1,up,by omega,λk h1 h2=>by congr 1;omega⟩
   ·rw[if_neg (by simpa using w)]
    refine wpS_bind (U0 C hk hin a1 (by omega) (by omega) ?_);dsimp only;by_cases w2:Vk rk (arrOf st') (lo+x-1)<Vk rk (arrOf st') (lo+x)
    ·rw[if_pos (decide_eq_true w2)]
     exact wpS_pure ⟨x,neq,rfl,by omega,by omega,a1,a2,a3,a4⟩
    ·rw[if_neg (by simpa using w2)]
     have eq:Vk rk (arrOf st') (lo+x)=Vk rk (arrOf st') (lo+x-1):=by omega
     refine wpS_pure ⟨neq+1,rfl,a1,a2.next (by omega) (by omega),by omega,λk h1 h2=>?_⟩;rw[show lo+(x+1)-1=lo+x by omega];by_cases hkx:k=lo+x
     ·rw[hkx]
     ·rw[eq];exact a4 k (by omega) (by omega)
  case postD=>
   rintro c stD ⟨m,neq,rfl,b1,b2,hT1,hD1,b3,b4⟩;dsimp only;by_cases hq:neq > 0
   ·rw[if_pos hq]
    refine wpS_bind (ZeA ?_);have hm:=ZbC (xs:=arrOf stD) (i:=lo+m-(neq+1)) (j:=lo+m) (by rw[hT1.size];omega) b4;have hT2:=hT1.mir (i:=lo+m-(neq+1)) (j:=lo+m) (by rw[hT1.size];omega) (by omega);have hD2:Dn rk (arrOf (setArr stD (mirror (arrOf stD) (lo+m-(neq+1)) (lo+m) ((lo+m-(lo+m-(neq+1))) / 2)))) lo m:=λi j hij hj=>by
     show Vk rk (mirror _ _ _ _) _<=Vk rk (mirror _ _ _ _) _;rw[hm,hm];exact hD1 i j hij hj
    generalize setArr stD (mirror (arrOf stD) (lo+m-(neq+1)) (lo+m) ((lo+m-(lo+m-(neq+1))) / 2))=stE at hT2 hD2⊢
    walk_at "upTail"
   ·rw[if_neg hq]
    have hT2:=hT1;have hD2:=hD1
    walk_at "upTail"))
theorem ZjY {st0 st:SortSt}{lo nrem:Nat}{Q:Option Nat->SortSt->Prop}(C:WB M A E s rk κ In)(hk:kindOf st0=κ)(hin:∀x∈(arrOf st0).toList,In x)(hn:lo+nrem<=(arrOf st0).size)(h1:1<=nrem)(hT:TB st0 st lo)
  (h:∀m st',TB st0 st' lo->1<=m->m<=nrem->Up rk (arrOf st') lo m->Q (some m) st'):wpS M A E s (countRun' lo nrem) Q st:=by
 rw[countRun'_eq];refine wpS_bind (wpS_mono (wpS_forRange (I:=λx c st'=>st'=st/\c=(none,x)/\Up rk (arrOf st) lo x)
  (Q:=λc st'=>st'=st/\∃n,c=(none,n)/\1<=n/\n<=nrem/\Up rk (arrOf st) lo n/\(n=nrem∨Vk rk (arrOf st) (lo+n)<Vk rk (arrOf st) (lo+n-1))) ?step ?fin ⟨rfl,rfl,λi j hij hj=>by
   have:i=j:=by omega
   subst this;exact yO _⟩) ?post)
 case fin=>
  rintro c st' ⟨rfl,rfl,a⟩;rw[show max 1 nrem=nrem by omega]at a⊢;exact⟨rfl,nrem,rfl,h1,qm _,a,.inl rfl⟩
 case step=>
  rintro x c st' hax hxn ⟨e0,rfl,a⟩;rw[e0];dsimp only;refine wpS_bind (U0 C hk hin hT (by omega) (by omega) ?_);dsimp only;by_cases w:Vk rk (arrOf st) (lo+x)<Vk rk (arrOf st) (lo+x-1)
  ·rw[if_pos (decide_eq_true w)]
   exact wpS_pure ⟨rfl,x,rfl,hax,by omega,a,.inr w⟩
  ·rw[if_neg (by simpa using w)]
   exact wpS_pure ⟨rfl,rfl,a.next hax w⟩
 case post=>
  rintro c st' ⟨e0,n,rfl,n1,n2,a,hor⟩;rw[e0];dsimp only;by_cases X2:n=nrem
  ·rw[if_pos (by simpa using X2)]
   exact wpS_pure (h n st hT n1 n2 a)
  ·rw[if_neg (by simpa using X2)]
   have hlt:=hor.resolve_left X2;have hn1:n+1<=nrem:=by omega
   by_cases hgt:n > 1
   ·rw[if_pos hgt]
    refine wpS_bind (U0 C hk hin hT (by omega) (by omega) ?_);dsimp only;by_cases rose:Vk rk (arrOf st) lo<Vk rk (arrOf st) (lo+n-1)
    ·rw[if_pos (decide_eq_true rose)]
     exact wpS_pure (h n st hT n1 n2 a)
    ·rw[if_neg (by simpa using rose)]
     refine wpS_bind (ZeA ?_);have hall:∀k,lo<=k->k<lo+n->Vk rk (arrOf st) k=Vk rk (arrOf st) lo:=λk h1 h2=>by
      have a1:=a 0 (k-lo) (by omega) (by omega);have a2:=a (k-lo) (n-1) (by omega) (by omega);rw[qce,show lo+(k-lo)=k by omega]at a1;rw[show lo+(k-lo)=k by omega,show lo+(n-1)=lo+n-1 by omega]at a2;omega
     have hm:=ZbC (xs:=arrOf st) (i:=lo) (j:=lo+n) (by rw[hT.size];omega) hall;have hTd:=hT.mir (i:=lo) (j:=lo+n) (by rw[hT.size];omega) (qm _);have hDd:Dn rk (arrOf (setArr st (mirror (arrOf st) lo (lo+n) ((lo+n-lo) / 2)))) lo (n+1):=λi j hij hj=>by
      show Vk rk (mirror _ _ _ _) _<=Vk rk (mirror _ _ _ _) _;rw[hm,hm];have v1:=hall (lo+n-1) (by omega) (by omega);by_cases hjn:j<n
      ·rw[hall (lo+j) (by omega) (by omega),hall (lo+i) (by omega) (by omega)];exact yO _
      ·have ej:j=n:=by omega
       subst ej;by_cases hi:i=j
       ·subst hi;exact yO _
       ·rw[hall (lo+i) (by omega) (by omega)];omega
     generalize setArr st (mirror (arrOf st) lo (lo+n) ((lo+n-lo) / 2))=stx at hTd hDd⊢
     walk_at "descT"
   ·rw[if_neg hgt]
    have hn0:n=1:=by omega
    have hTd:=hT;have hDd:Dn rk (arrOf st) lo (n+1):=by
     subst hn0;exact Dn.next (λi j hij hj=>by
      have:i=j:=by omega
      subst this;exact yO _) (qm _) (yA hlt)
    walk_at "descT"
end
noncomputable def Pd:Nat->List (Nat×Nat×Nat)->List (List Keyed)->Prop
 | _,[],[]=>True
 | off,x::ps,r::rs=>x.1=off/\x.2.1=r.length/\Pd (off+r.length) ps rs
 | _,_,_=>False
theorem Pd.len:∀{off:Nat} {ps:List (Nat×Nat×Nat)} {rs:List (List Keyed)},Pd off ps rs->ps.length=rs.length
 | _,[],[],_=>rfl
 | _,_::_,_::_,h=>by rw[qB,qB,Pd.len h.2.2]
 | _,[],_::_,h=>h.elim
 | _,_::_,[],h=>h.elim
theorem Pd.push {x:Nat×Nat×Nat}{r:List Keyed}:∀{off:Nat} {ps:List (Nat×Nat×Nat)} {rs:List (List Keyed)},Pd off ps rs->x.1=off+rs.flatten.length->x.2.1=r.length->Pd off (ps ++ [x]) (rs ++ [r])
 | off,[],[],_,h1,h2=>⟨by simpa using h1,h2,trivial⟩
 | off,y::ps,q::rs,h,h1,h2=>by
  refine⟨h.1,h.2.1,Pd.push h.2.2 ?_ h2⟩;rw[h1];simp;omega
 | _,[],_::_,h,_,_=>h.elim
 | _,_::_,[],h,_,_=>h.elim
theorem Pd.modify {pw:Nat}:∀{off:Nat} {ps:List (Nat×Nat×Nat)} {rs:List (List Keyed)} (k:Nat),Pd off ps rs->Pd off (ps.modify k λx=>(x.1,x.2.1,pw)) rs
 | off,[],[],k,h=>by cases k <;> exact h
 | off,y::ps,q::rs,0,h=>⟨h.1,h.2.1,h.2.2⟩
 | off,y::ps,q::rs,k+1,h=>⟨h.1,h.2.1,Pd.modify k h.2.2⟩
 | _,[],_::_,_,h=>h.elim
 | _,_::_,[],_,h=>h.elim
theorem Pd.at:∀{off:Nat} {ps:List (Nat×Nat×Nat)} {rs:List (List Keyed)} (i:Nat),Pd off ps rs->i+1<ps.length->∃rs1 As Bs rs2 p q,rs=rs1++As::Bs::rs2/\ps[i]?=some (off+rs1.flatten.length,As.length,p)/\ps[i+1]?=some (off+rs1.flatten.length+As.length,Bs.length,q)/\∀Ms:List Keyed,Ms.length=As.length+Bs.length->Pd off ((ps.set i (off+rs1.flatten.length,As.length+Bs.length,p)).eraseIdx (i+1)) (rs1++Ms::rs2)
 | off,x::y::ps,a::b::rs,0,h,_=>by
  obtain⟨h1,h2,h3,h4,h5⟩:=h;refine⟨[],a,b,rs,x.2.2,y.2.2,rfl,?_,?_,λMs hm=>⟨by simp,hm.symm,?_⟩⟩
  ·simp[<-h1,<-h2]
  ·simp[<-h3,<-h4]
  ·rw[hm,<-qaX];exact h5
 | off,x::ps,a::rs,i+1,h,hi=>by
  obtain⟨h1,h2,h3⟩:=h;obtain⟨rs1,As,Bs,rs2,p,q,e,e1,e2,k⟩:=Pd.at i h3 (by simpa using hi);refine⟨a::rs1,As,Bs,rs2,p,q,by rw[e];rfl,?_,?_,λMs hm=>?_⟩
  ·simp only[qcr,zN,qG]
   rw[e1,qaX]
  ·simp only[qcr,zN,qG]
   rw[e2,qaX off]
  ·have:=k Ms hm
   simp only[zN,qG,List.set_cons_succ,qcs,qbw];rw[<-qaX];exact⟨h1,h2,this⟩
 | off,[x],a::rs,0,h,hi=>by simp at hi
 | off,x::y::ps,[a],0,h,_=>h.2.2.elim
 | _,[],_,_,_,hi=>by simp at hi
 | _,_::_,[],_,h,_=>h.elim
section
variable {M:Model}{A:xA}{E:xB}{s:Shared}{rk:Keyed->Int}{κ:SortKind}{In:Keyed->Prop}{a₀:List Keyed}
structure SI (rk:Keyed->Int)(κ:SortKind)(a₀:List Keyed)(st:SortSt)(runs:List (List Keyed))(R:List Keyed):Prop where
 e:(arrOf st).toList=runs.flatten++R
 pd:Pd 0 (pendingOf st).toList runs
 ok:∀r∈runs,SL rk r/\0<r.length
 perm:(arrOf st).toList.Perm a₀
 kind:kindOf st=κ
 fail:failedOf st=none
theorem SI.psize {st:SortSt}{runs:List (List Keyed)}{R:List Keyed}(h:SI rk κ a₀ st runs R):(pendingOf st).size=runs.length:=by
 rw[<-h.pd.len,qz]
theorem ZcL {st:SortSt}{runs:List (List Keyed)}{R:List Keyed}{i:Nat}{Q:Bool->SortSt->Prop}(C:WB M A E s rk κ In)(hin:∀x∈a₀,In x)(h:SI rk κ a₀ st runs R)(hi:i+1<(pendingOf st).size)
  (k:∀st' runs',SI rk κ a₀ st' runs' R->runs'.length+1=runs.length->runs'.flatten.length=runs.flatten.length->Q true st'):wpS M A E s (mergeAt' i) Q st:=by
 obtain⟨rs1,As,Bs,rs2,p,q,e,e1,e2,kk⟩:=Pd.at i h.pd (by simpa using hi);rw[qac]at e1 e2 kk;have oA:=h.ok As (by rw[e];simp);have oB:=h.ok Bs (by rw[e];simp);refine Zgx (P:=rs1.flatten) (As:=As) (Bs:=Bs) (R:=rs2.flatten++R) C h.kind h.fail (λx hx=>hin x (h.perm.mem_iff.mp hx)) (by rw[<-qy];exact e1) (by rw[<-qy];exact e2) (by rw[h.e,e];simp) oA.1 oB.1 oA.2 oB.2 λst' Ms h1 h2 h3 h4 h5 h6=>?_;have hml:Ms.length=As.length+Bs.length:=by rw[h2.length_eq,qG]
 refine k st' (rs1++Ms::rs2) ⟨by rw[h1];simp,?_,λr hr=>?_,?_,h4,h5⟩ ?_ ?_
 ·rw[h6]
  have:=kk Ms hml;simpa using this
 ·rcases qY.mp hr with hr | hr
  ·exact h.ok r (by rw[e];simp[hr])
  ·rcases qq.mp hr with rfl | hr
   ·exact⟨h3,by rw[hml];omega⟩
   ·exact h.ok r (by rw[e];simp[hr])
 ·refine qa7.trans ?_ h.perm
  rw[h1,h.e,e];have:(Ms++(rs2.flatten++R)).Perm (As++Bs++(rs2.flatten++R)):=h2.append_right _;have:=this.append_left rs1.flatten;simpa using this
 ·rw[e];simp;omega
 ·rw[e];simp[hml];omega
theorem Zmb {arr:Array Keyed}{F R:List Keyed}{n:Nat}(e:arr.toList=F++R)(h:Up rk arr F.length n)(hn:n<=R.length):SL rk (R.take n):=by
 have at':∀{j:Nat} (hj:j<R.length),Vk rk arr (F.length+j)=rk R[j]:=λ{j} hj=>by
  unfold Vk;rw[<-qy,e,yg (by omega),show F.length+j-F.length=j by omega,qD hj]
 refine zI.mpr λi j hi hj hij=>?_;rw[qV]at hi hj;have:=h i j (by omega) (by omega);rw[at' (by omega),at' (by omega)]at this;rw[List.getElem_take,List.getElem_take];exact this
theorem SI.push {st:SortSt}{runs:List (List Keyed)}{R:List Keyed}{n:Nat}(h:SI rk κ a₀ st runs R)(hs:SL rk (R.take n))(h1:1<=n)(hn:n<=R.length):SI rk κ a₀ (setPending st ((pendingOf st).push (runs.flatten.length,n,0))) (runs ++ [R.take n]) (R.drop n):=by
 refine⟨?_,?_,λr hr=>?_,h.perm,h.kind,h.fail⟩
 ·show(arrOf st).toList=_
  rw[h.e];simp
 ·show Pd 0 ((pendingOf st).push (runs.flatten.length,n,0)).toList _
  rw[zf];exact h.pd.push (by simp) (by rw[qV];show n=_;omega)
 ·rcases qY.mp hr with hr | hr
  ·exact h.ok r hr
  ·rw[qH.mp hr]
   exact⟨hs,by rw[qV];omega⟩
theorem SI.power {st:SortSt}{runs:List (List Keyed)}{R:List Keyed}{k pw:Nat}(h:SI rk κ a₀ st runs R):SI rk κ a₀ (setPending st ((pendingOf st).modify k λx=>(x.1,x.2.1,pw))) runs R:=by
 refine⟨h.e,?_,h.ok,h.perm,h.kind,h.fail⟩;show Pd 0 ((pendingOf st).modify k λx=>(x.1,x.2.1,pw)).toList _;rw[Array.toList_modify];exact h.pd.modify k
theorem SI.fresh {st st':SortSt}{runs:List (List Keyed)}{R:List Keyed}(h:SI rk κ a₀ st runs R)(t:TB st st' runs.flatten.length):SI rk κ a₀ st' runs ((arrOf st').toList.drop runs.flatten.length):=by
 have ep:(arrOf st').toList.take runs.flatten.length=runs.flatten:=by
  apply qak;intro i;by_cases hi:i<runs.flatten.length
  ·rw[zL hi,qy,t.pre i hi,<-qy,h.e,zw hi]
  ·rw[ya (by rw[qV];omega),ya (by omega)]
 refine⟨?_,by rw[t.pend];exact h.pd,h.ok,t.perm.trans h.perm,t.kind.trans h.kind,t.fail.trans h.fail⟩
 conv=>lhs;rw[<-zh runs.flatten.length (arrOf st').toList]
 rw[ep]
theorem SI.le {st:SortSt}{runs:List (List Keyed)}{R:List Keyed}(h:SI rk κ a₀ st runs R):runs.length<=runs.flatten.length:=by
 have:∀rs:List (List Keyed),(∀r∈rs,SL rk r/\0<r.length)->rs.length<=rs.flatten.length:=by
  intro rs
  induction rs with
  | nil=>intro _;simp
  | cons r rs ih=>
   intro hr;have h1:=ih λq hq=>hr q (by simp[hq]);have h2:=(hr r (by simp)).2;simp only[qB,zN,qG];omega
 exact this runs h.ok
end
section
variable {M:Model}{A:xA}{E:xB}{s:Shared}{rk:Keyed->Int}{κ:SortKind}{In:Keyed->Prop}{a₀:List Keyed}
set_option hygiene false in
local macro_rules | `(tactic| walk_at "runEnd")=>`(tactic| (
  have yes:∀st4 runs4,SI rk κ a₀ st4 runs4 R3->runs4.flatten.length=runs.flatten.length->∃lo' runs' R',((none:Option PUnit),runs.flatten.length+nn)=(none,lo')/\SI rk κ a₀ (setPending st4 ((pendingOf st4).push (runs.flatten.length,nn,0))) runs' R'/\runs'.flatten.length=lo'/\x+1<=lo'/\lo'<=(arrOf st).size:=λst4 runs4 h4 e4=>by
   have hp4:=h4.push hS3 n1 n2;rw[e4]at hp4;refine⟨_,_,_,rfl,hp4,?_,by omega,by omega⟩;simp only[List.flatten_append,qG,zN,List.flatten_nil,zq,qV];omega
  refine wpS_bind (wpS_get ?_);split
  ·refine wpS_bind (wpS_mono (wpS_forRange (I:=λy c st4=>c=(none,())/\∃runs4,SI rk κ a₀ st4 runs4 R3/\runs4.flatten.length=runs.flatten.length)
    (Q:=λc st4=>c=(none,())/\∃runs4,SI rk κ a₀ st4 runs4 R3/\runs4.flatten.length=runs.flatten.length) ?stepM ?finM ⟨rfl,runs,h3,rfl⟩) ?postM)
   case finM=>exact λc st4 z=>z
   case postM=>
    rintro c st4 ⟨rfl,runs4,h4,e4⟩;dsimp only;refine wpS_bind (wpS_modify (wpS_bind (wpS_modify (wpS_pure ?_))));exact yes _ runs4 h4.power e4
   case stepM=>
    rintro y c st4 _ hy ⟨rfl,runs4,h4,e4⟩
    try dsimp only
    refine wpS_bind (wpS_get ?_);by_cases g0:(pendingOf st4).size > 1
    ·rw[if_pos g0]
     split
     ·split
      ·exact wpS_pure ⟨rfl,runs4,h4,e4⟩
      ·refine wpS_bind (ZcL C hin h4 (by omega) λst5 runs5 h5 l5 e5=>?_)
       simp only[qaj,qQ,if_false];exact wpS_pure ⟨rfl,runs5,h5,e5.trans e4⟩
     ·exact wpS_pure ⟨rfl,runs4,h4,e4⟩
    ·rw[if_neg g0]
     exact wpS_pure ⟨rfl,runs4,h4,e4⟩
  ·refine wpS_bind (wpS_modify (wpS_pure ?_))
   exact yes _ runs h3 rfl))
theorem Zfu {st:SortSt}{Q:Unit->SortSt->Prop}(C:WB M A E s rk κ In)(hin:∀x∈a₀,In x)(hp:(arrOf st).toList.Perm a₀)(hk:kindOf st=κ)(hf:failedOf st=none)(hpe:pendingOf st = #[])
  (k:∀st',(arrOf st').toList.Perm a₀->SL rk (arrOf st').toList->failedOf st'=none->Q () st'):wpS M A E s sortRuns' Q st:=by
 rw[sortRuns'_eq];refine wpS_bind (wpS_get ?_);dsimp only;have hsz:∀{st':SortSt} {runs:List (List Keyed)} {R:List Keyed},SI rk κ a₀ st' runs R->(arrOf st').size=(arrOf st).size:=λ{st' runs R} h=>by
  have h1:=h.perm.length_eq;have h2:=hp.length_eq;simp only[qz]at h1 h2;omega
 have S0:SI rk κ a₀ st [] (arrOf st).toList:=⟨by simp,by rw[hpe];trivial,λr hr=>by simp at hr,hp,hk,hf⟩;generalize minRun' (arrOf st).size (arrOf st).size 0=mr;refine wpS_bind (wpS_mono (wpS_forRange (I:=λx c st'=>∃lo runs R,c=(none,lo)/\SI rk κ a₀ st' runs R/\runs.flatten.length=lo/\x<=lo/\lo<=(arrOf st).size)
  (Q:=λc st'=>∃runs R,c=(none,(arrOf st).size)/\SI rk κ a₀ st' runs R/\runs.flatten.length=(arrOf st).size) ?step ?fin ⟨0,[],_,rfl,S0,rfl,qm _,zy _⟩) ?post)
 case fin=>
  rintro c st' ⟨lo,runs,R,rfl,h,h1,h2,h3⟩;have:lo=(arrOf st).size:=by omega
  subst this;exact⟨runs,R,rfl,h,h1⟩
 case step=>
  rintro x c jT _ hx ⟨lo,runs,R,rfl,h,h1,h2,h3⟩;dsimp only;by_cases c0:lo≥(arrOf st).size
  ·rw[if_pos c0]
   have:lo=(arrOf st).size:=by omega
   subst this;exact wpS_pure ⟨runs,R,rfl,h,h1⟩
  ·rw[if_neg c0]
   have hs1:=hsz h;have hin1:∀x∈(arrOf jT).toList,In x:=λx hx=>hin x (h.perm.mem_iff.mp hx);refine wpS_bind (ZjY C h.kind hin1 (by omega) (by omega) (TB.refl jT lo) λm jO t2 m1 m2 u2=>?_);dsimp only;subst h1;have hRl:∀{st3:SortSt},TB jT st3 runs.flatten.length->((arrOf st3).toList.drop runs.flatten.length).length=(arrOf st).size-runs.flatten.length:=λ{st3} t=>by
    rw[zS,qz,t.size,hs1]
   by_cases cm:m<mr
   ·rw[if_pos cm]
    refine wpS_bind (wpS_lift (wpAny_rule ⟨rfl,?_⟩));refine wpS_bind (Zis C h.kind hin1 (by omega) (by omega) t2 u2 λst3 t3 u3=>?_);simp only[qaj,qQ,if_false];have h3:=h.fresh t3;have hl3:=hRl t3;have n2:min ((arrOf st).size-runs.flatten.length) mr<=((arrOf st3).toList.drop runs.flatten.length).length:=by omega
    have hS3:=Zmb h3.e u3 n2;have n1:1<=min ((arrOf st).size-runs.flatten.length) mr:=by omega
    generalize (arrOf st3).toList.drop runs.flatten.length=R3 at h3 hl3 n2 hS3;generalize min ((arrOf st).size-runs.flatten.length) mr=nn at n1 n2 hS3⊢
    walk_at "runEnd"
   ·rw[if_neg cm]
    have h3:=h.fresh t2;have hl3:=hRl t2;have n2:m<=((arrOf jO).toList.drop runs.flatten.length).length:=by omega
    have hS3:=Zmb h3.e u2 n2;have n1:=m1;generalize (arrOf jO).toList.drop runs.flatten.length=R3 at h3 hl3 n2 hS3;generalize m=nn at n1 n2 hS3⊢
    walk_at "runEnd"
 case post=>
  rintro c jT ⟨runs,R,rfl,h,h1⟩;dsimp only;refine wpS_bind (wpS_mono (wpS_forRange (I:=λy c st4=>c=(none,())/\∃runs4,SI rk κ a₀ st4 runs4 R/\runs4.flatten.length=(arrOf st).size/\(runs4.length<=1∨runs4.length+y<=(arrOf st).size))
   (Q:=λc st4=>c=(none,())/\∃runs4,SI rk κ a₀ st4 runs4 R/\runs4.flatten.length=(arrOf st).size/\runs4.length<=1) ?stepF ?finF ⟨rfl,runs,h,h1,.inr (by have:=h.le;omega)⟩) ?postF)
  case finF=>
   rintro c st4 ⟨rfl,runs4,h4,e4,l4⟩;exact⟨rfl,runs4,h4,e4,by omega⟩
  case postF=>
   rintro c st4 ⟨rfl,runs4,h4,e4,l4⟩;dsimp only;refine wpS_pure (k st4 h4.perm ?_ h4.fail);have hs4:=hsz h4;have hl:=congrArg qbn h4.e;rw[qG,qz]at hl;have hR:R=[]:=zQ.mp (by omega);rw[h4.e,hR,zq]
   cases runs4 with
   | nil=>exact zV
   | cons r rs=>
    have:rs=[]:=by simpa using l4
    subst this;have:=(h4.ok r (by simp)).1;simpa using this
  case stepF=>
   rintro y c st4 _ hy ⟨rfl,runs4,h4,e4,l4⟩;have ps:=h4.psize
   try dsimp only
   refine wpS_bind (wpS_get ?_);by_cases g0:(pendingOf st4).size<=1
   ·rw[if_pos g0]
    exact wpS_pure ⟨rfl,runs4,h4,e4,by omega⟩
   ·rw[if_neg g0]
    refine wpS_bind (ZcL C hin h4 ?_ λst5 runs5 h5 l5 e5=>?_)
    ·repeat' split
     all_goals omega
    ·simp only[qaj,qQ,if_false]
     exact wpS_pure ⟨rfl,runs5,h5,e5.trans e4,by omega⟩
end
open L2 TS
theorem Zfv:∀{xs:List Value} {a b:List Int},IntsAre xs a->IntsAre xs b->a=b
 | _,_,_,.nil,.nil=>rfl
 | _,_,_,.cons n t h,k=>by
  cases k with
  | cons _ _ k=>rw[Zfv h k]
theorem Zlv {h:Heap}{v:Value}{a b:List Int}(x:Yt h v a)(y:Yt h v b):a=b:=by
 obtain⟨p,xs,rfl,⟨o,h1,h2,n,h3⟩,i1⟩:=x;obtain⟨q,ys,e,⟨o',k1,k2,m,k3⟩,i2⟩:=y
 cases e
 rw[h1]at k1;cases k1;rw[h3]at k3;injection k3 with e1 e2;have:xs=ys:=by simpa using congrArg qc7 e1
 subst this;exact Zfv i1 i2
open Classical in
noncomputable def VU (h:Heap)(v:Value):List Int:=if x:∃ns,Yt h v ns then x.choose else []
theorem VI {h:Heap}{v:Value}{ns:List Int}(x:Yt h v ns):VU h v=ns:=by
 have hx:∃ns,Yt h v ns:=⟨ns,x⟩;unfold VU;rw[dif_pos hx];exact Zlv hx.choose_spec x
noncomputable def Jp (jI:List (List Int))(h:Heap)(p:Keyed):Int:=((jI.filter λm=>Yp m (VU h p.1)).length:Nat)
theorem Zhn {jI:List (List Int)}{a b:List Int}(ha:a∈jI)(h:Yp a b=true):(jI.filter λm=>Yp m a).length<(jI.filter λm=>Yp m b).length:=by
 have sub:∀(l:List (List Int)),(l.filter λm=>Yp m a).length<=(l.filter λm=>Yp m b).length/\(a∈l->(l.filter λm=>Yp m a).length<(l.filter λm=>Yp m b).length):=by
  intro l
  induction l with
  | nil=>exact⟨qm _,λz=>by simp at z⟩
  | cons c l ih=>
   obtain⟨i1,i2⟩:=ih;have step:Yp c a=true->Yp c b=true:=λz=>Zci _ _ _ z h;constructor
   ·cases q:Yp c a with
    | true=>simp only[zx,q,step q,if_true,qB];omega
    | false=>
     simp only[zx,q,qQ,if_false];split
     ·simp only[qB];omega
     ·exact i1
   ·intro z
    rcases qq.mp z with rfl | z
    ·simp only[zx,ZcE,qQ,if_false,h,if_true,qB];omega
    ·have:=i2 z
     cases q:Yp c a with
     | true=>simp only[zx,q,step q,if_true,qB];omega
     | false=>
      simp only[zx,q,qQ,if_false];split
      ·simp only[qB];omega
      ·exact this
 exact(sub jI).2 ha
theorem Zfw {jI:List (List Int)}{h:Heap}{x y:Keyed}{a b:List Int}(hx:Yt h x.1 a)(hy:Yt h y.1 b)(ha:a∈jI)(hb:b∈jI):decide (Jp jI h x<Jp jI h y)=Yp a b:=by
 unfold Jp;rw[VI hx,VI hy]
 cases q:Yp a b with
 | true=>
  have:=Zhn ha q;exact decide_eq_true (by omega)
 | false=>
  refine decide_eq_false ?_;by_cases e:a=b
  ·subst e;omega
  ·have:=Zhn hb (JU _ _ e q)
   omega
section
variable {prog:xz}{w:World}{A:xA}{E:xB}{s:Shared}
theorem cmpT (jI:List (List Int)):WB (xw prog w) A E s (Jp jI s.heap) (tuples' true) (λp=>∃ns∈jI,Yt s.heap p.1 ns):=λx y ⟨a,ha,hx⟩ ⟨b,hb,hy⟩ st F hk q=>by
 rw[lt'_eq];refine wpS_bind (wpS_get ?_);rw[hk];refine wpS_bind (wpS_lift (wpAny_attempt (ZnS hx hy ⟨rfl,?_⟩)));refine wpS_pure ?_;rw[Zfw hx hy ha hb]at q;exact q
theorem UV {h:Heap}:∀{vs:List Value} {jI:List (List Int)},Paired (Yt h) vs jI->vs.map (VU h)=jI/\∀v∈vs,∃ns∈jI,Yt h v ns
 | [],[],_=>⟨rfl,λv hv=>by simp at hv⟩
 | v::vs,ns::jI,h=>by
  cases h with
  | cons h1 h2=>
   obtain⟨a1,a2⟩:=UV h2;refine⟨by rw[qX,a1,VI h1],λu hu=>?_⟩;rcases qq.mp hu with rfl | hu
   ·exact⟨ns,by simp,h1⟩
   ·obtain⟨m,hm,t⟩:=a2 u hu
    exact⟨m,by simp[hm],t⟩
theorem ZbD {h:Heap}:∀{vs:List Value},(∀v∈vs,∃ns,Yt h v ns)->Paired (Yt h) vs (vs.map (VU h))
 | [],_=>.nil
 | v::vs,hv=>by
  obtain⟨ns,t⟩:=hv v (by simp);refine .cons (by rw[VI t];exact t) (ZbD λu hu=>hv u (by simp[hu]))
theorem Zbk {h:Heap}{vs:List Value}{jI:List (List Int)}(ht:Paired (Yt h) vs jI){st:SortSt}(hp:(arrOf st).toList.Perm (pairsOf vs).toList)(hs:SL (Jp jI h) (arrOf st).toList) :
  Paired (Yt h) ((arrOf st).map (·.2)).toList (Xc jI)/\((arrOf st).map (·.2)).toList.Perm vs:=by
 obtain⟨p1,p2⟩:=UV ht;have same:∀p∈(arrOf st).toList,p.1=p.2/\p.1∈vs:=λp hp'=>by
  have:=hp.mem_iff.mp hp';rw[pairsOf_toList]at this;obtain⟨i,hi⟩:=zC.mp this;rw[ym]at hi;obtain⟨e1,e2⟩:=hi;rw[e1]at e2;exact⟨zp e2,zu e1⟩
 have em:((arrOf st).map (·.2)).toList=(arrOf st).toList.map (·.1):=by
  rw[Array.toList_map];exact zD λp hp'=>((same p hp').1).symm
 have pv:((arrOf st).toList.map (·.1)).Perm vs:=by
  have:=hp.map (·.1);rw[pairsOf_toList,List.map_fst_zip (qm _)]at this;exact this
 rw[em];refine⟨?_,pv⟩;have key:((arrOf st).toList.map (·.1)).map (VU h)=Xc jI:=by
  refine Za8 ?_ ?_
  ·rw[<-p1];exact pv.map _
  ·rw[qM]
   refine zW.mpr (qa9 (λ{x y} hx hy hxy=>?_) hs);obtain⟨a,ha,ta⟩:=p2 x.1 (same x hx).2;obtain⟨b,hb,tb⟩:=p2 y.1 (same y hy).2;have:=Zfw tb ta hb ha;show Xh (VU h x.1) (VU h y.1)=true;rw[VI ta,VI tb];unfold Xh;rw[<-this,decide_eq_false (by omega)];rfl
 rw[<-key];exact ZbD λv hv=>by
  obtain⟨ns,_,t⟩:=p2 v (pv.mem_iff.mp hv);exact⟨ns,t⟩
theorem ZjZ {α:Type}{R:α->α->Prop}:∀{l:List α},l.length<2->l.Pairwise R
 | [],_=>zV
 | [_],_=>yd _ _
 | _::_::_,h=>by simp at h;omega
theorem ZeB {a:Addr}{vs:List Value}{jI:List (List Int)}{n:Nat}{P:PySem.Fin->Shared->Prop}(ho:s.heap.get? a=some (seqObj "list" vs.toArray n))(ht:Paired (Yt s.heap) vs jI)(hz:vs.length<=100000)(hne:2<=vs.length->∀ns∈jI,ns≠[])
  (h:∀out:Array Value,Paired (Yt s.heap) out.toList (Xc jI)->out.toList.Perm vs->P (.done (.ret .none)) { s with heap:=sortedHeap s.heap a vs out }) :
  xf (xw prog w) A (Builtin.«list.sort» ⟨[.ref a],[]⟩) P E s:=by
 have jM:vs.length=jI.length:=qaA ht;rw[list_sort_plain];have ha:a<s.heap.objs.size:=qJ ho;have hvz:vs.toArray.size<=xg:=by rw[qL,sizeLine_eq];omega
 refine xa (listItems_at ho rfl ?_);refine xa (listUpdate_at ho rfl ?_ (hsz:=hvz));obtain⟨e1,ho1⟩:∃e1,(s.heap.update a (zU λ_=>#[])).get? a=some (seqObj "list" #[] e1):=⟨_,get?_update_seq ho (λ_=>#[])⟩;refine xa (seqEpoch_at ho1 rfl ?_);refine xa (wpAny_newTuple ?_ (by simpa using hvz));refine xa (wpAny_newList ?_);refine xt ?_;have ho6:(((s.heap.update a (zU λ_=>#[])).push (seqObj "tuple" vs.toArray 0)).push (seqObj "list" #[] 0)).get? a=some (seqObj "list" #[] e1):=qf _ (qf _ ho1);have kk:∀c o,c≠a->s.heap.get? c=some o->(((s.heap.update a (zU λ_=>#[])).push (seqObj "tuple" vs.toArray 0)).push (seqObj "list" #[] 0)).get? c=some o:=λc o hc e=>qf _ (qf _ (by rw[Heap.get?_update_ne _ _ _ _ hc];exact e));have ht2:Paired (Yt (((s.heap.update a (zU λ_=>#[])).push (seqObj "tuple" vs.toArray 0)).push (seqObj "list" #[] 0))) vs jI:=L2.Paired.mapP ht λv ns x=>x.at kk ⟨_,ho,rfl⟩;have back:∀out:Array Value,Paired (Yt (((s.heap.update a (zU λ_=>#[])).push (seqObj "tuple" vs.toArray 0)).push (seqObj "list" #[] 0))) out.toList (Xc jI)->out.toList.Perm vs->Paired (Yt s.heap) out.toList (Xc jI):=λout hpd hpv=>by
  obtain⟨q1,q2⟩:=UV ht;obtain⟨r1,r2⟩:=UV hpd;have z:=ZbD (h:=s.heap) (vs:=out.toList) λv hv=>by
   obtain⟨ns,_,t⟩:=q2 v (hpv.mem_iff.mp hv);exact⟨ns,t⟩
  have e:out.toList.map (VU s.heap)=Xc jI:=by
   rw[<-r1];refine zD λv hv=>?_;obtain⟨ns,_,t⟩:=q2 v (hpv.mem_iff.mp hv);rw[VI t,VI (t.at kk ⟨_,ho,rfl⟩)]
  rw[e]at z;exact z
 show xf (xw prog w) A _ P E { s with heap:=((s.heap.update a (zU λ_=>#[])).push (seqObj "tuple" vs.toArray 0)).push (seqObj "list" #[] 0) };dsimp only;have hsz:vs.toArray.size=vs.length:=by simp
 by_cases h2:vs.toArray.size<2
 ·rw[if_pos h2,if_pos h2];refine xa (xb ?_);rw[StateT.run_pure]
  refine xa (xb ?_);dsimp only;refine xa (seqEpoch_at ho6 rfl ?_);refine xa (listUpdate_at ho6 rfl ?_ (hsz2:=by rw[Array.size_map];show(pairsOf vs).size<=_;rw[pairsOf_size,sizeLine_eq];omega));simp only[bne_self_eq_false,qQ,if_false];have sp:=Zbk ht2 (st:=SortSt.mk' general' (vs.toArray.zip vs.toArray) #[] 7 none) (.refl _) (by
   show((pairsOf vs).toList).Pairwise _;have hl:(pairsOf vs).toList.length<2:=by rw[qz,pairsOf_size];omega
   exact ZjZ hl)
  exact xb (h _ (back _ sp.1 sp.2) sp.2)
 ·rw[if_neg h2,if_neg h2]
  have h2':2<=vs.length:=by omega
  refine xa (Zm2 (s:={ s with heap:=((s.heap.update a (zU λ_=>#[])).push (seqObj "tuple" vs.toArray 0)).push (seqObj "list" #[] 0) }) ht2 (hne h2') (by omega) ?_);refine xa (xc (Zfu (s:={ s with heap:=((s.heap.update a (zU λ_=>#[])).push (seqObj "tuple" vs.toArray 0)).push (seqObj "list" #[] 0) }) (a₀:=(pairsOf vs).toList) (st:=SortSt.mk' (tuples' true) (vs.toArray.zip vs.toArray) #[] 7 none)
   (Q:=λ_ st'=>(arrOf st').toList.Perm (pairsOf vs).toList/\SL (Jp jI _) (arrOf st').toList/\failedOf st'=none) (cmpT jI) (λx hx=>?_) (.refl _) rfl rfl rfl λst' a1 a2 a3=>⟨a1,a2,a3⟩) ?_ λ_ _ e=>e)
  ·rw[pairsOf_toList]at hx
   exact(UV ht2).2 x.1 (qaE hx).1
  ·rintro⟨⟨⟩,st'⟩ s' ⟨rfl,hp,hs,hf⟩
   dsimp only;have sp:=Zbk ht2 hp hs;refine xa (seqEpoch_at ho6 rfl ?_);refine xa (listUpdate_at ho6 rfl ?_ (hsz2:=by
    have:=sp.2.length_eq;rw[qz]at this;rw[this,sizeLine_eq];omega))
   rw[hf];simp only[bne_self_eq_false,qQ,if_false];exact xb (h _ (back _ sp.1 sp.2) sp.2)
end
end TT
namespace TF
open L2
section
variable {X:Cx}{G:Gh}
end
end TF
namespace L2
section
variable {X:Cx}{tg:Expr}
end
end L2
namespace TF
open L2
section
variable {X:Cx}{G:Gh}{ob own:List Nat}{fr:Bool}
end
open Sem (wp)
section
variable {prog:xz}{w:World}{A:xA}{E:xB}{s:Shared}
end
variable {X:Cx}{G:Gh}{f:Zb->M D}
end TF
namespace HT
noncomputable def XY (xs:Array Nat):Prop:=xs.toList.Pairwise (· < ·)
theorem XY.lt {xs:Array Nat}(h:XY xs){i k:Nat}(hk:k<xs.size)(hi:i<k):xs.getD i 0<xs.getD k 0:=by
 have:=zI.mp h i k (by simp;omega) (by simpa using hk) hi;simp only[Array.getElem_toList]at this;rw[qP,qP,qd (by omega),qd hk];exact this
theorem ZcM {xs:Array Nat}(h:XY xs)(j:Nat):∀(f lo hi:Nat),hi-lo<=f->lo<=hi->hi<=xs.size->(∀i<lo,xs.getD i 0<j)->(∀i,hi<=i->i<xs.size->j<=xs.getD i 0)->
  (∀i<qaJ xs j f lo hi,xs.getD i 0<j)/\(∀i,qaJ xs j f lo hi<=i->i<xs.size->j<=xs.getD i 0)/\qaJ xs j f lo hi<=xs.size
 | 0,lo,hi,e1,e2,e3,a,b=>by
  have:lo=hi:=by omega
  subst this;unfold qaJ;exact⟨a,b,e3⟩
 | f+1,lo,hi,e1,e2,e3,a,b=>by
  unfold qaJ;by_cases c:lo<hi
  ·rw[if_pos c]
   dsimp only;have hm:(lo+hi) / 2<xs.size:=by omega
   have eg:xs.getD ((lo+hi) / 2) j=xs.getD ((lo+hi) / 2) 0:=by
    rw[qP,qP,qd hm];rfl
   rw[eg];by_cases d:xs.getD ((lo+hi) / 2) 0<j
   ·rw[if_pos d]
    refine ZcM h j f _ hi (by omega) (by omega) e3 (λi hi'=>?_) b;by_cases z:i<(lo+hi) / 2
    ·exact qaa (h.lt hm z) d
    ·have:i=(lo+hi) / 2:=by omega
     rw[this];exact d
   ·rw[if_neg d]
    refine ZcM h j f lo _ (by omega) (by omega) (by omega) a λi hi' hs=>?_;by_cases z:i=(lo+hi) / 2
    ·rw[z];omega
    ·have:=h.lt hs (show(lo+hi) / 2<i by omega)
     omega
  ·rw[if_neg c]
   have:lo=hi:=by omega
   subst this;exact⟨a,b,e3⟩
theorem JE {xs:Array Nat}(h:XY xs)(j:Nat):(∀i<qA xs j,xs.getD i 0<j)/\(∀i,qA xs j<=i->i<xs.size->j<=xs.getD i 0)/\qA xs j<=xs.size:=
 ZcM h j xs.size 0 xs.size (by omega) (zy _) (qm _) (λi hi=>by omega) λi h1 h2=>by omega
theorem Zgz {xs:Array Nat}(h:XY xs){i:Nat}(hi:i<xs.size):qA xs (xs.getD i 0+1)=i+1:=by
 obtain⟨a,b,c⟩:=JE h (xs.getD i 0+1);have h1:¬qA xs (xs.getD i 0+1)<=i:=λz=>by
  have:=b i z hi;omega
 by_cases h2:i+1<qA xs (xs.getD i 0+1)
 ·have:=a (i+1) h2
  have:=h.lt (show i+1<xs.size by omega) (qat i);omega
 ·omega
theorem ZgA {xs:Array Nat}(h:XY xs):qA xs 0=0:=by
 obtain⟨a,b,c⟩:=JE h 0;by_cases z:0<qA xs 0
 ·have:=a 0 z;omega
 ·omega
theorem Zfx {xs:Array Nat}(h:XY xs){j:Nat}(hj:¬xs[qA xs j]?=some j):XY (qaK xs (qA xs j) j):=by
 obtain⟨a,b,c⟩:=JE h j;unfold XY;rw[qaw];have gl:∀{i:Nat} {x:Nat},xs.toList[i]?=some x->i<xs.size/\xs.getD i 0=x:=λ{i x} e=>by
  rw[qy]at e;obtain⟨l,e2⟩:=zE.mp e;exact⟨l,by rw[qP,e];rfl⟩
 have m1:∀x∈xs.toList.take (qA xs j),x<j:=λx hx=>by
  obtain⟨i,hi⟩:=zC.mp hx;have hl:=(qu.mp hi).1;rw[qV]at hl;rw[zL (by omega)]at hi;have:=a i (by omega);rw[(gl hi).2]at this;exact this
 have m2:∀x∈xs.toList.drop (qA xs j),j<x:=λx hx=>by
  obtain⟨i,hi⟩:=zC.mp hx;rw[zR]at hi;obtain⟨g1,g2⟩:=gl hi;have h1:=b _ (qaT _ i) g1;rw[g2]at h1;by_cases e:j=x
  ·exfalso
   subst e;by_cases z:i=0
   ·subst z
    rw[qce,qy]at hi;exact hj hi
   ·have h2:=h.lt g1 (show qA xs j<qA xs j+i by omega)
    have h3:=b _ (qm _) (by omega);omega
  ·omega
 refine qU.mpr ⟨h.sublist (zF _ _),yJ.mpr ⟨m2,h.sublist (List.drop_sublist _ _)⟩,λx hx y hy=>?_⟩;rcases qq.mp hy with rfl | hy
 ·exact m1 x hx
 ·exact qaa (m1 x hx) (m2 y hy)
theorem Zit {t:SetTable}{j:Nat}(h:t.place[qA t.place j]?=some j):t.slot j=.live (qA t.place j):=by
 unfold SetTable.slot;dsimp only;rw[if_pos (by rw[h];simp)]
theorem Zam (g:Nat->Option Nat):∀l:List Nat,(l.filterMap λj=>(g j).map (j,·)).map (·.1)=l.filter λj=>(g j).isSome
 | []=>rfl
 | a::l=>by
  rw[yy]
  cases e:g a with
  | none=>simp[e,Zam g l]
  | some x=>simp[e,Zam g l]
theorem Ziu {m f v:Nat}{l p:Bool}{hs:Array Int}{r:SetTable×Array Nat}(h:qbt m f v l p hs=some r):r.1.led=l/\XY r.1.place:=by
 unfold qbt at h
 cases e:zG m hs with
 | none=>rw[e]at h;cases h
 | some ow=>
  rw[e]at h
  cases h
  refine⟨rfl,?_⟩;show((((qp (m+1)).filterMap λj=>(ow.getD j none).map (j,·)).map (·.1)).toArray.toList).Pairwise (· < ·);rw[yz,Zam];exact qcz.sublist zT
noncomputable def Yr (w:World):Bool:=w.params.followText "set-order"
noncomputable def Good (w:World)(t:SetTable):Prop:=(Yr w=true∨t.led=true)/\XY t.place
section
variable {prog:xz}{w:World}
variable (prog w) in
variable {A:xA}{E:xB}{s:Shared}
theorem Zm5 (a:Value){Q₁:xB}(h:Q₁ (.ref s.heap.objs.size) { s with heap:=s.heap.push (YQ (!Yr w)) }) :
  xo (xw prog w) A (.call (.builtin "set.__new__") ⟨[.type "set",a],[]⟩) (wants Q₁ E) s:=by
 apply codeAny_of_tree;show xf _ A.in1 (do
  checkBuiltinCall "set.__new__" ⟨[.type "set",a],[]⟩
  again (.builtin "set.__new__" ⟨[.type "set",a],[]⟩)) _ _ s
 refine xa (wpAny_of_eq (PySem.F.newCall_set_1 a) (xb ⟨plainId_quiet qcF _,xm PySem.F.entry_set_new ?_⟩));rw[yr qcF _];unfold Builtin.«set.__new__»;unfold Builtin.Frozenset.newClass;have s1:=sub_set_self;obtain⟨hp,g,d,tk,os⟩:=s;dsimp only
 wp_walk
 refine wpAny_askSetting (xb ?_);dsimp only;simp only[newObj];refine xa (wpAny_alloc (xb (xb ?_)));exact h
end
namespace FS
theorem entry_set_iter:entryFor table "set.__iter__" = some Builtin.«frozenset.__iter__»:=
 entryFor_alias (id':="frozenset.__iter__") (by kernel_rfl) rfl (by decide +kernel) (by kernel_rfl)
theorem slot_next:Slot "set_iterator" "__next__" "set_iterator.__next__":=
 .of (owner:="set_iterator") (n:="__next__") (by rw[typeLookup_type,builtinLookup_eq_fast];kernel_rfl)
  (by decide +kernel) (by decide +kernel) (by decide +kernel)
  (by first | exact .inl (by decide +kernel) | exact .inr (by decide +kernel))
  (by rw[isSubtype_type];kernel_rfl)
theorem entry_next:entryFor table "set_iterator.__next__" = some Builtin.«set_iterator.__next__»:=
 entryFor_of_tree (by kernel_rfl)
theorem Zfy:Manifest.owners.lookup (String.ofList ['r','o','t','a','r','e','t','i','_','t','e','s'].reverse)=some Manifest.sig_set_iterator:=by kernel_rfl
theorem args_next (a:Value):argsOk "set_iterator.__next__" ⟨[a],[]⟩:=by
 unfold argsOk;rw[signature?_of (id:="set_iterator.__next__") (n:=['_','_','t','x','e','n','_','_']) (o:=['r','o','t','a','r','e','t','i','_','t','e','s']) (by kernel_rfl) Zfy]
 kernel_rfl
end FS
theorem Zba {α:Type}:∀(l:List α) {i:Nat} (h:i<l.length),([l[i]]++l.eraseIdx i).Perm l
 | a::l,0,_=>.refl _
 | a::l,i+1,h=>by
  have ih:=Zba l (i:=i) (by simpa using h);simp only[List.getElem_cons_succ,qcs,List.singleton_append]at ih⊢;exact(qa7.swap _ _ _).trans (ih.cons a)
theorem Zho {α:Type}(f:Nat->Nat):∀(n k:Nat) (l:List α) (out:Array α),l.length=n->(pickOrder.go f n k l out).toList.Perm (out.toList++l)
 | 0,k,l,out,h=>by
  have:l=[]:=zQ.mp h;subst this;unfold pickOrder.go;rw[zq]
 | n+1,k,l,out,h=>by
  unfold pickOrder.go;have hl:f k % l.length<l.length:=qbe _ (by omega);rw[qD hl];dsimp only;refine(Zho f n (k+1) _ _ (by rw[qb1 hl];omega)).trans ?_;rw[zf,qK];refine qbA _ ?_;exact Zba l hl
theorem ZbE {α:Type}(f:Nat->Nat)(xs:Array α):(pickOrder f xs).toList.Perm xs.toList:=by
 have:=Zho f xs.size 0 xs.toList #[] (by simp);simpa[pickOrder]using this
section
variable {prog:xz}{w:World}{A:xA}{E:xB}{s:Shared}
theorem ZdO {α:Type}:∀(n:Nat) (l:List α) (s:Shared) (Q:List α->Shared->Prop),l.length=n->(∀(r:List α) d,r.Perm l->Q r { s with drawn:=d })->xf (xw prog w) A (drawOrder n l) Q E s
 | 0,l,s,Q,h,k=>by
  have:l=[]:=zQ.mp h;subst this;unfold drawOrder;exact xb (k [] s.drawn (.refl _))
 | n+1,[],s,Q,h,k=>by cases h
 | n+1,a::l,s,Q,h,k=>by
  unfold drawOrder;refine xa ?_;intro Γ p hΓ;show Sem.wp _ _ (.choose .order (a::l).length .pure) _ _ _ _;rw[Sem.wp_choose];refine⟨by simp,?_⟩;have hl:(xw prog w).w.draws .order (s.drawn.get .order) % (a::l).length<(a::l).length:=qbe _ (by simp);generalize (xw prog w).w.draws .order (s.drawn.get .order) % (a::l).length=i at hl;show Sem.wp _ _ (Sem.pure i) _ _ _ _;rw[Sem.wp_pure];dsimp only;rw[qD hl];dsimp only;refine xa (ZdO n _ _ _ (by rw[qb1 hl,h];rfl) λr d hr=>?_);exact xb (k _ d ((hr.cons _).trans (Zba (a::l) hl)))
noncomputable abbrev XB (first:Value)(i:Nat)(a:Addr)(n ep:Nat):Obj:={ cls:=.type "set_iterator",data:=.fields #[first,rawInt i,.ref a,rawInt n,rawInt ep] }
theorem Zhp {it a:Addr}{o:Obj}{es:Array (Int×Value)}{ep:Nat}{t:SetTable}{slot i nx:Nat}{x:Value}{Q:Option Value->Shared->Prop}
  (hit:s.heap.get? it=some (XB (rawInt slot) i a es.size ep)) (ho:s.heap.get? a=some o) (hd:o.data=.set es ep t) (hf:t.fits es.size=true)
  (hn:∀(A:xA) (E:xB) (F:Option (Value×Nat)->Shared->Prop),F (some (x,nx)) s->xf (xw prog w) A (setNext a slot i ep) F E s)
  (hQ:∀h',h'.get? it=some (XB (rawInt nx) (i+1) a es.size ep)->yf it s.heap h'->Q (some x) { s with heap:=h' }):xf (xw prog w) A (pyNext (.ref it)) Q E s:=by
 have hT:s.TypeIs (.ref it) "set_iterator":=⟨_,hit,rfl⟩;unfold pyNext;refine xa (wpAny_attempt (wpAny_callSpecial?_slot (name:=y9 "__next__") hT FS.slot_next
  (wpAny_call_entry FS.slot_next hT FS.entry_next ?_ (FS.args_next _))))
 unfold Builtin.«set_iterator.__next__»;refine xa (m:=slotArgs _ _ _) (xb ?_);refine xa (wpAny_fieldsOf hit rfl ?_);show xf _ _ (setEntries a >>= _) _ _ _;refine xa (wpAny_setEntries_of ho hd hf ?_);rw[if_neg (by simp)];show xf _ _ (setNext a slot i ep >>= _) _ _ _;refine xa (hn _ _ _ ?_);dsimp only;refine xa (wpAny_setField hit rfl (by simp) ?_);have g1:(s.heap.update it (yD (·.setIfInBounds 0 (rawInt nx)))).get? it=some (XB (rawInt nx) i a es.size ep):=zY _ hit rfl;refine xa (wpAny_setField (s:={ s with heap:=s.heap.update it (yD (·.setIfInBounds 0 (rawInt nx))) }) g1 rfl (by simp) ?_);have g2:((s.heap.update it (yD (·.setIfInBounds 0 (rawInt nx)))).update it (yD (·.setIfInBounds 1 (rawInt ((i:Int)+1))))).get? it=some (XB (rawInt nx) (i+1) a es.size ep):=zY _ g1 rfl;exact xb ⟨_,rfl,xb (hQ _ g2 ((qay ..).trans (qay ..)))⟩
theorem Zhq {it:Addr}{i n ep:Nat}{a:Addr}{f:Value}{Q:Option Value->Shared->Prop}(hh:A.handled=none)(hit:s.heap.get? it=some (XB f i a n ep))
  (k:∀(A:xA) (G:Fin->Shared->Prop) (F:xB),A.handled=none->(∀v h',qbp it s.heap h'->qbZ { s with heap:=h' } v "StopIteration"->F v { s with heap:=h' })->xf (xw prog w) A (Builtin.«set_iterator.__next__» ⟨[.ref it],[]⟩) G F s)
  (hQ:∀h',qbp it s.heap h'->Q none { s with heap:=h' }):xf (xw prog w) A (pyNext (.ref it)) Q E s:=by
 have hT:s.TypeIs (.ref it) "set_iterator":=⟨_,hit,rfl⟩;unfold pyNext;refine xa (wpAny_attempt (wpAny_callSpecial?_slot (name:=y9 "__next__") hT FS.slot_next
  (wpAny_call_entry FS.slot_next hT FS.entry_next (k _ _ _ hh λv h' e tv=>?_) (FS.args_next _))))
 refine xa (wpAny_isInstance (T:="StopIteration") (b:=true) tv isSubtype_stop ?_);exact xb (hQ _ e)
end
end HT
namespace HT
section
variable {prog:xz}{w:World}{A:xA}{E:xB}{s:Shared}
variable {a:Addr}{o:Obj}{es:Array (Int×Value)}{ep:Nat}{t:SetTable}
theorem ZdP {slot i:Nat}{F:Option (Value×Nat)->Shared->Prop}(ho:s.heap.get? a=some o)(hd:o.data=.set es ep t)(hf:t.fits es.size=true)(hT:Yr w=true)
  (k:F (((pickOrder (w.params.setOrder a ep) es)[i]?).map λe=>(e.2,slot)) s):xf (xw prog w) A (setNext a slot i ep) F E s:=by
 unfold setNext;refine xa (wpAny_setState_of ho hd hf ?_);dsimp only;unfold setsByText;refine xa (xa (wpAny_askSetting (xb ?_)));show xf _ _ (if Yr w=true then _ else _) _ _ _;rw[if_pos hT,if_neg (by simp)];unfold setWalk;refine xa (xa (wpAny_setState_of ho hd hf ?_));dsimp only;unfold setsByText;refine xa (xa (wpAny_askSetting (xb ?_)));show xf _ _ (if Yr w=true then _ else _) _ _ _;rw[if_pos hT];refine xa (wpAny_askSetting (xb ?_));exact xb k
theorem ZcN {slot i:Nat}{F:Option (Value×Nat)->Shared->Prop}(ho:s.heap.get? a=some o)(hd:o.data=.set es ep t)(hf:t.fits es.size=true)(hT:Yr w=false)(hdr:(!t.plain&&decide (es.size > 1))=false)(hl:t.led=true)
  (k:F (match es[qA t.place slot]?,t.place[qA t.place slot]? with | some (_,x),some j=>some (x,j+1) | _,_=>none) s):xf (xw prog w) A (setNext a slot i ep) F E s:=by
 unfold setNext;refine xa (wpAny_setState_of ho hd hf ?_);dsimp only;unfold setsByText;refine xa (xa (wpAny_askSetting (xb ?_)));show xf _ _ (if Yr w=true then _ else _) _ _ _;rw[if_neg (by rw[hT];decide)];show xf _ _ (if (!t.plain&&decide (es.size > 1))=true then _ else _) _ _ _;rw[if_neg (by rw[hdr];decide)];show xf _ _ ((if (!t.led && !es.isEmpty)=true then unsupported "set:maker-not-led" else pure ()) >>= _) _ _ _;rw[if_neg (by simp[hl])];refine xa (xb ?_);exact xb k
theorem ZcO {G:Fin->Shared->Prop}{F:xB}(hh:A.handled=none)(k:∀v h',(∀b u,s.heap.get? b=some u->h'.get? b=some u)->qbZ { s with heap:=h' } v "StopIteration"->F v { s with heap:=h' }) :
  xf (xw prog w) A (newExc (.type "StopIteration") [] >>= λe=>(raiseNew e:Sem Fin)) G F s:=by
 refine xa ?_;simp only[newExc,newTuple];refine xa (xl ?_ (by size_fits));refine xa (m:=firstArgMember _ _) (wpAny_of_eq (a:=zo) (by first | rfl | (simp only[firstArgMember];rfl)) ?_);refine xl ?_ (by size_fits);simp only[raiseNew];refine xa (wpAny_handled ?_);rw[hh];refine xa (xb (wpAny_throw ?_));exact k _ _ (λb u e=>qf _ (qf _ e)) ⟨_,qI _ rfl,rfl⟩
theorem Zj0 {it:Addr}{slot i:Nat}{Q:Option Value->Shared->Prop}(hh:A.handled=none)(hit:s.heap.get? it=some (XB (rawInt slot) i a es.size ep))(ho:s.heap.get? a=some o)(hd:o.data=.set es ep t)(hf:t.fits es.size=true)
  (hn:∀(A:xA) (E:xB) (F:Option (Value×Nat)->Shared->Prop),F none s->xf (xw prog w) A (setNext a slot i ep) F E s)
  (hQ:∀h',qbp it s.heap h'->Q none { s with heap:=h' }):xf (xw prog w) A (pyNext (.ref it)) Q E s:=by
 refine Zhq hh hit (λA G F hh k=>?_) hQ;unfold Builtin.«set_iterator.__next__»;refine xa (m:=slotArgs _ _ _) (xb ?_);refine xa (wpAny_fieldsOf hit rfl ?_);show xf _ _ (setEntries a >>= _) _ _ _;refine xa (wpAny_setEntries_of ho hd hf ?_);rw[if_neg (by simp)];show xf _ _ (setNext a slot i ep >>= _) _ _ _;refine xa (hn _ _ _ ?_);dsimp only;refine xa (wpAny_setField hit rfl (by simp) ?_);refine ZcO (s:={ s with heap:=s.heap.update it (yD (·.setIfInBounds 2 .none)) }) hh λv h' e tv=>k v h' (λb u nb eb=>e b u ?_) tv;exact(yh _ _ (zH nb)).trans eb
namespace FS
theorem entry_si_iter:entryFor table "set_iterator.__iter__" = some Builtin.«dict_keyiterator.__iter__»:=
 entryFor_alias (id':="dict_keyiterator.__iter__") (by kernel_rfl) rfl (by decide +kernel) (by kernel_rfl)
theorem slot_si_iter:Slot "set_iterator" "__iter__" "set_iterator.__iter__":=
 .of (owner:="set_iterator") (n:="__iter__") (by rw[typeLookup_type,builtinLookup_eq_fast];kernel_rfl)
  (by decide +kernel) (by decide +kernel) (by decide +kernel)
  (by first | exact .inl (by decide +kernel) | exact .inr (by decide +kernel))
  (by rw[isSubtype_type];kernel_rfl)
theorem args_si_iter (a:Value):argsOk "set_iterator.__iter__" ⟨[a],[]⟩:=by
 unfold argsOk;rw[signature?_of (id:="set_iterator.__iter__") (n:=['_','_','r','e','t','i','_','_']) (o:=['r','o','t','a','r','e','t','i','_','t','e','s']) (by kernel_rfl) Zfy]
 kernel_rfl
end FS
theorem Zfz {it:Addr}{f:Value}{i n:Nat}{Q:xB}(hit:s.heap.get? it=some (XB f i a n ep))(h:Q (.ref it) s):xf (xw prog w) A (pyIter (.ref it)) Q E s:=by
 have hT:s.TypeIs (.ref it) "set_iterator":=⟨_,hit,rfl⟩;refine wpAny_pyIter_slot hT FS.slot_si_iter (wpAny_call_entry FS.slot_si_iter hT FS.entry_si_iter ?_ (FS.args_si_iter _));show xf _ _ (ret (.ref it)) _ _ s;exact xb ⟨_,rfl,"set_iterator",_,hT,FS.slot_next.lookup,h⟩
noncomputable def VV (w:World)(a:Addr)(ep:Nat)(es:Array (Int×Value)):List Value:=if Yr w=true then (pickOrder (w.params.setOrder a ep) es).toList.map (·.2)else es.toList.map (·.2)
theorem ZfA:(VV w a ep es).Perm (es.toList.map (·.2)):=by
 unfold VV;split
 ·exact(ZbE _ es).map _
 ·exact .refl _
theorem Zlw:(VV w a ep es).length=es.size:=by rw[ZfA.length_eq,qj,qz]
theorem Zj1 (hh:A.handled=none)(I:Addr)(hne:a≠I)(hd:o.data=.set es ep t)(hf:t.fits es.size=true)(hg:Good w t)(hdr:Yr w=true∨(!t.plain&&decide (es.size > 1))=false) :
  Walks prog w A I [I,a] [I] es.size (λi v=>(VV w a ep es)[i]?=some v) (λi h=>h.get? a=some o/\∃slot:Nat,h.get? I=some (XB (rawInt slot) i a es.size ep)/\(Yr w=true∨qA t.place slot=i)) where
 sub:=λb hb=>by simp at hb;simp[hb]
 frame:=λi h h' st k=>by
  obtain⟨h1,slot,h2,h3⟩:=st;exact⟨k a (by simp) _ h1,slot,k I (by simp) _ h2,h3⟩
 item:=λi s Q E hi st k=>by
  obtain⟨h1,slot,h2,h3⟩:=st;have hps:t.place.size=es.size:=by
   simp only[qcW,zi,beq_iff_eq]at hf;exact hf.1
  have fin:∀(x:Value) (nx:Nat),(VV w a ep es)[i]?=some x->(Yr w=true∨qA t.place nx=i+1)->∀h',h'.get? I=some (XB (rawInt nx) (i+1) a es.size ep)->yf I s.heap h'->Q (some x) { s with heap:=h' }:=λx nx hx hb h' g sb=>
   k x h' s.toks hx ⟨(sb.2 a hne).trans h1,nx,g,hb⟩ λb u nb e=>(sb.2 b (λz=>nb (by simp[z]))).trans e
  cases hT:Yr w with
  | true=>
   have jM:i<(pickOrder (w.params.setOrder a ep) es).size:=by
    have:=(ZbE (w.params.setOrder a ep) es).length_eq;simp only[qz]at this;omega
   have hx:(VV w a ep es)[i]?=some (pickOrder (w.params.setOrder a ep) es)[i].2:=by
    unfold VV;rw[if_pos hT,qC,qy,qd jM];rfl
   refine Zhp (nx:=slot) h2 h1 hd hf (λA E F q=>ZdP h1 hd hf hT ?_) (fin _ slot hx (.inl hT));rw[qd jM];exact q
  | false=>
   have hb:qA t.place slot=i:=h3.resolve_left (by rw[hT];decide);have hdr':=hdr.resolve_left (by rw[hT];decide);have hl:=hg.1.resolve_left (by rw[hT];decide);have hx:(VV w a ep es)[i]?=some es[i].2:=by
    unfold VV;rw[if_neg (by rw[hT];decide),qC,qy,qd hi];rfl
   have hp:t.place[i]?=some (t.place.getD i 0):=by
    rw[qP,qd (by omega)];rfl
   refine Zhp (nx:=t.place.getD i 0+1) h2 h1 hd hf (λA E F q=>ZcN h1 hd hf hT hdr' hl ?_) (fin _ _ hx (.inr (Zgz hg.2 (by omega))));rw[hb,qd hi,hp];exact q
 done:=λs Q E st k=>by
  obtain⟨h1,slot,h2,h3⟩:=st;have fin:∀h',qbp I s.heap h'->Q none { s with heap:=h' }:=λh' e=>k h' s.toks λb u nb g=>e b u (λz=>nb (by simp[z])) g
  cases hT:Yr w with
  | true=>
   refine Zj0 hh h2 h1 hd hf (λA E F q=>ZdP h1 hd hf hT ?_) fin;rw[qaH]
   ·exact q
   ·have:=(ZbE (w.params.setOrder a ep) es).length_eq
    simp only[qz]at this;omega
  | false=>
   have hb:qA t.place slot=es.size:=h3.resolve_left (by rw[hT];decide);refine Zj0 hh h2 h1 hd hf (λA E F q=>ZcN h1 hd hf hT (hdr.resolve_left (by rw[hT];decide)) (hg.1.resolve_left (by rw[hT];decide)) ?_) fin;rw[hb,qaH (qm _)];exact q
 self:=λi s Q E st k=>Zfz st.2.choose_spec.1 k
noncomputable abbrev WC (pl:List Nat):Array Value:=(pl.map λ(i:Nat)=>rawInt i).toArray
theorem Zlx {it T:Addr}{i p:Nat}{x:Int×Value}{pl:List Nat}{c:Nat}{Q:Option Value->Shared->Prop}
  (hit:s.heap.get? it=some (XB (.ref T) i a es.size ep)) (ho:s.heap.get? a=some o) (hd:o.data=.set es ep t) (hf:t.fits es.size=true)
  (hT:s.heap.get? T=some { cls:=.type "tuple",data:=.seq (WC pl) c }) (hp:pl[i]?=some p) (hx:es[p]?=some x)
  (hQ:∀h',h'.get? it=some (XB (.ref T) (i+1) a es.size ep)->yf it s.heap h'->Q (some x.2) { s with heap:=h' }):xf (xw prog w) A (pyNext (.ref it)) Q E s:=by
 have hTy:s.TypeIs (.ref it) "set_iterator":=⟨_,hit,rfl⟩;unfold pyNext;refine xa (wpAny_attempt (wpAny_callSpecial?_slot (name:=y9 "__next__") hTy FS.slot_next
  (wpAny_call_entry FS.slot_next hTy FS.entry_next ?_ (FS.args_next _))))
 unfold Builtin.«set_iterator.__next__»;refine xa (m:=slotArgs _ _ _) (xb ?_);refine xa (wpAny_fieldsOf hit rfl ?_);show xf _ _ (setEntries a >>= _) _ _ _;refine xa (wpAny_setEntries_of ho hd hf ?_);rw[if_neg (by simp)];show xf _ _ (seqItems? (.ref T) >>= _) _ _ _;refine xa (xr hT rfl ?_);have e:(WC pl)[((i:Nat):Int).toNat]?=some (rawInt p):=by
  rw[qaL];simp[WC,hp]
 dsimp only;rw[e];show xf _ _ (setNextDrawn a p ep >>= _) _ _ _;unfold setNextDrawn;refine xa (xa (wpAny_setState_of ho hd hf ?_));dsimp only;rw[if_neg (by simp),hx];refine xb ?_;refine xa (wpAny_setField hit rfl (by simp) ?_);have g2:(s.heap.update it (yD (·.setIfInBounds 1 (rawInt ((i:Int)+1))))).get? it=some (XB (.ref T) (i+1) a es.size ep):=zY _ hit rfl;exact xb ⟨_,rfl,xb (hQ _ g2 (qay ..))⟩
theorem Zm6 {it T:Addr}{i:Nat}{pl:List Nat}{c:Nat}{Q:Option Value->Shared->Prop}(hh:A.handled=none)
  (hit:s.heap.get? it=some (XB (.ref T) i a es.size ep)) (ho:s.heap.get? a=some o) (hd:o.data=.set es ep t) (hf:t.fits es.size=true)
  (hT:s.heap.get? T=some { cls:=.type "tuple",data:=.seq (WC pl) c }) (hp:pl.length<=i)
  (hQ:∀h',qbp it s.heap h'->Q none { s with heap:=h' }):xf (xw prog w) A (pyNext (.ref it)) Q E s:=by
 refine Zhq hh hit (λA G F hh k=>?_) hQ;unfold Builtin.«set_iterator.__next__»;refine xa (m:=slotArgs _ _ _) (xb ?_);refine xa (wpAny_fieldsOf hit rfl ?_);show xf _ _ (setEntries a >>= _) _ _ _;refine xa (wpAny_setEntries_of ho hd hf ?_);rw[if_neg (by simp)];show xf _ _ (seqItems? (.ref T) >>= _) _ _ _;refine xa (xr hT rfl ?_);have e:(WC pl)[((i:Nat):Int).toNat]?=none:=by
  rw[qaL];simp[WC,hp]
 dsimp only;rw[e];dsimp only;refine xa (wpAny_setField hit rfl (by simp) ?_);have g1:(s.heap.update it (yD (·.setIfInBounds 0 (rawInt 0)))).get? it=some (XB (rawInt 0) i a es.size ep):=zY _ hit rfl;refine xa (wpAny_setField (s:={ s with heap:=s.heap.update it (yD (·.setIfInBounds 0 (rawInt 0))) }) g1 rfl (by simp) ?_);refine ZcO (s:={ s with heap:=(s.heap.update it (yD (·.setIfInBounds 0 (rawInt 0)))).update it (yD (·.setIfInBounds 2 .none)) }) hh λv h' e tv=>k v h' (λb u nb eb=>e b u ?_) tv;exact(yh _ _ (zH nb)).trans ((yh _ _ (zH nb)).trans eb)
noncomputable def Jk (es:Array (Int×Value))(pl:List Nat):List Value:=pl.map λp=>(es.getD p default).2
theorem Ziv {pl:List Nat}(hp:pl.Perm (qp es.size)):(Jk es pl).Perm (es.toList.map (·.2)):=by
 unfold Jk;refine(hp.map _).trans ?_;have:((qp es.size).map λp=>(es.getD p default).2)=es.toList.map (·.2):=by
  apply qak;intro i;have el:es.toList[i]?=es[i]?:=qy ..;rw[qC,qC,el];by_cases hi:i<es.size
  ·rw[yX hi,qd hi]
   simp only[yc];rw[qP,qd hi];rfl
  ·rw[ya (by simp;omega),qaH (by omega)]
   rfl
 rw[this]
theorem ZgB (hh:A.handled=none)(I T:Addr)(hne:a≠I)(hneT:T≠I)(hd:o.data=.set es ep t)(hf:t.fits es.size=true){pl:List Nat}{c:Nat}(hp:pl.Perm (qp es.size)) :
  Walks prog w A I [I,a,T] [I] es.size (λi v=>(Jk es pl)[i]?=some v) (λi h=>h.get? a=some o/\h.get? I=some (XB (.ref T) i a es.size ep)/\h.get? T=some { cls:=.type "tuple",data:=.seq (WC pl) c }) where
 sub:=λb hb=>by simp at hb;simp[hb]
 frame:=λi h h' st k=>⟨k a (by simp) _ st.1,k I (by simp) _ st.2.1,k T (by simp) _ st.2.2⟩
 item:=λi s Q E hi st k=>by
  obtain⟨h1,h2,h3⟩:=st;have hl:i<pl.length:=by rw[hp.length_eq,zc];exact hi
  have hm:pl[i]<es.size:=qO.mp (hp.mem_iff.mp (qbx hl));have hx:(Jk es pl)[i]?=some es[pl[i]].2:=by
   unfold Jk;rw[qC,qD hl];simp only[yc];rw[qP,qd hm];rfl
  exact Zlx h2 h1 hd hf h3 (qD hl) (qd hm) λh' g sb=>k _ h' s.toks hx ⟨(sb.2 a hne).trans h1,g,(sb.2 T hneT).trans h3⟩ λb u nb e=>(sb.2 b (λz=>nb (by simp[z]))).trans e
 done:=λs Q E st k=>by
  obtain⟨h1,h2,h3⟩:=st;exact Zm6 hh h2 h1 hd hf h3 (by rw[hp.length_eq,zc];exact qm _) λh' e=>k h' s.toks λb u nb g=>e b u (λz=>nb (by simp[z])) g
 self:=λi s Q E st k=>Zfz st.2.1 k
theorem Zj2 {Q:xB}(ho:s.heap.get? a=some o)(hex:o.ExactSet)(hd:o.data=.set es ep t)(hf:t.fits es.size=true)(hz:es.size<=1000)
  (k1:(Yr w=true∨(!t.plain&&decide (es.size > 1))=false)->Q (.ref s.heap.objs.size) { s with heap:=s.heap.push (XB (rawInt (0:Nat)) 0 a es.size ep) })
  (k2:∀(pl:List Nat) d,pl.Perm (qp es.size)->Q (.ref (s.heap.objs.size+1)) { s with heap:=(s.heap.push { cls:=.type "tuple",data:=.seq (WC pl) }).push (XB (.ref s.heap.objs.size) 0 a es.size ep),drawn:=d }):xf (xw prog w) A (pyIter (.ref a)) Q E s:=by
 have hT:s.TypeIs (.ref a) "set":=⟨o,ho,hex.1⟩;refine wpAny_pyIter_slot hT qcG (wpAny_call_entry qcG hT FS.entry_set_iter ?_ (PySem.F.args_set_iter_1 _));unfold Builtin.«frozenset.__iter__» Builtin.Frozenset.slot0;refine xa (xa (m:=slotArgs _ _ _) (xb ?_));refine xb ?_;unfold Builtin.Frozenset.sizeOf;refine xa (xa (wpAny_setEntries_of ho hd hf (xb ?_)));unfold setDrawn;refine xa (xa (wpAny_setState_of ho hd hf ?_));dsimp only;unfold setsByText;refine xa (xa (wpAny_askSetting (xb (xb ?_))));show xf _ _ (if (!Yr w&&(!t.plain&&decide (es.size > 1)))=true then _ else _) _ _ _;by_cases hc:(!Yr w&&(!t.plain&&decide (es.size > 1)))=true
 ·rw[if_pos hc]
  refine xa (ZdO es.size (qp es.size) _ _ zc λpl d hp=>?_);have hpl:pl.length=es.size:=by rw[hp.length_eq,zc]
  unfold newTuple;refine xa (xl ?_ (by show(WC pl).size<=xg;rw[sizeLine_eq];simp[WC];omega));refine xa (wpAny_setEpoch_of (s:={ s with heap:=s.heap.push { cls:=.type "tuple",data:=.seq (WC pl) },drawn:=d }) (qf _ ho) hd hf ?_);unfold newFields;refine xa (xl ?_);refine xb ⟨_,rfl,"set_iterator",_,⟨_,qI _ rfl,rfl⟩,FS.slot_next.lookup,?_⟩;have:=k2 pl d hp;rw[<-zZ s.heap { cls:=.type "tuple",data:=.seq (WC pl) }]at this;exact this
 ·rw[if_neg hc]
  refine xa (xb ?_);refine xa (wpAny_setEpoch_of ho hd hf ?_);unfold newFields;refine xa (xl ?_);refine xb ⟨_,rfl,"set_iterator",_,⟨_,qI _ rfl,rfl⟩,FS.slot_next.lookup,?_⟩;refine k1 ?_
  cases hb:Yr w with
  | true=>exact .inl rfl
  | false=>
   rw[hb]at hc;exact .inr (by simpa using hc)
end
end HT
namespace HT
section
variable {prog:xz}{w:World}{A:xA}{E:xB}{s:Shared}
variable {a:Addr}{o:Obj}{es:Array (Int×Value)}{ep:Nat}{t:SetTable}
theorem Zj3 {Q:Bool->Shared->Prop}(hT:s.TypeIs (.ref a) "set")(h:Q false s):xf (xw prog w) A (qaO (.ref a)) Q E s:=by
 unfold qaO;refine xa (wpAny_specialOf hT PySem.F.slot_set_len.lookup ?_);generalize hid:("set.__len__" : String)=id0
 wp_delta
 rw[show splitId id0=some ("set","__len__")from by subst hid;decide +kernel];subst hid;refine xa (wpAny_isInstance (T:="set") (b:=true) hT (by rw[isSubtype_type];kernel_rfl) ?_);refine wpAny_ite_split (λz=>absurd z (by decide)) (λ_=>?_);refine wpAny_ite_split (λ_=>?_) (λz=>absurd (by decide +kernel) z);refine xa (wpAny_typeOf hT ?_);exact xb h
theorem Zj4 {l:List Value}{jH:Array Value}(h:ItemsOf (λi v=>l[i]?=some v) jH l.length):jH.toList=l:=by
 apply qak;intro i;rw[qy];by_cases hi:i<l.length
 ·have hs:i<jH.size:=by rw[h.1];exact hi
  rw[qd hs];exact(h.2 i _ (qd hs)).symm
 ·rw[qaH (by rw[h.1];omega),ya (by omega)]
theorem after {I S:Addr}{fp wr:List Addr}{l:List Value}{St:Nat->Heap->Prop}{n:Nat}{g:Bool->Bool}{s1:Shared}{R:Result->Shared->Prop}(W:Walks prog w A.in1 I fp wr n (λi v=>l[i]?=some v) St)(hl:l.length=n)(hn:n<=1000)(st:St 0 s1.heap)(hSf:S∉fp)
  (hS:s1.heap.get? S=some { cls:=.type "list",data:=.seq #[] 0 }) (hT:s1.TypeIs (.ref a) "set") (hg:g false=true)
  (k:∀h' tk c,(∀b u,b∉S::wr->s1.heap.get? b=some u->h'.get? b=some u)->h'.get? S=some { cls:=.type "list",dict:=none,data:=.seq l.toArray c,slots:=#[] }->R (.ok (.ret (.ref S))) { s1 with heap:=h',toks:=tk }) :
  xf (xw prog w) A.in1 (do
   let room<-holding [.ref I] (qaO (.ref a))
   if g room=true then do
    rule "list.extend.makes-room"
    Builtin.List.listTouch (.ref S)
    again (.builtin "list.extend.loop" { pos:=[.ref S,.ref I,.ref S] })
   else again (.builtin "list.extend.loop" { pos:=[.ref S,.ref I,.ref S] }))
   (λfin s'=>match fin with | .done f=>R (.ok f) s' | .again c'=>c'.quiet=true/\xo (xw prog w) A c' R s') (λe s'=>R (.error e) s') s1:=by
 refine xa (xt (Zj3 hT ?_));rw[if_pos hg];refine xa (wpAny_rule (xa ?_));show xf _ _ (updateSeq S (·.push .none) >>= λ_=>updateSeq S (·.pop)) _ _ _;refine xa (wpAny_updateSeq hS rfl ?_);have q2:=zY (zU (·.push zo)) hS rfl;refine wpAny_updateSeq (hz:=by seq_fits) q2 rfl ?_;have q3:=zY (zU (·.pop)) q2 rfl;have oth:∀b u,b≠S->s1.heap.get? b=some u->((s1.heap.update S (zU (·.push zo))).update S (zU (·.pop))).get? b=some u:=λb u nb e=>
  (yh _ _ (zH nb)).trans ((yh _ _ (zH nb)).trans e)
 refine xb ⟨plainId_quiet F.plain_extend_loop _,codeAny_extend_loopS W.toS (by rw[sizeLine_eq];omega) S hSf _ n 0 _ #[] _ rfl (zy _) (W.frame 0 s1.heap _ st λb m u e=>oth b u (λz=>hSf (z▸m)) e) q3 (ItemsOf.nil _) λs' acc' c' hm hS' hacc=>?_⟩;rw[Moved.eq_with hm];rw[<-hl]at hacc;have el:=Zj4 hacc;refine k s'.heap s'.toks c' (λb u nb e=>hm.heap b u nb (oth b u (λz=>nb (by simp[z])) e)) ?_;rw[hS',<-el]
noncomputable def RF (prog:xz)(w:World)(A:xA)(E:xB)(Q:List Value->Shared->Prop)(S:Addr):Result->Shared->Prop:=λr s'=>r=.ok (.ret (.ref S))/\xf (xw prog w) A (load S >>= λx=>match x.data with | .seq xs _=>pure xs.toList | _=>unsupported "internal:collect") Q E s'
theorem ZfB {Q:List Value->Shared->Prop}(hh:A.handled=none)(ho:s.heap.get? a=some o)(hex:o.ExactSet)(hd:o.data=.set es ep t)(hf:t.fits es.size=true)(hg:Good w t)(hz:es.size<=1000)
  (k:∀(vs:List Value) (h':Heap) (tk:Nat) d,(∀b u,s.heap.get? b=some u->h'.get? b=some u)->s.heap.objs.size<h'.objs.size->vs.Perm (es.toList.map (·.2))->Q vs { s with heap:=h',toks:=tk,drawn:=d }):xf (xw prog w) A (collect (.ref a)) Q E s:=by
 unfold collect;apply xa;apply wpAny_runValue;apply xm F.entry_proto_collect;rw[yr
  F.plain_proto_collect _]
 show xf _ A.in1 (newList [] >>= λz=>
  again (.builtin "list.__iadd__" ⟨[z,.ref a],[]⟩)) _ _ s
 apply xa;refine xl ?_;refine xb ⟨plainId_quiet
  F.plain_list_iadd _,xm
  F.entry_list_iadd ?_⟩
 rw[yr
  F.plain_list_iadd _]
 show xf _ A.in1 (qbS
  (.ref s.heap.objs.size) (.ref a)
  (.ref s.heap.objs.size)) _ _ _
 have hlt:a<s.heap.objs.size:=qJ ho;have hS0:(s.heap.push
   { cls:=.type "list",data:=.seq ([]:List Value).toArray }).get?
   s.heap.objs.size=some { cls:=.type "list",data:=.seq #[] 0 }:=
  qI _ rfl
 have ho0:(s.heap.push
   { cls:=.type "list",data:=.seq ([]:List Value).toArray }).get? a=some o:=qf _ ho
 have kp0:∀b u,s.heap.get? b=some u->(s.heap.push
   { cls:=.type "list",data:=.seq ([]:List Value).toArray }).get? b=some u:=λb u e=>qf _ e
 have sz0:(s.heap.push
   { cls:=.type "list",data:=.seq ([]:List Value).toArray }).objs.size=s.heap.objs.size+1:=zZ _ _
 generalize (s.heap.push
   { cls:=.type "list",data:=.seq ([]:List Value).toArray })=h0 at hS0 ho0 kp0 sz0⊢
 unfold qbS;refine xa (wpAny_typeOf (T:="set") ⟨_,ho0,hex.1⟩ ?_);have b1:qcf (.ref s.heap.objs.size) (.ref a)=false:=by
  have:s.heap.objs.size≠a:=qbB hlt;simp[qcf,this]
 have b2:(yB "set" == yB "list")=false:=by decide
 have b3:(yB "set" == yB "tuple")=false:=by decide
 simp only[b1,b2,b3,Bool.or_false,qQ,if_false];have fin:∀(l:List Value) (I:Addr) (wr:List Addr) (h1:Heap) (d:Drawn),l.Perm (es.toList.map (·.2))->(∀b∈wr,b=I)->s.heap.objs.size<I->(∀b u,h0.get? b=some u->h1.get? b=some u)->∀(h':Heap) (tk c:Nat),(∀b u,b∉s.heap.objs.size::wr->h1.get? b=some u->h'.get? b=some u)->h'.get? s.heap.objs.size=some { cls:=.type "list",dict:=none,data:=.seq l.toArray c,slots:=#[] }->
   xf (xw prog w) A (load s.heap.objs.size >>= λx=>match x.data with | .seq xs _=>pure xs.toList | _=>unsupported "internal:collect") Q E { s with heap:=h',toks:=tk,drawn:=d }:=λl I wr h1 d hp hw hI kp h' tk c kk hL=>by
  refine xa (wpAny_load hL ?_);refine xb ?_;show Q l.toArray.toList _;rw[yz];refine k l h' tk d (λb u e=>kk b u (λz=>?_) (kp b u (kp0 b u e))) (qJ hL) hp;have hb:=qJ e;rcases qq.mp z with z | z
  ·exact absurd hb (by rw[z];exact yC _)
  ·rw[hw b z]at hb;exact absurd (qaa hb hI) (yC _)
 have z1:s.heap.objs.size<h0.objs.size:=by rw[sz0];exact qat _
 have z2:s.heap.objs.size<h0.objs.size+1:=zO z1;have n1:a≠h0.objs.size:=qR (qaa hlt z1);have n2:a≠h0.objs.size+1:=qR (qaa hlt z2);have n3:s.heap.objs.size≠a:=qbB hlt;refine xc (Q:=λfin s'=>match fin with | .done f=>RF prog w A E Q s.heap.objs.size (.ok f) s' | .again c'=>c'.quiet=true/\xo (xw prog w) A c' (RF prog w A E Q s.heap.objs.size) s') (E:=λe s'=>RF prog w A E Q s.heap.objs.size (.error e) s') ?_ (λfin s' h=>?_) (λe s' h=>?_)
 rotate_left
 ·cases fin with
  | done f=>
   obtain⟨e,q⟩:=h
   cases e
   exact q
  | again c'=>
   refine⟨h.1,codeAny_mono h.2 λr s'' hr=>?_⟩;obtain⟨rfl,q⟩:=hr;exact q
 ·exact absurd h.1 (by simp)
 refine xa (Zj2 ho0 hex hd hf hz (λhdr=>?_) λpl d hp=>?_)
 ·refine after (Zj1 (A:=A.in1) hh h0.objs.size n1 hd hf hg hdr) Zlw hz ?_ ?_ ?_ ?_ ?_ ?_
  ·exact⟨qf _ ho0,0,qI _ rfl,.inr (ZgA hg.2)⟩
  ·simp only[qq,ye,or_false,not_or]
   exact⟨qR z1,n3⟩
  ·exact qf _ hS0
  ·exact⟨_,qf _ ho0,hex.1⟩
  ·decide +kernel
  ·intro h' tk c kk hL
   exact⟨rfl,fin _ h0.objs.size [h0.objs.size] _ _ ZfA (λb m=>qH.mp m) z1 (λb u e=>qf _ e) h' tk c kk hL⟩
 ·refine after (ZgB (A:=A.in1) hh (h0.objs.size+1) h0.objs.size n2 (qR (qat _)) hd hf hp (c:=0)) ?_ hz ?_ ?_ ?_ ?_ ?_ ?_
  ·unfold Jk;rw[qj,hp.length_eq,zc]
  ·refine⟨qf _ (qf _ ho0),?_,qf _ (qI _ rfl)⟩
   have:=qI (h0.push { cls:=.type "tuple",data:=.seq (WC pl) }) (o:=XB (.ref h0.objs.size) 0 a es.size ep) rfl;rw[zZ]at this;exact this
  ·simp only[qq,ye,or_false,not_or]
   exact⟨qR z2,n3,qR z1⟩
  ·exact qf _ (qf _ hS0)
  ·exact⟨_,qf _ (qf _ ho0),hex.1⟩
  ·decide +kernel
  ·intro h' tk c kk hL
   exact⟨rfl,fin _ (h0.objs.size+1) [h0.objs.size+1] _ _ (Ziv hp) (λb m=>qH.mp m) z2 (λb u e=>qf _ (qf _ e)) h' tk c kk hL⟩
end
section
variable {prog:xz}{w:World}{A:xA}{E:xB}{s:Shared}
variable {a:Addr}{o:Obj}{es:Array (Int×Value)}{ep:Nat}{t:SetTable}
end
end HT
namespace TF
open L2
section
variable {X:Cx}{G:Gh}
theorem jA {jC:Qb}{σ:St}{H:Hp}{s:Shared}{d:Drawn}(I:Inv X jC σ H s):Inv X jC σ H { s with drawn:=d }:=⟨I.ok,I.os,I.bare,I.base,I.loc,I.cell,I.free,I.freeC,I.pin,I.hok,I.len⟩
end
section
variable {X:Cx}{G:Gh}{ob own:List Nat}{fr:Bool}{f:Zb->M D}
end
end TF
namespace TT
open L2 TS
theorem perm_ix {α:Type}(d:α){l' l:List α}(h:l'.Perm l):∃ix:List Nat,ix.Perm (qp l.length)/\l'=ix.map λi=>l.getD i d:=by
 induction h with
 | nil=>exact⟨[],.refl _,rfl⟩
 | @cons x l1 l2 p ih=>
  obtain⟨ix,h1,h2⟩:=ih;refine⟨0::ix.map (· + 1),?_,?_⟩
  ·rw[qB,y6]
   exact(h1.map _).cons 0
  ·rw[qX,qM,h2]
   rfl
 | swap x y l=>
  refine⟨1::0::(qp l.length).map (· + 2),?_,?_⟩
  ·rw[qB,qB,y6,y6,qX,qM]
   exact .swap _ _ _
  ·rw[qX,qX,qM]
   have:(qp l.length).map ((λi=>(x::y::l).getD i d)∘λx=>x+2)=l:=by
    have e:((λi=>(x::y::l).getD i d)∘λx=>x+2)=λi=>l.getD i d:=rfl;rw[e];exact TS.range_getD l d
   rw[this];rfl
 | @trans l1 l2 l3 p q ih1 ih2=>
  obtain⟨ix,h1,h2⟩:=ih1;obtain⟨jx,k1,k2⟩:=ih2;refine⟨ix.map λi=>jx.getD i 0,?_,?_⟩
  ·have e:l2.length=jx.length:=by rw[k2,qj]
   rw[e]at h1;have:=h1.map λi=>jx.getD i 0;rw[TS.range_getD]at this;exact this.trans k1
  ·rw[h2,qM]
   refine zD λi hi=>?_;have hl:i<l2.length:=qO.mp (h1.mem_iff.mp hi);have hj:i<jx.length:=by rw[k2,qj]at hl;exact hl
   show l2.getD i d=l3.getD (jx.getD i 0) d;rw[k2,qN,qC,qD hj,qN (l:=jx),qD hj];rfl
section
variable {prog:xz}{w:World}{A:xA}{E:xB}{s:Shared}
theorem list_sort_T2 {a:Addr}{vs:List Value}{jI:List (List Int)}{n:Nat}{P:PySem.Fin->Shared->Prop}(ho:s.heap.get? a=some (seqObj "list" vs.toArray n))(ht:Paired (Yt s.heap) vs jI)(hz:vs.length<=100000)(hne:2<=vs.length->∀ns∈jI,ns≠[])
  (h:∀p:Array Nat,p.toList.Perm (qp vs.length)->(p.toList.map λi=>jI.getD i [])=Xc jI->P (.done (.ret .none)) { s with heap:=sortedHeap s.heap a vs (qau (p.toList.map λi=>vs.getD i zo)) }) :
  xf (xw prog w) A (Builtin.«list.sort» ⟨[.ref a],[]⟩) P E s:=by
 refine ZeB ho ht hz hne λout h1 h2=>?_;obtain⟨ix,k1,k2⟩:=perm_ix zo h2;have jM:vs.length=jI.length:=qaA ht;have eo:out=qau ((qau ix).toList.map λi=>vs.getD i zo):=by
  apply Array.toList_inj.mp;rw[yz,yz];exact k2
 rw[eo];refine h (qau ix) (by rw[yz];exact k1) ?_;rw[yz,<-(UV h1).1,k2,qM];refine zD λi hi=>?_;have hl:i<vs.length:=qO.mp (k1.mem_iff.mp hi);exact(VI (ju _ [] ht hl)).symm
end
end TT
namespace TS
open L2
section
variable {prog:xz}{w:World}{A:xA}{E:xB}{s:Shared}
end
end TS
namespace TF
open L2 TS
section
variable {X:Cx}{G:Gh}
end
end TF
namespace TF
open L2 TT
section
variable {X:Cx}{G:Gh}
end
end TF
namespace TQ
open L2 TF TQ
open TP
open TP2
open TP3
end TQ
namespace TF
open L2
section
variable {X:Cx}{G:Gh}{f g:Zb->M D}
theorem Ziw {a b:Expr}{ta:TA}{p pos:Pos}(hg:Gl X "range")(hm:X.mg "range" = none)(ha:PA X [a,b] ta)(hs:xh [a,b] X.env=(false,eval a X.env)::xh [b] X.env:=by rfl)(hpl:(backTo pos (xh [b] X.env)).any (·.1)=false:=by rfl) :
  PE X (.Call (.Name "range" p) [a,b] [] pos) (fun σ H Q=>ta σ H λvs H1=>∃i j:Int,vs=[.int i,.int j]/\∀p,H1 p=none->Q (.ref p) (Zl H1 p (.rng i j))):=by
 intro jC s σ H Q I h;refine Call_ (Uy I hg hm boot_range (yw (ZM (ha pos jC s σ H _ I h) λus s1 ⟨vs,H1,I1,r1,q1⟩=>?_) hs hpl));obtain⟨i,j,e,q⟩:=q1;subst e;obtain⟨u,v,rfl,⟨t,rfl⟩,⟨t',rfl⟩⟩:=Zg2 r1;refine call_range_2 ⟨.ref s1.heap.objs.size,Zl H1 s1.heap.objs.size (.rng i j),I1.laid (t':=s1.toks+1) (λb o e=>qf _ e) (qm _) ?_,rfl,q _ (I1.hok.fresh (qm _))⟩;exact⟨_,_,_,qI _ rfl⟩
theorem Zdi (hc:X.calm=true):Xb X (.type "list") (λxs H Q=>∃r i j,xs=[.ref r]/\H r=some (.rng i j)/\(-(2 ^ 62)<=i/\i<2 ^ 62/\-(2 ^ 62)<=j/\j<2 ^ 62)/\j-i<=2 ^ 24/\∀l,H l=none->Q (.ref l) (Zl H l (.lst ((qp (j-i).toNat).map λ(k:Nat)=>V.int (i+k))))):=by
 intro jC s σ H xs us Q I r h;obtain⟨rr,i,j,rfl,hr,⟨h1,h2,h3,h4⟩,h5,q⟩:=h;obtain⟨u,rfl,ru⟩:=XU r
 cases (show u=qT rr from ru)
 obtain⟨t,u',v',hro⟩:=(show Yn X.prog X.w H s.heap rr (.rng i j)from I.hok rr _ hr);have hn:qbf i j 1=(((j-i).toNat:Nat):Int):=by rw[rangeSize_one];split <;> omega
 refine call_list_range (I.ok.hd hc) (show IsRange s.heap rr i j 1 t u' v' from hro) (small_one h1 h2 h3 h4) hn (by omega) λh' tk acc' c' hk hS hacc=>?_;obtain⟨sz,hit⟩:=hacc;have rv:=Za4 acc'.toList i λk v hv=>by
  obtain⟨t,e⟩:=hit k v (by simpa using hv);exact⟨t,by rw[e];simp⟩
 have el:acc'.toList.length=(j-i).toNat:=by simpa using sz
 rw[el]at rv;refine⟨.ref s.heap.objs.size,Zl H s.heap.objs.size (.lst ((qp (j-i).toNat).map λ(k:Nat)=>V.int (i+k))),I.laid hk (qm _) ?_,rfl,q _ (I.hok.fresh (qm _))⟩;refine⟨?_,acc'.toList,c',rv,?_⟩
 ·rw[qj,zc]
  show(j-i).toNat<=2 ^ 24;omega
 ·rw[qcR]
  exact hS
noncomputable def Jy (f g:Zb->M D):Zb->M D:=fun ρ=>Zp (f ρ) λd=>Zp (g ρ) λe=>match d,e with | .int i,.int j=>if (-(2 ^ 62)<=i/\i<2 ^ 62/\-(2 ^ 62)<=j/\j<2 ^ 62)/\j-i<=2 ^ 24 then ZB (.lst (Z0 i (j-i).toNat))else ZE | _,_=>ZE
theorem Zdj {a b:Expr}{p1 p2 pos1 pos:Pos}{r1 r2:Bool}(hc:X.calm=true)(hg:Gl X "range")(hm:X.mg "range" = none)(hg2:Gl X "list")(hm2:X.mg "list" = none)(hv2:xj "list" = some (.type "list"))(ha:PD X G r1 a f)(hb:PD X G r2 b g)
  (hs:xh [a,b] X.env=(false,eval a X.env)::xh [b] X.env:=by rfl) (hs2:xh [b] X.env=(false,eval b X.env)::xh [] X.env:=by rfl) (hpl:(backTo pos1 (xh [b] X.env)).any (·.1)=false:=by rfl)
  (he:xh [.Call (.Name "range" p1) [a,b] [] pos1] X.env=(false,eval (.Call (.Name "range" p1) [a,b] [] pos1) X.env)::xh [] X.env:=by rfl):PD X G true (.Call (.Name "list" p2) [.Call (.Name "range" p1) [a,b] [] pos1] [] pos) (Jy f g):=by
 obtain⟨t,pa,qa⟩:=ha.drop;obtain⟨u,pb,qb⟩:=hb.drop;refine⟨_,JG (Zdi hc) hg2 hm2 hv2 (YU (Ziw hg hm (YU pa (YU pb Xt hs2) hs) hs hpl) Xt he) (by decide) (by decide) he rfl,fun σ Hf H ρ s d s' Q e1 e2 e3 e4 k=>?_⟩;obtain⟨di,s1,a1,a2⟩:=ZG e4;obtain⟨dj,s2,a3,a4⟩:=ZG a2
 match di,dj,a4,a1,a3 with
 | .int i,.int j,a4,a1,a3=>
  obtain⟨c,a5⟩:=Xj a4;obtain⟨rfl,rfl⟩:=ZR a5;refine qa σ Hf H ρ s _ _ _ e1 e2 e3 a1 λv jQ H1 g0 st0 r=>?_;refine qb σ jQ H1 ρ s1 _ _ _ g0.fh (e2.ext g0.ff) st0 a3 λv2 jX H2 g1 st r2=>?_;have gg:=g0.trans g1;rw[ja.mp r,ja.mp r2];refine⟨i,j,rfl,λp hp=>⟨p,i,j,rfl,ZW,c.1,c.2,λl hl=>?_⟩⟩;have hlp:l≠p:=λz=>by rw[z,ZW]at hl;cases hl
  have jO:=Gh.grow (o:=.rng i j) st hp;have nf:=Gh.nofp jO hl;have fp:jX p=none:=by
   cases q:jX p with
   | none=>rfl
   | some o=>rw[gg.fh p o (Gh.nofp st hp) q]at hp;cases hp
  have gA:Gr G jX H2 jX (Zl H2 p (.rng i j)):=⟨λb o n q=>by rw[Zx (Yq q hp)];exact q,.refl _ _,λb o n q=>by rw[Zx (Yq q fp)];exact gg.fh b o n q,λb n h1 h2=>h1⟩;have gB:=Gr.new (o:=.lst ((qp (j-i).toNat).map λ(k:Nat)=>V.int (i+k))) gA.fh hl nf;have rr:Zi G jX (Z0 i (j-i).toNat) ((qp (j-i).toNat).map λ(k:Nat)=>V.int (i+k)):=Za5 i _;refine k (.ref l) _ _ ((gg.trans gA).trans gB) (Gh.grow jO hl) (jb.mpr ⟨l,_,rfl,nf,ZW,rr.ext gB.ff⟩) λ_=>?_;exact jm (gg.trans gA).hh (λa ea _=>by cases ea;exact nf) (Ye.mk gA.fh hl nf rr)
end
end TF
namespace TQ
open L2 TF
end TQ
namespace TF
open L2
section
variable {X:Cx}{G:Gh}
end
theorem boot_sum:xj "sum" = some (.builtin "sum"):=by decide +kernel
section
variable {X:Cx}{G:Gh}
noncomputable def W8 (ns:List Int):Bool:=ns.all λn=>decide (-4294967296<=n)&&decide (n<=4294967296)
theorem ZfC {ns:List Int}(h:W8 ns=true):∀j:Nat,-(4294967296*(j:Int))<=(ns.take j).sum/\(ns.take j).sum<=4294967296*(j:Int):=by
 intro j
 induction ns generalizing j with
 | nil=>rw[List.take_nil];show _<=(0:Int)/\(0:Int)<=_;omega
 | cons n r ih=>
  cases j with
  | zero=>rw[qcE];show _<=(0:Int)/\(0:Int)<=_;omega
  | succ j=>
   unfold W8 at h;simp only[List.all_cons,zi,decide_eq_true_eq]at h;have:=ih h.2 j;rw[qc1,qaY];omega
noncomputable def dSum:List D->Option D
 | [.lst ds]=>match ZO ds with | some ns=>if W8 ns=true then some (.int ns.sum)else none | none=>none
 | _=>none
theorem Zix (hc:X.calm=true):Xb X (.builtin "sum") (λxs H Q=>∃p ns,xs=[.ref p]/\ZF X.K H p (ns.map V.int)/\W8 ns=true/\Q (.int ns.sum) H):=by
 intro jC s σ H xs us Q I r h;obtain⟨p,ns,rfl,hp,ok,q⟩:=h;obtain⟨u,rfl,ru⟩:=XU r
 cases ru
 obtain⟨jE,rv,pl,hz⟩:=I.list hp;have hi:IntsAre jE ns:=Vj rv;obtain⟨xs,e⟩:=hi.allInts.items;have hns:ns=xs.toList.map (·.1):=by rw[<-hi.numsOf,<-nums_intItems,<-e]
 have hl:=pl.isList;rw[e]at hl;have jM:ns.length=xs.size:=by rw[hns,qj,qz]
 have hz2:ns.length<=16777216:=by
  have:=hz;rw[qj]at this;rw[show xg=16777216 by decide]at this;exact this
 refine sum_intList (I.ok.hd hc) hl (λj hj=>?_) λh' tk t' hk=>?_
 ·rw[preSum_eq,<-hns]
  have h1:=ZfC ok (j+1);have h2:-4294967296<=numAt xs j/\numAt xs j<=4294967296:=by
   rw[numAt_eq,<-hns];have hm:ns.getD j 0∈ns:=getD_mem (by omega);have:=yF.mp ok _ hm;simp only[zi,decide_eq_true_eq]at this;exact this
  constructor
  ·constructor <;> omega
  ·constructor <;> omega
 ·rw[preSum_eq,<-hns,<-jM,yG]
  exact⟨.int ns.sum,H,I.kept (t':=tk) hk,⟨_,rfl⟩,q⟩
theorem Ziy (hc:X.calm=true):Wg X G (.builtin "sum") dSum:=
 ⟨_,Zix hc,λHf H s xs ds c Q e1 st r q k=>by
  match ds,q,r with
  | [.lst es],q,r=>
   have q:(match ZO es with | some ns=>if W8 ns=true then some (D.int ns.sum)else none | none=>none)=some c:=q
   cases he:ZO es with
   | none=>rw[he]at q;cases q
   | some ns=>
    rw[he]at q;by_cases ok:W8 ns=true
    ·have q:(if W8 ns=true then some (D.int ns.sum)else none)=some c:=q
     rw[if_pos ok]at q
     cases q
     obtain⟨v,rfl,rv⟩:=ji r;obtain⟨p,vs,rfl,np,hp,rp⟩:=jb.mp rv;rw[Vm he]at rp;rw[jn rp]at hp;exact⟨p,ns,rfl,ZF.of (e1 _ _ np hp),ok,k _ Hf H (.refl e1) st (ja.mpr rfl) (.scal λz=>z)⟩
    ·have q:(if W8 ns=true then some (D.int ns.sum)else none)=some c:=q
     rw[if_neg ok]at q;cases q⟩
end
open PySem.SeqAt
open AutoSeq1 (wpAny_loadPart')
theorem ZfD (l:Addr)(items:Array Value)(n:Nat)(dd:Option Addr)(sl:Array (Option Value))(u:Tok) :
  Meets (Builtin.«tuple.__mul__» ⟨[.ref l,.int 1 u],[]⟩) (λ_ R s=>s.heap.get? l=some { cls:=.type "tuple",dict:=dd,data:=.seq items n,slots:=sl }/\R (.ok (.ret (qT l))) s):=
 .of_wp λprog w A R s h=>by
  obtain⟨hp,g,d,tk,os⟩:=s;obtain⟨hl,h⟩:=h;have f1:=qcb;have f2:=qar;have f3:=qbq;have f4:=qbh;have f5:=qbi;wp_walk using wpAny_loadPart' hl;exact⟨_,rfl,h⟩
theorem ZfE (l:Addr)(items:Array Value)(n:Nat)(dd:Option Addr)(sl:Array (Option Value))(u:Tok)(hc1:items.isEmpty=false) :
  Meets (Builtin.«tuple.__mul__» ⟨[.ref l,.int 0 u],[]⟩) (λ_ R s=>s.heap.get? l=some { cls:=.type "tuple",dict:=dd,data:=.seq items n,slots:=sl }/\R (.ok (.ret (qT s.heap.objs.size))) { s with heap:=s.heap.push { cls:=yB "tuple",data:=Data.seq #[] },toks:=s.toks }):=
 .of_wp λprog w A R s h=>by
  obtain⟨hp,g,d,tk,os⟩:=s;obtain⟨hl,h⟩:=h;have f1:=qcb;have f2:=qar;have f3:=qbq;have f4:=qbh;have f5:=qbi;wp_walk using wpAny_loadPart' hl;exact⟨_,rfl,h⟩
section
variable {X:Cx}{G:Gh}
noncomputable def Zm7 (K:qk):R2:=λx y H Q=>∃l xs,x=.ref l/\y=.int 1/\ZI K H l xs/\Q (.ref l) H
noncomputable def Zm8 (K:qk):R2:=λx y H Q=>∃l xs,x=.ref l/\y=.int 0/\ZI K H l xs/\xs≠[]/\∀p,H p=none->Q (.ref p) (Zl H p (.tup []))
theorem Zj5:Z7 X (binaryOp .Mult) (Zm7 X.K):=by
 intro jC s σ H x y v u Q I rx ry h;obtain⟨l,xs,rfl,rfl,hH,q⟩:=h
 cases rx
 obtain⟨t,rfl⟩:=ry;obtain⟨jE,r,p1,_⟩:=I.tuple hH;obtain⟨⟨cls,dd,data,sl⟩,ho,hc,n,hd⟩:=id p1;simp only at hc hd;subst hc hd;exact wpAny_binaryOp_repeat_ref (T:="tuple") (U:="int") (by decide) ⟨_,ho,rfl⟩ (λs'=>typeIs_int s' 1 t) Zab qbE yS Zaw qbu.lookup
  (call_meets yS (typeIs_int s 1 t) qbv (qbk _ _) (Zah 1 t l jE.toArray n dd sl)
   ⟨ho,rfl,⟨_,ho,rfl⟩,call_meets y8 ⟨_,ho,rfl⟩ qbj (qa6 _ _) (ZfD l jE.toArray n dd sl t) ⟨ho,.ref l,H,I,rfl,q⟩⟩)
theorem Zj6:Z7 X (binaryOp .Mult) (Zm8 X.K):=by
 intro jC s σ H x y v u Q I rx ry h;obtain⟨l,xs,rfl,rfl,hH,hne,q⟩:=h
 cases rx
 obtain⟨t,rfl⟩:=ry;obtain⟨jE,r,p1,_⟩:=I.tuple hH;obtain⟨⟨cls,dd,data,sl⟩,ho,hc,n,hd⟩:=id p1;simp only at hc hd;subst hc hd;have hne':jE≠[]:=λz=>hne (r.nil_iff.mp z);have hemp:jE.toArray.isEmpty=false:=by cases jE with | nil=>exact absurd rfl hne' | cons a b=>rfl
 exact wpAny_binaryOp_repeat_ref (T:="tuple") (U:="int") (by decide) ⟨_,ho,rfl⟩ (λs'=>typeIs_int s' 0 t) Zab qbE yS Zaw qbu.lookup
  (call_meets yS (typeIs_int s 0 t) qbv (qbk _ _) (Zah 0 t l jE.toArray n dd sl)
   ⟨ho,rfl,⟨_,ho,rfl⟩,call_meets y8 ⟨_,ho,rfl⟩ qbj (qa6 _ _) (ZfE l jE.toArray n dd sl t hemp) ⟨ho,.ref s.heap.objs.size,_,I.laid (t':=s.toks) (o:=.tup []) (λb ob q=>qf _ q) (qm _) ⟨zy _,[],.nil,qbR _ _⟩,rfl,q _ (I.hok.fresh (qm _))⟩⟩)
noncomputable def Zhr (d e:D):Option D:=match d,e with
 | .tup ds,.int k=>if k=1 then some (.tup ds)else if k=0/\ds≠[]then some (.tup [])else Ja (.tup ds) (.int k)
 | _,_=>Ja d e
theorem Zj7:Y0 X G (binaryOp .Mult) Zhr:=by
 obtain⟨r0,po,qo⟩:=ZjD (X:=X) (G:=G);refine⟨_,po.or (Zj5.or Zj6),λHf H s x y d e c Q e1 st rx ry q k=>?_⟩;by_cases hd:∃ds j,d=.tup ds/\e=.int j
 ·obtain⟨ds,j,rfl,rfl⟩:=hd
  have q:(if j=1 then some (D.tup ds)else if j=0/\ds≠[]then some (.tup [])else Ja (.tup ds) (.int j))=some c:=q;by_cases h1:j=1
  ·rw[if_pos h1]at q
   cases q
   obtain⟨p,vs,rfl,np,hp,rp⟩:=jc.mp rx;refine .inr (.inl ⟨p,vs,rfl,by rw[ja.mp ry,h1],ZI.of (e1 _ _ np hp),?_⟩);exact k (.ref p) _ _ (.refl e1) st (jc.mpr ⟨p,vs,rfl,np,hp,rp⟩) (.scal λz=>z)
  ·rw[if_neg h1]at q
   by_cases h2:j=0/\ds≠[]
   ·rw[if_pos h2]at q
    cases q
    obtain⟨p,vs,rfl,np,hp,rp⟩:=jc.mp rx;refine .inr (.inr ⟨p,vs,rfl,by rw[ja.mp ry,h2.1],ZI.of (e1 _ _ np hp),λz=>h2.2 (zQ.mp (by rw[rp.length,z];rfl)),λl hl=>?_⟩);have nf:=Gh.nofp st hl;have g2:=Gr.new (o:=.tup []) e1 hl nf;exact k (.ref l) _ _ g2 (Gh.grow st hl) (jc.mpr ⟨l,_,rfl,nf,ZW,Zi.nil_iff.mpr rfl⟩) (.scal λz=>z)
   ·rw[if_neg h2]at q
    exact .inl (qo Hf H s x y _ _ c Q e1 st rx ry q k)
 ·have q':Ja d e=some c:=by
   unfold Zhr at q;split at q
   ·exact absurd ⟨_,_,rfl,rfl⟩ hd
   ·exact q
  exact .inl (qo Hf H s x y _ _ c Q e1 st rx ry q' k)
end
end TF
namespace TQ
open L2 TF TQ
open TP
open TP2
open TP3
noncomputable def ZgC:Zb->M Out:=(Zh (Z1 1 (Yg (Zc (Zd Zm (Za 0) (dC (.int 0))) (Zc (Zs Uj (Zc (Za 0) Zf)) Zf))))
 (Zh (ZC (Yj [none,some 1] (Xk (Zd Zm (Za 0) (dC (.int 0)))) (ZK 0) Ys (Zs U4 (Zc (Za 1) (Zc (Za 0) Zf)))))
 Zn))
noncomputable def Zbb:List D->M D:=runB 2 1 ZgC
noncomputable def Zb6 (Fs:List D->M D):Zb->M Out:=(Zh (Z1 4 (Yj [none,some 2,some 0] (Yf (Za 3)) (ZK 0) (XV (asB (Zd XC (Za 0) (Za 1))) (asB (Zd VM (Za 0) (Zd Zm (Za 2) (Za 1))))) (Za 0)))
 (Zh (ZC (Zd Yc (YS (Zc (Za 2) Zf)) (Zs Fs (Zc (Za 0) (Zc (Za 1) (Zc (Za 4) Zf))))))
 Zn))
noncomputable def BG (Fs:List D->M D):List D->M D:=runB 5 4 (Zb6 Fs)
noncomputable def Zdk:Zb->M Out:=(Zh (ZC (Yj [none,some 0,some 1] (Yf (Za 2)) (ZK 0) (asB (Zd Xq (Za 0) (Zd Zm (Za 1) (Za 2)))) (Za 0)))
 Zn)
noncomputable def Zan:List D->M D:=runB 3 3 Zdk
noncomputable def Ziz:Zb->M Out:=(Zh (ZC (ZJ dSum (Zc (Yj [none,some 0] (Yf (Za 1)) (ZK 0) Ys (Zd Zm (Za 1) (Za 0))) Zf)))
 Zn)
noncomputable def JJ:List D->M D:=runB 2 2 Ziz
noncomputable def Zac (Fs:List D->M D):Zb->M Out:=(Zh (Z9 (asB (Zd YD (Za 2) (YS Zf)))
 (Zh (ZC (YS Zf))
 Zn)
 Zn)
 (Zh (Z1 3 (Yj [none,some 0,some 2] (Yf (Za 2)) (ZK 0) Ys (Zs Zan (Zc (Za 1) (Zc (Za 0) (Zc (Za 2) Zf))))))
 (Zh (Y2 (Xk (ZJ Y3 (Zc (Za 2) Zf))) (ZK 4)
 (Zh (Z9 (asB (Zd Jn (Zs JJ (Zc (Za 1) (Zc (Zd Zm (Za 3) (Za 4)) Zf))) (Zd Zm (Za 1) (Zd Zm (Za 2) (Za 4)))))
 (Zh (ZC (Zs (BG Fs) (Zc (Za 0) (Zc (Za 1) (Zc (Zd Zm (Za 2) (Za 4)) (Zc (Za 2) Zf))))))
 Zn)
 Zn)
 Zn))
 (Zh (Z1 5 (Yj [none] (Yf (Za 3)) (ZK 0) Ys (ZJ Y3 (Zc (Za 0) Zf))))
 (Zh (Z1 6 (Zd Zm (Za 2) (Zd Zew (Za 5) (ZJ Jc (Zc (Za 5) Zf)))))
 (Zh (Z1 7 (Zs (BG Fs) (Zc (Za 0) (Zc (Za 1) (Zc (Za 6) (Zc (Za 2) Zf))))))
 (Zh (Z1 8 (Zs Fs (Zc (Za 0) (Zc (Za 1) (Zc (Yj [none,some 6] (Yf (Za 2)) (ZK 0) (asB (Zd XC (Za 0) (Za 1))) (Za 0)) Zf)))))
 (Zh (ZC (BB (asB (Zd Wz (Zs JJ (Zc (Za 1) (Zc (Za 7) Zf))) (Zs JJ (Zc (Za 1) (Zc (Za 8) Zf))))) (Za 7) (Za 8)))
 Zn))))))))
noncomputable def Ui:Nat->List D->M D
 | 0=>λ_=>ZE
 | n+1=>runB 9 3 (Zac (Ui n))
noncomputable def ZaA:Zb->M Out:=(Zh (Z1 2 (Yj [none] (Yf (Zs Zbb (Zc (Zs X9 (Zc (Za 0) Zf)) Zf))) (ZK 0) Ys (ZJ Zen (Zc (Yj [none] (Yf (Za 0)) (ZK 0) Ys (Yg (Zc (Za 0) (Zc (dC (.bl true)) Zf)))) Zf))))
 (Zh (ZC (ZJ U3 (Zc (ZJ Zch (Zc (Zs (Ui 26) (Zc (Za 2) (Zc (Za 1) (Zc (Vl (Zd Zm (Za 0) (dC (.int 0)))) Zf)))) Zf)) Zf)))
 Zn))
noncomputable def Jr:List D->M D:=runB 3 2 ZaA
noncomputable def Zm9:Zb->M Out:=(Zh (Z1 1 (Zs Jr (Zc (Za 0) (Zc (Zd Zhr (Yg (Zc (dC (.int 1)) Zf)) (Zd Zm (Za 0) (dC (.int 0)))) Zf))))
 (Zh (ZC (Yg (Zc (ZJ Y3 (Zc (Za 1) Zf)) (Zc (Za 1) Zf))))
 Zn))
noncomputable def WI:List D->M D:=runB 2 1 Zm9
end TQ
namespace HT
open SetTable (leap runEnd Probe bits)
noncomputable def WU (m:Nat)(p:Probe):Probe:=
 if p.more > 0 then { p with j:=p.j+1,more:=p.more-1 } else
 { p with j:=(leap m p.i p.perturb).1,more:=runEnd m (leap m p.i p.perturb).1-(leap m p.i p.perturb).1,i:=(leap m p.i p.perturb).1,perturb:=(leap m p.i p.perturb).2 }
noncomputable def S0 (m i q:Nat):Probe:={ j:=i,more:=runEnd m i-i,i:=i,perturb:=q,dummy:=none }
noncomputable def Sh (m:Nat)(h:Int):Probe:=S0 m (bits h % (m+1)) (bits h)
theorem Zj8 (t:SetTable)(h:Int):t.probeStart h=Sh t.mask h:=rfl
inductive Fd (m:Nat)(occ:Nat->Prop)(x:Nat):Probe->Prop
 | here {p:Probe} (h:p.j=x) (ho:occ x):Fd m occ x p
 | on {p:Probe} (ho:occ p.j) (h:Fd m occ x (WU m p)):Fd m occ x p
inductive Rc (m:Nat)(occ:Nat->Prop):Nat->Probe->Prop
 | here {n:Nat} {p:Probe} (h:¬occ p.j):Rc m occ (n+1) p
 | on {n:Nat} {p:Probe} (h:Rc m occ n (WU m p)):Rc m occ (n+1) p
theorem Fd.mono {m:Nat}{o1 o2:Nat->Prop}{x:Nat}{p:Probe}(h:∀j,o1 j->o2 j)(f:Fd m o1 x p):Fd m o2 x p:=by
 induction f with
 | here a b=>exact .here a (h _ b)
 | on a _ ih=>exact .on (h _ a) ih
theorem Rc.more {m:Nat}{occ:Nat->Prop}{n:Nat}{p:Probe}(r:Rc m occ n p):∀{k:Nat},n<=k->Rc m occ k p:=by
 induction r with
 | here h=>
  intro k hk;obtain⟨k,rfl⟩:∃j,k=j+1:=⟨k-1,by omega⟩;exact .here h
 | on _ ih=>
  intro k hk;obtain⟨k,rfl⟩:∃j,k=j+1:=⟨k-1,by omega⟩;exact .on (ih (by omega))
section
variable {m:Nat}{occ:Nat->Prop}
theorem Zj9 {n i q:Nat}(h:Rc m occ n (S0 m (leap m i q).1 (leap m i q).2)):∀(more j:Nat),Rc m occ (n+more+1) { j:=j,more:=more,i:=i,perturb:=q,dummy:=none }
 | 0,j=>.on h
 | k+1,j=>.on (Zj9 h k (j+1))
theorem Zna (m i:Nat):runEnd m i-i<=9:=by unfold runEnd;split <;> omega
theorem ZeC {m i:Nat}(h:i<=m):i<=runEnd m i/\runEnd m i<=m:=by unfold runEnd;split <;> omega
noncomputable def YF (m:Nat):Nat->Nat×Nat->Nat×Nat
 | 0,x=>x
 | c+1,x=>YF m c (leap m x.1 x.2)
theorem U1 (m:Nat):∀(a b:Nat) (x:Nat×Nat),YF m (a+b) x=YF m b (YF m a x)
 | 0,b,x=>by rw[qac];rfl
 | a+1,b,x=>by
  rw[show a+1+b=(a+b)+1 by omega];exact U1 m a b _
theorem Zmc:∀(C:Nat) (x:Nat×Nat) (c:Nat),c<=C->¬occ (YF m c x).1->Rc m occ (10*C+1) (S0 m x.1 x.2)
 | C,x,0,_,h=>.here h
 | 0,x,c+1,hc,_=>by omega
 | C+1,x,c+1,hc,h=>by
  have ih:=Zmc C (leap m x.1 x.2) c (by omega) h;have:=Zj9 (n:=10*C+1) ih (runEnd m x.1-x.1) x.1;have hl:=Zna m x.1;exact this.more (by omega)
theorem ZgD (m:Nat):∀(c:Nat) (x:Nat×Nat),(YF m c x).2=x.2 / 32 ^ c
 | 0,x=>by simp[YF]
 | c+1,x=>by
  show(YF m c (leap m x.1 x.2)).2=_;rw[ZgD m c];show x.2 / 32 / 32 ^ c=_;rw[Nat.div_div_eq_div_mul,qda,qbF 32]
theorem Zka (m:Nat):∀(c:Nat) (x:Nat×Nat),x.1<=m->(YF m c x).1<=m
 | 0,x,h=>h
 | c+1,x,h=>Zka m c _ (by
  show(x.1*5+1+x.2 / 32) % (m+1)<=m;exact qaM (qbe _ (qbI m)))
noncomputable def orb (m:Nat):Nat->Nat->List Nat
 | 0,_=>[]
 | k+1,i=>i::orb m k ((i*5+1) % (m+1))
theorem ZeD (m c i:Nat):(YF m c (i,0)).2=0:=by rw[ZgD];simp
theorem Zly (m c i:Nat):YF m (c+1) (i,0)=(((YF m c (i,0)).1*5+1) % (m+1),0):=by
 rw[U1 m c 1];have:=ZeD m c i;generalize YF m c (i,0)=y at this;obtain⟨a,b⟩:=y
 cases this
 show((a*5+1+0 / 32) % (m+1),0 / 32)=_;simp
theorem Zhs (m:Nat):∀(k c:Nat) (x:Nat),x∈orb m k (YF m c (0,0)).1->∃c'<c+k,(YF m c' (0,0)).1=x
 | 0,c,x,h=>by simp[orb]at h
 | k+1,c,x,h=>by
  rcases qq.mp h with rfl | h
  ·exact⟨c,by omega,rfl⟩
  ·have e:((YF m c (0,0)).1*5+1) % (m+1)=(YF m (c+1) (0,0)).1:=by rw[Zly]
   rw[e]at h;obtain⟨c',h1,h2⟩:=Zhs m k (c+1) x h;exact⟨c',by omega,h2⟩
noncomputable def Vh (m:Nat):Prop:=m=7∨m=31∨m=127∨m=511
noncomputable def Jl (m:Nat):Bool:=((qp (m+1)).all λj=>(orb m (m+1) 0).contains j)&&(YF m (m+1) (0,0)).1==0
theorem ZnU:Jl 7=true:=by decide +kernel
theorem Znb:Jl 31=true:=by decide +kernel
theorem Zlz:Jl 127=true:=by decide +kernel
theorem ZlA:Jl 511=true:=by decide +kernel
theorem cov {m:Nat}(hm:Vh m){i j:Nat}(hi:i<=m)(hj:j<=m):∃c≤m,(YF m c (i,0)).1=j:=by
 have hc:Jl m=true:=by
  rcases hm with rfl | rfl | rfl | rfl
  ·exact ZnU
  ·exact Znb
  ·exact Zlz
  ·exact ZlA
 unfold Jl at hc;rw[zi,yF,beq_iff_eq]at hc;obtain⟨h1,h2⟩:=hc;have at':∀x≤m,∃c≤m,(YF m c (0,0)).1=x:=λx hx=>by
  have:=h1 x (qO.mpr (by omega));obtain⟨c,hc,e⟩:=Zhs m (m+1) 0 x (by simpa[YF]using this);exact⟨c,by omega,e⟩
 have per:YF m (m+1) (0,0)=(0,0):=qcN h2 (ZeD _ _ _);obtain⟨a,ha,ea⟩:=at' i hi;obtain⟨b,hb,eb⟩:=at' j hj;have eia:YF m a (0,0)=(i,0):=qcN ea (ZeD _ _ _);by_cases hab:a<=b
 ·refine⟨b-a,by omega,?_⟩
  rw[<-eia,<-U1,show a+(b-a)=b by omega];exact eb
 ·refine⟨m+1+b-a,by omega,?_⟩
  rw[<-eia,<-U1,show a+(m+1+b-a)=m+1+b by omega,U1,per];exact eb
theorem Zht (h:Int):bits h<2 ^ 64:=by
 unfold bits;have:=qaF h (show(0:Int)<2 ^ 64 by decide);have:=qai h (show(2 ^ 64:Int)≠0 by decide);omega
theorem VX {m:Nat}(hm:Vh m){i q:Nat}(hi:i<=m)(hq:q<2 ^ 64){j:Nat}(hj:j<=m):∃c≤m+13,(YF m c (i,q)).1=j:=by
 obtain⟨c,hc,e⟩:=cov hm (Zka m 13 (i,q) hi) hj;refine⟨13+c,by omega,?_⟩;rw[U1];have h2:(YF m 13 (i,q)).2=0:=by
  rw[ZgD];exact Nat.div_eq_of_lt (qaa hq (by decide))
 have e2:YF m 13 (i,q)=((YF m 13 (i,q)).1,0):=qcN rfl h2;rw[e2];exact e
theorem Bj (m:Nat)(h:Int):bits h % (m+1)<=m:=by
 exact qaM (qbe _ (qbI m))
theorem Zkb {m:Nat}(hm:Vh m)(h:Int){occ:Nat->Prop}{j:Nat}(hj:j<=m)(ho:¬occ j):Rc m occ (10*(m+15)) (Sh m h):=by
 obtain⟨c,hc,e⟩:=VX hm (Bj m h) (Zht h) hj;exact(Zmc (m+13) (bits h % (m+1),bits h) c hc (by rw[e];exact ho)).more (by omega)
noncomputable def Pb (m:Nat)(p:Probe):Prop:=p.j+p.more<=m
theorem Zmd {m i:Nat}(q:Nat)(h:i<=m):Pb m (S0 m i q):=by
 have:=ZeC h;show i+(runEnd m i-i)<=m;omega
theorem Znc {m:Nat}{p:Probe}(h:Pb m p):Pb m (WU m p):=by
 unfold WU;split
 ·show p.j+1+(p.more-1)<=m
  unfold Pb at h;omega
 ·exact Zmd 0 (by
   show(p.i*5+1+p.perturb / 32) % (m+1)<=m;exact qaM (qbe _ (qbI m)))
end
theorem ZiA {xs:Array Nat}(h:XY xs){j:Nat}(hj:j∈xs.toList):xs[qA xs j]?=some j:=by
 obtain⟨a,b,c⟩:=JE h j;obtain⟨i,hi,e⟩:=List.mem_iff_getElem.mp hj;have hi':i<xs.size:=by simpa using hi
 have e':xs.getD i 0=j:=by rw[qP,qd hi'];simpa using e
 have h1:¬i<qA xs j:=λz=>by have:=a i z;omega
 have h2:¬qA xs j<i:=λz=>by
  have:=b (qA xs j) (qm _) (by omega);have:=h.lt hi' z;omega
 have:qA xs j=i:=by omega
 rw[this,qd hi'];rw[<-e',qP,qd hi'];rfl
theorem Zkc {t:SetTable}(hd:t.dummies = #[])(hr:XY t.place)(j:Nat):(∃i,t.slot j=.live i/\t.place[i]?=some j)∨(t.slot j=.empty/\j∉t.place.toList):=by
 by_cases h:t.place[qA t.place j]?=some j
 ·exact .inl ⟨_,Zit h,h⟩
 ·refine .inr ⟨?_,λz=>h (ZiA hr z)⟩
  unfold SetTable.slot;dsimp only;rw[if_neg (by simpa using h),if_neg (by rw[hd];simp[qdb])]
theorem ZdQ {xs:Array Nat}(h:XY xs){i k x:Nat}(h1:xs[i]?=some x)(h2:xs[k]?=some x):i=k:=by
 obtain⟨l1,e1⟩:=zE.mp h1;obtain⟨l2,e2⟩:=zE.mp h2;have d1:xs.getD i 0=x:=by rw[qP,h1];rfl
 have d2:xs.getD k 0=x:=by rw[qP,h2];rfl
 rcases Nat.lt_trichotomy i k with z | z | z
 ·have:=h.lt l2 z;omega
 ·exact z
 ·have:=h.lt l1 z;omega
theorem ZdR {xs:Array Nat}{i x:Nat}(h:xs[i]?=some x):x∈xs.toList:=by
 rw[<-qy]at h;exact zu h
noncomputable abbrev XD (t:SetTable):Nat->Prop:=λj=>j∈t.place.toList
theorem ZiB (m:Nat)(p:Probe):(WU m p).dummy=p.dummy:=by unfold WU;split <;> rfl
theorem Zhu {t:SetTable}{g:Nat->Int}{h:Int}(hd:t.dummies = #[])(hr:XY t.place):∀(f n:Nat) (p:Probe),Rc t.mask (XD t) n p->n<=f->p.dummy=none->Pb t.mask p->
  (∃j,qbl t g h f p=some (.empty j none)/\j∉t.place.toList/\j<=t.mask/\(∀i x,t.place[i]?=some x->Fd t.mask (XD t) x p->g i≠h)/\∀oc:Nat->Prop,(∀j,XD t j->oc j)->oc j->Fd t.mask oc j p)∨
  (∃j i q n',qbl t g h f p=some (.candidate j i q)/\t.slot j=.live i/\t.place[i]?=some j/\g i=h/\Rc t.mask (XD t) n' q/\n'<n/\q.dummy=none/\Pb t.mask q/\(∀i' x,t.place[i']?=some x->Fd t.mask (XD t) x p->g i'≠h∨i'=i∨Fd t.mask (XD t) x q)/\∀oc:Nat->Prop,(∀j,XD t j->oc j)->∀y,Fd t.mask oc y q->Fd t.mask oc y p)
 | 0,n,p,rc,hn,_,_=>by
  cases rc <;> omega
 | f+1,n,p,rc,hn,hp,hb=>by
  unfold qbl;rcases Zkc hd hr p.j with⟨i,e,hi⟩ | ⟨e,hi⟩
  ·rw[e]
   dsimp only;have ho:XD t p.j:=ZdR hi;obtain⟨n,rfl,rc'⟩:∃k,n=k+1/\Rc t.mask (XD t) k (WU t.mask p):=by
    cases rc with
    | here z=>exact absurd ho z
    | on z=>exact⟨_,rfl,z⟩
   have hp':(WU t.mask p).dummy=none:=by rw[ZiB];exact hp
   have hb':=Znc hb;by_cases hg:g i=h
   ·rw[if_pos (by simpa using hg)]
    refine .inr ⟨p.j,i,WU t.mask p,n,rfl,e,hi,hg,rc',by omega,hp',hb',λi' x hx fd=>?_,λoc ho' y fd=>.on (ho' _ ho) fd⟩
    cases fd with
    | here a b=>
     subst a;exact .inr (.inl (ZdQ hr hx hi))
    | on a b=>exact .inr (.inr b)
   ·rw[if_neg (by simpa using hg)]
    have pass:∀i' x,t.place[i']?=some x->Fd t.mask (XD t) x p->g i'≠h∨Fd t.mask (XD t) x (WU t.mask p):=λi' x hx fd=>by
     cases fd with
     | here a b=>
      subst a;rw[ZdQ hr hx hi];exact .inl hg
     | on a b=>exact .inr b
    rcases Zhu hd hr f n (WU t.mask p) rc' (by omega) hp' hb' with⟨j,z1,z2,z3,z4,z5⟩ | ⟨j,i2,q,n',z1,z2,z3,z4,z5,z6,z7,z8,z9,z10⟩
    ·refine .inl ⟨j,z1,z2,z3,λi' x hx fd=>?_,λoc a b=>.on (a _ ho) (z5 oc a b)⟩
     rcases pass i' x hx fd with z | z
     ·exact z
     ·exact z4 i' x hx z
    ·refine .inr ⟨j,i2,q,n',z1,z2,z3,z4,z5,by omega,z7,z8,λi' x hx fd=>?_,λoc a y b=>.on (a _ ho) (z10 oc a y b)⟩
     rcases pass i' x hx fd with z | z
     ·exact .inl z
     ·exact z9 i' x hx z
  ·rw[e]
   dsimp only;refine .inl ⟨p.j,by rw[hp],hi,by unfold Pb at hb;omega,λi' x hx fd=>?_,λoc _ b=>.here rfl b⟩
   cases fd with
   | here a b=>exact absurd (a▸b) hi
   | on a b=>exact absurd a hi
noncomputable abbrev Bv (ow:Array (Option Nat)):Nat->Prop:=λj=>∃k,ow[j]?=some (some k)
theorem Zkd {m:Nat}{occ:Nat->Prop}{i q e x:Nat}:∀(d b:Nat),b+d=x->x<=e->(∀a,b<=a->a<x->occ (i+a))->occ (i+x)->Fd m occ (i+x) { j:=i+b,more:=e-b,i:=i,perturb:=q,dummy:=none }
 | 0,b,hb,he,h1,h2=>.here (by show i+b=i+x;omega) h2
 | d+1,b,hb,he,h1,h2=>.on (h1 b (qm _) (by omega)) (by
  have:=Zkd (m:=m) (q:=q) (e:=e) d (b+1) (by omega) he (λa ha=>h1 a (by omega)) h2;unfold WU;rw[if_pos (by show e-b > 0;omega)];exact this)
theorem Zhv {m:Nat}{occ:Nat->Prop}{i q x:Nat}(h:Fd m occ x (S0 m (leap m i q).1 (leap m i q).2)):∀(more j:Nat),(∀a≤more,occ (j+a))->Fd m occ x { j:=j,more:=more,i:=i,perturb:=q,dummy:=none }
 | 0,j,ho=>.on (ho 0 (qm _)) h
 | k+1,j,ho=>.on (ho 0 (by omega)) (by
  have:=Zhv h k (j+1) λa ha=>by rw[qaX,qc8 1];exact ho (a+1) (by omega)
  exact this)
theorem ZdS {m:Nat}{ow:Array (Option Nat)}(hs:ow.size=m+1):∀(f i q j:Nat),i<=m->zJ m ow f i q=some j->ow[j]?=some none/\∀oc:Nat->Prop,(∀j,Bv ow j->oc j)->oc j->Fd m oc j (S0 m i q)
 | 0,i,q,j,_,h=>by unfold zJ at h;cases h
 | f+1,i,q,j,hi,h=>by
  have hm:=ZeC hi;have get:∀a≤runEnd m i-i,(ow.getD (i+a) (some 0)).isNone=false->Bv ow (i+a):=λa ha e=>by
   have hl:i+a<ow.size:=by omega
   rw[qP,qd hl]at e
   cases eo:ow[i+a]with
   | none=>rw[eo]at e;cases e
   | some k=>exact⟨k,by rw[qd hl,eo]⟩
  unfold zJ at h
  cases e:(qp (runEnd m i+1-i)).find? λk=>(ow.getD (i+k) (some 0)).isNone with
  | some k=>
   rw[e]at h
   cases h
   obtain⟨e1,e2,e3⟩:=List.find?_range_eq_some.mp e;have e2:=qO.mp e2;have hl:i+k<ow.size:=by omega
   refine⟨?_,λoc a b=>?_⟩
   ·rw[qP,qd hl]at e1
    rw[qd hl]
    cases eo:ow[i+k]with
    | none=>rfl
    | some z=>rw[eo]at e1;cases e1
   ·exact Zkd (e:=runEnd m i-i) k 0 (by omega) (by omega) (λc _ hc=>a _ (get c (by omega) (by simpa using e3 c hc))) b
  | none=>
   rw[e]at h;obtain⟨h1,h2⟩:=ZdS hs f _ _ j (qaM (qbe _ (qbI m))) h;refine⟨h1,λoc a b=>Zhv (h2 oc a b) _ _ λc hc=>a _ (get c hc ?_)⟩;have:=qbT.mp e c (qO.mpr (by omega));exact qb6.mpr this
theorem ZdT {m:Nat}{ow:Array (Option Nat)}(hs:ow.size=m+1):∀(f i q c:Nat),i<=m->c<f->ow[(YF m c (i,q)).1]?=some none->∃j,zJ m ow f i q=some j
 | 0,i,q,c,_,h,_=>by omega
 | f+1,i,q,c,hi,hc,h=>by
  unfold zJ;have hm:=ZeC hi
  cases e:(qp (runEnd m i+1-i)).find? λk=>(ow.getD (i+k) (some 0)).isNone with
  | some k=>exact⟨_,rfl⟩
  | none=>
   cases c with
   | zero=>
    have:=qbT.mp e 0 (qO.mpr (by omega));have h:ow[i]?=some none:=h;rw[qce,qP,h]at this;simp at this
   | succ c=>exact ZdT hs f _ _ c (qaM (qbe _ (qbI m))) (by omega) h
structure Ow (m:Nat)(hs:List Int)(ow:Array (Option Nat)):Prop where
 sz:ow.size=m+1
 lt:∀j k:Nat,ow[j]?=some (some k)->k<hs.length/\Fd m (Bv ow) j (Sh m (hs.getD k 0))
 ex:∀k<hs.length,∃j:Nat,ow[j]?=some (some k)
 un:∀j j' k:Nat,ow[j]?=some (some k)->ow[j']?=some (some k)->j=j'
theorem ZbF:∀{a b:List Nat},a.Nodup->(∀x∈a,x∈b)->a.length<=b.length
 | [],_,_,_=>by simp
 | x::a,b,nd,h=>by
  have nd':=zv.mp nd;have hx:=h x (by simp);have ih:=ZbF (a:=a) (b:=b.erase x) nd'.2 λy hy=>(qcS (λ(z:y=x)=>nd'.1 (by rw[<-z];exact hy))).mpr (h y (by simp[hy]));have:=qcg hx;have:0<b.length:=qcA hx;simp only[qB];omega
theorem Zke (l:List Nat)(n:Nat)(nd:l.Nodup)(h:∀x∈l,x<n):l.length<=n:=by
 have:=ZbF nd λx hx=>qO.mpr (h x hx)
 rwa[zc]at this
theorem Ow.free {m:Nat}{hs:List Int}{ow:Array (Option Nat)}(o:Ow m hs ow)(h:hs.length<=m):∃j≤m,ow[j]?=some none:=by
 refine qap λno=>?_;have all:∀j≤m,∃k,ow[j]?=some (some k):=λj hj=>by
  have hl:j<ow.size:=by rw[o.sz];omega
  cases e:ow[j]with
  | none=>exact absurd ⟨j,hj,by rw[qd hl,e]⟩ no
  | some k=>exact⟨k,by rw[qd hl,e]⟩
 let f:Nat->Nat:=λj=>((ow[j]?).getD none).getD 0
 have hf:∀j≤m,ow[j]?=some (some (f j)):=λj hj=>by
  obtain⟨k,e⟩:=all j hj;show ow[j]?=some (some (((ow[j]?).getD none).getD 0));rw[e];rfl
 have:=Zke ((qp (m+1)).map f) hs.length (by
  refine zW.mpr (yZ.imp_of_mem λ{a b} ha hb ne e=>ne ?_);have ha:=qO.mp ha;have hb:=qO.mp hb;exact o.un a b (f a) (hf a (by omega)) (by rw[e];exact hf b (by omega))) λx hx=>by
  obtain⟨j,hj,rfl⟩:=qE.mp hx;have hj:=qO.mp hj;exact(o.lt j _ (hf j (by omega))).1
 rw[qj,zc]at this;omega
theorem Ow.step {m:Nat}(hm:Vh m){hs:List Int}{ow:Array (Option Nat)}(o:Ow m hs ow)(h:hs.length<=m)(x:Int):∃j,zJ m ow (yK m) (bits x % (m+1)) (bits x)=some j/\Ow m (hs ++ [x]) (ow.setIfInBounds j (some hs.length)):=by
 obtain⟨z,hz,ez⟩:=o.free h;obtain⟨c,hc,ec⟩:=VX hm (Bj m x) (Zht x) hz;obtain⟨j,hj⟩:=ZdT o.sz (yK m) _ _ c (Bj m x) (by unfold yK;omega) (by rw[ec];exact ez);obtain⟨f1,f2⟩:=ZdS o.sz _ _ _ j (Bj m x) hj;have hjl:j<ow.size:=(zE.mp f1).1;refine⟨j,hj,?_⟩;have at_j:(ow.setIfInBounds j (some hs.length))[j]?=some (some hs.length):=by rw[qbP,if_pos rfl,if_pos hjl]
 have at_ne:∀i,i≠j->(ow.setIfInBounds j (some hs.length))[i]?=ow[i]?:=λi hi=>by rw[qbP,if_neg (λz=>hi z.symm)]
 have oc:∀i,Bv ow i->Bv (ow.setIfInBounds j (some hs.length)) i:=λi ⟨k,e⟩=>by
  by_cases z:i=j
  ·exact⟨hs.length,by rw[z];exact at_j⟩
  ·exact⟨k,by rw[at_ne i z];exact e⟩
 have two:∀i k,(ow.setIfInBounds j (some hs.length))[i]?=some (some k)->(i=j/\k=hs.length)∨(i≠j/\ow[i]?=some (some k)):=λi k e=>by
  by_cases z:i=j
  ·rw[z,at_j]at e
   injection e with e;injection e with e;exact .inl ⟨z,e.symm⟩
  ·rw[at_ne i z]at e
   exact .inr ⟨z,e⟩
 refine⟨by rw[Array.size_setIfInBounds];exact o.sz,λi k e=>?_,λk hk=>?_,λi i' k e e'=>?_⟩
 ·rcases two i k e with⟨rfl,rfl⟩ | ⟨_,e⟩
  ·refine⟨by simp,?_⟩
   rw[show(hs ++ [x]).getD hs.length 0=x by simp];exact f2 _ oc ⟨_,at_j⟩
  ·obtain⟨k1,k2⟩:=o.lt i k e
   refine⟨by simp;omega,?_⟩;rw[show(hs ++ [x]).getD k 0=hs.getD k 0 by rw[qN,zw k1,<-qN]];exact k2.mono oc
 ·by_cases z:k=hs.length
  ·exact⟨j,by rw[z];exact at_j⟩
  ·obtain⟨i,e⟩:=o.ex k (by simp at hk;omega)
   exact⟨i,by rw[at_ne i λz=>by rw[z,f1]at e;cases e];exact e⟩
 ·rcases two i k e with⟨rfl,rfl⟩ | ⟨_,f⟩
  ·rcases two i' _ e' with⟨rfl,_⟩ | ⟨_,f'⟩
   ·rfl
   ·have:=(o.lt _ _ f').1;omega
  ·rcases two i' k e' with⟨rfl,rfl⟩ | ⟨_,f'⟩
   ·have:=(o.lt _ _ f).1;omega
   ·exact o.un _ _ _ f f'
theorem Ow.start (m:Nat):Ow m [] (Array.replicate (m+1) none):=by
 have no:∀j k,(Array.replicate (m+1) (none:Option Nat))[j]?≠some (some k):=λj k e=>by
  rw[Array.getElem?_replicate]at e;split at e <;> cases e
 exact⟨by simp,λj k e=>absurd e (no j k),λk hk=>by simp at hk,λj _ k e=>absurd e (no j k)⟩
theorem Zhw {m:Nat}(hm:Vh m):∀(rest hs:List Int) (ow:Array (Option Nat)),Ow m hs ow->hs.length+rest.length<=m+1->
  ∃ow',rest.foldl (λ(jH:Option (Array (Option Nat)×Nat)) h=>do
   let (owner,k)<-jH
   let j<-zJ m owner (yK m) (bits h % (m+1)) (bits h)
   pure (owner.setIfInBounds j (some k),k+1)) (some (ow,hs.length))=some (ow',hs.length+rest.length)/\Ow m (hs++rest) ow'
 | [],hs,ow,o,_=>⟨ow,rfl,by rw[zq];exact o⟩
 | x::rest,hs,ow,o,hl=>by
  rw[qB]at hl;obtain⟨j,e,o'⟩:=o.step hm (by omega) x;obtain⟨ow',e2,o2⟩:=Zhw hm rest (hs ++ [x]) _ o' (by simp;omega);refine⟨ow',?_,by rw[List.append_cons];exact o2⟩;rw[qae];have:(do
   let (owner,k)<-some (ow,hs.length)
   let j<-zJ m owner (yK m) (bits x % (m+1)) (bits x)
   pure (owner.setIfInBounds j (some k),k+1):Option (Array (Option Nat)×Nat))=some (ow.setIfInBounds j (some hs.length),(hs ++ [x]).length):=by
   show(do
    let j<-zJ m ow (yK m) (bits x % (m+1)) (bits x)
    pure (ow.setIfInBounds j (some hs.length),hs.length+1):Option _)=_
   rw[e];simp
  rw[this,e2];simp[qaX,qc8 1]
theorem ZfF {m:Nat}(hm:Vh m)(hs:Array Int)(hl:hs.size<=m+1):∃ow,zG m hs=some ow/\Ow m hs.toList ow:=by
 obtain⟨ow,e,o⟩:=Zhw hm hs.toList [] _ (Ow.start m) (by simpa using hl);refine⟨ow,?_,by simpa using o⟩;unfold zG;rw[<-Array.foldl_toList];have e':=congrArg (Option.map (·.1)) e;exact e'
structure Tb (t:SetTable)(es:List (Int×Value)):Prop where
 ms:Vh t.mask
 du:t.dummies = #[]
 ri:XY t.place
 le:∀j∈t.place.toList,j<=t.mask
 sz:t.place.toList.length=es.length
 fd:∀q∈es.zip t.place.toList,Fd t.mask (XD t) q.2 (Sh t.mask q.1.1)
theorem Zkf {m:Nat}{ow:Array (Option Nat)}{j k:Nat}(hs:ow.size=m+1):(j,k)∈((qp (m+1)).filterMap λj=>(ow.getD j none).map (j,·))↔ow[j]?=some (some k):=by
 rw[qaD];constructor
 ·rintro⟨i,_,e⟩
  obtain⟨z,e1,e2⟩:=yj.mp e
  cases e2
  rw[qP]at e1
  cases eo:ow[j]? with
  | none=>rw[eo]at e1;cases e1
  | some y=>rw[eo]at e1;exact congrArg some e1
 ·intro e
  have hl:=(zE.mp e).1;refine⟨j,qO.mpr (by omega),?_⟩;rw[qP,e];rfl
theorem ZgE {l:List Nat}{n:Nat}(nd:l.Nodup)(h:∀x,x∈l↔x<n):l.Perm (qp n):=(yE nd yZ).mpr λx=>by rw[h,qO]
theorem ZaH {α β:Type}{f:α->Option β}{g:α->β}:∀{l:List α},(∀q∈l,f q=some (g q))->l.filterMap f=l.map g
 | [],_=>rfl
 | a::l,h=>by
  rw[yy,h a zB,qX];exact congrArg _ (ZaH λq hq=>h q (qS _ hq))
theorem ZlB {m f v:Nat}{l p:Bool}(hm:Vh m)(es:Array (Int×Value))(hl:es.size<=m+1) :
  ∃t order,qbt m f v l p (es.map (·.1))=some (t,order)/\((order.filterMap (es[·]?)).toList).Perm es.toList/\Tb t (order.filterMap (es[·]?)).toList/\t.led=l/\t.mask=m/\t.moves=v:=by
 obtain⟨ow,e,o⟩:=ZfF hm (es.map (·.1)) (by simpa using hl);have jM:(es.map (·.1)).toList.length=es.size:=by simp
 have lm:∀j k,(j,k)∈((qp (m+1)).filterMap λj=>(ow.getD j none).map (j,·))↔ow[j]?=some (some k):=λj k=>Zkf o.sz;have ea:qbt m f v l p (es.map (·.1))=some ({ mask:=m,place:=(((qp (m+1)).filterMap λj=>(ow.getD j none).map (j,·)).map (·.1)).toArray,dummies:=#[],finger:=f,led:=l,moves:=v,plain:=p },(((qp (m+1)).filterMap λj=>(ow.getD j none).map (j,·)).map (·.2)).toArray):=by
  unfold qbt;rw[e];rfl
 have ri:=(Ziu ea).2;refine⟨_,_,ea,?_,?_,rfl,rfl,rfl⟩
 all_goals (generalize hL:((qp (m+1)).filterMap λj=>(ow.getD j none).map (j,·))=L at lm ri⊢)
 all_goals
  have nd1:(L.map (·.1)).Nodup:=(show(L.map (·.1)).toArray.toList.Pairwise (· < ·)from ri).imp λh=>qR h;have nd2:(L.map (·.2)).Nodup:=by
   refine zW.mpr ((zW.mp nd1).imp_of_mem λ{a b} ha hb ne e=>ne ?_);exact o.un a.1 b.1 a.2 ((lm _ _).mp ha) (by rw[e];exact(lm _ _).mp hb)
  have pm:(L.map (·.2)).Perm (qp es.size):=ZgE nd2 λx=>by
   constructor
   ·intro hx
    obtain⟨q,hq,rfl⟩:=qE.mp hx;have:=(o.lt q.1 q.2 ((lm _ _).mp hq)).1;omega
   ·intro hx
    obtain⟨j,hj⟩:=o.ex x (by omega);exact qE.mpr ⟨(j,x),(lm _ _).mpr hj,rfl⟩
  have ef:((L.map (·.2)).toArray.filterMap (es[·]?)).toList=L.map λq=>es.toList.getD q.2 (0,.none):=by
   rw[Array.toList_filterMap,yz,List.filterMap_map];have:∀q∈L,((λx=>es[x]?)∘λq:Nat×Nat=>q.2) q=some (es.toList.getD q.2 (0,.none)):=λq hq=>by
    have hlt:q.2<es.size:=by
     have:=(o.lt q.1 q.2 ((lm _ _).mp hq)).1;omega
    show es[q.2]?=_;rw[qN,qy,qd hlt];rfl
   exact ZaH this
 ·rw[ef]
  have:=pm.map λi=>es.toList.getD i (0,.none);rw[qM]at this;refine this.trans ?_;rw[show es.size=es.toList.length by simp,TS.range_getD]
 ·refine⟨hm,rfl,ri,λj hj=>?_,by rw[ef];simp,λq hq=>?_⟩
  ·obtain⟨q,hq,rfl⟩:=qE.mp (show j∈L.map (·.1)from hj)
   have:=(zE.mp ((lm _ _).mp hq)).1;rw[o.sz]at this;show q.1<=m;omega
  ·rw[ef]at hq
   rw[show(L.map (·.1)).toArray.toList=L.map (·.1)from rfl,List.zip_map']at hq;obtain⟨z,hz,rfl⟩:=qE.mp hq;have h2:=(o.lt z.1 z.2 ((lm _ _).mp hz)).2;have hlt:z.2<es.size:=by
    have:=(o.lt z.1 z.2 ((lm _ _).mp hz)).1;omega
   have eh:(es.map (·.1)).toList.getD z.2 0=(es.toList.getD z.2 (0,.none)).1:=by
    rw[qN,qN,qy,qy,Array.getElem?_map,qd hlt];rfl
   rw[eh]at h2;exact h2.mono λj ⟨k,hk⟩=>by
    show j∈L.map (·.1);exact qE.mpr ⟨(j,k),(lm _ _).mpr hk,rfl⟩
theorem ZlC {α β:Type}{a a':List α}{b b':List β}{x:α}{y:β}(h:a.length=b.length):(a++x::a').zip (b++y::b')=a.zip b++(x,y)::a'.zip b':=by
 rw[List.zip_append h];rfl
theorem Znd {t:SetTable}{es:Array (Int×Value)}(T:Tb t es.toList){j:Nat}{h:Int}{x:Value}(hj:j∉t.place.toList)(hm:j<=t.mask)(hf:∀oc:Nat->Prop,(∀j,XD t j->oc j)->oc j->Fd t.mask oc j (Sh t.mask h)) :
  Tb (t.put j).1 (qaK es (t.put j).2 (h,x)).toList/\(t.put j).1.mask=t.mask/\(t.put j).1.place.size=t.place.size+1/\(t.put j).1.dummies = #[]/\(t.put j).1.led=t.led:=by
 have hne:¬t.place[qA t.place j]?=some j:=λz=>hj (ZdR z);have hb:=(JE T.ri j).2.2;have ed:(t.put j).1.dummies = #[]:=by
  show(if qdb t.dummies j then _ else t.dummies) = #[];rw[T.du,if_neg (by simp[qdb])]
 have ep:(t.put j).1.place.toList=t.place.toList.take (qA t.place j)++j::t.place.toList.drop (qA t.place j):=qaw _ _ _;have ee:(qaK es (t.put j).2 (h,x)).toList=es.toList.take (qA t.place j)++(h,x)::es.toList.drop (qA t.place j):=qaw _ _ _;have hs:t.place.toList.length=es.toList.length:=T.sz;have mem:∀y,y∈(t.put j).1.place.toList↔y=j∨y∈t.place.toList:=λy=>by
  rw[ep,qY,qq]
  conv=>rhs;rw[<-zh (qA t.place j) t.place.toList,qY]
  constructor
  ·rintro(a | a | a)
   ·exact .inr (.inl a)
   ·exact .inl a
   ·exact .inr (.inr a)
  ·rintro(a | a | a)
   ·exact .inr (.inl a)
   ·exact .inl a
   ·exact .inr (.inr a)
 have lp:(t.put j).1.place.toList.length=t.place.toList.length+1:=by
  rw[ep,qG,qB,qV,zS];have:qA t.place j<=t.place.toList.length:=by simpa using hb
  omega
 refine⟨⟨T.ms,ed,Zfx T.ri hne,λy hy=>?_,?_,λq hq=>?_⟩,rfl,by simpa using lp,ed,rfl⟩
 ·rcases (mem y).mp hy with rfl | hy
  ·exact hm
  ·exact T.le y hy
 ·rw[lp,ee,qG,qB,qV,zS]
  have:qA t.place j<=t.place.toList.length:=by simpa using hb
  omega
 ·rw[ep,ee,ZlC (by rw[qV,qV,hs]),qY,qq]at hq
  have old:q∈es.toList.zip t.place.toList->Fd t.mask (XD (t.put j).1) q.2 (Sh t.mask q.1.1):=λh=>(T.fd q h).mono λy hy=>(mem y).mpr (.inr hy);have ez:es.toList.zip t.place.toList=(es.toList.take (qA t.place j)).zip (t.place.toList.take (qA t.place j))++(es.toList.drop (qA t.place j)).zip (t.place.toList.drop (qA t.place j)):=by
   rw[<-List.zip_append (by rw[qV,qV,hs]),zh,zh]
  rcases hq with a | rfl | a
  ·exact old (by rw[ez];exact qal _ a)
  ·exact hf _ (λy hy=>(mem y).mpr (.inr hy)) ((mem j).mpr (.inl rfl))
  ·exact old (by rw[ez];exact zg _ a)
section
variable {prog:xz}{w:World}{A:xA}{E:xB}{s:Shared}
variable (prog w) in
noncomputable abbrev TK (h:Heap)(ns:List Int)(a:Addr):Prop:=IsTupleKey (intKind prog w) h ns a
variable (prog w) in
noncomputable abbrev XG (ns:List Int):Int:=tupleKeyHash (intKind prog w) ns
theorem Zb7 (n:Nat){v:Value}(h:carriedByValue v=true):ofAClassStatement n v=pure false:=by
 cases v with
 | ref a=>simp[carriedByValue]at h
 | _=>first | rfl | simp[ofAClassStatement] | (unfold ofAClassStatement;rfl)
theorem ZcP {ns:List Int}{a:Addr}{Q:Bool->Shared->Prop}(hk:TK prog w s.heap ns a)(h:Q false s):xf (xw prog w) A (ofAClassStatement 8 (.ref a)) Q E s:=by
 have hT:=hk.typeIs;obtain⟨o,items,n,ho,_,hd,hi⟩:=hk;unfold ofAClassStatement;refine xa (wpAny_typeOf hT ?_);dsimp only;rw[if_pos (by simp)];refine xa (xb ?_);simp only[qaj,qQ,if_false];refine xa (xr ho hd ?_);dsimp only;refine xa ?_;rw[<-Array.forIn_toList];refine wpAny_forIn_list _ (λrest r s'=>r.1=none/\s'=s/\∀v∈rest,carriedByValue v=true) _ ?_ ?_ _ _ ⟨rfl,rfl,hi.byValue⟩
 ·rintro v rest r s' ⟨hr,rfl,hall⟩
  rw[Zb7 _ (hall v zB)];refine xa (xb ?_);simp only[qQ,if_false];exact xb ⟨rfl,rfl,λu hu'=>hall u (qS _ hu')⟩
 ·rintro⟨r1,r2⟩ s' ⟨hr,rfl,_⟩
  simp only at hr;subst hr;exact xb h
theorem ZgF {x:List Int}{vs:List Value}(hx:ItemsAre (intKind prog w) x vs):∀v∈vs,∃k t,v=.int k t:=by
 induction hx with
 | nil=>intro v hv;simp at hv
 | @cons k v' ks vs h1 _ ih=>
  intro v hv;rcases qq.mp hv with rfl | hv
  ·obtain⟨t,rfl⟩:=Value.isInt_shape (show qde k v=true from h1)
   exact⟨_,_,rfl⟩
  ·exact ih v hv
theorem ZgG {ns:List Int}{a:Addr}{Q:Bool->Shared->Prop}(hk:TK prog w s.heap ns a)(h:Q true s):xf (xw prog w) A (hashByValue 8 (.ref a)) Q E s:=by
 have hT:=hk.typeIs;obtain⟨o,items,n,ho,_,hd,hi⟩:=hk;unfold hashByValue;refine xa (wpAny_specialOf hT F.slot_tuple_hash.lookup ?_);show xf _ _ (seqItems? (.ref a) >>= _) _ _ s;refine xa (xr ho hd ?_);refine xa ?_;show xf _ _ (forIn items _ _) _ _ s;rw[<-Array.forIn_toList];refine wpAny_forIn_list _ (λrest r s'=>r.1=none/\s'=s/\∀v∈rest,∃k t,v=.int k t) _ ?_ ?_ _ _ ⟨rfl,rfl,ZgF hi⟩
 ·rintro v rest r s' ⟨hr,rfl,hall⟩
  obtain⟨k,t,rfl⟩:=hall v zB;refine xa (wpAny_of_eq (show hashByValue 7 (.int k t)=pure true by unfold hashByValue;rfl) ?_);simp only[qaj,qQ,if_false];exact xb ⟨rfl,rfl,λu hu'=>hall u (qS _ hu')⟩
 ·rintro⟨r1,r2⟩ s' ⟨hr,rfl,_⟩
  simp only at hr;subst hr;exact xb h
theorem ZlD {ns:List Int}{a:Addr}{Q:Bool->Shared->Prop}(hk:TK prog w s.heap ns a){ys:List Value}(hy:∀y∈ys,∃ms b,y=.ref b/\TK prog w s.heap ms b)(h:Q false s):xf (xw prog w) A (searchCouldBeSeen (.ref a) ys) Q E s:=by
 unfold searchCouldBeSeen;refine xa ?_;refine wpAny_forIn_list _ (λrest r s'=>r.1=none/\s'=s/\∀y∈rest,∃ms b,y=.ref b/\TK prog w s.heap ms b) _ ?_ ?_ _ _ ⟨rfl,rfl,hy⟩
 ·rintro v rest r s' ⟨hr,rfl,hall⟩
  obtain⟨ms,b,rfl,hb⟩:=hall v zB;have fin:∀u∈rest,∃ms b,u=.ref b/\TK prog w s'.heap ms b:=λu hu=>hall u (qS _ hu);dsimp only;by_cases c:(a==b||carriedByValue (.ref a)&&carriedByValue (.ref b))=true
  ·rw[if_pos c]
   exact xb ⟨rfl,rfl,fin⟩
  ·rw[if_neg c]
   refine xa (wpAny_eqIsQuiet_tuple hk ?_);simp only[qaj,qQ,if_false];refine xa (wpAny_eqIsQuiet_tuple hb ?_);simp only[qaj,qQ,if_false];refine xa (ZcP hk ?_);simp only[qQ,if_false];refine xa (ZcP hb ?_);simp only[qQ,if_false];exact xb ⟨rfl,rfl,fin⟩
 ·rintro⟨r1,r2⟩ s' ⟨hr,rfl,_⟩
  simp only at hr;subst hr;exact xb h
theorem ZlE {m:Nat}(h:Vh m):(m % 2==0)=false:=by rcases h with rfl | rfl | rfl | rfl <;> rfl
theorem Zne {α β:Type}{a:List α}{b:List β}{i:Nat}{x:α}{y:β}(h1:a[i]?=some x)(h2:b[i]?=some y):(x,y)∈a.zip b:=by
 refine zu (i:=i) ?_;rw[ym];exact⟨h1,h2⟩
theorem ZdU {a ax:Addr}{ns:List Int}{o:Obj}{es:Array (Int×Value)}{ep:Nat}{t:SetTable}(hu:A.units<cLine)(g1:s.heap.get? a=some o)(g3:o.data=.set es ep t)(T:Tb t es.toList)(hf:t.fits es.size=true)
  (hE:∀e∈es.toList,∃ms b,e=(XG prog w ms,.ref b)/\TK prog w s.heap ms b) (hx:TK prog w s.heap ns ax) {Q:SetFound->Shared->Prop}
  (there:(∃e∈es.toList,∃b,e.2=.ref b/\TK prog w s.heap ns b)->Q (.there none) s)
  (free:(∀e∈es.toList,∀b,e.2=.ref b->¬TK prog w s.heap ns b)->∀j,j∉t.place.toList->j<=t.mask->(∀oc:Nat->Prop,(∀j,XD t j->oc j)->oc j->Fd t.mask oc j (Sh t.mask (XG prog w ns)))->Q (.free j false) s) :
  ∀(f n:Nat) (st:Option Probe) (p:Probe),st.getD (Sh t.mask (XG prog w ns))=p->Rc t.mask (XD t) n p->n<=f->n<=10*(t.mask+15)->p.dummy=none->Pb t.mask p->
   (∀q∈es.toList.zip t.place.toList,∀b,q.1.2=.ref b->TK prog w s.heap ns b->Fd t.mask (XD t) q.2 p)->
   (∀oc:Nat->Prop,(∀j,XD t j->oc j)->∀y,Fd t.mask oc y p->Fd t.mask oc y (Sh t.mask (XG prog w ns)))->
   xf (xw prog w) A (setSearchFrom a (.ref ax) (XG prog w ns) true f st) Q E s
 | 0,n,st,p,_,rc,hn,_,_,_,_,_=>by
  cases rc <;> omega
 | f+1,n,st,p,hst,rc,hn,hn2,hp,hb,hFd,hup=>by
  unfold setSearchFrom;refine xa (wpAny_setState_of g1 g3 hf ?_);dsimp only;have hgw:t.gaveWay=false:=ZlE T.ms;rw[hgw];simp only[qQ,↓reduceIte];rw[Zj8,hst];generalize hM:SetTable.probe t _ (XG prog w ns) p=M;have hM':qbl t (λi=>(es[i]?.map (·.1)).getD 0) (XG prog w ns) (10*yK t.mask) p=M:=hM;have esz:t.place.size=es.size:=by simpa using T.sz
  have at':∀(i x:Nat),t.place[i]?=some x->∃(ms:List Int) (b:Addr),es[i]?=some (XG prog w ms,qT b)/\TK prog w s.heap ms b/\(es[i]?.map (·.1)).getD 0=XG prog w ms:=λi x hi=>by
   have hl:=(zE.mp hi).1;have e1:es[i]?=some es[i]:=qd (by omega);obtain⟨ms,b,e,hb⟩:=hE es[i] (by simp);exact⟨ms,b,by rw[e1,e],hb,by rw[e1,e];rfl⟩
  rcases Zhu (g:=λi=>(es[i]?.map (·.1)).getD 0) (h:=XG prog w ns) T.du T.ri (10*yK t.mask) n p rc (by unfold yK;omega) hp hb with⟨j,z1,z2,z3,z4,z5⟩ | ⟨j,i,q,n',z1,z2,z3,z4,z5,z6,z7,z8,z9,z10⟩
  ·rw[z1]at hM'
   subst hM';dsimp only;refine xb (free (λe he b eb hk=>?_) j z2 z3 λoc a b=>hup oc a j (z5 oc a b));obtain⟨i,hi⟩:=zC.mp he;have hl:i<es.size:=by simpa using(qu.mp hi).1
   have hx:t.place[i]?=some t.place[i]:=qd (by omega);obtain⟨ms,b',e1,hk',e2⟩:=at' i _ hx;rw[qy,e1]at hi
   cases hi
   cases eb
   have:=hk.inj hk';subst this;exact z4 i _ hx (hFd _ (Zne (i:=i) (by rw[qy];exact e1) (by rw[qy];exact hx)) _ rfl hk) e2
  ·rw[z1]at hM'
   subst hM';obtain⟨ms,b,e1,hk,e2⟩:=at' i j z3;have hseen:∀y∈((es.filter (·.1==XG prog w ns)).toList.map (·.2)),∃ms b,y=.ref b/\TK prog w s.heap ms b:=λy hy=>by
    obtain⟨e,he,rfl⟩:=qE.mp hy;have:=(Array.mem_filter.mp (ze.mp he)).1;obtain⟨ms,b,ee,hb⟩:=hE e (ze.mpr this);exact⟨ms,b,by rw[ee],hb⟩
   dsimp only
   cases hl:t.led
   all_goals simp only[qaj,Bool.not_false,qQ,if_false,if_true]
   all_goals try
    refine xa (ZlD hx hseen ?_);simp only[qQ,if_false]
   all_goals
    rw[e1];dsimp only;refine xa (xt (wpAny_eqBool_tuple hu hk hx ?_));refine xa (wpAny_setState_of g1 g3 hf ?_);dsimp only;by_cases eq:ms=ns
    ·subst eq
     rw[if_pos (by simp)];exact xb (there ⟨_,zu (i:=i) (by rw[qy];exact e1),b,rfl,hk⟩)
    ·rw[if_neg (by simp[eq])]
     have hsm:t.sameMemory t.moves t.mask=some true:=by unfold SetTable.sameMemory;rw[if_pos (by simp)]
     rw[hsm];dsimp only;rw[if_pos rfl,z2];dsimp only;rw[e1];dsimp only;refine xa (wpAny_isSame_ref_self ?_);refine xa (xb ?_);rw[if_pos rfl];dsimp only;rw[if_neg (by simp[eq])];refine ZdU hu g1 g3 T hf hE hx there free f n' (some q) q rfl z5 (by omega) (by omega) z7 z8 (λr hr b' eb hk'=>?_) λoc a y fd=>hup oc a y (z10 oc a y fd);obtain⟨i',hi'⟩:=zC.mp hr;rw[ym]at hi';obtain⟨p1,p2⟩:=hi';rw[qy]at p1 p2;obtain⟨ms',b2,f1,hk2,f2⟩:=at' i' _ p2;rw[f1]at p1;have p1:=(zp p1).symm;rw[p1]at eb
     cases eb
     have:=hk'.inj hk2;subst this;rcases z9 i' _ p2 (hFd r hr _ (by rw[p1]) hk')with z | z | z
     ·exact absurd f2 z
     ·subst z
      rw[e1]at f1;injection f1 with f1;injection f1 with _ f1;injection f1 with f1;subst f1;exact absurd (hk.inj hk') eq
     ·exact z
end
section
variable {prog:xz}{w:World}{A:xA}{E:xB}{s:Shared}
variable (prog w) in
noncomputable abbrev entT (x:List Int×Addr):Int×Value:=(XG prog w x.1,.ref x.2)
variable (prog w) in
noncomputable def SetT (h:Heap)(a:Addr)(ts:List (List Int×Addr)):Prop:=∃o es ep t,h.get? a=some o/\o.ExactSet/\o.data=.set es ep t/\Tb t es.toList/\Good w t/\t.place.size*5<t.mask*3/\es.toList.Perm (ts.map (entT prog w))/\(ts.map (·.1)).Nodup
noncomputable def stepT (ts:List (List Int×Addr))(x:List Int×Addr):List (List Int×Addr):=if x.1∈ts.map (·.1)then ts else ts ++ [x]
theorem Tb.fits {t:SetTable}{es:Array (Int×Value)}(T:Tb t es.toList)(h:t.place.size*5<t.mask*3):t.fits es.size=true:=by
 have:=T.sz;simp only[qz]at this;simp only[qcW,zi,beq_iff_eq,decide_eq_true_eq,SetTable.fill,T.du];refine⟨this,?_⟩;simp;omega
theorem Tb.empty {t:SetTable}{es:List (Int×Value)}(T:Tb t es)(h:t.place.size*5<t.mask*3):∃j≤t.mask,j∉t.place.toList:=by
 refine qap λno=>?_;have:=ZbF (a:=qp (t.mask+1)) (b:=t.place.toList) yZ λx hx=>qap λhn=>no ⟨x,by have:=qO.mp hx;omega,hn⟩;rw[zc,qz]at this;omega
theorem Zhx {h:Heap}{a:Addr}{o:Obj}{es:Array (Int×Value)}{ep:Nat}{t:SetTable}(ho:h.get? a=some o)(hd:o.data=.set es ep t)(es':Array (Int×Value))(t':SetTable):(h.update a (qb8 es' t')).get? a=some { o with data:=.set es' (ep+1) t' }:=by
 have:=zY (qb8 es' t') ho (by rw[putSet_of es' t' hd];rfl);rw[putSet_of es' t' hd]at this;exact this
theorem ZnV:yL 20=32:=by decide +kernel
theorem ZnW:yL 76=128:=by decide +kernel
theorem Znf:yL 308=512:=by decide +kernel
theorem ZnX {m n:Nat}(hm:Vh m)(h1:n*5<m*3)(h2:(n+1)*5≥m*3)(h3:n<306):Vh (yL (yM (n+1))-1)/\(n+1)*5<(yL (yM (n+1))-1)*3/\yL (yM (n+1))<=512:=by
 have hg:yM (n+1)=(n+1)*4:=by unfold yM;rw[if_neg (by omega)]
 rw[hg];rcases hm with rfl | rfl | rfl | rfl
 ·obtain rfl:n=4:=by omega
  rw[ZnV];exact⟨.inr (.inl rfl),by decide,by decide⟩
 ·obtain rfl:n=18:=by omega
  rw[ZnW];exact⟨.inr (.inr (.inl rfl)),by decide,by decide⟩
 ·obtain rfl:n=76:=by omega
  rw[Znf];exact⟨.inr (.inr (.inr rfl)),by decide,by decide⟩
 ·omega
theorem Zkg {a:Addr}{o:Obj}{es:Array (Int×Value)}{ep:Nat}{t:SetTable}{n:Nat}{Q:Unit->Shared->Prop}(g1:s.heap.get? a=some o)(g3:o.data=.set es ep t)(T:Tb t es.toList)(hn:es.size=n+1)(h1:n*5<t.mask*3)(h2:(n+1)*5≥t.mask*3)(h3:n<306)(hfits:t.fits es.size=true)
  (c:∀es' t',Tb t' es'.toList->es'.toList.Perm es.toList->t'.led=t.led->t'.place.size*5<t'.mask*3->Q () { s with heap:=s.heap.update a (qb8 es' t') }):xf (xw prog w) A (setRelay a (yM (n+1))) Q E s:=by
 obtain⟨k1,k2,k3⟩:=ZnX T.ms h1 h2 h3;unfold setRelay;refine xa (wpAny_setState_of g1 g3 hfits ?_);dsimp only;rw[if_neg (by rw[sizeLine_eq];omega)];obtain⟨t',ord,e,pm,T',hl,hm,hv⟩:=ZlB (f:=t.finger) (v:=t.movedTo (yL (yM (n+1))-1)) (l:=t.led) (p:=t.plain) k1 es (by omega);have e':t.relaid (es.map (·.1)) (yM (n+1))=some (t',ord):=e;have sz:(ord.filterMap (es[·]?)).size=es.size:=by rw[<-qz,pm.length_eq,qz]
 rw[e'];refine xa (wpAny_of_eq (a:=(ord.filterMap (es[·]?),t')) ?_ ?_)
 ·show(do
   if ((ord.filterMap (es[·]?)).size != es.size)=true then unsupported "internal:set-table-lost-an-element"
   pure (ord.filterMap (es[·]?),t'):Sem _)=_
  rw[sz];simp
 ·refine wpAny_storeSet_of g1 g3 (c _ t' T' pm hl ?_) (by rw[sz,sizeLine_eq];omega)
  have:=T'.sz;rw[qz,qz,sz]at this;rw[this,hm,hn];exact k2
theorem ZnY {a ax:Addr}{ns:List Int}{ts:List (List Int×Addr)}{Q:Bool->Shared->Prop}(hu:A.units<cLine)(hS:SetT prog w s.heap a ts)(hts:∀x∈ts,TK prog w s.heap x.1 x.2)(hx:TK prog w s.heap ns ax)(hroom:ts.length<306)
  (c:∀b h',yf a s.heap h'->SetT prog w h' a (stepT ts (ns,ax))->Q b { s with heap:=h' }):xf (xw prog w) A (setAddHashed a (.ref ax) (XG prog w ns)) Q E s:=by
 obtain⟨o,es,ep,t,g1,g2,g3,T,hg,hfull,pm,nd⟩:=hS;have hf:=T.fits hfull;have esz:es.size=ts.length:=by rw[<-qz,pm.length_eq,qj]
 have psz:t.place.size=es.size:=by simpa using T.sz
 have hE:∀e∈es.toList,∃ms b,e=(XG prog w ms,.ref b)/\TK prog w s.heap ms b:=λe he=>by
  obtain⟨x,hx,rfl⟩:=qE.mp (pm.mem_iff.mp he);exact⟨x.1,x.2,rfl,hts x hx⟩
 unfold setAddHashed setAddHashedIn;refine xt (xa (wpAny_setState_of g1 g3 hf ?_));dsimp only;have hbs:byScan (.ref ax) es=false:=by unfold byScan;simp[Value.scannable]
 rw[hbs];simp only[qQ,↓reduceIte];unfold setSearch;obtain⟨j0,hj0,hjn⟩:=T.empty hfull;have hm5:t.mask<=511:=by rcases T.ms with e | e | e | e <;> omega
 refine xa (ZdU hu g1 g3 T hf hE hx (λhyes=>?_) (λhno j hj hjm hfd=>?_) 100000 (10*(t.mask+15)) none (Sh t.mask (XG prog w ns)) rfl (Zkb T.ms _ hj0 hjn) (by omega) (qm _) rfl (Zmd _ (Bj _ _)) (λq hq b eb hk=>?_) λ_ _ _ h=>h)
 ·obtain⟨e,he,b,eb,hk⟩:=hyes
  dsimp only;obtain⟨x,hx',rfl⟩:=qE.mp (pm.mem_iff.mp he)
  cases eb
  have:=hk.inj (hts x hx');have hin:ns∈ts.map (·.1):=qE.mpr ⟨x,hx',this.symm⟩;refine xb ?_;have fin:=c false s.heap (yf.refl a s.heap) (by unfold stepT;rw[if_pos hin];exact⟨o,es,ep,t,g1,g2,g3,T,hg,hfull,pm,nd⟩);have e:s = { s with heap:=s.heap }:=by cases s;rfl
  rw[e];exact fin
 ·have hin:ns∉ts.map (·.1):=λz=>by
   obtain⟨x,hx',e⟩:=qE.mp z;exact hno (entT prog w x) (pm.mem_iff.mpr (qE.mpr ⟨x,hx',rfl⟩)) x.2 rfl (by rw[<-e];exact hts x hx')
  obtain⟨T1,m1,s1,d1,l1⟩:=Znd (h:=XG prog w ns) (x:=.ref ax) T hj hjm hfd;dsimp only;refine xa (wpAny_setState_of g1 g3 hf ?_);dsimp only;have ee:(qaK es (t.put j).2 (XG prog w ns,qT ax)).toList.Perm ((stepT ts (ns,ax)).map (entT prog w)):=by
   unfold stepT;rw[if_neg hin,qaw,zK];refine List.perm_middle.trans ?_;rw[zh];refine(qa7.cons _ pm).trans ?_;exact(List.perm_append_singleton _ _).symm
  have nd':((stepT ts (ns,ax)).map (·.1)).Nodup:=by
   unfold stepT;rw[if_neg hin,zK];refine qb5.mpr ⟨nd,by simp,λx hx y hy e=>hin ?_⟩;simp at hy;rw[<-hy,<-e];exact hx
  have hg1:Good w (t.put j).1:=⟨by rw[l1];exact hg.1,T1.ri⟩;generalize hE1:qaK es (t.put j).2 (XG prog w ns,qT ax)=es1 at T1 ee⊢;generalize hT1:(t.put j).1=t1 at T1 m1 s1 d1 l1 hg1⊢;have z1:es1.size=ts.length+1:=by
   have:=T1.sz;rw[qz,qz]at this;omega
  have tail:xf (xw prog w) A (do
    storeSet a es1 t1
    if (!false&&t1.tooFull)=true then setRelay a (yM (es.size+1))
    pure true) Q E s:=by
   refine xa (wpAny_storeSet_of g1 g3 ?_ (by rw[z1,sizeLine_eq];omega));have q1:=Zhx g1 g3 es1 t1;have sb:=qay s.heap a (qb8 es1 t1);have hfl:t1.fill=t1.place.size:=by unfold SetTable.fill;rw[d1];rfl
   by_cases full:t1.tooFull=true
   ·rw[if_pos (by simp[full])]
    unfold SetTable.tooFull at full;rw[hfl]at full;have full:=of_decide_eq_true full;have hf1:t1.fits es1.size=true:=by
     have:=T1.sz;rw[qz,qz]at this;simp only[qcW,zi,beq_iff_eq,decide_eq_true_eq,hfl];refine⟨this,?_⟩;rcases T.ms with e | e | e | e <;> omega
    refine xa (Zkg (n:=es.size) (s:={ s with heap:=s.heap.update a (qb8 es1 t1) }) q1 rfl T1 (by omega) (by rw[m1];omega) (by omega) (by omega) hf1 λes2 t2 T2 p2 l2 f2=>?_);refine xb (c true _ (sb.trans (qay _ a _)) ⟨_,es2,ep+2,t2,Zhx q1 rfl es2 t2,g2,rfl,T2,⟨by rw[l2];exact hg1.1,T2.ri⟩,f2,p2.trans ee,nd'⟩)
   ·rw[if_neg (by simp[full])]
    unfold SetTable.tooFull at full;rw[hfl]at full;have full:¬(t1.place.size*5≥t1.mask*3):=λz=>full (decide_eq_true z);exact xb (c true _ sb ⟨_,es1,ep+1,t1,q1,g2,rfl,T1,hg1,by omega,ee,nd'⟩)
  split
  ·refine xa (ZgG hx ?_)
   simp only[↓reduceIte];exact tail
  ·refine xa (xb ?_)
   simp only[↓reduceIte];exact tail
 ·have ⟨i,hi⟩:=zC.mp hq
  obtain⟨ms,b',ee,hk'⟩:=hE q.1 (qaE hq).1;rw[ee]at eb
  cases eb
  have:=hk.inj hk';subst this;have:=T.fd q hq;rw[ee]at this;exact this
end
end HT
namespace HT
section
variable {prog:xz}{w:World}{A:xA}{E:xB}{s:Shared}
noncomputable def firstT (ks:List (List Int×Addr))(i:Nat):List (List Int×Addr):=(ks.take i).foldl stepT []
theorem ZfG {ks:List (List Int×Addr)}{i:Nat}{x:List Int×Addr}(h:ks[i]?=some x):firstT ks (i+1)=stepT (firstT ks i) x:=by
 unfold firstT;rw[List.take_add_one,h];simp[qb7]
theorem ZiC (ts:List (List Int×Addr))(x:List Int×Addr):(∀y∈stepT ts x,y∈ts∨y=x)/\(stepT ts x).length<=ts.length+1/\∀k,k∈(stepT ts x).map (·.1)↔k∈ts.map (·.1)∨k=x.1:=by
 unfold stepT;split
 ·rename_i h
  refine⟨λy hy=>.inl hy,by omega,λk=>⟨.inl,λz=>?_⟩⟩;rcases z with z | rfl
  ·exact z
  ·exact h
 ·refine⟨λy hy=>by simpa using hy,by simp,λk=>?_⟩
  simp[eq_comm]
theorem foldT_sub:∀(ks ts:List (List Int×Addr)),(∀y∈ks.foldl stepT ts,y∈ts∨y∈ks)/\(ks.foldl stepT ts).length<=ts.length+ks.length/\∀k,k∈(ks.foldl stepT ts).map (·.1)↔k∈ts.map (·.1)∨k∈ks.map (·.1)
 | [],ts=>⟨λy hy=>.inl hy,by simp,λk=>by simp⟩
 | x::ks,ts=>by
  obtain⟨a1,a2,a3⟩:=foldT_sub ks (stepT ts x);obtain⟨b1,b2,b3⟩:=ZiC ts x;refine⟨λy hy=>?_,by rw[qae,qB];omega,λk=>?_⟩
  ·rcases a1 y hy with z | z
   ·rcases b1 y z with z | z
    ·exact .inl z
    ·exact .inr (by simp[z])
   ·exact .inr (by simp[z])
  ·rw[qae,a3 k,b3 k,qX,qq,or_assoc]
theorem firstT_sub (ks:List (List Int×Addr))(i:Nat):(∀y∈firstT ks i,y∈ks)/\(firstT ks i).length<=i:=by
 obtain⟨a,b,_⟩:=foldT_sub (ks.take i) [];refine⟨λy hy=>?_,?_⟩
 ·rcases a y hy with z | z
  ·simp at z
  ·exact yu z
 ·have:(ks.take i).length<=i:=by rw[qV];omega
  unfold firstT;simp only[qaZ]at b;omega
theorem TK.keep {h h':Heap}{ns:List Int}{a:Addr}(k:TK prog w h ns a)(hk:∀o,h.get? a=some o->h'.get? a=some o):TK prog w h' ns a:=by
 obtain⟨o,items,n,ho,r⟩:=k;exact⟨o,items,n,hk o ho,r⟩
theorem SetT.keep {h h':Heap}{a:Addr}{ts:List (List Int×Addr)}(k:SetT prog w h a ts)(hk:∀o,h.get? a=some o->h'.get? a=some o):SetT prog w h' a ts:=by
 obtain⟨o,es,ep,t,ho,r⟩:=k;exact⟨o,es,ep,t,hk o ho,r⟩
theorem ZlF {h:Heap}{a:Addr}{ks:List (List Int×Addr)}(hg:h.get? a=some (YQ (!Yr w))):SetT prog w h a (firstT ks 0):=by
 refine⟨_,#[],0,_,hg,⟨rfl,rfl,rfl⟩,rfl,⟨.inl rfl,rfl,zV,λj hj=>?_,rfl,λq hq=>?_⟩,⟨?_,zV⟩,by show 0*5<7*3;decide,.refl _,zV⟩
 ·exact absurd (show j∈([]:List Nat)from hj) (by simp)
 ·exact absurd (show q∈([]:List ((Int×Value)×Nat))from hq) (by simp)
 ·show Yr w=true∨(!Yr w)=true
  cases Yr w <;> simp
theorem Zng {R:Result->Shared->Prop}{I:Addr}{fp wr:List Addr}{G:Array GenState->Array GenState->Prop}{n:Nat}{P:Nat->Value->Prop}{St:Nat->Shared->Prop}
  (W:WalksS prog w A.in1 I fp wr G n P St) (Z:Addr) (hZ:Z∉fp) (ks:List (List Int×Addr)) (hv:∀i v,P i v->∃x,ks[i]?=some x/\v=.ref x.2) (hb:n<=306) (hu:A.in1.units<cLine) (hd:∀x∈ks,x.2≠Z/\x.2∉wr) :
  ∀(k i:Nat) (s:Shared),n-i=k->i<=n->St i s->SetT prog w s.heap Z (firstT ks i)->(∀x∈ks,TK prog w s.heap x.1 x.2)->
   (∀s',Moved (Z::wr) G s s'->SetT prog w s'.heap Z (firstT ks n)->R (.ok (.ret .none)) s')->
   xo (xw prog w) A (.builtin "set.update.loop" ⟨[.ref Z,.ref I],[]⟩) R s:=by
 have hZw:Z∉wr:=λh=>hZ (W.sub _ h);have sub:∀b∈wr,b∈Z::wr:=λb m=>qS _ m;intro k
 induction k with
 | zero=>
  intro i s hk hi st hS hT hR;have e:i=n:=by omega
  subst e;refine xm qba ?_;rw[yr qad _];show xf _ A.in1 (pyNext (.ref I) >>= _) _ _ s;refine xa (W.done s _ _ st λs' hm=>?_);show xf _ A.in1 (ret zo) _ _ s';exact xb (hR s' (hm.mono sub) (hS.keep λo e=>hm.heap Z o hZw e))
 | succ k ih=>
  intro i s hk hi st hS hT hR;have hlt:i<n:=by omega
  refine xm qba ?_;rw[yr qad _];show xf _ A.in1 (pyNext (.ref I) >>= _) _ _ s;refine xa (W.item i s _ _ hlt st λv s' hP st' hm=>?_);obtain⟨x,hx,rfl⟩:=hv i v hP;have hxm:x∈ks:=zu hx;have hS':=hS.keep λo e=>hm.heap Z o hZw e;have hT':∀y∈ks,TK prog w s'.heap y.1 y.2:=λy hy=>TK.keep (hT y hy) λo e=>hm.heap y.2 o (hd y hy).2 e;obtain⟨f1,f2⟩:=firstT_sub ks i;show xf _ A.in1 (holding [qT x.2] (setAdd Z (.ref x.2)) >>= _) _ _ s';refine xa (xt ?_);unfold setAdd;refine xt (xa (wpAny_pyHash_tuple hu (hT' x hxm) ?_));refine ZnY (s:={ s' with toks:=s'.toks+(x.1.length+1) }) hu hS' (λy hy=>hT' y (f1 y hy)) (hT' x hxm) (by omega) λb h' sb z=>?_;have z':SetT prog w h' Z (firstT ks (i+1)):=by rw[ZfG hx];exact z
  refine xb ⟨plainId_quiet qad _,ih (i+1) _ (by omega) hlt (W.frame _ s' _ _ st' (qaT _ _) λb m o e=>?_) z' (λy hy=>TK.keep (hT' y hy) λo e=>?_) λs'' hm'' hS''=>?_⟩
  ·rw[sb.2 b (λh:b=Z=>hZ (by rw[<-h];exact m))];exact e
  ·rw[sb.2 y.2 (hd y hy).1];exact e
  ·refine hR s'' (Moved.trans W.gtrans ((hm.mono sub).then_heap (qaT _ _) λb o m e=>?_) hm'') hS''
   rw[sb.2 b (λh:b=Z=>m (by rw[h];exact zB))];exact e
theorem setT_of_tuple {l:Addr}{items:Array Value}{ks:List (List Int×Addr)}{Q:xB}(hh:A.handled=none)(hl:s.heap.IsTuple l items)(hi:items.toList=ks.map λx=>.ref x.2)(hk:∀x∈ks,TK prog w s.heap x.1 x.2)(hb:items.size<=306)(hu:A.units+10<cLine)
  (h:∀(h':Heap) (tk:Nat),SetT prog w h' s.heap.objs.size (firstT ks items.size)->(∀b o,b<s.heap.objs.size->s.heap.get? b=some o->h'.get? b=some o)->Q (.ref s.heap.objs.size) { s with heap:=h',toks:=tk }) :
  xf (xw prog w) A (call (.type "set") [.ref l]) Q E s:=by
 obtain⟨c,tl,hmro⟩:=zl.mro;have hmade:=zl.made;have hsub:=zl.sub;refine xu (codeAny_of_tree ?_);show xf _ _ (callAny (.type "set") _) _ _ _;refine xb ⟨Code.quiet_builtin _ (by decide +kernel),xm qcq ?_⟩;rw[xA.under_plain (weight_type_call_type "set" [.ref l] []) rfl];have h1:=zl.notType;have h2:=zl.canCreate;have hct:=qcw (.ref l)
 repeat (any_goals (first | assumption | wp_step))
 refine codeAny_mono (Zm5 (.ref l) (E:=E) (Q₁:=λobj s₁=>obj=.ref s.heap.objs.size/\s₁ = { s with heap:=s.heap.push (YQ (!Yr w)) }) ⟨rfl,rfl⟩) λr s₁ hr=>?_
 cases r with
 | error e=>exact hr
 | ok fl=>
  cases fl with
  | ret obj=>
   obtain⟨rfl,rfl⟩:=hr;have hS:(s.heap.push (YQ (!Yr w))).get? s.heap.objs.size=some (YQ (!Yr w)):=qI _ rfl;have hT:qbZ { s with heap:=s.heap.push (YQ (!Yr w)) } (.ref s.heap.objs.size) "set":=⟨_,hS,rfl⟩;have hli:=zl.init.lookup;have hbi:=zl.init.bind (.ref s.heap.objs.size)
   repeat (any_goals (first | assumption | wp_step))
   refine codeAny_mono (codeAny_call_builtin (R:=wants (λr s₂=>r=.none/\∃h' tk,s₂ = { s with heap:=h',toks:=tk }/\SetT prog w h' s.heap.objs.size (firstT ks items.size)/\(∀b o,b<s.heap.objs.size->s.heap.get? b=some o->h'.get? b=some o)) E) zl.init.plain qcx (check_set_init_1 hT ?_)) λr₂ s₂ hr₂=>?_
   ·obtain⟨ol,hol,hcl,nl,hdl⟩:=hl;obtain⟨ocls,odict,odata,oslots⟩:=ol
    simp only at hcl hdl;subst hcl;subst hdl;have hol':(s.heap.push (YQ (!Yr w))).get? l=some { cls:=.type "tuple",dict:=odict,data:=.seq items nl,slots:=oslots }:=qf _ hol;have z1:=Zfm;have z2:=ZbT;have hne:(yB "tuple" == yB "dict")=false:=by decide
    have hl1:(s.heap.push (YQ (!Yr w))).IsTuple l items:=⟨_,hol',rfl,nl,rfl⟩;unfold Builtin.«set.__init__» noKeywords qbO;generalize hPI:pyIter=PI
    wp_walk
    subst hPI;refine wpAny_pyIter_tuple hl1 ?_;refine xa (wpAny_runValue ?_);have hlS:l<s.heap.objs.size:=qJ hol;have hh3:A.in1.in1.in1.handled=none:=by simp[hh]
    have hneI:l≠(s.heap.push (YQ (!Yr w))).objs.size:=by rw[zZ];exact qR (zO hlS)
    have hSf:s.heap.objs.size∉[(s.heap.push (YQ (!Yr w))).objs.size,l]:=by
     rw[zZ];simp only[qq,qH,ye,or_false,not_or];exact⟨qR (qat _),qbB hlS⟩
    have hval:∀(i:Nat) (v:Value),items[i]?=some v->∃x,ks[i]?=some x/\v=.ref x.2:=λi v hv=>by
     rw[<-qy,hi,qC]at hv;obtain⟨x,e1,e2⟩:=yj.mp hv;exact⟨x,e1,e2.symm⟩
    have hdd:∀x∈ks,x.2≠s.heap.objs.size/\x.2∉[(s.heap.push (YQ (!Yr w))).objs.size]:=λx hx=>by
     obtain⟨o,_,_,ho,_⟩:=hk x hx;have:=qJ ho;rw[zZ];simp only[qq,qH,ye,or_false];exact⟨qR this,qR (zO this)⟩
    refine Zng ((Walks.tuple hh3 _ l hneI items).toS) s.heap.objs.size hSf ks hval hb (by show A.units+1+1+1<cLine;omega) hdd (items.size-0) 0 _ (by omega) (zy _) ⟨⟨_,qI _ rfl,rfl,rfl⟩,(hl1.push _)⟩ ?hS0 (λx hx=>TK.keep (hk x hx) λo e=>qf _ (qf _ e)) ?hR
    case hS0=>
     have hget:((s.heap.push (YQ (!Yr w))).push { cls:=.type "tuple_iterator",data:=.fields #[.ref l,.int 0 0] }).get? s.heap.objs.size=some (YQ (!Yr w)):=qf _ hS;exact ZlF hget
    case hR=>
     intro s' hm hS';obtain⟨h',g',d',tk',os'⟩:=s';have eg:g'=s.gens:=hm.gens;have ed:d'=s.drawn:=hm.drawn;have eo:os'=s.os:=hm.os;subst eg;subst ed;subst eo;show xf _ _ _ _ _ _;refine xb ?_;show xf _ _ (ret zo) _ _ _;refine xb ⟨rfl,h',tk',rfl,hS',λb o hb e=>?_⟩;have hb1:b≠s.heap.objs.size:=qR hb;have hb2:b≠(s.heap.push (YQ (!Yr w))).objs.size:=by rw[zZ];exact qR (zO hb)
     exact hm.heap b o (by simp only[qq,qH,ye,or_false,not_or];exact⟨hb1,hb2⟩) (qf _ (qf _ e))
   ·cases r₂ with
    | error e=>exact hr₂
    | ok fl₂=>
     cases fl₂ with
     | ret r=>
      obtain⟨rfl,h',tk,rfl,hS',hk'⟩:=hr₂;repeat (any_goals (first | assumption | wp_step))
      exact h _ _ hS' hk'
     | next=>exact hr₂.elim
     | brk=>exact hr₂.elim
     | cont=>exact hr₂.elim
  | next=>exact hr.elim
  | brk=>exact hr.elim
  | cont=>exact hr.elim
end
open L2 TS
section
variable {prog:xz}{w:World}{A:xA}{E:xB}{s:Shared}
variable {a:Addr}{o:Obj}{es:Array (Int×Value)}{ep:Nat}{t:SetTable}
theorem ZfH:∀{vs:List Value} {ns:List Int},IntsAre vs ns->ItemsAre (intKind prog w) ns vs
 | _,_,.nil=>.nil
 | _,_,.cons n t h=>.cons (intKind_is _ _ _ _) (ZfH h)
theorem tk_of {h:Heap}{a:Addr}{ns:List Int}(x:Yt h (.ref a) ns):TK prog w h ns a:=by
 obtain⟨b,xs,e,⟨o,ho,hc,n,hd⟩,hi⟩:=x
 cases e
 exact⟨o,_,n,ho,hc,hd,by simpa using ZfH hi⟩
theorem sortedT {Q:xB}(hh:A.handled=none)(ho:s.heap.get? a=some o)(hex:o.ExactSet)(hd:o.data=.set es ep t)(hf:t.fits es.size=true)(hg:Good w t)(hz:es.size<=1000){jI:List (List Int)}(hi:Paired (Yt s.heap) (es.toList.map (·.2)) jI)(hne:2<=jI.length->∀ns∈jI,ns≠[])
  (k:∀(ix:List Nat) (L:Addr) (h':Heap) (tk:Nat) d (e:Nat),ix.Perm (qp es.size)->(ix.map λi=>jI.getD i [])=Xc jI->(∀b u,s.heap.get? b=some u->h'.get? b=some u)->s.heap.objs.size<=L->h'.get? L=some (seqObj "list" (ix.map λi=>(es.toList.map (·.2)).getD i .none).toArray e)->Q (.ref L) { s with heap:=h',toks:=tk,drawn:=d }) :
  xf (xw prog w) A (call (.builtin "sorted") [.ref a]) Q E s:=by
 refine Calls.call_function_entry kind_sorted plain_sorted entry_sorted (args_sorted1 _) ?_;unfold Builtin.«sorted»;refine xa (m:=checkCount "sorted" 1 1 _) (xb ?_);refine xa (ZfB hh ho hex hd hf hg hz λvs h1 tk d kp hs pm=>?_);obtain⟨ix,p1,p2⟩:=TT.perm_ix zo pm;have hel:(es.toList.map (·.2)).length=es.size:=by simp
 rw[hel]at p1;have hb:∀i∈ix,i<(es.toList.map (·.2)).length:=λi hi=>by rw[hel];exact qO.mp (p1.mem_iff.mp hi)
 have hl:vs.length=es.size:=by rw[pm.length_eq,hel]
 have hnl:jI.length=es.size:=by rw[<-qaA hi,hel]
 have hpk:Paired (Yt s.heap) vs (ix.map λi=>jI.getD i []):=by
  have:=TS.Paired.pick zo [] hi ix hb;rw[<-p2]at this;exact this
 have hnp:(ix.map λi=>jI.getD i []).Perm jI:=by
  have:=p1.map λi=>jI.getD i [];rw[<-hnl,TS.range_getD]at this;exact this
 refine xa (wpAny_newList ?_ (by rw[sizeLine_eq];omega));have g1:(h1.push (seqObj "list" vs.toArray 0)).get? h1.objs.size=some (seqObj "list" vs.toArray 0):=qI _ rfl;have ht:Paired (Yt (h1.push (seqObj "list" vs.toArray 0))) vs (ix.map λi=>jI.getD i []):=L2.Paired.mapP hpk λv ns ⟨a,xs,e,⟨o,ho,r⟩,i⟩=>⟨a,xs,e,⟨o,qf _ (kp a o ho),r⟩,i⟩;show xf _ _ _ _ _ { s with heap:=h1.push (seqObj "list" vs.toArray 0),toks:=tk,drawn:=d };refine xa (xt (wpAny_call_entry slot_list_sort ⟨_,g1,rfl⟩ entry_list_sort (TT.list_sort_T2 (s:={ s with heap:=h1.push (seqObj "list" vs.toArray 0),toks:=tk,drawn:=d }) g1 ht (by omega) (λz ns hm=>hne (by omega) ns (hnp.mem_iff.mp hm)) λp a1 a2=>⟨_,rfl,?_⟩) (args_list_sort _)));obtain⟨e,he⟩:=sortedHeap_at (out:=qau (p.toList.map λi=>vs.getD i zo)) g1;have hpl:∀i∈p.toList,i<ix.length:=λi hi=>by
  have:=qO.mp (a1.mem_iff.mp hi);rw[p2,qj]at this;exact this
 have comp:∀{α:Type} (l:List α) (d:α),(p.toList.map λi=>(ix.map λi=>l.getD i d).getD i d)=(p.toList.map λi=>ix.getD i 0).map λi=>l.getD i d:=λl d=>by
  rw[qM];refine zD λi hi=>?_;have:=hpl i hi;show(ix.map λi=>l.getD i d).getD i d=l.getD (ix.getD i 0) d;rw[qN,qC,qD this,qN (l:=ix),qD this];rfl
 refine xb ⟨_,rfl,k (p.toList.map λi=>ix.getD i 0) h1.objs.size _ tk d e ?_ ?_ (λb u q=>?_) (qb9 hs) ?_⟩
 ·have:=a1.map λi=>ix.getD i 0
  rw[show vs.length=ix.length by rw[p2,qj],TS.range_getD]at this;exact this.trans p1
 ·rw[<-comp jI [],a2]
  exact ZaG hnp
 ·have q1:=kp b u q
  have l1:=qJ q1;rw[sortedHeap_old (qR l1) (by rw[zZ];exact zO l1)];exact qf _ q1
 ·rw[<-comp (es.toList.map (·.2)) zo,<-p2]
  exact he
end
end HT
namespace TF
open L2 TS
section
variable {X:Cx}{G:Gh}
noncomputable def Bw (w:World)(o:Obj)(vs:List V):Prop:=∃es ep t,o.data=.set es ep t/\o.ExactSet/\t.fits es.size=true/\HT.Good w t/\es.size<=306/\Zy vs (es.toList.map (·.2))
theorem Zhy {T:V->List Int->Prop}(hT:∀v ns,T v ns->∃a,v=.ref a):∀{vs:List V} {jI:List (List Int)},Paired T vs jI->∃ks:List (List Int×Addr),vs=ks.map (λx=>V.ref x.2)/\jI=ks.map (·.1)/\∀x∈ks,T (.ref x.2) x.1
 | _,_,.nil=>⟨[],rfl,rfl,by simp⟩
 | _,_,.cons r t=>by
  obtain⟨ks,rfl,rfl,h⟩:=Zhy hT t;obtain⟨a,rfl⟩:=hT _ _ r;exact⟨(_,a)::ks,rfl,rfl,λx hx=>by
   rcases qq.mp hx with rfl | hx
   ·exact r
   ·exact h x hx⟩
theorem ZdV:∀{ks:List (List Int×Addr)} {jE:List Value},Zy (ks.map λx=>V.ref x.2) jE->jE=ks.map λx=>.ref x.2
 | [],_,r=>by cases r;rfl
 | x::ks,_,r=>by
  cases r with
  | cons a b=>
   cases a
   rw[ZdV b];rfl
theorem ZdW:∀(ks:List (List Int×Addr)),Zy (ks.map λx=>V.ref x.2) (ks.map λx=>.ref x.2)
 | []=>.nil
 | x::ks=>.cons rfl (ZdW ks)
theorem ZdX {T:V->List Int->Prop}:∀{ks:List (List Int×Addr)},(∀x∈ks,T (.ref x.2) x.1)->Paired T (ks.map λx=>V.ref x.2) (ks.map (·.1))
 | [],_=>.nil
 | x::ks,h=>.cons (h x (by simp)) (ZdX λy hy=>h y (by simp[hy]))
theorem Znh {jC:Qb}{s:Shared}{σ:St}{H:Hp}{T:V->List Int->Prop}{Q:VK}(I:Inv X jC σ H s)(ks:List (List Int×Addr))(hTk:∀x∈ks,T (.ref x.2) x.1)(hl:ks.length<=306)
  (q:∀l o vs' nss',H l=none->Bw X.w o vs'->Paired T vs' nss'->nss'.Nodup->(∀x,x∈nss'↔x∈ks.map (·.1))->Q (.ref l) (Zl H l (.frz o (.own 0)))) (n:Nat) (hn:n=ks.length) (h':Heap) (tk:Nat) (hS:HT.SetT X.prog X.w h' s.heap.objs.size (HT.firstT ks n)) (hk:∀b o,b<s.heap.objs.size->s.heap.get? b=some o->h'.get? b=some o):EP X jC σ Q (.ref s.heap.objs.size) { s with heap:=h',toks:=tk }:=by
 subst hn;obtain⟨o,es,ep,t,g1,g2,g3,Tb,hg,hfull,pm,nd⟩:=hS;obtain⟨ix,p1,p2⟩:=TT.perm_ix ((0:Int),zo) pm;obtain⟨f1,f2⟩:=HT.firstT_sub ks ks.length;have f3:=(HT.foldT_sub (ks.take ks.length) []).2.2;rw[yG]at f3;have e0:HT.firstT ks ks.length=ks.foldl HT.stepT []:=by unfold HT.firstT;rw[yG]
 obtain⟨ts,hts,et⟩:∃ts:List (List Int×Addr),ts.Perm (HT.firstT ks ks.length)/\es.toList=ts.map (HT.entT X.prog X.w):=by
  refine⟨ix.map λi=>(HT.firstT ks ks.length).getD i ([],0),?_,?_⟩
  ·rw[qj]at p1
   have:=p1.map λi=>(HT.firstT ks ks.length).getD i ([],0);rw[TS.range_getD]at this;exact this
  ·rw[p2,qM]
   refine zD λi hi=>?_;have:=qO.mp (p1.mem_iff.mp hi);rw[qj]at this;show((HT.firstT ks ks.length).map (HT.entT X.prog X.w)).getD i (0,zo)=HT.entT X.prog X.w ((HT.firstT ks ks.length).getD i ([],0));rw[qN,qC,qD this,qN,qD this];rfl
 have esz:es.size=ts.length:=by rw[<-qz,et,qj]
 have tsl:ts.length<=306:=by rw[hts.length_eq];omega
 refine⟨.ref s.heap.objs.size,_,I.laid (a:=s.heap.objs.size) (o:=.frz o (.own 0)) (t':=tk) (λb o e=>hk b o (qJ e) e) (qm _) ⟨g1,o,g1⟩,rfl,q _ o (ts.map λx=>V.ref x.2) (ts.map (·.1)) (I.hok.fresh (qm _)) ⟨es,ep,t,g3,g2,Tb.fits hfull,hg,by omega,?_⟩ (ZdX λx hx=>hTk x (f1 x (hts.mem_iff.mp hx))) ((hts.map _).nodup_iff.mpr nd) λx=>?_⟩
 ·rw[et,qM]
  exact ZdW ts
 ·rw[(hts.map (·.1)).mem_iff,e0,f3]
  simp
theorem ZgH (hc:X.calm=true)(hu:X.A.units+10<cLine):Xb X (.type "set") (λxs H Q=>∃(p:Addr) (vs:List V) (jI:List (List Int)) (T:V->List Int->Prop),xs=[.ref p]/\ZI X.K H p vs/\(∀v ns,T v ns->∃a,v=.ref a/\ZI X.K H a (ns.map V.int))/\Paired T vs jI/\jI.length<=306/\
  ∀l o vs' nss',H l=none->Bw X.w o vs'->Paired T vs' nss'->nss'.Nodup->(∀x,x∈nss'↔x∈jI)->Q (.ref l) (Zl H l (.frz o (.own 0)))):=by
 intro jC s σ H xs us Q I r h;obtain⟨p,vs,jI,T,rfl,hp,hT,pT,hl,q⟩:=h;obtain⟨u,rfl,ru⟩:=XU r
 cases ru
 obtain⟨jE,rv,pl,hz⟩:=I.tuple hp;have hta:=ZbB I hT rv pT;obtain⟨ks,rfl,rfl,hk⟩:=Zhy (λv ns h=>let ⟨a,e,_⟩:=hT v ns h;⟨a,e⟩) pT;have ei:=ZdV rv;subst ei;rw[qj]at hl;refine HT.setT_of_tuple (I.ok.hd hc) (show s.heap.IsTuple p (ks.map λx=>qT x.2).toArray from pl) (ks:=ks) (by simp) (λx hx=>?_) (by simpa using hl) hu λh' tk hS hkp=>Znh I ks hk hl q _ (by simp) h' tk hS hkp;obtain⟨a,e,hq⟩:=hT _ _ (hk x hx)
 cases e
 obtain⟨xs,rv,pl,hz⟩:=I.tuple hq;exact HT.tk_of ⟨x.2,xs,rfl,show s.heap.IsTuple x.2 xs.toArray from pl,Vj rv⟩
theorem Zdl (hc:X.calm=true):Xb X (.builtin "sorted") (λxs H Q=>∃(p:Addr) (o:Obj) (vs:List V) (jI:List (List Int)) (T:V->List Int->Prop),xs=[.ref p]/\H p=some (.frz o (.own 0))/\Bw X.w o vs/\(∀v ns,T v ns->∃a,v=.ref a/\ZI X.K H a (ns.map V.int))/\Paired T vs jI/\
  (2<=jI.length->∀ns∈jI,ns≠[])/\∀l vs',Paired T vs' (Xc jI)->H l=none->Q (.ref l) (Zl H l (.lst vs'))):=by
 intro jC s σ H xs us Q I r h;obtain⟨p,o,vs,jI,T,rfl,hp,hS,hT,pT,hne,q⟩:=h;obtain⟨u,rfl,ru⟩:=XU r
 cases ru
 obtain⟨ho,_⟩:=(show Yn X.prog X.w H s.heap p (.frz o (.own 0))from I.hok p _ hp);obtain⟨es,ep,t,g3,g2,gf,gg,gz,gv⟩:=hS;have hel:(es.toList.map (·.2)).length=es.size:=by simp
 have hvl:vs.length=es.size:=by rw[gv.length,hel]
 refine HT.sortedT (I.ok.hd hc) ho g2 g3 gf gg (by omega) (ZbB I hT gv pT) hne λix L h' tk d e p1 p2 kp hL he=>?_;have hb:∀i∈ix,i<es.size:=λi hi=>qO.mp (p1.mem_iff.mp hi);have pv:Zy (ix.map λi=>vs.getD i V.non) (ix.map λi=>(es.toList.map (·.2)).getD i zo):=TS.Paired.pick _ _ gv _ λi m=>by rw[hvl];exact hb i m
 have pt:Paired T (ix.map λi=>vs.getD i V.non) (ix.map λi=>jI.getD i []):=TS.Paired.pick _ _ pT _ λi m=>by rw[hvl];exact hb i m
 rw[p2]at pt;refine⟨.ref L,_,jA (s:={ s with heap:=h',toks:=tk }) (I.laid (a:=L) (o:=.lst (ix.map λi=>vs.getD i V.non)) (t':=tk) kp hL ⟨?_,_,e,pv,he⟩),rfl,q _ _ pt (I.hok.fresh hL)⟩;have:=p1.length_eq;rw[zc]at this;rw[qj,this,sizeLine_eq];omega
end
section
variable {X:Cx}{G:Gh}
noncomputable def W2:List (List Int)->List (List Int)
 | []=>[]
 | x::l=>if x∈l then W2 l else x::W2 l
theorem JF {x:List Int}:∀{l:List (List Int)},x∈W2 l↔x∈l
 | []=>.rfl
 | y::l=>by
  unfold W2;split
  ·rename_i h
   rw[JF,qq];exact⟨.inr,λz=>z.elim (λe=>e▸h) id⟩
  ·rw[qq,qq,JF]
theorem BP:∀l:List (List Int),(W2 l).Nodup
 | []=>.nil
 | y::l=>by
  unfold W2;split
  ·exact BP l
  ·rename_i h
   exact zv.mpr ⟨λz=>h (JF.mp z),BP l⟩
noncomputable def J9 (jI:List (List Int)):Prop:=jI.length<=306/\∀ns∈jI,ns≠[]
instance (jI:List (List Int)):Decidable (J9 jI):=by unfold J9;infer_instance
noncomputable def Bk (ds:List D):M D:=match V5 ds with | some jI=>if J9 jI then ZB (.lst ((Xc (W2 jI)).map XX))else ZE | none=>ZE
noncomputable def BU (f:Zb->M D):Zb->M D:=fun ρ=>Zp (f ρ) λd=>match d with
 | .tup ds=>Bk ds
 | _=>ZE
theorem Zhz {Hf H:Hp}(e:Zz G Hf H)(v:V)(ns:List Int)(h:Zj G Hf (XX ns) v):∃a,v=.ref a/\ZI X.K H a (ns.map V.int):=by
 obtain⟨a,us,rfl,na,ha,ra⟩:=jc.mp h;rw[jn ra]at ha;exact⟨a,rfl,ZI.of (e _ _ na ha)⟩
theorem ZlG {Hf H jQ H1:Hp}{jI:List (List Int)}{s1 s':Pn}{d:D}{Q:VK}(g1:Gr G Hf H jQ H1)(jT:G.st s1 H1)(h:(if J9 jI then ZB (D.lst ((Xc (W2 jI)).map XX))else ZE) s1=some (d,s'))
  (k:∀(v:V) (Hf' H':Hp),Gr G Hf H Hf' H'->G.st s' H'->Zj G Hf' d v->(true=true->Ye G H Hf' d v)->Q v H') (l:Addr) (o:Obj) (vs':List V) (nss':List (List Int)) (hn:H1 l=none) (hO:Bw X.w o vs') (pT:Paired (λv ns=>Zj G jQ (XX ns) v) vs' nss') (nd:nss'.Nodup) (hm:∀x,x∈nss'↔x∈jI) :
  ∃(p:Addr) (o':Obj) (vs:List V) (jI:List (List Int)) (T:V->List Int->Prop),[V.ref l]=[.ref p]/\Zl H1 l (.frz o (.own 0)) p=some (.frz o' (.own 0))/\Bw X.w o' vs/\(∀v ns,T v ns->∃a,v=.ref a/\ZI X.K (Zl H1 l (.frz o (.own 0))) a (ns.map V.int))/\Paired T vs jI/\
   (2<=jI.length->∀ns∈jI,ns≠[])/\∀l' vs',Paired T vs' (Xc jI)->Zl H1 l (.frz o (.own 0)) l'=none->Q (.ref l') (Zl (Zl H1 l (.frz o (.own 0))) l' (.lst vs')):=by
 obtain⟨ok,h⟩:=Xj h;obtain⟨rfl,rfl⟩:=ZR h;have nf:=Gh.nofp jT hn;have g2:=Gr.new (o:=.frz o (.own 0)) g1.fh hn nf;have jO:=Gh.grow (o:=.frz o (.own 0)) jT hn;have es:Xc nss'=Xc (W2 jI):=ZaG ((yE nd (BP jI)).mpr λx=>by rw[hm,JF]);refine⟨l,o,vs',nss',λv ns=>Zj G jQ (XX ns) v,rfl,ZW,hO,λv ns r=>Zhz g2.fh v ns (r.ext g2.ff),pT,λ_ ns hns=>ok.2 ns ((hm ns).mp hns),λl' vs2 pt hn'=>?_⟩;rw[es]at pt;have nf':=Gh.nofp jO hn';have g3:=Gr.new (o:=.lst vs2) g2.fh hn' nf';have rl:=(ZdM pt).ext g2.ff;exact k (.ref l') _ _ ((g1.trans g2).trans g3) (Gh.grow jO hn') (jb.mpr ⟨l',_,rfl,nf',ZW,rl.ext g3.ff⟩) λ_=>jm (g1.trans g2).hh (λa ea _=>by cases ea;exact nf') (Ye.mk g2.fh hn' nf' rl)
theorem ZeE {a:Expr}{p1 p2 pos1 pos:Pos}{r1:Bool}{f:Zb->M D}(hc:X.calm=true)(hu:X.A.units+64<cLine)(hg:Gl X "sorted")(hm:X.mg "sorted" = none)(hv:xj "sorted" = some (.builtin "sorted"))(hg2:Gl X "set")(hm2:X.mg "set" = none)(hv2:xj "set" = some (.type "set"))(ha:PD X G r1 a f)
  (hs:xh [a] X.env=(false,eval a X.env)::xh [] X.env:=by rfl)
  (hs2:xh [qc9 (.Name "set" p2) [a] [] pos1] X.env=(false,eval (qc9 (.Name "set" p2) [a] [] pos1) X.env)::xh [] X.env:=by rfl) (hpl:(backTo pos (xh [] X.env)).any (·.1)=false:=by rfl) (hpl1:(backTo pos1 (xh [] X.env)).any (·.1)=false:=by rfl) :
  PD X G true (.Call (.Name "sorted" p1) [.Call (.Name "set" p2) [a] [] pos1] [] pos) (BU f):=by
 obtain⟨t,pa,qa⟩:=ha.drop;refine⟨_,UW (Zdl hc) hg hm hv (YU (JG (ZgH hc (by omega)) hg2 hm2 hv2 (YU pa Xt hs) (by decide) (by decide) hs hpl1) Xt hs2) (by decide) (by decide) hs2 hpl,fun σ Hf H ρ s d s' Q e1 e2 e3 e4 k=>?_⟩;obtain⟨d0,s1,a1,a2⟩:=ZG e4;refine qa σ Hf H ρ s d0 s1 _ e1 e2 e3 a1 λv jQ H1 g1 jT r1=>?_
 match d0,a2,r1 with
 | .tup ds,a2,r1=>
  have a2:Bk ds s1=some (d,s'):=a2;unfold Bk at a2
  cases he:V5 ds with
  | none=>rw[he]at a2;cases a2
  | some jI=>
   rw[he]at a2;have a2:(if J9 jI then ZB (D.lst ((Xc (W2 jI)).map XX))else ZE) s1=some (d,s'):=a2;obtain⟨p,vs,rfl,np,hp,rp⟩:=jc.mp r1;rw[ZdK he]at rp;exact⟨p,vs,jI,λv ns=>Zj G jQ (XX ns) v,rfl,ZI.of (g1.fh _ _ np hp),Zhz g1.fh,ZdL rp,(Xj a2).1.1,λl o vs' nss' hn hO pT nd hm=>ZlG g1 jT a2 k l o vs' nss' hn hO pT nd hm⟩
end
end TF
namespace TF
open L2
section
variable {X:Cx}{G:Gh}
end
section
variable {X:Cx}{G:Gh}
end
section
variable {X:Cx}{G:Gh}
theorem va (i:Nat){x:Str}{pos:Pos}(hN:X.N[i]?=some x:=by rfl)(hv:By X.env.scope x:=by first | exact za rfl | exact qa4 (za rfl) | exact qa4 (qa4 rfl))(hd:(x==("__debug__" : Str))=false:=by decide)(hcd:(x==("__classdict__" : Str))=false:=by decide):PD X G false (.Name x pos) (Za i):=Zf9 i (pv i hN hv hd hcd)
theorem bk (XN:List Str)(NS:List (Str×NameKind))(N':List Str)(src:List (Option Nat)){scope:Scope}(a:X.N=XN:=by rfl)(b:X.env.scope.names=NS:=by rfl)(c:∀y∈scope.names,y.2≠.cell:=by decide +kernel)(d:scope.kind=.function:=by rfl)(e:∀y∈scope.names,y.2=.local->scope.names.lookup y.1=some .local:=by decide +kernel)(f:src.length=N'.length:=by rfl)(g:∀y∈scope.names,y.2=.free->NS.lookup y.1=some .cell∨NS.lookup y.1=some .free:=by decide +kernel)
  (h:(src.zip N').all (λp=>match p.1 with | some j=>decide (XN[j]?=some p.2)&&(decide (NS.lookup p.2=some .cell)||decide (NS.lookup p.2=some .free))&&decide (scope.names.lookup p.2=some .free) | none=>true)=true:=by decide +kernel):BlkS X XN NS N' src scope:=⟨a,b,c,d,e,f,g,h⟩
theorem YH {N P:List Str}{sc:Scope}(a:sc.kind=.function:=by rfl)(b:sc.isCoroutine=false:=by rfl)(c:sc.isGenerator=false:=by rfl)(d:N.Nodup:=by decide +kernel)(e:N.take P.length=P:=by rfl)(f:∀x∈P,sc.names.lookup x=some .local∨sc.names.lookup x=some .cell:=by decide +kernel)(g:∀y∈sc.names,y.2≠.free:=by decide +kernel):FnScope N P sc:=⟨a,b,c,d,e,f,g⟩
end
section
variable {X:Cx}{G:Gh}{elt tg iter:Expr}{ifs:List Expr}{scope:Scope}{pos pos' spos:Pos}{XN:List Str}{NS:List (Str×NameKind)}{N':List Str}{src:List (Option Nat)}{fi:Zb->M (List D)}{τ:D->Zb->Option Zb}{ft:Zb->M Bool}{fe:Zb->M D}{r1:Bool}{i:Nat}{x:Str}
theorem X1 {cl:_}{jC:_}{C:_}{s:_}{H:_}{fp:_}{x:Str}{pos:Pos}{ok:Nat->Prop}(nd:N'.Nodup:=by decide +kernel)(hi:N'[i]?=some x:=by rfl)(hx:Ve (Yv X jC N' scope cl C s H fp).env.scope x:=by exact za rfl)(oi:ok i:=by rfl)(hf:(Yv X jC N' scope cl C s H fp).fn x=true∨(Yv X jC N' scope cl C s H fp).env.scope.names.lookup x=some .local:=by first | exact .inl rfl | exact .inr rfl | assumption):Vg (Yv X jC N' scope cl C s H fp) G (.Name x pos) ok (ZK i):=Xx nd hi hx oi hf
theorem W9 (B:BlkS X XN NS N' src scope)(hi:X0 X G tg iter fi)
  (hg:∀{cl jC C s H fp},Vg (Yv X jC N' scope cl C s H fp) G tg (λi=>src[i]?=some none) τ) (ht:∀{cl jC C s H fp},Vv (Yv X jC N' scope cl C s H fp) ifs (UK G ft)) (he:∀{cl jC C s H fp},PD (Yv X jC N' scope cl C s H fp) G r1 elt fe)
  (hc:X.calm=true:=by rfl) (hs:∀x,foldedSetIterable iter X.env x=pure x:=by intro _;rfl):PD X G true (.ListComp elt [⟨tg,iter,ifs,0⟩] scope pos) (Yj src fi τ ft fe):=Zjl hc B hi (λ_ _ _ _ _ _=>hg) (λ_ _ _ _ _ _=>ht) (λ_ _ _ _ _ _=>he) hs
end
theorem ZU {X:Cx}{G:Gh}{k:Nat}{x:Str}{n:Nat}{fr:Bool}{GG:Gh->Prop}{F:List D->M D}{p pos:Pos}{e:Expr}{es:List Expr}{fs:Zb->M (List D)}(c:ZL X.prog X.w X.K X.mg X.base k x n fr GG F)(hG:GG G)(hr:Room k X.A)
  (ha:Wy X G (e::es) fs) (hg:Gl X x:=by rfl) (hal:∀ρ s ds s',fs ρ s=some (ds,s')->ds.length=(e::es).length:=by first | exact YN V2 | exact YN (YN V2) | exact YN (YN (YN V2)) | exact YN (YN (YN (YN V2))) | exact YN (YN (YN (YN (YN V2)))) | exact YN (YN (YN (YN (YN (YN V2)))))) (jM:(e::es).length=n:=by rfl)
  (hdb:(x==("__debug__" : Str))=false:=by decide) (he:xh (e::es) X.env=(false,eval e X.env)::xh es X.env:=by rfl) (hpl:(backTo pos (xh es X.env)).any (·.1)=false:=by rfl) :
  PD X G fr (.Call (.Name x p) (e::es) [] pos) (Zs F fs):=Zjm c hG hr hg ha hal jM hdb he hpl
section
variable {X:Cx}{G:Gh}{ob own own':List Nat}{fr:Bool}
theorem Zr {st:Stmt}{sts:List Stmt}{g1 g2:Zb->M Out}(h:Y5 X G ob own [] fr st g1)(h2:X6 X G ob [] own' fr sts g2):X6 X G ob own own' fr (st::sts) (Zh g1 g2):=Yx h h2
theorem ZT (hs:∀k,k∈own'->k∈([]:List Nat):=by decide):X6 X G ob [] own' fr [] Zn:=Ya hs
theorem Xr {c:Expr}{a b:List Stmt}{pos:Pos}{fc:Zb->M Bool}{g1 g2:Zb->M Out}(hc:XZ X G c fc)(ha:X6 X G ob own [] fr a g1)(hb:X6 X G ob own [] fr b g2):Y5 X G ob own [] fr (.If c a b pos) (Z9 fc g1 g2):=Zei hc ha hb
theorem WV {f:Zb->M (List D)}{p pos:Pos}{e:Expr}(hm:X.mg "len" = none)(ha:Wy X G [e] f)(hg:Gl X "len":=by rfl)(h1:xh [e] X.env=(false,eval e X.env)::xh [] X.env:=by rfl)(h2:(backTo pos (xh [] X.env)).any (·.1)=false:=by rfl):PD X G true (.Call (.Name "len" p) [e] [] pos) (ZJ Y3 f):=YT Zge hg hm boot_len ha (he:=h1)
end
end TF
namespace K70
open L2 TF TQ
open TP
open TP2
open TP3
noncomputable def ZS (i:Nat):Stmt:=PySem.Challenge.pw_tiefold_k70_forced_either_way.main.body.getD i (.Pass ⟨0,0,0,0⟩)
noncomputable abbrev ZcQ:Stmt:=ZS 1
noncomputable abbrev ZgI:Stmt:=ZS 3
noncomputable abbrev Zbc:Stmt:=ZS 4
noncomputable abbrev ZcR:Stmt:=ZS 5
noncomputable abbrev Zao:Stmt:=ZS 6
noncomputable abbrev B5:Stmt:=ZS 7
noncomputable abbrev ZaI:Stmt:=ZS 8
noncomputable abbrev Zkh:Stmt:=ZS 10
noncomputable abbrev Zad:Stmt:=ZS 11
noncomputable abbrev Jq:Stmt:=ZS 12
noncomputable abbrev Zap:Stmt:=ZS 13
noncomputable abbrev Zae:Stmt:=ZS 14
noncomputable abbrev ZbG:Stmt:=ZS 15
noncomputable abbrev ZdY:Stmt:=ZS 17
noncomputable abbrev ZaB:Stmt:=ZS 18
noncomputable abbrev ZaW:Stmt:=ZS 19
noncomputable abbrev Zaq:Stmt:=ZS 20
noncomputable abbrev BH:Stmt:=ZS 21
noncomputable abbrev ZbW:Stmt:=ZS 23
noncomputable abbrev ZbX:Stmt:=ZS 24
noncomputable abbrev ZbY:Stmt:=ZS 26
noncomputable abbrev ZaJ:Stmt:=ZS 27
noncomputable abbrev Zax:Stmt:=ZS 28
noncomputable abbrev ZaK:Stmt:=ZS 29
noncomputable abbrev ZbZ:Stmt:=ZS 30
noncomputable abbrev Zay:Stmt:=ZS 31
noncomputable abbrev ZaX:Stmt:=ZS 32
noncomputable abbrev s_law:Stmt:=ZS 33
structure Txt (mg:Str->Option Value):Prop where
 b_bool:mg "bool" = none
 b_dict:mg "dict" = none
 b_int:mg "int" = none
 b_isinstance:mg "isinstance" = none
 b_len:mg "len" = none
 b_list:mg "list" = none
 b_max:mg "max" = none
 b_min:mg "min" = none
 b_range:mg "range" = none
 b_set:mg "set" = none
 b_sorted:mg "sorted" = none
 b_sum:mg "sum" = none
 b_tuple:mg "tuple" = none
set_option maxHeartbeats 4000000
variable {P:xz}{w:World}{K:qk}{mg:Str->Option Value}{base:Heap}{j6:Addr}{jK:xy}
theorem ZaL:FnScope ["web"] ["web"] (ZD Zao):=YH
theorem ZcS (F:Fun K "marked_ties" "marked_ties" Zao j6 jK)(T:Txt mg) :
  FnOk P w K mg base ZV 1 j6 jK ["web"] (Yl 1 true ZZ Uj):=
 have jG:=ZaL.nd
 Y1 (own:=[]) F ZaL λcdv A outer s H E hr G hG=>
 (Zr (Z2 (VZ (Zgj rfl hr.units) rfl T.b_dict TF.boot_dict (Ze (W9 (bk ["web"] (ZD Zao).names ["tie"] [none]) (JR (ZP ZQ (va 0) Zt)) X1 W3 (Xy (Ze (va 0) (Ze Xz Zk)))) Zk)))
 ZT)
theorem Zb0:FnScope ["row","pairs","i","j"] ["row"] (ZD ZcQ):=YH
theorem ZfI (F:Fun K "pairs_of" "pairs_of" ZcQ j6 jK)(T:Txt mg) :
  FnOk P w K mg base ZV 1 j6 jK ["row"] (Yl 1 true ZZ JD):=
 have jG:=Zb0.nd
 Y1 (own:=[]) F Zb0 λcdv A outer s H E hr G hG=>
 (Yx (own2:=[1]) (JN (Yy jG rfl (za rfl) (Wd Zk)))
 (Yx (own2:=[1]) (XH (own:=[1]) zr rfl (VY rfl T.b_range (WV T.b_len (Ze (va 0) Zk))) (Xx jG rfl (za rfl) (by decide))
 (Yx (own2:=[1]) (XH (own:=[1]) zr rfl (ZaD rfl T.b_range (ZX YV (va 2) Zt) (WV T.b_len (Ze (va 0) Zk))) (Xx jG rfl (za rfl) (by decide))
 (Yx (own2:=[1]) (B2 (own:=[1]) (i:=1) (by decide) (Xy (Ze (ZP ZQ (va 0) (va 2)) (Ze (ZP ZQ (va 0) (va 3)) Zk))) (λ_ h=>BW (pv 1) h))
 (Ya (own:=[1]))))
 (Ya (own:=[1]))))
 (Yx (own2:=[1]) (Zgb (i:=1) (by decide) (pv 1))
 (Ya (own:=[1])))))
theorem Zbl:FnScope ["row","tied","pairs"] ["row","tied"] (ZD ZaI):=YH
theorem ZeF (F:Fun K "web_where" "web_where" ZaI j6 jK)(T:Txt mg)(kB:ZL P w K mg base 1 "pairs_of" 1 true ZZ JD) :
  FnOk P w K mg base ZV 5 j6 jK ["row","tied"] (Yl 2 false (UM P w K mg 4 2 Tl base) Uo):=
 have jG:=Zbl.nd
 Y1 (own:=[]) F Zbl λcdv A outer s H E hr G hG=>
 (Zr (YO (Yy jG rfl (za rfl) (ZU (kB.mono) trivial hr (Ze (BM rfl rfl T.b_range rfl T.b_list TF.boot_list (WV T.b_len (Ze (va 0) Zk))) Zk))))
 (Zr (Z2 (PD.weak (Xy (Ze (WV T.b_len (Ze (va 0) Zk)) (Ze (VZ (BL) rfl T.b_tuple TF.boot_tuple (Ze (W9 (bk ["row","tied","pairs"] (ZD ZaI).names ["pair","tied","row"] [none,some 1,some 0]) (X8 (va 2)) X1 (Bd (Xs (Zjp hG (hr.mono (by decide)) (pv 1) (Ze (ZP ZQ (va 2) (ZP ZQ (va 0) Zt)) (Ze (ZP ZQ (va 2) (ZP ZQ (va 0) Zt)) Zk)) (YN (YN V2))))) (va 0)) Zk)) Zk)))))
 ZT))
theorem Zb1:FnScope ["ties","a","b"] ["ties","a","b"] (ZD ZcR):=YH
theorem ZfJ (F:Fun K "are_tied" "are_tied" ZcR j6 jK)(T:Txt mg) :
  FnOk P w K mg base ZV 1 j6 jK ["ties","a","b"] (Yl 3 false ZZ WW):=
 have jG:=Zb1.nd
 Y1 (own:=[]) F Zb1 λcdv A outer s H E hr G hG=>
 (Zr (Z2 (PD.weak (V4 (J8 hr.units) (Xy (Ze (YT (JA rfl) rfl T.b_min TF.boot_min (Ze (va 1) (Ze (va 2) Zk))) (Ze (YT (Za1 rfl) rfl T.b_max TF.boot_max (Ze (va 1) (Ze (va 2) Zk))) Zk))) (va 0))))
 ZT)
theorem ZdZ:FnScope ["web","ties"] ["web"] (ZD B5):=YH
theorem ZiD (F:Fun K "turned" "turned" B5 j6 jK)(T:Txt mg){L:List (Addr×Str)}(lo:WA L)(jV:ZL P w K mg base 1 "marked_ties" 1 true ZZ Uj)(j7:UN P w K mg 5 "web_where" 2 false (UM P w K mg 4 2 Tl) Uo)(kf:∀base,ZL P w K mg base 1 "are_tied" 3 false ZZ WW){tc tP:Addr}(hcode:jK.code=.ref tc)(hCd:yt base tc tP)(hBm:UP mg base)(hL:(tP,(y9 "turned.<locals>.<lambda>"))∈L) :
  FnOk P w K mg base ZV 6 j6 jK ["web"] (Yl 1 false (Yz L) X9):=
 have jG:=ZdZ.nd
 fnDC (own:=[]) F ZdZ λA outer s H E hr G hG=>
 have hT:Yz L G:=hG;have TG9:=hT _ _ hL;have M9:Mk0 (Vb ZV P w K mg base ["web","ties"] "turned" (ZD B5) j6 jK.code A outer s H E).nox tc tP:=⟨hcode,hCd,hBm⟩
 (Zr (YO (Yy jG rfl (qa4 rfl) (ZU (jV.mono) trivial hr (Ze (va 0) Zk))))
 (Zr (Z2 (Zcu (kl:=3) (frb:=true) (N:=["a","b","ties"]) (ps:=["a","b"]) (cix:=[1]) (T:=Tl) (t:=0) (q:="turned.<locals>.<lambda>") M9 TG9 (j7.mono) (λ_=>rfl) hr rfl (BM rfl rfl T.b_range rfl T.b_list TF.boot_list (ZP ZQ (va 0) Zt)) rfl (⟨rfl,rfl,rfl,by decide +kernel,rfl,by decide +kernel,by decide +kernel⟩:CloScope ["a","b","ties"] ["a","b"] _) (⟨rfl,rfl,rfl,by decide +kernel,by decide +kernel⟩:CapS _ ["web","ties"] (ZD B5).names ["a","b","ties"] ["a","b"] [1] _) rfl (λ_ _ _ _ us hl=>match us,hl with | [_,_],_=>rfl) (λbase f c cl G A outer s H E hr=>(ZmM (ZU ((kf base).mono) trivial hr (Ze (va 2) (Ze (va 0) (Ze (va 1) Zk))))))))
 ZT))
theorem ZhA:FnScope ["web","place"] ["web","place"] (ZD ZgI):=YH
theorem ZlH (F:Fun K "near" "near" ZgI j6 jK)(T:Txt mg)(kx:ZL P w K mg base 1 "are_tied" 3 false ZZ WW) :
  FnOk P w K mg base ZV 2 j6 jK ["web","place"] (Yl 2 true ZZ U4):=
 have jG:=ZhA.nd
 Y1 (own:=[]) F ZhA λcdv A outer s H E hr G hG=>
 (Zr (Z2 (W9 (bk ["web","place"] (ZD ZgI).names ["other","web","place"] [none,some 0,some 1]) (Za0 rfl T.b_range (ZP ZQ (va 0) Zt)) X1 (Bd (Xs (ZU (kx.mono) trivial hr (Ze (ZP ZQ (va 1) Zt) (Ze (va 2) (Ze (va 0) Zk)))))) (va 0)))
 ZT)
theorem Zb2:FnScope ["web","marked"] ["web"] (ZD Zbc):=YH
theorem ZfK (F:Fun K "all_near" "all_near" Zbc j6 jK)(T:Txt mg)(jV:ZL P w K mg base 1 "marked_ties" 1 true ZZ Uj)(kE:ZL P w K mg base 2 "near" 2 true ZZ U4) :
  FnOk P w K mg base ZV 3 j6 jK ["web"] (Yl 1 true ZZ Zbb):=
 have jG:=Zb2.nd
 Y1 (own:=[]) F Zb2 λcdv A outer s H E hr G hG=>
 (Zr (YO (Yy jG rfl (qa4 rfl) (Xy (Ze (ZP ZQ (va 0) Zt) (Ze (ZU (jV.mono) trivial hr (Ze (va 0) Zk)) Zk)))))
 (Zr (Z2 (W9 (bk ["web","marked"] (ZD Zbc).names ["place","marked"] [none,some 1]) (Za0 rfl T.b_range (ZP ZQ (va 0) Zt)) X1 W3 (ZU (kE.mono) trivial hr (Ze (va 1) (Ze (va 0) Zk)))))
 ZT))
theorem Zas:FnScope ["aparts","weights","place","places","others"] ["aparts","weights","place","places"] (ZD Zae):=YH
theorem ZbH (F:Fun K "heaviest_with" "heaviest_with" Zae j6 jK)(T:Txt mg){Fs:List D->M D}{lv:Nat}(hlv:0<=lv)(jL:ZL P w K mg base lv "heaviest_among" 3 false ZZ Fs) :
  FnOk P w K mg base ZV (lv+1) j6 jK ["aparts","weights","place","places"] (Yl 4 false ZZ (BG Fs)):=
 have jG:=Zas.nd
 Y1 (own:=[]) F Zas λcdv A outer s H E hr G hG=>
 (Zr (YO (JC jG rfl (za rfl) rfl (bk ["aparts","weights","place","places","others"] (ZD Zae).names ["other","place","aparts"] [none,some 2,some 0]) (X8 (va 3)) (λ_ _ _ _ _ _=>X1) (λ_ _ _ _ _ _=>(Bd (Y8.pt (Zcc (YJ (UB hr.units) (va 0) (va 1)) (B1 (YJ (ZdF hr.units) (va 0) (ZP ZQ (va 2) (va 1)))))))) (λ_ _ _ _ _ _=>(va 0))))
 (Zr (Z2 (PD.weak (ZX YV (Wd (Ze (va 2) Zk)) (ZU (jL) trivial hr (Ze (va 0) (Ze (va 1) (Ze (va 4) Zk)))))))
 ZT))
theorem ZaM:FnScope ["aparts","place","places"] ["aparts","place","places"] (ZD Zap):=YH
theorem ZcT (F:Fun K "apart_among" "apart_among" Zap j6 jK)(T:Txt mg) :
  FnOk P w K mg base ZV 1 j6 jK ["aparts","place","places"] (Yl 3 true ZZ Zan):=
 have jG:=ZaM.nd
 Y1 (own:=[]) F ZaM λcdv A outer s H E hr G hG=>
 (Zr (Z2 (W9 (bk ["aparts","place","places"] (ZD Zap).names ["other","aparts","place"] [none,some 0,some 1]) (X8 (va 2)) X1 (Bd (YJ (J8 hr.units) (va 0) (ZP ZQ (va 1) (va 2)))) (va 0)))
 ZT)
theorem ZcU:FnScope ["weights","places"] ["weights","places"] (ZD ZbG):=YH
theorem ZgJ (F:Fun K "weighed" "weighed" ZbG j6 jK)(T:Txt mg) :
  FnOk P w K mg base ZV 1 j6 jK ["weights","places"] (Yl 2 false ZZ JJ):=
 have jG:=ZcU.nd
 Y1 (own:=[]) F ZcU λcdv A outer s H E hr G hG=>
 (Zr (Z2 (PD.weak (YT (Ziy rfl) rfl T.b_sum TF.boot_sum (Ze (W9 (bk ["weights","places"] (ZD ZbG).names ["place","weights"] [none,some 0]) (X8 (va 1)) X1 W3 (ZP ZQ (va 1) (va 0))) Zk))))
 ZT)
theorem Zal:FnScope ["aparts","weights","places","rows","i","counts","branching","with_it","without_it"] ["aparts","weights","places"] (ZD Jq):=YH
theorem Zbm (F:Fun K "heaviest_among" "heaviest_among" Jq j6 jK)(T:Txt mg){Fs:List D->M D}{lv:Nat}(hlv:1<=lv)(kg:ZL P w K mg base 1 "apart_among" 3 true ZZ Zan)(jL:ZL P w K mg base lv "heaviest_among" 3 false ZZ Fs)(jZ:ZL P w K mg base (lv+1) "heaviest_with" 4 false ZZ (BG Fs))(ko:ZL P w K mg base 1 "weighed" 2 false ZZ JJ) :
  FnOk P w K mg base ZV (lv+2) j6 jK ["aparts","weights","places"] (Yl 3 false ZZ (runB 9 3 (Zac Fs))):=
 have jG:=Zal.nd
 Y1 (own:=[]) F Zal λcdv A outer s H E hr G hG=>
 (Zr (Xr (YJ (VL hr.units) (va 2) (Wd Zk))
 (Zr (Z2 (PD.weak (Wd Zk)))
 ZT)
 Ya)
 (Zr (YO (JC jG rfl (za rfl) rfl (bk ["aparts","weights","places","rows","i","counts","branching","with_it","without_it"] (ZD Jq).names ["place","aparts","places"] [none,some 0,some 2]) (X8 (va 2)) (λ_ _ _ _ _ _=>X1) (λ_ _ _ _ _ _=>W3) (λ_ _ _ _ _ _=>(ZU (kg.mono (h:=zj (by decide) (qbm hlv))) trivial hr (Ze (va 1) (Ze (va 0) (Ze (va 2) Zk)))))))
 (Zr (XH (own:=[]) zr rfl (VY rfl T.b_range (WV T.b_len (Ze (va 2) Zk))) (Xx jG rfl (za rfl) (by decide))
 (Zr (Xr (YJ (Zje) (ZU (ko.mono (h:=zj (by decide) (qbm hlv))) trivial hr (Ze (va 1) (Ze (ZP ZQ (va 3) (va 4)) Zk))) (ZP ZQ (va 1) (ZP ZQ (va 2) (va 4))))
 (Zr (Z2 (ZU (jZ) trivial hr (Ze (va 0) (Ze (va 1) (Ze (ZP ZQ (va 2) (va 4)) (Ze (va 2) Zk))))))
 ZT)
 Ya)
 ZT))
 (Zr (YO (JC jG rfl (za rfl) rfl (bk ["aparts","weights","places","rows","i","counts","branching","with_it","without_it"] (ZD Jq).names ["row"] [none]) (X8 (va 3)) (λ_ _ _ _ _ _=>X1) (λ_ _ _ _ _ _=>W3) (λ_ _ _ _ _ _=>(WV T.b_len (Ze (va 0) Zk)))))
 (Zr (YO (Yy jG rfl (qa4 rfl) (ZP ZQ (va 2) (ZjO (va 5) (YT (ZcB rfl) rfl T.b_max TF.boot_max (Ze (va 5) Zk))))))
 (Zr (YO (Yy jG rfl (za rfl) (ZU (jZ) trivial hr (Ze (va 0) (Ze (va 1) (Ze (va 6) (Ze (va 2) Zk)))))))
 (Zr (YO (Yy jG rfl (za rfl) (ZU (jL.mono (h:=Nat.le_succ _)) trivial hr (Ze (va 0) (Ze (va 1) (Ze (W9 (bk ["aparts","weights","places","rows","i","counts","branching","with_it","without_it"] (ZD Jq).names ["other","branching"] [none,some 6]) (X8 (va 2)) X1 (Bd (YJ (UB hr.units) (va 0) (va 1))) (va 0)) Zk))))))
 (Zr (Z2 (ZnM (YJ (Zel) (ZU (ko.mono (h:=zj (by decide) (qbm hlv))) trivial hr (Ze (va 1) (Ze (va 7) Zk))) (ZU (ko.mono (h:=zj (by decide) (qbm hlv))) trivial hr (Ze (va 1) (Ze (va 8) Zk)))) (va 7) (va 8)))
 ZT))))))))
theorem Zat:FnScope ["web","weights","aparts"] ["web","weights"] (ZD Zad):=YH
theorem ZbI (F:Fun K "heaviest_knot" "heaviest_knot" Zad j6 jK)(T:Txt mg){L:List (Addr×Str)}(lo:WA L)(ky:ZL P w K mg base 3 "all_near" 1 true ZZ Zbb)(jL:ZL P w K mg base 53 "heaviest_among" 3 false ZZ (Ui 26))(jR:ZL P w K mg base 6 "turned" 1 false (Yz L) X9) :
  FnOk P w K mg base ZV 54 j6 jK ["web","weights"] (Yl 2 true (Yz L) Jr):=
 have jG:=Zat.nd
 Y1 (own:=[]) F Zat λcdv A outer s H E hr G hG=>
 have hT:Yz L G:=hG
 (Zr (YO (JC jG rfl (za rfl) rfl (bk ["web","weights","aparts"] (ZD Zad).names ["row"] [none]) (X8 (ZU (ky.mono) trivial hr (Ze (ZU (jR.mono) hT hr (Ze (va 0) Zk)) Zk))) (λ_ _ _ _ _ _=>X1) (λ_ _ _ _ _ _=>W3) (λ_ _ _ _ _ _=>(VZ (Zgk rfl hr.units) rfl T.b_dict TF.boot_dict (Ze (W9 (bk ["row"] [((qbU ".0"),PySem.NameKind.local),((qbU "row"),PySem.NameKind.local),((qbU "dict"),PySem.NameKind.globalImplicit)] ["other"] [none]) (X8 (va 0)) X1 W3 (Xy (Ze (va 0) (Ze Xz Zk)))) Zk)))))
 (Zr (Z2 (VZ (BL) rfl T.b_tuple TF.boot_tuple (Ze (YT (Zev) rfl T.b_sorted TF.boot_sorted (Ze (ZU (jL.mono) trivial hr (Ze (va 2) (Ze (va 1) (Ze (BM rfl rfl T.b_range rfl T.b_list TF.boot_list (ZP ZQ (va 0) Zt)) Zk)))) Zk)) Zk)))
 ZT))
theorem ZhB:FnScope ["web","knot"] ["web"] (ZD Zkh):=YH
theorem ZlI (F:Fun K "most" "most" Zkh j6 jK)(T:Txt mg){L:List (Addr×Str)}(lo:WA L)(kd:ZL P w K mg base 54 "heaviest_knot" 2 true (Yz L) Jr) :
  FnOk P w K mg base ZV 55 j6 jK ["web"] (Yl 1 true (Yz L) WI):=
 have jG:=ZhB.nd
 Y1 (own:=[]) F ZhB λcdv A outer s H E hr G hG=>
 have hT:Yz L G:=hG
 (Zr (YO (Yy jG rfl (za rfl) (ZU (kd.mono) hT hr (Ze (va 0) (Ze (ZX Zj7 (Xy (Ze Zt Zk)) (ZP ZQ (va 0) Zt)) Zk)))))
 (Zr (Z2 (Xy (Ze (WV T.b_len (Ze (va 1) Zk)) (Ze (va 1) Zk))))
 ZT))
theorem Zbn:FnScope ["_law_cell","_law_at","_law_x"] ["_law_cell","_law_at"] (ZD ZbW):=YH
theorem ZeG (F:Fun K "_law_fill" "_law_fill" ZbW j6 jK)(T:Txt mg) :
  FnOk P w K mg base ZV 1 j6 jK ["_law_cell","_law_at"] (Yl 2 false ZZ Ul):=
 have jG:=Zbn.nd
 Y1 (own:=[]) F Zbn λcdv A outer s H E hr G hG=>
 (Zr (Xr (YJ (Zel) (va 0) (ZX Zk4 Zt Zt))
 (Zr (Z2 (va 0))
 ZT)
 Ya)
 (Zr (YO (Yy jG rfl (za rfl) (ZX UY (ZX YV (ZX YV (ZX VF (ZX UY (va 0) Zt) Zt) (ZX VF (va 1) Zt)) Zt) Zt)))
 (Zr (YO (Yy jG rfl (za rfl) (ZX UY (ZX YV (ZX YV (ZX VF (va 2) (va 2)) (ZX VF Zt (va 2))) (va 1)) Zt)))
 (Zr (Z2 (PD.weak (ZX YV (ZX VF (va 2) Zt) (ZX UY (ZX YV (ZX VF (va 2) (va 2)) (ZX VF Zt (va 1))) Zt))))
 ZT))))
noncomputable def Zaf (Fs:List D->M D):Zb->M Out:=(Zh (Z9 (Xg (asB (Zd YD (Za 0) (dC (.int 1)))) (asB (Zd YD (Za 1) (dC (.int 1)))))
 (Zh (ZC (dC (.int 1)))
 Zn)
 Zn)
 (Zh (Z1 2 (Zs Fs (Zc (Zd Wt (Za 0) (dC (.int 1))) (Zc (Za 1) Zf))))
 (Zh (Z1 3 (Zs Fs (Zc (Za 0) (Zc (Zd Wt (Za 1) (dC (.int 1))) Zf))))
 (Zh (Z9 (XV (asB (Zd YD (Zd Wu (Za 2) (dC (.int 2))) (dC (.int 0)))) (asB (Zd YD (Zd Wu (Za 3) (dC (.int 2))) (dC (.int 0)))))
 (Zh (ZC (Zd Wt (Zd Yc (Za 2) (Za 3)) (dC (.int 1))))
 Zn)
 Zn)
 (Zh (ZC (Zd Yc (Za 2) (Za 3)))
 Zn)))))
noncomputable def UR:Nat->List D->M D
 | 0=>λ_=>ZE
 | n+1=>runB 4 2 (Zaf (UR n))
theorem Zau:FnScope ["a","b","enough_near","enough_apart"] ["a","b"] (ZD ZaB):=YH
theorem ZbJ (F:Fun K "enough_places" "enough_places" ZaB j6 jK)(T:Txt mg){Fs:List D->M D}{lv:Nat}(hlv:0<=lv)(jP:ZL P w K mg base lv "enough_places" 2 false ZZ Fs) :
  FnOk P w K mg base ZV (lv+1) j6 jK ["a","b"] (Yl 2 false ZZ (runB 4 2 (Zaf Fs))):=
 have jG:=Zau.nd
 Y1 (own:=[]) F Zau λcdv A outer s H E hr G hG=>
 (Zr (Xr (Y8.pt (Wp (YJ (VL hr.units) (va 0) Zt) (Vo (YJ (VL hr.units) (va 1) Zt))))
 (Zr (Z2 (PD.weak Zt))
 ZT)
 Ya)
 (Zr (YO (Yy jG rfl (za rfl) (ZU (jP) trivial hr (Ze (ZX Vp (va 0) Zt) (Ze (va 1) Zk)))))
 (Zr (YO (Yy jG rfl (za rfl) (ZU (jP) trivial hr (Ze (va 0) (Ze (ZX Vp (va 1) Zt) Zk)))))
 (Zr (Xr (Y8.pt (Zcc (YJ (VL hr.units) (ZX UY (va 2) Zt) Zt) (B1 (YJ (VL hr.units) (ZX UY (va 3) Zt) Zt))))
 (Zr (Z2 (PD.weak (ZX Vp (ZX YV (va 2) (va 3)) Zt)))
 ZT)
 Ya)
 (Zr (Z2 (PD.weak (ZX YV (va 2) (va 3))))
 ZT)))))
theorem ZaN:FnScope ["n","steps"] ["n","steps"] (ZD BH):=YH
theorem ZcV (F:Fun K "web_on_ring" "web_on_ring" BH j6 jK)(T:Txt mg){L:List (Addr×Str)}(lo:WA L)(j7:UN P w K mg 5 "web_where" 2 false (UM P w K mg 4 2 Tl) Uo){tc tP:Addr}(hcode:jK.code=.ref tc)(hCd:yt base tc tP)(hBm:UP mg base)(hL:(tP,(y9 "web_on_ring.<locals>.<lambda>"))∈L) :
  FnOk P w K mg base ZV 6 j6 jK ["n","steps"] (Yl 2 false (Yz L) Js):=
 have jG:=ZaN.nd
 fnDC (own:=[]) F ZaN λA outer s H E hr G hG=>
 have hT:Yz L G:=hG;have TG9:=hT _ _ hL;have M9:Mk0 (Vb ZV P w K mg base ["n","steps"] "web_on_ring" (ZD BH) j6 jK.code A outer s H E).nox tc tP:=⟨hcode,hCd,hBm⟩
 (Zr (Z2 (Zcu (kl:=3) (frb:=true) (N:=["i","j","n","steps"]) (ps:=["i","j"]) (cix:=[0,1]) (T:=Tl) (t:=7) (q:="web_on_ring.<locals>.<lambda>") M9 TG9 (j7.mono) (λ_=>rfl) hr rfl (BM rfl rfl T.b_range rfl T.b_list TF.boot_list (va 0)) rfl (⟨rfl,rfl,rfl,by decide +kernel,rfl,by decide +kernel,by decide +kernel⟩:CloScope ["i","j","n","steps"] ["i","j"] _) (⟨rfl,rfl,rfl,by decide +kernel,by decide +kernel⟩:CapS _ ["n","steps"] (ZD BH).names ["i","j","n","steps"] ["i","j"] [0,1] _) rfl (λ_ _ _ _ us hl=>match us,hl with | [_,_],_=>rfl) (λbase f c cl G A outer s H E hr=>(V4 (J8 hr.units) (YT (JA rfl) rfl T.b_min TF.boot_min (Ze (ZX Vp (va 1) (va 0)) (Ze (ZX YV (ZX Vp (va 2) (va 1)) (va 0)) Zk))) (va 3)))))
 ZT)
noncomputable def Zdm:Zb->M Out:=(Zh (Z1 1 (YS (Zc (YS Zf) Zf)))
 (Zh (Y2 (Yf (Za 0)) (ZK 2)
 (Zh (Z1 1 (Zd Yc (Za 1) (Yj [none,some 2] (Yf (Za 1)) (ZK 0) Ys (Zd Yc (Za 0) (YS (Zc (Za 1) Zf))))))
 Zn))
 (Zh (ZC (Za 1))
 Zn)))
noncomputable def BI:List D->M D:=runB 3 1 Zdm
theorem ZaO:FnScope ["row","choices","thing"] ["row"] (ZD Zaq):=YH
theorem ZcW (F:Fun K "all_choices" "all_choices" Zaq j6 jK)(T:Txt mg) :
  FnOk P w K mg base ZV 1 j6 jK ["row"] (Yl 1 false ZZ BI):=
 have jG:=ZaO.nd
 Y1 (own:=[]) F ZaO λcdv A outer s H E hr G hG=>
 (Zr (YO (Yy jG rfl (za rfl) (Wd (Ze (Wd Zk) Zk))))
 (Zr (XH (own:=[]) zr rfl (X0.n (X8 (va 0))) (Xx jG rfl (qa4 rfl) (by decide))
 (Zr (YO (Yy jG rfl (za rfl) (ZX YV (va 1) (W9 (bk ["row","choices","thing"] (ZD Zaq).names ["choice","thing"] [none,some 2]) (X8 (va 1)) X1 W3 (ZX YV (va 0) (Wd (Ze (va 1) Zk)))))))
 ZT))
 (Zr (Z2 (va 1))
 ZT)))
noncomputable def Zdn:Zb->M Out:=(Zh (Y2 (Yf (Zs BI (Zc (Jy (dC (.int 1)) (Zd Yc (Zd Zhb (Za 2) (dC (.int 2))) (dC (.int 1)))) Zf))) (ZK 3)
 (Zh (Z1 4 (Zs Js (Zc (Za 2) (Zc (Za 3) Zf))))
 (Zh (Z9 (XV (asB (Zd XR (Zd Zm (Zs WI (Zc (Za 4) Zf)) (dC (.int 0))) (Za 0))) (asB (Zd XR (Zd Zm (Zs WI (Zc (Zs X9 (Zc (Za 4) Zf)) Zf)) (dC (.int 0))) (Za 1))))
 (Zh (ZC (Za 4))
 Zn)
 Zn)
 Zn)))
 (Zh (ZC (dC .non))
 Zn))
noncomputable def BJ:List D->M D:=runB 5 3 Zdn
theorem ZaP:FnScope ["a","b","n","steps","web"] ["a","b","n"] (ZD ZaW):=YH
theorem ZcX (F:Fun K "web_without" "web_without" ZaW j6 jK)(T:Txt mg){L:List (Addr×Str)}(lo:WA L)(kh:ZL P w K mg base 1 "all_choices" 1 false ZZ BI)(ki:ZL P w K mg base 55 "most" 1 true (Yz L) WI)(jR:ZL P w K mg base 6 "turned" 1 false (Yz L) X9)(kj:ZL P w K mg base 6 "web_on_ring" 2 false (Yz L) Js) :
  FnOk P w K mg base ZV 56 j6 jK ["a","b","n"] (Yl 3 false (Yz L) BJ):=
 have jG:=ZaP.nd
 Y1 (own:=[]) F ZaP λcdv A outer s H E hr G hG=>
 have hT:Yz L G:=hG
 (Zr (XH (own:=[]) zr rfl (X0.n (X8 (ZU (kh.mono) trivial hr (Ze (Zdj rfl rfl T.b_range rfl T.b_list TF.boot_list Zt (ZX YV (ZX Zjd (va 2) Zt) Zt)) Zk)))) (Xx jG rfl (za rfl) (by decide))
 (Zr (YO (Yy jG rfl (za rfl) (ZU (kj.mono) hT hr (Ze (va 2) (Ze (va 3) Zk)))))
 (Zr (Xr (Y8.pt (Zcc (YJ (UA hr.units0) (ZP ZQ (ZU (ki.mono) hT hr (Ze (va 4) Zk)) Zt) (va 0)) (B1 (YJ (UA hr.units0) (ZP ZQ (ZU (ki.mono) hT hr (Ze (ZU (jR.mono) hT hr (Ze (va 4) Zk)) Zk)) Zt) (va 1)))))
 (Zr (Z2 (va 4))
 ZT)
 Ya)
 ZT)))
 (Zr (Z2 (PD.weak ZmL))
 ZT))
noncomputable def ZbK (Fs:List D->M D):Zb->M Out:=(Zh (Z9 (asB (Zd dGt (Za 0) (Za 1)))
 (Zh (Z1 2 (Zs Fs (Zc (Za 1) (Zc (Za 0) Zf))))
 (Zh (ZC (Yg (Zc (Zd Zm (Za 2) (dC (.int 0))) (Zc (Zs X9 (Zc (Zd Zm (Za 2) (dC (.int 1))) Zf)) Zf))))
 Zn))
 Zn)
 (Zh (Z1 3 (Zs (UR 8) (Zc (Za 0) (Zc (Za 1) Zf))))
 (Zh (ZC (Yg (Zc (Za 3) (Zc (Zs BJ (Zc (Za 0) (Zc (Za 1) (Zc (Zd Wt (Za 3) (dC (.int 1))) Zf)))) Zf))))
 Zn)))
noncomputable def Ur:Nat->List D->M D
 | 0=>λ_=>ZE
 | n+1=>runB 4 2 (ZbK (Ur n))
theorem ZcY:FnScope ["a","b","told","many"] ["a","b"] (ZD ZdY):=YH
theorem ZgK (F:Fun K "forcing" "forcing" ZdY j6 jK)(T:Txt mg){L:List (Addr×Str)}(lo:WA L){Fs:List D->M D}{lv:Nat}(hlv:56<=lv)(jP:ZL P w K mg base 9 "enough_places" 2 false ZZ (UR 8))(kc:ZL P w K mg base lv "forcing" 2 true (Yz L) Fs)(jR:ZL P w K mg base 6 "turned" 1 false (Yz L) X9)(km:ZL P w K mg base 56 "web_without" 3 false (Yz L) BJ) :
  FnOk P w K mg base ZV (lv+1) j6 jK ["a","b"] (Yl 2 true (Yz L) (runB 4 2 (ZbK Fs))):=
 have jG:=ZcY.nd
 Y1 (own:=[]) F ZcY λcdv A outer s H E hr G hG=>
 have hT:Yz L G:=hG
 (Zr (Xr (YJ (ZmO) (va 0) (va 1))
 (Zr (YO (Yy jG rfl (za rfl) (ZU (kc) hT hr (Ze (va 1) (Ze (va 0) Zk)))))
 (Zr (Z2 (Xy (Ze (ZP ZQ (va 2) Zt) (Ze (ZU (jR.mono (h:=zj (by decide) hlv)) hT hr (Ze (ZP ZQ (va 2) Zt) Zk)) Zk))))
 ZT))
 Ya)
 (Zr (YO (Yy jG rfl (za rfl) (ZU (jP.mono (h:=zj (by decide) hlv)) trivial hr (Ze (va 0) (Ze (va 1) Zk)))))
 (Zr (Z2 (Xy (Ze (va 3) (Ze (ZU (km.mono (h:=zj (by decide) hlv)) hT hr (Ze (va 0) (Ze (va 1) (Ze (ZX Vp (va 3) Zt) Zk)))) Zk))))
 ZT)))
theorem ZaY:FnScope ["_law_web_here","_law_pairs","_law_pair","_law_found","_law_place","_law_more","_law_knot"] ["_law_web_here"] (ZD Zax):=YH
theorem Zdo (F:Fun K "_law_knots" "_law_knots" Zax j6 jK)(T:Txt mg) :
  FnOk P w K mg base ZV 1 j6 jK ["_law_web_here"] (Yl 1 false ZZ Jv):=
 have jG:=ZaY.nd
 Y1 (own:=[]) F ZaY λcdv A outer s H E hr G hG=>
 (Yx (own2:=[1]) (JN (Yy jG rfl (qa4 rfl) ZjP))
 (Yx (own2:=[1]) (XH (own:=[1]) zr rfl (X0.a (own:=[1]) (JR (ZP ZQ (va 0) Zt))) (Xx jG rfl (za rfl) (by decide))
 (Yx (own2:=[1]) (Zgs (own:=[1]) (i:=1) (L2.hu_of hr) (by decide) (pv 1) (va 2) Xz)
 (Ya (own:=[1]))))
 (Yx (own2:=[1]) (JM (own:=[1]) (Yy jG rfl (za rfl) (Wd (Ze (Xy Zk) Zk))))
 (Zr (Y5.frz (own:=[1]) (own2:=[]) (XH (own:=[]) zr rfl (VY rfl T.b_range (ZP ZQ (va 0) Zt)) (Xx jG rfl (qa4 rfl) (by decide))
 (Yx (own2:=[5]) (JN (Yy jG rfl (za rfl) (Wd Zk)))
 (Yx (own2:=[5]) (XH (own:=[5]) zr rfl (X0.a (own:=[5]) (X8 (va 3))) (Xx jG rfl (za rfl) (by decide))
 (Yx (own2:=[5]) (Zei (own':=[5]) (YJ (ZdF hr.units) Xz (W9 (bk ["_law_web_here","_law_pairs","_law_pair","_law_found","_law_place","_law_more","_law_knot"] (ZD Zax).names ["_law_other","_law_place","_law_pairs"] [none,some 4,some 1]) (JR (va 6)) X1 W3 (V4 (J8 hr.units) (Xy (Ze (va 0) (Ze (va 1) Zk))) (va 2))))
 (Yx (own2:=[5]) (B2 (own:=[5]) (i:=5) (by decide) (ZX YV (va 6) (Xy (Ze (va 4) Zk))) (λ_ h=>BW (pv 5) h))
 (Ya (own:=[5])))
 Ya)
 (Ya (own:=[5]))))
 (Zr (Y5.frz (own:=[5]) (own2:=[]) (YO (Yy jG rfl (za rfl) (ZX YV (va 3) (va 5)))))
 ZT)))))
 (Zr (Z2 (va 3))
 ZT)))))
theorem Zbo:FnScope ["_law_web_here"] ["_law_web_here"] (ZD ZaK):=YH
theorem ZeH (F:Fun K "_law_most" "_law_most" ZaK j6 jK)(T:Txt mg)(kq:ZL P w K mg base 1 "_law_knots" 1 false ZZ Jv) :
  FnOk P w K mg base ZV 2 j6 jK ["_law_web_here"] (Yl 1 true ZZ Um):=
 have jG:=Zbo.nd
 Y1 (own:=[]) F Zbo λcdv A outer s H E hr G hG=>
 (Zr (Z2 (YT (ZcB rfl) rfl T.b_max TF.boot_max (Ze (W9 (bk ["_law_web_here"] (ZD ZaK).names ["_law_knot"] [none]) (X8 (ZU (kq.mono) trivial hr (Ze (va 0) Zk))) X1 W3 (WV T.b_len (Ze (va 0) Zk))) Zk)))
 ZT)
theorem Zbp:FnScope ["_law_web_here","_law_a","_law_b"] ["_law_web_here","_law_a","_law_b"] (ZD ZbY):=YH
theorem ZeI (F:Fun K "_law_tied" "_law_tied" ZbY j6 jK)(T:Txt mg) :
  FnOk P w K mg base ZV 1 j6 jK ["_law_web_here","_law_a","_law_b"] (Yl 3 false ZZ Vi):=
 have jG:=Zbp.nd
 Y1 (own:=[]) F Zbp λcdv A outer s H E hr G hG=>
 (Zr (Z2 (PD.weak (V4 (J8 hr.units) (Xy (Ze (YT (JA rfl) rfl T.b_min TF.boot_min (Ze (va 1) (Ze (va 2) Zk))) (Ze (YT (Za1 rfl) rfl T.b_max TF.boot_max (Ze (va 1) (Ze (va 2) Zk))) Zk))) (ZP ZQ (va 0) Zt))))
 ZT)
theorem ZaC:FnScope ["_law_web_here","_law_places","_law_k","_law_other"] ["_law_web_here","_law_places"] (ZD ZaJ):=YH
theorem Zb8 (F:Fun K "_law_is_knot" "_law_is_knot" ZaJ j6 jK)(T:Txt mg)(j8:ZL P w K mg base 1 "_law_tied" 3 false ZZ Vi) :
  FnOk P w K mg base ZV 2 j6 jK ["_law_web_here","_law_places"] (Yl 2 true ZZ US):=
 have jG:=ZaC.nd
 Y1 (own:=[]) F ZaC λcdv A outer s H E hr G hG=>
 (Zr (XH (own:=[]) zr rfl (VY rfl T.b_range (WV T.b_len (Ze (va 1) Zk))) (Xx jG rfl (za rfl) (by decide))
 (Zr (XH (own:=[]) zr rfl (X0.n (JR (Zjz (va 1) Zjw (Zjx (va 2))))) (Xx jG rfl (za rfl) (by decide))
 (Zr (Xr (Wn (Xs (ZU (j8.mono) trivial hr (Ze (va 0) (Ze (va 3) (Ze (ZP ZQ (va 1) (va 2)) Zk))))))
 (Zr (Z2 Xz)
 ZT)
 Ya)
 ZT))
 ZT))
 (Zr (Z2 Xz)
 ZT))
noncomputable def ZfL:Zb->M Out:=(Zh (V9 1 (YS Zf))
 (Zh (Y2 (Xk (Zd Zm (Za 0) (dC (.int 0)))) (ZK 2)
 (Zh (Y2 (Ut (Zd Yc (Za 2) (dC (.int 1))) (Zd Zm (Za 0) (dC (.int 0)))) (ZK 3)
 (Zh (Z9 (Xn (asB (Zs Vi (Zc (Za 0) (Zc (Za 2) (Zc (Za 3) Zf))))))
 (Zh (VR 1 (fun ρ=>(Yg (Zc (Za 2) (Zc (Za 3) Zf))) (Yu [1] ρ)))
 Zn)
 Zn)
 Zn))
 Zn))
 (Zh (ZC (Yg (Zc (Zd Zm (Za 0) (dC (.int 0))) (Zc (ZJ U3 (Zc (Za 1) Zf)) Zf))))
 Zn)))
noncomputable def UT:List D->M D:=runB 4 1 ZfL
theorem Zbq:FnScope ["_law_told","_law_ties","_law_a","_law_b"] ["_law_told"] (ZD ZbZ):=YH
theorem ZeJ (F:Fun K "_law_away" "_law_away" ZbZ j6 jK)(T:Txt mg)(j8:ZL P w K mg base 1 "_law_tied" 3 false ZZ Vi) :
  FnOk P w K mg base ZV 2 j6 jK ["_law_told"] (Yl 1 true ZZ UT):=
 have jG:=Zbq.nd
 Y1 (own:=[]) F Zbq λcdv A outer s H E hr G hG=>
 (Yx (own2:=[1]) (JN (Yy jG rfl (za rfl) (Wd Zk)))
 (Yx (own2:=[1]) (XH (own:=[1]) zr rfl (VY rfl T.b_range (ZP ZQ (va 0) Zt)) (Xx jG rfl (za rfl) (by decide))
 (Yx (own2:=[1]) (XH (own:=[1]) zr rfl (ZaD rfl T.b_range (ZX YV (va 2) Zt) (ZP ZQ (va 0) Zt)) (Xx jG rfl (za rfl) (by decide))
 (Yx (own2:=[1]) (Zei (own':=[1]) (Wn (Xs (ZU (j8.mono) trivial hr (Ze (va 0) (Ze (va 2) (Ze (va 3) Zk))))))
 (Yx (own2:=[1]) (B2 (own:=[1]) (i:=1) (by decide) (Xy (Ze (va 2) (Ze (va 3) Zk))) (λ_ h=>BW (pv 1) h))
 (Ya (own:=[1])))
 Ya)
 (Ya (own:=[1]))))
 (Ya (own:=[1]))))
 (Yx (own2:=[1]) (Z2 (Xy (Ze (ZP ZQ (va 0) Zt) (Ze (VZ (BL) rfl T.b_tuple TF.boot_tuple (Ze (va 1) Zk)) Zk))))
 (Ya (own:=[1])))))
noncomputable def ZeK:Zb->M Out:=(Zh (V9 2 (YS Zf))
 (Zh (Z1 3 (fun ρ=>(Zd Yc (dC (.int 1)) (Zs Xm (Zc (Za 0) (Zc (dC (.int 3)) Zf)))) (Yu [2] ρ)))
 (Zh (Z1 4 (fun ρ=>(Yj [none,some 0] (Xk (Za 1)) (ZK 0) Ys (Zs Xm (Zc (Za 1) (Zc (dC (.int 2)) Zf)))) (Yu [2] ρ)))
 (Zh (Z1 5 (fun ρ=>(Zs Xm (Zc (Za 0) (Zc (dC (.int 2)) Zf))) (Yu [2] ρ)))
 (Zh (Y2 (Xk (Za 1)) (ZK 6)
 (Zh (Y2 (Ut (Zd Yc (Za 6) (dC (.int 1))) (Za 1)) (ZK 7)
 (Zh (Z1 8 (fun ρ=>(ZJ VP (Zc (Zd Wt (Za 7) (Za 6)) (Zc (Zd Yc (Zd Wt (Za 1) (Za 7)) (Za 6)) Zf))) (Yu [2] ρ)))
 (Zh (Z9 (asB (Zd Zm (YS (Zc (Zd XR (Zs Xm (Zc (Za 0) (Zc (dC (.int 4)) Zf))) (Za 3)) (Zc (Zd YD (Zd Zm (Za 4) (Za 8)) (dC (.int 1))) Zf))) (Za 5)))
 (Zh (VR 2 (fun ρ=>(Yg (Zc (Za 6) (Zc (Za 7) Zf))) (Yu [2] ρ)))
 Zn)
 Zn)
 Zn)))
 Zn))
 (Zh (ZC (Yg (Zc (Za 1) (Zc (ZJ U3 (Zc (Za 2) Zf)) Zf))))
 Zn))))))
noncomputable def Jw:List D->M D:=runB 9 2 ZeK
theorem ZaZ:FnScope ["_law_pen","_law_n","_law_ties","_law_rate","_law_steps","_law_way","_law_a","_law_b","_law_step"] ["_law_pen","_law_n"] (ZD Zay):=YH
theorem Zdp (F:Fun K "_law_drawn" "_law_drawn" Zay j6 jK)(T:Txt mg){L:List (Addr×Str)}(lo:WA L)(jJ:ZL P w K mg base 2 "_law_next" 2 true (Wi (WS K) L) Xm) :
  FnOk P w K mg base ZV 3 j6 jK ["_law_pen","_law_n"] (Yl 2 true (Wi (WS K) L) Jw):=
 have jG:=ZaZ.nd
 Y1 (own:=[]) F ZaZ λcdv A outer s H E hr G hG=>
 have hT:Yz L G:=jw lo hG
 (Yx (own2:=[2]) (JN (Yy jG rfl (za rfl) (Wd Zk)))
 (Yx (own2:=[2]) (JM (own:=[2]) (Yy jG rfl (za rfl) (ZX YV Zt (ZU (jJ.mono) hG hr (Ze (va 0) (Ze Zt Zk))))))
 (Yx (own2:=[2]) (JM (own:=[2]) (JC jG rfl (za rfl) rfl (bk ["_law_pen","_law_n","_law_ties","_law_rate","_law_steps","_law_way","_law_a","_law_b","_law_step"] (ZD Zay).names ["_law_step","_law_pen"] [none,some 0]) (Za0 rfl T.b_range (va 1)) (λ_ _ _ _ _ _=>X1) (λ_ _ _ _ _ _=>W3) (λ_ _ _ _ _ _=>(ZU (jJ.mono) hG hr (Ze (va 1) (Ze Zt Zk))))))
 (Yx (own2:=[2]) (JM (own:=[2]) (Yy jG rfl (za rfl) (ZU (jJ.mono) hG hr (Ze (va 0) (Ze Zt Zk)))))
 (Yx (own2:=[2]) (XH (own:=[2]) zr rfl (VY rfl T.b_range (va 1)) (Xx jG rfl (za rfl) (by decide))
 (Yx (own2:=[2]) (XH (own:=[2]) zr rfl (ZaD rfl T.b_range (ZX YV (va 6) Zt) (va 1)) (Xx jG rfl (za rfl) (by decide))
 (Yx (own2:=[2]) (JM (own:=[2]) (Yy jG rfl (za rfl) (YT (JA rfl) rfl T.b_min TF.boot_min (Ze (ZX Vp (va 7) (va 6)) (Ze (ZX YV (ZX Vp (va 1) (va 7)) (va 6)) Zk)))))
 (Yx (own2:=[2]) (Zei (own':=[2]) (Xs (ZP ZQ (Wd (Ze (V4 (UA hr.units0) (ZU (jJ.mono) hG hr (Ze (va 0) (Ze Zt Zk))) (va 3)) (Ze (V4 (VL hr.units) (ZP ZQ (va 4) (va 8)) Zt) Zk))) (va 5)))
 (Yx (own2:=[2]) (B2 (own:=[2]) (i:=2) (by decide) (Xy (Ze (va 6) (Ze (va 7) Zk))) (λ_ h=>BW (pv 2) h))
 (Ya (own:=[2])))
 Ya)
 (Ya (own:=[2])))))
 (Ya (own:=[2]))))
 (Yx (own2:=[2]) (Z2 (Xy (Ze (va 1) (Ze (VZ (BL) rfl T.b_tuple TF.boot_tuple (Ze (va 2) Zk)) Zk))))
 (Ya (own:=[2]))))))))
noncomputable def Zdq:Zb->M Out:=(Zh (Z9 (Xg (Xn (asB (ZJ WR (Zc (Za 0) (Zc (dC (.ty "tuple")) Zf))))) (Xg (asB (Zd XC (ZJ Y3 (Zc (Za 0) Zf)) (dC (.int 2)))) (Xn (asB (ZJ WR (Zc (Zd Zm (Za 0) (dC (.int 1))) (Zc (dC (.ty "tuple")) Zf)))))))
 (Zh (ZC (dC (.bl false)))
 Zn)
 Zn)
 (Zh (Z9 (Xg (Xn (asB (ZJ WR (Zc (Zd Zm (Za 0) (dC (.int 0))) (Zc (dC (.ty "int")) Zf))))) (asB (ZJ WR (Zc (Zd Zm (Za 0) (dC (.int 0))) (Zc (dC (.ty "bool")) Zf)))))
 (Zh (ZC (dC (.bl false)))
 Zn)
 Zn)
 (Zh (Y2 (WL (Zd Zm (Za 0) (dC (.int 1)))) (ZK 1)
 (Zh (Z9 (Xg (Xn (asB (ZJ WR (Zc (Za 1) (Zc (dC (.ty "tuple")) Zf))))) (asB (Zd XC (ZJ Y3 (Zc (Za 1) Zf)) (dC (.int 2)))))
 (Zh (ZC (dC (.bl false)))
 Zn)
 Zn)
 (Zh (Z9 (Xg (Xn (asB (ZJ WR (Zc (Zd Zm (Za 1) (dC (.int 0))) (Zc (dC (.ty "int")) Zf))))) (Xn (asB (ZJ WR (Zc (Zd Zm (Za 1) (dC (.int 1))) (Zc (dC (.ty "int")) Zf))))))
 (Zh (ZC (dC (.bl false)))
 Zn)
 Zn)
 (Zh (Z9 (Xg (asB (ZJ WR (Zc (Zd Zm (Za 1) (dC (.int 0))) (Zc (dC (.ty "bool")) Zf)))) (asB (ZJ WR (Zc (Zd Zm (Za 1) (dC (.int 1))) (Zc (dC (.ty "bool")) Zf)))))
 (Zh (ZC (dC (.bl false)))
 Zn)
 Zn)
 (Zh (Z9 (Xn (Zes (dC (.int 0)) (Bh Jn (Zd Zm (Za 1) (dC (.int 0))) (Bh XR (Zd Zm (Za 1) (dC (.int 1))) (Zhk XR (Zd Zm (Za 0) (dC (.int 0))))))))
 (Zh (ZC (dC (.bl false)))
 Zn)
 Zn)
 Zn)))))
 (Zh (ZC (Zd YD (ZJ Zl4 (Zc (Zd Zm (Za 0) (dC (.int 1))) Zf)) (BU (Zd Zm (Za 0) (dC (.int 1))))))
 Zn))))
noncomputable def Ju:List D->M D:=runB 2 1 Zdq
theorem ZaQ:FnScope ["_law_told","_law_tie"] ["_law_told"] (ZD ZaX):=YH
theorem ZcZ (F:Fun K "_law_is_web" "_law_is_web" ZaX j6 jK)(T:Txt mg) :
  FnOk P w K mg base ZV 1 j6 jK ["_law_told"] (Yl 1 false ZZ Ju):=
 have jG:=ZaQ.nd
 Y1 (own:=[]) F ZaQ λcdv A outer s H E hr G hG=>
 (Zr (Xr (Y8.pt (Wp (Wn (Xs (YT (WX) rfl T.b_isinstance TF.boot_isinstance (Ze (va 0) (Ze (W4 rfl T.b_tuple TF.boot_tuple) Zk))))) (Wp (YJ (UB hr.units) (WV T.b_len (Ze (va 0) Zk)) Zt) (Vo (Wn (Xs (YT (WX) rfl T.b_isinstance TF.boot_isinstance (Ze (ZP ZQ (va 0) Zt) (Ze (W4 rfl T.b_tuple TF.boot_tuple) Zk)))))))))
 (Zr (Z2 (PD.weak Xz))
 ZT)
 Ya)
 (Zr (Xr (Y8.pt (Wp (Wn (Xs (YT (WX) rfl T.b_isinstance TF.boot_isinstance (Ze (ZP ZQ (va 0) Zt) (Ze (W4 rfl T.b_int TF.boot_int) Zk))))) (Vo (Xs (YT (WX) rfl T.b_isinstance TF.boot_isinstance (Ze (ZP ZQ (va 0) Zt) (Ze (W4 rfl T.b_bool TF.boot_bool) Zk)))))))
 (Zr (Z2 (PD.weak Xz))
 ZT)
 Ya)
 (Zr (XH (own:=[]) zr rfl (X0.n (JR (ZP ZQ (va 0) Zt))) (Xx jG rfl (za rfl) (by decide))
 (Zr (Xr (Y8.pt (Wp (Wn (Xs (YT (WX) rfl T.b_isinstance TF.boot_isinstance (Ze (va 1) (Ze (W4 rfl T.b_tuple TF.boot_tuple) Zk))))) (Vo (YJ (UB hr.units) (WV T.b_len (Ze (va 1) Zk)) Zt))))
 (Zr (Z2 (PD.weak Xz))
 ZT)
 Ya)
 (Zr (Xr (Y8.pt (Wp (Wn (Xs (YT (WX) rfl T.b_isinstance TF.boot_isinstance (Ze (ZP ZQ (va 1) Zt) (Ze (W4 rfl T.b_int TF.boot_int) Zk))))) (Vo (Wn (Xs (YT (WX) rfl T.b_isinstance TF.boot_isinstance (Ze (ZP ZQ (va 1) Zt) (Ze (W4 rfl T.b_int TF.boot_int) Zk))))))))
 (Zr (Z2 (PD.weak Xz))
 ZT)
 Ya)
 (Zr (Xr (Y8.pt (Wp (Xs (YT (WX) rfl T.b_isinstance TF.boot_isinstance (Ze (ZP ZQ (va 1) Zt) (Ze (W4 rfl T.b_bool TF.boot_bool) Zk)))) (Vo (Xs (YT (WX) rfl T.b_isinstance TF.boot_isinstance (Ze (ZP ZQ (va 1) Zt) (Ze (W4 rfl T.b_bool TF.boot_bool) Zk)))))))
 (Zr (Z2 (PD.weak Xz))
 ZT)
 Ya)
 (Zr (Xr (Wn (Zih Zt (ZdJ (Zje) (ZP ZQ (va 1) Zt) (ZdJ (UA hr.units0) (ZP ZQ (va 1) Zt) (ZjB (UA hr.units0) (ZP ZQ (va 0) Zt))))))
 (Zr (Z2 (PD.weak Xz))
 ZT)
 Ya)
 ZT)))))
 (Zr (Z2 (PD.weak (V4 (VL hr.units) (VZ (Ze7) rfl T.b_list TF.boot_list (Ze (ZP ZQ (va 0) Zt) Zk)) (ZeE rfl hr.units rfl T.b_sorted TF.boot_sorted rfl T.b_set TF.boot_set (ZP ZQ (va 0) Zt)))))
 ZT))))
noncomputable def Zki:Zb->M Out:=(Zh (Y2 (Xk (dC (.int 4))) (ZK 2)
 (Zh (Ji 3 4 (Zc (Zd Yc (dC (.int 1)) (Zs Xm (Zc (Za 1) (Zc (dC (.int 4)) Zf)))) (Zc (Zd Yc (dC (.int 1)) (Zs Xm (Zc (Za 1) (Zc (dC (.int 3)) Zf)))) Zf)))
 (Zh (Z9 (asB (Zd YD (Zs Xm (Zc (Za 1) (Zc (dC (.int 2)) Zf))) (dC (.int 0))))
 (Zh (Ji 3 4 (Zc (Za 4) (Zc (Za 3) Zf)))
 Zn)
 Zn)
 (Zh (Ji 5 6 (Zc (ZJ VP (Zc (Za 3) (Zc (Za 4) Zf))) (Zc (ZJ UE (Zc (Za 3) (Zc (Za 4) Zf))) Zf)))
 (Zh (Z1 7 (Zd Zm (YS (Zc (dC (.int 1)) (Zc (Za 6) (Zc (Zd Yc (dC (.int 6)) (Zd WQ (dC (.int 3)) (ZJ Zhd (Zc (Zd YD (Za 6) (dC (.int 4))) Zf)))) Zf)))) (Zd Wt (Za 5) (dC (.int 1)))))
 (Zh (Z1 8 (Zs (Ur 2) (Zc (Za 3) (Zc (Za 4) Zf))))
 (Zh (Z9 (Xg (Xn (asB (ZJ WR (Zc (Za 8) (Zc (dC (.ty "tuple")) Zf))))) (Xg (asB (Zd XC (ZJ Y3 (Zc (Za 8) Zf)) (dC (.int 2)))) (asB (ZJ WR (Zc (Zd Zm (Za 8) (dC (.int 0))) (Zc (dC (.ty "bool")) Zf))))))
 (Zh (ZC (dC (.bl false)))
 Zn)
 Zn)
 (Zh (sUnp (Zl3 9 10) (Za 8))
 (Zh (Z9 (Xg (asB (Zd XC (Za 9) (Za 7))) (Xg (Xn (asB (Zs Ju (Zc (Za 10) Zf)))) (asB (Zd XC (Zd Zm (Za 10) (dC (.int 0))) (Zd Wt (Za 9) (dC (.int 1)))))))
 (Zh (ZC (dC (.bl false)))
 Zn)
 Zn)
 (Zh (Z9 (Xg (asB (Zd Wz (Zs Um (Zc (Za 10) Zf)) (Za 3))) (asB (Zd Wz (Zs Um (Zc (Zs UT (Zc (Za 10) Zf)) Zf)) (Za 4))))
 (Zh (ZC (dC (.bl false)))
 Zn)
 Zn)
 (Zh (Y2 (Xk (dC (.int 3))) (ZK 11)
 (Zh (Z1 12 (Zs Jw (Zc (Za 1) (Zc (Zd Yc (Za 9) (Zs Xm (Zc (Za 1) (Zc (dC (.int 3)) Zf)))) Zf))))
 (Zh (Z1 8 (YS (Zc (Zd Zm (Zs WI (Zc (Za 12) Zf)) (dC (.int 1))) (Zc (Zd Zm (Zs WI (Zc (Zs X9 (Zc (Za 12) Zf)) Zf)) (dC (.int 1))) Zf))))
 (Zh (Z9 (Xg (Xn (asB (Zs US (Zc (Za 12) (Zc (Zd Zm (Za 8) (dC (.int 0))) Zf))))) (Xn (asB (Zs US (Zc (Zs UT (Zc (Za 12) Zf)) (Zc (Zd Zm (Za 8) (dC (.int 1))) Zf))))))
 (Zh (ZC (dC (.bl false)))
 Zn)
 Zn)
 (Zh (Z9 (XV (asB (Zd XR (Uw (Zd Zm (Za 8) (dC (.int 0)))) (Za 3))) (asB (Zd XR (Uw (Zd Zm (Za 8) (dC (.int 1)))) (Za 4))))
 (Zh (ZC (dC (.bl false)))
 Zn)
 Zn)
 Zn)))))
 Zn)))))))))))
 (Zh (ZC (dC (.bl true)))
 Zn))
theorem ZgL:FnScope ["script","_law_pen","_law_turn","_law_a","_law_b","_law_low","_law_high","_law_due","_law_found","_law_many","_law_told","_law_k","_law_other"] ["script"] (ZD s_law):=YH
theorem ZlJ {cdv:Value}{A:xA}{outer:List Env}{s:Shared}{H:Hp}{E:XK}{L:List (Addr×Str)}(lo:WA L)(T:Txt mg)(hr:Room 59 (A.deeper (envOfC "law" (ZD s_law) s.heap.objs.size j6 cdv)))(j9:ZL P w K mg base 2 "_law_away" 1 true ZZ UT)(kb:ZL P w K mg base 3 "_law_drawn" 2 true (Wi (WS K) L) Jw)(jS:ZL P w K mg base 2 "_law_is_knot" 2 true ZZ US)(jY:ZL P w K mg base 1 "_law_is_web" 1 false ZZ Ju)(ka:ZL P w K mg base 2 "_law_most" 1 true ZZ Um)(jJ:ZL P w K mg base 2 "_law_next" 2 true (Wi (WS K) L) Xm)(kc:ZL P w K mg base 59 "forcing" 2 true (Yz L) (Ur 2))(ki:ZL P w K mg base 55 "most" 1 true (Yz L) WI)(jR:ZL P w K mg base 6 "turned" 1 false (Yz L) X9)(G:Gh)(hG:(Wi (WS K) L) G) :
  X6 (Vb ZV P w K mg base ["script","_law_pen","_law_turn","_law_a","_law_b","_law_low","_law_high","_law_due","_law_found","_law_many","_law_told","_law_k","_law_other"] "law" (ZD s_law) j6 cdv A outer s H E).nox G [] [] [] false ((Wb s_law).drop 1) Zki:=
 have jG:=ZgL.nd;have hT:Yz L G:=jw lo hG
 (Zr (XH (own:=[]) zr rfl (VY rfl T.b_range Zt) (Xx jG rfl (za rfl) (by decide))
 (Zr (Zej (own:=[]) rfl jG rfl rfl (by decide) (by decide) (by decide) rfl rfl (Ze (ZX YV Zt (ZU (jJ.mono) hG hr (Ze (va 1) (Ze Zt Zk)))) (Ze (ZX YV Zt (ZU (jJ.mono) hG hr (Ze (va 1) (Ze Zt Zk)))) Zk)) (by with_unfolding_all rfl))
 (Zr (Xr (YJ (VL hr.units) (ZU (jJ.mono) hG hr (Ze (va 1) (Ze Zt Zk))) Zt)
 (Zr (Zej (own:=[]) rfl jG rfl rfl (by decide) (by decide) (by decide) rfl rfl (Ze (va 4) (Ze (va 3) Zk)) (by with_unfolding_all rfl))
 ZT)
 Ya)
 (Zr (Zej (own:=[]) rfl jG rfl rfl (by decide) (by decide) (by decide) rfl rfl (Ze (YT (JA rfl) rfl T.b_min TF.boot_min (Ze (va 3) (Ze (va 4) Zk))) (Ze (YT (Za1 rfl) rfl T.b_max TF.boot_max (Ze (va 3) (Ze (va 4) Zk))) Zk)) (by with_unfolding_all rfl))
 (Zr (YO (Yy jG rfl (za rfl) (ZP ZQ (Wd (Ze Zt (Ze (va 6) (Ze (ZX YV Zt (ZX VF Zt (VZ (Zgf) rfl T.b_int TF.boot_int (Ze (V4 (VL hr.units) (va 6) Zt) Zk)))) Zk)))) (ZX Vp (va 5) Zt))))
 (Zr (YO (Yy jG rfl (za rfl) (ZU (kc.mono) hT hr (Ze (va 3) (Ze (va 4) Zk)))))
 (Zr (Xr (Y8.pt (Wp (Wn (Xs (YT (WX) rfl T.b_isinstance TF.boot_isinstance (Ze (va 8) (Ze (W4 rfl T.b_tuple TF.boot_tuple) Zk))))) (Wp (YJ (UB hr.units) (WV T.b_len (Ze (va 8) Zk)) Zt) (Vo (Xs (YT (WX) rfl T.b_isinstance TF.boot_isinstance (Ze (ZP ZQ (va 8) Zt) (Ze (W4 rfl T.b_bool TF.boot_bool) Zk))))))))
 (Zr (Z2 (PD.weak Xz))
 ZT)
 Ya)
 (Zr (ZjC (va 8) (Zjc rfl jG rfl rfl (za rfl) (za rfl) (by decide) (by decide) (hp:=ZeX (B9 jG rfl (za rfl)) (ZeX (B9 jG rfl (za rfl)) ZkM))))
 (Zr (Xr (Y8.pt (Wp (YJ (UB hr.units) (va 9) (va 7)) (Wp (Wn (Xs (ZU (jY.mono) trivial hr (Ze (va 10) Zk)))) (Vo (YJ (UB hr.units) (ZP ZQ (va 10) Zt) (ZX Vp (va 9) Zt))))))
 (Zr (Z2 (PD.weak Xz))
 ZT)
 Ya)
 (Zr (Xr (Y8.pt (Wp (YJ (Zel) (ZU (ka.mono) trivial hr (Ze (va 10) Zk)) (va 3)) (Vo (YJ (Zel) (ZU (ka.mono) trivial hr (Ze (ZU (j9.mono) trivial hr (Ze (va 10) Zk)) Zk)) (va 4)))))
 (Zr (Z2 (PD.weak Xz))
 ZT)
 Ya)
 (Zr (XH (own:=[]) zr rfl (VY rfl T.b_range Zt) (Xx jG rfl (za rfl) (by decide))
 (Zr (YO (Yy jG rfl (za rfl) (ZU (kb.mono) hG hr (Ze (va 1) (Ze (ZX YV (va 9) (ZU (jJ.mono) hG hr (Ze (va 1) (Ze Zt Zk)))) Zk)))))
 (Zr (YO (Yy jG rfl (za rfl) (Wd (Ze (ZP ZQ (ZU (ki.mono) hT hr (Ze (va 12) Zk)) Zt) (Ze (ZP ZQ (ZU (ki.mono) hT hr (Ze (ZU (jR.mono) hT hr (Ze (va 12) Zk)) Zk)) Zt) Zk)))))
 (Zr (Xr (Y8.pt (Wp (Wn (Xs (ZU (jS.mono) trivial hr (Ze (va 12) (Ze (ZP ZQ (va 8) Zt) Zk))))) (Vo (Wn (Xs (ZU (jS.mono) trivial hr (Ze (ZU (j9.mono) trivial hr (Ze (va 12) Zk)) (Ze (ZP ZQ (va 8) Zt) Zk))))))))
 (Zr (Z2 (PD.weak Xz))
 ZT)
 Ya)
 (Zr (Xr (Y8.pt (Zcc (YJ (UA hr.units0) (ZdN rfl rfl T.b_len TF.boot_len rfl T.b_set TF.boot_set (ZP ZQ (va 8) Zt)) (va 3)) (B1 (YJ (UA hr.units0) (ZdN rfl rfl T.b_len TF.boot_len rfl T.b_set TF.boot_set (ZP ZQ (va 8) Zt)) (va 4)))))
 (Zr (Z2 (PD.weak Xz))
 ZT)
 Ya)
 ZT)))))
 ZT)))))))))))
 (Zr (Z2 (PD.weak Xz))
 ZT))
theorem Zbr:FnScope ["_law_pen","_law_many","_law_at","_law_cell","_law_found"] ["_law_pen","_law_many"] (ZD ZbX):=⟨rfl,rfl,rfl,by decide +kernel,rfl,by decide +kernel,by decide +kernel⟩
theorem ZgM {ds:List D}{s s':Pn}{d:D}(h:Xm ds s=some (d,s')):∃m a hd ns,ds=[.pen,.int m]/\s=([a,hd],ns)/\0<m/\m<1073741824/\0<=a/\d=.int ((XA m a hd ns).2 % m)/\s'=([(XA m a hd ns).1,(XA m a hd ns).2 / m],ns):=by
 unfold Xm at h;split at h
 ·split at h
  ·rename_i m a hd ns c
   cases h
   exact⟨m,a,hd,ns,rfl,rfl,c.1,c.2.1,c.2.2,rfl,rfl⟩
  ·cases h
 ·cases h
theorem ZeL {P:xz}{w:World}{K:qk}{mg:Str->Option Value}{base:Heap}{j6:Addr}{jK:xy}(F:Fun K "_law_next" "_law_next" ZbX j6 jK)(T:Txt mg)
  (kr:ZL P w K mg base 1 "_law_fill" 2 false ZZ Ul) (Zkw:∀c a s,0<=a->Ul [.int c,.int a] s=some (.int (W6 c a),s)) :
  FnOk P w K mg base ZV 2 j6 jK ["_law_pen","_law_many"] (Yl 2 true (WS K) Xm):=by
 have nd:=Zbr.nd;refine F.ok Zbr (λvs H Q E h=>?_) λcdv A outer s0 H vs Q E hr h=>?_
 ·obtain⟨G,Hf,ds,pn,d,pn',_,e,_⟩:=h
  exact e
 ·obtain⟨G,Hf,ds,pn,d,pn',hG,el,e1,r,st',eF,k'⟩:=h
  obtain⟨p,sa,tr,rfl⟩:=hG;obtain⟨m,a,hd,ns,rfl,rfl,m0,m1,a0,rfl,rfl⟩:=ZgM eF;obtain⟨v1,v2,rfl,r1,r2⟩:=jo r
  cases (jp.mp r1)
  cases (ja.mp r2)
  obtain⟨a',h',ea,hp,ne,sq,t1,t2⟩:=st';simp only[qbH,and_true]at ea;obtain⟨rfl,rfl⟩:=ea
  -- behind: the pen's two numbers
  have fin:∀(H1:Hp) (x0 y0 x y:Int),BD K p sa tr ([x0,y0],ns) H1->BD K p sa tr ([x,y],ns) (Zl H1 p (.lst [.ref sa,.int x,.int y])):=λH1 x0 y0 x y ⟨_,_,_,_,_,sq,t1,t2⟩=>by
   refine⟨x,y,rfl,ZW,ne,?_,λht=>?_,t2⟩
   ·rcases sq with(q | ⟨o,q⟩) | q
    ·exact .inl (.inl (by rw[Zx ne];exact q))
    ·exact .inl (.inr ⟨o,by rw[Zx ne];exact q⟩)
    ·exact .inr q
   ·obtain⟨o,q⟩:=t1 ht
    exact⟨o,by rw[Zx ne];exact q⟩
  have st0:BD K p sa tr ([a,hd],ns) H:=⟨a,hd,rfl,hp,ne,sq,t1,t2⟩;have grH:∀(jQ H1:Hp) o,Zz (Ub K p sa tr) jQ H1->Gr (Ub K p sa tr) jQ H1 jQ (Zl H1 p o):=λjQ H1 o e1=>
   ⟨λb u n q=>by rw[Zx (show b≠p from n)];exact q,.refl _ _,λb u n q=>by rw[Zx (show b≠p from n)];exact e1 b u n q,λb n h1 h2=>h1⟩
  refine⟨_,VE (Zg0 (Zb9 ZiU (WK WG (pv 0) Xa (λ_ _=>rfl)) (pv 1) (JY _))
   (VE (Uz (i:=2) nd rfl (za rfl) (WK WG (pv 0) Xa (λ_ _=>rfl)))
   (VE (Uz (i:=3) nd rfl (za rfl) Xa)
   (VE (Zg0 (Zb9 ZiU (pv 2) (UW BK rfl T.b_len TF.boot_len (YU (WK WG (pv 0) Xa (λ_ _=>rfl)) Xt)) (JY _))
    (JQ (Uz (i:=3) nd rfl (za rfl) (WK WG (WK WG (pv 0) Xa (λ_ _=>rfl)) (pv 2) (λ_ _=>rfl))))
    (JQ (Zg0 (Zb9 ZlW (UW BK rfl T.b_len TF.boot_len (YU (WK WG (pv 0) Xa (λ_ _=>rfl)) Xt)) Xa (JY _))
     (JQ (Uz (i:=3) nd rfl (za rfl) (VN Zf3 (VN Zed (WK WG (WK WG (pv 0) Xa (λ_ _=>rfl)) (VN Zed (VN Zf4 (pv 2) Xa) (UW BK rfl T.b_len TF.boot_len (YU (WK WG (pv 0) Xa (λ_ _=>rfl)) Xt))) (λ_ _=>rfl)) Xa) (VN Zf4 (pv 2) Xa))))
     Zeb)))
   (VE (Zec (VN Zf3 (pv 2) Xa) (Zf0 (pv 0) Xa Zco))
   (JQ (Zec (PD.canon (Zjm (G:=Ub K p sa tr) kr trivial hr rfl (Ze (Zf9 3 (pv 3)) (Ze (Zf9 2 (pv 2)) Zk)) (YN (YN V2)))) (Zf0 (pv 0) Xa Zco)))))))
   Zeb)
   (VE (Uz (i:=4) nd rfl (za rfl) (VN Zed (WK WG (pv 0) Xa (λ_ _=>rfl)) (pv 1)))
   (VE (Zec (VN Zg1 (WK WG (pv 0) Xa (λ_ _=>rfl)) (pv 1)) (Zf0 (pv 0) Xa Zco))
   (JQ (ZfZ (pv 4))))),?_⟩
  -- pen[2]<many
  refine⟨_,rfl,p,[.ref sa,.int a,.int hd],2,.int hd,rfl,rfl,ZF.of hp,rfl,_,rfl,hd,m,rfl,rfl,_,rfl,?_⟩
  -- the last three rows,from any state of the pen
  have last:∀(x y:Int) (o2 o3 o4:Option V) (jQ H1:Hp),Gr (Ub K p sa tr) Hf H jQ H1->BD K p sa tr ([x,y],ns) H1->x=(XA m a hd ns).1->y=(XA m a hd ns).2->
    Jd (V8 (Wk (rI (λ_ j=>0<j) λi j=>.int (i % j)) (Wk (Bn K) (YG 0) (tC (.int 2))) (YG 1)) (U7 4))
     (Jd (V8 (Wk (rI CDiv λi j=>.int (i / j)) (Wk (Bn K) (YG 0) (tC (.int 2))) (YG 1)) (Bm (YG 0) (tC (.int 2)) Bb)) (tRet (YG 4))) { nx:=λ_ H'=>Q .non H',rt:=Q } [some (.ref p),some (.int m),o2,o3,o4] H1:=by
   intro x y o2 o3 o4 jQ H1 g1 jT ex ey;obtain⟨x1,y1,exy,hp1,_⟩:=id jT;simp only[qbH,and_true]at exy;obtain⟨rfl,rfl⟩:=exy;refine⟨_,rfl,p,[.ref sa,.int x,.int y],2,.int y,rfl,rfl,ZF.of hp1,rfl,_,rfl,y,m,rfl,rfl,m0,?_⟩;refine⟨_,rfl,p,[.ref sa,.int x,.int y],2,.int y,rfl,rfl,ZF.of hp1,rfl,_,rfl,y,m,rfl,rfl,⟨m0,m1⟩,_,rfl,p,[.ref sa,.int x,.int y],2,2,rfl,rfl,hp1,rfl,?_⟩;refine⟨_,rfl,?_⟩;have jO:=fin H1 x y x (y / m) jT;subst ex ey;exact k' _ jQ _ (g1.trans (grH _ _ _ g1.fh)) jO (ja.mpr rfl) λ_=>.scal λz=>z
  by_cases hlt:hd<m
  ·rw[decide_eq_true hlt]
   refine Jg ?_;refine⟨_,rfl,p,[.ref sa,.int a,.int hd],1,.int a,rfl,rfl,ZF.of hp,rfl,?_⟩
   -- the rest behind the cell
   have rest:∀c:Int,c=Bg ns a->
     Jd (V8 (Wk (Vf λi j=>.int (i+j)) (YG 2) (tC (.int 1))) (Bm (YG 0) (tC (.int 1)) Bb)) (V8 (tOf (Ub K p sa tr) false (Zs Ul (Zc (Za 3) (Zc (Za 2) Zf)))) (Bm (YG 0) (tC (.int 2)) Bb)) ({ nx:=(Jd (V8 (Wk (rI (λ_ j=>0<j) λi j=>.int (i % j)) (Wk (Bn K) (YG 0) (tC (.int 2))) (YG 1)) (U7 4)) (Jd (V8 (Wk (rI CDiv λi j=>.int (i / j)) (Wk (Bn K) (YG 0) (tC (.int 2))) (YG 1)) (Bm (YG 0) (tC (.int 2)) Bb)) (tRet (YG 4))) { nx:=λ_ H'=>Q .non H',rt:=Q }),rt:=Q }:Ends) [some (.ref p),some (.int m),some (.int a),some (.int c),none] H:=by
    intro c ec;refine⟨_,rfl,a,1,rfl,rfl,_,rfl,p,[.ref sa,.int a,.int hd],1,1,rfl,rfl,hp,rfl,?_⟩;have g1:=grH Hf H (.lst [.ref sa,.int (a+1),.int hd]) e1;refine⟨Hf,[none,none,some (.int a),some (.int c)],([a+1,hd],ns),.int (W6 c a),([a+1,hd],ns),g1.fh,λi d e=>?_,fin H a hd (a+1) hd st0,?_,λv Hf' H' g st r _=>?_⟩
    ·match i,e with
     | 0,e=>cases e
     | 1,e=>cases e
     | 2,e=>cases e;exact⟨_,rfl,ja.mpr rfl⟩
     | 3,e=>cases e;exact⟨_,rfl,ja.mpr rfl⟩
     | i+4,e=>simp at e
    ·exact Zkw c a _ a0
    ·rw[ja.mp r]
     obtain⟨x1,y1,exy,hp1,_⟩:=id st;simp only[qbH,and_true]at exy;obtain⟨rfl,rfl⟩:=exy;refine⟨_,rfl,p,[.ref sa,.int (a+1),.int hd],2,2,rfl,rfl,hp1,rfl,?_⟩;refine last (a+1) (W6 c a) _ _ _ Hf' _ ((g1.trans g).trans (grH _ _ _ g.fh)) (fin H' _ _ _ _ st) ?_ ?_
     ·unfold XA;rw[if_pos hlt]
     ·unfold XA;rw[if_pos hlt,ec]
   refine⟨_,rfl,_,rfl,p,[.ref sa,.int a,.int hd],0,.ref sa,rfl,rfl,ZF.of hp,rfl,sa,ns.map V.int,rfl,.inl sq,a,_,rfl,rfl,_,rfl,?_⟩;have lm:((ns.map V.int).length:Int)=(ns.length:Int):=by simp
   by_cases h2:a<ns.length
   ·rw[lm,decide_eq_true h2]
    refine Jg ?_;have hi:a.toNat<ns.length:=by omega
    have gi:(ns.map V.int)[a.toNat]?=some (.int (ns.getD a.toNat 0)):=by simp[qbz,hi]
    have ai:XF (ns.map V.int) a=some (.int (ns.getD a.toNat 0)):=by
     have q:=W0 gi
     rwa[qc2 a0]at q
    refine⟨_,rfl,p,[.ref sa,.int a,.int hd],0,.ref sa,rfl,rfl,ZF.of hp,rfl,_,rfl,sa,ns.map V.int,a,_,rfl,rfl,sq,ai,?_⟩;exact rest _ (by unfold Bg;rw[if_pos h2])
   ·rw[lm,decide_eq_false h2]
    refine Je ?_;refine⟨_,rfl,p,[.ref sa,.int a,.int hd],0,.ref sa,rfl,rfl,ZF.of hp,rfl,sa,ns.map V.int,rfl,.inl sq,_,0,rfl,rfl,_,rfl,?_⟩;by_cases h3:(0:Int)<ns.length
    ·rw[lm,decide_eq_true h3]
     refine Jg ?_;have j0:=qai (a*7) (show(ns.length:Int)≠0 by omega);have j1:=qaF (a*7) h3;have hi:(a*7 % (ns.length:Int)).toNat<ns.length:=by omega
     have gi:(ns.map V.int)[(a*7 % (ns.length:Int)).toNat]?=some (.int (ns.getD (a*7 % (ns.length:Int)).toNat 0)):=by simp[qbz,hi]
     have ai:XF (ns.map V.int) (a*7 % (ns.length:Int))=some (.int (ns.getD (a*7 % (ns.length:Int)).toNat 0)):=by
      have q:=W0 gi
      rwa[qc2 j0]at q
     refine⟨_,rfl,p,[.ref sa,.int a,.int hd],0,.ref sa,rfl,rfl,ZF.of hp,rfl,_,rfl,a,7,rfl,rfl,.inr ⟨by decide,by decide⟩,_,rfl,p,[.ref sa,.int a,.int hd],0,.ref sa,rfl,rfl,ZF.of hp,rfl,sa,ns.map V.int,rfl,.inl sq,a*7,_,rfl,rfl,(by rw[lm];exact h3),sa,ns.map V.int,_,_,rfl,rfl,sq,(by rw[lm];exact ai),_,1000003,rfl,rfl,(by show(0:Int)<1000003;decide),_,rfl,a,1000003,rfl,rfl,.inr ⟨by decide,by decide⟩,_,_,rfl,rfl,?_⟩;exact rest _ (by unfold Bg;rw[if_neg h2,if_pos (by omega)])
    ·rw[lm,decide_eq_false h3]
     refine Je ?_;exact rest 0 (by unfold Bg;rw[if_neg h2,if_neg (by omega)])
  ·rw[decide_eq_false hlt]
   refine Je ?_;exact last a hd none none none Hf H (.refl e1) st0 (by unfold XA;rw[if_neg hlt]) (by unfold XA;rw[if_neg hlt])
end K70
namespace TF
open L2
theorem ux0 {α:Type}(us:List α)(e:us.length=0):us=[]:=by cases us with | nil=>rfl | cons=>cases e
theorem ux1 {α:Type}(us:List α)(e:us.length=1):∃a,us=[a]:=by
 cases us with | nil=>cases e | cons a r=>cases ux0 r (qch e);exact⟨a,rfl⟩
theorem ux2 {α:Type}(us:List α)(e:us.length=2):∃a b,us=[a,b]:=by
 cases us with | nil=>cases e | cons a r=>obtain⟨b,rfl⟩:=ux1 r (qch e);exact⟨a,b,rfl⟩
theorem ux3 {α:Type}(us:List α)(e:us.length=3):∃a b c,us=[a,b,c]:=by
 cases us with | nil=>cases e | cons a r=>obtain⟨b,c,rfl⟩:=ux2 r (qch e);exact⟨a,b,c,rfl⟩
theorem ux4 {α:Type}(us:List α)(e:us.length=4):∃a b c d,us=[a,b,c,d]:=by
 cases us with | nil=>cases e | cons a r=>obtain⟨b,c,d,rfl⟩:=ux3 r (qch e);exact⟨a,b,c,d,rfl⟩
noncomputable def IsC (K:qk)(x:Str)(st:Stmt)(c:Addr):Prop:=∃(f:Addr) (fd:xy),qci K mainGlobals x=some (some (.ref f))/\Fun K x x st f fd/\fd.code=.ref c
noncomputable def fnO (x:Str)(st:Stmt)(pm:Value)(c:Addr):Obj:=⟨.type "function",none,.func (yR x x (WH st) (Wb st) (ZD st) .none .none .none pm none (.ref c) .none),#[]⟩
noncomputable def cdO (x:Str)(t:Nat)(ln ac:Int)(a:Addr)(tx k:Nat)(v:Bool):Obj:=
 ⟨.type "code",none,.fields #[.str x t,.str x (t+1),.str "/claim/cut.py" (t+2),.int ln 0,.int ac 0,.int 0 0,.int 0 0,.int 3 0,.ref a,.bool true,.int tx 0,.ref (a+1),.none,
  (match v with | true=>.ref (a+2) | false=>.none),(match v with | true=>.ref (a+3) | false=>.none),.ref (match v with | true=>a+4 | false=>a+2),.int k 0,.int ln 0,.str "/claim/cut.py" (k+1)],#[]⟩
structure DRow where
 x:Str
 i:Nat
 t:Nat
 ln:Int
 ac:Int
 a:Addr
 k:Nat
 v:Bool
 pm:Str
 pt:Nat
noncomputable def DRow.c (r:DRow):Addr:=match r.v with | true=>r.a+5 | false=>r.a+3
noncomputable def dE (P:Params)(x:Str)(t:Nat)(v:Value):DictEntry:=⟨PyData.keyHash P x,.str x t,v⟩
noncomputable abbrev nE (x:Str)(t:Nat)(a:Addr):Str×Nat×Addr:=(x,t,a)
noncomputable abbrev dR (x:Str)(i t:Nat)(ln ac:Int)(a:Addr)(k:Nat)(v:Bool)(pm:Str)(pt:Nat):DRow:=⟨x,i,t,ln,ac,a,k,v,pm,pt⟩
noncomputable def dRs (P:Params)(l:List (Str×Nat×Addr)):List DictEntry:=l.map λe=>dE P e.1 e.2.1 (.ref e.2.2)
noncomputable def ZnZ (ZS:Nat->Stmt)(tx:Nat)(m:List DictEntry)(n:Nat)(rs:List DRow):qk:=
 (mainNs,⟨.type "dict",none,.dict m.toArray n,#[]⟩)::rs.flatMap λr=>[(r.c,cdO r.x r.t r.ln r.ac r.a tx r.k r.v),(r.c+1,fnO r.x (ZS r.i) (.str r.pm r.pt) r.c)]
theorem Zn0 {K:qk}{x:Str}{st:Stmt}{pm:Value}{c f:Addr}(a:qci K mainGlobals x=some (some (.ref f)))(l:K.lookup f=some (fnO x st pm c))(cd:qbb K (.ref c) x=true):IsC K x st c:=
 ⟨f,_,a,ZmK l cd (by unfold yI;dsimp only;rw[l];rfl),rfl⟩
noncomputable def Zni:Stmt->Pos
 | .FunctionDef _ _ _ _ _ _ _ _ _ p=>p
 | _=>⟨0,0,0,0⟩
noncomputable abbrev ZgN (st:Stmt):DefRec:=⟨"law",WH st,Wb st,ZD st,Zni st⟩
theorem head_of {l:PySem.W.OpenLaw}{q:xz}{K:Params->qk}{as:List Addr}{e:∀P,as=(K P).map (·.1)}{N:Nat}{st:Stmt}(said:l.wellSaid=true)
  (left:PySem.W.LeftO l.prog q [] (λs=>PySem.W.xlAt q [] s&&PySem.W.recOk l.row.records s) (qaC K as e).obs (qaC K as e).val N)
  (hdef:PySem.W.defOf q l.row.name=some (ZgN st,[])) (hp:l.row.prog.theDef l.row.name=some (WH st,Wb st,ZD st))
  (hk:PySem.W.kwWritten? (WH st).kwonlyargs (WH st).kw_defaults=some [])
  (ok:(PySem.W.chainsOk q&&PySem.W.opensWell l.row.prog&&(PySem.W.frees l.row.toRowW&&l.row.within.isEmpty))=true) (hb:l.row.prog.bare) (hw:l.row.toRowW.promised) (hwr:(!l.row.writes||l.row.records.isEmpty)=true)
  (call:qcU q [] (PySem.W.XL q []) (qaC K as e).says l.row.toRowW (ZgN st) [] λf vs=>qcO f vs):l.Holds:=
 PySem.W.holds_law said λsd=>PySem.W.holds_open left (qaC K as e).of (qaC K as e).keeps (λs z=>PySem.W.xl_of s (qaQ.mp z).1) PySem.W.XL.keeps hdef hp hk (λs z=>PySem.W.recFacts_of (qaQ.mp z).2) hwr sd ok hb hw call
noncomputable def AtR (K:qk)(mg:Str->Option Value)(ZS:Nat->Stmt)(r:DRow):Prop:=∃(f:Addr) (fd:xy),Fun K r.x r.x (ZS r.i) f fd/\mg r.x=some (.ref f)/\fd.code=.ref r.c
noncomputable def Zme (K:qk)(ZS:Nat->Stmt)(r:DRow):Prop:=qci K mainGlobals r.x=some (some (.ref (r.c+1)))/\K.lookup (r.c+1)=some (fnO r.x (ZS r.i) (.str r.pm r.pt) r.c)/\qbb K (.ref r.c) r.x=true
noncomputable def ZeM (K:qk)(ZS:Nat->Stmt):List DRow->Prop
 | []=>True
 | r::l=>Zme K ZS r/\ZeM K ZS l
theorem ZfM {K:qk}{ZS:Nat->Stmt}:∀{l:List DRow} {j:Nat} {r:DRow},ZeM K ZS l->l[j]?=some r->Zme K ZS r
 | _::_,0,_,h,e=>by cases e;exact h.1
 | _::l,j+1,_,h,e=>ZfM (l:=l) h.2 e
theorem Znj {K:qk}{h:Heap}{mg:Str->Option Value}{ZS:Nat->Stmt}{l:List DRow}(ok:ZeM K ZS l)(X:K.In h)(G:h.Ns mainGlobals mg)(j:Nat){r:DRow}(e:l[j]?=some r:=by rfl):AtR K mg ZS r:=by
 obtain⟨a,b,c⟩:=ZfM ok e;obtain⟨f,fd,a,F,d⟩:=Zn0 a b c;exact⟨f,fd,F,PySem.W.mg_of X G a,d⟩
theorem bdc {K:qk}{x:Str}{st:Stmt}{f:Addr}{fd:xy}(ps:List Str)(F:Fun K x x st f fd)
  (h:∀(kV doc pm:Value) (an:Option Addr) (cdv ct:Value) (us:List Value),us.length=ps.length->bindArgs (yR x x (WH st) (Wb st) (ZD st) .none kV doc pm an cdv ct) ⟨us,[]⟩=pure (ps.zip us):=by
   intro _ _ _ _ _ _ us hl
   first
    | (obtain⟨_,rfl⟩:=TF.ux1 us hl;rfl)
    | (obtain⟨_,_,rfl⟩:=TF.ux2 us hl;rfl)
    | (obtain⟨_,_,_,rfl⟩:=TF.ux3 us hl;rfl)
    | (obtain⟨_,_,_,_,rfl⟩:=TF.ux4 us hl;rfl)
    | (obtain⟨_,_,_,_,_,rfl⟩:=TF.ux5 us hl;rfl)
    | (obtain⟨_,_,_,_,_,_,rfl⟩:=TF.ux6 us hl;rfl)
    | (obtain⟨_,_,_,_,_,_,_,rfl⟩:=TF.ux7 us hl;rfl)
    | (obtain rfl:=TF.ux0 us hl;rfl)):Wf K fd ps []:=F.binds h
theorem mkc {P:xz}{w:World}{K:qk}{mg:Str->Option Value}(base:Heap){x:Str}{st:Stmt}{f:Addr}{fd:xy}{k n:Nat}{ps:List Str}{fr:Bool}{GG:Gh->Prop}{F9:List D->M D}(F:Fun K x x st f fd)(m:mg x=some (.ref f))(ok:FnOk P w K mg base ZV k f fd ps (Yl n fr GG F9))
  (h:∀(kV doc pm:Value) (an:Option Addr) (cdv ct:Value) (us:List Value),us.length=ps.length->bindArgs (yR x x (WH st) (Wb st) (ZD st) .none kV doc pm an cdv ct) ⟨us,[]⟩=pure (ps.zip us):=by
   intro _ _ _ _ _ _ us hl
   first
    | (obtain⟨_,rfl⟩:=TF.ux1 us hl;rfl)
    | (obtain⟨_,_,rfl⟩:=TF.ux2 us hl;rfl)
    | (obtain⟨_,_,_,rfl⟩:=TF.ux3 us hl;rfl)
    | (obtain⟨_,_,_,_,rfl⟩:=TF.ux4 us hl;rfl)
    | (obtain⟨_,_,_,_,_,rfl⟩:=TF.ux5 us hl;rfl)
    | (obtain⟨_,_,_,_,_,_,rfl⟩:=TF.ux6 us hl;rfl)
    | (obtain⟨_,_,_,_,_,_,_,rfl⟩:=TF.ux7 us hl;rfl)
    | (obtain rfl:=TF.ux0 us hl;rfl)):ZL P w K mg base k x n fr GG F9:=⟨f,fd,ps,ok,m,F.kp,F.binds h⟩
section
variable {X:Cx}{G:Gh}{ob own own':List Nat}{fr:Bool}
end
end TF
namespace TP2
open L2 TF TP
noncomputable abbrev nD (i:Nat):D:=.int (i:Int)
noncomputable def ZY (k:List Nat):D:=.tup (k.map nD)
noncomputable def X7 (jD:Qa)(i:Nat)(k:List Nat):Bool:=k.all λo=>decide ((o,i)∈jD)
noncomputable def kn (jD:Qa):Nat->List (List Nat)
 | 0=>[[]]
 | i+1=>kn jD i++((kn jD i).filter (X7 jD i)).map (· ++ [i])
theorem ZgO {jD:Qa}:∀{i:Nat} {k:List Nat},k∈kn jD i->(∀o∈k,o<i)/\k.length<=i
 | 0,k,h=>by
  have:k=[]:=by simpa[kn]using h
  subst this;simp
 | i+1,k,h=>by
  rw[kn]at h;rcases qY.mp h with h | h
  ·have:=ZgO h
   exact⟨λo ho=>zO (this.1 o ho),by omega⟩
  ·obtain⟨q,hq,rfl⟩:=qE.mp h
   have:=ZgO (qW.mp hq).1;refine⟨λo ho=>?_,by simp;omega⟩;rcases qY.mp ho with ho | ho
   ·exact zO (this.1 o ho)
   ·rw[qH.mp ho];omega
theorem Zkj (jD:Qa):∀i,(kn jD i).length<=2 ^ i
 | 0=>by simp[kn]
 | i+1=>by
  have h:=Zkj jD i;have h2:=yN (X7 jD i) (kn jD i);rw[kn,qG,qj,qda];omega
theorem ZhC (jD:Qa):∀i,∃r,kn jD i=[]::r
 | 0=>⟨[],rfl⟩
 | i+1=>by
  obtain⟨r,e⟩:=ZhC jD i;refine⟨r++((kn jD i).filter (X7 jD i)).map (· ++ [i]),?_⟩;rw[kn]
  conv=>lhs;lhs;rw[e]
  rfl
theorem Zkk (p:Nat×Nat)(jD:Qa):Xq (Zv p) (.dt (YE [] jD))=some (.bl (decide (p∈jD))):=by
 have e:Ua (Zv p) (.dt (YE [] jD))=some (decide (p∈jD)):=by
  show(XI [.int (p.1:Int),.int (p.2:Int)]).map (λk=>(Z8 (YE [] jD) k).isSome)=_;show some ((Z8 (YE [] jD) (XM p)).isSome)=_;rw[Zfg];simp[Z8]
 unfold Xq;rw[e];rfl
theorem ZlK (k:List Nat)(i:Nat)(h:k.length<=1000):Yc (ZY k) (.tup [nD i])=some (ZY (k ++ [i])):=by
 unfold ZY;show(if (k.map nD).length + [nD i].length<=xg then some (D.tup (k.map nD ++ [nD i]))else none)=_;rw[if_pos (by rw[qj,YI];simp;omega),zK];rfl
noncomputable def YW (n:Nat)(jD:Qa)(p:Nat):List Nat:=(qp n).filter λo=>tied jD p o
noncomputable def Znk (n:Nat)(jD:Qa):D:=.lst ((qp n).map λp=>.lst ((YW n jD p).map nD))
theorem Znl (a b:Nat):ZA (nD a) (nD b)=decide (a=b):=by
 show((a:Int)==(b:Int))=_;rw[qaG,beq_iff_eq,decide_eq_true_eq];constructor <;> intro h <;> omega
theorem Zkl (o:Nat)(l:List Nat):XS (nD o) (l.map nD)=decide (o∈l):=by
 unfold XS
 induction l with
 | nil=>simp
 | cons t ts ih=>
  rw[qX,qaB,ih,Znl];by_cases h:t=o
  ·subst h;simp
  ·have:¬o=t:=λz=>h z.symm
   simp[h,this]
theorem Zc0 (l:List Nat):Ym (l.map nD)=true:=by
 induction l with
 | nil=>simp[Ym]
 | cons a l ih=>simp[Ym,Zo,ih]
theorem ZhD (l:List Nat):Y7 (l.map nD)=0:=by
 induction l with
 | nil=>simp[Y7]
 | cons a l ih=>simp[Y7,Z4,ih]
theorem Zkm (o:Nat)(l:List Nat):Xq (nD o) (.lst (l.map nD))=some (.bl (decide (o∈l))):=by
 have h:XJ (nD o) (l.map nD)=true:=by simp[XJ,Zo,Zc0,Z4,ZhD]
 simp only[Xq,Ua,h,if_true,Option.map,Zkl]
noncomputable def Wl (l:List Nat):Nat:=l.foldl max 0
theorem ZeN (l:List Nat):∀a,a<=l.foldl max a/\∀x∈l,x<=l.foldl max a:=by
 induction l with
 | nil=>intro a;simp
 | cons b l ih=>
  intro a;obtain⟨h1,h2⟩:=ih (max a b);refine⟨?_,λx hx=>?_⟩
  ·show a<=l.foldl max (max a b);omega
  ·show x<=l.foldl max (max a b)
   rcases qq.mp hx with rfl | hx
   ·omega
   ·exact h2 x hx
theorem ZeO (l:List Nat)(b:Nat)(h:∀x∈l,x<=b):∀a,a<=b->l.foldl max a<=b:=by
 induction l with
 | nil=>intro a ha;exact ha
 | cons c l ih=>
  intro a ha;exact ih (λx hx=>h x (by simp[hx])) (max a c) (by have:=h c (by simp);omega)
theorem ZfN (l:List Nat):∀a:Nat,Xo (a:Int) (l.map λ(i:Nat)=>(i:Int))=((l.foldl max a:Nat):Int):=by
 induction l with
 | nil=>intro a;rfl
 | cons b l ih=>
  intro a;show Xo (max (a:Int) (b:Int)) (l.map λ(i:Nat)=>(i:Int))=_;rw[show max (a:Int) (b:Int)=((max a b:Nat):Int) by omega,ih];rfl
theorem ZaR (l:List Nat):ZO (l.map nD)=some (l.map λ(i:Nat)=>(i:Int)):=by
 have:=Jz (l.map λ(i:Nat)=>(i:Int));rw[qM]at this;exact this
theorem ZiE (l:List Nat)(h:∃r,l=0::r):Jc [.lst (l.map nD)]=some (nD (Wl l)):=by
 obtain⟨r,rfl⟩:=h;show(match ZO ((0::r).map nD)with | some (n::r)=>some (D.int (Xo n r)) | _=>none)=_;rw[ZaR];show some (D.int (Xo ((0:Nat):Int) (r.map λ(i:Nat)=>(i:Int))))=_;rw[ZfN];rfl
noncomputable def UH (jD:Qa)(n:Nat):List Nat:=(kn jD n).map qbn
theorem ZiF (jD:Qa)(n:Nat):∃r,UH jD n=0::r:=by
 obtain⟨r,e⟩:=ZhC jD n;exact⟨r.map qbn,by unfold UH;rw[e];rfl⟩
theorem Zd0 {α:Type}(q:α->Bool):∀l:List α,l.length=(l.filter q).length+(l.filter λx=>!q x).length
 | []=>rfl
 | a::l=>by
  have:=Zd0 q l
  cases h:q a with
  | true=>simp[zx,h];omega
  | false=>simp[zx,h];omega
noncomputable def RT (jD:Qa)(a b:Nat):Prop:=a<b/\(a,b)∈jD
theorem Ba {jD:Qa}:∀{n:Nat} {k:List Nat},k∈kn jD n↔k.Pairwise (RT jD)/\∀o∈k,o<n
 | 0,k=>by
  constructor
  ·intro h
   have:k=[]:=by simpa[kn]using h
   subst this;exact⟨.nil,by simp⟩
  ·rintro⟨_,h⟩
   cases k with
   | nil=>simp[kn]
   | cons a k=>exact absurd (h a (by simp)) (by omega)
 | n+1,k=>by
  rw[kn,qY];constructor
  ·rintro(h | h)
   ·have:=Ba.mp h
    exact⟨this.1,λo ho=>zO (this.2 o ho)⟩
   ·obtain⟨q,hq,rfl⟩:=qE.mp h
    obtain⟨hq1,hq2⟩:=qW.mp hq;have:=Ba.mp hq1;unfold X7 at hq2;rw[yF]at hq2;refine⟨qU.mpr ⟨this.1,by simp,λa ha b hb=>?_⟩,λo ho=>?_⟩
    ·rw[qH.mp hb]
     exact⟨this.2 a ha,by simpa using hq2 a ha⟩
    ·rcases qY.mp ho with ho | ho
     ·exact zO (this.2 o ho)
     ·rw[qH.mp ho];omega
  ·rintro⟨h1,h2⟩
   by_cases hn:n∈k
   ·right
    obtain⟨a,b,rfl⟩:=List.append_of_mem hn;have hp:=qU.mp h1;have hb:b=[]:=by
     cases b with
     | nil=>rfl
     | cons y b=>
      have r1:=(yJ.mp hp.2.1).1 y (by simp);have:=h2 y (by simp);have:=r1.1;omega
    subst hb;have ha:∀o∈a,RT jD o n:=λo ho=>hp.2.2 o ho n (by simp);refine qE.mpr ⟨a,qW.mpr ⟨Ba.mpr ⟨hp.1,λo ho=>(ha o ho).1⟩,?_⟩,rfl⟩;unfold X7;rw[yF];exact λo ho=>by simpa using(ha o ho).2
   ·left
    refine Ba.mpr ⟨h1,λo ho=>?_⟩;have:=h2 o ho;have:o≠n:=λz=>hn (z▸ho);omega
theorem Zkn {R:Nat->Nat->Prop}{k:List Nat}(hr:k.Pairwise (· < ·))(h:k.Pairwise R){a b:Nat}(ha:a∈k)(hb:b∈k)(hab:a<b):R a b:=by
 obtain⟨i,hi,rfl⟩:=qc3 ha;obtain⟨j,hj,rfl⟩:=qc3 hb;have p1:=zI.mp hr;have p2:=zI.mp h;rcases Nat.lt_trichotomy i j with z | z | z
 ·exact p2 i j hi hj z
 ·subst z;exact absurd hab (yC _)
 ·have:=p1 j i hj hi z;omega
end TP2
namespace TP3
open L2 TF TP TS
open TP2
noncomputable def Xd (k:List Nat):List Int:=k.map λ(x:Nat)=>(x:Int)
theorem Zko {jD:Qa}{n:Nat}(hn:n<=10):(kn jD n).length<=1024:=by
 have:=Zkj jD n;have:2 ^ n<=2 ^ 10:=qcT (by omega) hn;omega
theorem Ux {n:Nat}{jD:Qa}{k:List Nat}:k∈kn jD n↔k.Pairwise (· < ·)/\(∀o∈k,o<n)/\∀a∈k,∀b∈k,a≠b->tied jD a b=true:=by
 rw[Ba];constructor
 ·rintro⟨h1,h2⟩
  have hr:k.Pairwise (· < ·):=h1.imp λh=>h.1;refine⟨hr,h2,λa ha b hb hab=>?_⟩;by_cases hlt:a<b
  ·rw[JS hlt];simpa using(Zkn hr h1 ha hb hlt).2
  ·have hlt:b<a:=by omega
   rw[BX,JS hlt];simpa using(Zkn hr h1 hb ha hlt).2
 ·rintro⟨hr,h2,h3⟩
  refine⟨?_,h2⟩;refine qa9 (λ{a b} ha hb hab=>?_) hr;refine⟨hab,?_⟩;have:=h3 a ha b hb (by omega);rw[JS hab]at this;simpa using this
theorem Zc1 (n:Nat):(qp n).Pairwise (· < ·):=qcz
theorem Zc2 {k:List Nat}(h:k.Pairwise (· < ·)):k.Nodup:=h.imp λh=>by omega
section
variable {m n:Nat}{f:Nat->Nat}{tm tn:Qa}
theorem ZbL {α:Type}[BEq α][LawfulBEq α]:∀{a b:List α},a.Nodup->(∀x∈a,x∈b)->a.length<=b.length
 | [],_,_,_=>by simp
 | x::a,b,nd,h=>by
  have nd':=zv.mp nd;have hx:=h x (by simp);have ih:=ZbL (a:=a) (b:=b.erase x) nd'.2 λy hy=>(qcS (λ(z:y=x)=>nd'.1 (by rw[<-z];exact hy))).mpr (h y (by simp[hy]));have:=qcg hx;have:0<b.length:=qcA hx;simp only[qB];omega
theorem ZlL {l:List Nat}(h:∃r,l=0::r):Wl l∈l:=by
 have key:∀(l:List Nat) (a:Nat),l.foldl max a=a∨l.foldl max a∈l:=by
  intro l
  induction l with
  | nil=>intro a;exact .inl rfl
  | cons b l ih=>
   intro a;show l.foldl max (max a b)=a∨l.foldl max (max a b)∈b::l;rcases ih (max a b)with e | e
   ·rcases qdc a b with h | h
    ·right;rw[e,qaU h];simp
    ·left;rw[e,qbJ h]
   ·right;exact qS _ e
 obtain⟨r,rfl⟩:=h;rcases key (0::r) 0 with e | e
 ·unfold Wl;rw[e];simp
 ·exact e
theorem Zkp {l:List Nat}{x:Nat}(h:x∈l):x<=Wl l:=(ZeN l 0).2 x h
end
theorem Zbs (jD:Qa)(a b:Nat)(s:Pn):WW [.dt (YE [] jD),.int a,.int b] s=some (.bl (tied jD a b),s):=by
 simp[WW,Zcw,runB,Zh,ZC,Zn,Zd,ZJ,Zc,Zf,Yg,Za,Zp,ZB,YZ,VP,UE,two_le,Zcx,Zkk,tied]
theorem ZeP {as:List Nat}{j:Nat}(hj:j<as.length):XF (as.map nD) (j:Int)=some (nD (as.getD j 0)):=by
 refine W0 ?_;rw[qC,qN,qD hj];rfl
theorem ZiG (ps:List Nat):Y3 [.lst (ps.map nD)]=some (nD ps.length):=by
 show some (D.int ((ps.map nD).length:Nat))=_;rw[qj]
theorem ZlM {d:D}(h:Zo d=true)(hd:Z4 d<=60):YD d d=some (.bl true):=by
 unfold YD Vx;rw[if_pos (by simp[h,hd]),Zcq d h]
theorem Zc3:∀{ds:List D},(∀d∈ds,Zo d=true)->Ym ds=true
 | [],_=>by simp[Ym]
 | d::ds,h=>by
  simp only[Ym,zi];exact⟨h d (by simp),Zc3 λd hd=>h d (by simp[hd])⟩
section
variable (ap:Nat->Nat->Bool)
noncomputable def Y4 (ps:List Nat)(p:Nat):Nat:=(ps.filter λo=>ap p o).length
noncomputable def YM (ps:List Nat)(p:Nat):List Nat:=ps.filter λo=>!decide (o=p) && !ap p o
noncomputable def Yd (ps:List Nat):Nat:=ps.getD ((ps.map (Y4 ap ps)).idxOf (Wl (ps.map (Y4 ap ps)))) 0
structure KnA (ps K:List Nat):Prop where
 nd:K.Nodup
 sub:∀x∈K,x∈ps
 two:∀x∈K,∀y∈K,x≠y->ap x y=false
end
section
variable {ap:Nat->Nat->Bool}
theorem ZgP {l:List Nat}(h:l≠[]):Wl l∈l:=by
 have:=ZlL (l:=0::l) ⟨l,rfl⟩;have e:Wl (0::l)=Wl l:=rfl;rw[e]at this;rcases qq.mp this with z | z
 ·cases l with
  | nil=>exact absurd rfl h
  | cons a r=>
   have h1:=Zkp (l:=a::r) (x:=a) (by simp);have h2:a=0:=by omega
   rw[z,h2];simp
 ·exact z
theorem ZlN {ps:List Nat}(f:Nat->Nat){v:Nat}(h:v∈ps.map f):ps.getD ((ps.map f).idxOf v) 0∈ps/\f (ps.getD ((ps.map f).idxOf v) 0)=v:=by
 have hl:=qa8.mpr h;have e:=List.getElem_idxOf hl;rw[List.getElem_map]at e;have hl':(ps.map f).idxOf v<ps.length:=by simpa using hl
 rw[qN,qD hl'];exact⟨qbx hl',e⟩
theorem BQ {ps:List Nat}(h:ps≠[]):Yd ap ps∈ps:=(ZlN (Y4 ap ps) (ZgP (by simpa using h))).1
theorem Us {ps:List Nat}{p:Nat}:∀x∈YM ap ps p,x∈ps/\x≠p/\ap p x=false:=λx hx=>by
 obtain⟨h1,h2⟩:=qW.mp hx;simp only[zi,yU,decide_eq_false_iff_not]at h2;exact⟨h1,h2.1,h2.2⟩
theorem Zd1 {ps:List Nat}{p:Nat}(h:p∈ps)(f:Nat->Bool)(hf:f p=false):(ps.filter f).length<ps.length:=by
 induction ps with
 | nil=>simp at h
 | cons a r ih=>
  have hr:=yN f r;rcases qq.mp h with e | h
  ·subst e
   rw[yW (by simpa using hf)];simp only[qB];omega
  ·have:=ih h
   by_cases fa:f a=true
   ·rw[qaz fa];simp only[qB];omega
   ·rw[yW fa];simp only[qB];omega
theorem ZfO {ps:List Nat}{p:Nat}(h:p∈ps):(YM ap ps p).length<ps.length:=Zd1 h _ (by simp)
theorem Zc4 {ps:List Nat}{p:Nat}(h:p∈ps):(ps.filter λo=>!decide (o=p)).length<ps.length:=Zd1 h _ (by simp)
theorem jB {ps K:List Nat}{p:Nat}(sy:∀a b,ap a b=ap b a)(hp:p∈ps)(h:KnA ap (YM ap ps p) K):KnA ap ps (p::K) where
 nd:=zv.mpr ⟨λz=>(Us p (h.sub p z)).2.1 rfl,h.nd⟩
 sub:=λx hx=>by
  rcases qq.mp hx with e | hx
  ·rw[e];exact hp
  ·exact(Us x (h.sub x hx)).1
 two:=λx hx y hy ne=>by
  rcases qq.mp hx with e | hx
  ·rcases qq.mp hy with e' | hy
   ·exact absurd (e.trans e'.symm) ne
   ·rw[e];exact(Us y (h.sub y hy)).2.2
  ·rcases qq.mp hy with e' | hy
   ·rw[e',sy];exact(Us x (h.sub x hx)).2.2
   ·exact h.two x hx y hy ne
theorem KnA.mono {ps qs K:List Nat}(h:KnA ap ps K)(s:∀x∈ps,x∈qs):KnA ap qs K:=⟨h.nd,λx hx=>s x (h.sub x hx),h.two⟩
theorem KnA.rest {ps K:List Nat}{p:Nat}(h:KnA ap ps K):KnA ap (YM ap ps p) (K.filter λo=>!decide (o=p) && !ap p o) where
 nd:=h.nd.sublist zT
 sub:=λx hx=>by
  obtain⟨h1,h2⟩:=qW.mp hx;exact qW.mpr ⟨h.sub x h1,h2⟩
 two:=λx hx y hy=>h.two x (qW.mp hx).1 y (qW.mp hy).1
theorem ZiH (ir:∀a,ap a a=false){K:List Nat}{p:Nat}{ps:List Nat}(h:KnA ap ps K)(hm:p∈K∨Y4 ap ps p<=1):K.length<=(K.filter λo=>!decide (o=p) && !ap p o).length+1:=by
 have e:=Zd0 (λo=>!decide (o=p) && !ap p o) K;have hd:(K.filter λo=>!(!decide (o=p) && !ap p o)).length<=1:=by
  have nd:(K.filter λo=>!(!decide (o=p) && !ap p o)).Nodup:=h.nd.sublist zT;by_cases hp:p∈K
  ·have:=ZbL (b:=[p]) nd λx hx=>by
    obtain⟨h1,h2⟩:=qW.mp hx;by_cases z:x=p
    ·simp[z]
    ·have:=h.two p hp x h1 (zH z)
     simp[z,this]at h2
   simpa using this
  ·have hc:=hm.resolve_left hp
   have:=ZbL (b:=ps.filter λo=>ap p o) nd λx hx=>by
    obtain⟨h1,h2⟩:=qW.mp hx;have z:x≠p:=λz=>hp (z▸h1);simp[z]at h2;exact qW.mpr ⟨h.sub x h1,h2⟩
   unfold Y4 at hc;omega
 omega
end
noncomputable def Xi (l:List Nat):List (Zu×V):=l.map λ(o:Nat)=>(yo (o:Int),V.bl true)
theorem ZeQ {x:Nat}:∀l:List Nat,Z8 (Xi l) (yo (x:Int))=if x∈l then some (.bl true)else none
 | []=>rfl
 | q::qs=>by
  by_cases e:q=x
  ·subst e
   show Z8 ((yo (q:Int),V.bl true)::Xi qs) _=_;rw[WD rfl];simp
  ·have hn:¬((yo (q:Int):Zu)=yo (x:Int)):=λz=>by
    have:=qdf z;omega
   show Z8 ((yo (q:Int),V.bl true)::Xi qs) _=_;rw[WE hn,ZeQ qs];have:x≠q:=λz=>e z.symm;simp[this]
theorem Zkq:∀(l:List Nat) (jH:List (Zu×V)),l.Nodup->(∀x∈l,Z8 jH (yo (x:Int))=none)->WM jH (l.map λo=>D.tup [nD o,.bl true])=some (jH++Xi l)
 | [],jH,_,_=>by simp[WM,Xi]
 | p::ps,jH,nd,h=>by
  have nd':=zv.mp nd;show WM (Yo jH (yo (p:Int)) (.bl true)) (ps.map λo=>D.tup [nD o,.bl true])=_;rw[Zkq ps _ nd'.2 λx hx=>?_,Zi1 _ (h p (by simp))]
  ·show some ((jH ++ [_])++Xi ps)=some (jH++(_::Xi ps))
   simp
  ·rw[Ze1,if_neg (λz=>nd'.1 (by
    have:=qdf z;have:x=p:=by omega
    exact this▸hx))]
   exact h x (by simp[hx])
theorem Znm (l:List Nat)(x:Nat):Xq (nD x) (.dk (Xi l))=some (.bl (decide (x∈l))):=by
 show((some (yo (x:Int):Zu)).map λk=>(Z8 (Xi l) k).isSome).map D.bl=_;simp only[yc];rw[ZeQ];by_cases h:x∈l <;> simp[h]
theorem ZiI (l:List Nat)(x:Nat):VM (nD x) (.dk (Xi l))=some (.bl (!decide (x∈l))):=by
 show((some (yo (x:Int):Zu)).map λk=>(Z8 (Xi l) k).isSome).map (λb=>D.bl (!b))=_;simp only[yc];rw[ZeQ];by_cases h:x∈l <;> simp[h]
noncomputable def YY (n:Nat)(A:Nat->List Nat):D:=.lst ((qp n).map λp=>.dk (Xi (A p)))
theorem Zkr {n p:Nat}{A:Nat->List Nat}(h:p<n):Zm (YY n A) (nD p)=some (.dk (Xi (A p))):=by
 show XF _ (p:Int)=_;refine W0 ?_;rw[qC,yX h];rfl
section
variable {n:Nat}{A:Nat->List Nat}{ap:Nat->Nat->Bool}
theorem ZgQ (a b:Nat):XC (nD a) (nD b)=some (.bl (!decide (a=b))):=by
 rw[nei];congr 3;rw[qaG,beq_iff_eq,decide_eq_true_eq];constructor <;> intro h <;> omega
theorem ZlO {ds es:List D}(h:ds.length+es.length<=100000):Yc (.lst ds) (.lst es)=some (.lst (ds++es)):=by
 show(if ds.length+es.length<=xg then some (D.lst (ds++es))else none)=_;rw[if_pos (by rw[YI];omega)]
theorem Znn (ds:List D)(hp:Ym ds=true)(hd:Y7 ds<=10):YD (.lst ds) (.lst [])=some (.bl (decide (ds=[]))):=by
 have hok:Vx (.lst ds) (.lst [])=true:=by
  unfold Vx;simp[Zo,Z4,Ym,Y7,hp];omega
 unfold YD;rw[if_pos hok]
 cases ds with
 | nil=>rfl
 | cons a r=>rfl
theorem Zks {l:List Nat}(h:l≠[]):Jc [.lst (l.map nD)]=some (nD (Wl l)):=by
 cases l with
 | nil=>exact absurd rfl h
 | cons m r=>
  have e:ZO ((m::r).map nD)=some ((m:Int)::r.map λ(i:Nat)=>(i:Int)):=ZaR (m::r);show(match ZO ((m::r).map nD)with | some (n::r)=>some (D.int (Xo n r)) | _=>none)=_;rw[e];show some (D.int (Xo (m:Int) (r.map λ(i:Nat)=>(i:Int))))=_;rw[ZfN r m];have e2:Wl (m::r)=r.foldl max m:=by
   show r.foldl max (max 0 m)=_;rw[qaU (zy m)]
  rw[e2]
theorem ZgR {l:List Nat}{v:Nat}(h:v∈l):Zew (.lst (l.map nD)) (nD v)=some (nD (l.idxOf v)):=by
 show((ZO (l.map nD)).bind λns=>if (v:Int)∈ns then some (D.int (ns.idxOf (v:Int):Nat))else none)=_;rw[ZaR];show(if (v:Int)∈l.map (λ(i:Nat)=>(i:Int))then some (D.int ((l.map λ(i:Nat)=>(i:Int)).idxOf (v:Int):Nat))else none)=_;rw[if_pos (qE.mpr ⟨v,h,rfl⟩)];have:(l.map λ(i:Nat)=>(i:Int)).idxOf (v:Int)=l.idxOf v:=by
  clear h
  induction l with
  | nil=>rfl
  | cons a r ih=>
   rw[qX,List.idxOf_cons,List.idxOf_cons,ih];have:((a:Int)==(v:Int))=(a==v):=by
    rw[qaG,beq_iff_eq,beq_iff_eq];constructor <;> intro h <;> omega
   rw[this]
 rw[this]
end
noncomputable def ZN (n:Nat)(jD:Qa):Qa:=(YX n).filter λp=>!decide (p∈jD)
theorem V1 (n:Nat)(jD:Qa):Yk n (ZN n jD):=Yk.filter _
theorem ZfP {jD:Qa}{a b:Nat}:tied jD a b=true↔(min a b,max a b)∈jD:=by unfold tied;exact decide_eq_true_iff
theorem JK {n:Nat}{jD:Qa}{a b:Nat}:tied (ZN n jD) a b=true↔a<n/\b<n/\a≠b/\tied jD a b=false:=by
 rw[ZfP];unfold ZN;rw[qW,JO];have e:tied jD a b=decide ((min a b,max a b)∈jD):=rfl;rw[e];simp only[yU,decide_eq_false_iff_not];constructor
 ·rintro⟨⟨h1,h2⟩,h3⟩
  exact⟨by omega,by omega,by omega,h3⟩
 ·rintro⟨h1,h2,h3,h4⟩
  exact⟨⟨by omega,by omega⟩,h4⟩
theorem Zdr {n:Nat}{jD:Qa}(p o:Nat):tied (ZN n jD) p o=decide (o∈YW n (ZN n jD) p):=by
 unfold YW;rw[qaG,decide_eq_true_iff,qW,qO];exact⟨λh=>⟨(JK.mp h).2.1,h⟩,λh=>h.2⟩
theorem Zkt {n:Nat}{jD:Qa}(a:Nat):tied (ZN n jD) a a=false:=by
 cases h:tied (ZN n jD) a a with
 | false=>rfl
 | true=>exact absurd rfl (JK.mp h).2.2.1
noncomputable def UC (n:Nat)(b:List Nat):List Nat:=(qp n).filter λx=>decide (x∈b)
theorem BR {n:Nat}{b:List Nat}(nd:b.Nodup)(h:∀x∈b,x<n):(UC n b).Perm b:=by
 refine(yE (yZ.sublist zT) nd).mpr λa=>?_;rw[qW,qO,decide_eq_true_iff];exact⟨λz=>z.2,λz=>⟨h a z,z⟩⟩
theorem ZaS (n:Nat)(b:List Nat):(UC n b).Pairwise (· < ·):=(Zc1 n).sublist zT
noncomputable def WJ (a k:List Nat):List Nat:=if a.length<k.length then k else a
noncomputable def Bl (n:Nat)(jD:Qa):List Nat:=(kn jD n).foldl WJ []
theorem Zb3:∀(l:List (List Nat)) (a:List Nat),(l.foldl WJ a=a∨l.foldl WJ a∈l)/\a.length<=(l.foldl WJ a).length/\∀k∈l,k.length<=(l.foldl WJ a).length
 | [],a=>⟨.inl rfl,qm _,λk h=>by cases h⟩
 | x::r,a=>by
  obtain⟨h1,h2,h3⟩:=Zb3 r (WJ a x);have h4:a.length<=(WJ a x).length/\x.length<=(WJ a x).length/\(WJ a x=a∨WJ a x=x):=by
   unfold WJ;split
   ·exact⟨by omega,qm _,.inr rfl⟩
   ·exact⟨qm _,by omega,.inl rfl⟩
  rw[qae];refine⟨?_,by omega,λk hk=>?_⟩
  ·rcases h1 with h | h
   ·rcases h4.2.2 with z | z
    ·exact .inl (h.trans z)
    ·exact .inr (by rw[h,z];simp)
   ·exact .inr (by simp[h])
  ·rcases qq.mp hk with rfl | hk
   ·omega
   ·exact h3 k hk
theorem ZiJ {n:Nat}{b:List Nat}(nd:b.Nodup)(h:∀x∈b,x<n)(hl:b.length<64):Zch [.lst (b.map nD)]=some (.lst ((UC n b).map nD)):=by
 have e:ZO (b.map nD)=some (Xd b):=by
  have:b.map nD=(Xd b).map D.int:=by unfold Xd;rw[qM];rfl
  rw[this,Jz]
 show(match ZO (b.map nD)with | some ns=>if ns.length<64 then some (D.lst ((WN ns).map .int))else none | none=>none)=_;rw[e];show(if (Xd b).length<64 then some (D.lst ((WN (Xd b)).map .int))else none)=_;rw[if_pos (by unfold Xd;simp;omega)];have q:Xd (UC n b)=WN (Xd b):=ZcD ((BR nd h).map _) (zW.mpr ((ZaS n b).imp λh=>by omega));rw[<-q];unfold Xd;rw[qM];rfl
theorem Zbd {n:Nat}{jD:Qa}(hw:Yk n jD)(hn:n<=24):Bl n jD∈kn jD n/\∀K∈kn jD n,K.length<=(Bl n jD).length:=by
 obtain⟨h1,_,h3⟩:=Zb3 (kn jD n) [];refine⟨?_,h3⟩;rcases h1 with h | h
 ·show(kn jD n).foldl WJ []∈_
  rw[h];exact Ux.mpr ⟨zV,(λo h=>by cases h),λa h=>by cases h⟩
 ·exact h
theorem Zno {l:List Nat}{b:Nat}(h:∀x∈l,x<=b):Wl l<=b:=ZeO l b h 0 (zy _)
theorem ZlP {n:Nat}{jD:Qa}(hw:Yk n jD)(hn:n<=24):Wl (UH jD n)=(Bl n jD).length:=by
 obtain⟨h1,h2⟩:=Zbd hw hn;refine Nat.le_antisymm (Zno λx hx=>?_) (Zkp (qE.mpr ⟨_,h1,rfl⟩));obtain⟨K,hK,rfl⟩:=qE.mp hx;exact h2 K hK
theorem Znp (p:Nat×Nat)(jD:Qa):Xq (Zv p) (.du (YE [] jD))=some (.bl (decide (p∈jD))):=Zkk p jD
theorem ZhE {jD : List (Nat × Nat)} : ∀ {i n : Nat}, i <= n -> (kn jD i).length <= (kn jD n).length := λ{i n} h => by
  induction n with
  | zero => have : i = 0 := by omega
            rw[this]; exact qm _
  | succ n ih =>
    by_cases e : i = n + 1
    · rw[e]; exact qm _
    · have := ih (by omega)
      rw[kn, qG]; omega
theorem ZlQ {i:Nat}{fx fv:Zb->M D}{ρ:Zb}{s:Pn}{x v:D}{kvs:List (List Zu×V)}{key:List Zu}{w:V}(h1:fv ρ s=some (v,s))(h2:fx ρ s=some (x,s))(h3:(ρ[i]?).bind id=some (.du kvs))(h4:keyT x=some key)(h5:Wq v=some w)(hl:kvs.length<xg) :
  Bi i fx fv ρ s=some (.nx (ρ.set i (some (.du (Yo kvs key w)))),s):=by
 unfold Bi Zp;rw[h1];simp only;rw[h2];simp only;rw[h3];simp only;rw[h4,h5];simp only;rw[if_pos hl];rfl
theorem ZlR (jD:Qa):∀jH:List (List Zu×V),(YE jH jD).length<=jH.length+jD.length:=by
 induction jD with
 | nil=>intro jH;exact qm _
 | cons t r ih=>
  intro jH;have h:=ih (Yo jH (XM t) (.bl true));have h2:=Uk jH (XM t) (.bl true);show(YE (Yo jH (XM t) (.bl true)) r).length<=_;simp only[qB];omega
theorem Zku (jD:Qa)(t:Nat×Nat):YE [] (jD ++ [t])=Yo (YE [] jD) (XM t) (.bl true):=by
 unfold YE;rw[qb7];rfl
theorem ZeR (l:List Bool):VM (.bl false) (.lst (l.map D.bl))=some (.bl (l.all id)):=by
 have hp:Ym (l.map D.bl)=true:=Zc3 λd hd=>by obtain⟨a,_,rfl⟩:=qE.mp hd;rfl
 have hd:Y7 (l.map D.bl)<=0:=Zhi _ λd hd=>by obtain⟨a,_,rfl⟩:=qE.mp hd;simp[Z4]
 have ok:XJ (.bl false) (l.map D.bl)=true:=by
  unfold XJ;simp[Zo,hp,Z4];omega
 have hi:XS (.bl false) (l.map D.bl)=!l.all id:=by
  clear hp hd ok;unfold XS
  induction l with
  | nil=>rfl
  | cons b r ih=>
   rw[qX,qaB,ih]
   cases b <;> simp[ZA]
 show((if XJ (.bl false) (l.map D.bl)=true then some (XS (.bl false) (l.map D.bl))else none).map λb=>D.bl (!b))=_;rw[if_pos ok,hi];simp
theorem ZeS (n:Nat)(jD:Qa)(hn:n<=1000)(hk:(kn jD n).length<=1000000)(hl:jD.length<=100000)(s:Pn):Jv [Zw n jD] s=some (.lst ((kn jD n).map ZY),s):=by
 apply jr;refine Ok.runB rfl ?_;refine Ok.seq (.sown (.eq (a:=.du []) rfl ⟨rfl,?_⟩));refine Ok.seq (.sfor (λi ρ s'=>s=s'/\∃o2,ρ=[some (Zw n jD),some (.du (YE [] (jD.take i))),o2,none,none,none,none]) (.eq (a:=jD.map Zv) (s':=s) (Zcg (Zq (d:=Zw n jD) (e:=.int 1) rfl rfl Bu)) ⟨⟨rfl,none,rfl⟩,λi d ρ s' hd hI=>?_,fun ρ' s' hI=>?_⟩))
 ·obtain⟨rfl,o2,rfl⟩:=hI
  rw[qC]at hd;obtain⟨t,ht,rfl⟩:=yj.mp hd;refine⟨_,rfl,?_⟩;have jM:=ZlR (jD.take i) [];have htl:(jD.take i).length<=jD.length:=(zF _ _).length_le;refine Ok.seq (.eq (ZlQ (x:=Zv t) (v:=.bl true) (kvs:=YE [] (jD.take i)) (key:=XM t) (w:=.bl true) rfl rfl rfl rfl rfl (by rw[YI];simp at jM;omega)) (.next ⟨_,rfl,rfl,some (Zv t),?_⟩));have et:jD.take (i+1)=jD.take i ++ [t]:=by rw[qcH,ht];rfl
  rw[et,Zku];rfl
 obtain⟨rfl,o2,rfl⟩:=hI;rw[qj,yG];refine Ok.seq (.sset (.eq (a:=.lst [.tup []]) (Zet (Vq rfl (by decide))) ?_));refine Ok.seq (.sfor (λi ρ s'=>s=s'/\∃o4 o5 o6,ρ=[some (Zw n jD),some (.du (YE [] jD)),o2,some (.lst ((kn jD i).map ZY)),o4,o5,o6]) (.eq (WY (Zq (d:=Zw n jD) (e:=.int 0) rfl rfl Wx) (by omega)) ⟨⟨rfl,none,none,none,rfl⟩,λi d ρ s' hd hI=>?_,fun ρ' s' hI=>?_⟩))
 ·obtain⟨rfl,o4,o5,o6,rfl⟩:=hI
  obtain⟨hi,rfl⟩:=Jx hd;refine⟨_,rfl,?_⟩;have hkl:(kn jD i).length<=1000000:=zj (ZhE (by omega)) hk;refine Ok.seq (.sown (.eq (a:=.lst []) (W1 rfl (zy _)) ⟨rfl,?_⟩));refine Ok.seq (.sfor (λj ρ s'=>s=s'/\∃o6,ρ=[some (Zw n jD),some (.du (YE [] jD)),o2,some (.lst ((kn jD i).map ZY)),some (nD i),some (.lst (((((kn jD i).take j).filter (X7 jD i)).map (· ++ [i])).map ZY)),o6]) (.eq (a:=(kn jD i).map ZY) (s':=s) (Wc rfl) ⟨⟨rfl,o6,by simp⟩,λj d ρ s' hd hJ=>?_,fun ρ' s' hJ=>?_⟩))
  ·obtain⟨rfl,o6,rfl⟩:=hJ
   rw[qC]at hd;obtain⟨k,hk2,rfl⟩:=yj.mp hd;have hkm:=ZgO (zu hk2);refine⟨_,rfl,?_⟩;generalize hC:D.lst (((((kn jD i).take j).filter (X7 jD i)).map (· ++ [i])).map ZY)=C;have hc:=X4 (src:=[none,some 4,some 1]) (fi:=WL (Za 6)) (τ:=ZK 0) (ft:=Ys) (fe:=Zd Xq (Yg (Zc (Za 0) (Zc (Za 1) Zf))) (Za 2)) (ρ:=[some (Zw n jD),some (.du (YE [] jD)),o2,some (.lst ((kn jD i).map ZY)),some (nD i),some C,some (ZY k)]) (s:=s) (ds:=k.map nD) (λd=>[some d,some (nD i),some (.du (YE [] jD))]) (λ_=>true) (λd=>.bl (decide ((Z6 d,i)∈jD))) (Zcg rfl) (by rw[qj,YI];omega) (λd hd=>by
    obtain⟨o,ho,rfl⟩:=qE.mp hd;exact⟨rfl,rfl,λ_=>Zq (d:=Zv (o,i)) (Uv rfl rfl) rfl (Znp (o,i) jD)⟩)
   rw[VD]at hc;have e0:(k.map nD).map (λd=>D.bl (decide ((Z6 d,i)∈jD)))=(k.map λo=>decide ((o,i)∈jD)).map D.bl:=by rw[qM,qM];rfl
   rw[e0]at hc;have ha:VM (.bl false) (.lst ((k.map λo=>decide ((o,i)∈jD)).map D.bl))=some (.bl (X7 jD i k)):=by
    rw[ZeR,List.all_map];rfl
   have et:(kn jD i).take (j+1)=(kn jD i).take j ++ [k]:=by rw[qcH,hk2];rfl
   refine Ok.seq (.sif (.eq (Z3 (Zq (d:=.bl false) rfl hc ha)) ?_));subst hC
   cases ok:X7 jD i k with
   | true=>
    have hf:(((kn jD i).take j).filter (X7 jD i)).length<=(kn jD i).length:=zj (yN _ _) (zF _ _).length_le;refine .seq (.sapp (ds:=((((kn jD i).take j).filter (X7 jD i)).map (· ++ [i])).map ZY) rfl (by rw[qj,qj,YI];omega) (.eq (Zq (d:=ZY k) (e:=.tup [nD i]) rfl (Zlo rfl) (ZlK k i (by omega))) ?_));refine .next (.next ⟨_,rfl,rfl,some (ZY k),?_⟩);have e:((((kn jD i).take (j+1)).filter (X7 jD i)).map (· ++ [i])).map ZY=((((kn jD i).take j).filter (X7 jD i)).map (· ++ [i])).map ZY ++ [ZY (k ++ [i])]:=by
     rw[et,List.filter_append,qaz ok,List.filter_nil];simp only[zK,qX,qbC]
    rw[e];rfl
   | false=>
    refine .next (.next ⟨_,rfl,rfl,some (ZY k),?_⟩);rw[et,List.filter_append,yW (by simp[ok]),List.filter_nil,zq];rfl
  ·obtain⟨rfl,o6',rfl⟩:=hJ
   rw[qj,yG];have hl2:(kn jD (i+1)).length<=1000000:=zj (ZhE (by omega)) hk;rw[kn,qG,qj]at hl2;refine Ok.seq (.sset (.eq (Zq (d:=.lst ((kn jD i).map ZY)) (e:=.lst ((((kn jD i).filter (X7 jD i)).map (· ++ [i])).map ZY)) (c:=.lst ((kn jD (i+1)).map ZY)) rfl rfl ?_) (.next ⟨_,rfl,rfl,_,_,_,rfl⟩)));show(if ((kn jD i).map ZY).length+((((kn jD i).filter (X7 jD i)).map (· ++ [i])).map ZY).length<=xg then some (D.lst (_++_))else none)=_;rw[if_pos (by rw[qj,qj,qj,YI];omega),kn,zK]
 ·obtain⟨rfl,o4,o5,o6,rfl⟩:=hI
  rw[X3];exact Ok.seq (.sret (.eq (a:=.lst ((kn jD n).map ZY)) rfl ⟨rfl,rfl⟩))
theorem ZfQ (n:Nat)(jD:Qa)(hn:n<=1000)(hk:(kn jD n).length<=1000000)(hl:jD.length<=100000)(s:Pn):Um [Zw n jD] s=some (nD (Wl (UH jD n)),s):=by
 have hc:=X4 (src:=[none]) (fi:=Yf (Zs Jv (Zc (Za 0) Zf))) (τ:=ZK 0) (ft:=Ys) (fe:=ZJ Y3 (Zc (Za 0) Zf)) (ρ:=[some (Zw n jD)]) (s:=s) (ds:=(kn jD n).map ZY) (λd=>[some d]) (λ_=>true) (λd=>match d with | .tup ds=>nD ds.length | _=>.non) (Wc (Z5 (Zg rfl rfl) (ZeS n jD hn hk hl s))) (by rw[qj,YI];omega) (λd hd=>by
  obtain⟨x,hx,rfl⟩:=qE.mp hd;exact⟨rfl,rfl,λ_=>Yb (Zg rfl rfl) rfl⟩)
 rw[VD,qM]at hc;have e:(kn jD n).map ((λd=>match d with | .tup ds=>nD ds.length | _=>.non)∘ZY)=(UH jD n).map nD:=by
  unfold UH;rw[qM];refine zD λx _=>?_;show nD (x.map nD).length=nD x.length;rw[qj]
 rw[e]at hc;refine Xl rfl (YA (Y9 (Yb (Zg hc rfl) ?_)));exact ZiE (UH jD n) (ZiF jD n)
theorem ZiK (ps:List Nat)(k:Nat)(hk:k<=ps.length):Uc (ps.map nD) none (some (k:Int))=(ps.take k).map nD:=by
 unfold Uc;have e1:HT.sIx (ps.map nD).length 0 none=0:=rfl;have e2:HT.sIx (ps.map nD).length (ps.map nD).length (some (k:Int))=k:=by
  unfold HT.sIx;simp only[qj];rw[if_neg (by omega)];omega
 rw[e1,e2,qbd,qcd,List.map_take]
theorem ZaT (n:Nat)(jD:Qa){k:List Nat}(hk:k.Pairwise λa b=>tied jD a b=true)(hl:k.length<=1000)(s:Pn):US [Zw n jD,ZY k] s=some (.bl true,s):=by
 apply jr;refine Ok.runB rfl ?_;refine Ok.seq (.sfor (λi ρ s'=>s'=s/\∃o2 o3,ρ=[some (Zw n jD),some (ZY k),o2,o3]) (.eq (a:=Z0 0 k.length) (s':=s) (WY (Yb (c:=nD k.length) (Zg rfl rfl) (by show some (D.int _)=_;rw[qj])) (by omega)) ⟨⟨rfl,none,none,rfl⟩,λi d ρ s' hd hI=>?_,fun ρ' s' hI=>?_⟩))
 ·obtain⟨rfl,o2,o3,rfl⟩:=hI
  obtain⟨hi,rfl⟩:=Jx hd;refine⟨_,rfl,?_⟩;refine Ok.seq (.sfor (λj ρ s2=>s2=s'/\∃o3,ρ=[some (Zw n jD),some (ZY k),some (nD i),o3]) (.eq (a:=(k.take i).map nD) (s':=s') (Zcg (by rw[<-ZiK k i (by omega)];rfl)) ⟨⟨rfl,o3,rfl⟩,λj d ρ s2 hd hJ=>?_,fun ρ' s2 hJ=>?_⟩))
  ·obtain⟨rfl,o3,rfl⟩:=hJ
   rw[qC]at hd;obtain⟨a,ha,rfl⟩:=yj.mp hd;refine⟨_,rfl,?_⟩;have hj:j<i:=by
    have:=(qu.mp ha).1;rw[qV]at this;omega
   rw[zL hj]at ha;obtain⟨hjl,eja⟩:=qu.mp ha;have ht:=zI.mp hk j i hjl hi hj;rw[eja]at ht;have hg:k.getD i 0=k[i]:=by rw[qN,qD hi];rfl
   have hq:=ZbS n jD a (k.getD i 0) s2;rw[hg,ht]at hq;have hix:Zm (ZY k) (nD i)=some (nD (k.getD i 0)):=ZeP hi;rw[hg]at hix;refine Ok.seq (.sif (.eq (a:=false) (Wo (b:=true) (Z3 (Z5 (Zg rfl (Zg rfl (Zg (Zq (d:=ZY k) (e:=nD i) rfl rfl hix) rfl))) hq))) (.next ?_)));exact .next ⟨_,rfl,rfl,some (nD a),rfl⟩
  ·obtain⟨rfl,o3',rfl⟩:=hJ
   exact .next ⟨_,rfl,rfl,some (nD i),o3',rfl⟩
 ·obtain⟨rfl,o2,o3,rfl⟩:=hI
  exact Ok.seq (.sret (.eq (a:=.bl true) rfl ⟨rfl,rfl⟩))
theorem ZfR {n:Nat}{jD:Qa}{k:List Nat}(h:k∈kn jD n):k.Pairwise λa b=>tied jD a b=true:=
 qa9 (λ{a b} ha hb hab=>(Ux.mp h).2.2 a ha b hb (by omega)) (Ux.mp h).1
theorem ZfS {k:List Nat}(h:k.Nodup):Xu (Xd k)=k.length:=by
 obtain⟨h1,h2⟩:=Zex (Xd k);have nd:(Xd k).Nodup:=zW.mpr (h.imp λh e=>h (by omega));have:=((yE h1 nd).mpr h2).length_eq;unfold Xu;rw[this];unfold Xd;simp
theorem ZiL (k:List Nat):ZO (k.map nD)=some (Xd k):=by
 have:k.map nD=(Xd k).map D.int:=by unfold Xd;rw[qM];rfl
 rw[this,Jz]
theorem Zd2 {f:Zb->M D}{ρ:Zb}{s s':Pn}{k:List Nat}(h:f ρ s=some (ZY k,s'))(hl:k.length<=1000):Uw f ρ s=some (nD (Xu (Xd k)),s'):=by
 unfold Uw Zp;rw[h];show(match ZO (k.map nD)with | some ns=>if ns.length<=1000 then ZB (D.int (Xu ns:Nat))else ZE | none=>ZE) s'=_;rw[ZiL];show(if (Xd k).length<=1000 then ZB (D.int (Xu (Xd k):Nat))else ZE) s'=_;rw[if_pos (by unfold Xd;simpa using hl)];rfl
section
variable (jD:Qa)
end
section
variable {jD:Qa}{many:Nat}
end
theorem U5 (a b:Nat):XR (nD a) (nD b)=some (.bl (decide (a<b))):=by
 show some (D.bl (decide ((a:Int)<(b:Int))))=_;congr 2;exact decide_eq_decide.mpr (by omega)
theorem Zd3 {τ:D->Zb->Option Zb}{body:Zb->M Out}{s:Pn}(I:Zb->Prop)(g:Nat->Option D):∀(l:List Nat) (ρ:Zb),I ρ->
  (∀x∈l,∀ρ,I ρ->∃ρ1,τ (nD x) ρ=some ρ1/\match g x with | some d=>body ρ1 s=some (.rt d,s) | none=>∃ρ2,body ρ1 s=some (.nx ρ2,s)/\I ρ2)->
  match l.findSome? g with | some d=>XW τ body (l.map nD) ρ s=some (.rt d,s) | none=>∃ρ2,XW τ body (l.map nD) ρ s=some (.nx ρ2,s)/\I ρ2
 | [],ρ,h0,_=>⟨ρ,rfl,h0⟩
 | x::l,ρ,h0,h=>by
  obtain⟨ρ1,e1,e2⟩:=h x (by simp) ρ h0;rw[qc4]
  cases hg:g x with
  | some d=>
   rw[hg]at e2;exact Zbf e1 e2
  | none=>
   rw[hg]at e2;obtain⟨ρ2,e3,h2⟩:=e2;have ih:=Zd3 I g l ρ2 h2 λy hy=>h y (by simp[hy]);simp only
   cases hl:l.findSome? g with
   | some d=>rw[hl]at ih;exact BO e1 e3 ih
   | none=>
    rw[hl]at ih;obtain⟨ρ3,e4,h3⟩:=ih;exact⟨ρ3,BO e1 e3 e4,h3⟩
noncomputable def Wh (p:Nat×Nat):List Int:=[(p.1:Int),(p.2:Int)]
theorem ZfT {p q:Nat×Nat}(h:p.1<q.1∨p.1=q.1/\p.2<q.2):Xh (Wh p) (Wh q)=true:=by
 unfold Xh Wh;rw[yU];rcases h with h | ⟨h1,h2⟩
 ·simp only[Yp]
  have e1:¬((q.1:Int)<(p.1:Int)):=by omega
  have e2:¬((q.1:Int)=(p.1:Int)):=by omega
  simp[e1,e2]
 ·simp only[Yp]
  have e1:¬((q.1:Int)<(p.1:Int)):=by omega
  have e2:¬((q.2:Int)<(p.2:Int)):=by omega
  have e3:¬((q.2:Int)=(p.2:Int)):=by omega
  simp[e1,e2,e3]
theorem Zd4 (n:Nat):∀i,(Xf n i).Pairwise λp q=>Xh (Wh p) (Wh q)=true
 | 0=>by unfold Xf;simp
 | i+1=>by
  rw[JI];refine qU.mpr ⟨Zd4 n i,zW.mpr ((Zc1 _).imp λ{a b} h=>ZfT (p:=(i,i+1+a)) (q:=(i,i+1+b)) (.inr ⟨rfl,by show i+1+a<i+1+b;omega⟩)),λp hp q hq=>?_⟩;obtain⟨k,_,rfl⟩:=qE.mp hq;have:=(B4 hp).1;exact ZfT (.inl this)
theorem Zkv {n:Nat}{jD:Qa}(hw:Yk n jD):(jD.map Wh).Pairwise λx y=>Xh x y=true:=zW.mpr ((Zd4 n n).sublist hw)
theorem ZiM {p q:Nat×Nat}(h:Wh p=Wh q):p=q:=by
 have h1:=(qcX h).1;have h2:=(qcX (qcX h).2).1;exact qcN (by omega) (by omega)
theorem ZiN {n:Nat}{jD L:Qa}(hw:Yk n jD)(hp:L.Perm jD):Xc (L.map Wh)=jD.map Wh:=(Za8 (hp.symm.map _) (Zkv hw)).symm
noncomputable abbrev om (n:Nat)(jD:Qa):Nat:=(Bl n jD).length
section
variable {n:Nat}{jD:Qa}
theorem Zn1 (hw:Yk n jD)(hn:n<=24){K:List Nat}(h:K∈kn jD n):K.length<=om n jD:=(Zbd hw hn).2 K h
end
end TP3
namespace TQ
open L2 TF TP TS
open TP2
open TP3
noncomputable def Zn2 (n:Nat)(t:Qa)(K:List Nat):Prop:=K.Nodup/\(∀x∈K,x<n)/\∀a∈K,∀b∈K,a≠b->tied t a b=true
section
variable {n:Nat}{f:Nat->Nat}{t:Qa}(hw:Yk n t)(hf:∀x<n,f x<n)(hi:∀x y,x<n->y<n->f x=f y->x=y)
include hw hf hi
end
end TQ
namespace TP
open TF L2
theorem Zkw:∀c a s,0<=a->Ul [.int c,.int a] s=some (.int (W6 c a),s):=by
 intro c a s ha;have hx0:=qai (c % 2147483647*48271+a*69621+11) (show(2147483629:Int)≠0 by decide);have hx1:=qaF (c % 2147483647*48271+a*69621+11) (show(0:Int)<2147483629 by decide);by_cases hc:10 ^ 18<=c
 ·have e:W6 c a=c:=by unfold W6;rw[if_pos hc]
  rw[e];have:(1000000000000000000:Int)<=c:=by simpa using hc
  simp[Ul,runB,ZaE,Zh,Z9,asB,Zd,Wz,dI,Za,dC,Zp,ZB,YZ,dPow,ZC,Zn,this]
 ·have e:¬(1000000000000000000:Int)<=c:=λz=>hc (by simpa using z)
  generalize hx:(c % 2147483647*48271+a*69621+11) % 2147483629=x at hx0 hx1;have hy0:=qai (x*x+48271*x+a) (show(2147483587:Int)≠0 by decide);have hy1:=qaF (x*x+48271*x+a) (show(0:Int)<2147483587 by decide);generalize hy:(x*x+48271*x+a) % 2147483587=y at hy0 hy1;have ef:W6 c a=y*2147483579+(y*y+69621*a) % 2147483579:=by
   unfold W6;rw[if_neg hc];dsimp only;rw[hx,hy]
  rw[ef];have m1:∀z:Int,0<=z->z<2147483648->∀w,UD z w=true:=λz h1 h2 w=>by
   unfold UD;simp;left;omega
  have m2:∀z w:Int,0<=z->z<2147483648->UD w z=true:=λz w h1 h2=>by
   unfold UD;simp;right;omega
  simp[Ul,runB,ZaE,Zh,Z9,asB,Zd,Wz,dI,Za,dC,Zp,ZB,YZ,dPow,ZC,Zn,Z1,Wu,WQ,Yc,e,hx,hy,m1 x hx0 (by omega),m1 y hy0 (by omega),m2 48271 _ (by decide) (by decide),m2 69621 _ (by decide) (by decide),m1 48271 (by decide) (by decide),m1 69621 (by decide) (by decide),m2 2147483579 _ (by decide) (by decide)]
end TP
namespace TQ
open L2 TF TS
open TP
open TP2
open TP3
theorem ZiO {n:Nat}{jD L:Qa}(hw:Yk n jD)(hm:∀p,p∈L↔p∈jD)(hl:L.length<=306)(s:Pn):Bk (L.map Zv) s=some (.lst (jD.map Zv),s):=by
 have e:L.map Zv=(L.map Wh).map XX:=by rw[qM];rfl
 have nd:(jD.map Wh).Nodup:=zW.mpr (((ZcA n).sublist hw).imp λh e=>h (ZiM e));have pm:(W2 (L.map Wh)).Perm (jD.map Wh):=(yE (BP _) nd).mpr λx=>by
  rw[JF,qE,qE];constructor
  ·rintro⟨p,hp,rfl⟩;exact⟨p,(hm p).mp hp,rfl⟩
  ·rintro⟨p,hp,rfl⟩;exact⟨p,(hm p).mpr hp,rfl⟩
 unfold Bk;rw[e,ZcH];dsimp only;rw[if_pos ⟨by rw[qj];exact hl,λns hns=>by
  obtain⟨p,_,rfl⟩:=qE.mp hns;exact λz=>by cases z⟩,ZaG pm,ZiN hw (.refl _),qM]
 rfl
theorem Znq {T:Nat->List D->M D}{i t:Nat}{fs:Zb->M (List D)}{ρ:Zb}{s s1:Pn}{ds cds:List D}{r:Option (D×Pn)}(h1:(ρ[i]?).bind id=some (.clo t cds))(h2:fs ρ s=some (ds,s1))(h3:T t (ds++cds) s1=r):Br T i fs ρ s=r:=by
 unfold Br Zp Za YZ;rw[h1];simp only[h2];exact h3
theorem Zkx {F:List D->M D}{t:Nat}{cix:List Nat}{f:Zb->M D}{ρ:Zb}{s s1 s2:Pn}{d c:D}{cds:List D}(h1:f ρ s=some (d,s1))(h2:U9 ρ cix=some cds)(n1:Yw d=true)(n2:Y6 cds=true)(h3:F [d,.clo t cds] s1=some (c,s2))(n3:Yw c=true):Bt F t cix f ρ s=some (c,s2):=by
 unfold Bt Zp YZ;rw[h1,h2];simp only;rw[if_pos (by rw[n1,n2];rfl),h3];simp only;rw[if_pos n3];rfl
theorem BZ:∀{ds:List D},(∀d∈ds,Yw d=true)->Y6 ds=true
 | [],_=>rfl
 | d::ds,h=>by
  show(Yw d&&Y6 ds)=true;rw[h d zB,BZ λx (hx:x∈ds)=>h x (qS _ hx)];rfl
theorem ZhF {n:Nat}{f:Zb->M D}{ds:List D}{s:Pn}{r:Option (D×Pn)}(hl:ds.length=n)(h:f (ds.map some) s=r):VS n f ds s=r:=by
 unfold VS;rw[if_pos hl];exact h
theorem Zd5 (n:Nat)(jD:Qa):Yw (Zw n jD)=true:=by
 have:Y6 (jD.map Zv)=true:=BZ λd hd=>by obtain⟨p,_,rfl⟩:=qE.mp hd;rfl
 simp only[Zw,Yw,Y6,this];rfl
theorem Zbt (lo:Int)(n:Nat):Y6 (Z0 lo n)=true:=BZ λd hd=>by
 unfold Z0 at hd;obtain⟨i,_,rfl⟩:=qE.mp hd;rfl
theorem ZfU (l:List Nat):Y6 (l.map nD)=true:=BZ λd hd=>by obtain⟨p,_,rfl⟩:=qE.mp hd;rfl
theorem Zbu {row:D}{ds cds:List D}{t:Nat}(h:Jj row ds)(hn:ds.length<=1000)(b:Nat×Nat->Bool)(s:Pn)(hb:∀p∈YX ds.length,Tl t ([ds.getD p.1 .non,ds.getD p.2 .non]++cds) s=some (.bl (b p),s)):Uo [row,.clo t cds] s=some (Zw ds.length ((YX ds.length).filter b),s):=by
 have hln:∀r,ZJ Y3 (Zc (Za 0) Zf) (some row::r) s=some (nD ds.length,s):=λr=>Yb (Zg rfl rfl) h.len;refine Xl rfl (YK (XT (Z5 (Zg (Zav (hln _) hn) rfl) (Zfh s hn))) (YA (Y9 ?_)));have hap:=Zjv ds.length hn;have hc:=X4 (src:=[none,some 1,some 0]) (fi:=Yf (Za 2)) (τ:=ZK 0) (ft:=asB (Br Tl 1 (Zc (Zd Zm (Za 2) (Zd Zm (Za 0) (dC (.int 0)))) (Zc (Zd Zm (Za 2) (Zd Zm (Za 0) (dC (.int 1)))) Zf)))) (fe:=Za 0) (ρ:=[some row,some (.clo t cds),some (.lst ((YX ds.length).map Zv))]) (s:=s) (ds:=(YX ds.length).map Zv) (λd=>[some d,some (.clo t cds),some row]) (λd=>b (nat2 d)) (λd=>d) (Wc rfl) (by rw[qj,YI];omega) λd hd=>by
  obtain⟨p,hpm,rfl⟩:=qE.mp hd;have hpp:=JO.mp hpm;refine⟨rfl,Z3 (Znq (t:=t) (cds:=cds) rfl (Zg (Zq (d:=row) (e:=nD p.1) rfl (Zq (d:=Zv p) (e:=.int 0) rfl rfl (Vt _ _)) (h.ix (by omega))) (Zg (Zq (d:=row) (e:=nD p.2) rfl (Zq (d:=Zv p) (e:=.int 1) rfl rfl (W7 _ _ _)) (h.ix (by omega))) rfl)) (hb p hpm)),λ_=>rfl⟩
 rw[Zeq (YX ds.length) _ b λp=>by rw[Zif]]at hc;exact Vq (Zg (hln _) (Zg (Yb (Zg hc rfl) rfl) rfl)) two_le
theorem range_getD {n i:Nat}(h:i<n):(Z0 0 n).getD i .non=nD i:=by
 rw[Uu];simp[qbz,h]
theorem BV (n:Nat)(jD:Qa)(s:Pn)(hn:n<=1000)(hl:jD.length<=100000):X9 [Zw n jD] s=some (Zw n ((YX n).filter λp=>!decide (p∈jD)),s):=by
 refine Xl rfl (YK (XT (Z5 (Zg rfl rfl) (ZdI n jD s hl))) (YA (Y9 ?_)));refine Zkx (d:=.lst (Z0 0 n)) (cds:=[.dt (YE [] jD)]) (Zav (Zq (d:=Zw n jD) (e:=.int 0) rfl rfl Wx) hn) rfl (by simp only[Yw];exact Zbt _ _) rfl ?_ (Zd5 _ _);have:=Zbu (row:=.lst (Z0 0 n)) (ds:=Z0 0 n) (cds:=[.dt (YE [] jD)]) (t:=0) (.inl rfl) (by rw[X3];exact hn) (λp=>!decide (p∈jD)) s (λp hp=>by
  rw[X3]at hp;have hpp:=JO.mp hp;rw[range_getD (by omega),range_getD (by omega)];show Zbj [nD p.1,nD p.2,.dt (YE [] jD)] s=_;refine ZhF rfl ?_;refine Zln (a:=decide (p∈jD)) (Z5 (Zg rfl (Zg rfl (Zg rfl rfl))) ?_);rw[Zbs,JS hpp.1])
 rw[X3]at this;exact this
theorem Zc5 {J:Type}{τ:D->Zb->Option Zb}{body:Zb->M Out}{R:J->List D->Zb}{s:Pn}{N:Nat}(g:D->List D):∀(ds:List D) (j:J) (jH:List D),jH.length+(ds.flatMap g).length<=N->
  (∀d∈ds,∀j jH,jH.length+(g d).length<=N->∃ρ1,τ d (R j jH)=some ρ1/\∃j',body ρ1 s=some (.nx (R j' (jH++g d)),s))->∃j',XW τ body ds (R j jH) s=some (.nx (R j' (jH++ds.flatMap g)),s)
 | [],j,jH,_,_=>⟨j,by rw[List.flatMap_nil,zq];rfl⟩
 | d::ds,j,jH,hl,h=>by
  rw[List.flatMap_cons,qG]at hl;obtain⟨ρ1,e1,j1,e2⟩:=h d (by simp) j jH (by omega);obtain⟨j2,e3⟩:=Zc5 g ds j1 (jH++g d) (by rw[qG];omega) λd' hd'=>h d' (by simp[hd']);refine⟨j2,BO e1 e2 ?_⟩;rw[e3,List.flatMap_cons,qK]
theorem Zds {f g:Zb->M D}{ρ:Zb}{s:Pn}{a n:Nat}(h:f ρ s=some (nD a,s))(h2:g ρ s=some (nD n,s))(hn:n<=1000)(ha:a<=1000):Jy f g ρ s=some (.lst (Z0 (a:Int) (n-a)),s):=by
 unfold Jy Zp;simp only[h,h2];rw[if_pos (by omega)];show some _=some _;congr 4;omega
section
variable (n m:Nat)(g:Nat->Nat)(w:Bool)
end
section
variable {n m:Nat}{g:Nat->Nat}{w:Bool}
end
theorem Zmf (f:Nat->Qa)(l:List Nat):(l.map nD).flatMap (λd=>(f (Z6 d)).map Zv)=(l.flatMap f).map Zv:=by
 rw[qby,qcj];rfl
section
variable {GL:D}{n m sz:Nat}{g:Nat->Nat}{w:Bool}{o4:Option D}{s:Pn}{N:Nat}
end
noncomputable def en:Nat->Nat->Nat->Nat
 | 0,_,_=>1
 | k+1,a,b=>if a=1∨b=1 then 1 else if en k (a-1) b % 2=0/\en k a (b-1) % 2=0 then en k (a-1) b+en k a (b-1)-1 else en k (a-1) b+en k a (b-1)
theorem V6:∀k a b,0<en k a b
 | 0,_,_=>by simp[en]
 | k+1,a,b=>by
  have h1:=V6 k (a-1) b;have h2:=V6 k a (b-1);rw[en];split
  ·omega
  ·split
   ·omega
   ·omega
noncomputable abbrev VB (r:Nat->Nat->Bool)(S:List Nat)(x:Nat):Nat:=(S.filter (r x)).length
theorem ZfV (r:Nat->Nat->Bool)(hs:∀x y,r x y=r y x)(hi:∀x,r x x=false):∀S:List Nat,(S.map (VB r S)).sum % 2=0
 | []=>rfl
 | x::S=>by
  have ih:=ZfV r hs hi S;have e1:VB r (x::S) x=VB r S x:=by unfold VB;rw[zx,hi x];rfl
  have e2:∀T:List Nat,(T.map (VB r (x::S))).sum=(T.map (VB r S)).sum+VB r T x:=λT=>by
   induction T with
   | nil=>rfl
   | cons y T ih=>
    rw[qX,qaY,qX,qaY,ih];unfold VB;rw[zx,zx,hs x y]
    cases r y x
    ·simp;omega
    ·simp;omega
  rw[qX,qaY,e1,e2 S];omega
theorem Zd6 {f:Nat->Nat}{c:Nat}:∀{S:List Nat},(∀x∈S,f x=c)->(S.map f).sum=S.length*c
 | [],_=>by simp
 | x::S,h=>by
  rw[qX,qaY,h x (by simp),Zd6 λy hy=>h y (by simp[hy]),qB,Nat.add_mul];omega
noncomputable def Xw (r:Nat->Nat->Bool)(v:Bool)(S:List Nat)(a:Nat):Prop:=∃K:List Nat,K.Nodup/\(∀x∈K,x∈S)/\K.length=a/\∀x∈K,∀y∈K,x≠y->r x y=v
theorem Xw.mono {r:Nat->Nat->Bool}{v:Bool}{S T:List Nat}{a:Nat}(h:Xw r v S a)(hs:∀x∈S,x∈T):Xw r v T a:=
 let ⟨K,h1,h2,h3⟩:=h
 ⟨K,h1,λx hx=>hs x (h2 x hx),h3⟩
theorem Xw.cons {r:Nat->Nat->Bool}(hs:∀x y,r x y=r y x){v:Bool}{S:List Nat}{a x:Nat}(hx:x∈S)(h:Xw r v (S.filter λy=>(y != x)&&(r x y==v)) (a-1))(ha:0<a):Xw r v S a:=by
 obtain⟨K,h1,h2,h3,h4⟩:=h;have hm:∀y∈K,y∈S/\y≠x/\r x y=v:=λy hy=>by
  have:=qW.mp (h2 y hy);simp only[zi,bne_iff_ne,beq_iff_eq]at this;exact⟨this.1,this.2.1,this.2.2⟩
 refine⟨x::K,zv.mpr ⟨λz=>(hm x z).2.1 rfl,h1⟩,λy hy=>?_,by rw[qB];omega,λy hy z hz hne=>?_⟩
 ·rcases qq.mp hy with rfl | hy
  ·exact hx
  ·exact(hm y hy).1
 ·rcases qq.mp hy with e | hy' <;> rcases qq.mp hz with e' | hz'
  ·exact absurd (e.trans e'.symm) hne
  ·rw[e];exact(hm z hz').2.2
  ·rw[hs,e'];exact(hm y hy').2.2
  ·exact h4 y hy' z hz' hne
theorem Zd7 (r:Nat->Nat->Bool)(hi:∀x,r x x=false){S:List Nat}(nd:S.Nodup){x:Nat}(hx:x∈S):(S.filter λy=>(y != x)&&(r x y==true)).length+(S.filter λy=>(y != x)&&(r x y==false)).length+1=S.length/\(S.filter λy=>(y != x)&&(r x y==true)).length=VB r S x:=by
 have e:(S.filter λy=>(y != x)&&(r x y==true))=S.filter (r x):=qaI λy _=>by
  by_cases h:y=x
  ·rw[h,hi];simp
  ·cases r x y <;> simp[h]
 refine⟨?_,by rw[e]⟩
 induction S with
 | nil=>cases hx
 | cons z S ih=>
  have nd':=zv.mp nd;rw[zx,zx,qB];by_cases h:z=x
  ·subst h
   have e1:∀v,(S.filter λy=>(y != z)&&(r z y==v))=S.filter λy=>r z y==v:=λv=>qaI λy hy=>by
    have:y≠z:=λq=>nd'.1 (q▸hy);simp[this]
   rw[e1,e1];have:∀T:List Nat,(T.filter λy=>r z y==true).length+(T.filter λy=>r z y==false).length=T.length:=λT=>by
    induction T with
    | nil=>rfl
    | cons w T ih=>
     rw[zx,zx,qB]
     cases r z w
     ·simp at ih⊢;omega
     ·simp at ih⊢;omega
   have:=this S;simp only[bne_self_eq_false,Bool.false_and,qQ,if_false];omega
  ·rcases qq.mp hx with e | hx
   ·exact absurd e.symm h
   ·have e':(S.filter λy=>(y != x)&&(r x y==true))=S.filter (r x):=qaI λy _=>by
     by_cases h:y=x
     ·rw[h,hi];simp
     ·cases r x y <;> simp[h]
    have:=ih nd'.2 hx e'
    cases r x z
    ·simp[h]at this⊢;omega
    ·simp[h]at this⊢;omega
theorem ZgS (r:Nat->Nat->Bool)(hs:∀x y,r x y=r y x)(hi:∀x,r x x=false):∀k a b,a+b<=k+1->0<a->0<b->∀S:List Nat,S.Nodup->en k a b<=S.length->Xw r true S a∨Xw r false S b
 | 0,a,b,h,ha,hb,_,_,_=>by omega
 | k+1,a,b,h,ha,hb,S,nd,hl=>by
  have hpos:0<S.length:=zd (V6 _ _ _) hl;obtain⟨x0,hx0⟩:∃x,x∈S:=List.exists_mem_of_length_pos hpos;have one:∀v,Xw r v S 1:=λv=>⟨[x0],by simp,λx hx=>by rw[qH.mp hx];exact hx0,rfl,λx hx y hy hne=>absurd ((qH.mp hx).trans (qH.mp hy).symm) hne⟩;by_cases h1:a=1
  ·exact .inl (h1▸one true)
  by_cases h2:b=1
  ·exact .inr (h2▸one false)
  have near:∀S:List Nat,S.Nodup->∀x∈S,en k (a-1) b<=(S.filter λy=>(y != x)&&(r x y==true)).length->Xw r true S a∨Xw r false S b:=λS nd x hx hc=>by
   rcases ZgS r hs hi k (a-1) b (by omega) (by omega) hb _ (nd.sublist zT) hc with z | z
   ·exact .inl (Xw.cons hs hx z ha)
   ·exact .inr (z.mono λy hy=>(qW.mp hy).1)
  have apart:∀S:List Nat,S.Nodup->∀x∈S,en k a (b-1)<=(S.filter λy=>(y != x)&&(r x y==false)).length->Xw r true S a∨Xw r false S b:=λS nd x hx hc=>by
   rcases ZgS r hs hi k a (b-1) (by omega) ha (by omega) _ (nd.sublist zT) hc with z | z
   ·exact .inl (z.mono λy hy=>(qW.mp hy).1)
   ·exact .inr (Xw.cons hs hx z hb)
  rw[en,if_neg (by omega)]at hl;by_cases hev:en k (a-1) b % 2=0/\en k a (b-1) % 2=0
  ·rw[if_pos hev]at hl
   have p1:=V6 k (a-1) b;have p2:=V6 k a (b-1)
   let T:=S.take (en k (a-1) b+en k a (b-1)-1)
   have ndT:T.Nodup:=nd.sublist (zF _ _);have hT:T.length=en k (a-1) b+en k a (b-1)-1:=by rw[qV];omega
   have up:Xw r true T a∨Xw r false T b->Xw r true S a∨Xw r false S b:=λz=>z.imp (λz=>z.mono λy hy=>yu hy) λz=>z.mono λy hy=>yu hy;refine qap λhno=>?_;have hd:∀x∈T,VB r T x=en k (a-1) b-1:=λx hx=>by
    obtain⟨q1,q2⟩:=Zd7 r hi ndT hx;have n1:¬en k (a-1) b<=(T.filter λy=>(y != x)&&(r x y==true)).length:=λz=>hno (up (near T ndT x hx z));have n2:¬en k a (b-1)<=(T.filter λy=>(y != x)&&(r x y==false)).length:=λz=>hno (up (apart T ndT x hx z));omega
   have he:=ZfV r hs hi T;rw[Zd6 hd,hT]at he;obtain⟨u,hu⟩:∃u,en k (a-1) b=2*u:=⟨en k (a-1) b / 2,by omega⟩;obtain⟨w,hw⟩:∃w,en k a (b-1)=2*w:=⟨en k a (b-1) / 2,by omega⟩;rw[hu,hw,show 2*u+2*w-1=2*(u+w-1)+1 by omega,show 2*u-1=2*(u-1)+1 by omega,Nat.mul_mod]at he;have o:∀m,(2*m+1) % 2=1:=λm=>by omega
   rw[o,o]at he;simp at he
  ·rw[if_neg hev]at hl
   obtain⟨q1,q2⟩:=Zd7 r hi nd hx0;by_cases hc:en k (a-1) b<=(S.filter λy=>(y != x0)&&(r x0 y==true)).length
   ·exact near S nd x0 hx0 hc
   ·exact apart S nd x0 hx0 (by omega)
theorem ZlS {n:Nat}{t:Qa}(hw:Yk n t)(x:Nat):tied t x x=false:=by
 cases e:tied t x x with
 | false=>rfl
 | true=>
  have:=(hw.mem (ZfP.mp e)).1;simp only at this;omega
theorem Zky {n k a b:Nat}{t:Qa}(hw:Yk n t)(hn:n<=24)(hk:a+b<=k+1)(ha:0<a)(hb:0<b)(hl:en k a b<=n):a<=om n t∨b<=om n (ZN n t):=by
 have go:∀{t':Qa} {K:List Nat},Yk n t'->Zn2 n t' K->K.length<=om n t':=λ{t' K} hw' hk=>by
  have pm:=BR hk.1 hk.2.1;have:=Zn1 hw' hn (K:=UC n K) (Ux.mpr ⟨ZaS n K,λo ho=>hk.2.1 o (pm.mem_iff.mp ho),λa ha b hb=>hk.2.2 a (pm.mem_iff.mp ha) b (pm.mem_iff.mp hb)⟩)
  rwa[pm.length_eq]at this
 rcases ZgS (tied t) (BX t) (ZlS hw) k a b hk ha hb (qp n) yZ (by rw[zc];exact hl)with⟨K,h1,h2,h3,h4⟩ | ⟨K,h1,h2,h3,h4⟩
 ·left;rw[<-h3];exact go hw ⟨h1,λx hx=>qO.mp (h2 x hx),h4⟩
 ·right;rw[<-h3]
  exact go (V1 n t) ⟨h1,λx hx=>qO.mp (h2 x hx),λx hx y hy hne=>JK.mpr ⟨qO.mp (h2 x hx),qO.mp (h2 y hy),hne,h4 x hx y hy hne⟩⟩
noncomputable abbrev Uh (n:Nat)(jD:Qa):D:=.tup [nD n,.dt (YE [] jD)]
theorem mk0 {n:Nat}{jD:Qa}:Zm (Uh n jD) (.int 0)=some (nD n):=Vt _ _
theorem mk1 {n:Nat}{jD:Qa}:Zm (Uh n jD) (.int 1)=some (.dt (YE [] jD)):=W7 _ _ _
theorem Zkz (n:Nat)(jD:Qa)(p:Nat)(s:Pn)(hn:n<=100000):U4 [Uh n jD,.int p] s=some (.lst ((YW n jD p).map nD),s):=by
 refine Xl rfl (YA (Y9 ?_));unfold YW;show _=some (D.lst (((qp n).filter λo=>tied jD p o).map λ(i:Nat)=>D.int (i:Int)),s);rw[<-Zfe];refine X4 (ds:=Z0 0 n) (λd=>[some d,some (Uh n jD),some (.int p)]) (λd=>tied jD p (Z6 d)) (λd=>d) (WY (Zq (d:=Uh n jD) (e:=.int 0) rfl rfl mk0) hn) (Zep hn) ?_;intro d hd;obtain⟨i,hi,rfl⟩:=Zcy hd;exact⟨rfl,Z3 (Z5 (Zg (Zq (d:=Uh n jD) (e:=.int 1) rfl rfl mk1) (Zg rfl (Zg rfl rfl))) (Zbs jD p i s)),λ_=>rfl⟩
noncomputable def gN:Zb->M Out:=(Zh (Z1 1 (Yg (Zc (Zd Zm (Za 0) (dC (.int 0))) (Zc (Zs Uj (Zc (Za 0) Zf)) Zf))))
 (Zh (ZC (Yj [none,some 1] (Xk (Zd Zm (Za 0) (dC (.int 0)))) (ZK 0) Ys (Zs U4 (Zc (Za 1) (Zc (Za 0) Zf)))))
 Zn))
theorem ZeT (n:Nat)(jD:Qa)(hn:n<=1000)(hl:jD.length<=100000)(s:Pn):runB 2 1 gN [Zw n jD] s=some (Znk n jD,s):=by
 refine Xl rfl (YK (XT (Vq (Zg (Zq (d:=Zw n jD) (e:=.int 0) rfl rfl Wx) (Zg (Z5 (Zg rfl rfl) (ZdI n jD s hl)) rfl)) two_le)) (YA (Y9 ?_)));have hc:=X4 (src:=[none,some 1]) (fi:=Xk (Zd Zm (Za 0) (dC (.int 0)))) (τ:=ZK 0) (ft:=Ys) (fe:=Zs U4 (Zc (Za 1) (Zc (Za 0) Zf))) (ρ:=[some (Zw n jD),some (Uh n jD)]) (s:=s) (ds:=Z0 0 n) (λd=>[some d,some (Uh n jD)]) (λ_=>true) (λd=>.lst ((YW n jD (Z6 d)).map nD)) (WY (Zq (d:=Zw n jD) (e:=.int 0) rfl rfl Wx) (by omega)) (Zep (by omega)) λd hd=>by
  obtain⟨i,hi,rfl⟩:=Zcy hd;exact⟨rfl,rfl,λ_=>Z5 (Zg rfl (Zg rfl rfl)) (Zkz n jD i s (by omega))⟩
 rw[VD,Uu,qM]at hc;exact hc
section
variable (ap:Nat->Nat->Bool)
noncomputable def one? (ps:List Nat):Option Nat:=ps.find? λp=>decide (Y4 ap ps p<=1)
noncomputable def Yh:Nat->List Nat->List Nat
 | 0,_=>[]
 | m+1,ps=>if ps=[]then []else match one? ap ps with
  | some p=>p::Yh m (YM ap ps p)
  | none=>if (Yh m (ps.filter λo=>!decide (o=Yd ap ps))).length<=(Yd ap ps::Yh m (YM ap ps (Yd ap ps))).length then Yd ap ps::Yh m (YM ap ps (Yd ap ps))
   else Yh m (ps.filter λo=>!decide (o=Yd ap ps))
end
section
variable {ap:Nat->Nat->Bool}
theorem B6 {ps:List Nat}{p:Nat}(h:one? ap ps=some p):p∈ps/\Y4 ap ps p<=1:=⟨List.mem_of_find?_eq_some h,by have:=List.find?_some h;simpa using this⟩
theorem B7 (sy:∀a b,ap a b=ap b a):∀(m:Nat) (ps:List Nat),KnA ap ps (Yh ap m ps)
 | 0,ps=>⟨qbN,λx hx=>by simp[Yh]at hx,λx hx=>by simp[Yh]at hx⟩
 | m+1,ps=>by
  unfold Yh;by_cases h0:ps=[]
  ·rw[if_pos h0];exact⟨qbN,λx hx=>by simp at hx,λx hx=>by simp at hx⟩
  ·rw[if_neg h0]
   have w:=λp (hp:p∈ps)=>jB sy hp (B7 sy m (YM ap ps p));split
   ·rename_i p hp
    exact w _ (B6 hp).1
   ·split
    ·exact w _ (BQ h0)
    ·exact(B7 sy m _).mono λx hx=>(qW.mp hx).1
theorem Zc6 (sy:∀a b,ap a b=ap b a)(ir:∀a,ap a a=false):∀(m:Nat) (ps K:List Nat),ps.length<m->KnA ap ps K->K.length<=(Yh ap m ps).length
 | 0,ps,K,h,_=>by omega
 | m+1,ps,K,hl,h=>by
  unfold Yh;by_cases h0:ps=[]
  ·rw[if_pos h0]
   cases K with
   | nil=>simp
   | cons a r=>have:=h.sub a (by simp);rw[h0]at this;simp at this
  ·rw[if_neg h0]
   have w:∀p,p∈ps->(p∈K∨Y4 ap ps p<=1)->K.length<=(p::Yh ap m (YM ap ps p)).length:=λp hp hm=>by
    have h1:=ZiH ir h hm;have h2:=Zc6 sy ir m (YM ap ps p) _ (by have:=ZfO (ap:=ap) hp;omega) (h.rest (p:=p));simp only[qB];omega
   split
   ·rename_i p hp
    exact w _ (B6 hp).1 (.inr (B6 hp).2)
   ·have hb:=BQ (ap:=ap) h0
    by_cases hk:Yd ap ps∈K
    ·have:=w _ hb (.inl hk)
     split
     ·exact this
     ·omega
    ·have h3:=Zc6 sy ir m (ps.filter λo=>!decide (o=Yd ap ps)) K (by have:=Zc4 hb;omega) ⟨h.nd,λx hx=>qW.mpr ⟨h.sub x hx,by
      have:x≠Yd ap ps:=λz=>hk (z▸hx);simpa using this⟩,h.two⟩
     split
     ·omega
     ·exact h3
theorem Zcj (m:Nat):∀(ps:List Nat),(Yh ap m ps).length<=m:=by
 induction m with
 | zero=>intro ps;simp[Yh]
 | succ m ih=>
  intro ps;unfold Yh;split
  ·simp
  ·split
   ·rename_i p hp
    have:=ih (YM ap ps p);simp only[qB];omega
   ·split
    ·have:=ih (YM ap ps (Yd ap ps));simp only[qB];omega
    ·have:=ih (ps.filter λo=>!decide (o=Yd ap ps));omega
end
noncomputable abbrev YR (n:Nat):D:=.tup (qw n (nD 1))
theorem ZhG {n p:Nat}(h:p<n):Zm (YR n) (nD p)=some (nD 1):=by
 show XF _ (p:Int)=_;refine W0 ?_;rw[yV,if_pos h]
theorem ZhH:∀k:Nat,(qw k (1:Int)).sum=(k:Int)
 | 0=>rfl
 | k+1=>by rw[yk,qaY,ZhH k];omega
theorem ZkA (k:Nat):dSum [.lst (qw k (nD 1))]=some (nD k):=by
 have h1:ZO (qw k (nD 1))=some (qw k 1):=by
  rw[show qw k (nD 1)=(qw k (1:Int)).map D.int by rw[List.map_replicate];rfl];exact Jz _
 show(match ZO (qw k (nD 1))with | some ns=>if W8 ns=true then some (D.int ns.sum)else none | none=>none)=_;rw[h1];have h2:W8 (qw k 1)=true:=yF.mpr λx hx=>by rw[(List.mem_replicate.mp hx).2];rfl
 show(if W8 (qw k 1)=true then some (D.int (qw k (1:Int)).sum)else none)=_;rw[if_pos h2,ZhH]
noncomputable def ZfW:Zb->M Out:=(Zh (ZC (ZJ dSum (Zc (Yj [none,some 0] (Yf (Za 1)) (ZK 0) Ys (Zd Zm (Za 1) (Za 0))) Zf)))
 Zn)
theorem Zaz {n:Nat}{ps:List Nat}(hp:∀p∈ps,p<n)(hl:ps.length<=1000)(s:Pn):runB 2 2 ZfW [YR n,.lst (ps.map nD)] s=some (nD ps.length,s):=by
 have hc:=X4 (src:=[none,some 0]) (fi:=Yf (Za 1)) (τ:=ZK 0) (ft:=Ys) (fe:=Zd Zm (Za 1) (Za 0)) (ρ:=[some (YR n),some (.lst (ps.map nD))]) (s:=s) (ds:=ps.map nD) (λd=>[some d,some (YR n)]) (λ_=>true) (λ_=>nD 1) (Wc rfl) (by rw[qj,YI];omega) (λd hd=>by
  obtain⟨x,hx,rfl⟩:=qE.mp hd;exact⟨rfl,rfl,λ_=>Zq (d:=YR n) (e:=nD x) rfl rfl (ZhG (hp x hx))⟩)
 rw[VD,List.map_const',qj]at hc;exact Xl rfl (YA (Y9 (Yb (Zg hc rfl) (ZkA _))))
noncomputable def Znr:Zb->M Out:=(Zh (ZC (Yj [none,some 0,some 1] (Yf (Za 2)) (ZK 0) (asB (Zd Xq (Za 0) (Zd Zm (Za 1) (Za 2)))) (Za 0)))
 Zn)
noncomputable def ZgT:List D->M D:=runB 3 3 Znr
noncomputable def Vn:List D->M D:=runB 2 2 ZfW
noncomputable def gHW (Fs:List D->M D):Zb->M Out:=(Zh (Z1 4 (Yj [none,some 2,some 0] (Yf (Za 3)) (ZK 0) (XV (asB (Zd XC (Za 0) (Za 1))) (asB (Zd VM (Za 0) (Zd Zm (Za 2) (Za 1))))) (Za 0)))
 (Zh (ZC (Zd Yc (YS (Zc (Za 2) Zf)) (Zs Fs (Zc (Za 0) (Zc (Za 1) (Zc (Za 4) Zf))))))
 Zn))
noncomputable def FHW (Fs:List D->M D):List D->M D:=runB 5 4 (gHW Fs)
noncomputable def Zmg (Fs:List D->M D):Zb->M Out:=(Zh (Z9 (asB (Zd Jn (Zs Vn (Zc (Za 1) (Zc (Zd Zm (Za 3) (Za 4)) Zf))) (Zd Zm (Za 1) (Zd Zm (Za 2) (Za 4)))))
 (Zh (ZC (Zs (FHW Fs) (Zc (Za 0) (Zc (Za 1) (Zc (Zd Zm (Za 2) (Za 4)) (Zc (Za 2) Zf))))))
 Zn)
 Zn)
 Zn)
noncomputable def gHA (Fs:List D->M D):Zb->M Out:=(Zh (Z9 (asB (Zd YD (Za 2) (YS Zf)))
 (Zh (ZC (YS Zf))
 Zn)
 Zn)
 (Zh (Z1 3 (Yj [none,some 0,some 2] (Yf (Za 2)) (ZK 0) Ys (Zs ZgT (Zc (Za 1) (Zc (Za 0) (Zc (Za 2) Zf))))))
 (Zh (Y2 (Xk (ZJ Y3 (Zc (Za 2) Zf))) (ZK 4) (Zmg Fs))
 (Zh (Z1 5 (Yj [none] (Yf (Za 3)) (ZK 0) Ys (ZJ Y3 (Zc (Za 0) Zf))))
 (Zh (Z1 6 (Zd Zm (Za 2) (Zd Zew (Za 5) (ZJ Jc (Zc (Za 5) Zf)))))
 (Zh (Z1 7 (Zs (FHW Fs) (Zc (Za 0) (Zc (Za 1) (Zc (Za 6) (Zc (Za 2) Zf))))))
 (Zh (Z1 8 (Zs Fs (Zc (Za 0) (Zc (Za 1) (Zc (Yj [none,some 6] (Yf (Za 2)) (ZK 0) (asB (Zd XC (Za 0) (Za 1))) (Za 0)) Zf)))))
 (Zh (ZC (BB (asB (Zd Wz (Zs Vn (Zc (Za 1) (Zc (Za 7) Zf))) (Zs Vn (Zc (Za 1) (Zc (Za 8) Zf))))) (Za 7) (Za 8)))
 Zn))))))))
noncomputable def UQ:Nat->List D->M D
 | 0=>λ_=>ZE
 | n+1=>runB 9 3 (gHA (UQ n))
theorem geN (a b:Nat):Wz (nD a) (nD b)=some (.bl (decide (b<=a))):=by
 show some (D.bl (decide ((b:Int)<=(a:Int))))=_;rw[show decide ((b:Int)<=(a:Int))=decide (b<=a)from decide_eq_decide.mpr (by omega)]
theorem ZgU (P:Nat->Bool)(h:Nat->D)(ps:List Nat):(qp ps.length).findSome? (λi=>if P (ps.getD i 0)=true then some (h (ps.getD i 0))else none)=(ps.find? P).map h:=by
 have e:(qp ps.length).map (λi=>ps.getD i 0)=ps:=by
  apply qak;intro i;rw[qC];by_cases hi:i<ps.length
  ·rw[yX hi]
   show some (ps.getD i 0)=_;rw[qN,qD hi];rfl
  ·rw[ya (by simp;omega),ya (by omega)];rfl
 have k:∀l:List Nat,l.findSome? (λx=>if P x=true then some (h x)else none)=(l.find? P).map h:=λl=>by
  induction l with
  | nil=>rfl
  | cons x l ih=>
   rw[qc4,qag]
   cases hx:P x with
   | true=>rfl
   | false=>exact ih
 rw[<-k ps]
 conv=>rhs;rw[<-e]
 rw[List.findSome?_map];rfl
section
variable {n:Nat}{A:Nat->List Nat}{ap:Nat->Nat->Bool}
theorem ZkB (hA:∀p o,ap p o=decide (o∈A p)){p:Nat}(hp:p<n)(ps:List Nat)(hl:ps.length<=1000)(s:Pn):ZgT [YY n A,nD p,.lst (ps.map nD)] s=some (.lst ((ps.filter λo=>ap p o).map nD),s):=by
 have hc:=X4 (src:=[none,some 0,some 1]) (fi:=Yf (Za 2)) (τ:=ZK 0) (ft:=asB (Zd Xq (Za 0) (Zd Zm (Za 1) (Za 2)))) (fe:=Za 0) (ρ:=[some (YY n A),some (nD p),some (.lst (ps.map nD))]) (s:=s) (ds:=ps.map nD) (λd=>[some d,some (YY n A),some (nD p)]) (λd=>ap p (Z6 d)) (λd=>d) (Wc rfl) (by rw[qj,YI];omega) (λd hd=>by
  obtain⟨x,hx,rfl⟩:=qE.mp hd;exact⟨rfl,Z3 (Zq (d:=nD x) (e:=.dk (Xi (A p))) rfl (Zq (d:=YY n A) (e:=nD p) rfl rfl (Zkr hp)) (by rw[Znm,<-hA];rfl)),λ_=>rfl⟩)
 rw[qa1,qM]at hc;exact Xl rfl (YA (Y9 hc))
theorem Zn3 (hA:∀p o,ap p o=decide (o∈A p)){Fs:List D->M D}{p:Nat}(hp:p<n){ps r:List Nat}(hl:ps.length<=1000)(hr:r.length<=1000){s:Pn}(hF:Fs [YY n A,YR n,.lst ((YM ap ps p).map nD)] s=some (.lst (r.map nD),s)):FHW Fs [YY n A,YR n,nD p,.lst (ps.map nD)] s=some (.lst ((p::r).map nD),s):=by
 have hc:=X4 (src:=[none,some 2,some 0]) (fi:=Yf (Za 3)) (τ:=ZK 0) (ft:=XV (asB (Zd XC (Za 0) (Za 1))) (asB (Zd VM (Za 0) (Zd Zm (Za 2) (Za 1))))) (fe:=Za 0) (ρ:=[some (YY n A),some (YR n),some (nD p),some (.lst (ps.map nD)),none]) (s:=s) (ds:=ps.map nD) (λd=>[some d,some (nD p),some (YY n A)]) (λd=>!decide (Z6 d=p) && !ap p (Z6 d)) (λd=>d) (Wc rfl) (by rw[qj,YI];omega) (λd hd=>by
  obtain⟨x,hx,rfl⟩:=qE.mp hd;refine⟨rfl,Zcf (Z3 (Zq (d:=nD x) (e:=nD p) rfl rfl (ZgQ x p))) λ_=>Z3 (Zq (d:=nD x) (e:=.dk (Xi (A p))) rfl (Zq (d:=YY n A) (e:=nD p) rfl rfl (Zkr hp)) (by rw[ZiI,<-hA];rfl)),λ_=>rfl⟩)
 rw[qa1,qM]at hc;have e:(ps.filter ((λd=>!decide (Z6 d=p) && !ap p (Z6 d))∘nD)).map ((λd=>d)∘nD)=(YM ap ps p).map nD:=rfl;rw[e]at hc;refine Xl rfl (YK (XT hc) (YA (Y9 (Zq (d:=.lst [nD p]) (e:=.lst (r.map nD)) (W1 (Zg rfl rfl) (by show 1<=xg;decide)) (Z5 (Zg rfl (Zg rfl (Zg rfl rfl))) hF) ?_))));rw[ZlO (by rw[qj];simp;omega)];rfl
theorem Zck:∀(m:Nat) (ps:List Nat),∀x∈Yh ap m ps,x∈ps
 | 0,ps,x,hx=>by simp[Yh]at hx
 | m+1,ps,x,hx=>by
  unfold Yh at hx;by_cases h0:ps=[]
  ·rw[if_pos h0]at hx;cases hx
  ·rw[if_neg h0]at hx
   have w:=λp (hp:p∈ps) (h:x∈p::Yh ap m (YM ap ps p))=>show x∈ps from by
    rcases qq.mp h with e | h
    ·rw[e];exact hp
    ·exact(Us x (Zck m _ x h)).1
   split at hx
   ·rename_i p hp
    exact w _ (B6 hp).1 hx
   ·split at hx
    ·exact w _ (BQ h0) hx
    ·exact(qW.mp (Zck m _ x hx)).1
theorem ZaU (hA:∀p o,ap p o=decide (o∈A p))(s:Pn):∀(m:Nat) (ps:List Nat),ps.length<m->m<=100->(∀p∈ps,p<n)->UQ m [YY n A,YR n,.lst (ps.map nD)] s=some (.lst ((Yh ap m ps).map nD),s)
 | 0,_,h,_,_=>by omega
 | m+1,ps,hl,hm,hn=>by
  have hpl:Ym (ps.map nD)=true:=Zc0 ps;have hdp:Y7 (ps.map nD)<=10:=by rw[ZhD];omega
  have heq:=Znn (ps.map nD) hpl hdp;by_cases h0:ps=[]
  ·subst h0
   refine Xl rfl (YA (Jb (Z3 (Zq (d:=.lst []) (e:=.lst []) rfl (W1 rfl (zy _)) heq)) (YA (Y9 (d:=.lst []) (W1 rfl (zy _))))))
  ·have hf:decide (ps.map nD=[])=false:=by simpa using h0
   rw[hf]at heq;have hcs:ps.map (Y4 ap ps)≠[]:=by simpa using h0
   have hc:=X4 (src:=[none,some 0,some 2]) (fi:=Yf (Za 2)) (τ:=ZK 0) (ft:=Ys) (fe:=Zs ZgT (Zc (Za 1) (Zc (Za 0) (Zc (Za 2) Zf)))) (ρ:=[some (YY n A),some (YR n),some (.lst (ps.map nD)),none,none,none,none,none,none]) (s:=s) (ds:=ps.map nD) (λd=>[some d,some (YY n A),some (.lst (ps.map nD))]) (λ_=>true) (λd=>.lst ((ps.filter λo=>ap (Z6 d) o).map nD)) (Wc rfl) (by rw[qj,YI];omega) (λd hd=>by
    obtain⟨x,hx,rfl⟩:=qE.mp hd;exact⟨rfl,rfl,λ_=>Z5 (Zg rfl (Zg rfl (Zg rfl rfl))) (ZkB hA (hn x hx) ps (by omega) s)⟩)
   rw[VD,qM]at hc;generalize hR:ps.map ((λd=>D.lst ((ps.filter λo=>ap (Z6 d) o).map nD))∘nD)=R at hc;have kw:∀p,p∈ps->FHW (UQ m) [YY n A,YR n,nD p,.lst (ps.map nD)] s=some (.lst ((p::Yh ap m (YM ap ps p)).map nD),s):=λp hp=>by
    have hlt:=ZfO (ap:=ap) hp;have hb:=Zcj (ap:=ap) m (YM ap ps p);exact Zn3 hA (hn p hp) (by omega) (by omega) (ZaU hA s m (YM ap ps p) (by omega) (by omega) λx hx=>hn x (Us x hx).1)
   have hrow:∀i,i<ps.length->Zm (.lst R) (nD i)=some (.lst ((ps.filter λo=>ap (ps.getD i 0) o).map nD)):=λi hi=>by
    refine W0 ?_;rw[<-hR,qC,qN,qD hi];rfl
   have hpl2:∀i,i<ps.length->Zm (.lst (ps.map nD)) (nD i)=some (nD (ps.getD i 0)):=λi hi=>ZeP hi;have hgm:∀i,i<ps.length->ps.getD i 0∈ps:=λi hi=>by
    rw[qN,qD hi];exact qbx hi
   have hfind:=Zd3 (τ:=ZK 4) (body:=Zmg (UQ m)) (s:=s) (fun ρ=>∃o4,ρ=[some (YY n A),some (YR n),some (.lst (ps.map nD)),some (.lst R),o4,none,none,none,none]) (λi=>if decide (Y4 ap ps (ps.getD i 0)<=1)=true then some (.lst ((ps.getD i 0::Yh ap m (YM ap ps (ps.getD i 0))).map nD))else none) (qp ps.length) [some (YY n A),some (YR n),some (.lst (ps.map nD)),some (.lst R),none,none,none,none,none] ⟨none,rfl⟩ (λi hi ρ hρ=>by
    obtain⟨o4,rfl⟩:=hρ;have hi:=qO.mp hi;refine⟨_,rfl,?_⟩;have hcond:asB (Zd Jn (Zs Vn (Zc (Za 1) (Zc (Zd Zm (Za 3) (Za 4)) Zf))) (Zd Zm (Za 1) (Zd Zm (Za 2) (Za 4)))) [some (YY n A),some (YR n),some (.lst (ps.map nD)),some (.lst R),some (nD i),none,none,none,none] s=some (decide (Y4 ap ps (ps.getD i 0)<=1),s):=by
     refine Z3 (Zq (Z5 (Zg rfl (Zg (Zq (d:=.lst R) (e:=nD i) rfl rfl (hrow i hi)) rfl)) (Zaz (λp hp=>hn p (qW.mp hp).1) (by have:=yN (λo=>ap (ps.getD i 0) o) ps;omega) s)) (Zq (d:=YR n) rfl (Zq (d:=.lst (ps.map nD)) (e:=nD i) rfl rfl (hpl2 i hi)) (ZhG (hn _ (hgm i hi)))) ?_);show some (D.bl (decide (((ps.filter λo=>ap (ps.getD i 0) o).length:Int)<=(1:Int))))=_;congr 2;exact decide_eq_decide.mpr (by unfold Y4;omega)
    by_cases hq:Y4 ap ps (ps.getD i 0)<=1
    ·rw[decide_eq_true hq]at hcond⊢
     rw[if_pos rfl];exact YA (Jb hcond (YA (Y9 (Z5 (Zg rfl (Zg rfl (Zg (Zq (d:=.lst (ps.map nD)) (e:=nD i) rfl rfl (hpl2 i hi)) (Zg rfl rfl)))) (kw _ (hgm i hi))))))
    ·rw[decide_eq_false hq]at hcond⊢
     rw[if_neg yH];exact⟨_,YK (UF hcond rfl) rfl,some (nD i),rfl⟩)
   rw[ZgU (λp=>decide (Y4 ap ps p<=1)) (λp=>.lst ((p::Yh ap m (YM ap ps p)).map nD)) ps]at hfind;have hit:Xk (ZJ Y3 (Zc (Za 2) Zf)) [some (YY n A),some (YR n),some (.lst (ps.map nD)),some (.lst R),none,none,none,none,none] s=some ((qp ps.length).map nD,s):=by
    have:=WY (f:=ZJ Y3 (Zc (Za 2) Zf)) (ρ:=[some (YY n A),some (YR n),some (.lst (ps.map nD)),some (.lst R),none,none,none,none,none]) (s:=s) (n:=ps.length) (Yb (Zg rfl rfl) (ZiG ps)) (by omega);rw[Uu]at this;exact this
   unfold Yh;rw[if_neg h0];refine Xl rfl (YK (UF (Z3 (Zq (d:=.lst (ps.map nD)) (e:=.lst []) rfl (W1 rfl (zy _)) heq)) rfl) (YK (XT hc) ?_));show Zh _ _ [some (YY n A),some (YR n),some (.lst (ps.map nD)),some (.lst R),none,none,none,none,none] s=_
   cases ho:one? ap ps with
   | some p=>
    have ho':ps.find? (λp=>decide (Y4 ap ps p<=1))=some p:=ho;rw[ho']at hfind;exact YA (JT hit hfind)
   | none=>
    have ho':ps.find? (λp=>decide (Y4 ap ps p<=1))=none:=ho;rw[ho']at hfind;obtain⟨ρ2,hf2,o4,rfl⟩:=hfind;refine YK (JT hit hf2) ?_;have hmax:=Zks hcs;have hp1:=BQ (ap:=ap) h0;have hix:Zm (.lst (ps.map nD)) (nD ((ps.map (Y4 ap ps)).idxOf (Wl (ps.map (Y4 ap ps)))))=some (nD (Yd ap ps)):=ZeP (by
     have:=qa8.mpr (ZgP hcs);simpa using this)
    have hcc:=X4 (src:=[none]) (fi:=Yf (Za 3)) (τ:=ZK 0) (ft:=Ys) (fe:=ZJ Y3 (Zc (Za 0) Zf)) (ρ:=[some (YY n A),some (YR n),some (.lst (ps.map nD)),some (.lst R),o4,none,none,none,none]) (s:=s) (ds:=R) (λd=>[some d]) (λ_=>true) (λd=>match d with | .lst l=>nD l.length | _=>.non) (Wc rfl) (by rw[<-hR,qj,YI];omega) (λd hd=>by
     rw[<-hR]at hd;obtain⟨x,hx,rfl⟩:=qE.mp hd;exact⟨rfl,rfl,λ_=>Yb (Zg rfl rfl) rfl⟩)
    rw[VD,<-hR,qM]at hcc;have e5:ps.map ((λd=>match d with | .lst l=>nD l.length | _=>D.non)∘((λd=>D.lst ((ps.filter λo=>ap (Z6 d) o).map nD))∘nD))=(ps.map (Y4 ap ps)).map nD:=by
     rw[qM];refine zD λx _=>?_;show nD ((ps.filter λo=>ap x o).map nD).length=nD (Y4 ap ps x);rw[qj];rfl
    rw[e5,hR]at hcc;have hwo:=Zc4 hp1;have ih2:=ZaU hA s m (ps.filter λo=>!decide (o=Yd ap ps)) (by omega) (by omega) λx hx=>hn x (qW.mp hx).1;have hc2:=X4 (src:=[none,some 6]) (fi:=Yf (Za 2)) (τ:=ZK 0) (ft:=asB (Zd XC (Za 0) (Za 1))) (fe:=Za 0) (ρ:=[some (YY n A),some (YR n),some (.lst (ps.map nD)),some (.lst R),o4,some (.lst ((ps.map (Y4 ap ps)).map nD)),some (nD (Yd ap ps)),some (.lst ((Yd ap ps::Yh ap m (YM ap ps (Yd ap ps))).map nD)),none]) (s:=s) (ds:=ps.map nD) (λd=>[some d,some (nD (Yd ap ps))]) (λd=>!decide (Z6 d=Yd ap ps)) (λd=>d) (Wc rfl) (by rw[qj,YI];omega) (λd hd=>by
     obtain⟨x,hx,rfl⟩:=qE.mp hd;exact⟨rfl,Z3 (Zq (d:=nD x) (e:=nD (Yd ap ps)) rfl rfl (ZgQ _ _)),λ_=>rfl⟩)
    have e2:((ps.map nD).filter λd=>!decide (Z6 d=Yd ap ps)).map (λd=>d)=(ps.filter λo=>!decide (o=Yd ap ps)).map nD:=by rw[qa1,qM];rfl
    rw[e2]at hc2;have bl1:=Zcj (ap:=ap) m (YM ap ps (Yd ap ps));have bl2:=Zcj (ap:=ap) m (ps.filter λo=>!decide (o=Yd ap ps));have w1:=Zaz (n:=n) (ps:=Yd ap ps::Yh ap m (YM ap ps (Yd ap ps))) (λp hp=>by
     rcases qq.mp hp with e | hp
     ·rw[e];exact hn _ hp1
     ·exact hn p (Us p (Zck m _ p hp)).1) (by simp only[qB];omega) s
    have w2:=Zaz (n:=n) (ps:=Yh ap m (ps.filter λo=>!decide (o=Yd ap ps))) (λp hp=>hn p (qW.mp (Zck m _ p hp)).1) (by omega) s;refine YK (XT hcc) (YK (XT (Zq (d:=.lst (ps.map nD)) rfl (Zq (d:=.lst ((ps.map (Y4 ap ps)).map nD)) rfl (Yb (Zg rfl rfl) hmax) (ZgR (ZgP hcs))) hix)) (YK (XT (Z5 (Zg rfl (Zg rfl (Zg rfl (Zg rfl rfl)))) (kw _ hp1))) (YK (XT (Z5 (Zg rfl (Zg rfl (Zg hc2 rfl))) ih2)) (YA (Y9 ?_)))));have hge:=geN (Yd ap ps::Yh ap m (YM ap ps (Yd ap ps))).length (Yh ap m (ps.filter λo=>!decide (o=Yd ap ps))).length;have ht:=Z3 (Zq (g:=Wz) (ρ:=[some (YY n A),some (YR n),some (.lst (ps.map nD)),some (.lst R),o4,some (.lst ((ps.map (Y4 ap ps)).map nD)),some (nD (Yd ap ps)),some (.lst ((Yd ap ps::Yh ap m (YM ap ps (Yd ap ps))).map nD)),some (.lst ((Yh ap m (ps.filter λo=>!decide (o=Yd ap ps))).map nD))]) (s:=s) (Z5 (F:=Vn) (fs:=Zc (Za 1) (Zc (Za 7) Zf)) (Zg rfl (Zg rfl rfl)) w1) (Z5 (F:=Vn) (fs:=Zc (Za 1) (Zc (Za 8) Zf)) (Zg rfl (Zg rfl rfl)) w2) hge);generalize hX:Yd ap ps::Yh ap m (YM ap ps (Yd ap ps))=X at ht⊢;generalize hY:Yh ap m (ps.filter λo=>!decide (o=Yd ap ps))=Y at ht⊢;have hfin:∀ρ:Zb,(ρ[7]?).bind id=some (.lst (X.map nD))->(ρ[8]?).bind id=some (.lst (Y.map nD))->asB (Zd Wz (Zs Vn (Zc (Za 1) (Zc (Za 7) Zf))) (Zs Vn (Zc (Za 1) (Zc (Za 8) Zf)))) ρ s=some (decide (Y.length<=X.length),s)->BB (asB (Zd Wz (Zs Vn (Zc (Za 1) (Zc (Za 7) Zf))) (Zs Vn (Zc (Za 1) (Zc (Za 8) Zf))))) (Za 7) (Za 8) ρ s=some (.lst ((if Y.length<=X.length then X else Y).map nD),s):=fun ρ h7 h8 ht=>by
     unfold BB Zp;rw[ht];by_cases hq:Y.length<=X.length
     ·simp only[hq,decide_true,if_true]
      unfold Za YZ;rw[h7]
     ·simp only[hq,decide_false,if_false,qQ]
      unfold Za YZ;rw[h8]
    exact hfin _ rfl rfl ht
end
noncomputable def YC (n:Nat)(jD:Qa):List Nat:=UC n (Yh (tied (ZN n jD)) 26 (qp n))
noncomputable def gHK:Zb->M Out:=(Zh (Z1 2 (Yj [none] (Yf (Zs (runB 2 1 gN) (Zc (Zs X9 (Zc (Za 0) Zf)) Zf))) (ZK 0) Ys (ZJ Zen (Zc (Yj [none] (Yf (Za 0)) (ZK 0) Ys (Yg (Zc (Za 0) (Zc (dC (.bl true)) Zf)))) Zf))))
 (Zh (ZC (ZJ U3 (Zc (ZJ Zch (Zc (Zs (UQ 26) (Zc (Za 2) (Zc (Za 1) (Zc (Vl (Zd Zm (Za 0) (dC (.int 0)))) Zf)))) Zf)) Zf)))
 Zn))
theorem BS {n:Nat}{jD:Qa}(hw:Yk n jD)(hn:n<=24):YC n jD∈kn jD n/\∀K∈kn jD n,K.length<=(YC n jD).length:=by
 have sy:∀a b,tied (ZN n jD) a b=tied (ZN n jD) b a:=BX _;have hk:=B7 sy 26 (qp n);have hlt:∀x∈Yh (tied (ZN n jD)) 26 (qp n),x<n:=λx hx=>qO.mp (hk.sub x hx);have hp:=BR hk.nd hlt;constructor
 ·refine Ux.mpr ⟨ZaS _ _,λo ho=>hlt o (hp.mem_iff.mp ho),λa ha b hb ne=>?_⟩
  have ha':=hp.mem_iff.mp ha;have hb':=hp.mem_iff.mp hb;have:=hk.two a ha' b hb' ne
  cases h:tied jD a b with
  | true=>rfl
  | false=>
   have:=JK.mpr ⟨hlt a ha',hlt b hb',ne,h⟩;simp_all
 ·intro K hK
  obtain⟨h1,h2,h3⟩:=Ux.mp hK;have:=Zc6 sy Zkt 26 (qp n) K (by rw[zc];omega) ⟨Zc2 h1,λx hx=>qO.mpr (h2 x hx),λx hx y hy ne=>by
   cases h:tied (ZN n jD) x y with
   | false=>rfl
   | true=>
    have h4:=(JK.mp h).2.2.2;rw[h3 x hx y hy ne]at h4;cases h4⟩
  have e:=hp.length_eq;show K.length<=(UC n _).length;omega
theorem Zc7 {n:Nat}{jD:Qa}:(YC n jD).length<=n:=by
 have:=yN (λx=>decide (x∈Yh (tied (ZN n jD)) 26 (qp n))) (qp n);rw[zc]at this;exact this
theorem ZkC (n:Nat)(jD:Qa)(hn:n<=24)(hl:jD.length<=100000)(s:Pn):runB 3 2 gHK [Zw n jD,YR n] s=some (ZY (YC n jD),s):=by
 have sy:∀a b,tied (ZN n jD) a b=tied (ZN n jD) b a:=BX _;have hk:=B7 sy 26 (qp n);have hlt:∀x∈Yh (tied (ZN n jD)) 26 (qp n),x<n:=λx hx=>qO.mp (hk.sub x hx);have hp:=BR hk.nd hlt;have htl:=(V1 n jD).len hn;have hc:=X4 (src:=[none]) (fi:=Yf (Zs (runB 2 1 gN) (Zc (Zs X9 (Zc (Za 0) Zf)) Zf))) (τ:=ZK 0) (ft:=Ys) (fe:=ZJ Zen (Zc (Yj [none] (Yf (Za 0)) (ZK 0) Ys (Yg (Zc (Za 0) (Zc (dC (.bl true)) Zf)))) Zf)) (ρ:=[some (Zw n jD),some (YR n),none]) (s:=s) (ds:=(qp n).map λp=>D.lst ((YW n (ZN n jD) p).map nD)) (λd=>[some d]) (λ_=>true) (λd=>match d with | .lst ds=>.dk (Xi (ds.map Z6)) | _=>.non)
  (Wc (Z5 (Zg (Z5 (Zg rfl rfl) (BV n jD s (by omega) hl)) rfl) (ZeT n (ZN n jD) (by omega) (by omega) s))) (by rw[qj,zc,YI];omega) (λd hd=>by
  obtain⟨p,hp,rfl⟩:=qE.mp hd;refine⟨rfl,rfl,λ_=>?_⟩;have hnl:(YW n (ZN n jD) p).length<=n:=by
   have:=yN (λo=>tied (ZN n jD) p o) (qp n);rw[zc]at this;exact this
  have hc2:=X4 (src:=[none]) (fi:=Yf (Za 0)) (τ:=ZK 0) (ft:=Ys) (fe:=Yg (Zc (Za 0) (Zc (dC (.bl true)) Zf))) (ρ:=[some (D.lst ((YW n (ZN n jD) p).map nD))]) (s:=s) (ds:=(YW n (ZN n jD) p).map nD) (λd=>[some d]) (λ_=>true) (λd=>D.tup [d,.bl true]) (Wc rfl) (by rw[qj,YI];omega) (λd hd=>⟨rfl,rfl,λ_=>Vq (Zg rfl (Zg rfl rfl)) two_le⟩);rw[VD,qM]at hc2;refine Yb (Zg hc2 rfl) ?_;show(if ((YW n (ZN n jD) p).map ((λd=>D.tup [d,.bl true])∘nD)).length<=xg then (WM [] _).map D.dk else none)=_;rw[if_pos (by rw[qj,YI];omega)];have e:=Zkq (YW n (ZN n jD) p) [] (yZ.sublist zT) λ_ _=>rfl;show(WM [] ((YW n (ZN n jD) p).map λo=>D.tup [nD o,.bl true])).map D.dk=_;rw[e];show some (D.dk (Xi (YW n (ZN n jD) p)))=some (D.dk (Xi (((YW n (ZN n jD) p).map nD).map Z6)));rw[qM];have:(YW n (ZN n jD) p).map (Z6∘nD)=YW n (ZN n jD) p:=qbQ _;rw[this])
 rw[VD,qM]at hc;have e1:(qp n).map ((λd=>match d with | .lst ds=>D.dk (Xi (ds.map Z6)) | _=>.non)∘λp=>D.lst ((YW n (ZN n jD) p).map nD))=(qp n).map λp=>.dk (Xi (YW n (ZN n jD) p)):=by
  refine zD λp _=>?_;show D.dk (Xi (((YW n (ZN n jD) p).map nD).map Z6))=_;rw[qM];have:(YW n (ZN n jD) p).map (Z6∘nD)=YW n (ZN n jD) p:=qbQ _;rw[this]
 rw[e1]at hc;have hb:=ZaU (n:=n) (A:=YW n (ZN n jD)) (ap:=tied (ZN n jD)) Zdr s 26 (qp n) (by rw[zc];omega) (by omega) λp hp=>qO.mp hp;have hlr:Vl (Zd Zm (Za 0) (dC (.int 0))) [some (Zw n jD),some (YR n),some (YY n (YW n (ZN n jD)))] s=some (.lst ((qp n).map nD),s):=by
  unfold Vl Zp;rw[Zq (d:=Zw n jD) (e:=.int 0) rfl rfl Wx];show(if -(2 ^ 62)<=(n:Int)/\(n:Int)<=2 ^ 24 then ZB (D.lst (Z0 0 (n:Int).toNat))else ZE) s=_;rw[if_pos ⟨by omega,by omega⟩,qaL,Uu];rfl
 have hbl:=Zcj (ap:=tied (ZN n jD)) 26 (qp n);have hs:=ZiJ hk.nd hlt (by omega);exact Xl rfl (YK (XT hc) (YA (Y9 (Yb (c:=ZY (YC n jD)) (Zg (Yb (Zg (Z5 (Zg rfl (Zg rfl (Zg hlr rfl))) hb) rfl) hs) rfl) rfl))))
theorem ZiP (n:Nat)(hn:n<=1000):Zhr (.tup [nD 1]) (nD n)=some (YR n):=by
 show(if (n:Int)=1 then some (D.tup [nD 1])else if (n:Int)=0/\[nD 1]≠[]then some (.tup [])else Ja (.tup [nD 1]) (.int (n:Int)))=_;by_cases h1:n=1
 ·subst h1;rw[if_pos (by omega)];rfl
 ·rw[if_neg (by omega)]
  by_cases h0:n=0
  ·subst h0;rw[if_pos ⟨by omega,by simp⟩];rfl
  ·rw[if_neg (by omega)]
   show(if [nD 1]≠[]/\2<=(n:Int)/\(n:Int)<2 ^ 62/\[nD 1].length*(n:Int).toNat<=xg then some (D.tup (qw (n:Int).toNat [nD 1]).flatten)else none)=_;rw[if_pos ⟨by simp,by omega,by omega,by simp only[qaN,qaL,YI];omega⟩,qaL,List.flatten_replicate_singleton]
theorem Zd8 {n:Nat}{jD:Qa}(hw:Yk n jD)(hn:n<=24):(Bl n jD).length=(YC n jD).length:=by
 obtain⟨a1,a2⟩:=Zbd hw hn;obtain⟨b1,b2⟩:=BS hw hn;have:=a2 _ b1;have:=b2 _ a1;omega
theorem Zmh:∀m,Ui m=UQ m
 | 0=>rfl
 | m+1=>by
  show runB 9 3 (Zac (Ui m))=runB 9 3 (gHA (UQ m));rw[Zmh m];rfl
theorem Zn4:Jr=runB 3 2 gHK:=by
 unfold Jr ZaA;rw[Zmh];rfl
theorem ZkD (n:Nat)(jD:Qa)(hn:n<=24)(hl:jD.length<=100000)(s:Pn):WI [Zw n jD] s=some (.tup [nD (YC n jD).length,ZY (YC n jD)],s):=by
 have h:=ZkC n jD hn hl s;rw[<-Zn4]at h;exact Xl rfl (YK (XT (Z5 (Zg rfl (Zg (Zq (Vq (ds:=[nD 1]) (Zg rfl rfl) (by show 1<=xg;decide)) (Zq (d:=Zw n jD) (e:=.int 0) rfl rfl Wx) (ZiP n (by omega))) rfl)) h)) (YA (Y9 (Vq (ds:=[nD (YC n jD).length,ZY (YC n jD)]) (Zg (Yb (Zg rfl rfl) (by show some (D.int _)=_;rw[qj])) (Zg rfl rfl)) two_le))))
theorem B8 {n:Nat}{jD:Qa}(hw:Yk n jD)(hn:n<=24)(s:Pn):WI [Zw n jD] s=some (.tup [nD (om n jD),ZY (YC n jD)],s):=by
 have hl:=hw.len hn;have h:=ZkD n jD hn (by omega) s;rw[<-Zd8 hw hn]at h;exact h
end TQ
namespace K70
open L2 TF TQ TS
open TP
open TP2
open TP3
noncomputable def WO (n:Nat)(st:List Nat):Qa:=(YX n).filter λp=>decide (min (p.2-p.1) (n-p.2+p.1)∈st)
theorem minD (a b:Nat):VP [nD a,nD b]=some (nD (min a b)):=by
 show some (D.int (if (b:Int)<a then (b:Int)else a))=_;rw[TP.min_eq]
theorem Vy {a b:Nat}(h:b<=a):Wt (nD a) (nD b)=some (nD (a-b)):=by show some (D.int _)=some (D.int _);congr 2;omega
theorem Vz (a b:Nat):Yc (nD a) (nD b)=some (nD (a+b)):=by show some (D.int _)=some (D.int _);rw[Int.natCast_add]
theorem ZlT (n:Nat)(st:List Nat)(s:Pn)(hn:n<=1000):Js [nD n,.lst (st.map nD)] s=some (Zw n (WO n st),s):=by
 refine Xl rfl (YA (Y9 ?_));refine Zkx (d:=.lst (Z0 0 n)) (cds:=[nD n,.lst (st.map nD)]) (Zav rfl hn) rfl (by simp only[Yw];exact Zbt _ _) (by simp only[Y6,Yw,ZfU];rfl) ?_ (Zd5 _ _);have:=Zbu (row:=.lst (Z0 0 n)) (ds:=Z0 0 n) (cds:=[nD n,.lst (st.map nD)]) (t:=7) (.inl rfl) (by rw[X3];exact hn) (λp=>decide (min (p.2-p.1) (n-p.2+p.1)∈st)) s (λp hp=>by
  rw[X3]at hp;have hpp:=JO.mp hp;rw[TQ.range_getD (by omega),TQ.range_getD (by omega)];show Zak [nD p.1,nD p.2,nD n,.lst (st.map nD)] s=_;refine ZhF rfl ?_;exact Zq (Yb (Zg (Zq rfl rfl (Vy (by omega))) (Zg (Zq (Zq rfl rfl (Vy (by omega))) rfl (Vz _ _)) rfl)) (minD _ _)) rfl (Zkm _ _))
 rw[X3]at this;exact this
noncomputable def V7 (cs:List (List Nat))(x:Nat):List (List Nat):=cs++cs.map (· ++ [x])
noncomputable def Wm (row:List Nat):List (List Nat):=row.foldl V7 [[]]
noncomputable abbrev Xp (k:List Nat):D:=.lst (k.map nD)
theorem ZkE (r:List Nat)(x:Nat):Wm (r ++ [x])=V7 (Wm r) x:=by unfold Wm;rw[qb7];rfl
theorem ZfX:∀(r:List Nat) (cs:List (List Nat)) (m:Nat),(∀k∈cs,k.length<=m)->(r.foldl V7 cs).length=cs.length*2 ^ r.length/\∀k∈r.foldl V7 cs,k.length<=m+r.length
 | [],cs,m,h=>⟨by simp,by simpa using h⟩
 | x::r,cs,m,h=>by
  obtain⟨h1,h2⟩:=ZfX r (V7 cs x) (m+1) λk hk=>by
   rcases qY.mp hk with z | z
   ·have:=h k z;omega
   ·obtain⟨k',h',rfl⟩:=qE.mp z
    have:=h k' h';rw[qG,qaN];omega
  rw[qae];refine⟨?_,λk hk=>by have:=h2 k hk;rw[qB];omega⟩;rw[h1];unfold V7;rw[qG,qj,qB,qda,qbF (2 ^ r.length) 2,<-Nat.mul_assoc];congr 1;omega
theorem ZlU (r:List Nat):(Wm r).length=2 ^ r.length/\∀k∈Wm r,k.length<=r.length:=by
 obtain⟨h1,h2⟩:=ZfX r [[]] 0 λk hk=>by rw[qH.mp hk];simp
 exact⟨by unfold Wm;rw[h1];simp,λk hk=>by have:=h2 k hk;omega⟩
theorem ZgV {row:List Nat}(hl:row.length<=10)(s:Pn):BI [Xp row] s=some (.lst ((Wm row).map Xp),s):=by
 refine jr (Ok.runB rfl ?_);refine Ok.seq (.sset (.eq (a:=.lst [.lst []]) (Zet (W1 rfl (by decide))) ?_));refine Ok.seq (.sfor (λi ρ s'=>s'=s/\i<=row.length/\∃o2,ρ=[some (Xp row),some (.lst ((Wm (row.take i)).map Xp)),o2]) (.eq (a:=row.map nD) (s':=s) (Wc rfl) ⟨⟨rfl,by omega,none,rfl⟩,λi d ρ s' hd hI=>?_,fun ρ' s' hI=>?_⟩))
 ·obtain⟨rfl,_,o2,rfl⟩:=hI
  rw[qC]at hd;obtain⟨x,hx,rfl⟩:=yj.mp hd;have hi:=(qu.mp hx).1;refine⟨_,rfl,?_⟩;have et:row.take (i+1)=row.take i ++ [x]:=by rw[qcH,hx];rfl
  rw[et,ZkE];obtain⟨h1,h2⟩:=ZlU (row.take i);rw[qV,qbK (by omega)]at h1 h2;have h3:2 ^ i<=2 ^ 10:=qcT (by omega) (by omega);generalize Wm (row.take i)=cs at h1 h2;have hc:=X4 (src:=[none,some 2]) (fi:=Yf (Za 1)) (τ:=ZK 0) (ft:=Ys) (fe:=Zd Yc (Za 0) (YS (Zc (Za 1) Zf))) (ρ:=[some (Xp row),some (.lst (cs.map Xp)),some (nD x)]) (s:=s') (ds:=cs.map Xp) (λd=>[some d,some (nD x)]) (λ_=>true) (λd=>match d with | .lst ds=>.lst (ds ++ [nD x]) | _=>.non) (Wc rfl) (by rw[qj,YI];omega) λd hd=>by
   obtain⟨k,hk,rfl⟩:=qE.mp hd;refine⟨rfl,rfl,λ_=>Zq (e:=.lst [nD x]) rfl (Zet rfl) ?_⟩;show(if (k.map nD).length+1<=xg then some (D.lst (k.map nD ++ [nD x]))else none)=_;rw[if_pos (by have:=h2 k hk;rw[qj,YI];omega)]
  have e0:(cs.map Xp).map (λd=>match d with | .lst ds=>.lst (ds ++ [nD x]) | _=>.non)=(cs.map (· ++ [x])).map Xp:=by
   rw[qM,qM];refine zD λk _=>?_;show D.lst (k.map nD ++ [nD x])=D.lst ((k ++ [x]).map nD);rw[zK];rfl
  rw[VD,e0]at hc;refine Ok.seq (.sset (.eq (Zq (c:=.lst ((V7 cs x).map Xp)) rfl hc ?_) (.next ⟨_,rfl,rfl,by omega,_,rfl⟩)));show(if (cs.map Xp).length+((cs.map (· ++ [x])).map Xp).length<=xg then some (D.lst (_++_))else none)=_;rw[if_pos (by rw[qj,qj,qj,YI];omega)];unfold V7;rw[zK]
 ·obtain⟨rfl,_,o2,rfl⟩:=hI
  rw[qj,yG];exact Ok.seq (.sret (.eq rfl ⟨rfl,rfl⟩))
theorem Zc8 {J:Type}{τ:D->Zb->Option Zb}{body:Zb->M Out}{R:J->Zb}{s:Pn}(XE:D->Bool)(c:D->D):∀(ds:List D) (j:J),
  (∀d∈ds,∀j,∃ρ1,τ d (R j)=some ρ1/\(XE d=true->body ρ1 s=some (.rt (c d),s))/\(XE d=false->∃j',body ρ1 s=some (.nx (R j'),s)))->∀d,ds.find? XE=some d->XW τ body ds (R j) s=some (.rt (c d),s)
 | [],_,_,d,h=>by cases h
 | e::ds,j,h,d,hf=>by
  obtain⟨ρ1,h1,h2,h3⟩:=h e (by simp) j
  cases hg:XE e with
  | true=>
   rw[qbr hg]at hf
   cases hf
   exact Zbf h1 (h2 hg)
  | false=>
   rw[qbs (by simp[hg])]at hf;obtain⟨j',e1⟩:=h3 hg;exact BO h1 e1 (Zc8 XE c ds j' (λd' hd'=>h d' (by simp[hd'])) d hf)
noncomputable def XE (a b n:Nat)(st:List Nat):Bool:=decide (om n (WO n st)<a)&&decide (om n (ZN n (WO n st))<b)
noncomputable def VW (n:Nat):List Nat:=(qp (n / 2)).map (1 + ·)
theorem ZfY (n:Nat)(st:List Nat):Yk n (WO n st):=Yk.filter _
theorem ZgW {a b n:Nat}(hn:n<=20){st:List Nat}(hf:(Wm (VW n)).find? (XE a b n)=some st)(s:Pn):BJ [nD a,nD b,nD n] s=some (Zw n (WO n st),s):=by
 have hrow:Jy (dC (.int 1)) (Zd Yc (Zd Zhb (Za 2) (dC (.int 2))) (dC (.int 1))) [some (nD a),some (nD b),some (nD n),none,none] s=some (Xp (VW n),s):=by
  have e1:Zd Yc (Zd Zhb (Za 2) (dC (.int 2))) (dC (.int 1)) [some (nD a),some (nD b),some (nD n),none,none] s=some (nD (n / 2+1),s):=Zq (d:=nD (n / 2)) (e:=nD 1) (Zq (d:=nD n) (e:=.int 2) rfl rfl rfl) rfl (Vz _ _);rw[Zds (a:=1) rfl e1 (by omega) (by omega),show n / 2+1-1=n / 2 by omega];show some (D.lst _,s)=some (D.lst _,s);unfold Z0 VW;rw[qM];congr 3
 have hch:=ZgV (row:=VW n) (by unfold VW;rw[qj,zc];omega) s;refine Xl rfl (YA (JT (Wc (Z5 (Zg hrow rfl) hch)) ?_));refine Zc8 (J:=Option D×Option D) (R:=λj=>[some (nD a),some (nD b),some (nD n),j.1,j.2]) (λd=>match d with | .lst ds=>XE a b n (ds.map Z6) | _=>false) (λd=>match d with | .lst ds=>Zw n (WO n (ds.map Z6)) | _=>.non) ((Wm (VW n)).map Xp) (none,none) (λd hd j=>?_) (Xp st) ?_ |>.trans ?_
 ·obtain⟨k,hk,rfl⟩:=qE.mp hd
  have e0:(k.map nD).map Z6=k:=by rw[qM];exact qbQ k
  have hw:=ZfY n k;have hl:=hw.len (show n<=24 by omega);refine⟨_,rfl,?_⟩;have step:∀b':Bool,XE a b n k=b'->XV (asB (Zd XR (Zd Zm (Zs WI (Zc (Za 4) Zf)) (dC (.int 0))) (Za 0))) (asB (Zd XR (Zd Zm (Zs WI (Zc (Zs X9 (Zc (Za 4) Zf)) Zf)) (dC (.int 0))) (Za 1))) [some (nD a),some (nD b),some (nD n),some (Xp k),some (Zw n (WO n k))] s=some (b',s):=λb' hb=>by
   rw[<-hb];exact Zcf (Z3 (Zq (Zq (e:=.int 0) (Z5 (Zg rfl rfl) (B8 hw (by omega) s)) rfl (Vt _ _)) rfl (U5 _ _))) λ_=>Z3 (Zq (Zq (e:=.int 0) (Z5 (Zg (Z5 (Zg rfl rfl) (BV n (WO n k) s (by omega) (by omega))) rfl) (B8 (V1 n (WO n k)) (by omega) s)) rfl (Vt _ _)) rfl (U5 _ _))
  have hset:Z1 4 (Zs Js (Zc (Za 2) (Zc (Za 3) Zf))) [some (nD a),some (nD b),some (nD n),some (Xp k),j.2] s=some (.nx [some (nD a),some (nD b),some (nD n),some (Xp k),some (Zw n (WO n k))],s):=XT (Z5 (Zg rfl (Zg rfl rfl)) (ZlT n k s (by omega)));constructor
  ·intro hg
   simp only[e0]at hg;refine YK hset (YA (Jb (step true hg) (YA (Y9 ?_))));simp only[e0];rfl
  ·intro hg
   simp only[e0]at hg;exact⟨(_,_),YK hset (YK (UF (step false hg) rfl) rfl)⟩
 ·have:∀cs:List (List Nat),cs.find? (XE a b n)=some st->(cs.map Xp).find? (λd=>match d with | .lst ds=>XE a b n (ds.map Z6) | _=>false)=some (Xp st):=λcs=>by
   induction cs with
   | nil=>intro h;cases h
   | cons k cs ih=>
    intro h;have e0:(k.map nD).map Z6=k:=by rw[qM];exact qbQ k
    rw[qX]
    cases hg:XE a b n k with
    | true=>
     rw[qbr hg]at h;have hk:k=st:=zp h;rw[hk]at hg e0⊢;rw[qbr];show XE a b n ((st.map nD).map Z6)=true;rw[e0,hg]
    | false=>
     rw[qbs (by simp[hg])]at h;rw[qbs]
     ·exact ih h
     ·show ¬XE a b n ((k.map nD).map Z6)=true
      rw[e0,hg];decide
  exact this _ hf
 ·show some (Out.rt (Zw n (WO n ((st.map nD).map Z6))),s)=_
  rw[qM];have:st.map (Z6∘nD)=st:=qbQ st;rw[this]
theorem ZbM (s:Pn):∀k a b,a+b<=k+1->0<a->0<b->a<=100->b<=100->UR k [nD a,nD b] s=some (nD (en k a b),s)
 | 0,a,b,h,ha,hb,_,_=>by omega
 | k+1,a,b,h,ha,hb,ha1,hb1=>by
  have eqn:∀x y:Nat,YD (nD x) (nD y)=some (.bl (decide (x=y))):=λx y=>by rw[eqi];congr 2;rw[qaG];simp;omega
  show runB 4 2 (Zaf (UR k)) [nD a,nD b] s=_;have ht:Xg (asB (Zd YD (Za 0) (dC (.int 1)))) (asB (Zd YD (Za 1) (dC (.int 1)))) [some (nD a),some (nD b),none,none] s=some (decide (a=1)||decide (b=1),s):=ZmY (Z3 (Zq (e:=nD 1) rfl rfl (eqn a 1))) λ_=>Z3 (Zq (e:=nD 1) rfl rfl (eqn b 1));rw[en];by_cases hc:a=1∨b=1
  ·rw[if_pos hc]
   rw[show(decide (a=1)||decide (b=1))=true by simpa using hc]at ht;exact Xl rfl (YA (Jb ht (YA (Y9 rfl))))
  ·rw[if_neg hc]
   rw[show(decide (a=1)||decide (b=1))=false by rw[qb6];simpa using hc]at ht;have h1:=ZbM s k (a-1) b (by omega) (by omega) hb (by omega) hb1;have h2:=ZbM s k a (b-1) (by omega) ha (by omega) ha1 (by omega);have p1:=V6 k (a-1) b;generalize en k (a-1) b=e1 at h1 p1;generalize en k a (b-1)=e2 at h2;have md:∀x:Nat,Wu (nD x) (.int 2)=some (nD (x % 2)):=λx=>rfl;refine Xl rfl (YK (UF ht rfl) (YK (XT (Z5 (Zg (Zq (e:=nD 1) rfl rfl (Vy ha)) (Zg rfl rfl)) h1)) (YK (XT (Z5 (Zg rfl (Zg (Zq (e:=nD 1) rfl rfl (Vy hb)) rfl)) h2)) ?_)));have ht2:XV (asB (Zd YD (Zd Wu (Za 2) (dC (.int 2))) (dC (.int 0)))) (asB (Zd YD (Zd Wu (Za 3) (dC (.int 2))) (dC (.int 0)))) [some (nD a),some (nD b),some (nD e1),some (nD e2)] s=some (decide (e1 % 2=0)&&decide (e2 % 2=0),s):=Zcf (Z3 (Zq (e:=nD 0) (Zq rfl rfl (md e1)) rfl (eqn _ 0))) λ_=>Z3 (Zq (e:=nD 0) (Zq rfl rfl (md e2)) rfl (eqn _ 0));by_cases hv:e1 % 2=0/\e2 % 2=0
   ·rw[if_pos hv]
    rw[show(decide (e1 % 2=0)&&decide (e2 % 2=0))=true by simpa using hv]at ht2;exact YA (Jb ht2 (YA (Y9 (Zq (e:=nD 1) (Zq rfl rfl (Vz _ _)) rfl (Vy (by omega))))))
   ·rw[if_neg hv]
    rw[show(decide (e1 % 2=0)&&decide (e2 % 2=0))=false by rw[qb6];simpa using hv]at ht2;exact YK (UF ht2 rfl) (YA (Y9 (Zq rfl rfl (Vz _ _))))
theorem ZbN:∀lo,lo<4->∀hi,hi<5->0<lo->lo<=hi->(Wm (VW (en 8 lo hi-1))).any (XE lo hi (en 8 lo hi-1))=true/\en 8 lo hi<=9:=by decide +kernel
theorem gtD (a b:Nat):dGt (nD a) (nD b)=some (.bl (decide (b<a))):=by
 show some (D.bl (decide _))=_;congr 2;exact decide_eq_decide.mpr (by omega)
theorem Zc9 {a b:Nat}(h0:0<a)(hab:a<=b)(ha:a<4)(hb:b<5)(Fs:List D->M D)(s:Pn):∃T,runB 4 2 (ZbK Fs) [nD a,nD b] s=some (.tup [nD (en 8 a b),Zw (en 8 a b-1) T],s)/\Yk (en 8 a b-1) T/\om (en 8 a b-1) T<a/\om (en 8 a b-1) (ZN (en 8 a b-1) T)<b:=by
 obtain⟨h1,h2⟩:=ZbN a ha b hb h0 hab;obtain⟨st,hf⟩:∃st,(Wm (VW (en 8 a b-1))).find? (XE a b (en 8 a b-1))=some st:=by
  cases e:(Wm (VW (en 8 a b-1))).find? (XE a b (en 8 a b-1))with
  | some st=>exact⟨st,rfl⟩
  | none=>
   rw[qbT]at e;obtain⟨x,hx,hg⟩:=qcc.mp h1;exact absurd hg (e x hx)
 have hg:=List.find?_some hf;unfold XE at hg;simp only[zi,decide_eq_true_eq]at hg;refine⟨WO (en 8 a b-1) st,?_,ZfY _ _,hg.1,hg.2⟩;have p:=V6 8 a b;refine Xl rfl (YK (UF (Z3 (Zq rfl rfl ?_)) rfl) (YK (XT (Z5 (Zg rfl (Zg rfl rfl)) (ZbM s 8 a b (by omega) h0 (by omega) (by omega) (by omega)))) (YA (Y9 (Uv rfl (Z5 (Zg rfl (Zg rfl (Zg (Zq (e:=nD 1) rfl rfl (Vy (by omega))) rfl))) (ZgW (by omega) hf s)))))));rw[gtD,decide_eq_false (by omega)]
theorem Zda {n:Nat}{t:Qa}(hw:Yk n t):ZN n (ZN n t)=t:=Zer hw
theorem ZkF {a b:Nat}(h0:0<a)(h1:0<b)(hl:min a b<4)(hh:max a b<5)(s:Pn):∃T,Ur 2 [nD a,nD b] s=some (.tup [nD (en 8 (min a b) (max a b)),Zw (en 8 (min a b) (max a b)-1) T],s)/\Yk (en 8 (min a b) (max a b)-1) T/\om (en 8 (min a b) (max a b)-1) T<a/\om (en 8 (min a b) (max a b)-1) (ZN (en 8 (min a b) (max a b)-1) T)<b:=by
 rcases qdc a b with h | h
 ·rw[qbK h,qaU h]at *
  exact Zc9 h0 h hl hh _ s
 ·by_cases e:a=b
  ·subst e
   rw[Nat.min_self,Nat.max_self]at *;exact Zc9 h0 (qm _) hl hh _ s
  ·rw[qck h,qbJ h]at *
   obtain⟨T,h2,h3,h4,h5⟩:=Zc9 h1 h hl hh (Ur 0) s;have hm:=(ZbN b hl a hh h1 h).2;have htl:=h3.len (by omega);refine⟨ZN (en 8 b a-1) T,?_,V1 _ _,h5,by rw[Zda h3];exact h4⟩;refine Xl rfl (YA (Jb (Z3 (Zq rfl rfl ?_)) (YK (XT (Z5 (Zg rfl (Zg rfl rfl)) h2)) (YA (Y9 (Uv (Zq (e:=.int 0) rfl rfl (Vt _ _)) (Z5 (Zg (Zq (e:=.int 1) rfl rfl (W7 _ _ _)) rfl) (BV _ T s (by omega) (by omega)))))))));rw[gtD,decide_eq_true (by omega)]
theorem ZhI {n:Nat}{t:Qa}(hn:n<=24)(s:Pn):UT [Zw n t] s=some (Zw n (ZN n t),s):=by
 let f:Nat->Qa:=λa=>((qp (n-(a+1))).map λk=>(a,a+1+k)).filter λp=>!decide (p∈t)
 have eT:(qp n).flatMap f=ZN n t:=by
  unfold ZN YX Xf;rw[qc5]
 have jM:((qp n).flatMap f).length<=576:=by rw[eT];exact(V1 n t).len hn
 obtain⟨j,e⟩:=Zc5 (J:=Option D×Option D) (τ:=ZK 2) (body:=(Zh (Y2 (Ut (Zd Yc (Za 2) (dC (.int 1))) (Zd Zm (Za 0) (dC (.int 0)))) (ZK 3)
 (Zh (Z9 (Xn (asB (Zs Vi (Zc (Za 0) (Zc (Za 2) (Zc (Za 3) Zf))))))
 (Zh (VR 1 (fun ρ=>(Yg (Zc (Za 2) (Zc (Za 3) Zf))) (Yu [1] ρ)))
 Zn)
 Zn)
 Zn))
 Zn)) (R:=λj jH=>[some (Zw n t),some (.lst jH),j.1,j.2]) (s:=s) (N:=576) (λd=>(f (Z6 d)).map Zv) ((qp n).map nD) (none,none) [] (by rw[Zmf,qj];simpa using jM) λd hd j jH hacc=>by
  obtain⟨a,ha,rfl⟩:=qE.mp hd;have ha:=qO.mp ha;rw[qj]at hacc
  let h:Nat->Qa:=λk=>[(a,a+1+k)].filter λp=>!decide (p∈t)
  have eh:(qp (n-(a+1))).flatMap h=f a:=by
   show _=((qp (n-(a+1))).map λk=>(a,a+1+k)).filter _;rw[<-List.flatMap_singleton' (l:=(qp (n-(a+1))).map λk=>(a,a+1+k)),qc5,qby]
  obtain⟨j',e'⟩:=Zc5 (J:=Option D) (τ:=ZK 3) (body:=(Zh (Z9 (Xn (asB (Zs Vi (Zc (Za 0) (Zc (Za 2) (Zc (Za 3) Zf))))))
 (Zh (VR 1 (fun ρ=>(Yg (Zc (Za 2) (Zc (Za 3) Zf))) (Yu [1] ρ)))
 Zn)
 Zn)
 Zn)) (R:=λj jH=>[some (Zw n t),some (.lst jH),some (nD a),j]) (s:=s) (N:=576) (λd=>(h (Z6 d-(a+1))).map Zv) (Z0 ((a+1:Nat):Int) (n-(a+1))) j.2 jH (by
   have e2:(Z0 ((a+1:Nat):Int) (n-(a+1))).flatMap (λd=>(h (Z6 d-(a+1))).map Zv)=(f a).map Zv:=by
    unfold Z0;rw[qby,<-eh,qcj];congr 1;funext k;have:Z6 (D.int (((a+1:Nat):Int)+(k:Int)))-(a+1)=k:=by
     show(((a+1:Nat):Int)+(k:Int)).toNat-(a+1)=k;omega
    rw[this]
   rw[e2,qj];exact hacc) λd hd j jH hacc=>by
    obtain⟨k,hk,rfl⟩:=qE.mp hd;have hk:=qO.mp hk;have e3:D.int (((a+1:Nat):Int)+(k:Int))=nD (a+1+k):=by
     show D.int _=D.int _;congr 1
    rw[e3]at hacc⊢;have e4:Z6 (nD (a+1+k))-(a+1)=k:=by show(((a+1+k:Nat):Int)).toNat-(a+1)=k;omega
    rw[e4]at hacc⊢;refine⟨_,rfl,some (nD (a+1+k)),?_⟩;have ht:Xn (asB (Zs Vi (Zc (Za 0) (Zc (Za 2) (Zc (Za 3) Zf))))) [some (Zw n t),some (.lst jH),some (nD a),some (nD (a+1+k))] s=some (!decide ((a,a+1+k)∈t),s):=by
     rw[<-JS (show a<a+1+k by omega)];exact Wo (Z3 (Z5 (Zg rfl (Zg rfl (Zg rfl rfl))) (ZbS n t a (a+1+k) s)))
    by_cases hm:(a,a+1+k)∈t
    ·rw[decide_eq_true hm]at ht
     have:h k=[]:=by show [(a,a+1+k)].filter _=[];rw[yW (by simp[hm])];rfl
     rw[this,qbC,zq];exact YK (UF ht rfl) rfl
    ·rw[decide_eq_false hm]at ht
     have:h k=[(a,a+1+k)]:=by show [(a,a+1+k)].filter _=_;rw[qaz (by simp[hm])];rfl
     rw[this]at hacc⊢;refine jr (Ok.seq (.sif (.eq ht ?_)));rw[if_pos (by decide)];exact .seq (.sapp (ds:=jH) rfl (by simp at hacc;rw[YI];omega) (.eq (a:=Zv (a,a+1+k)) (Uv rfl rfl) (.next (.next ⟨rfl,rfl⟩))))
  refine⟨_,rfl,(some (nD a),j'),YK (JT (Zbz (a:=a+1) (n:=n) (Zq (e:=nD 1) rfl rfl (Vz _ _)) (Zq (d:=Zw n t) (e:=.int 0) rfl rfl Wx) (by omega) (by omega)) ?_) rfl⟩;have e2:(Z0 ((a+1:Nat):Int) (n-(a+1))).flatMap (λd=>(h (Z6 d-(a+1))).map Zv)=(f a).map Zv:=by
   unfold Z0;rw[qby,<-eh,qcj];congr 1;funext k;have:Z6 (D.int (((a+1:Nat):Int)+(k:Int)))-(a+1)=k:=by
    show(((a+1:Nat):Int)+(k:Int)).toNat-(a+1)=k;omega
   rw[this]
  rw[e2]at e';exact e'
 rw[Zmf,eT,qaf]at e;refine jr (Ok.runB rfl ?_);refine Ok.seq (.sown (.eq (a:=.lst []) (W1 rfl (by decide)) ⟨rfl,?_⟩));have hf:Xk (Zd Zm (Za 0) (dC (.int 0))) [some (Zw n t),some (.lst []),none,none] s=some ((qp n).map nD,s):=by
  rw[<-Uu];exact WY (Zq (d:=Zw n t) (e:=.int 0) rfl rfl Wx) (by omega)
 refine Ok.seq (.eq (JT hf e) ?_);exact Ok.seq (.sret (.eq (a:=Zw n (ZN n t)) (Uv (Zq (d:=Zw n t) (e:=.int 0) rfl rfl Wx) (Yb (Zg rfl rfl) rfl)) ⟨rfl,rfl⟩))
theorem ZgX {n:Nat}{jD:Qa}(hw:Yk n jD)(hn:n<=24){f:Zb->M D}{ρ:Zb}{s:Pn}(h:f ρ s=some (Zw n jD,s)):BU (Zd Zm f (dC (.int 1))) ρ s=some (.lst (jD.map Zv),s):=by
 have e:Zd Zm f (dC (.int 1)) ρ s=some (.tup (jD.map Zv),s):=Zq (d:=Zw n jD) (e:=.int 1) h rfl Bu;unfold BU Zp;rw[e];have hl:jD.length<=276:=by
  have h1:=qdd.length_le hw;have h2:∀k:Nat,k<=24->(YX k).length<=276:=by decide +kernel
  exact zj h1 (h2 n hn)
 exact ZiO hw (λp=>.rfl) (by omega) s
theorem Zd9 (F:Qa):Zo (.lst (F.map Zv))=true/\Z4 (.lst (F.map Zv))<=60:=by
 have h1:=Za6 F;refine⟨?_,by simp only[Z4];omega⟩;simp only[Zo];exact Zc3 λd hd=>by
  obtain⟨p,_,rfl⟩:=qE.mp hd;rfl
theorem X2 (a:Nat):XC (nD a) (nD a)=some (.bl false):=by rw[ZgQ];simp
theorem Zns {n:Nat}{t:Qa}(hw:Yk n t)(hn:n<=24)(s:Pn):Ju [Zw n t] s=some (.bl true,s):=by
 refine jr (Ok.runB rfl ?_);refine Ok.seq (.sif (.eq (a:=false) (Wr (Wo (b:=true) (Z3 (Yb (Zg rfl (Zg rfl rfl)) rfl))) (Wr (Z3 (Zq (d:=nD 2) (e:=nD 2) (Yb (Zg rfl rfl) rfl) rfl (X2 2))) (Wo (b:=true) (Z3 (Yb (Zg (Zq (d:=Zw n t) (e:=.int 1) rfl rfl Bu) (Zg rfl rfl)) rfl))))) (.next ?_)));refine Ok.seq (.sif (.eq (a:=false) (Wr (Wo (b:=true) (Z3 (Yb (Zg (Zq (d:=Zw n t) (e:=.int 0) rfl rfl Wx) (Zg rfl rfl)) rfl))) (Z3 (Yb (Zg (Zq (d:=Zw n t) (e:=.int 0) rfl rfl Wx) (Zg rfl rfl)) rfl))) (.next ?_)));refine Ok.seq (.sfor (λi ρ s'=>s'=s/\∃o1,ρ=[some (Zw n t),o1]) (.eq (a:=t.map Zv) (s':=s) (Zcg (Zq (d:=Zw n t) (e:=.int 1) rfl rfl Bu)) ⟨⟨rfl,none,rfl⟩,λi d ρ s' hd hI=>?_,fun ρ' s' hI=>?_⟩))
 ·obtain⟨rfl,o1,rfl⟩:=hI
  rw[qC]at hd;obtain⟨p,hp,rfl⟩:=yj.mp hd;have hpp:=hw.mem (zu hp);refine⟨_,rfl,?_⟩;have e0:∀{ρ:Zb},ρ=[some (Zw n t),some (Zv p)]->Zd Zm (Za 1) (dC (.int 0)) ρ s'=some (nD p.1,s'):=λe=>by rw[e];exact Zq (d:=Zv p) (e:=.int 0) rfl rfl (Vt _ _)
  have e1:∀{ρ:Zb},ρ=[some (Zw n t),some (Zv p)]->Zd Zm (Za 1) (dC (.int 1)) ρ s'=some (nD p.2,s'):=λe=>by rw[e];exact Zq (d:=Zv p) (e:=.int 1) rfl rfl (W7 _ _ _)
  refine Ok.seq (.sif (.eq (a:=false) (Wr (Wo (b:=true) (Z3 (Yb (Zg rfl (Zg rfl rfl)) rfl))) (Z3 (Zq (d:=nD 2) (e:=nD 2) (Yb (Zg rfl rfl) rfl) rfl (X2 2)))) (.next ?_)));refine Ok.seq (.sif (.eq (a:=false) (Wr (Wo (b:=true) (Z3 (Yb (Zg (e0 rfl) (Zg rfl rfl)) rfl))) (Wo (b:=true) (Z3 (Yb (Zg (e1 rfl) (Zg rfl rfl)) rfl)))) (.next ?_)));refine Ok.seq (.sif (.eq (a:=false) (Wr (Z3 (Yb (Zg (e0 rfl) (Zg rfl rfl)) rfl)) (Z3 (Yb (Zg (e1 rfl) (Zg rfl rfl)) rfl))) (.next ?_)));have c1:Jn (.int 0) (nD p.1)=some (.bl true):=by show some (D.bl (decide _))=_;rw[decide_eq_true (by omega)]
  have c2:XR (nD p.1) (nD p.2)=some (.bl true):=by rw[U5,decide_eq_true hpp.1]
  have c3:XR (nD p.2) (nD n)=some (.bl true):=by rw[U5,decide_eq_true hpp.2]
  refine Ok.seq (.sif (.eq (a:=false) (Wo (b:=true) (Zii rfl (Zfj (k:=true) (b:=true) (e0 rfl) c1 λ_=>Zfj (k:=true) (b:=true) (e1 rfl) c2 λ_=>ZjE (Zq (d:=Zw n t) (e:=.int 0) rfl rfl Wx) c3))) (.next ?_)));exact .next ⟨_,rfl,rfl,_,rfl⟩
 ·obtain⟨rfl,o1,rfl⟩:=hI
  exact Ok.seq (.sret (.eq (a:=.bl true) (Zq (d:=.lst (t.map Zv)) (e:=.lst (t.map Zv)) (Yb (Zg (Zq (d:=Zw n t) (e:=.int 1) rfl rfl Bu) rfl) rfl) (ZgX hw hn rfl) (ZlM (Zd9 t).1 (Zd9 t).2)) ⟨rfl,rfl⟩))
theorem ZkG {n:Nat}(hn:n<=24){s:Pn}(ok:Ww s):Ok (Jw [.pen,nD n]) s λd s'=>Ww s'/\∃t,d=Zw n t/\Yk n t:=by
 refine Ok.runB rfl ?_;refine Ok.seq (.sown (.eq (a:=.lst []) (W1 rfl (by decide)) ⟨rfl,?_⟩));refine Ok.seq (.sset (.op (.eq (a:=.int 1) rfl (.draw (m:=3) ok (Zg rfl (Zg rfl rfl)) (by omega) (by omega) λr s1 hr ok1=>⟨nD (1+r),by show some (D.int _)=some (D.int _);rw[Int.natCast_add];rfl,?_⟩))));refine Ok.seq (.sset (.comp (ds:=Z0 0 n) (λc=>∃k:Int,c=.int k) Ww (WY rfl (by omega)) (Zep (by omega)) ok1 (λd hd s ok=>⟨_,rfl,.draw (m:=2) ok (Zg rfl (Zg rfl rfl)) (by omega) (by omega) λr s' _ ok'=>⟨⟨_,rfl⟩,ok'⟩⟩) λsomes s2 hl hs ok2=>?_));rw[X3]at hl;refine Ok.seq (.sset (.draw (m:=2) ok2 (Zg rfl (Zg rfl rfl)) (by omega) (by omega) λVX s3 hway ok3=>?_));refine Ok.seq (.sfor (λi ρ s'=>Ww s'/\∃(jD:Qa) (o6 o7 o8:Option D),jD.Sublist (Xf n i)/\ρ=[some .pen,some (nD n),some (.lst (jD.map Zv)),some (nD (1+r)),some (.lst somes),some (nD VX),o6,o7,o8]) (.eq (WY rfl (by omega)) ⟨⟨ok3,[],none,none,none,List.nil_sublist _,rfl⟩,λi d ρ s' hd hI=>?_,fun ρ' s' hI=>?_⟩))
 ·obtain⟨ok4,jD,o6,o7,o8,hsub,rfl⟩:=hI
  obtain⟨hi,rfl⟩:=Jx hd;refine⟨_,rfl,?_⟩;refine Ok.seq (.sfor (λj ρ s'=>Ww s'/\∃(jD:Qa) (o7 o8:Option D),jD.Sublist (Xf n i++(qp j).map λk=>(i,i+1+k))/\ρ=[some .pen,some (nD n),some (.lst (jD.map Zv)),some (nD (1+r)),some (.lst somes),some (nD VX),some (nD i),o7,o8]) (.eq (Zbz (a:=i+1) (n:=n) (Zq (e:=nD 1) rfl rfl (Vz _ _)) rfl (by omega) (by omega)) ⟨⟨ok4,jD,o7,o8,by simpa using hsub,rfl⟩,λj d ρ s' hd hJ=>?_,fun ρ' s' hJ=>?_⟩))
  ·obtain⟨ok5,jD,o7,o8,hsub,rfl⟩:=hJ
   obtain⟨hj,rfl⟩:=BT hd;refine⟨_,rfl,?_⟩;refine Ok.seq (.sset (.eq (a:=nD (min (i+1+j-i) (n-(i+1+j)+i))) (Yb (Zg (Zq rfl rfl (Vy (by omega))) (Zg (Zq (Zq rfl rfl (Vy (by omega))) rfl (Vz _ _)) rfl)) (minD _ _)) ?_));have hst:min (i+1+j-i) (n-(i+1+j)+i)<somes.length:=by omega
   generalize min (i+1+j-i) (n-(i+1+j)+i)=st at hst;obtain⟨k,hk⟩:=hs somes[st] (qbx hst);have hix:Zm (.lst somes) (nD st)=some (.int k):=by rw[<-hk];exact W0 (qD hst)
   refine Ok.seq (.sif (.asB (.op (.lst (.cons (.op (.draw (m:=4) ok5 (Zg rfl (Zg rfl rfl)) (by omega) (by omega) λv s6 hv ok6=>.eq (a:=nD (1+r)) rfl ⟨_,rfl,.cons (.eq (Zq (e:=.int 1) (Zq rfl rfl hix) rfl (eqi _ _)) (.nil ⟨two_le,.eq (a:=nD VX) rfl ?_⟩))⟩)))))));obtain⟨b,hb⟩:∃b,Zm (.lst [.bl (decide ((v:Int)<((1+r:Nat):Int))),.bl (k==1)]) (nD VX)=some (.bl b):=by
    have:VX=0∨VX=1:=by omega
    rcases this with rfl | rfl
    ·exact⟨_,Vt _ _⟩
    ·exact⟨_,W7 _ _ _⟩
   refine⟨_,hb,_,rfl,?_⟩
   cases b with
   | true=>
    rw[if_pos rfl];refine .seq (.sapp (ds:=jD.map Zv) rfl (Zli hsub (by omega) hi (by omega)) (.eq (a:=Zv (i,i+1+j)) (Uv rfl rfl) ?_));refine .next (.next ⟨_,rfl,ok6,jD ++ [(i,i+1+j)],some (nD (i+1+j)),some (nD st),?_,?_⟩)
    rotate_left
    ·rw[zK];rfl
    ·rw[qbG,zK,<-qK]
     exact qdd.append hsub (qdd.refl _)
   | false=>
    rw[if_neg (by decide)];refine .next (.next ⟨_,rfl,ok6,jD,_,_,?_,rfl⟩);rw[qbG,zK,<-qK];exact hsub.trans (List.sublist_append_left _ _)
  ·obtain⟨ok5,jD,o7',o8',hsub,rfl⟩:=hJ
   refine Ok.next ⟨_,rfl,ok5,jD,_,_,_,?_,rfl⟩;rw[JI]
   rwa[X3]at hsub
 ·obtain⟨ok4,jD,o6,o7,o8,hsub,rfl⟩:=hI
  rw[X3]at hsub;exact Ok.seq (.sret (.eq (a:=Zw n jD) (Uv rfl (Yb (Zg rfl rfl) rfl)) ⟨ok4,jD,rfl,hsub⟩))
theorem Znt:∀lo,lo<4->∀hi,hi<5->0<lo->lo<=hi->en 8 lo hi=[1,hi,6+3*(decide (hi=4)).toNat].getD (lo-1) 0:=by decide +kernel
theorem maxD (a b:Nat):UE [nD a,nD b]=some (nD (max a b)):=by
 show some (D.int (if (b:Int) > a then (b:Int)else a))=_;rw[TP.max_eq]
theorem unl {n:Nat}{t:Qa}(hw:Yk n t)(hn:n<=24):Xu (Xd (YC n t))=om n t:=by
 rw[ZfS (Zc2 (Ux.mp (BS hw hn).1).1)];exact(Zd8 hw hn).symm
theorem ZkH (ns:List Int)(h:ns.length<=63):∃s',Zki (none::some .pen::qw 11 none) ([0,0],ns)=some (.rt (.bl true),s'):=by
 have ok0:Ww ([0,0],ns):=⟨0,0,rfl,by omega,by omega⟩;suffices hh:Ok (Zki (none::some .pen::qw 11 none)) ([0,0],ns) λo s'=>o=.rt (.bl true) by
  obtain⟨o,s',e,rfl⟩:=hh;exact⟨s',e⟩
 refine Ok.seq (.sfor (λi ρ s'=>Ww s'/\∃o2 o3 o4 o5 o6 o7 o8 o9 o10 o11 o12,ρ=[none,some .pen,o2,o3,o4,o5,o6,o7,o8,o9,o10,o11,o12]) (.eq (WY (n:=4) rfl (by omega)) ⟨⟨ok0,none,none,none,none,none,none,none,none,none,none,none,rfl⟩,λi d ρ s' hd hI=>?_,fun ρ' s' hI=>?_⟩))
 ·obtain⟨ok1,o2,o3,o4,o5,o6,o7,o8,o9,o10,o11,o12,rfl⟩:=hI
  obtain⟨hi,rfl⟩:=Jx hd;refine⟨_,rfl,?_⟩;have one:∀r:Nat,Yc (.int 1) (.int (r:Int))=some (nD (1+r)):=λr=>Vz 1 r;refine Ok.seq (.spar (.cons (.op (.eq (a:=.int 1) rfl (.draw (m:=4) ok1 (Zg rfl (Zg rfl rfl)) (by omega) (by omega) λr1 s2 hr1 ok2=>⟨_,one r1,.cons (.op (.eq (a:=.int 1) rfl (.draw (m:=3) ok2 (Zg rfl (Zg rfl rfl)) (by omega) (by omega) λr2 s3 hr2 ok3=>⟨_,one r2,.nil ⟨_,_,rfl,rfl,rfl,?_⟩⟩)))⟩)))));have hswap:Ok (Z9 (asB (Zd YD (Zs Xm (Zc (Za 1) (Zc (dC (.int 2)) Zf))) (dC (.int 0)))) (Zh (Ji 3 4 (Zc (Za 4) (Zc (Za 3) Zf))) Zn) Zn [none,some .pen,some (nD i),some (nD (1+r1)),some (nD (1+r2)),o5,o6,o7,o8,o9,o10,o11,o12]) s3 λo s4=>Ww s4/\∃a b:Nat,0<a/\0<b/\min a b<4/\max a b<5/\o=.nx [none,some .pen,some (nD i),some (nD a),some (nD b),o5,o6,o7,o8,o9,o10,o11,o12]:=by
   refine .sif (.asB (.op (.draw (m:=2) ok3 (Zg rfl (Zg rfl rfl)) (by omega) (by omega) λv s4 hv ok4=>.eq (a:=.int 0) rfl ⟨_,eqi _ _,_,rfl,?_⟩)))
   cases (v:Int)==0 with
   | true=>exact .seq (.spar (.eq (a:=[nD (1+r2),nD (1+r1)]) rfl ⟨_,_,rfl,rfl,rfl,.next ⟨ok4,1+r2,1+r1,by omega,by omega,by omega,by omega,rfl⟩⟩))
   | false=>exact .next ⟨ok4,1+r1,1+r2,by omega,by omega,by omega,by omega,rfl⟩
  refine Ok.seq (hswap.mono λo s4 q=>?_);obtain⟨ok4,a,b,ha,hb,hlo,hhi,rfl⟩:=q;clear hswap;refine Ok.seq (.spar (.eq (a:=[nD (min a b),nD (max a b)]) (Zg (Yb (Zg rfl (Zg rfl rfl)) (minD a b)) (Zg (Yb (Zg rfl (Zg rfl rfl)) (maxD a b)) rfl)) ⟨_,_,rfl,rfl,rfl,?_⟩));have hm:=(ZbN (min a b) hlo (max a b) hhi (by omega) (by omega)).2;have hp:=V6 8 (min a b) (max a b);have hdue:=Znt (min a b) hlo (max a b) hhi (by omega) (by omega);obtain⟨T,f1,f2,f3,f4⟩:=ZkF ha hb hlo hhi s4;have hram:∀n t,Yk n t->n<=24->en 8 (min a b) (max a b)<=n->a<=om n t∨b<=om n (ZN n t):=λn t hw hn hle=>by
   rcases qdc a b with z | z
   ·rw[qbK z,qaU z]at hle
    rw[qbK z]at hlo;rw[qaU z]at hhi;exact Zky hw hn (by omega) ha hb hle
   ·rw[qck z,qbJ z]at hle
    rw[qck z]at hlo;rw[qbJ z]at hhi;have:=Zky (V1 n t) hn (by omega) hb ha hle;rw[Zda hw]at this;exact this.symm
  generalize en 8 (min a b) (max a b)=mm at *;have hint:∀x:Nat,Zd Yc (dC (.int 6)) (Zd WQ (dC (.int 3)) (ZJ Zhd (Zc (Zd YD (Za 6) (dC (.int 4))) Zf))) [none,some .pen,some (nD i),some (nD a),some (nD b),some (nD (min a b)),some (nD x),o7,o8,o9,o10,o11,o12] s4=some (nD (6+3*(decide (x=4)).toNat),s4):=λx=>by
   have e1:YD (nD x) (.int 4)=some (.bl (decide (x=4))):=by rw[eqi];congr 2;rw[qaG];simp;omega
   have e2:Zhd [.bl (decide (x=4))]=some (nD (decide (x=4)).toNat):=by cases decide (x=4) <;> rfl
   have e3:WQ (.int 3) (nD (decide (x=4)).toNat)=some (nD (3*(decide (x=4)).toNat)):=by cases decide (x=4) <;> rfl
   exact Zq (d:=nD 6) rfl (Zq (d:=.int 3) rfl (Yb (Zg (Zq (e:=.int 4) rfl rfl e1) rfl) e2) e3) (Vz _ _)
  have hix:Zm (.lst [nD 1,nD (max a b),nD (6+3*(decide (max a b=4)).toNat)]) (nD (min a b-1))=some (nD mm):=by
   rw[hdue];refine W0 ?_;have:min a b=1∨min a b=2∨min a b=3:=by omega
   rcases this with z | z | z <;> rw[z] <;> rfl
  refine Ok.seq (.sset (.eq (Zq (W1 (ds:=[nD 1,nD (max a b),nD (6+3*(decide (max a b=4)).toNat)]) (Zg rfl (Zg rfl (Zg (hint _) rfl))) (by show 3<=xg;decide)) (Zq (e:=nD 1) rfl rfl (Vy (by omega))) hix) ?_));refine Ok.seq (.sset (.eq (Z5 (Zg rfl (Zg rfl rfl)) f1) ?_));have g0:Zm (.tup [nD mm,Zw (mm-1) T]) (.int 0)=some (nD mm):=Vt _ _;refine Ok.seq (.sif (.eq (a:=false) (Wr (Wo (b:=true) (Z3 (Yb (Zg rfl (Zg rfl rfl)) rfl))) (Wr (Z3 (Zq (d:=nD 2) (e:=nD 2) (Yb (Zg rfl rfl) rfl) rfl (X2 2))) (Z3 (Yb (c:=.bl false) (Zg (Zq (e:=.int 0) rfl rfl g0) (Zg rfl rfl)) rfl)))) (.next ?_)));refine Ok.seq (.sunp (.eq (a:=.tup [nD mm,Zw (mm-1) T]) rfl ⟨_,rfl,?_⟩));refine Ok.seq (.sif (.eq (a:=false) (Wr (Z3 (Zq rfl rfl (X2 mm))) (Wr (Wo (b:=true) (Z3 (Z5 (Zg rfl rfl) (Zns f2 (by omega) s4)))) (Z3 (Zq (d:=nD (mm-1)) (e:=nD (mm-1)) (Zq (d:=Zw (mm-1) T) (e:=.int 0) rfl rfl Wx) (Zq (e:=nD 1) rfl rfl (Vy (by omega))) (X2 _))))) (.next ?_)));have hge:∀x y:Nat,x<y->Wz (nD x) (nD y)=some (.bl false):=λx y hxy=>by
   show some (D.bl (decide _))=_;rw[decide_eq_false (by omega)]
  have hmost:∀t,Yk (mm-1) t->∀(ρ:Zb) (g:Zb->M D),g ρ s4=some (Zw (mm-1) t,s4)->Zs Um (Zc g Zf) ρ s4=some (nD (om (mm-1) t),s4):=λt hw ρ g hg=>by
   have hks:=Zko (jD:=t) (show mm-1<=10 by omega);have htl:=hw.len (show mm-1<=24 by omega);have:=ZfQ (mm-1) t (by omega) (by omega) (by omega) s4;rw[ZlP hw (by omega)]at this;exact Z5 (Zg hg rfl) this
  refine Ok.seq (.sif (.eq (a:=false) (Wr (Z3 (Zq (hmost T f2 _ _ rfl) rfl (hge _ _ f3))) (Z3 (Zq (hmost _ (V1 _ T) _ _ (Z5 (Zg rfl rfl) (ZhI (by omega) s4))) rfl (hge _ _ f4)))) (.next ?_)));refine Ok.seq (.sfor (λj ρ s'=>Ww s'/\∃o8 o11 o12,ρ=[none,some .pen,some (nD i),some (nD a),some (nD b),some (nD (min a b)),some (nD (max a b)),some (nD mm),o8,some (nD mm),some (Zw (mm-1) T),o11,o12]) (.eq (WY (n:=3) rfl (by omega)) ⟨⟨ok4,_,_,_,rfl⟩,λj d ρ s' hd hI=>?_,fun ρ' s' hI=>?_⟩))
  ·obtain⟨ok5,o8,o11,o12,rfl⟩:=hI
   obtain⟨hj,rfl⟩:=Jx hd;refine⟨_,rfl,?_⟩;refine Ok.seq (.sset (.fn' (.cons (.eq (a:=.pen) rfl (.cons (.op (.eq (a:=nD mm) rfl (.draw (m:=3) ok5 (Zg rfl (Zg rfl rfl)) (by omega) (by omega) λr s6 hr ok6=>⟨_,Vz mm r,.nil ((ZkG (n:=mm+r) (by omega) ok6).mono λd s7 q=>?_)⟩))))))));obtain⟨ok7,t,rfl,hw⟩:=q;have hn:mm+r<=24:=by omega
   generalize hnn':mm+r=n at *;have htl:=hw.len hn;have hwt:=V1 n t;refine Ok.seq (.sset (.eq (a:=.lst [ZY (YC n t),ZY (YC n (ZN n t))]) (Zlp (Zq (e:=.int 1) (Z5 (Zg rfl rfl) (B8 hw hn s7)) rfl (W7 _ _ _)) (Zq (e:=.int 1) (Z5 (Zg (Z5 (Zg rfl rfl) (BV n t s7 (by omega) (by omega))) rfl) (B8 hwt hn s7)) rfl (W7 _ _ _))) ?_));have i0:Zm (.lst [ZY (YC n t),ZY (YC n (ZN n t))]) (.int 0)=some (ZY (YC n t)):=Vt _ _;have i1:Zm (.lst [ZY (YC n t),ZY (YC n (ZN n t))]) (.int 1)=some (ZY (YC n (ZN n t))):=W7 _ _ _;have l0:(YC n t).length<=n:=Zc7;have l1:(YC n (ZN n t)).length<=n:=Zc7;refine Ok.seq (.sif (.eq (a:=false) (Wr (Wo (b:=true) (Z3 (Z5 (Zg rfl (Zg (Zq (e:=.int 0) rfl rfl i0) rfl)) (ZaT n t (ZfR (BS hw hn).1) (by omega) s7)))) (Wo (b:=true) (Z3 (Z5 (Zg (Z5 (Zg rfl rfl) (ZhI hn s7)) (Zg (Zq (e:=.int 1) rfl rfl i1) rfl)) (ZaT n (ZN n t) (ZfR (BS hwt hn).1) (by omega) s7))))) (.next ?_)));have hfin:(decide (om n t<a)&&decide (om n (ZN n t)<b))=false:=by
    rcases hram n t hw hn (by omega)with z | z
    ·rw[decide_eq_false (by omega)];rfl
    ·rw[decide_eq_false (show ¬om n (ZN n t)<b by omega),Bool.and_false]
   have hbb:XV (asB (Zd XR (Uw (Zd Zm (Za 8) (dC (.int 0)))) (Za 3))) (asB (Zd XR (Uw (Zd Zm (Za 8) (dC (.int 1)))) (Za 4))) [none,some .pen,some (nD i),some (nD a),some (nD b),some (nD (min a b)),some (nD (max a b)),some (nD mm),some (.lst [ZY (YC n t),ZY (YC n (ZN n t))]),some (nD mm),some (Zw (mm-1) T),some (nD j),some (Zw n t)] s7=some (decide (om n t<a)&&decide (om n (ZN n t)<b),s7):=by
    have e0:=Zd2 (f:=Zd Zm (Za 8) (dC (.int 0))) (ρ:=[none,some .pen,some (nD i),some (nD a),some (nD b),some (nD (min a b)),some (nD (max a b)),some (nD mm),some (.lst [ZY (YC n t),ZY (YC n (ZN n t))]),some (nD mm),some (Zw (mm-1) T),some (nD j),some (Zw n t)]) (s:=s7) (Zq (e:=.int 0) rfl rfl i0) (by omega);have e1:=Zd2 (f:=Zd Zm (Za 8) (dC (.int 1))) (ρ:=[none,some .pen,some (nD i),some (nD a),some (nD b),some (nD (min a b)),some (nD (max a b)),some (nD mm),some (.lst [ZY (YC n t),ZY (YC n (ZN n t))]),some (nD mm),some (Zw (mm-1) T),some (nD j),some (Zw n t)]) (s:=s7) (Zq (e:=.int 1) rfl rfl i1) (by omega);rw[unl hw hn]at e0;rw[unl hwt hn]at e1;exact Zcf (Z3 (Zq e0 rfl (U5 _ _))) λ_=>Z3 (Zq e1 rfl (U5 _ _))
   rw[hfin]at hbb;exact Ok.seq (.sif (.eq hbb (.next (.next ⟨_,rfl,ok7,_,_,_,rfl⟩))))
  ·obtain⟨ok5,o8,o11,o12,rfl⟩:=hI
   exact .next ⟨_,rfl,ok5,_,_,_,_,_,_,_,_,_,_,_,rfl⟩
 ·obtain⟨ok1,o2,o3,o4,o5,o6,o7,o8,o9,o10,o11,o12,rfl⟩:=hI
  exact Ok.seq (.sret (.eq (a:=.bl true) rfl rfl))
end K70
namespace K70
open L2 TF TQ
open TP
open TP2
open TP3
theorem Znu {P:xz}{w:World}{K:qk}{mg:Str->Option Value}{base:Heap}{j6:Addr}{jK:xy}{L:List (Addr×Str)}(lo:WA L)(F:Fun K "law" "law" s_law j6 jK)(T:Txt mg)(j9:ZL P w K mg base 2 "_law_away" 1 true ZZ UT)(kb:ZL P w K mg base 3 "_law_drawn" 2 true (Wi (WS K) L) Jw)(jS:ZL P w K mg base 2 "_law_is_knot" 2 true ZZ US)(jY:ZL P w K mg base 1 "_law_is_web" 1 false ZZ Ju)(ka:ZL P w K mg base 2 "_law_most" 1 true ZZ Um)(jJ:ZL P w K mg base 2 "_law_next" 2 true (Wi (WS K) L) Xm)(kc:ZL P w K mg base 59 "forcing" 2 true (Yz L) (Ur 2))(ki:ZL P w K mg base 55 "most" 1 true (Yz L) WI)(jR:ZL P w K mg base 6 "turned" 1 false (Yz L) X9) :
  FnOk P w K mg base ZV 60 j6 jK ["script"] (Zgt K L):=by
 have nd:=ZgL.nd;refine F.ok ZgL (λvs H Q E h=>?_) λcdv A outer s0 H vs Q E hr h=>?_
 ·obtain⟨a,ns,rfl,_⟩:=h
  rfl
 ·obtain⟨a,ns,rfl,sq,hl,hTb,hQ⟩:=h
  obtain⟨s',hs'⟩:=ZkH ns hl;refine⟨_,VE (Uz (i:=1) nd rfl (za rfl) (Zlg (YU (pv 0) (YU Xa (YU Xa Xt))))) (ZjF (GG:=Wi (WS K) L) λG hG=>ZlJ lo T hr j9 kb jS jY ka jJ kc ki jR G hG),?_⟩;refine⟨_,rfl,(by show 3<=xg;decide),λp hp hk=>?_⟩;exact ZjR (n:=11) (N:=["script","_law_pen","_law_turn","_law_a","_law_b","_law_low","_law_high","_law_due","_law_found","_law_many","_law_told","_law_k","_law_other"]) sq hTb hp hk hQ hs'
noncomputable def Zmi:List DRow:=[dR "pairs_of" 1 189 2 1 15 196 true "tiefold.things" 187,
 dR "near" 3 201 9 2 22 204 false "tiefold.webs" 199,
 dR "all_near" 4 207 11 1 27 210 false "tiefold.webs" 199,
 dR "are_tied" 5 213 14 3 32 219 true "tiefold.webs" 199,
 dR "marked_ties" 6 222 16 1 39 225 false "tiefold.webs" 199,
 dR "turned" 7 228 18 1 44 233 true "tiefold.webs" 199,
 dR "web_where" 8 236 21 2 51 239 false "tiefold.webs" 199,
 dR "most" 10 244 25 1 56 249 true "tiefold.most" 242,
 dR "heaviest_knot" 11 252 28 2 63 255 false "tiefold.most" 242,
 dR "heaviest_among" 12 258 31 3 68 261 false "tiefold.most" 242,
 dR "apart_among" 13 264 43 3 73 267 false "tiefold.most" 242,
 dR "heaviest_with" 14 270 45 4 78 273 false "tiefold.most" 242,
 dR "weighed" 15 276 48 2 83 279 false "tiefold.most" 242,
 dR "forcing" 17 284 51 2 88 291 true "tiefold.forced" 282,
 dR "enough_places" 18 294 57 2 95 301 true "tiefold.forced" 282,
 dR "web_without" 19 304 65 3 102 312 true "tiefold.forced" 282,
 dR "all_choices" 20 315 71 1 109 318 false "tiefold.forced" 282,
 dR "web_on_ring" 21 321 76 2 114 328 true "tiefold.forced" 282,
 dR "_law_fill" 23 333 79 2 121 339 true "law_tiefold_k70_forced_either_way" 331,
 dR "_law_next" 24 342 85 2 128 350 true "law_tiefold_k70_forced_either_way" 331,
 dR "_law_tied" 26 359 113 3 140 365 true "law_tiefold_k70_forced_either_way" 331,
 dR "_law_is_knot" 27 368 115 2 147 375 true "law_tiefold_k70_forced_either_way" 331,
 dR "_law_knots" 28 378 121 1 154 381 false "law_tiefold_k70_forced_either_way" 331,
 dR "_law_most" 29 384 133 1 159 387 false "law_tiefold_k70_forced_either_way" 331,
 dR "_law_away" 30 390 135 1 164 397 true "law_tiefold_k70_forced_either_way" 331,
 dR "_law_drawn" 31 400 142 2 171 403 false "law_tiefold_k70_forced_either_way" 331,
 dR "_law_is_web" 32 406 153 1 176 411 true "law_tiefold_k70_forced_either_way" 331,
 dR "law" 33 414 168 1 183 430 true "law_tiefold_k70_forced_either_way" 331]
noncomputable def KF (P:Params):qk:=ZnZ ZS 181 ([dE P "__name__" 165 (.str "law_tiefold_k70_forced_either_way" 331)] ++ [dE P "__doc__" 166 (.none)] ++ [dE P "__package__" 167 (.none)] ++ [dE P "__loader__" 168 (.builtin "__main__.__loader__#opaque")] ++ [dE P "__spec__" 169 (.none)]++dRs P [nE "__annotations__" 170 6,nE "__builtins__" 171 4] ++ [dE P "__file__" 173 (.str "/claim/cut.py" 172)] ++ [dE P "__cached__" 174 (.none)]++dRs P [nE "pairs_of" 198 21,nE "near" 206 26,nE "all_near" 212 31,nE "are_tied" 221 38,nE "marked_ties" 227 43,nE "turned" 235 50,nE "web_where" 241 55,nE "most" 251 62,nE "heaviest_knot" 257 67,nE "heaviest_among" 263 72,nE "apart_among" 269 77,nE "heaviest_with" 275 82,nE "weighed" 281 87,nE "forcing" 293 94,nE "enough_places" 303 101,nE "web_without" 314 108,nE "all_choices" 320 113,nE "web_on_ring" 330 120,nE "_law_fill" 341 127,nE "_law_next" 352 134,nE "_law_web" 358 139,nE "_law_tied" 367 146,nE "_law_is_knot" 377 153,nE "_law_knots" 383 158,nE "_law_most" 389 163,nE "_law_away" 399 170,nE "_law_drawn" 405 175,nE "_law_is_web" 413 182,nE "law" 432 189]) 38 Zmi
noncomputable def asF:List Addr:=[3,20,21,25,26,30,31,37,38,42,43,49,50,54,55,61,62,66,67,71,72,76,77,81,82,86,87,93,94,100,101,107,108,112,113,119,120,126,127,133,134,145,146,152,153,157,158,162,163,169,170,174,175,181,182,188,189]
theorem eF:∀P,asF=(KF P).map (·.1):=λ_=>by kernel_rfl
theorem okF (P:Params):ZeM (KF P) ZS Zmi:=by
 repeat refine⟨⟨by kernel_rfl,by kernel_rfl,by kernel_rfl⟩,?_⟩
 exact trivial
noncomputable abbrev LF:List (Addr×Str):=[(45,(y9 "turned.<locals>.<lambda>")),(115,(y9 "web_on_ring.<locals>.<lambda>"))]
theorem Znv {P:xz}{w:World}{h:Heap}{mg:Str->Option Value}{fa:Addr}(X:(KF w.params).In h)(G:h.Ns mainGlobals mg)(hfa:mg "law" = some (.ref fa)) :
  ∃fd:xy,(∀(s:Shared) (v:Value),BindsTo s fd ⟨[v],[]⟩ [("script",v)])/\∀base:Heap,(KF w.params).In base->base.Ns mainGlobals mg->yt base 49 45->yt base 119 115->UP mg base->FnOk P w (KF w.params) mg base ZV 60 fa fd ["script"] (Zgt (KF w.params) LF):=by
 have lo:WA LF:=TF.lok_nd (by decide);have zn:∀x,qci (KF w.params) mainGlobals x=some none->mg x=none:=λ_ z=>PySem.W.mg_none_of X G z;have T:Txt mg:=⟨zn _ (by kernel_rfl),zn _ (by kernel_rfl),zn _ (by kernel_rfl),zn _ (by kernel_rfl),zn _ (by kernel_rfl),zn _ (by kernel_rfl),zn _ (by kernel_rfl),zn _ (by kernel_rfl),zn _ (by kernel_rfl),zn _ (by kernel_rfl),zn _ (by kernel_rfl),zn _ (by kernel_rfl),zn _ (by kernel_rfl)⟩;have mk:=@mkc P w (KF w.params) mg;have at_:=λj {r} e=>@Znj _ h mg _ _ (okF w.params) X G j r e;obtain⟨f1,_,F1,m1,_⟩:=at_ 20 rfl;obtain⟨f2,_,F2,m2,_⟩:=at_ 24 rfl;obtain⟨f3,_,F3,m3,_⟩:=at_ 18 rfl;obtain⟨f4,_,F4,m4,_⟩:=at_ 19 rfl;obtain⟨f5,_,F5,m5,_⟩:=at_ 25 rfl;obtain⟨f6,_,F6,m6,_⟩:=at_ 21 rfl;obtain⟨f7,_,F7,m7,_⟩:=at_ 26 rfl;obtain⟨f8,_,F8,m8,_⟩:=at_ 22 rfl;obtain⟨f9,_,F9,m9,_⟩:=at_ 23 rfl;obtain⟨f10,_,F10,m10,_⟩:=at_ 14 rfl;obtain⟨f11,_,F11,m11,_⟩:=at_ 4 rfl;obtain⟨f12,_,F12,m12,_⟩:=at_ 0 rfl;obtain⟨f13,_,F13,m13,_⟩:=at_ 6 rfl;obtain⟨f14,_,F14,m14,_⟩:=at_ 3 rfl;obtain⟨f15,_,F15,m15,e15⟩:=at_ 5 rfl;obtain⟨f16,_,F16,m16,_⟩:=at_ 16 rfl;obtain⟨f17,_,F17,m17,_⟩:=at_ 1 rfl;obtain⟨f18,_,F18,m18,_⟩:=at_ 2 rfl;obtain⟨f19,_,F19,m19,_⟩:=at_ 10 rfl;obtain⟨f20,_,F20,m20,_⟩:=at_ 12 rfl;obtain⟨f21,_,F21,m21,_⟩:=at_ 11 rfl;obtain⟨f22,_,F22,m22,_⟩:=at_ 9 rfl;obtain⟨f23,_,F23,m23,_⟩:=at_ 8 rfl;obtain⟨f24,_,F24,m24,_⟩:=at_ 7 rfl;obtain⟨f25,_,F25,m25,e25⟩:=at_ 17 rfl;obtain⟨f26,_,F26,m26,_⟩:=at_ 15 rfl;obtain⟨f27,_,F27,m27,_⟩:=at_ 13 rfl;obtain⟨f28,_,F28,m28,_⟩:=at_ 27 rfl
 cases hfa.symm.trans m28
 have kA:=λb=>mk b F12 m12 (ZfI F12 T );have kC:UN P w (KF w.params) mg 5 "web_where" 2 false (UM P w (KF w.params) mg 4 2 Tl) Uo:=⟨f13,_,_,λb=>ZeF F13 T (kA b),m13,F13.kp,bdc ["row","tied"] F13⟩;have kf:=λb=>mk b F14 m14 (ZfJ F14 T );obtain⟨oc,od,kV,doc,pm,an,cdv,ct,osl,rfl,lk,hcd⟩:=F28.ex;refine⟨yR "law" "law" (WH s_law) (Wb s_law) (ZD s_law) .none kV doc pm an cdv ct,λs v=>.of_eq rfl,λbase _ _ hC15 hC25 hBm=>?_⟩;have j8:=mk base F1 m1 (ZeI F1 T );have j9:=mk base F2 m2 (ZeJ F2 T j8);have kr:=mk base F3 m3 (ZeG F3 T );have kD:=mk base F4 m4 (ZeL F4 T kr Zkw);have jJ:ZL P w (KF w.params) mg base 2 "_law_next" 2 true (Wi (WS (KF w.params)) LF) Xm:=ZjG kD ZjS;have kb:=mk base F5 m5 (Zdp F5 T lo jJ);have jS:=mk base F6 m6 (Zb8 F6 T j8);have jY:=mk base F7 m7 (ZcZ F7 T );have kq:=mk base F8 m8 (Zdo F8 T );have ka:=mk base F9 m9 (ZeH F9 T kq);have kz:∀j:Nat,ZL P w (KF w.params) mg base (0+j) "enough_places" 2 false ZZ (UR j):=by
  intro j
  induction j with
  | zero=>exact ZL.none m10 F10.kp (bdc ["a","b"] F10)
  | succ j ih=>exact mk base F10 m10 (ZbJ F10 T (qaT _ _) ih)
 have jP:=(kz 8).mono (k:=9);have jV:=mk base F11 m11 (ZcS F11 T );have kB:=kA base;have j7:=kC;have kx:=kf base;have jR:=mk base F15 m15 (ZiD F15 T lo jV j7 kf (tP:=45) e15 hC15 hBm (by simp));have kh:=mk base F16 m16 (ZcW F16 T );have kE:=mk base F17 m17 (ZlH F17 T kx);have ky:=mk base F18 m18 (ZfK F18 T jV kE);have kg:=mk base F19 m19 (ZcT F19 T );have ko:=mk base F20 m20 (ZgJ F20 T );have rr:∀j:Nat,ZL P w (KF w.params) mg base (1+2*j) "heaviest_among" 3 false ZZ (Ui j):=by
  intro j
  induction j with
  | zero=>exact ZL.none m22 F22.kp (bdc ["aparts","weights","places"] F22)
  | succ j ih=>
   have jZ:=mk base F21 m21 (ZbH F21 T (by omega) ih);have z:ZL P w (KF w.params) mg base (1+2*j+2) "heaviest_among" 3 false ZZ (Ui (j+1)):=mk base F22 m22 (Zbm F22 T (by omega) kg ih jZ ko);exact z.mono (h:=by omega)
 have jL:=(rr 26).mono (k:=53);have kd:=mk base F23 m23 (ZbI F23 T lo ky jL jR);have ki:=mk base F24 m24 (ZlI F24 T lo kd);have kj:=mk base F25 m25 (ZcV F25 T lo j7 (tP:=115) e25 hC25 hBm (by simp));have km:=mk base F26 m26 (ZcX F26 T lo kh ki jR kj);have kF:∀j:Nat,ZL P w (KF w.params) mg base (56+j) "forcing" 2 true (Yz LF) (Ur j):=by
  intro j
  induction j with
  | zero=>exact ZL.none m27 F27.kp (bdc ["a","b"] F27)
  | succ j ih=>exact mk base F27 m27 (ZgK F27 T lo (qaT _ _) jP ih jR km)
 have kc:=(kF 2).mono (k:=59);exact Znu lo F28 T j9 kb jS jY ka jJ kc ki jR
noncomputable def tb:List (Str×Addr×Addr):=[("turned",49,45),("web_on_ring",119,115)]
theorem Znw:∀P q,(P,q)∈LF->∃x c,(x,c,P)∈tb:=by
 intro P q h;simp only[qq,Prod.mk.injEq,ye,or_false]at h;rcases h with⟨rfl,_⟩ | ⟨rfl,_⟩
 ·exact⟨"turned",49,by simp[tb]⟩
 ·exact⟨"web_on_ring",119,by simp[tb]⟩
noncomputable def qF:xz:=PySem.W.view PySem.Challenge.pw_tiefold_k70_forced_either_way [1,3,4,5,6,7,8,10,11,12,13,14,15,17,18,19,20,21,23,24,25,26,27,28,29,30,31,32,33]
theorem walk {loose:List Str}{XP:(Str->Option Value)->Heap->Prop}{YP:World->Heap->Prop}(hY:∀(w:World) (h:Heap),YP w h->(KF w.params).In h) :
  qcU qF loose XP YP PySem.Challenge.rw_tiefold_k70_forced_either_way.row.toRowW (ZgN s_law) [] (λf vs=>qcO f vs):=
 ZjI (K:=KF) (tb:=tb) (n:=63) (k:=60) (x:="script") (CX:=λ_=>ZV) (sp:=λw=>Zgt (KF w.params) LF) rfl (by decide) rfl ⟨rfl,by decide,by decide,rfl⟩ hY
  (qaV.mpr ⟨yQ.mp (by kernel_rfl),qaV.mpr ⟨yQ.mp (by kernel_rfl),(λ_ h=>nomatch h)⟩⟩)
  (λw=>qaV.mpr ⟨by kernel_rfl,qaV.mpr ⟨by kernel_rfl,(λ_ h=>nomatch h)⟩⟩) (λw=>by kernel_rfl)
  (λw mg fa h h1 h2 h3=>let ⟨fd,hb,hF⟩:=Znv h1 h2 h3;⟨fd,hb,λbase g1 g2 g3 g4=>hF base g1 g2 (g3 ("turned",49,45) (by simp[tb])) (g3 ("web_on_ring",119,115) (by simp[tb])) g4⟩)
  (λ_ _ a ns hl hS hTb=>⟨a,ns,rfl,hS,hl,Zgu (tb:=tb) Znw hTb,λ_=>rfl⟩) λ_ _ _ _ _ z=>z
theorem left:PySem.W.LeftO PySem.Challenge.rw_tiefold_k70_forced_either_way.prog qF [] (λs=>PySem.W.xlAt qF [] s&&PySem.W.recOk PySem.Challenge.rw_tiefold_k70_forced_either_way.row.records s) (qaC KF asF eF).obs (qaC KF asF eF).val 1908:=λw=>by kernel_rfl
theorem said:PySem.Challenge.rw_tiefold_k70_forced_either_way.wellSaid=true:=by kernel_rfl
end K70
open PySem.W
set_option maxRecDepth 100000 in
set_option maxHeartbeats 0 in
theorem PySem.Challenge.cw_tiefold_k70_forced_either_way_holds : PySem.Challenge.rw_tiefold_k70_forced_either_way.Holds := by
 refine TF.head_of (q:=K70.qF) (K:=K70.KF) (st:=K70.s_law) K70.said K70.left (by kernel_rfl) (by kernel_rfl) (by kernel_rfl) (by decide +kernel) ⟨rfl,rfl,rfl,rfl,rfl,by decide +kernel⟩ ?hw rfl (K70.walk λw h Y=>kIn_of Y)
 case hw=>w_witness2
