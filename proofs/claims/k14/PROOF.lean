import PyProof.Rows.All
import Wide.All
import OpenK.AllK
import Wide.FinOn
import Lean
import PyProof.EqAt
import PyProof.EqKinds
import PyProof.TupleCall
import KE.KLam
import PyProof.ZipIter
import PyProof.WalksEnum
import PyProof.WalkInts
import PyProof.SeqI3
import PyProof.Rows.SeqMore
import PyProof.Rows.SortWalk
import PyProof.Draws
import PyProof.EnumMake
import PyProof.DictIter
import KE.KSortTup
import PyProof.Rows.SeqMore2
import PyProof.Rows.RuleIs
import PyProof.Rows.SetFrom
import PyProof.WalksMore
import PyProof.MinMaxWalk
import OpenK.KMore
import PyProof.Rows.SortRuns
import PyProof.Rows.SortRunsK
import PySem.Challenge.RW_tiefold_k14_great_webs
-- CHANGE: your row's module here,as the last of these rows
open List renaming length_map->qd,range->qk,mem_cons->qq,mem_map->qu,getElem?_eq_some_iff->qw,replicate->qy,mem_singleton->qz,mem_range->qD,getElem?_eq_getElem->qG,getElem?_map->qH,length_append->qI,size_toArray->qJ,length_cons->qL,append_assoc->qM,map_map->qN,mem_filter->qO,getD_eq_getElem?_getD->qP,mem_cons_of_mem->qQ,mem_append->qR,length_range->qT,pairwise_append->qW,length_take->qZ,getElem?_set_ne->za,map_cons->zc,mem_append_right->zf,append_nil->zj,take_append_drop->zk,pairwise_map->zp,lookup_cons->zt,filter_sublist->zu,mem_of_getElem?->zv,pairwise_iff_getElem->zx,map_congr_left->zy,getElem?_set_self->zB,getElem?_append_left->zD,map_append->zE,take_sublist->zF,mem_cons_self->zG,mem_iff_getElem?->zI,getElem?_take_of_lt->zM,nodup_range->zN,flatten_cons->zP,length_eq_zero_iff->zS,perm_ext_iff_of_nodup->zT,nodup_cons->zU,getElem?_drop->zV,length_drop->zW,not_mem_nil->zX,getElem?_eq_none->yc,pairwise_cons->yf,pairwise_singleton->yg,all_eq_true->yh,getElem?_append_right->yj,drop_of_length_le->ym,replicate_succ->yo,getElem?_zip_eq_some->yq,extract_eq_take_drop->yr,perm_append_comm->yu,take_length->yy,filter_cons->yz,mem_append_left->yB,filterMap_cons->yF,toList_toArray->yG,nil_append->yR,toArray->yT,getElem?_replicate->yW,getElem?_range->yX,mem_flatMap->y6,range_succ_eq_map->y9,filter_append->qag,foldl_cons->qah,find?_cons->qai,length_filter_le->qam,ext_getElem?->qap,drop_eq_getElem_cons->qat,mem_of_mem_take->qav,mem_map_of_mem->qaD,any_cons->qaF,mem_filterMap->qaH,of_mem_zip->qaI,length_nil->qaJ,Perm->qaL,length->qaM,filter_eq_nil_iff->qaO,nodup_append->qaP,length_singleton->qaU,mem_reverse->qaZ,mem_of_mem_drop->qa0,length_eraseIdx_of_lt->qa3,filter_map->qa5,map_nil->qa9,idxOf_lt_length_iff->qbe,drop_zero->qbj,filter_cons_of_neg->qbr,cons_append->qbC,getElem_mem->qbD,getD->qbF,foldl->qbH,range_succ->qbJ,take_append_of_le_length->qbN,filter_eq_self->qbO,nodup_nil->qbR,take_succ->qbU,foldl_append->qca,flatMap_cons->qcb,length_erase_of_mem->qcl,pairwise_mergeSort->qcq,getElem?_cons_succ->qct,eraseIdx_cons_succ->qcu,filter_cons_of_pos->qcv,take_of_length_le->qcD,pairwise_lt_range->qcE,length_pos_of_mem->qcF,pairwise_reverse->qcH,take_zero->qcI,drop_eq_nil_iff->qcS,mem_iff_getElem->qcV,mem_erase_of_ne->qcW,forall_mem_cons->qcY,mergeSort_perm->qc6,take_succ_cons->qc7,getElem_of_mem->qc9,findSome?_cons->qda,all_map->qde,lookup->qdi
open Array renaming getElem?_eq_getElem->qf,getElem?_toList->qA,length_toList->qB,getD_eq_getD_getElem?->qU,toList_append->zb,mem_toList_iff->zd,toList_push->ze,mem_of_getElem?->zo,getElem?_eq_some_iff->zJ,toList_extract->yU,toList_reverse->qau,getElem?_eq_none->qaN,getElem?_setIfInBounds->qbT,perm_iff_toList_perm->qb4,toArray_toList->qcU,toList->qdc
open PySem.Heap renaming get?_push_of_some->qj,get?_push_size->qC,lt_size->qK,get?_update_self->ya,size_push->yb,SameBut->yi,get?_update_other->yk,ExtBut->qbx,get?_none_of_le->qcN,get?_update_ne->qc8
open PySem.W renaming Frag->qm,kia_one->yd,keepIn->yK,fnOf->yQ,kla_fn->yZ,CodeHd->y4,envX->qac,kHook->qaG,codeIn->qbh,tabObj->qbi,methodObj->qb6,nsIn->qcn,instObj->qcx,cellsFrom_some->qcA,lookIn->qcG,hideAll_size->qcL,hideAll_none->qcM,WalkO->qc0,hideAll_get->qc4
open Nat renaming le_refl->qp,ne_of_lt->qV,lt_of_lt_of_le->zh,le_trans->zi,zero_le->zC,lt_succ_of_lt->zQ,lt_irrefl->yI,lt_succ_self->yY,lt_trans->qab,zero_add->qad,le_of_lt_succ->qaS,mul_le_mul->qaV,add_assoc->qa2,mod_lt->qbk,lt_trichotomy->qbt,le_succ_of_le->qbv,max_eq_right->qbE,ne_of_gt->qbG,succ_pos->qbL,le_total->qbM,le_succ->qbV,le_of_lt->qcd,mul_comm->qce,sub_zero->qch,add_zero->qci,le_add_right->qcj,max_eq_left->qcy,le_antisymm->qcz,pow_le_pow_right->qcX,add_comm->qdd
open PySem.SetTable renaming below->qE,layClean->zK,turns->yL,sizeAbove->yM,grown->yN,toList_insertAt->qaC,insertAt->qaR,laid->qbz,fits->qc2,has->qdf
open Or renaming inl->qS,inr->qbb
open Bool renaming false_eq_true->qX,and_eq_true->zl,false_ne_true->yw,not_eq_true'->yV,eq_iff_iff->qal,not_true->qao,and_eq_true_iff->qas,eq_false_iff->qb9,true_and->qcZ,or_eq_true_iff->qc5
open PySem.Value renaming ref->qY,none->zm,type->yp,bool->yP,int->qcw,notImplemented->qcP,str->qdb,isInt->qdg
open PySem.PassesOwn renaming never->zg
open PySem.F renaming called_set->zq,slot_int_rmul->yS,slot_tuple_mul->qaa,args_tuple_add_2->qa8,slot_list_getattribute->qbc,args_tuple_mul_2->qbd,entry_tuple_add->qbm,plainAttrs_list->qbn,entry_tuple_mul->qbq,args_int_rmul_2->qbs,slot_tuple_add->qbw,slot_int_index->qbA,entry_int_rmul->qbB,fills_int_mul->qbI,slot_tuple_rmul->qcp,slot_list_index->qcr,entry_type_call->qcs,typeCall_set_1->qcB,entry_set_init->qcC,plain_set_new->qcJ,slot_set_iter->qcK
open PySem.Obj renaming mapSeq->zr,mapFields->yJ,putSet->qcc
open Option.some renaming inj->zw,injEq->qb8
open Ne renaming symm->zH
open PySem.SetTable.layClean renaming free->zL
open PySem renaming mem_of_lookup->zO,call->qcR,Builtin->qc1
open PyProof.Rows renaming slot_tuple_getitem->zR,callWith_type1->yE
open List.Pairwise renaming nil->zY,imp_of_mem->yA
open PySem.NameKind renaming free->zZ,cell->qa1
open Option renaming map_some->ye,map_eq_some_iff->yn,isSome_iff_exists->qay,isSome_map->qb7
open Sum renaming inl->yt,inr->qbQ
open False renaming elim->yC
open PySem.Around renaming under_plainId->yD,frames_deeper->qcO
open Int renaming le_of_lt->yH,le_refl->yO,emod_nonneg->qak,toNat_natCast->qaq,le_trans->qaB,emod_lt_of_pos->qaK,natCast_add->qa7,toNat_of_nonneg->qbP
open True renaming intro->y8
open PySem.Builtin.List renaming listExtendWith->qae,listLengthHint->qaX,listTooLong->qba,listSameRef->qck
open PyProof.Rows.F renaming plain_set_update_loop->qaf,entry_set_update_loop->qbg
open ForInStep renaming yield->qaj
open PySem.Paired renaming length->qan
open PySem.Builtin.Slice renaming slicePlaces->qar,sliceAdjust->qa4,sliceApplied->qb0
open Classical renaming byContradiction->qaw
open Iff renaming rfl->qax
open PySem.AutoSeq1 renaming sub_tuple_tuple->qaz,sub_tuple_list->qbo,sub_list_tuple->qbp,sub_list_list->qby,idx_int->qcg
open PySem.Builtin.Tuple renaming tupleExact->qaA,tupleItemsOf->qb1,tupleTooMany->qb2
open PySem.Heap.SameBut renaming update->qaE
open PySem.SetTable.below renaming go->qaQ
open PySem.Str renaming ofString->qaT,ofString->qbY
open List.Perm renaming append_left->qaW
open PySem.SeqAt renaming EqAt->qaY,RcNeAt->qcf,RcAt->qcT
open PySem.Calls renaming call_function_entry->qa6,Name_function_global->qbZ
open PySem.Expr renaming Call->qbf
open PySem.Builtin.Range renaming rangeSize->qbl
open PySem.SetTable.probe renaming go->qbu
open List.cons renaming injEq->qbK,inj->qc3
open PySem.Builtin.Frozenset renaming updateFrom->qbS
open PyProof.Rows.IsTup renaming new->qbW
open PySem.Code renaming quiet_builtin->qbX
open PySem.Shared renaming TypeIs->qb3
open Prod.mk renaming injEq->qb5
open Nat.succ renaming inj->qcm
open PySem.Builtin.Dict renaming updateFrom->qco
open Prod renaming ext->qcQ
open Sum.inl renaming inj->qdh
open PySem PySem.Spec PyProof.Rows
open PySem renaming wpAny_bind→xa,wpAny_pure→xb,wpAny_mono→xc,wpAny→xf,sizeLine→xg,starEach→xh,keywordEach→xi,bootBuiltins→xj,compareOp→xk,wpAny_newObj_type→xl,codeAny_builtin→xm,codeAny→xo,backToKw→xp,attributeBase→xq,swapsWith→xr,wpAny_seqItems→xt,wpAny_holding→xu,wpAny_newList→xw,wpAny_call→xy,model→xz,FuncData→xA,Program→xB,Around→xC
abbrev xD:=PySem.Value->PySem.Shared->Prop
set_option maxHeartbeats 8000000
abbrev Qa:=List (Nat×Nat)
abbrev Qb:=List (PySem.Addr×PySem.Obj)
set_option genSizeOfSpec false
set_option bootstrap.genMatcherCode false
local macro_rules|`(tactic|omega)=>`(tactic|first|lia|omega (config:={}))
set_option Elab.async false
set_option linter.all false
set_option maxRecDepth 100000
namespace L2
noncomputable abbrev Zt:=Sum Int Str
noncomputable def Jn:Zt->Value->Bool
 | .inl k,v=>qdg k v
 | .inr x,v=>Value.isStrOf x v
noncomputable def keyH (w:World):Zt->Int
 | .inl k=>hashInt k
 | .inr x=>hashStr w x
theorem Vq:∀{k:Zt} {v:Value},Jn k v=true->(∃i t,k=yt i/\v=qcw i t)∨(∃x t,k=qbQ x/\v=qdb x t)
 | .inl i,v,h=>by
  obtain⟨t,e⟩:=Value.isInt_shape (k:=i) (v:=v) h;exact .inl ⟨i,t,rfl,e⟩
 | .inr x,v,h=>by
  obtain⟨t,e⟩:=Value.isStrOf_shape (x:=x) (v:=v) h;exact .inr ⟨x,t,rfl,e⟩
theorem ZhS (i:Int)(t:Tok):Jn (.inl i) (.int i t)=true:=by simp[Jn,qdg]
theorem ZhT (x:Str)(t:Tok):Jn (.inr x) (.str x t)=true:=by simp[Jn,Value.isStrOf]
theorem ZmP (a b:Int):decide ((yt a:Zt)=yt b)=(a==b):=by
 by_cases e:a=b
 ·subst e;simp
 ·have h:¬(yt a:Zt)=yt b:=λq=>e (qdh q)
  rw[decide_eq_false h];exact(beq_eq_false_iff_ne.mpr e).symm
theorem ZmQ (a b:Str):decide ((qbQ a:Zt)=qbQ b)=decide (a=b):=by
 by_cases e:a=b
 ·subst e;simp
 ·have h:¬(qbQ a:Zt)=qbQ b:=λq=>e (qbQ.inj q)
  rw[decide_eq_false h,decide_eq_false e]
theorem ZmR (a:Int)(b:Str):decide ((yt a:Zt)=qbQ b)=false:=decide_eq_false (λq=>nomatch q)
theorem ZmS (a:Str)(b:Int):decide ((qbQ a:Zt)=yt b)=false:=decide_eq_false (λq=>nomatch q)
noncomputable def We (prog:xB)(w:World):PySem.KeyKind prog w Zt where
 is:=Jn
 hash:=keyH w
 inj:=λv a b ha hb=>by
  rcases Vq ha with⟨i,t,rfl,rfl⟩ | ⟨x,t,rfl,rfl⟩
  ·rcases Vq hb with⟨j,u,rfl,e⟩ | ⟨y,u,rfl,e⟩
   ·injection e with e1 _;rw[e1]
   ·exact nomatch e
  ·rcases Vq hb with⟨j,u,rfl,e⟩ | ⟨y,u,rfl,e⟩
   ·exact nomatch e
   ·injection e with e1 _;rw[e1]
 byValue:=λk v h=>by
  rcases Vq h with⟨i,t,rfl,rfl⟩ | ⟨x,t,rfl,rfl⟩ <;> rfl
 pyHash:=λhv h=>by
  rcases Vq hv with⟨i,t,rfl,rfl⟩ | ⟨x,t,rfl,rfl⟩
  ·exact wpAny_pyHash_int h
  ·exact wpAny_pyHash_str h
 eqBool:=λhu hv h=>by
  rcases Vq hu with⟨i,t,rfl,rfl⟩ | ⟨x,t,rfl,rfl⟩
  ·rcases Vq hv with⟨j,u,rfl,rfl⟩ | ⟨y,u,rfl,rfl⟩
   ·rw[ZmP]at h;exact wpAny_eqBool_int h
   ·rw[ZmR]at h;exact qaY.int_str i t y u _ _ _ _ h
  ·rcases Vq hv with⟨j,u,rfl,rfl⟩ | ⟨y,u,rfl,rfl⟩
   ·rw[ZmS]at h;exact qaY.str_int x t j u _ _ _ _ h
   ·rw[ZmQ]at h;exact wpAny_eqBool_str h
 «strs»:=λk x t v h=>by
  rcases Vq h with⟨i,u,rfl,e⟩ | ⟨y,u,rfl,e⟩
  ·exact nomatch e
  ·injection e with e1 _
   subst e1
   cases v <;> rfl
theorem Ze8 (prog:xB)(w:World)(i:Int)(t:Tok):(We prog w).is (.inl i) (.int i t)=true:=ZhS i t
theorem Ze9 (prog:xB)(w:World)(x:Str)(t:Tok):(We prog w).is (.inr x) (.str x t)=true:=ZhT x t
inductive V where
 | non | bl (b:Bool) | int (i:Int) | str (x:Str) | byt (b:Array UInt8) | flt (b:UInt64) | ref (a:Addr) | ty (n:String)
 deriving DecidableEq
noncomputable def ZI:V->Value->Prop
 | .non,u=>u=zm
 | .bl b,u=>u=yP b
 | .int i,u=>∃t,u=qcw i t
 | .str x,u=>∃t,u=qdb x t
 | .byt b,u=>∃t,u=Value.bytes b t
 | .flt b,u=>∃t,u=Value.float b t
 | .ref a,u=>u=qY a
 | .ty n,u=>u=yp n
noncomputable abbrev Zu:List V->List Value->Prop:=Paired ZI
theorem Zu.length {xs:List V}{us:List Value}(r:Zu xs us):xs.length=us.length:=qan r
theorem Zu.get:∀{xs:List V} {us:List Value} {i:Nat} {x:V},Zu xs us->xs[i]?=some x->∃u,us[i]?=some u/\ZI x u
 | _,_,_,_,.nil,e=>by simp at e
 | _,_,0,_,.cons r _,e=>by simp at e;subst e;exact⟨_,rfl,r⟩
 | _,_,i+1,x,.cons _ t,e=>by
  obtain⟨u,h1,h2⟩:=Zu.get (i:=i) (x:=x) t (by simpa using e);exact⟨u,by simpa using h1,h2⟩
theorem Zu.set {x:V}{u:Value}(r:ZI x u):∀{xs:List V} {us:List Value} (i:Nat),Zu xs us->Zu (xs.set i x) (us.set i u)
 | _,_,_,.nil=>.nil
 | _,_,0,.cons _ t=>.cons r t
 | _,_,i+1,.cons q t=>.cons q (Zu.set r i t)
theorem Zu.append:∀{xs ys:List V} {us ws:List Value},Zu xs us->Zu ys ws->Zu (xs++ys) (us++ws)
 | _,_,_,_,.nil,s=>s
 | _,_,_,_,.cons r t,s=>.cons r (Zu.append t s)
theorem Zu.take:∀{xs:List V} {us:List Value} (n:Nat),Zu xs us->Zu (xs.take n) (us.take n)
 | _,_,0,_=>.nil
 | _,_,_+1,.nil=>.nil
 | _,_,n+1,.cons r t=>.cons r (Zu.take n t)
theorem Zu.drop:∀{xs:List V} {us:List Value} (n:Nat),Zu xs us->Zu (xs.drop n) (us.drop n)
 | _,_,0,r=>r
 | _,_,_+1,.nil=>.nil
 | _,_,n+1,.cons _ t=>Zu.drop n t
noncomputable def UG:Option V->Option Value->Prop
 | some v,some u=>ZI v u
 | none,none=>True
 | _,_=>False
noncomputable def KV {κ:Type}:List (κ×V)->List (κ×Value)->Prop:=Paired λ(p:κ×V) (q:κ×Value)=>p.1=q.1/\ZI p.2 q.2
noncomputable def kV:Zt->V
 | .inl i=>.int i
 | .inr x=>.str x
inductive HO where
 | lst (xs:List V)
 | tup (xs:List V)
 | dK (kvs:List (Zt×V)) | dT (kvs:List (List Zt×V))
 | set (S:Int->Bool) (n:Nat)
 | ins (C dx:Addr) (fs:List (Str×V))
 | own (x:Addr)
 | xd (fs:List (Str×V))
 | met (f x:Addr)
 | rng (lo hi:Int)
 | frz (o:Obj) (u:HO)
 | tbl (ps:Array Value)
 | ext (φ:Heap->Prop)
noncomputable abbrev Hp:=Addr->Option HO
noncomputable def Zl (H:Hp)(a:Addr)(o:HO):Hp:=λb=>if b=a then some o else H b
theorem ZQ {H:Hp}{a:Addr}{o:HO}:Zl H a o a=some o:=by unfold Zl;rw[if_pos rfl]
theorem Zx {H:Hp}{a b:Addr}{o:HO}(h:b≠a):Zl H a o b=H b:=by unfold Zl;rw[if_neg h]
theorem Zek {H:Hp}{a:Addr}{o u:HO}:Zl (Zl H a o) a u=Zl H a u:=by
 funext b;unfold Zl;split <;> rfl
theorem Zmr {H:Hp}{a b:Addr}{o u:HO}(h:H a=some o)(h':H b=some u)(d:o≠u):a≠b:=by
 intro e;subst e;rw[h]at h';exact d (zw h')
theorem Ys {H:Hp}{a b:Addr}{o:HO}(h:H a=some o)(h':H b=none):a≠b:=by
 intro e;subst e;rw[h]at h';cases h'
section
variable (P:xB)(w:World)
noncomputable def Ym (H:Hp)(h:Heap)(a:Addr):HO->Prop
 | .lst xs=>xs.length<=xg/\∃(jK:List Value) (n:Nat),Zu xs jK/\h.get? a=some { cls:=.type "list",data:=.seq jK.toArray n }
 | .tup xs=>xs.length<=xg/\∃jK:List Value,Zu xs jK/\IsTup h a jK.toArray
 | .dK kvs=>kvs.length<=xg/\(a==sysModules)=false/\∃vs,KV kvs vs/\h.DictOf (We P w) a vs
 | .dT kvs=>kvs.length<=xg/\(a==sysModules)=false/\∃xs:List (List Zt×Addr×Value),
   Paired (λ(p:List Zt×V) (q:List Zt×Addr×Value)=>p.1=q.1/\H q.2.1=some (.tup (p.1.map kV))/\ZI p.2 q.2.2) kvs xs/\
   ∃o es ep,h.get? a=some o/\o.ExactDict/\o.data=.dict es ep/\es.toList=xs.map (entryOfKey (tupleKind (We P w)))/\(xs.map (·.1)).Nodup
 | .set S n=>h.SetOf (intKind P w) a S n
 | .ins C dx fs=>H dx=some (.own a)/\fs.length<=1000/\dx≠a/\h.get? a=some (qcx C dx)/\
   ∃mA,h.Ns1 dx mA/\(∀f,UG (fs.lookup f) (mA f))/\PySem.Within mA (fs.map (·.1))
 | .own _=>∃o,h.get? a=some o
 | .xd fs=>∃mA,h.Ns1 a mA/\∀f,UG (fs.lookup f) (mA f)
 | .rng lo hi=>∃t u v,h.get? a=some { cls:=.type "range",data:=.fields #[.int lo t,.int hi u,.int 1 v] }
 | .frz o u=>h.get? a=some o/\Ym H h a u
 | .tbl ps=>h.get? a=some { cls:=.none,data:=.fields ps }
 | .met f x=>h.get? a=some (qb6 (.ref f) (.ref x))
 | .ext φ=>φ h/\(∃o,h.get? a=some o)/\∀h1 h2:Heap,φ h1->(∀o,h1.get? a=some o->h2.get? a=some o)->φ h2
noncomputable def Yg (H:Hp)(h:Heap):Prop:=∀a o,H a=some o->Ym P w H h a o
end
section
variable {P:xB}{w:World}{H H':Hp}{h h':Heap}{a:Addr}{o:HO}
theorem Ym.lt (x:Ym P w H h a o):a<h.objs.size:=by
 cases o with
 | lst xs=>obtain⟨_,_,_,_,e⟩:=x;exact qK e
 | tup xs=>obtain⟨_,_,_,p⟩:=x;exact p.lt
 | dK kvs=>obtain⟨_,_,_,_,o,_,_,e,_⟩:=x;exact qK e
 | dT kvs=>obtain⟨_,_,_,_,o,_,_,e,_⟩:=x;exact qK e
 | set S n=>obtain⟨o,_,_,_,e,_⟩:=x;exact qK e
 | ins C dx fs=>obtain⟨_,_,_,e,_⟩:=x;exact qK e
 | own y=>obtain⟨_,e⟩:=x;exact qK e
 | xd fs=>obtain⟨_,⟨_,_,_,e,_⟩,_⟩:=x;exact qK e
 | rng lo hi=>obtain⟨_,_,_,e⟩:=x;exact qK e
 | frz ob u=>obtain⟨e,_⟩:=x;exact qK e
 | tbl ps=>exact qK (show h.get? a=some _ from x)
 | met f y=>exact qK (show h.get? a=some _ from x)
 | ext φ=>obtain⟨_,⟨_,e⟩,_⟩:=x;exact qK e
theorem Paired.mapP {α β:Type}{F G:α->β->Prop}:∀{l₁:List α} {l₂:List β},Paired F l₁ l₂->(∀a b,F a b->G a b)->Paired G l₁ l₂
 | _,_,.nil,_=>.nil
 | _,_,.cons r t,f=>.cons (f _ _ r) (Paired.mapP t f)
theorem Ym.stay (x:Ym P w H h a o)(k:∀b u,(b=a∨H b=some (.own a))->h.get? b=some u->h'.get? b=some u)
  (ho:∀b,H b=some (.own a)->H' b=some (.own a)) (ht:∀b xs,H b=some (.tup xs)->H' b=some (.tup xs)):Ym P w H' h' a o:=by
 induction o with
 | lst xs=>obtain⟨z,jK,n,r,e⟩:=x;exact⟨z,jK,n,r,k _ _ (.inl rfl) e⟩
 | tup xs=>obtain⟨z,jK,r,ob,e,c⟩:=x;exact⟨z,jK,r,ob,k _ _ (.inl rfl) e,c⟩
 | dK kvs=>obtain⟨z,y,vs,r,ob,es,ep,e,c⟩:=x;exact⟨z,y,vs,r,ob,es,ep,k _ _ (.inl rfl) e,c⟩
 | dT kvs=>
  obtain⟨z,y,xs,r,ob,es,ep,e,c⟩:=x;exact⟨z,y,xs,Paired.mapP r λp q z=>⟨z.1,ht _ _ z.2.1,z.2.2⟩,ob,es,ep,k _ _ (.inl rfl) e,c⟩
 | set S n=>obtain⟨ob,es,ep,t,e,c⟩:=x;exact⟨ob,es,ep,t,k _ _ (.inl rfl) e,c⟩
 | ins C dx fs=>
  obtain⟨d,z,ne,e,mA,⟨od,es,ep,e2,c⟩,r⟩:=x;exact⟨ho _ d,z,ne,k _ _ (.inl rfl) e,mA,⟨od,es,ep,k _ _ (.inr d) e2,c⟩,r⟩
 | own y=>obtain⟨ob,e⟩:=x;exact⟨ob,k _ _ (.inl rfl) e⟩
 | xd fs=>obtain⟨mA,⟨od,es,ep,e,c⟩,r⟩:=x;exact⟨mA,⟨od,es,ep,k _ _ (.inl rfl) e,c⟩,r⟩
 | rng lo hi=>obtain⟨t,u,v,e⟩:=x;exact⟨t,u,v,k _ _ (.inl rfl) e⟩
 | frz ob u ih=>obtain⟨e,q⟩:=x;exact⟨k _ _ (.inl rfl) e,ih q⟩
 | tbl ps=>
  have e:h.get? a=some { cls:=.none,data:=.fields ps }:=x;show h'.get? a=some { cls:=.none,data:=.fields ps };exact k a _ (.inl rfl) e
 | met f y=>
  have e:h.get? a=some (qb6 (.ref f) (.ref y)):=x;show h'.get? a=some (qb6 (.ref f) (.ref y));exact k a _ (.inl rfl) e
 | ext φ=>obtain⟨p,⟨o,e⟩,st⟩:=x;exact⟨st _ _ p λo q=>k _ _ (.inl rfl) q,⟨o,k _ _ (.inl rfl) e⟩,st⟩
theorem Yg.lt (x:Yg P w H h)(e:H a=some o):a<h.objs.size:=(x a o e).lt
theorem Yg.fresh (x:Yg P w H h)(e:h.objs.size<=a):H a=none:=by
 cases q:H a with
 | none=>rfl
 | some u=>exact absurd (zh (x.lt q) e) (yI _)
theorem Yg.kept (x:Yg P w H h)(k:∀b u,h.get? b=some u->h'.get? b=some u):Yg P w H h':=λa o e=>
 (x a o e).stay (λb u _ q=>k b u q) (λ_ q=>q) λ_ _ q=>q
theorem Yg.laid (x:Yg P w H h)(k:∀b u,h.get? b=some u->h'.get? b=some u)(hp:h.objs.size<=a)(new:Ym P w (Zl H a o) h' a o):Yg P w (Zl H a o) h':=λb u e=>by
 have hn:=x.fresh hp;by_cases hb:b=a
 ·subst hb;rw[ZQ]at e;cases e;exact new
 ·rw[Zx hb]at e
  exact(x b u e).stay (λc v _ q=>k c v q) (λc q=>by rw[Zx (Ys q hn)];exact q) λc xs q=>by rw[Zx (Ys q hn)];exact q
end
noncomputable def Rd (H:Hp)(a:Addr)(u:HO):Prop:=H a=some u∨∃o,H a=some (.frz o u)
theorem Rd.ok {P:xB}{w:World}{H:Hp}{h:Heap}{a:Addr}{u:HO}(r:Rd H a u)(x:Yg P w H h):Ym P w H h a u:=by
 rcases r with r | ⟨o,r⟩
 ·exact x a u r
 ·obtain⟨_,q⟩:=x a _ r
  exact q
noncomputable def BI:Option HO->Prop
 | some (.lst _)=>True
 | some (.dK _)=>True
 | some (.dT _)=>True
 | some (.set _ _)=>True
 | some (.ins _ _ _)=>True
 | some (.ext _)=>True
 | _=>False
section
variable {P:xB}{w:World}{H:Hp}{h h':Heap}{x e:Addr}{o':HO}
theorem Yg.write (ok:Yg P w H h)(mu:BI (H x))(he:e=x∨H e=some (.own x))(k:∀b u,b≠e->h.get? b=some u->h'.get? b=some u)(heo:∃u,h'.get? e=some u)
  (new:Ym P w (Zl H x o') h' x o'):Yg P w (Zl H x o') h':=λb u q=>by
 have nown:∀c y,H c=some (.own y)->c≠x:=λc y r z=>by subst z;rw[r]at mu;exact mu
 have ntup:∀c xs,H c=some (.tup xs)->c≠x:=λc xs r z=>by subst z;rw[r]at mu;exact mu
 by_cases hb:b=x
 ·subst hb;rw[ZQ]at q;cases q;exact new
 ·rw[Zx hb]at q
  by_cases hbe:b=e
  ·have q':H b=some (.own x):=by
    rcases he with z | z
    ·exact absurd (hbe.trans z) hb
    ·rw[hbe];exact z
   rw[q]at q';cases q';obtain⟨v,hv⟩:=heo;exact⟨v,by rw[hbe];exact hv⟩
  ·refine(ok b u q).stay (λc v hc r=>k c v ?_ r) (λc r=>by rw[Zx (nown c b r)];exact r) λc xs r=>by rw[Zx (ntup c xs r)];exact r
   rcases hc with rfl | hc
   ·exact hbe
   ·rintro rfl
    rcases he with z | z
    ·exact nown c b hc z
    ·rw[hc]at z;cases z;exact hb rfl
end
structure Un (fs ex:List Addr)(H H':Hp)(h h':Heap):Prop where
 keep:∀b o,h.get? b=some o->H b=none->b∉fs->b∉ex->h'.get? b=some o
 slot:∀b o,h.get? b=some o->H b=none->b∈fs->b∉ex->∃sl,h'.get? b=some { o with slots:=sl }
 free:∀b o,h.get? b=some o->H b=none->b∉ex->H' b=none
 there:∀b o,h.get? b=some o->b∉ex->∃o',h'.get? b=some o'
 tups:∀b xs,H b=some (.tup xs)->H' b=some (.tup xs)
 frzs:∀b o u,H b=some (.frz o u)->H' b=some (.frz o u)
 tbls:∀b ps,H b=some (.tbl ps)->∃more,H' b=some (.tbl (ps++more))
section
variable {fs fs' ex ex':List Addr}{H H1 H2:Hp}{h h1 h2 h':Heap}{a x e:Addr}{o:HO}
theorem Un.any (u:Un fs ex H H1 h h1){b:Addr}{ob:Obj}(q:h.get? b=some ob)(n:H b=none)(hx:b∉ex):∃sl,h1.get? b=some { ob with slots:=sl }:=by
 by_cases hb:b∈fs
 ·exact u.slot b ob q n hb hx
 ·exact⟨ob.slots,u.keep b ob q n hb hx⟩
theorem Un.kept (k:∀b u,h.get? b=some u->h'.get? b=some u):Un fs ex H H h h':=
 ⟨λb ob q _ _ _=>k b ob q,λb ob q _ _ _=>⟨ob.slots,k b ob q⟩,λ_ _ _ n _=>n,λb ob q _=>⟨ob,k b ob q⟩,λ_ _ q=>q,λ_ _ _ q=>q,λ_ ps q=>⟨#[],by rw[q];simp⟩⟩
theorem Un.refl:Un fs ex H H h h:=Un.kept λ_ _ q=>q
theorem Un.laid (k:∀b u,h.get? b=some u->h'.get? b=some u)(hp:h.objs.size<=a)(hn:H a=none):Un fs ex H (Zl H a o) h h' where
 keep:=λb u q _ _ _=>k b u q
 slot:=λb u q _ _ _=>⟨u.slots,k b u q⟩
 free:=λb u q n _=>by rw[Zx (qV (zh (qK q) hp))];exact n
 there:=λb u q _=>⟨u,k b u q⟩
 tups:=λb xs q=>by rw[Zx (Ys q hn)];exact q
 frzs:=λb u xs q=>by rw[Zx (Ys q hn)];exact q
 tbls:=λb ps q=>⟨#[],by rw[Zx (Ys q hn),q];simp⟩
theorem Un.write (mu:BI (H x))(he:e=x∨H e=some (.own x))(k:∀b u,b≠e->h.get? b=some u->h'.get? b=some u)(heo:∃u,h'.get? e=some u):Un fs ex H (Zl H x o) h h':=by
 have hx:∀b,H b=none->b≠x:=λb n z=>by subst z;rw[n]at mu;exact mu
 have hb:∀b,H b=none->b≠e:=λb n z=>by
  subst z;rcases he with r | r
  ·exact hx b n r
  ·rw[n]at r;cases r
 have hm:∀b u,H b=some u->¬BI (some u)->b≠x:=λb u q nm z=>by subst z;rw[q]at mu;exact nm mu
 refine⟨λb u q n _ _=>k b u (hb b n) q,λb u q n _ _=>⟨u.slots,k b u (hb b n) q⟩,λb u q n _=>by rw[Zx (hx b n)];exact n,λb u q _=>?_,
  λb xs q=>by rw[Zx (hm b _ q λz=>z)];exact q,λb u xs q=>by rw[Zx (hm b _ q λz=>z)];exact q,λb ps q=>⟨#[],by rw[Zx (hm b _ q λz=>z),q];simp⟩⟩
 by_cases hbe:b=e
 ·subst hbe;exact heo
 ·exact⟨u,k b u hbe q⟩
end
noncomputable def trk (h:Heap)(H:Hp):List Addr:=(qk h.objs.size).filter λa=>(H a).isSome
noncomputable def W3 (h:Heap)(H:Hp):Heap:=PySem.W.hideAll h (trk h H)
theorem ZhU (h:Heap)(H:Hp):(W3 h H).objs.size=h.objs.size:=qcL _ _
theorem Zi8 {h:Heap}{H:Hp}{b:Addr}{o:Obj}(e:h.get? b=some o)(n:H b=none):(W3 h H).get? b=some o:=
 qc4 _ e λhm=>by
  have q:(H b).isSome=true:=(qO.mp hm).2;rw[n]at q;simp at q
theorem Zla {h:Heap}{H:Hp}{b:Addr}{o:Obj}(e:(W3 h H).get? b=some o):h.get? b=some o/\H b=none:=by
 have e':h.get? b=some o:=PySem.W.of_hideAll (trk h H) e;refine⟨e',?_⟩
 cases q:H b with
 | none=>rfl
 | some x=>
  have hm:b∈trk h H:=qO.mpr ⟨qD.mpr (qK e'),by simp[q]⟩;have z:(W3 h H).get? b=none:=qcM (trk h H) hm;rw[z]at e;cases e
structure Mod (K:qm)(mg:Str->Option Value)(base:Heap):Prop where
 kin:K.In base
 glob:base.Ns mainGlobals mg
 blt:∃mb,base.Ns builtinsNs mb/\∀x:Str,x≠"__name__"->mb x=xj x
 nolimit:base.NoLimit
structure Cx where
 prog:xB
 w:World
 K:qm
 mg:Str->Option Value
 base:Heap
 A:xC
 N:List Str
 s₀:Shared
 H₀:Hp
 env:Env
 outer:List Env
 stack:List Env
 ex:List Addr
 fn:Str->Bool
 calm:Bool
 pn:Qb
 xe:xD
noncomputable def XS (l:List Env):List Addr:=l.filterMap (·.frame)
noncomputable abbrev Cx.fs (X:Cx):List Addr:=XS X.outer
noncomputable def BJ (sc:Scope)(x:Str):Prop:=sc.names.lookup x=some .local∨sc.names.lookup x=some .cell∨sc.names.lookup x=some .free
noncomputable def W6 (sc:Scope)(x:Str):Prop:=sc.names.lookup x=some .local∨sc.names.lookup x=some .cell
noncomputable def Look (env:Env)(h:Heap)(m:Str->Option Value)(x:Str)(u:Value):Prop:=
 (env.kindOf x=some .local/\m x=some u)∨((env.kindOf x=some .cell∨env.kindOf x=some .free)/\∃c,env.cells.lookup x=some c/\h.IsCell c (some u))
structure Cx.Ok (X:Cx):Prop where
 mod:Mod X.K X.mg X.base
 kind:X.env.scope.kind=.function
 glob:X.env.globals=mainGlobals
 blt:X.env.builtins=builtinsNs
 above:X.s₀.heap.objs.size<=X.env.locals
 inj:∀x y c,X.env.cells.lookup x=some c->X.env.cells.lookup y=some c->x=y
 has:∀x,(X.env.kindOf x=some .cell∨X.env.kindOf x=some .free)->∃c,X.env.cells.lookup x=some c
 cab:∀x c,X.fn x=true->X.env.cells.lookup x=some c->X.s₀.heap.objs.size<=c
 hd:X.calm=true->X.A.handled=none
 frames:X.A.frames=some X.stack
 stk:X.stack=X.outer∨(X.stack=X.env::X.outer/\X.env.frame=some X.env.locals)
 exf:∀b∈X.ex,b≠X.env.locals/\∀x c,X.env.cells.lookup x=some c->c≠b
 bs:∀b o,X.base.get? b=some o->X.s₀.heap.get? b=some o/\X.H₀ b=none
 bsz:X.base.objs.size<=X.s₀.heap.objs.size
 noex:∀b o,X.base.get? b=some o->b∉X.ex
 exfs:∀b∈X.ex,b∉X.fs
 funs:X.s₀.heap.FunFrames X.base X.outer
 frf:∀b∈X.fs,X.H₀ b=none
structure Inv (X:Cx)(jI:Qb)(σ:List (Option V))(H:Hp)(s:Shared):Prop where
 ok:X.Ok
 os:s.os=X.s₀.os
 bare:AllBare s.gens
 base:Un X.fs X.ex X.H₀ H X.s₀.heap s.heap
 loc:∃m,s.heap.Ns X.env.locals m/\∀(i:Nat) (x:Str) (v:V),X.N[i]?=some x->σ[i]?=some (some v)->BJ X.env.scope x->∃u,ZI v u/\Look X.env s.heap m x u
 cell:∀x c,X.env.cells.lookup x=some c->∃v,s.heap.IsCell c v
 free:H X.env.locals=none
 freeC:∀x c,X.env.cells.lookup x=some c->H c=none
 pin:∀p∈X.pn++jI,s.heap.get? p.1=some p.2/\H p.1=none/\p.1≠X.env.locals/\p.1∉X.fs/\∀v,p.2.data≠.cell v
 hok:Yg X.prog X.w H s.heap
 len:σ.length=X.N.length
section
variable {X:Cx}{jI:Qb}{σ:List (Option V)}{H H':Hp}{s:Shared}{h':Heap}
theorem Cx.Ok.nofr (ok:X.Ok){b:Addr}{o:Obj}(e:X.base.get? b=some o):b∉X.fs:=λhb=>by
 have:=(ok.funs.mem hb).1;rw[e]at this;cases this
theorem Inv.bs (I:Inv X jI σ H s):∀b o,X.base.get? b=some o->s.heap.get? b=some o/\H b=none:=λb o e=>
 ⟨I.base.keep b o (I.ok.bs b o e).1 (I.ok.bs b o e).2 (I.ok.nofr e) (I.ok.noex b o e),I.base.free b o (I.ok.bs b o e).1 (I.ok.bs b o e).2 (I.ok.noex b o e)⟩
theorem Inv.bk (I:Inv X jI σ H s):∀b o,X.base.get? b=some o->s.heap.get? b=some o:=λb o e=>(I.bs b o e).1
theorem Inv.mod (I:Inv X jI σ H s):Mod X.K X.mg X.base:=I.ok.mod
theorem Inv.kIn (I:Inv X jI σ H s):X.K.In s.heap:=I.ok.mod.kin.keeps I.bk
theorem Inv.lt (I:Inv X jI σ H s):X.env.locals<s.heap.objs.size:=let ⟨_,hn,_⟩:=I.loc;hn.lt
theorem Inv.sz (I:Inv X jI σ H s):X.s₀.heap.objs.size<=s.heap.objs.size:=zi I.ok.above (qcd I.lt)
theorem Inv.nofs (I:Inv X jI σ H s){a:Addr}(h:s.heap.objs.size<=a):a∉X.fs:=λhb=>by
 obtain⟨_,o,ho,_⟩:=I.ok.funs.mem hb;exact absurd (zh (qK ho) (zi I.sz h)) (yI _)
theorem Inv.cne (I:Inv X jI σ H s):∀x c,X.env.cells.lookup x=some c->c≠X.env.locals:=λx c e z=>by
 obtain⟨v,o,ho,hd⟩:=I.cell x c e;obtain⟨m,⟨o',es,ep,ho',hd',_⟩,_⟩:=I.loc;rw[z,ho']at ho;cases ho;rw[hd']at hd;cases hd
theorem Inv.funs (I:Inv X jI σ H s):s.heap.FunFrames X.base X.outer:=by
 have all:∀(l:List Env),(∀b∈XS l,b∈X.fs)->X.s₀.heap.FunFrames X.base l->s.heap.FunFrames X.base l:=by
  intro l
  induction l with
  | nil=>intro _ _;trivial
  | cons env r ih=>
   intro hs hl;obtain⟨hk,⟨L,o,hf,hn,ho,hd⟩,hr⟩:=hl;have hL:L∈X.fs:=hs L (by unfold XS;rw[yF,hf];exact zG);obtain⟨sl,e⟩:=I.base.slot L o ho (I.ok.frf L hL) hL λz=>I.ok.exfs L z hL;exact⟨hk,⟨L,_,hf,hn,e,hd⟩,ih (λb hb=>hs b (by unfold XS;rw[yF,hf];exact qQ _ hb)) hr⟩
 exact all X.outer (λ_ hb=>hb) I.ok.funs
theorem Inv.stack (I:Inv X jI σ H s):s.heap.FunFrames X.base X.stack:=by
 rcases I.ok.stk with e | ⟨e,hf⟩
 ·rw[e];exact I.funs
 ·rw[e]
  obtain⟨m,hn,_⟩:=I.loc;refine .cons (by rw[I.ok.kind];decide) hf hn ?_ I.funs;exact qcN (zi I.ok.bsz I.ok.above)
theorem Inv.stkSub (I:Inv X jI σ H s):∀b∈XS X.stack,b∈X.env.locals::X.fs:=λb hb=>by
 rcases I.ok.stk with e | ⟨e,hf⟩
 ·rw[e]at hb;exact qQ _ hb
 ·rw[e]at hb
  unfold XS at hb;rw[yF,hf]at hb;exact hb
theorem Inv.stkFree (I:Inv X jI σ H s):∀b∈XS X.stack,H b=none:=λb hb=>by
 rcases qq.mp (I.stkSub b hb)with e | hb
 ·rw[e];exact I.free
 ·obtain⟨_,o,ho,_⟩:=I.ok.funs.mem hb
  exact I.base.free b o ho (I.ok.frf b hb) λz=>I.ok.exfs b z hb
theorem Inv.step {g':Array GenState}{t':Nat}{d':Drawn}{ch:List Addr}(I:Inv X jI σ H s)
  (hch:∀b∈ch,(b∈X.ex∨X.s₀.heap.objs.size<=b)/\b≠X.env.locals/\(∀x c,X.env.cells.lookup x=some c->c≠b)/\∀p∈X.pn++jI,p.1≠b)
  (keep:∀b o,b≠X.env.locals->b∉X.fs->b∉ch->s.heap.get? b=some o->H b=none->h'.get? b=some o)
  (slot:∀b o,b≠X.env.locals->b∈X.fs->b∉ch->s.heap.get? b=some o->H b=none->∃sl,h'.get? b=some { o with slots:=sl }) (free:∀b o,b∉ch->s.heap.get? b=some o->H b=none->H' b=none)
  (there:∀b o,b∉ch->s.heap.get? b=some o->∃o',h'.get? b=some o')
  (tups:∀b xs,H b=some (.tup xs)->H' b=some (.tup xs)) (frzs:∀b o u,H b=some (.frz o u)->H' b=some (.frz o u)) (tbls:∀b ps,H b=some (.tbl ps)->∃more,H' b=some (.tbl (ps++more)))
  (ns:∀m,s.heap.Ns X.env.locals m->h'.Ns X.env.locals m) (hok:Yg X.prog X.w H' h') (hg:AllBare g') :
  Inv X jI σ H' { s with heap:=h',gens:=g',drawn:=d',toks:=t' }:=by
 have neL:∀b o,X.s₀.heap.get? b=some o->b≠X.env.locals:=λb o e=>qV (zh (qK e) I.ok.above);have neC:∀b o,X.s₀.heap.get? b=some o->b∉X.ex->b∉ch:=λb o e hx hb=>by
  rcases (hch b hb).1 with z | z
  ·exact hx z
  ·exact absurd (zh (qK e) z) (yI _)
 have cellK:∀x c,X.env.cells.lookup x=some c->∀v,s.heap.IsCell c v->h'.IsCell c v:=λx c e v ⟨o,ho,hd⟩=>by
  have nch:c∉ch:=λz=>(hch c z).2.2.1 x c e rfl;by_cases hc:c∈X.fs
  ·obtain⟨sl,q⟩:=slot c o (I.cne x c e) hc nch ho (I.freeC x c e)
   exact⟨_,q,hd⟩
  ·exact⟨o,keep c o (I.cne x c e) hc nch ho (I.freeC x c e),hd⟩
 refine⟨I.ok,I.os,hg,⟨λb o e n hb hx=>?_,λb o e n hb hx=>?_,λb o e n hx=>?_,λb o e hx=>?_,λb xs e=>tups b xs (I.base.tups b xs e),λb o xs e=>frzs b o xs (I.base.frzs b o xs e),λb ps e=>?_⟩,?_,λx c e=>?_,?_,λx c e=>?_,λp hp=>?_,hok,I.len⟩
 ·exact keep b o (neL b o e) hb (neC b o e hx) (I.base.keep b o e n hb hx) (I.base.free b o e n hx)
 ·obtain⟨sl,e1⟩:=I.base.slot b o e n hb hx
  obtain⟨sl',e2⟩:=slot b _ (neL b o e) hb (neC b o e hx) e1 (I.base.free b o e n hx);exact⟨sl',e2⟩
 ·obtain⟨o',e1⟩:=I.base.there b o e hx
  exact free b o' (neC b o e hx) e1 (I.base.free b o e n hx)
 ·obtain⟨o',e1⟩:=I.base.there b o e hx
  exact there b o' (neC b o e hx) e1
 ·obtain⟨m1,e1⟩:=I.base.tbls b ps e
  obtain⟨m2,e2⟩:=tbls b _ e1;exact⟨m1++m2,by rw[e2,Array.append_assoc]⟩
 ·obtain⟨m,hn,hl⟩:=I.loc
  refine⟨m,ns m hn,λi x v e1 e2 e3=>?_⟩;obtain⟨u,r,l⟩:=hl i x v e1 e2 e3;refine⟨u,r,?_⟩;rcases l with l | ⟨k,c,e,z⟩
  ·exact .inl l
  ·exact .inr ⟨k,c,e,cellK x c e _ z⟩
 ·obtain⟨v,z⟩:=I.cell x c e
  exact⟨v,cellK x c e v z⟩
 ·obtain⟨m,⟨o,_,_,ho,_⟩,_⟩:=I.loc
  exact free _ o (λz=>(hch _ z).2.1 rfl) ho I.free
 ·obtain⟨v,o,ho,hd⟩:=I.cell x c e
  exact free c o (λz=>(hch c z).2.2.1 x c e rfl) ho (I.freeC x c e)
 ·obtain⟨e,n,ne,nf,d⟩:=I.pin p hp
  have nch:p.1∉ch:=λz=>(hch p.1 z).2.2.2 p hp rfl;exact⟨keep p.1 p.2 ne nf nch e n,free p.1 p.2 nch e n,ne,nf,d⟩
theorem Inv.un {t':Nat}(I:Inv X jI σ H s)(u:Un X.fs [] H H' s.heap h')(hok:Yg X.prog X.w H' h'):Inv X jI σ H' { s with heap:=h',toks:=t' }:=by
 obtain⟨m,⟨o,es,ep,ho,r⟩,_⟩:=id I.loc;obtain⟨sl,hL⟩:=u.any ho I.free (by simp);exact I.step (g':=s.gens) (d':=s.drawn) (ch:=[]) (λ_ z=>nomatch z) (λb o _ hb _ e n=>u.keep b o e n hb (by simp)) (λb o _ hb _ e n=>u.slot b o e n hb (by simp)) (λb o _ e n=>u.free b o e n (by simp)) (λb o _ e=>u.there b o e (by simp)) u.tups u.frzs u.tbls (λm' hm=>by
  obtain⟨o',es',ep',ho',r'⟩:=hm;rw[ho]at ho';cases ho';exact⟨_,es',ep',hL,r'⟩) hok I.bare
theorem Inv.call {g':Array GenState}{t':Nat}{d':Drawn}{ch:List Addr}(I:Inv X jI σ H s)(u:Un (XS X.stack) ch H H' s.heap h')(hok:Yg X.prog X.w H' h')(hg:AllBare g')
  (hch:∀b∈ch,(b∈X.ex∨X.s₀.heap.objs.size<=b)/\b≠X.env.locals/\(∀x c,X.env.cells.lookup x=some c->c≠b)/\∀p∈X.pn++jI,p.1≠b) :
  Inv X jI σ H' { s with heap:=h',gens:=g',drawn:=d',toks:=t' }:=by
 obtain⟨m,⟨o,es,ep,ho,r⟩,_⟩:=id I.loc;obtain⟨sl,hL⟩:=u.any ho I.free λz=>(hch _ z).2.1 rfl;exact I.step (ch:=ch) hch (λb o hL hb hc e n=>u.keep b o e n (λz=>(qq.mp (I.stkSub b z)).elim hL hb) hc) (λb o _ _ hc e n=>u.any e n hc) (λb o hc e n=>u.free b o e n hc) (λb o hc e=>u.there b o e hc) u.tups u.frzs u.tbls (λm' hm=>by
  obtain⟨o',es',ep',ho',r'⟩:=hm;rw[ho]at ho';cases ho';exact⟨_,es',ep',hL,r'⟩) hok hg
theorem Inv.turned {t':Nat}{it:Addr}(I:Inv X jI σ H s)(k:∀b o,b≠it->s.heap.get? b=some o->h'.get? b=some o)(hn:H it=none)(hL:it≠X.env.locals)
  (h1:it∈X.ex∨X.s₀.heap.objs.size<=it) (h2:∀x c,X.env.cells.lookup x=some c->c≠it) (h3:∀p∈X.pn++jI,p.1≠it):Inv X jI σ H { s with heap:=h',toks:=t' }:=by
 have nit:∀b u,H b=some u->b≠it:=λb u e z=>by rw[z,hn]at e;cases e
 refine I.step (g':=s.gens) (d':=s.drawn) (ch:=[it]) (λb hb=>?_) (λb o _ _ hc e _=>k b o (λz=>hc (by simp[z])) e) (λb o _ _ hc e _=>⟨o.slots,k b o (λz=>hc (by simp[z])) e⟩) (λ_ _ _ _ n=>n)
  (λb o hc e=>⟨o,k b o (λz=>hc (by simp[z])) e⟩) (λ_ _ e=>e) (λ_ _ _ e=>e) (λb ps e=>⟨#[],by rw[e];simp⟩) (λm hm=>?_) (λb u e=>?_) I.bare
 ·have e:b=it:=by simpa using hb
  subst e;exact⟨h1,hL,h2,h3⟩
 ·obtain⟨o,es,ep,ho,r⟩:=hm
  exact⟨o,es,ep,k _ o (zH hL) ho,r⟩
 ·refine(I.hok b u e).stay (λc v hc q=>k c v ?_ q) (λ_ q=>q) λ_ _ q=>q
  rcases hc with z | z
  ·rw[z];exact nit b u e
  ·exact nit c _ z
theorem Inv.tok (I:Inv X jI σ H s)(t:Nat):Inv X jI σ H { s with toks:=t }:=I.un (h':=s.heap) (t':=t) Un.refl I.hok
theorem Inv.kept {t':Nat}(I:Inv X jI σ H s)(k:∀b u,s.heap.get? b=some u->h'.get? b=some u):Inv X jI σ H { s with heap:=h',toks:=t' }:=I.un (Un.kept k) (I.hok.kept k)
theorem Inv.laid {a:Addr}{o:HO}{t':Nat}(I:Inv X jI σ H s)(k:∀b u,s.heap.get? b=some u->h'.get? b=some u)(hp:s.heap.objs.size<=a)(new:Ym X.prog X.w (Zl H a o) h' a o) :
  Inv X jI σ (Zl H a o) { s with heap:=h',toks:=t' }:=I.un (Un.laid k hp (I.hok.fresh hp)) (I.hok.laid k hp new)
theorem Inv.write {x e:Addr}{o:HO}{t':Nat}(I:Inv X jI σ H s)(mu:BI (H x))(he:e=x∨H e=some (.own x))(k:∀b u,b≠e->s.heap.get? b=some u->h'.get? b=some u)(heo:∃u,h'.get? e=some u)
  (new:Ym X.prog X.w (Zl H x o) h' x o):Inv X jI σ (Zl H x o) { s with heap:=h',toks:=t' }:=I.un (Un.write mu he k heo) (I.hok.write mu he k heo new)
theorem Inv.pins_of {pins':Qb}(I:Inv X jI σ H s)(h:∀p∈pins',s.heap.get? p.1=some p.2/\H p.1=none/\p.1≠X.env.locals/\p.1∉X.fs/\∀v,p.2.data≠.cell v):Inv X pins' σ H s:=
 ⟨I.ok,I.os,I.bare,I.base,I.loc,I.cell,I.free,I.freeC,λp hp=>(qR.mp hp).elim (λz=>I.pin p (yB _ z)) (h p),I.hok,I.len⟩
theorem Zfa {N:List Str}(hN:N.Nodup){i j:Nat}{x:Str}(a:N[i]?=some x)(b:N[j]?=some x):i=j:=by
 obtain⟨h1,e1⟩:=qw.mp a;obtain⟨h2,e2⟩:=qw.mp b;exact(List.getElem_inj hN).mp (e1.trans e2.symm)
theorem ZhV {M:Model}{A:xC}{E:xD}{i:Nat}{x:Str}{v:V}{u:Value}{Q:Unit->Shared->Prop}(I:Inv X jI σ H s)(hN:X.N.Nodup)(hi:X.N[i]?=some x)(hx:W6 X.env.scope x)(r:ZI v u)
  (h:∀s',Inv X jI (σ.set i (some v)) H s'->(∃a,yi a s.heap s'.heap/\(a=X.env.locals∨X.env.cells.lookup x=some a))->Q () s') (hf:X.fn x=true∨X.env.scope.names.lookup x=some .local:=by first | exact .inl rfl | exact .inr rfl | assumption):xf M A (storeName X.env x u) Q E s:=by
 obtain⟨m,hn,hl⟩:=id I.loc;have hcls:(X.env.scope.kind == .class||(X.env.scope.kind == .module&&X.env.locals != X.env.globals))=false:=by rw[I.ok.kind];rfl
 have hiσ:i < σ.length:=by rw[I.len];exact(qw.mp hi).1
 have cne:=I.cne;have tracked:∀{a:Addr} {h':Heap},(∃o,s.heap.get? a=some o/\H a=none)->yi a s.heap h'->Yg X.prog X.w H h':=λ{a h'} ha hs b ob e=>by
  obtain⟨_,_,hfree⟩:=ha;refine(I.hok b ob e).stay (λc w' hc q=>(hs.2 c ?_).trans q) (λ_ q=>q) λ_ _ q=>q;rintro rfl;rcases hc with rfl | hc
  ·rw[hfree]at e;cases e
  ·rw[hfree]at hc;cases hc
 rcases hx with hk | hk
 ·refine wpAny_storeName_local hk hn (λh' hn' hs=>?_) hcls
  obtain⟨oL,_,_,hoL,_⟩:=id hn;refine h _ ⟨I.ok,I.os,I.bare,⟨λb o e n hb hx=>?_,λb o e n hb hx=>?_,I.base.free,λb o e hx=>?_,I.base.tups,I.base.frzs,I.base.tbls⟩,⟨_,hn',λj y v' e1 e2 e3=>?_⟩,λy c e=>?_,I.free,I.freeC,λp hp=>?_,tracked ⟨oL,hoL,I.free⟩ hs,by simpa using I.len⟩ ⟨_,hs,.inl rfl⟩
  ·exact(hs.2 b (qV (zh (qK e) I.ok.above))).trans (I.base.keep b o e n hb hx)
  ·obtain⟨sl,e1⟩:=I.base.slot b o e n hb hx
   exact⟨sl,(hs.2 b (qV (zh (qK e) I.ok.above))).trans e1⟩
  ·obtain⟨o',e1⟩:=I.base.there b o e hx
   exact⟨o',(hs.2 b (qV (zh (qK e) I.ok.above))).trans e1⟩
  ·by_cases hj:j=i
   ·subst hj
    rw[hi]at e1;cases e1;rw[zB hiσ]at e2
    cases e2
    exact⟨u,r,.inl ⟨hk,by simp⟩⟩
   ·rw[za (zH hj)]at e2
    obtain⟨u',r',q⟩:=hl j y v' e1 e2 e3;refine⟨u',r',?_⟩;rcases q with⟨k,e⟩ | ⟨k,c,e,z⟩
    ·refine .inl ⟨k,?_⟩
     have:y≠x:=λe=>hj (Zfa hN e1 (e▸hi));simp[this,e]
    ·exact .inr ⟨k,c,e,z.sameBut hs (cne y c e)⟩
  ·obtain⟨w',z⟩:=I.cell y c e
   exact⟨w',z.sameBut hs (cne y c e)⟩
  ·obtain⟨e,n,ne,nf,d⟩:=I.pin p hp
   exact⟨(hs.2 p.1 ne).trans e,n,ne,nf,d⟩
 ·have hfn:X.fn x=true:=by
   rcases hf with z | z
   ·exact z
   ·rw[z]at hk;cases hk
  obtain⟨c,hc⟩:=I.ok.has x (.inl hk);obtain⟨w',z⟩:=I.cell x c hc;refine wpAny_storeName_cell I.ok.kind hk hc z (λh' hc' hs=>?_);obtain⟨oc,hoc,hocd⟩:=id z;refine h { s with heap:=h' } ⟨I.ok,I.os,I.bare,⟨λb o e n hb hx=>?_,λb o e n hb hx=>?_,I.base.free,λb o e hx=>?_,I.base.tups,I.base.frzs,I.base.tbls⟩,⟨m,hn.sameBut hs (zH (cne x c hc)),λj y v' e1 e2 e3=>?_⟩,λy c' e=>?_,I.free,I.freeC,λp hp=>?_,tracked ⟨oc,hoc,I.freeC x c hc⟩ hs,by simpa using I.len⟩ ⟨c,hs,.inr hc⟩
  ·exact(hs.2 b (qV (zh (qK e) (I.ok.cab x c hfn hc)))).trans (I.base.keep b o e n hb hx)
  ·obtain⟨sl,e1⟩:=I.base.slot b o e n hb hx
   exact⟨sl,(hs.2 b (qV (zh (qK e) (I.ok.cab x c hfn hc)))).trans e1⟩
  ·obtain⟨o',e1⟩:=I.base.there b o e hx
   exact⟨o',(hs.2 b (qV (zh (qK e) (I.ok.cab x c hfn hc)))).trans e1⟩
  ·by_cases hj:j=i
   ·subst hj
    rw[hi]at e1;cases e1;rw[zB hiσ]at e2
    cases e2
    exact⟨u,r,.inr ⟨.inl hk,c,hc,hc'⟩⟩
   ·rw[za (zH hj)]at e2
    obtain⟨u',r',q⟩:=hl j y v' e1 e2 e3;refine⟨u',r',?_⟩;rcases q with q | ⟨k,c',e,z'⟩
    ·exact .inl q
    ·refine .inr ⟨k,c',e,z'.sameBut hs ?_⟩
     rintro rfl;exact hj (Zfa hN e1 (I.ok.inj _ _ _ e hc▸hi))
  ·by_cases hcc:c'=c
   ·subst hcc;exact⟨_,hc'⟩
   ·obtain⟨w2,z2⟩:=I.cell y c' e
    exact⟨w2,z2.sameBut hs hcc⟩
  ·obtain⟨e,n,ne,nf,d⟩:=I.pin p hp
   refine⟨(hs.2 p.1 ?_).trans e,n,ne,nf,d⟩;intro q;rw[q,hoc]at e;have q':oc=p.2:=zw e;exact d w' (by rw[<-q'];exact hocd)
theorem Zbn {M:Model}{A:xC}{E:xD}{i:Nat}{x:Str}{v:V}{u:Value}{Q:Unit->Shared->Prop}(I:Inv X jI σ H s)(hN:X.N.Nodup)(hi:X.N[i]?=some x)(hx:W6 X.env.scope x)(r:ZI v u)
  (h:∀s',Inv X jI (σ.set i (some v)) H s'->Q () s') (hf:X.fn x=true∨X.env.scope.names.lookup x=some .local:=by first | exact .inl rfl | exact .inr rfl | assumption):xf M A (storeName X.env x u) Q E s:=
 ZhV I hN hi hx r (λs' I' _=>h s' I') hf
theorem Inv.call' {s':Shared}{ch:List Addr}(I:Inv X jI σ H s)(ho:s'.os=s.os)(u:Un (XS X.stack) ch H H' s.heap s'.heap)(hok:Yg X.prog X.w H' s'.heap)(hg:AllBare s'.gens)
  (hch:∀b∈ch,(b∈X.ex∨X.s₀.heap.objs.size<=b)/\b≠X.env.locals/\(∀x c,X.env.cells.lookup x=some c->c≠b)/\∀p∈X.pn++jI,p.1≠b):Inv X jI σ H' s':=by
 obtain⟨h',g',d',t',o'⟩:=s';have e:o'=s.os:=ho;subst e;exact I.call (g':=g') (t':=t') (d':=d') u hok hg hch
end
noncomputable abbrev XK:=Value->Option Addr->Hp->Prop
noncomputable abbrev St:=List (Option V)
noncomputable abbrev VK:=V->Hp->Prop
noncomputable abbrev TE:=St->Hp->VK->Prop
noncomputable abbrev TT:=St->Hp->(Bool->Hp->Prop)->Prop
noncomputable abbrev TA:=St->Hp->(List V->Hp->Prop)->Prop
structure Ends where
 nx:St->Hp->Prop
 rt:VK
 bk:St->Hp->Prop:=λ_ _=>False
 ct:St->Hp->Prop:=λ_ _=>False
noncomputable abbrev TS:=Ends->St->Hp->Prop
noncomputable def EP (X:Cx)(jI:Qb)(σ:St)(Q:VK)(u:Value)(s':Shared):Prop:=∃v H',Inv X jI σ H' s'/\ZI v u/\Q v H'
noncomputable def TP (X:Cx)(jI:Qb)(σ:St)(Q:Bool->Hp->Prop)(b:Bool)(s':Shared):Prop:=∃H',Inv X jI σ H' s'/\Q b H'
noncomputable def AP (X:Cx)(jI:Qb)(σ:St)(Q:List V->Hp->Prop)(us:List Value)(s':Shared):Prop:=∃vs H',Inv X jI σ H' s'/\Zu vs us/\Q vs H'
noncomputable def SP (X:Cx)(jI:Qb)(D:Ends)(f:Flow)(s':Shared):Prop:=
 match f with
 | .next=>∃σ' H',Inv X jI σ' H' s'/\D.nx σ' H'
 | .brk=>∃σ' H',Inv X jI σ' H' s'/\D.bk σ' H'
 | .cont=>∃σ' H',Inv X jI σ' H' s'/\D.ct σ' H'
 | .ret u=>∃v σ' H',Inv X jI σ' H' s'/\ZI v u/\D.rt v H'
noncomputable def PE (X:Cx)(e:Expr)(t:TE):Prop:=
 ∀(jI:Qb) (s:Shared) (σ:St) (H:Hp) (Q:VK),Inv X jI σ H s->t σ H Q->xf (xz X.prog X.w) X.A (eval e X.env) (EP X jI σ Q) X.xe s
noncomputable def PT (X:Cx)(e:Expr)(t:TT):Prop:=
 ∀(jI:Qb) (s:Shared) (σ:St) (H:Hp) (Q:Bool->Hp->Prop),Inv X jI σ H s->t σ H Q->xf (xz X.prog X.w) X.A (isTrue e X.env (eval e X.env)) (TP X jI σ Q) X.xe s
noncomputable def PW (X:Cx)(e:Expr)(t:TT):Prop:=
 ∀(whole:Sem Value) (jI:Qb) (s:Shared) (σ:St) (H:Hp) (Q:Bool->Hp->Prop),Inv X jI σ H s->t σ H Q->xf (xz X.prog X.w) X.A (isTrue e X.env whole) (TP X jI σ Q) X.xe s
theorem PW.pt {X:Cx}{e:Expr}{t:TT}(h:PW X e t):PT X e t:=h _
noncomputable def PA (X:Cx)(es:List Expr)(t:TA):Prop:=
 ∀(pos:Pos) (jI:Qb) (s:Shared) (σ:St) (H:Hp) (Q:List V->Hp->Prop),Inv X jI σ H s->t σ H Q->xf (xz X.prog X.w) X.A (spliced (backTo pos (xh es X.env))) (AP X jI σ Q) X.xe s
noncomputable def PS (X:Cx)(st:Stmt)(t:TS):Prop:=
 ∀(jI:Qb) (s:Shared) (σ:St) (H:Hp) (D:Ends),Inv X jI σ H s->t D σ H->xf (xz X.prog X.w) X.A (exec st X.env) (SP X jI D) X.xe s
noncomputable def Wb (X:Cx)(st:List Stmt)(t:TS):Prop:=
 ∀(jI:Qb) (s:Shared) (σ:St) (H:Hp) (D:Ends),Inv X jI σ H s->t D σ H->xf (xz X.prog X.w) X.A (execs st X.env) (SP X jI D) X.xe s
theorem ZJ {α:Type}{t:Sem α}{Q Q':α->Shared->Prop}{M:Model}{A:xC}{E:xD}{s:Shared}(h:xf M A t Q E s)(hQ:∀a s,Q a s->Q' a s):xf M A t Q' E s:=xc h hQ λ_ _ x=>x
section
variable {X:Cx}
noncomputable def Yx (i:Nat):TE:=fun σ H Q=>∃v,σ[i]?=some (some v)/\Q v H
noncomputable def tC (v:V):TE:=λ_ H Q=>Q v H
theorem ZmT {i:Nat}{x:Str}{pos:Pos}(hN:X.N[i]?=some x)(hv:BJ X.env.scope x)(hd:(x==("__debug__" : Str))=false:=by decide)(hcd:(x==("__classdict__" : Str))=false:=by decide):PE X (.Name x pos) (Yx i):=by
 intro jI s σ H Q I h;obtain⟨v,e,h⟩:=h;obtain⟨m,hn,hl⟩:=I.loc;obtain⟨u,r,l⟩:=hl i x v hN e hv;have fin:EP X jI σ Q u s:=⟨v,H,I,r,h⟩;rcases l with⟨hk,hm⟩ | ⟨hk,c,hc,hcell⟩
 ·exact wpAny_Name (wpAny_loadName_local I.ok.kind hk hn hm fin) hd
 ·rcases hk with hk | hk
  ·exact wpAny_Name (wpAny_loadName_cell I.ok.kind hk hc hcell fin) hd
  ·exact wpAny_Name (wpAny_loadName_free I.ok.kind hk hc hcell fin hcd) hd
theorem Xh {i j pos}:PE X (.Constant (.int i) j pos) (tC (.int i)):=λ_ _ _ H _ I h=>wpAny_Constant_int ⟨.int i,H,I.tok _,⟨_,rfl⟩,h⟩
theorem Zn8 {b j pos}:PE X (.Constant (.bool b) j pos) (tC (.bl b)):=λ_ _ _ H _ I h=>Constant_bool ⟨.bl b,H,I,rfl,h⟩
noncomputable def Gl (X:Cx)(x:Str):Prop:=X.env.kindOf x=some .globalImplicit
theorem Zhd {E:xD}{jI:Qb}{s:Shared}{σ:St}{H:Hp}{x:Str}{u:Value}{pos:Pos}{Q:xD}(I:Inv X jI σ H s)(hg:Gl X x)(hm:X.mg x=some u)(h:Q u s)
  (hd:(x==("__debug__" : Str))=false:=by decide):xf (xz X.prog X.w) X.A (eval (.Name x pos) X.env) Q E s:=
 qbZ I.ok.kind hg (Calls.loadGlobal_global (by rw[I.ok.glob];exact I.mod.glob.keeps I.bk) hm h) hd
theorem Uw {E:xD}{jI:Qb}{s:Shared}{σ:St}{H:Hp}{x:Str}{u:Value}{pos:Pos}{Q:xD}(I:Inv X jI σ H s)(hg:Gl X x)(hm:X.mg x=none)(hv:xj x=some u)(h:Q u s)
  (hn:x≠"__name__":=by decide) (hd:(x==("__debug__" : Str))=false:=by decide):xf (xz X.prog X.w) X.A (eval (.Name x pos) X.env) Q E s:=by
 obtain⟨mb,h1,h2⟩:=I.mod.blt;exact qbZ I.ok.kind hg (Calls.loadGlobal_builtin (by rw[I.ok.glob];exact I.mod.glob.keeps I.bk) hm (by rw[I.ok.blt];exact h1.keeps I.bk) ((h2 x hn).trans hv) h) hd
theorem Zlb {x:Str}{v:V}{u:Value}{pos:Pos}(hg:Gl X x)(hm:X.mg x=none)(hv:xj x=some u)(r:ZI v u)(hn:x≠"__name__":=by decide)(hd:(x==("__debug__" : Str))=false:=by decide):PE X (.Name x pos) (tC v):=
 λ_ _ _ H _ I h=>Uw I hg hm hv ⟨v,H,I,r,h⟩ hn hd
variable {a b:Expr}{ta tb:TE}{pos:Pos}
noncomputable def tB (t:TE):TT:=fun σ H Q=>t σ H λx H1=>∃c,x=.bl c/\Q c H1
theorem ZmU {e:Expr}{t:TE}(h:PE X e t)(he:∀whole,isTrue e X.env whole=(do let v<-whole;standAt e.pos;holding [v] (truthy v)):=by intro _;rfl):PT X e (tB t):=by
 intro jI s σ H Q I hw;refine isTrue_plain (ZJ (h jI s σ H _ I hw) λv s1 ⟨x,H1,I1,r1,q1⟩=>?_) (he _);obtain⟨d,rfl,q⟩:=q1
 cases r1
 exact wpAny_truthy_bool ⟨H1,I1,q⟩
variable {tA tB':TT}{rest:List Expr}
noncomputable def tAnd (t u:TT):TT:=fun σ H Q=>t σ H λc H1=>if c=true then u σ H1 Q else Q false H1
noncomputable def tOr (t u:TT):TT:=fun σ H Q=>t σ H λc H1=>if c=true then Q true H1 else u σ H1 Q
noncomputable def tNot (t:TT):TT:=fun σ H Q=>t σ H λc H1=>Q (!c) H1
theorem Zlc (ha:PT X a tA):PW X (.BoolOp .And [a] pos) tA:=by
 intro wh jI s σ H Q I h;refine isTrue_and (ZJ (ha jI s σ H Q I h) λc s1 e=>?_)
 cases c with
 | true=>exact isTrue_and_nil e
 | false=>exact e
theorem ZmV (ha:PT X a tA):PW X (.BoolOp .Or [a] pos) tA:=by
 intro wh jI s σ H Q I h;refine isTrue_or (ZJ (ha jI s σ H Q I h) λc s1 e=>?_)
 cases c with
 | false=>exact isTrue_or_nil e
 | true=>exact e
theorem ZmW (ha:PT X a tA)(hb:PW X (.BoolOp .And (b::rest) pos) tB'):PW X (.BoolOp .And (a::b::rest) pos) (tAnd tA tB'):=by
 intro wh jI s σ H Q I h;refine isTrue_and (ZJ (ha jI s σ H _ I h) λc s1 ⟨H1,I1,q1⟩=>?_)
 cases c with
 | true=>exact hb wh jI s1 σ H1 Q I1 q1
 | false=>exact⟨H1,I1,q1⟩
theorem Zn9 (ha:PT X a tA)(hb:PW X (.BoolOp .Or (b::rest) pos) tB'):PW X (.BoolOp .Or (a::b::rest) pos) (tOr tA tB'):=by
 intro wh jI s σ H Q I h;refine isTrue_or (ZJ (ha jI s σ H _ I h) λc s1 ⟨H1,I1,q1⟩=>?_)
 cases c with
 | true=>exact⟨H1,I1,q1⟩
 | false=>exact hb wh jI s1 σ H1 Q I1 q1
theorem ZmX (ha:PT X a tA):PT X (.UnaryOp .Not a pos) (tNot tA):=by
 intro jI s σ H Q I h;exact isTrue_not (ha jI s σ H (λc H1=>Q (!c) H1) I h)
noncomputable def Zoa (ta tb:TE):TE:=fun σ H Q=>ta σ H λx H1=>∃c,x=.bl c/\if c=true then tb σ H1 Q else Q (.bl false) H1
noncomputable def Zob (ta:TE):TE:=fun σ H Q=>ta σ H λx H1=>∃c,x=.bl c/\Q (.bl (!c)) H1
theorem ZmY {op}{t:TE}(h:PE X a t):PE X (.BoolOp op [a] pos) t:=λjI s σ H Q I hw=>BoolOp_one (h jI s σ H Q I hw)
theorem ZmZ (ha:PE X a ta)(hb:PE X (.BoolOp .And (b::rest) pos) tb):PE X (.BoolOp .And (a::b::rest) pos) (Zoa ta tb):=by
 intro jI s σ H Q I h;refine BoolOp_and (ZJ (ha jI s σ H _ I h) λv s1 ⟨x,H1,I1,r1,q1⟩=>?_);obtain⟨c,rfl,q1⟩:=q1
 cases r1
 refine wpAny_truthy_bool ?_
 cases c with
 | true=>exact hb jI s1 σ H1 Q I1 q1
 | false=>exact⟨.bl false,H1,I1,rfl,q1⟩
theorem Zm0 (ha:PE X a ta):PE X (.UnaryOp .Not a pos) (Zob ta):=by
 intro jI s σ H Q I h;refine UnaryOp_ (ZJ (ha jI s σ H _ I h) λv s1 ⟨x,H1,I1,r1,q1⟩=>?_);obtain⟨c,rfl,q1⟩:=q1
 cases r1
 exact not_of (wpAny_truthy_bool ⟨.bl (!c),H1,I1,rfl,q1⟩)
noncomputable def tIf (t:TT)(ta tb:TE):TE:=fun σ H Q=>t σ H λc H1=>if c=true then ta σ H1 Q else tb σ H1 Q
theorem Zi9 {c:Expr}(hc:PT X c tA)(ha:PE X a ta)(hb:PE X b tb):PE X (.IfExp c a b pos) (tIf tA ta tb):=by
 intro jI s σ H Q I h;refine wpAny_IfExp (ZJ (hc jI s σ H _ I h) λd s1 ⟨H1,I1,q1⟩=>?_)
 cases d with
 | true=>exact ha jI s1 σ H1 Q I1 q1
 | false=>exact hb jI s1 σ H1 Q I1 q1
end
noncomputable def ZA (K:qm)(H:Hp)(a:Addr)(xs:List V):Prop:=
 Rd H a (.lst xs)∨
  ∃(o:Obj) (jK:Array Value) (n:Nat),K.lookup a=some o/\o.cls=.type "list"/\o.dict=none/\o.data=.seq jK n/\jK.size<=xg/\Zu xs jK.toList
noncomputable def ZH (K:qm)(H:Hp)(a:Addr)(xs:List V):Prop:=
 Rd H a (.tup xs)∨
  ∃(o:Obj) (jK:Array Value) (n:Nat),K.lookup a=some o/\o.cls=.type "tuple"/\o.data=.seq jK n/\jK.size<=xg/\Zu xs jK.toList
noncomputable def absV:Value->Option V
 | .none=>some .non
 | .bool b=>some (.bl b)
 | .int i _=>some (.int i)
 | .str x _=>some (.str x)
 | .bytes b _=>some (.byt b)
 | .float b _=>some (.flt b)
 | .ref a=>some (.ref a)
 | .type n=>some (.ty n)
 | _=>none
theorem ZI.abs {x:V}{u:Value}(r:ZI x u):absV u=some x:=by
 cases x with
 | non=>cases r;rfl
 | bl _=>cases r;rfl
 | int _=>obtain⟨t,rfl⟩:=r;rfl
 | str _=>obtain⟨t,rfl⟩:=r;rfl
 | byt _=>obtain⟨t,rfl⟩:=r;rfl
 | flt _=>obtain⟨t,rfl⟩:=r;rfl
 | ref _=>cases r;rfl
 | ty _=>cases r;rfl
theorem ZI.inj {x y:V}{u:Value}(r:ZI x u)(q:ZI y u):x=y:=zw (r.abs.symm.trans q.abs)
theorem Zu.inj:∀{xs ys:List V} {us:List Value},Zu xs us->Zu ys us->xs=ys
 | _,_,_,.nil,.nil=>rfl
 | _,_,_,.cons r t,.cons r' t'=>by rw[r.inj r',Zu.inj t t']
section
variable {X:Cx}{jI:Qb}{σ:St}{H:Hp}{s:Shared}{a:Addr}{xs ys:List V}
theorem ZA.of {K:qm}(h:H a=some (.lst xs)):ZA K H a xs:=.inl (.inl h)
theorem ZH.of {K:qm}(h:H a=some (.tup xs)):ZH K H a xs:=.inl (.inl h)
theorem Inv.list (I:Inv X jI σ H s)(h:ZA X.K H a xs):∃jK:List Value,Zu xs jK/\PlainL s.heap a jK.toArray/\xs.length<=xg:=by
 rcases h with h | ⟨o,jK,n,hk,hc,hd,hs,hz,r⟩
 ·obtain⟨z,jK,n,r,e⟩:=h.ok I.hok
  exact⟨jK,r,⟨_,n,e,rfl,rfl,rfl⟩,z⟩
 ·refine⟨jK.toList,r,⟨o,n,I.kIn a o hk,hc,hd,by simpa using hs⟩,?_⟩
  have e:=r.length;simp only[qB]at e;omega
theorem Inv.tuple (I:Inv X jI σ H s)(h:ZH X.K H a xs):∃jK:List Value,Zu xs jK/\IsTup s.heap a jK.toArray/\xs.length<=xg:=by
 rcases h with h | ⟨o,jK,n,hk,hc,hs,hz,r⟩
 ·obtain⟨z,jK,r,p⟩:=h.ok I.hok
  exact⟨jK,r,p,z⟩
 ·refine⟨jK.toList,r,⟨o,I.kIn a o hk,hc,n,by simpa using hs⟩,?_⟩
  have e:=r.length;simp only[qB]at e;omega
theorem Inv.list_inj (I:Inv X jI σ H s)(h:ZA X.K H a xs)(h':ZA X.K H a ys):xs=ys:=by
 obtain⟨jK,r,⟨o,n,e,_,_,d⟩,_⟩:=I.list h;obtain⟨its',r',⟨o',n',e',_,_,d'⟩,_⟩:=I.list h';rw[e]at e';cases e';rw[d]at d';injection d' with d1 _;have:jK=its':=by simpa using congrArg qdc d1
 subst this;exact r.inj r'
theorem Inv.tuple_inj (I:Inv X jI σ H s)(h:ZH X.K H a xs)(h':ZH X.K H a ys):xs=ys:=by
 obtain⟨jK,r,⟨o,e,_,n,d⟩,_⟩:=I.tuple h;obtain⟨its',r',⟨o',e',_,n',d'⟩,_⟩:=I.tuple h';rw[e]at e';cases e';rw[d]at d';injection d' with d1 _;have:jK=its':=by simpa using congrArg qdc d1
 subst this;exact r.inj r'
end
noncomputable abbrev Cx.wish (X:Cx)(E:xD):Cx:={ X with xe:=E }
noncomputable abbrev Cx.nox (X:Cx):Cx:=X.wish λ_ _=>False
theorem Cx.Ok.wish {X:Cx}(ok:X.Ok)(E:xD):(X.wish E).Ok:=
 ⟨ok.mod,ok.kind,ok.glob,ok.blt,ok.above,ok.inj,ok.has,ok.cab,ok.hd,ok.frames,ok.stk,ok.exf,ok.bs,ok.bsz,ok.noex,ok.exfs,ok.funs,ok.frf⟩
theorem Cx.Ok.unwish {X:Cx}{E:xD}(ok:(X.wish E).Ok):X.Ok:=
 ⟨ok.mod,ok.kind,ok.glob,ok.blt,ok.above,ok.inj,ok.has,ok.cab,ok.hd,ok.frames,ok.stk,ok.exf,ok.bs,ok.bsz,ok.noex,ok.exfs,ok.funs,ok.frf⟩
section
variable {X:Cx}{jI:Qb}{σ:St}{H:Hp}{s:Shared}{E:xD}
theorem Inv.wish (I:Inv X jI σ H s)(E:xD):Inv (X.wish E) jI σ H s:=⟨I.ok.wish E,I.os,I.bare,I.base,I.loc,I.cell,I.free,I.freeC,I.pin,I.hok,I.len⟩
theorem Inv.unwish (I:Inv (X.wish E) jI σ H s):Inv X jI σ H s:=⟨I.ok.unwish,I.os,I.bare,I.base,I.loc,I.cell,I.free,I.freeC,I.pin,I.hok,I.len⟩
theorem SP.unwish {D:Ends}{f:Flow}{s':Shared}(h:SP (X.wish E) jI D f s'):SP X jI D f s':=by
 cases f with
 | next=>obtain⟨σ',H',I,q⟩:=h;exact⟨σ',H',I.unwish,q⟩
 | brk=>obtain⟨σ',H',I,q⟩:=h;exact⟨σ',H',I.unwish,q⟩
 | cont=>obtain⟨σ',H',I,q⟩:=h;exact⟨σ',H',I.unwish,q⟩
 | ret u=>obtain⟨v,σ',H',I,r,q⟩:=h;exact⟨v,σ',H',I.unwish,r,q⟩
theorem PE.nox {e:Expr}{t:TE}(h:PE X.nox e t):PE X e t:=λjI s σ H Q I hw=>
 xc (h jI s σ H Q (I.wish _) hw) (λ_ _ ⟨v,H',I',r,q⟩=>⟨v,H',I'.unwish,r,q⟩) λ_ _ z=>yC z
theorem Wb.nox {st:List Stmt}{t:TS}(h:Wb X.nox st t):Wb X st t:=λjI s σ H D I hw=>
 xc (h jI s σ H D (I.wish _) hw) (λ_ _ q=>q.unwish) λ_ _ z=>yC z
end
section
variable {X:Cx}{st:Stmt}{rest:List Stmt}{t u:TS}{e:Expr}{te:TE}{pos:Pos}
noncomputable def Zoc:TS:=λD σ H=>D.nx σ H
noncomputable def Ju (t u:TS):TS:=λD σ H=>t { D with nx:=u D } σ H
theorem Zel:Wb X [] Zoc:=λ_ _ σ H _ I h=>wpAny_execs_nil ⟨σ,H,I,h⟩
theorem Vt (h1:PS X st t)(h2:Wb X rest u):Wb X (st::rest) (Ju t u):=by
 intro jI s σ H D I h;refine wpAny_execs_cons (ZJ (h1 jI s σ H { D with nx:=u D } I h) λf s1 q=>?_)
 cases f with
 | next=>
  obtain⟨σ',H',I',q⟩:=q;exact h2 jI s1 σ' H' D I' q
 | ret v=>exact q
 | brk=>exact q
 | cont=>exact q
theorem J7 (h1:PS X st t):Wb X [st] t:=by
 intro jI s σ H D I h;refine wpAny_execs_cons (ZJ (h1 jI s σ H D I h) λf s1 q=>?_)
 cases f with
 | next=>exact wpAny_execs_nil q
 | ret v=>exact q
 | brk=>exact q
 | cont=>exact q
theorem Inv.quiet {jI:Qb}{σ:St}{H:Hp}{s:Shared}(I:Inv X jI σ H s):interactive X.env=false:=by simp[interactive,I.ok.kind]
noncomputable def Bk (te:TE):TS:=λD σ H=>te σ H λ_ H1=>D.nx σ H1
theorem Zld (he:PE X e te)(hs:xr e none pos.line X.env=pure false:=by rfl):PS X (.Expr e pos) (Bk te):=by
 intro jI s σ H D I h;exact wpAny_Expr_any (ZJ (he jI s σ H _ I h) λv s1 ⟨x,H1,I1,r1,q1⟩=>⟨σ,H1,I1,q1⟩) I.quiet hs
noncomputable def tRet (te:TE):TS:=λD σ H=>te σ H D.rt
theorem Zgb (he:PE X e te):PS X (.Return (some e) pos) (tRet te):=by
 intro jI s σ H D I h;exact wpAny_Return_some (ZJ (he jI s σ H _ I h) λv s1 ⟨x,H1,I1,r1,q1⟩=>⟨x,σ,H1,I1,r1,q1⟩)
noncomputable def tIfS (c:TT)(t u:TS):TS:=λD σ H=>c σ H λb H1=>if b=true then t D σ H1 else u D σ H1
theorem Zhe {c:Expr}{a b:List Stmt}{tc:TT}(hc:PT X c tc)(ha:Wb X a t)(hb:Wb X b u):PS X (.If c a b pos) (tIfS tc t u):=by
 intro jI s σ H D I h;refine wpAny_If (ZJ (hc jI s σ H _ I h) λd s1 ⟨H1,I1,q1⟩=>?_)
 cases d with
 | true=>exact ha jI s1 σ H1 D I1 q1
 | false=>exact hb jI s1 σ H1 D I1 q1
end
noncomputable abbrev TG:=V->St->Hp->(St->Hp->Prop)->Prop
noncomputable abbrev UM:=List V->St->Hp->(St->Hp->Prop)->Prop
noncomputable def PG (X:Cx)(target:Expr)(t:TG):Prop:=
 ∀(jI:Qb) (s:Shared) (σ:St) (H:Hp) (v:V) (u:Value) (Q:St->Hp->Prop),Inv X jI σ H s->ZI v u->t v σ H Q->
  xf (xz X.prog X.w) X.A (assign target X.env u) (λ_ s'=>∃σ' H',Inv X jI σ' H' s'/\Q σ' H') X.xe s
noncomputable def BK (X:Cx)(ts:List Expr)(t:UM):Prop:=
 ∀(jI:Qb) (s:Shared) (σ:St) (H:Hp) (vs:List V) (us:List Value) (Q:St->Hp->Prop),Inv X jI σ H s->Zu vs us->t vs σ H Q->
  xf (xz X.prog X.w) X.A (assignInOrder ((assignEach ts X.env).map (·.2)) us) (λ_ s'=>∃σ' H',Inv X jI σ' H' s'/\Q σ' H') X.xe s
noncomputable abbrev TSet:=V->V->V->Hp->(Hp->Prop)->Prop
noncomputable def PSet (X:Cx)(t:TSet):Prop:=
 ∀(jI:Qb) (s:Shared) (σ:St) (H:Hp) (o i v:V) (ov iv u:Value) (Q:Hp->Prop),Inv X jI σ H s->ZI o ov->ZI i iv->ZI v u->t o i v H Q->
  xf (xz X.prog X.w) X.A (setItem ov iv u) (λ_ s'=>∃H',Inv X jI σ H' s'/\Q H') X.xe s
section
variable {X:Cx}{pos:Pos}
noncomputable def Jo (i:Nat):TG:=λv σ H Q=>Q (σ.set i (some v)) H
theorem Ve {i:Nat}{x:Str}(hN:X.N.Nodup)(hi:X.N[i]?=some x)(hx:W6 X.env.scope x)(hf:X.fn x=true∨X.env.scope.names.lookup x=some .local:=by first | exact .inl rfl | exact .inr rfl | assumption):PG X (.Name x pos) (Jo i):=by
 intro jI s σ H v u Q I r h;exact wpAny_assign_Name (Zbn I hN hi hx r (λs' I'=>⟨_,H,I',h⟩) hf)
noncomputable def gNil:UM:=λvs σ H Q=>vs=[]/\Q σ H
noncomputable def Zja (t:TG)(u:UM):UM:=λvs σ H Q=>∃v r,vs=v::r/\t v σ H fun σ' H'=>u r σ' H' Q
theorem Zcv:BK X [] gNil:=by
 intro jI s σ H vs us Q I r h;obtain⟨e,h⟩:=h;subst e
 cases r
 exact assignInOrder_nil ⟨σ,H,I,h⟩
theorem VS {e:Expr}{es:List Expr}{t:TG}{u:UM}(h1:PG X e t)(h2:BK X es u)
  (hs:(assignEach (e::es) X.env).map (·.2)=assign e X.env::(assignEach es X.env).map (·.2):=by rfl):BK X (e::es) (Zja t u):=by
 intro jI s σ H vs us Q I r h;obtain⟨v,vr,e1,h⟩:=h;subst e1
 cases r with
 | cons r rr=>
  rw[hs];refine assignInOrder_cons (ZJ (h1 jI s σ H _ _ _ I r h) λ_ s1 ⟨σ1,H1,I1,q1⟩=>?_);exact h2 jI s1 σ1 H1 _ _ Q I1 rr q1
noncomputable def gTup (K:qm)(n:Nat)(t:UM):TG:=λv σ H Q=>∃a xs,v=.ref a/\ZH K H a xs/\xs.length=n/\t xs σ H Q
theorem Zm1 {es:List Expr}{k:Nat}{t:UM}{n:Nat}(hc:X.calm=true)(h:BK X es t)
  (hn:(assignEach es X.env).length=n:=by rfl) (hst:(assignEach es X.env).findIdx? (·.1)=none:=by rfl):PG X (.Tuple es k pos) (gTup X.K n t):=by
 intro jI s σ H v u Q I r hw;obtain⟨a,xs,e1,hq,hl,hw⟩:=hw;subst e1
 cases r
 obtain⟨jK,rv,ht,hz⟩:=I.tuple hq;refine assign_Tuple_tuple (I.ok.hd hc) ht (by simp[hn,<-hl,rv.length]) hst λh' hx=>?_;have I1:Inv X jI σ H { s with heap:=h' }:=I.kept (t':=s.toks) λb o e=>hx b o (qV (qK e)) e;exact h jI _ σ H xs _ Q I1 (by simpa using rv) hw
noncomputable def Bz (to ti:TE)(t:TSet):TG:=λv σ H Q=>to σ H λo H1=>ti σ H1 λi H2=>t o i v H2 λH3=>Q σ H3
theorem Zgc {o i:Expr}{to ti:TE}{t:TSet}(ho:PE X o to)(hi:PE X i ti)(hs:PSet X t)
  (ha:∀v,assign (.Subscript o i pos) X.env v=(do
   let ov<-holding [v] (eval o X.env)
   let iv<-holding [v,ov] (eval i X.env)
   standAt pos
   holding [v,ov,iv] (setItem ov iv v)
   release [v,ov,iv] []):=by intro _;rfl):PG X (.Subscript o i pos) (Bz to ti t):=by
 intro jI s σ H v u Q I r h;rw[ha];refine xa (xu (ZJ (ho jI s σ H _ I h) λov s1 ⟨x,H1,I1,r1,q1⟩=>?_));refine xa (xu (ZJ (hi jI s1 σ H1 _ I1 q1) λiv s2 ⟨y,H2,I2,r2,q2⟩=>?_));refine xa (wpAny_standAt (xa (xu (ZJ (hs jI s2 σ H2 x y v ov iv u _ I2 r1 r2 r q2) λ_ s3 ⟨H3,I3,q3⟩=>?_))));exact wpAny_release ⟨σ,H3,I3,q3⟩
noncomputable def V3 (te:TE)(g:TG):TS:=λD σ H=>te σ H λx H1=>g x σ H1 D.nx
theorem Zem {tg e:Expr}{te:TE}{g:TG}(he:PE X e te)(hg:PG X tg g)(hs:swapsWithSole [tg] e pos.line X.env=pure false:=by rfl)(hw:swappedStores [tg] e X.env=pure none:=by rfl)
  (h1:(assignEach [tg] X.env).map (·.2)=[assign tg X.env]:=by rfl):PS X (.Assign [tg] e pos) (V3 te g):=by
 intro jI s σ H D I h;refine wpAny_Assign_stores (ZJ (he jI s σ H _ I h) λv s1 ⟨x,H1,I1,r1,q1⟩=>?_) hs hw;rw[h1];exact ZJ (hg jI s1 σ H1 x v _ I1 r1 q1) λ_ s2 q=>q
theorem Ux {i:Nat}{x:Str}{e:Expr}{te:TE}{pos':Pos}(hN:X.N.Nodup)(hi:X.N[i]?=some x)(hx:W6 X.env.scope x)(he:PE X e te)(hs:xr e (some (.Name x pos')) pos.line X.env=pure false:=by rfl)(hf:X.fn x=true∨X.env.scope.names.lookup x=some .local:=by first | exact .inl rfl | exact .inr rfl | assumption) :
  PS X (.Assign [.Name x pos'] e pos) (V3 te (Jo i)):=by
 intro jI s σ H D I h;refine wpAny_Assign_Name (ZJ (he jI s σ H _ I h) λv s1 ⟨y,H1,I1,r1,q1⟩=>?_) hs;exact Zbn I1 hN hi hx r1 (λs2 I2=>⟨_,H1,I2,q1⟩) hf
noncomputable def tPar (i j:Nat)(ta:TA):TS:=λD σ H=>ta σ H λvs H1=>∃v w,vs=[v,w]/\D.nx ((σ.set i (some v)).set j (some w)) H1
theorem Zm2 {i j:Nat}{x y:Str}{a b:Expr}{ta:TA}{px py pt:Pos}{kt k2 pt2}(hc:X.calm=true)(hN:X.N.Nodup)(hi:X.N[i]?=some x)(hj:X.N[j]?=some y)(hij:i≠j)
  (hx:X.env.scope.names.lookup x=some .local) (hy:X.env.scope.names.lookup y=some .local) (ha:PA X [a,b] ta)
  (hw:swappedStores [.Tuple [.Name x px,.Name y py] kt pt] (.Tuple [a,b] k2 pt2) X.env=pure (some [x,y]))
  (hs:swapsWithSole [.Tuple [.Name x px,.Name y py] kt pt] (.Tuple [a,b] k2 pt2) pos.line X.env=pure false:=by rfl) :
  PS X (.Assign [.Tuple [.Name x px,.Name y py] kt pt] (.Tuple [a,b] k2 pt2) pos) (tPar i j ta):=by
 intro jI s σ H D I h;rw[exec_Assign_arm];refine xa (wpAny_standAt ?_);rw[hs];refine xa (xb ?_);rw[if_neg (by decide)];refine xa (Tuple_ (ZJ (ha _ jI s σ H _ I h) λus s1 ⟨vs,H1,I1,r1,q1⟩=>?_));obtain⟨v,w,e1,q1⟩:=q1;subst e1;obtain⟨u1,u2,rfl,rv,rw'⟩:∃u1 u2,us=[u1,u2]/\ZI v u1/\ZI w u2:=by
  cases r1 with
  | cons p q=>
   cases q with
   | cons p' q'=>
    cases q'
    exact⟨_,_,rfl,p,p'⟩
 refine xl ?_ (by show 2<=xg;decide);have I2:Inv X jI σ H1 { s1 with heap:=s1.heap.push { cls:=.type "tuple",data:=.seq [u1,u2].toArray } }:=I1.kept (t':=s1.toks) λb o e=>qj _ e;rw[hw];refine xa (xb ?_);show xf (xz X.prog X.w) X.A (do rule "assign.swapped-stores";let items<-unpackItems (.ref s1.heap.objs.size) 2 none;assignInOrder [λv=>bindName X.env y v,λv=>bindName X.env x v] items.reverse;pure Flow.next) _ _ _;refine xa (wpAny_rule (xa (unpackItems_tuple (items:=#[u1,u2]) (I.ok.hd hc) (qbW s1.heap _) λh' hx'=>?_)));have I3:=I2.kept (h':=h') (t':=s1.toks) λb o e=>hx' b o (qV (qK e)) e;show xf _ _ (assignInOrder [λv=>bindName X.env y v,λv=>bindName X.env x v] [u2,u1] >>= λ_=>pure Flow.next) _ _ _;refine xa (assignInOrder_cons (wpAny_bindName (Zbn I3 hN hj (.inl hy) rw' (λs2 I4=>?_) (.inr hy))));refine assignInOrder_cons (wpAny_bindName (Zbn I4 hN hi (.inl hx) rv (λs3 I5=>assignInOrder_nil (xb ?_)) (.inr hx)));rw[List.set_comm _ _ (zH hij)]at I5;exact⟨_,H1,I5,q1⟩
end
section
variable {X:Cx}{pos:Pos}
noncomputable def Zm3 (c:TT)(tb:TS):TS:=λD σ H=>∃W:Nat->St->Hp->Prop,(∃m,W m σ H)/\∀m σ H,W m σ H->
 c σ H λb H1=>if b=true then ∃N:St->Hp->Prop,(∀σ' H',N σ' H'->∃m',m'<m/\W m' σ' H')/\tb { D with nx:=N,ct:=N,bk:=D.nx } σ H1 else D.nx σ H1
theorem Zjb {c:Expr}{body:List Stmt}{tc:TT}{tb:TS}(hp:PassesOwn (xz X.prog X.w) X.A X.env X.xe)(hc:PT X c tc)(hb:Wb X body tb):PS X (.While c body [] pos) (Zm3 tc tb):=by
 intro jI s σ H D I h;obtain⟨W,⟨m0,w0⟩,turn⟩:=h;refine wpAny_While (codeAny_whileLoop (λn s'=>∃σ' H',Inv X jI σ' H' s'/\W n σ' H') ?_ m0 ⟨σ,H,I,w0⟩);rintro n s1 ⟨σ1,H1,I1,w1⟩;refine wpAny_passesOwn hp (ZJ (hc jI s1 σ1 H1 _ I1 (turn n σ1 H1 w1)) λb s2 ⟨H2,I2,q2⟩=>?_)
 cases b with
 | true=>
  obtain⟨N,hN,q2⟩:=q2;rw[if_pos rfl];refine wpAny_passesOwn hp (ZJ (hb jI s2 σ1 H2 _ I2 q2) λf s3 q3=>?_)
  cases f with
  | next=>
   obtain⟨σ3,H3,I3,n3⟩:=q3;obtain⟨m',hm,w3⟩:=hN σ3 H3 n3;exact⟨m',hm,σ3,H3,I3,w3⟩
  | cont=>
   obtain⟨σ3,H3,I3,n3⟩:=q3;obtain⟨m',hm,w3⟩:=hN σ3 H3 n3;exact⟨m',hm,σ3,H3,I3,w3⟩
  | brk=>exact q3
  | ret v=>exact q3
 | false=>
  rw[if_neg yw];exact wpAny_execs_nil ⟨σ1,H2,I2,q2⟩
end
structure It where
 go:Nat->Hp->Prop
 yld:Nat->Hp->V->Hp->Prop
 stop:Nat->Hp->Prop
noncomputable def Wp (X:Cx)(jI:Qb)(H:Hp)(b:Addr):Prop:=
 H b=none/\b≠X.env.locals/\b∉X.fs/\(b∈X.ex∨X.s₀.heap.objs.size<=b)/\(∀x c,X.env.cells.lookup x=some c->c≠b)/\∀p∈X.pn++jI,p.1≠b
theorem Inv.fpOk {X:Cx}{jI:Qb}{σ:St}{H H':Hp}{s:Shared}{b:Addr}(I:Inv X jI σ H s)(hb:s.heap.objs.size<=b)(hn:H' b=none):Wp X jI H' b:=by
 refine⟨hn,qbG (zh I.lt hb),I.nofs hb,.inr (zi I.sz hb),λx c e z=>?_,λp hp z=>?_⟩
 ·obtain⟨v,q⟩:=I.cell x c e
  exact absurd (zh q.lt (by rw[z];exact hb)) (yI _)
 ·exact absurd (zh (qK (I.pin p hp).1) (by rw[z];exact hb)) (yI _)
structure Turn (P:xB)(w:World)(K:qm)(tg:Expr)(J:It)(fp:List Addr)(it:Addr)(tn:Nat->Heap->Prop):Prop where
 mem:it∈fp
 obj:∀i h,tn i h->∀b∈fp,∃o,h.get? b=some o/\∀v,o.data≠.cell v
 keep:∀i h h',tn i h->(∀b∈fp,∀o,h.get? b=some o->h'.get? b=some o)->tn i h'
 item:∀(X:Cx),X.prog=P->X.w=w->X.K=K->X.calm=true->∀(i:Nat) (jI:Qb) (s:Shared) (σ:St) (H:Hp) (E:xD),Inv X jI σ H s->(∀b∈fp,Wp X jI H b)->tn i s.heap->J.go i H->
  xf (xz P w) X.A (pyNext (.ref it)) (λr s1=>∃u,r=some u/\
   xf (xz P w) X.A (letOwnedTupleGo tg (.ref it) u) (λ_ s2=>∃x H',Inv X jI σ H' s2/\ZI x u/\J.yld i H x H'/\tn (i+1) s2.heap/\∀b∈fp,H' b=none) E s1) E s
 done:∀(X:Cx),X.prog=P->X.w=w->X.K=K->X.calm=true->∀(i:Nat) (jI:Qb) (s:Shared) (σ:St) (H:Hp) (E:xD),Inv X jI σ H s->(∀b∈fp,Wp X jI H b)->tn i s.heap->J.stop i H->
  xf (xz P w) X.A (pyNext (.ref it)) (λr s1=>r=none/\Inv X jI σ H s1) E s
 self:∀(A:xC) (i:Nat) (s:Shared) (Q:xD) (E:xD),tn i s.heap->Q (.ref it) s->xf (xz P w) A (pyIter (.ref it)) Q E s
noncomputable abbrev TI:=St->Hp->(It->Hp->Prop)->Prop
noncomputable def PIE (X:Cx)(jI:Qb)(σ:St)(tg:Expr)(R:It->Hp->Prop)(itv:Value)(s2:Shared):Prop:=
 ∃(it:Addr) (fp:List Addr) (tn:Nat->Heap->Prop) (J:It) (H':Hp),itv=.ref it/\Inv X jI σ H' s2/\Turn X.prog X.w X.K tg J fp it tn/\tn 0 s2.heap/\(∀b∈fp,Wp X jI H' b)/\R J H'
noncomputable def PI (X:Cx)(tg iter:Expr)(wi:TI):Prop:=
 ∀(jI:Qb) (s:Shared) (σ:St) (H:Hp) (R:It->Hp->Prop),Inv X jI σ H s->wi σ H R->
  xf (xz X.prog X.w) X.A (eval iter X.env) (λv s1=>xf (xz X.prog X.w) X.A (pyIter v) (PIE X jI σ tg R) X.xe s1) X.xe s
theorem Zjc {M : Model}{A : xC}{E : Value -> Shared -> Prop}{s : Shared}{tg : Expr}{it : Addr}{u : Value}{o : Obj}{n : String}{vs : Array Value}{Q : Unit -> Shared -> Prop}(ho : s.heap.get? it = some o)(hc : o.cls = .type n)(hd : o.data = .fields vs)
    (hn : ["enumerate", "zip", "dict_itemiterator", "dict_reverseitemiterator", "odict_iterator", "itertools.zip_longest", "itertools.pairwise"].contains n = false) (hQ : Q () s) : xf M A (letOwnedTupleGo tg (.ref it) u) Q E s := by
  unfold letOwnedTupleGo
  cases tg <;> first
    | exact xb hQ
    | (cases u <;> first
        | exact xb hQ
        | (refine xa (wpAny_load ho ?_)
           rw[hc, hd];show xf M A (if (["enumerate", "zip", "dict_itemiterator", "dict_reverseitemiterator", "odict_iterator", "itertools.zip_longest", "itertools.pairwise"].contains n && vs[0]? == some (rawInt _)) = true then _ else _) Q E s;rw[if_neg (by intro h; rw[hn, Bool.false_and] at h; cases h)];exact xb hQ))
noncomputable def Itl (K:qm)(a:Addr):It:=
 ⟨λi H=>∃xs x,ZA K H a xs/\xs[i]?=some x,λi H x H'=>H'=H/\∀xs,ZA K H a xs->xs[i]?=some x,λi H=>∃xs,ZA K H a xs/\xs.length<=i⟩
noncomputable def Itt (K:qm)(a:Addr):It:=
 ⟨λi H=>∃xs x,ZH K H a xs/\xs[i]?=some x,λi H x H'=>H'=H/\∀xs,ZH K H a xs->xs[i]?=some x,λi H=>∃xs,ZH K H a xs/\xs.length<=i⟩
noncomputable def BL (lo:Int)(n:Nat):It:=⟨λi _=>i<n,λi H x H'=>H'=H/\x=.int (lo+i),λi _=>n<=i⟩
theorem ZhW {P:xB}{w:World}{K:qm}{tg:Expr}(a it:Addr):Turn P w K tg (Itl K a) [it] it (λi h=>h.IsListIter it a i) where
 mem:=by simp
 obj:=λi h st b hb=>by
  have e:b=it:=by simpa using hb
  subst e;obtain⟨o,e,c,d⟩:=st;exact⟨o,e,λv z=>by rw[d]at z;cases z⟩
 keep:=λi h h' st k=>st.at λo e=>k it (by simp) o e
 item:=by
  intro X hP hw hK hc i jI s σ H E I hf st hg;subst hP hw hK;obtain⟨xs,x,hq,hx⟩:=hg;obtain⟨jK,rv,p,hz⟩:=I.list hq;obtain⟨u,hu,ru⟩:=rv.get hx;obtain⟨f0,f1,f2,f3,f4,f5⟩:=hf it (by simp);refine wpAny_pyNext_list_item st p.isList (x:=u) (by simpa using hu) λh' st' sb=>?_;have I1:Inv X jI σ H { s with heap:=h' }:=I.turned (t':=s.toks) (λb o hb e=>(sb.2 b hb).trans e) f0 f1 f3 f4 f5;obtain⟨o,e,c,d⟩:=id st';exact⟨u,rfl,Zjc (s:={ s with heap:=h' }) e c d (by decide) ⟨x,H,I1,ru,⟨rfl,λys hy=>by rw[I.list_inj hy hq];exact hx⟩,st',λb hb=>(hf b hb).1⟩⟩
 done:=by
  intro X hP hw hK hc i jI s σ H E I hf st hg;subst hP hw hK;obtain⟨xs,hq,hx⟩:=hg;obtain⟨jK,rv,p,hz⟩:=I.list hq;obtain⟨f0,f1,f2,f3,f4,f5⟩:=hf it (by simp);have hl:=rv.length;exact wpAny_pyNext_list_end (I.ok.hd hc) st p.isList (by simp;omega) λh' eb=>⟨rfl,I.turned (t':=s.toks) (λb o hb e=>eb b o hb e) f0 f1 f3 f4 f5⟩
 self:=λ_ _ _ _ _ st h=>wpAny_pyIter_listiter st h
theorem Zgd {P:xB}{w:World}{K:qm}{tg:Expr}(a it:Addr):Turn P w K tg (Itt K a) [it] it (λi h=>h.IsTupleIter it a i) where
 mem:=by simp
 obj:=λi h st b hb=>by
  have e:b=it:=by simpa using hb
  subst e;obtain⟨o,e,c,d⟩:=st;exact⟨o,e,λv z=>by rw[d]at z;cases z⟩
 keep:=λi h h' st k=>st.at λo e=>k it (by simp) o e
 item:=by
  intro X hP hw hK hc i jI s σ H E I hf st hg;subst hP hw hK;obtain⟨xs,x,hq,hx⟩:=hg;obtain⟨jK,rv,p,hz⟩:=I.tuple hq;obtain⟨u,hu,ru⟩:=rv.get hx;obtain⟨f0,f1,f2,f3,f4,f5⟩:=hf it (by simp);refine wpAny_pyNext_tuple_item st (show s.heap.IsTuple a jK.toArray from p) (x:=u) (by simpa using hu) λh' st' sb=>?_;have I1:Inv X jI σ H { s with heap:=h' }:=I.turned (t':=s.toks) (λb o hb e=>(sb.2 b hb).trans e) f0 f1 f3 f4 f5;obtain⟨o,e,c,d⟩:=id st';exact⟨u,rfl,Zjc (s:={ s with heap:=h' }) e c d (by decide) ⟨x,H,I1,ru,⟨rfl,λys hy=>by rw[I.tuple_inj hy hq];exact hx⟩,st',λb hb=>(hf b hb).1⟩⟩
 done:=by
  intro X hP hw hK hc i jI s σ H E I hf st hg;subst hP hw hK;obtain⟨xs,hq,hx⟩:=hg;obtain⟨jK,rv,p,hz⟩:=I.tuple hq;obtain⟨f0,f1,f2,f3,f4,f5⟩:=hf it (by simp);have hl:=rv.length;exact wpAny_pyNext_tuple_end (I.ok.hd hc) st (show s.heap.IsTuple a jK.toArray from p) (by simp;omega) λh' eb=>⟨rfl,I.turned (t':=s.toks) (λb o hb e=>eb b o hb e) f0 f1 f3 f4 f5⟩
 self:=λ_ _ _ _ _ st h=>wpAny_pyIter_tupleiter st h
theorem Zge {P:xB}{w:World}{K:qm}{tg:Expr}(it:Addr)(lo:Int)(n:Nat):Turn P w K tg (BL lo n) [it] it (λi h=>IsRangeIter h it (lo+(i:Nat)*1) ((n:Int)-(i:Nat)) 1) where
 mem:=by simp
 obj:=λi h st b hb=>by
  have e:b=it:=by simpa using hb
  subst e;exact⟨_,st,λv z=>by
   have z':Data.fields _=Data.cell v:=z
   cases z'⟩
 keep:=λi h h' st k=>k it (by simp) _ st
 item:=by
  intro X hP hw hK hc i jI s σ H E I hf st hg;subst hP hw hK;obtain⟨f0,f1,f2,f3,f4,f5⟩:=hf it (by simp);have W:=Walks.range (prog:=X.prog) (w:=X.w) (I.ok.hd hc) it lo 1 n;refine W.item i s _ _ hg st λv h' tk hv st' kk=>?_;obtain⟨t,rfl⟩:=hv;have I1:Inv X jI σ H { s with heap:=h',toks:=tk }:=I.turned (λb o hb e=>kk b o (by simpa using hb) e) f0 f1 f3 f4 f5;refine⟨_,rfl,Zjc (s:={ s with heap:=h',toks:=tk }) (n:="range_iterator") st' rfl rfl (by decide) ⟨.int (lo+i),H,I1,⟨t,?_⟩,⟨rfl,rfl⟩,st',λb hb=>(hf b hb).1⟩⟩;rw[Int.mul_one]
 done:=by
  intro X hP hw hK hc i jI s σ H E I hf st hg;subst hP hw hK;obtain⟨f0,f1,f2,f3,f4,f5⟩:=hf it (by simp);exact wpAny_pyNext_range_end (I.ok.hd hc) st (by have:n<=i:=hg;omega) λh' eb=>⟨rfl,I.turned (t':=s.toks) (λb o hb e=>eb b o hb e) f0 f1 f3 f4 f5⟩
 self:=λ_ _ _ _ _ st h=>wpAny_pyIter_rangeiter st h
section
variable {X:Cx}{tg:Expr}
noncomputable def Zod (K:qm)(tl:TE):TI:=fun σ H R=>tl σ H λx H1=>∃a,x=.ref a/\(∃xs,ZA K H1 a xs)/\R (Itl K a) H1
noncomputable def iTup (K:qm)(tl:TE):TI:=fun σ H R=>tl σ H λx H1=>∃a,x=.ref a/\(∃xs,ZH K H1 a xs)/\R (Itt K a) H1
theorem Zle {l:Expr}{tl:TE}(hl:PE X l tl):PI X tg l (Zod X.K tl):=by
 intro jI s σ H R I h;refine ZJ (hl jI s σ H _ I h) λv s1 ⟨x,H1,I1,r1,q1⟩=>?_;obtain⟨a,e,⟨xs,hq⟩,q⟩:=q1;subst e
 cases r1
 obtain⟨jK,rv,p,hz⟩:=I1.list hq;refine wpAny_pyIter_list p.isList ?_;refine⟨s1.heap.objs.size,[s1.heap.objs.size],_,_,H1,rfl,I1.kept (t':=s1.toks) λb o e=>qj _ e,ZhW a _,⟨_,qC _ rfl,rfl,rfl⟩,λb hb=>?_,q⟩;have e:b=s1.heap.objs.size:=by simpa using hb
 subst e;exact I1.fpOk (qp _) (I1.hok.fresh (qp _))
theorem Zm4 {l:Expr}{tl:TE}(hl:PE X l tl):PI X tg l (iTup X.K tl):=by
 intro jI s σ H R I h;refine ZJ (hl jI s σ H _ I h) λv s1 ⟨x,H1,I1,r1,q1⟩=>?_;obtain⟨a,e,⟨xs,hq⟩,q⟩:=q1;subst e
 cases r1
 obtain⟨jK,rv,p,hz⟩:=I1.tuple hq;refine wpAny_pyIter_tuple (show s1.heap.IsTuple a jK.toArray from p) ?_;refine⟨s1.heap.objs.size,[s1.heap.objs.size],_,_,H1,rfl,I1.kept (t':=s1.toks) λb o e=>qj _ e,Zgd a _,⟨_,qC _ rfl,rfl,rfl⟩,λb hb=>?_,q⟩;have e:b=s1.heap.objs.size:=by simpa using hb
 subst e;exact I1.fpOk (qp _) (I1.hok.fresh (qp _))
theorem Zfb {jI:Qb}{σ:St}{H:Hp}{s:Shared}{R:It->Hp->Prop}{E:xD}{lo hi:Int}{t u v:Tok}{tk:Nat}(I:Inv X jI σ H s)(h1:-(2 ^ 62)<=lo)(h2:lo<2 ^ 62)(h3:-(2 ^ 62)<=hi)(h4:hi<2 ^ 62)
  (q:R (BL lo (hi-lo).toNat) H):xf (xz X.prog X.w) X.A (pyIter (.ref s.heap.objs.size)) (PIE X jI σ tg R) E { s with heap:=s.heap.push { cls:=.type "range",data:=.fields #[.int lo t,.int hi u,.int 1 v] },toks:=tk }:=by
 refine wpAny_pyIter_range (IsRange.new ..) (small_one h1 h2 h3 h4) ?_;have I1:Inv X jI σ H { s with heap:=s.heap.push { cls:=.type "range",data:=.fields #[.int lo t,.int hi u,.int 1 v] },toks:=tk }:=I.kept λb o e=>qj _ e;refine⟨(s.heap.push { cls:=.type "range",data:=.fields #[.int lo t,.int hi u,.int 1 v] }).objs.size,[(s.heap.push { cls:=.type "range",data:=.fields #[.int lo t,.int hi u,.int 1 v] }).objs.size],_,_,H,rfl,
  I1.kept (t':=tk) λb o e=>qj _ e,Zge _ lo (hi-lo).toNat,?_,λb hb=>?_,q⟩
 ·have e1:lo+((0:Nat):Int)*1=lo:=by simp
  have e2:(((hi-lo).toNat:Nat):Int)-((0:Nat):Int)=qbl lo hi 1:=by rw[rangeSize_one];split <;> omega
  show IsRangeIter _ _ (lo+((0:Nat):Int)*1) ((((hi-lo).toNat:Nat):Int)-((0:Nat):Int)) 1;rw[e1,e2];exact qC _ rfl
 ·have e:b=(s.heap.push { cls:=.type "range",data:=.fields #[.int lo t,.int hi u,.int 1 v] }).objs.size:=by simpa using hb
  subst e;exact I1.fpOk (qp _) (I1.hok.fresh (qp _))
noncomputable def Zoe (ta:TA):TI:=fun σ H R=>ta σ H λvs H1=>∃j:Int,vs=[.int j]/\-(2 ^ 62)<=j/\j<2 ^ 62/\R (BL 0 j.toNat) H1
noncomputable def Zof (ta:TA):TI:=fun σ H R=>ta σ H λvs H1=>∃i j:Int,vs=[.int i,.int j]/\(-(2 ^ 62)<=i/\i<2 ^ 62/\-(2 ^ 62)<=j/\j<2 ^ 62)/\R (BL i (j-i).toNat) H1
theorem ZdH {a:Expr}{ta:TA}{p pos:Pos}(hg:Gl X "range")(hm:X.mg "range" = none)(ha:PA X [a] ta)(hs:xh [a] X.env=[(false,eval a X.env)]:=by rfl):PI X tg (.Call (.Name "range" p) [a] [] pos) (Zoe ta):=by
 intro jI s σ H R I h;refine Call_ (Uw I hg hm boot_range (yE (ZJ (ha pos jI s σ H _ I h) λus s1 ⟨vs,H1,I1,r1,q1⟩=>?_) hs rfl));obtain⟨j,e,q1,q2,q⟩:=q1;subst e
 cases r1 with
 | cons r rr=>
  cases rr
  obtain⟨t,rfl⟩:=r;exact call_range_1 (Zfb I1 (by omega) (by omega) q1 q2 (by simpa using q))
theorem ZhX {a b:Expr}{ta:TA}{p pos:Pos}(hg:Gl X "range")(hm:X.mg "range" = none)(ha:PA X [a,b] ta)(hs:xh [a,b] X.env=[(false,eval a X.env),(false,eval b X.env)]:=by rfl)(hs2:xh [b] X.env=[(false,eval b X.env)]:=by rfl) :
  PI X tg (.Call (.Name "range" p) [a,b] [] pos) (Zof ta):=by
 intro jI s σ H R I h;refine Call_ (Uw I hg hm boot_range (yE (ZJ (ha pos jI s σ H _ I h) λus s1 ⟨vs,H1,I1,r1,q1⟩=>?_) (by rw[hs,hs2]) (by rw[hs2];rfl)));obtain⟨i,j,e,⟨q1,q2,q3,q4⟩,q⟩:=q1;subst e
 cases r1 with
 | cons r rr=>
  cases rr with
  | cons r' rr=>
   cases rr
   obtain⟨t,rfl⟩:=r;obtain⟨t',rfl⟩:=r';exact call_range_2 (Zfb I1 q1 q2 q3 q4 q)
noncomputable def tFor (wi:TI)(g:TG)(tb:TS):TS:=λD σ H=>wi σ H λJ H1=>∃W:Nat->Nat->St->Hp->Prop,(∃m,W 0 m σ H1)/\∀i m σ H,W i m σ H->
 (J.stop i H/\D.nx σ H)∨(J.go i H/\∃N:St->Hp->Prop,(∀σ' H',N σ' H'->∃m',m'<m/\W (i+1) m' σ' H')/\∀x H',J.yld i H x H'->g x σ H' fun σ2 H2=>tb { D with nx:=N,ct:=N,bk:=D.nx } σ2 H2)
noncomputable def Bd (fp:List Addr)(h:Heap):Qb:=fp.filterMap λb=>(h.get? b).map λo=>(b,o)
theorem UV {fp:List Addr}{h:Heap}{b:Addr}{o:Obj}(hb:b∈fp)(e:h.get? b=some o):(b,o)∈Bd fp h:=qaH.mpr ⟨b,hb,by rw[e];rfl⟩
theorem ZhY {fp:List Addr}{h:Heap}{p:Addr×Obj}(hp:p∈Bd fp h):p.1∈fp/\h.get? p.1=some p.2:=by
 obtain⟨b,hb,e⟩:=qaH.mp hp
 cases q:h.get? b with
 | none=>rw[q]at e;cases e
 | some o=>
  rw[q]at e;have e':(b,o)=p:=zw e;subst e';exact⟨hb,q⟩
theorem Inv.pinned {jI:Qb}{σ:St}{H:Hp}{s:Shared}{fp:List Addr}(I:Inv X jI σ H s)(hf:∀b∈fp,Wp X jI H b)(ho:∀b∈fp,∃o,s.heap.get? b=some o/\∀v,o.data≠.cell v):Inv X (jI++Bd fp s.heap) σ H s:=
 I.pins_of λp hp=>(qR.mp hp).elim (λz=>I.pin p (zf _ z)) λz=>by
  obtain⟨hb,e⟩:=ZhY z;obtain⟨f0,f1,f2,_⟩:=hf p.1 hb;obtain⟨o,e',d⟩:=ho p.1 hb;rw[e]at e';cases e';exact⟨e,f0,f1,f2,d⟩
theorem Inv.unpinned {jI pl:Qb}{σ:St}{H:Hp}{s:Shared}(I:Inv X (jI++pl) σ H s):Inv X jI σ H s:=I.pins_of λp hp=>I.pin p (zf _ (yB _ hp))
theorem Zm5 {iter:Expr}{body:List Stmt}{wi:TI}{g:TG}{tb:TS}{pos:Pos}(hp:PassesOwn (xz X.prog X.w) X.A X.env X.xe)(hc:X.calm=true)(hi:PI X tg iter wi)(hg:PG X tg g)(hb:Wb X body tb)
  (hs:∀x,foldedSetIterable iter X.env x=pure x:=by intro _;rfl):PS X (.For tg iter body [] pos) (tFor wi g tb):=by
 intro jI s σ H D I h;refine wpAny_For (ZJ (hi jI s σ H _ I h) λv s1 h1=>ZJ h1 λitv s2 h2=>?_) hs;obtain⟨it,fp,tn,J,H2,e,I2,T,jT,f2,W,⟨m0,w0⟩,turn⟩:=h2;subst e
 -- what stays true of the iterator's objects through the loop
 have stat:∀{H':Hp},(∀b∈fp,H' b=none)->∀b∈fp,Wp X jI H' b:=λhn b hb=>⟨hn b hb,(f2 b hb).2⟩;refine codeAny_forLoop_any (λn s'=>∃i σ' H',Inv X jI σ' H' s'/\tn i s'.heap/\(∀b∈fp,H' b=none)/\W i n σ' H') ?_ m0 ⟨0,σ,H2,I2,jT,λb hb=>(f2 b hb).1,w0⟩;rintro n s3 ⟨i,σ3,H3,I3,st3,fr3,w3⟩;rcases turn i n σ3 H3 w3 with⟨stop,qn⟩ | ⟨go,N,hN,step⟩
 ·refine wpAny_passesOwn hp (ZJ (T.done X rfl rfl rfl hc i jI s3 σ3 H3 X.xe I3 (stat fr3) st3 stop) λr s4 ⟨hr,I4⟩=>?_)
  subst hr;exact wpAny_execs_nil ⟨σ3,H3,I4,qn⟩
 ·refine wpAny_passesOwn hp (ZJ (T.item X rfl rfl rfl hc i jI s3 σ3 H3 X.xe I3 (stat fr3) st3 go) λr s4 ⟨u,hr,h4⟩=>?_)
  subst hr;refine wpAny_passesOwn hp (ZJ h4 λ_ s5 ⟨x,H5,I5,r5,y5,st5,fr5⟩=>?_);have I5':=I5.pinned (stat fr5) (T.obj _ _ st5);refine wpAny_passesOwn hp (ZJ (hg _ s5 σ3 H5 x u _ I5' r5 (step x H5 y5)) λ_ s6 ⟨σ6,H6,I6,q6⟩=>?_);refine wpAny_passesOwn hp (ZJ (hb _ s6 σ6 H6 _ I6 q6) λf s7 q7=>?_);have again:∀{σ7:St} {H7:Hp},Inv X (jI++Bd fp s5.heap) σ7 H7 s7->N σ7 H7->∃m,m<n/\∃i σ' H',Inv X jI σ' H' s7/\tn i s7.heap/\(∀b∈fp,H' b=none)/\W i m σ' H':=λ{σ7 H7} I7 n7=>by
   obtain⟨m',hm,w7⟩:=hN σ7 H7 n7;refine⟨m',hm,i+1,σ7,H7,I7.unpinned,T.keep _ _ _ st5 λb hb o e=>(I7.pin (b,o) (zf _ (zf _ (UV hb e)))).1,λb hb=>?_,w7⟩;obtain⟨o,e,d⟩:=T.obj _ _ st5 b hb;exact(I7.pin (b,o) (zf _ (zf _ (UV hb e)))).2.1
  cases f with
  | next=>obtain⟨σ7,H7,I7,n7⟩:=q7;exact again I7 n7
  | cont=>obtain⟨σ7,H7,I7,n7⟩:=q7;exact again I7 n7
  | brk=>obtain⟨σ7,H7,I7,q7⟩:=q7;exact⟨σ7,H7,I7.unpinned,q7⟩
  | ret v=>obtain⟨x7,σ7,H7,I7,r7,q7⟩:=q7;exact⟨x7,σ7,H7,I7.unpinned,r7,q7⟩
end
noncomputable abbrev R2:=V->V->Hp->VK->Prop
noncomputable def Z6 (X:Cx)(f:Value->Value->Sem Value)(r:R2):Prop:=
 ∀(jI:Qb) (s:Shared) (σ:St) (H:Hp) (x y:V) (v u:Value) (Q:VK),Inv X jI σ H s->ZI x v->ZI y u->r x y H Q->
  xf (xz X.prog X.w) X.A (f v u) (EP X jI σ Q) X.xe s
noncomputable def Y6 (X:Cx)(f:Value)(r:List V->Hp->VK->Prop):Prop:=
 ∀(jI:Qb) (s:Shared) (σ:St) (H:Hp) (xs:List V) (us:List Value) (Q:VK),Inv X jI σ H s->Zu xs us->r xs H Q->
  xf (xz X.prog X.w) X.A (call f us) (EP X jI σ Q) X.xe s
noncomputable def Wk (r:R2)(ta tb:TE):TE:=fun σ H Q=>ta σ H λx H1=>tb σ H1 λy H2=>r x y H2 Q
noncomputable def rI (C:Int->Int->Prop)(g:Int->Int->V):R2:=λx y H Q=>∃i j,x=.int i/\y=.int j/\C i j/\Q (g i j) H
noncomputable def W7 (g:Int->Int->V):R2:=λx y H Q=>∃i j,x=.int i/\y=.int j/\Q (g i j) H
section
variable {X:Cx}{a b c:Expr}{ta tb tc:TE}{pos:Pos}
theorem binT (ha:PE X a ta)(hb:PE X b tb){jI:Qb}{s:Shared}{σ:St}{H:Hp}{R:V->V->Hp->Prop}(I:Inv X jI σ H s)
  (h:ta σ H λx H1=>tb σ H1 λy H2=>R x y H2) {Q:xD} {f:Value->Value->Sem Value}
  (hf:∀v u s2 x y H2,Inv X jI σ H2 s2->ZI x v->ZI y u->R x y H2->xf (xz X.prog X.w) X.A (f v u) Q X.xe s2) :
  xf (xz X.prog X.w) X.A (eval a X.env) (λv s₁=>xf (xz X.prog X.w) X.A (eval b X.env) (λu s₂=>xf (xz X.prog X.w) X.A (f v u) Q X.xe s₂) X.xe s₁) X.xe s:=by
 refine ZJ (ha jI s σ H _ I h) λv s1 ⟨x,H1,I1,r1,q1⟩=>?_;refine ZJ (hb jI s1 σ H1 _ I1 q1) λu s2 ⟨y,H2,I2,r2,q2⟩=>?_;exact hf v u s2 x y H2 I2 r1 r2 q2
theorem VC {op:Operator}{r:R2}(ho:Z6 X (binaryOp op) r)(ha:PE X a ta)(hb:PE X b tb):PE X (.BinOp a op b pos) (Wk r ta tb):=by
 intro jI s σ H Q I h;exact wpAny_BinOp (binT ha hb I h λv u s2 x y H2 I2 rx ry q=>ho jI s2 σ H2 x y v u Q I2 rx ry q)
theorem opI {f:Value->Value->Sem Value}{C:Int->Int->Prop}{g:Int->Int->Int}
  (rule:∀(i j:Int) (t u:Tok) (s:Shared) (Q:xD) (E:xD),C i j->Q (.int (g i j) s.toks) { s with toks:=s.toks+1 }->xf (xz X.prog X.w) X.A (f (.int i t) (.int j u)) Q E s) :
  Z6 X f (rI C λi j=>.int (g i j)):=by
 intro jI s σ H x y v u Q I rx ry h;obtain⟨i,j,rfl,rfl,hc,q⟩:=h;obtain⟨t,rfl⟩:=rx;obtain⟨t',rfl⟩:=ry;exact rule i j t t' s _ _ hc ⟨.int (g i j),H,I.tok _,⟨_,rfl⟩,q⟩
theorem opI0 {f:Value->Value->Sem Value}{g:Int->Int->Int}
  (rule:∀(i j:Int) (t u:Tok) (s:Shared) (Q:xD) (E:xD),Q (.int (g i j) s.toks) { s with toks:=s.toks+1 }->xf (xz X.prog X.w) X.A (f (.int i t) (.int j u)) Q E s) :
  Z6 X f (W7 λi j=>.int (g i j)):=by
 intro jI s σ H x y v u Q I rx ry h;obtain⟨i,j,rfl,rfl,q⟩:=h;obtain⟨t,rfl⟩:=rx;obtain⟨t',rfl⟩:=ry;exact rule i j t t' s _ _ ⟨.int (g i j),H,I.tok _,⟨_,rfl⟩,q⟩
theorem opB0 {f:Value->Value->Sem Value}{g:Int->Int->Bool}
  (rule:∀(i j:Int) (t u:Tok) (s:Shared) (Q:xD) (E:xD),Q (.bool (g i j)) s->xf (xz X.prog X.w) X.A (f (.int i t) (.int j u)) Q E s) :
  Z6 X f (W7 λi j=>.bl (g i j)):=by
 intro jI s σ H x y v u Q I rx ry h;obtain⟨i,j,rfl,rfl,q⟩:=h;obtain⟨t,rfl⟩:=rx;obtain⟨t',rfl⟩:=ry;exact rule i j t t' s _ _ ⟨.bl (g i j),H,I,rfl,q⟩
noncomputable def CDiv (i j:Int):Prop:=0<j/\j<1073741824
noncomputable def CPow (i j:Int):Prop:=0<=j/\j<=1000000/\i.natAbs<2 ^ 64
noncomputable def CMul (i j:Int):Prop:=(-(2 ^ 64)<i/\i<2 ^ 64)∨(-(2 ^ 64)<j/\j<2 ^ 64)
theorem CMul.ok {i j:Int}(h:CMul i j):IntMulOk i j:=by
 rcases h with⟨h1,h2⟩ | ⟨h1,h2⟩
 ·exact .of_left (intBits_le_64 h1 h2)
 ·exact .of_right (intBits_le_64 h1 h2)
theorem Zgf:Z6 X (binaryOp .Add) (W7 λi j=>.int (i+j)):=opI0 λ_ _ _ _ _ _ _ q=>add_int q
theorem Zm6:Z6 X (binaryOp .Sub) (W7 λi j=>.int (i-j)):=opI0 λ_ _ _ _ _ _ _ q=>sub_int q
theorem Zgg:Z6 X (binaryOp .Mult) (rI CMul λi j=>.int (i*j)):=opI λ_ _ _ _ _ _ _ hc q=>mul_int q hc.ok
theorem Zlf:Z6 X (binaryOp .FloorDiv) (rI CDiv λi j=>.int (i / j)):=opI λi j _ _ _ _ _ hc q=>by
 have h1:(0:Int)<j:=hc.1;have h2:j<1073741824:=hc.2;exact floordiv_int (by omega) (by rw[Int.fdiv_eq_ediv_of_nonneg i (by omega)];exact q) (.inl (PyProof.noPylong_small (by omega)))
theorem Zen:Z6 X (binaryOp .Mod) (rI (λ_ j=>0<j) λi j=>.int (i % j)):=opI λi j _ _ _ _ _ hc q=>by
 have h1:(0:Int)<j:=hc;exact mod_int' (by omega) (by rw[Int.fmod_eq_emod_of_nonneg i (by omega)];exact q)
theorem Zm7:Z6 X (binaryOp .Pow) (rI CPow λi j=>.int (i ^ j.toNat)):=opI λ_ _ _ _ _ _ _ hc q=>pow_int_small hc.1 hc.2.1 hc.2.2 q
end
section
variable {X:Cx}{a b c:Expr}{ta tb tc:TE}{pos:Pos}
theorem Zjd:Z6 X (xk .Lt) (W7 λi j=>.bl (decide (i<j))):=opB0 λ_ _ _ _ _ _ _ q=>lt_int q
theorem Zog:Z6 X (xk .LtE) (W7 λi j=>.bl (decide (i<=j))):=opB0 λ_ _ _ _ _ _ _ q=>le_int q
theorem Zms:Z6 X (xk .Gt) (W7 λi j=>.bl (decide (j<i))):=opB0 λ_ _ _ _ _ _ _ q=>gt_int q
theorem Zoh:Z6 X (xk .GtE) (W7 λi j=>.bl (decide (j<=i))):=opB0 λ_ _ _ _ _ _ _ q=>ge_int q
theorem Z6.or {f:Value->Value->Sem Value}{r r':R2}(h:Z6 X f r)(h':Z6 X f r'):Z6 X f (λx y H Q=>r x y H Q∨r' x y H Q):=by
 intro jI s σ H x y v u Q I rx ry q;rcases q with q | q
 ·exact h jI s σ H x y v u Q I rx ry q
 ·exact h' jI s σ H x y v u Q I rx ry q
theorem Be (b:Expr){op:CmpOp}(h:op≠.In:=by decide)(h2:op≠.NotIn:=by decide):behindInMarks op b=false:=by
 have e1:(op==CmpOp.In)=false:=by cases op <;> first | rfl | exact absurd rfl h
 have e2:(op==CmpOp.NotIn)=false:=by cases op <;> first | rfl | exact absurd rfl h2
 cases b <;> simp[behindInMarks,e1,e2]
theorem Zlg {op:CmpOp}{r:R2}(ho:Z6 X (xk op) r)(ha:PE X a ta)(hb:PE X b tb)(hm:behindInMarks op b=false):PE X (.Compare a [op] [b] pos) (Wk r ta tb):=by
 intro jI s σ H Q I h;exact wpAny_Compare1 (binT ha hb I h λv u s2 x y H2 I2 rx ry q=>ho jI s2 σ H2 x y v u Q I2 rx ry q) hm
noncomputable def Zoi (t:TE):TT:=fun σ H Q=>t σ H λx H'=>∃k,x=.bl k/\Q k H'
theorem Zcw {op:CmpOp}{r:R2}(ho:Z6 X (xk op) r)(ha:PE X a ta)(hb:PE X b tb)(hm:behindInMarks op b=false):PT X (.Compare a [op] [b] pos) (Zoi (Wk r ta tb)):=by
 intro jI s σ H Q I h;refine wpAny_isTrue_Compare1 (ZJ (ha jI s σ H _ I h) λv s1 ⟨x,H1,I1,r1,q1⟩=>ZJ (hb jI s1 σ H1 _ I1 q1) λu s2 ⟨y,H2,I2,r2,q2⟩=>
  ZJ (ho jI s2 σ H2 x y v u _ I2 r1 r2 q2) λc s3 ⟨z,H3,I3,r3,k,e,q3⟩=>?_) hm
 subst e
 cases r3
 exact wpAny_truthy_bool ⟨H3,I3,q3⟩
theorem Bf:(xg:Nat)<2 ^ 63:=by rw[sizeLine_eq];decide
theorem Xw {x:V}{us:List Value}(r:Zu [x] us):∃u,us=[u]/\ZI x u:=by
 cases r with
 | cons r1 r2=>cases r2;exact⟨_,rfl,r1⟩
theorem Zhf {x y:V}{us:List Value}(r:Zu [x,y] us):∃u w',us=[u,w']/\ZI x u/\ZI y w':=by
 cases r with
 | cons r1 r2=>
  cases r2 with
  | cons r3 r4=>cases r4;exact⟨_,_,rfl,r1,r3⟩
theorem ZhZ (hc:X.calm=true):Y6 X (.builtin "max") (λxs H Q=>∃i j,xs=[.int i,.int j]/\Q (.int (if j > i then j else i)) H):=by
 intro jI s σ H xs us Q I r h;obtain⟨i,j,rfl,q⟩:=h;obtain⟨u,w',rfl,⟨t,rfl⟩,⟨t',rfl⟩⟩:=Zhf r;refine max_two_ints (I.ok.hd hc) λh' tk k=>⟨_,H,I.kept k,?_,q⟩;by_cases hj:j > i
 ·rw[if_pos hj,if_pos hj];exact⟨_,rfl⟩
 ·rw[if_neg hj,if_neg hj];exact⟨_,rfl⟩
theorem Zh0 (hc:X.calm=true):Y6 X (.builtin "min") (λxs H Q=>∃i j,xs=[.int i,.int j]/\Q (.int (if j<i then j else i)) H):=by
 intro jI s σ H xs us Q I r h;obtain⟨i,j,rfl,q⟩:=h;obtain⟨u,w',rfl,⟨t,rfl⟩,⟨t',rfl⟩⟩:=Zhf r;refine min_two_ints (I.ok.hd hc) λh' tk k=>⟨_,H,I.kept k,?_,q⟩;by_cases hj:j<i
 ·rw[if_pos hj,if_pos hj];exact⟨_,rfl⟩
 ·rw[if_neg hj,if_neg hj];exact⟨_,rfl⟩
theorem Zh1:Y6 X (.type "int") (λxs H Q=>(∃i,xs=[.int i]/\Q (.int i) H)∨∃k,xs=[.bl k]/\Q (.int (if k then 1 else 0)) H):=by
 intro jI s σ H xs us Q I r h;rcases h with⟨i,rfl,q⟩ | ⟨k,rfl,q⟩
 ·obtain⟨u,rfl,t,rfl⟩:=Xw r
  exact call_int_int ⟨.int i,H,I,⟨_,rfl⟩,q⟩
 ·obtain⟨u,rfl,r1⟩:=Xw r
  cases r1
  exact call_int_bool ⟨.int (if k then 1 else 0),H,I.tok _,⟨_,rfl⟩,q⟩
end
structure ObjM (h:Heap)(x dx C:Addr)(mA:Str->Option Value):Prop where
 obj:h.get? x=some (qcx C dx)
 ns:h.Ns1 dx mA
 ne:dx≠x
theorem Zh2 {h:Heap}{dx:Addr}{mA:Str->Option Value}(n:h.Ns1 dx mA):∃od,h.get? dx=some od/\∀name,qcG name od=some (mA name):=by
 obtain⟨o,es,ep,ho,hd,hk,_,hm⟩:=n;refine⟨o,ho,λname=>?_⟩;have e:=hm name;unfold nsFind findBy at e;rw[<-Array.find?_toList]at e;unfold qcG;rw[hd];dsimp only;split
 ·rename_i y q
  rw[q]at e;exact congrArg some e
 ·rename_i q
  rw[q]at e;have a:es.toList.any (·.refKey)=false:=by
   rw[List.any_eq_false];intro y hy;obtain⟨z,t,hkey⟩:=hk y (zd.mp hy);simp[DictEntry.refKey,hkey]
  have a':¬es.toList.any (·.refKey)=true:=by rw[a];exact yw
  rw[if_neg a'];exact congrArg some e
theorem ObjM.look {h:Heap}{x dx C:Addr}{mA:Str->Option Value}(I:ObjM h x dx C mA):∃od,PySem.W.InstAt h x (qcx C dx) C (some od)/\∀name,qcG name od=some (mA name):=
 let ⟨od,ho,hl⟩:=Zh2 I.ns
 ⟨od,⟨I.obj,rfl,rfl,ho⟩,hl⟩
section
variable {prog:xB}{w:World}{A:xC}{E:xD}{s:Shared}{K:qm}{x dx C f:Addr}{mA:Str->Option Value}{name:Str}{v:Value}
end
section
variable {P:xB}{w:World}{H H':Hp}{h h':Heap}{a C dx:Addr}{fs fs':List (Str×V)}
theorem Zlh (hok:Yg P w H h)(e:H a=some (.ins C dx fs)):∃mA,ObjM h a dx C mA/\(∀f,UG (fs.lookup f) (mA f))/\PySem.Within mA (fs.map (·.1))/\fs.length<=1000/\H dx=some (.own a):=by
 obtain⟨d,z,ne,ob,mA,n,r,q⟩:=(show Ym P w H h a (.ins C dx fs)from hok a _ e);exact⟨mA,⟨ob,n,ne⟩,r,q,z,d⟩
end
structure Cls (K:qm)(C:Addr):Prop where
 pg:PySem.W.plainGet K C Str.empty=true
 hd:PySem.W.hasDictIn K C=true
 po:PySem.W.plainOver K C=true
 sa:PySem.W.findIn K (.ref C) "__setattr__" = some (some (.builtin "object.__setattr__"))
theorem Cls.get {K:qm}{C:Addr}(c:Cls K C)(f:Str):PySem.W.plainGet K C f=true:=c.pg
section
variable {X:Cx}{jI:Qb}{σ:St}{H:Hp}{s:Shared}{a C dx:Addr}{fs:List (Str×V)}{f:Str}{v:V}{A:xC}{E:xD}
end
section
variable {X:Cx}{o e value:Expr}{f:Str}{pos pos' tpos:Pos}{ta tv:TE}
end
section
variable {X:Cx}{jI:Qb}{σ:St}{H:Hp}{s:Shared}{A:xC}{E:xD}{Q:xD}{c:Value}{b:Bool}
inductive TyOf (K:qm)(H:Hp):V->Value->Prop where
 | non:TyOf K H .non (.type "NoneType")
 | bl (x:Bool):TyOf K H (.bl x) (.type "bool")
 | int (i:Int):TyOf K H (.int i) (.type "int")
 | str (x:Str):TyOf K H (.str x) (.type "str")
 | flt (x:UInt64):TyOf K H (.flt x) (.type "float")
 | lst {a:Addr} {xs:List V} (e:H a=some (.lst xs)):TyOf K H (.ref a) (.type "list")
 | frz {a:Addr} {o:Obj} {xs:List V} (e:H a=some (.frz o (.lst xs))):TyOf K H (.ref a) (.type "list")
 | tup {a:Addr} {xs:List V} (e:H a=some (.tup xs)):TyOf K H (.ref a) (.type "tuple")
 | dK {a:Addr} {kvs:List (Zt×V)} (e:H a=some (.dK kvs)):TyOf K H (.ref a) (.type "dict")
 | dT {a:Addr} {kvs:List (List Zt×V)} (e:H a=some (.dT kvs)):TyOf K H (.ref a) (.type "dict")
 | ins {a C dx:Addr} {fs:List (Str×V)} (e:H a=some (.ins C dx fs)) (cl:Cls K C) (ha:PySem.W.findIn K (.ref C) "__class__" = some (some (.builtin "object.__class__")))
   (hn:PySem.W.specialIn K (.builtin "object.__class__") "__get__" = some (some (.builtin "getset_descriptor.__get__"))) (htk:PySem.W.takesIn K (.builtin "object.__class__")=some true)
   (hm:PySem.W.mroIn K C (.type "object")=some true):TyOf K H (.ref a) (.ref C)
theorem Zh3 {x:V}{u t:Value}(I:Inv X jI σ H s)(rx:ZI x u)(ty:TyOf X.K H x t)(e:PySem.W.kitOne X.K t c=some b)(h:∀tk,Q (.bool b) { s with toks:=tk }) :
  xf (xz X.prog X.w) A (call (.builtin "isinstance") [u,c]) Q E s:=by
 cases ty with
 | non=>cases (show u=zm from rx);exact yd PySem.W.kitx_none I.kIn y8 e (λz=>nomatch z) h
 | bl y=>cases (show u=yP y from rx);exact yd PySem.W.kitx_bool I.kIn y8 e (λz=>nomatch z) h
 | int i=>obtain⟨t,q⟩:=(show ∃t,u=qcw i t from rx);cases q;exact yd PySem.W.kitx_int I.kIn y8 e (λz=>nomatch z) h
 | str y=>obtain⟨t,q⟩:=(show ∃t,u=qdb y t from rx);cases q;exact yd PySem.W.kitx_str I.kIn y8 e (λz=>nomatch z) h
 | flt y=>obtain⟨t,q⟩:=(show ∃t,u=Value.float y t from rx);cases q;exact yd PySem.W.kitx_float I.kIn y8 e (λz=>nomatch z) h
 | @lst a xs ea=>
  cases (show u=qY a from rx)
  obtain⟨_,_,n,_,h1⟩:=(show Ym X.prog X.w H s.heap a (.lst xs)from I.hok a _ ea);exact yd PySem.W.kitx_list I.kIn ⟨_,h1,rfl⟩ e (λz=>nomatch z) h
 | @frz a ob xs ea=>
  cases (show u=qY a from rx)
  obtain⟨_,_,_,n,_,h1⟩:=(show Ym X.prog X.w H s.heap a (.frz ob (.lst xs))from I.hok a _ ea);exact yd PySem.W.kitx_list I.kIn ⟨_,h1,rfl⟩ e (λz=>nomatch z) h
 | @tup a xs ea=>
  cases (show u=qY a from rx)
  obtain⟨_,_,_,p⟩:=(show Ym X.prog X.w H s.heap a (.tup xs)from I.hok a _ ea);obtain⟨o,h1,h2,_⟩:=p;exact yd PySem.W.kitx_tuple I.kIn ⟨o,h1,h2⟩ e (λz=>nomatch z) h
 | @dK a kvs ea=>
  cases (show u=qY a from rx)
  obtain⟨_,_,vs,_,p⟩:=(show Ym X.prog X.w H s.heap a (.dK kvs)from I.hok a _ ea);obtain⟨o,es,ep,h1,h2,_⟩:=p;exact yd PySem.W.kitx_dict I.kIn ⟨o,h1,h2.1⟩ e (λz=>nomatch z) h
 | @dT a kvs ea=>
  cases (show u=qY a from rx)
  obtain⟨_,_,xs,_,o,es,ep,h1,h2,_⟩:=(show Ym X.prog X.w H s.heap a (.dT kvs)from I.hok a _ ea);exact yd PySem.W.kitx_dict I.kIn ⟨o,h1,h2.1⟩ e (λz=>nomatch z) h
 | @ins a C dx fs ea cl ha hn htk hm=>
  cases (show u=qY a from rx)
  obtain⟨mA,O,_⟩:=Zlh I.hok ea;obtain⟨od,J,_⟩:=O.look;exact yd (PySem.W.kitx_own (cl.get _) cl.hd ha hn htk hm) I.kIn J e (λz=>nomatch z) h
end
structure Room (k:Nat)(A:xC):Prop where
 hd:A.handled=none
 dp:A.depth+3*k+5<recursionLimit
 un:A.units+16*k+200<cLine
 gd:A.guards=some []
theorem Room.mono {j k:Nat}{A:xC}(r:Room k A)(h:j<=k):Room j A:=⟨r.hd,by have:=r.dp;omega,by have:=r.un;omega,r.gd⟩
theorem Room.deeper {k:Nat}{A:xC}(r:Room (k+1) A)(env:Env):Room k (A.deeper env):=
 ⟨r.hd,by have:=r.dp;show A.depth+1+3*k+5<_;omega,by have:=r.un;show A.units+3+16*k+200<_;omega,r.gd⟩
theorem Room.depth {k:Nat}{A:xC}(r:Room k A):A.depth<recursionLimit:=by have:=r.dp;omega
theorem Room.units {k:Nat}{A:xC}(r:Room k A):A.units+64<cLine:=by have:=r.un;omega
theorem Room.units0 {k:Nat}{A:xC}(r:Room k A):A.units<cLine:=by have:=r.un;omega
noncomputable def Jv:TA:=λ_ H Q=>Q [] H
noncomputable def Jp (ta:TE)(tr:TA):TA:=fun σ H Q=>ta σ H λx H1=>tr σ H1 λxs H2=>Q (x::xs) H2
section
variable {X:Cx}{e:Expr}{es:List Expr}{te:TE}{t:TA}{pos:Pos}
theorem Xi:PA X [] Jv:=λ_ _ _ _ H Q I h=>Calls.spliced_nil ⟨[],H,I,.nil,h⟩
theorem YK (ha:PE X e te)(hr:PA X es t)(hs:xh (e::es) X.env=(false,eval e X.env)::xh es X.env:=by rfl):PA X (e::es) (Jp te t):=by
 intro pos jI s σ H Q I h;rw[hs];show xf _ _ (spliced ((false,eval e X.env)::backTo pos (xh es X.env))) _ _ s;refine Calls.spliced_cons (ZJ (ha jI s σ H _ I h) λu s1 ⟨x,H1,I1,r1,q1⟩=>?_);exact ZJ (hr pos jI s1 σ H1 _ I1 q1) λus s2 ⟨xs,H2,I2,r2,q2⟩=>⟨x::xs,H2,I2,.cons r1 r2,q2⟩
noncomputable def tTup (t:TA):TE:=fun σ H Q=>t σ H λxs H1=>xs.length<=xg/\∀p,H1 p=none->Q (.ref p) (Zl H1 p (.tup xs))
noncomputable def tLst (t:TA):TE:=fun σ H Q=>t σ H λxs H1=>xs.length<=xg/\∀p,H1 p=none->Q (.ref p) (Zl H1 p (.lst xs))
theorem Zm8 {x1}(h:PA X es t):PE X (.Tuple es x1 pos) (tTup t):=by
 intro jI s σ H Q I hq;refine wpAny_Tuple_spliced (ZJ (h pos jI s σ H _ I hq) λus s1 ⟨xs,H1,I1,r,z,q⟩=>⟨by rw[<-r.length];exact z,?_⟩);have hf:H1 s1.heap.objs.size=none:=I1.hok.fresh (qp _);refine⟨.ref s1.heap.objs.size,Zl H1 s1.heap.objs.size (.tup xs),I1.laid (t':=s1.toks) (λb u e=>qj _ e) (qp _) ?_,rfl,q _ hf⟩;exact⟨z,us,r,⟨_,qC _ rfl,rfl,_,rfl⟩⟩
theorem Zm9 (h:PA X es t):PE X (.List es pos) (tLst t):=by
 intro jI s σ H Q I hq;refine wpAny_List_spliced (ZJ (h pos jI s σ H _ I hq) λus s1 ⟨xs,H1,I1,r,z,q⟩=>⟨by rw[<-r.length];exact z,?_⟩);have hf:H1 s1.heap.objs.size=none:=I1.hok.fresh (qp _);refine⟨.ref s1.heap.objs.size,Zl H1 s1.heap.objs.size (.lst xs),I1.laid (t':=s1.toks) (λb u e=>qj _ e) (qp _) ?_,rfl,q _ hf⟩;exact⟨z,us,0,r,qC _ rfl⟩
end
noncomputable abbrev Sp:=List V->Hp->VK->XK->Prop
noncomputable abbrev XT:=List Env->Hp->Shared->XK->xD
structure Env0 (P:xB)(w:World)(K:qm)(mg:Str->Option Value)(base:Heap)(A:xC)(outer:List Env)(s:Shared)(H:Hp):Prop where
 frames:A.frames=some outer
 mod:Mod K mg base
 bs:∀b o,base.get? b=some o->s.heap.get? b=some o/\H b=none
 bsz:base.objs.size<=s.heap.objs.size
 funs:s.heap.FunFrames base outer
 frf:∀b∈XS outer,H b=none
 hok:Yg P w H s.heap
 bare:AllBare s.gens
noncomputable def CE (outer:List Env)(P:xB)(w:World)(H:Hp)(s:Shared)(Q:VK)(u:Value)(s':Shared):Prop:=
 ∃v H',s'.os=s.os/\AllBare s'.gens/\Un (XS outer) [] H H' s.heap s'.heap/\Yg P w H' s'.heap/\ZI v u/\Q v H'
noncomputable def CR (CX:XT)(outer:List Env)(P:xB)(w:World)(H:Hp)(s:Shared)(Q:VK)(E:XK)(r:Result)(s':Shared):Prop:=
 match r with
 | .ok (.ret u)=>CE outer P w H s Q u s'
 | .ok _=>False
 | .error e=>CX outer H s E e s'
structure FnOk (P:xB)(w:World)(K:qm)(mg:Str->Option Value)(base:Heap)(CX:XT)(k:Nat)(f:Addr)(fd:xA)(ps:List Str)(sp:Sp):Prop where
 len:∀vs H Q E,sp vs H Q E->vs.length=ps.length
 run:∀(A:xC) (outer:List Env) (s:Shared) (H:Hp) (args:Args) (us:List Value) (vs:List V) (Q:VK) (E:XK),Room k A->Env0 P w K mg base A outer s H->BindsTo s fd args (ps.zip us)->Zu vs us->sp vs H Q E->
  xo (xz P w) A (.call (.ref f) args) (CR CX outer P w H s Q E) s
theorem FnOk.mono {P:xB}{w:World}{K:qm}{mg:Str->Option Value}{base:Heap}{CX:XT}{j k:Nat}{f:Addr}{fd:xA}{ps:List Str}{sp:Sp}(F:FnOk P w K mg base CX j f fd ps sp)(h:j<=k) :
  FnOk P w K mg base CX k f fd ps sp:=⟨F.len,λA outer s H args us vs Q E hr=>F.run A outer s H args us vs Q E (hr.mono h)⟩
theorem FnOk.imp {P:xB}{w:World}{K:qm}{mg:Str->Option Value}{base:Heap}{CX:XT}{k:Nat}{f:Addr}{fd:xA}{ps:List Str}{sp sp':Sp}(F:FnOk P w K mg base CX k f fd ps sp)
  (h:∀vs H Q E,sp' vs H Q E->sp vs H Q E):FnOk P w K mg base CX k f fd ps sp':=
 ⟨λvs H Q E q=>F.len vs H Q E (h _ _ _ _ q),λA outer s H args us vs Q E hr he hb hv hs=>F.run A outer s H args us vs Q E hr he hb hv (h _ _ _ _ hs)⟩
section
variable {X:Cx}{jI:Qb}{σ:St}{H:Hp}{s s':Shared}
theorem Inv.env0 (I:Inv X jI σ H s):Env0 X.prog X.w X.K X.mg X.base X.A X.stack s H:=
 ⟨I.ok.frames,I.ok.mod,I.bs,zi I.ok.bsz I.sz,I.stack,I.stkFree,I.hok,I.bare⟩
theorem Inv.after {Q:VK}{u:Value}(I:Inv X jI σ H s)(h:CE X.stack X.prog X.w H s Q u s'):EP X jI σ Q u s':=by
 obtain⟨v,H',os,bare,un,hok,r,q⟩:=h;obtain⟨hh,g,d,t,os'⟩:=s';obtain rfl:os'=s.os:=os;exact⟨v,H',I.call (h':=hh) (g':=g) (d':=d) (t':=t) (ch:=[]) un hok bare (λb z=>absurd z (by simp)),r,q⟩
end
noncomputable def Zoj (sp:Sp)(dvs:List V)(E:XK)(t:TA):TE:=fun σ H Q=>t σ H λvs H1=>sp (vs++dvs) H1 Q E
noncomputable def Wi (K:qm)(fd:xA)(ps:List Str)(ds:List Value):Prop:=
 ∀(s:Shared) (us:List Value),K.In s.heap->(us++ds).length=ps.length->BindsTo s fd ⟨us,[]⟩ (ps.zip (us++ds))
theorem Wi.all {K:qm}{fd:xA}{ps:List Str}(h:∀us:List Value,us.length=ps.length->bindArgs fd ⟨us,[]⟩=pure (ps.zip us)):Wi K fd ps []:=λs us _ hl=>by
 rw[zj]at hl⊢;exact .of_eq (h us hl)
noncomputable def Zeo (CX:XT)(X:Cx)(E:XK):Prop:=∀(jI:Qb) (σ:St) (H:Hp) (s:Shared) (e:Value) (s':Shared),Inv X jI σ H s->CX X.stack H s E e s'->X.xe e s'
section
variable {X:Cx}{CX:XT}{k:Nat}{f C:Addr}{fd:xA}{ps:List Str}{sp:Sp}{dvs:List V}{ds:List Value}{E:XK}{x m:Str}{p pos apos:Pos}{e o:Expr}{es:List Expr}{ta:TE}{t:TA}
theorem Zje {jI:Qb}{σ:St}{H:Hp}{s:Shared}{Q:VK}{us:List Value}{vs:List V}(F:FnOk X.prog X.w X.K X.mg X.base CX k f fd ps sp)(hr:Room k X.A)(hb:Wi X.K fd ps ds)(hd:Zu dvs ds)(hx:Zeo CX X E)
  (I:Inv X jI σ H s) (r:Zu vs us) (h:sp (vs++dvs) H Q E):xf (xz X.prog X.w) X.A (call (.ref f) us) (EP X jI σ Q) X.xe s:=by
 have r2:Zu (vs++dvs) (us++ds):=r.append hd;have hl:(us++ds).length=ps.length:=by rw[<-r2.length];exact F.len _ _ _ _ h
 refine xy (codeAny_mono (F.run X.A X.stack s H ⟨us,[]⟩ (us++ds) (vs++dvs) Q E hr I.env0 (hb s us I.kIn hl) r2 h) λr s' hq=>?_)
 cases r with
 | error e=>exact hx jI σ H s e s' I hq
 | ok fl=>
  cases fl with
  | ret u=>exact I.after hq
  | next=>exact yC hq
  | brk=>exact yC hq
  | cont=>exact yC hq
theorem Zli (F:FnOk X.prog X.w X.K X.mg X.base CX k f fd ps sp)(hr:Room k X.A)(hg:Gl X x)(hm:X.mg x=some (.ref f))(hk:yK X.K (.ref f)=true)(hb:Wi X.K fd ps ds)(hd:Zu dvs ds)(hx:Zeo CX X E)
  (ha:PA X (e::es) t) (hdb:(x==("__debug__" : Str))=false:=by decide) (he:xh (e::es) X.env=(false,eval e X.env)::xh es X.env:=by rfl) (hpl:(backTo pos (xh es X.env)).any (·.1)=false:=by rfl) :
  PE X (.Call (.Name x p) (e::es) [] pos) (Zoj sp dvs E t):=by
 intro jI s σ H Q I h;refine wpAny_Call_Name_kw (Zhd I hg hm ?_ hdb);refine PySem.W.callWith_K (h₀:=X.base) I.ok.mod.kin hk (ZJ (ha pos jI s σ H _ I h) λus s1 ⟨vs,H1,I1,r,q⟩=>⟨I1.kIn,?_⟩) he hpl;exact Zje F hr hb hd hx I1 r q
end
section
variable {X:Cx}{CX:XT}{k:Nat}{f C:Addr}{fd:xA}{ps ks:List Str}{sp:Sp}{E:XK}{x m:Str}{p pos apos kpos:Pos}{e o:Expr}{es:List Expr}{kws:List Keyword}{te ta:TE}{t tk:TA}{nm:Option Str}
variable {g:List Value->List Value->List Value}{gV:List V->List V->List V}
end
structure FnScope (N P:List Str)(sc:Scope):Prop where
 kind:sc.kind=.function
 co:sc.isCoroutine=false
 gen:sc.isGenerator=false
 nd:N.Nodup
 pre:N.take P.length=P
 par:∀x∈P,sc.names.lookup x=some .local∨sc.names.lookup x=some .cell
 nofree:∀y∈sc.names,y.2≠.free
theorem ZdI {kindOf:Str->Option NameKind}{x:Str}:∀{binds:List (Str×Value)} {m:Str->Option Value},(∀v,(x,v)∉binds)->bindL kindOf binds m x=m x
 | [],_,_=>rfl
 | (n,v)::r,m,h=>by
  unfold bindL;rw[ZdI λw hw=>h w (qQ _ hw)];split
  ·have:x≠n:=by rintro rfl;exact h v zG
   simp[this]
  ·rfl
theorem ZdJ {kindOf:Str->Option NameKind}{x:Str}:∀{binds:List (Str×Value)} {m:Str->Option Value},(∀v,(x,v)∉binds)->bindC kindOf binds m x=m x
 | [],_,_=>rfl
 | (n,v)::r,m,h=>by
  unfold bindC;rw[ZdJ λw hw=>h w (qQ _ hw)];split
  ·rfl
  ·have:x≠n:=by rintro rfl;exact h v zG
   simp[this]
theorem ZdK {kindOf:Str->Option NameKind}{x:Str}{v:Value}:∀{P:List Str} {vs:List Value} {i:Nat} {m:Str->Option Value},P.Nodup->P[i]?=some x->vs[i]?=some v->kindOf x=some .local->
  bindL kindOf (P.zip vs) m x=some v
 | [],_,_,_,_,h,_,_=>by simp at h
 | _::_,[],_,_,_,_,h,_=>by simp at h
 | p::P,w::vs,0,m,nd,h1,h2,hk=>by
  simp at h1 h2;subst h1;subst h2;show bindL kindOf ((p,w)::P.zip vs) m p=_;unfold bindL;rw[ZdI λv hv=>(zU.mp nd).1 (qaI hv).1,if_pos hk];simp
 | p::P,w::vs,i+1,m,nd,h1,h2,hk=>by
  show bindL kindOf ((p,w)::P.zip vs) m x=_;unfold bindL;exact ZdK (i:=i) (zU.mp nd).2 (by simpa using h1) (by simpa using h2) hk
theorem ZdL {kindOf:Str->Option NameKind}{x:Str}{v:Value}:∀{P:List Str} {vs:List Value} {i:Nat} {m:Str->Option Value},P.Nodup->P[i]?=some x->vs[i]?=some v->kindOf x≠some .local->
  bindC kindOf (P.zip vs) m x=some v
 | [],_,_,_,_,h,_,_=>by simp at h
 | _::_,[],_,_,_,_,h,_=>by simp at h
 | p::P,w::vs,0,m,nd,h1,h2,hk=>by
  simp at h1 h2;subst h1;subst h2;show bindC kindOf ((p,w)::P.zip vs) m p=_;unfold bindC;rw[ZdJ λv hv=>(zU.mp nd).1 (qaI hv).1,if_neg hk];simp
 | p::P,w::vs,i+1,m,nd,h1,h2,hk=>by
  show bindC kindOf ((p,w)::P.zip vs) m x=_;unfold bindC;exact ZdL (i:=i) (zU.mp nd).2 (by simpa using h1) (by simpa using h2) hk
noncomputable def start (N:List Str)(vs:List V):St:=vs.map some++qy (N.length-vs.length) none
noncomputable def Vj (CX:XT)(P:xB)(w:World)(K:qm)(mg:Str->Option Value)(base:Heap)(N:List Str)(qual:Str)(scope:Scope)(f:Addr)(cd:Value)(A:xC)(outer:List Env)(s:Shared)(H:Hp)(E:XK):Cx where
 prog:=P
 w:=w
 K:=K
 mg:=mg
 base:=base
 A:=A.deeper (envOfC qual scope s.heap.objs.size f cd)
 N:=N
 s₀:=s
 H₀:=H
 env:=envOfC qual scope s.heap.objs.size f cd
 outer:=outer
 stack:=envOfC qual scope s.heap.objs.size f cd::outer
 ex:=[]
 calm:=true
 fn:=λ_=>true
 pn:=[]
 xe:=λe s'=>xf (xz P w) (A.deeper (envOfC qual scope s.heap.objs.size f cd)) (leaving (envOfC qual scope s.heap.objs.size f cd) e) (λ_ s''=>CX outer H s E e s'') (λe' s''=>CX outer H s E e' s'') s'
theorem Zfc {sc:Scope}{n:Nat}{x:Str}(h:sc.names.lookup x=some .cell):∃c,(cellsFrom n sc.names []).lookup x=some c:=by
 have q:=qcA sc.names n [] (.inl h);exact qay.mp q
theorem Zh4 {CX:XT}{P:xB}{w:World}{K:qm}{mg:Str->Option Value}{base:Heap}{N ps:List Str}{qual:Str}{scope:Scope}{f:Addr}{cd:Value}{A:xC}{outer:List Env}{s s1:Shared}{H:Hp}{E:XK}{us:List Value}{vs:List V}
  (S:FnScope N ps scope) (hd:A.handled=none) (e0:Env0 P w K mg base A outer s H) (hl:vs.length=ps.length) (r:Zu vs us)
  (x:InCallC s s.heap.objs.size (bindL (envOfC qual scope s.heap.objs.size f cd).kindOf (ps.zip us) λ_=>none) (cellsFrom (s.heap.objs.size+1) scope.names []) (bindC (envOfC qual scope s.heap.objs.size f cd).kindOf (ps.zip us) λ_=>none) s1) :
  Inv (Vj CX P w K mg base N qual scope f cd A outer s H E) [] (start N vs) H s1:=by
 have hpl:ps.length<=N.length:=by have:=congrArg qaM S.pre;rw[qZ]at this;omega
 obtain⟨h1,tk,rfl,hk⟩:=x.done;have noA:∀b:Addr,b∉(Vj CX P w K mg base N qual scope f cd A outer s H E).ex:=λb z=>absurd (show b∈([]:List Addr)from z) (by simp);refine⟨⟨e0.mod,S.kind,rfl,rfl,qp _,λy z c h1 h2=>?_,λy hy=>?_,λy c _ h=>?_,λ_=>hd,qcO e0.frames,.inr ⟨rfl,rfl⟩,λb z=>absurd z (noA b),e0.bs,e0.bsz,λb _ _=>noA b,λb z=>absurd z (noA b),e0.funs,e0.frf⟩,
  rfl,e0.bare,Un.kept hk,⟨_,x.toInCall.ns,λi y v h1 h2 h3=>?_⟩,λy c h=>⟨_,x.cell y c h⟩,e0.hok.fresh (qp _),λy c h=>?_,λp hp=>absurd (show p∈([]:Qb)from hp) (by simp),e0.hok.kept hk,?_⟩
 ·exact name_of_addr x.apart (zO h1) (zO h2)
 ·have hy:scope.names.lookup y=some .cell∨scope.names.lookup y=some .free:=hy
  rcases hy with hy | hy
  ·exact Zfc hy
  ·exact absurd rfl (S.nofree _ (zO hy))
 ·exact qcd (x.above y c (zO h))
 ·have hi:i<vs.length:=by
   unfold start at h2;by_cases hi:i<vs.length
   ·exact hi
   ·rw[yj (by simpa using hi)]at h2
    rw[yW]at h2;split at h2 <;> cases h2
  have ha:vs[i]?=some v:=by
   unfold start at h2;rw[zD (by simpa using hi),qH]at h2
   cases e:vs[i]? with
   | none=>rw[e]at h2;cases h2
   | some a=>rw[e]at h2;cases h2;rfl
  obtain⟨u,hu,rv⟩:=r.get ha;have hp:ps[i]?=some y:=by
   rw[<-S.pre,zM (by omega)];exact h1
  have ndP:ps.Nodup:=by rw[<-S.pre];exact S.nd.sublist (zF _ _)
  refine⟨u,rv,?_⟩;rcases S.par y (zv hp)with k | k
  ·exact .inl ⟨k,ZdK ndP hp hu k⟩
  ·obtain⟨c,e⟩:=Zfc (n:=s.heap.objs.size+1) k
   refine .inr ⟨.inl k,c,e,?_⟩;have q:=x.cell y c e;rw[ZdL ndP hp hu (by show scope.names.lookup y≠_;rw[k];decide)]at q;exact q
 ·exact e0.hok.fresh (qcd (x.above y c (zO h)))
 ·unfold start
  show _=N.length;rw[qI,qd,List.length_replicate];omega
theorem Zmt {CX:XT}{P:xB}{w:World}{K:qm}{mg:Str->Option Value}{base:Heap}{k:Nat}{f:Addr}{name qual:Str}{params:Arguments}{body:List Stmt}{scope:Scope}{dV kV doc pm cdv ct oc:Value}{an od:Option Addr}
  {osl:Array (Option Value)} {N ps:List Str} {sp:Sp} (lk:K.lookup f=some ⟨oc,od,.func (yQ name qual params body scope dV kV doc pm an cdv ct),osl⟩) (hcd:qbh K cdv qual=true) (S:FnScope N ps scope)
  (len:∀vs H Q E,sp vs H Q E->vs.length=ps.length)
  (hbody:∀(A:xC) (outer:List Env) (s:Shared) (H:Hp) (vs:List V) (Q:VK) (E:XK),Room k (A.deeper (envOfC qual scope s.heap.objs.size f cdv))->sp vs H Q E->
   ∃t,Wb (Vj CX P w K mg base N qual scope f cdv A outer s H E) body t/\t { nx:=λ_ H'=>Q .non H',rt:=Q } (start N vs) H) :
  FnOk P w K mg base CX (k+1) f (yQ name qual params body scope dV kV doc pm an cdv ct) ps sp:=by
 refine⟨len,λA outer s H args us vs Q E hr e0 hb r hsp=>?_⟩;have hl:=len _ _ _ _ hsp;have KX:K.In s.heap:=e0.mod.kin.keeps λb o e=>(e0.bs b o e).1;have lim:s.heap.NoLimit:=e0.mod.nolimit.keeps λb o e=>(e0.bs b o e).1;have hkind:∀y∈ps.zip us,scope.names.lookup y.1=some .local∨(scope.names.lookup y.1=some .cell/\((cellsFrom (s.heap.objs.size+1) scope.names []).lookup y.1).isSome=true):=λ⟨n,v⟩ hy=>by
  rcases S.par n (qaI hy).1 with q | q
  ·exact .inl q
  ·exact .inr ⟨q,qcA _ _ _ (.inl q)⟩
 refine codeAny_call_function hr.depth (KX _ _ lk) rfl S.co S.gen rfl (PySem.W.codeRec_of KX hcd) (hb _ _ _ _ ?_);refine wpAny_newFunctionEnv_cells S.kind hkind λenv he s1 x=>?_;subst he;refine⟨lim.keeps x.toInCall.keep,codeAny_func ?_⟩;obtain⟨t,ht,hq⟩:=hbody A outer s H vs Q E (hr.deeper _) hsp;have I:Inv (Vj CX P w K mg base N qual scope f cdv A outer s H E) [] (start N vs) H s1:=Zh4 S hr.hd e0 hl r x;refine xc (ht [] s1 (start N vs) H _ I hq) (λfl s' hs=>?_) λe s' hs=>hs;have fin:∀{σ':St} {H':Hp} {v:V} {u:Value},Inv (Vj CX P w K mg base N qual scope f cdv A outer s H E) [] σ' H' s'->ZI v u->Q v H'->CE outer P w H s Q u s':=
  λ{σ' H' v u} J rv q=>⟨v,H',J.os,J.bare,J.base,J.hok,rv,q⟩
 cases fl with
 | ret u=>
  obtain⟨v,σ',H',J,rv,q⟩:=hs;exact fin J rv q
 | next=>
  obtain⟨σ',H',J,q⟩:=hs;exact fin (v:=V.non) (u:=zm) J rfl q
 | brk=>
  obtain⟨_,_,_,q⟩:=hs;exact yC q
 | cont=>
  obtain⟨_,_,_,q⟩:=hs;exact yC q
section
variable {X:Cx}{x:Str}{p pos:Pos}{e:Expr}{es:List Expr}{t:TA}{id T:String}{r:List V->Hp->VK->Prop}
noncomputable def tCB (r:List V->Hp->VK->Prop)(t:TA):TE:=fun σ H Q=>t σ H λvs H1=>r vs H1 Q
theorem UX (hc:Y6 X (.builtin id) r)(hg:Gl X x)(hm:X.mg x=none)(hv:xj x=some (.builtin id))(ha:PA X (e::es) t)(hn:x≠"__name__":=by decide)(hdb:(x==("__debug__" : Str))=false:=by decide)
  (he:xh (e::es) X.env=(false,eval e X.env)::xh es X.env:=by rfl) (hpl:(backTo pos (xh es X.env)).any (·.1)=false:=by rfl):PE X (.Call (.Name x p) (e::es) [] pos) (tCB r t):=by
 intro jI s σ H Q I h;refine wpAny_Call_Name_kw (Uw I hg hm hv ?_ hn hdb);exact PyProof.Rows.callWith_builtin1 (ZJ (ha pos jI s σ H _ I h) λus s1 ⟨vs,H1,I1,r1,q1⟩=>hc jI s1 σ H1 vs us Q I1 r1 q1) he hpl
theorem JS (hc:Y6 X (.type T) r)(hg:Gl X x)(hm:X.mg x=none)(hv:xj x=some (.type T))(ha:PA X (e::es) t)(hn:x≠"__name__":=by decide)(hdb:(x==("__debug__" : Str))=false:=by decide)
  (he:xh (e::es) X.env=(false,eval e X.env)::xh es X.env:=by rfl) (hpl:(backTo pos (xh es X.env)).any (·.1)=false:=by rfl):PE X (.Call (.Name x p) (e::es) [] pos) (tCB r t):=by
 intro jI s σ H Q I h;refine wpAny_Call_Name_kw (Uw I hg hm hv ?_ hn hdb);exact yE (ZJ (ha pos jI s σ H _ I h) λus s1 ⟨vs,H1,I1,r1,q1⟩=>hc jI s1 σ H1 vs us Q I1 r1 q1) he hpl
end
end L2
namespace HT
noncomputable def lexLt:List Int->List Int->Bool
 | [],[]=>false
 | [],_::_=>true
 | _::_,[]=>false
 | x::xs,y::ys=>if x=y then lexLt xs ys else decide (x<y)
theorem Zgh (x y:Int)(xs ys:List Int):lexLt (x::xs) (y::ys)=if x=y then lexLt xs ys else decide (x<y):=rfl
theorem Zdq:lexLt [] []=false:=rfl
theorem ZcJ (y:Int)(ys:List Int):lexLt [] (y::ys)=true:=rfl
theorem ZcK (x:Int)(xs:List Int):lexLt (x::xs) []=false:=rfl
theorem Zjf (A:xC)(s:Shared)(a:Int)(t:Tok)(c:Int)(u:Tok):∃e,qaY A s (.int a t) (.int c u) e/\(e=true↔a=c):=
 ⟨(a==c),qaY.int_int a t c u,by simp⟩
theorem Zjg (A:xC)(s:Shared)(a:Int)(t:Tok)(c:Int)(u:Tok)(prog:xB)(w:World)(E:xD)(Q:xD)(h:Q (.bool (decide (a<c))) s) :
  xf (xz prog w) A (richCompare .Lt (.int a t) (.int c u)) Q E s:=
 (PyProof.Rows.lt_int h:xf (xz prog w) A (xk .Lt (.int a t) (.int c u)) Q E s)
section
open PySem.SeqAt
open PySem.AutoSeq1 (wpAny_loadPart')
open PySem.MeetsSeq PySem.MeetsSeq2 PySem.MeetsSeq3
theorem Zdr (l b:Addr)(items items2:Array Value)(n n2:Nat)(dd dd2:Option Addr)(sl sl2:Array (Option Value))(ns ms:List Int)(hi:IntsAre items.toList ns)(hj:IntsAre items2.toList ms) :
  Meets (Builtin.«tuple.__lt__» ⟨[.ref l,.ref b],[]⟩)
   (λ_ R s=>s.heap.get? l=some { cls:=.type "tuple",dict:=dd,data:=.seq items n,slots:=sl }/\s.heap.get? b=some { cls:=.type "tuple",dict:=dd2,data:=.seq items2 n2,slots:=sl2 }/\
    R (.ok (.ret (.bool (lexLt ns ms)))) s):=
 .of_wp λprog w A R s h=>by
  obtain⟨hp,g,d,tk,os⟩:=s;obtain⟨hl,hb,h⟩:=h;have f2:=qaz;have z1:items.size=ns.length:=by rw[<-hi.length];simp
  have z2:items2.size=ms.length:=by rw[<-hj.length];simp
  wp_walk using wpAny_loadPart' hl,wpAny_loadPart' hb,wpAny_forIn_list _ (λrest b s'=>b.1=none/\s'=⟨hp,g,d,tk,os⟩/\∃(vs ws:List Value) (ns' ms':List Int),rest=vs.zip ws/\
   IntsAre vs ns'/\IntsAre ws ms'/\ns'.length+items2.size=ms'.length+items.size/\R (.ok (.ret (.bool (lexLt ns' ms')))) ⟨hp,g,d,tk,os⟩) _
  case turn=>
   rintro⟨y,x⟩ rest b s' ⟨hb',rfl,vs,ws,ns',ms',hz,hvi,hwi,jO,hR⟩
   cases hvi with
   | nil=>rw[List.zip_nil_left]at hz;cases hz
   | cons a t hvi'=>
    cases hwi with
    | nil=>rw[List.zip_nil_right]at hz;cases hz
    | cons c u hwi'=>
     rw[List.zip_cons_cons]at hz;injection hz with hyx hrest;injection hyx with hy hx;subst hy hx;rw[Zgh]at hR;simp only[qL]at jO;obtain⟨e,he,hiff⟩:=Zjf A.in1 ⟨hp,g,d,tk,os⟩ a t c u;refine xa (he prog w _ _ ?_)
     cases e with
     | true=>
      rw[if_pos (hiff.mp rfl)]at hR
      wp_walk
      exact⟨rfl,rfl,_,_,_,_,hrest,hvi',hwi',by omega,hR⟩
     | false=>
      rw[if_neg (λq=>absurd (hiff.mpr q) yw)]at hR;have hri:=Zjg A.in1 ⟨hp,g,d,tk,os⟩ a t c u prog w
      wp_walk using hri
      exact⟨_,rfl,by simpa using hR⟩
  case fin=>
   rintro⟨b1,b2⟩ s' ⟨hb',rfl,vs,ws,ns',ms',hz,hvi,hwi,jO,hR⟩;simp only at hb';subst hb';have hv:lexLt ns' ms'=decide (items.size<items2.size):=by
    cases hvi with
    | nil=>
     cases hwi with
     | nil=>
      simp only[qaJ]at jO;rw[Zdq];exact(decide_eq_false (by omega)).symm
     | cons c u hw=>
      simp only[qaJ,qL]at jO;rw[ZcJ];exact(decide_eq_true (by omega)).symm
    | cons a t hv=>
     cases hwi with
     | nil=>
      simp only[qaJ,qL]at jO;rw[ZcK];exact(decide_eq_false (by omega)).symm
     | cons c u hw=>
      rw[List.zip_cons_cons]at hz
      cases hz
   rw[hv]at hR
   wp_walk
   exact⟨_,rfl,by simpa[Builtin.Tuple.tupleCompareSizes]using hR⟩
  case h=>
   exact⟨rfl,rfl,items.toList,items2.toList,ns,ms,rfl,hi,hj,by omega,h⟩
end
section
variable {prog:xB}{w:World}{A:xC}{E:xD}{s:Shared}
theorem lt_tupInts {l b:Addr}{items items2:Array Value}{ns ms:List Int}{Q:xD}(hl:IsTup s.heap l items)(hb:IsTup s.heap b items2)(hi:IntsAre items.toList ns)(hj:IntsAre items2.toList ms)
  (hu:A.units<cLine) (h:Q (.bool (lexLt ns ms)) s):xf (xz prog w) A (xk .Lt (.ref l) (.ref b)) Q E s:=by
 obtain⟨⟨cls,dd,data,sl⟩,ho,hc,n,hd⟩:=id hl;obtain⟨⟨cls2,dd2,data2,sl2⟩,ho2,hc2,n2,hd2⟩:=id hb;simp only at hc hd hc2 hd2;subst hc hd hc2 hd2;exact richCompare_meets_room (op:=.Lt) ⟨_,ho,rfl⟩ ⟨_,ho2,rfl⟩ PySem.F.slot_tuple_lt PySem.F.entry_tuple_lt (PySem.F.args_tuple_lt_2 _ _) (Zdr l b items items2 n n2 dd dd2 sl sl2 ns ms hi hj)
  ⟨ho,ho2,show yP (lexLt ns ms)≠qcP/\Q (.bool (lexLt ns ms)) s from⟨(λx=>nomatch x),h⟩⟩ hu
theorem cat_tup {t b:Addr}{vs ws:List Value}{Q:xD}(ht:IsTup s.heap t vs.toArray)(hb:IsTup s.heap b ws.toArray)(hv:vs≠[])
  (h1:ws=[]->Q (.ref t) s) (h2:ws≠[]->Q (.ref s.heap.objs.size) { s with heap:=s.heap.push { cls:=.type "tuple",data:=.seq (vs++ws).toArray } })
  (hsz:vs.length+ws.length<=xg):xf (xz prog w) A (binaryOp .Add (.ref t) (.ref b)) Q E s:=by
 obtain⟨⟨cls,dd,data,sl⟩,ho,hc,n,hd⟩:=id ht;obtain⟨⟨cls2,dd2,data2,sl2⟩,ho2,hc2,n2,hd2⟩:=id hb;simp only at hc hd hc2 hd2;subst hc hd hc2 hd2;have e:vs.toArray++ws.toArray=(vs++ws).toArray:=by simp
 by_cases hw:ws=[]
 ·exact concat_meets ⟨_,ho,rfl⟩ ⟨_,ho2,rfl⟩ noFill_tuple_add seq_tuple_add qbw qbm (qa8 _ _)
   (tuple_addW1 t b vs.toArray ws.toArray n n2 dd dd2 sl sl2 (by simpa using hv) (by simp[hw])) ⟨ho,ho2,h1 hw⟩
 ·refine concat_meets ⟨_,ho,rfl⟩ ⟨_,ho2,rfl⟩ noFill_tuple_add seq_tuple_add qbw qbm (qa8 _ _)
   (tuple_addW2 t b vs.toArray ws.toArray n n2 dd dd2 sl sl2 (by simpa using hv) (by simpa using hw) (by rw[qJ,qJ];exact hsz)) ⟨ho,ho2,?_⟩
  rw[e];exact h2 hw
noncomputable def sIx (n d:Nat):Option Int->Nat
 | none=>d
 | some v=>if v<0 then (v+(n:Int)).toNat else min v.toNat n
theorem Zna (n d:Nat)(hd:d<=n)(o:Option Int):sIx n d o<=n:=by
 cases o with
 | none=>exact hd
 | some v=>
  show(if v<0 then (v+(n:Int)).toNat else min v.toNat n)<=n;by_cases hv:v<0
  ·rw[if_pos hv];omega
  ·rw[if_neg hv];exact Nat.min_le_right _ _
theorem Zhg (v:Int)(n d:Nat):(if v<0 then max (v+(n:Int)) 0 else min v (n:Int))=((sIx n d (some v):Nat):Int):=by
 show(if v<0 then max (v+(n:Int)) 0 else min v (n:Int))=(((if v<0 then (v+(n:Int)).toNat else min v.toNat n):Nat):Int);by_cases hv:v<0
 ·simp only[if_pos hv];omega
 ·simp only[if_neg hv];omega
theorem Zgi (lo hi:Option Int)(n:Nat):qa4 lo hi 1 (n:Int)=(((sIx n 0 lo:Nat):Int),((sIx n n hi:Nat):Int)):=by
 have h1:¬((1:Int)<0):=by omega
 unfold qa4;simp only[h1,if_false];refine qcQ ?_ ?_
 ·cases lo with
  | none=>rfl
  | some v=>exact Zhg v n 0
 ·cases hi with
  | none=>rfl
  | some v=>exact Zhg v n n
theorem Zgj (i j:Nat):qar (i:Int) (j:Int) 1=j-i:=by
 unfold qar;have h1:(1:Int) > 0:=by omega
 simp only[h1,if_true,Int.ediv_one];split <;> omega
theorem ZcL {v:Value}{o:Option Int}{Q:Option Int->Shared->Prop}(p:IsPart v o)(h:Q o s):xf (xz prog w) A (Builtin.Slice.slicePartIndex v) Q E s:=by
 cases p with
 | none=>exact slicePart_none h
 | int i t=>exact slicePart_int h
theorem Zav {sl:Addr}{vl vu:Value}{lo hi:Option Int}{n:Nat}{Q:Int×Int×Nat->Shared->Prop}(hs:s.heap.IsSliceOf sl vl vu .none)(pl:IsPart vl lo)(pu:IsPart vu hi)
  (h:Q (((sIx n 0 lo:Nat):Int),1,sIx n n hi-sIx n 0 lo) s):xf (xz prog w) A (qb0 (.ref sl) (pure (n:Int))) Q E s:=by
 obtain⟨os,hos,hcs,hds⟩:=id hs;unfold qb0 Builtin.Slice.sliceFields;refine xa (xa (wpAny_field hos hds (x:=vl) rfl (xa (wpAny_field hos hds (x:=vu) rfl (xa (wpAny_field hos hds (x:=.none) rfl (xb ?_)))))));refine xa (slicePart_none ?_);show xf _ _ (if ((1:Int)==0)=true then _ else _) _ _ s;rw[if_neg (by decide)];refine xa (ZcL pl (xa (ZcL pu (xa (xb ?_)))));show xf _ _ (match qa4 lo hi 1 (n:Int)with | (lo,hi)=>pure (lo,(1:Int),qar lo hi 1)) _ _ s;rw[Zgi lo hi n];show xf _ _ (pure (((sIx n 0 lo:Nat):Int),(1:Int),qar ((sIx n 0 lo:Nat):Int) ((sIx n n hi:Nat):Int) 1)) _ _ s;rw[Zgj];exact xb h
theorem Zjh (xs:Array Value)(i k:Nat):((qk k).filterMap λ(m:Nat)=>xs[((i:Int)+(m:Int)*1).toNat]?).toArray=((xs.toList.drop i).take k).toArray:=by
 have e:(λ(m:Nat)=>xs[((i:Int)+(m:Int)*1).toNat]?)=λm=>xs[i+m]?:=by
  funext m;have:((i:Int)+(m:Int)*1).toNat=i+m:=by omega
  rw[this]
 rw[e];have:=pick_run xs i k;rw[List.filterMap_map]at this;have e2:((λx=>xs[x]?)∘λx=>i+x)=λm=>xs[i+m]?:=rfl;rw[e2]at this;rw[this]
theorem getItem_tuple_cut {t sl:Addr}{items:Array Value}{vl vu:Value}{lo hi:Option Int}{Q:xD}(ht:IsTup s.heap t items)(hs:s.heap.IsSliceOf sl vl vu .none)(pl:IsPart vl lo)(pu:IsPart vu hi)
  (hw:¬(sIx items.size 0 lo=0/\sIx items.size items.size hi=items.size))
  (h:Q (.ref s.heap.objs.size) { s with heap:=s.heap.push { cls:=.type "tuple",data:=.seq ((items.toList.drop (sIx items.size 0 lo)).take (sIx items.size items.size hi-sIx items.size 0 lo)).toArray } })
  (hsz:items.size<=xg):xf (xz prog w) A (getItem (.ref t) (.ref sl)) Q E s:=by
 have htake:sizeOk (.seq ((items.toList.drop (sIx items.size 0 lo)).take (sIx items.size items.size hi-sIx items.size 0 lo)).toArray):=by
  show((items.toList.drop (sIx items.size 0 lo)).take (sIx items.size items.size hi-sIx items.size 0 lo)).toArray.size<=xg;rw[qJ,qZ,zW,qB];omega
 have hj:sIx items.size items.size hi<=items.size:=Zna _ _ (qp _) hi;obtain⟨os,hos,hcs,hds⟩:=id hs;have hTs:s.TypeIs (.ref sl) "slice":=⟨os,hos,hcs⟩;unfold getItem
 try with_reducible refine xu ?_
 first | refine xa (xb ?_) | skip
 refine xa (wpAny_sequenceKey ht.typeIs (by decide) ?_);refine xa (wpAny_callSpecial?_slot (name:=qaT "__getitem__") ht.typeIs zR
  (wpAny_call_entry zR ht.typeIs entry_tuple_getitem ?_ (args_tuple_getitem _ _)))
 show xf _ _ (qb1 (.ref t) >>= _) _ _ s;refine xa (tupleItemsOf_ ht ?_);refine xa (wpAny_typeOf hTs ?_);rw[if_pos (by decide)];refine xa (Zav hs pl pu ?_);have hno:¬((((sIx items.size 0 lo:Nat):Int)==0&&(1:Int)==1&&(sIx items.size items.size hi-sIx items.size 0 lo)==items.size)=true):=by
  intro q;rw[zl,zl]at q;have q1:((sIx items.size 0 lo:Nat):Int)=0:=eq_of_beq q.1.1;have q2:sIx items.size items.size hi-sIx items.size 0 lo=items.size:=eq_of_beq q.2;exact hw ⟨by omega,by omega⟩
 show xf _ _ (if (((sIx items.size 0 lo:Nat):Int)==0&&(1:Int)==1&&(sIx items.size items.size hi-sIx items.size 0 lo)==items.size)=true then _ else _) _ _ s;rw[if_neg hno,Zjh]
 first
  | exact xa (m:=qaA _) (xl (xb ⟨_,rfl,xb h⟩) htake)
  | exact xa (m:=qaA _) (xl (xa (xb (xb ⟨_,rfl,xb h⟩))) htake)
  | exact xa (xa (m:=qaA _) (xl (xb (xb ⟨_,rfl,xb h⟩)) htake))
  | exact xa (xa (m:=qaA _) (xl (xb ⟨_,rfl,xb h⟩) htake))
end
end HT
namespace L2
noncomputable abbrev TO:=St->Hp->(Option Int->Hp->Prop)->Prop
noncomputable def PO (X:Cx)(e:Option Expr)(t:TO):Prop:=
 ∀(jI:Qb) (s:Shared) (σ:St) (H:Hp) (Q:Option Int->Hp->Prop),Inv X jI σ H s->t σ H Q->
  xf (xz X.prog X.w) X.A (evalPart e X.env) (λu s'=>∃o H',Inv X jI σ H' s'/\IsPart u o/\Q o H') X.xe s
noncomputable def Zlj:TO:=λ_ H Q=>Q none H
noncomputable def Zok (t:TE):TO:=fun σ H Q=>t σ H λx H1=>∃i,x=.int i/\Q (some i) H1
theorem WS {ns:List Int}:∀{us:List Value},Zu (ns.map V.int) us->IntsAre us ns:=by
 induction ns with
 | nil=>intro us r;rw[qa9]at r;cases r;exact .nil
 | cons n ns ih=>
  intro us r;rw[zc]at r
  cases r with
  | cons r1 r2=>
   obtain⟨t,e⟩:=r1;subst e;exact .cons n t (ih r2)
section
variable {X:Cx}{e:Expr}{te:TE}{lo hi:Option Expr}{tl th:TO}{pos p2:Pos}
theorem Zlk:PO X none Zlj:=by
 intro jI s σ H Q I h;rw[evalPart_none];exact xb ⟨none,H,I,.none,h⟩
theorem Zll (h:PE X e te):PO X (some e) (Zok te):=by
 intro jI s σ H Q I hw;rw[evalPart_some];refine ZJ (h jI s σ H _ I hw) λu s1 ⟨x,H1,I1,r1,q1⟩=>?_;obtain⟨i,rfl,q⟩:=q1;obtain⟨t,rfl⟩:=r1;exact⟨some i,H1,I1,.int i t,q⟩
noncomputable def Ua (X:Cx)(r:V->Option Int->Option Int->Hp->VK->Prop):Prop:=
 ∀(jI:Qb) (s:Shared) (σ:St) (H:Hp) (x:V) (v vl vu:Value) (lo hi:Option Int) (sl:Addr) (Q:VK),Inv X jI σ H s->ZI x v->s.heap.IsSliceOf sl vl vu .none->IsPart vl lo->IsPart vu hi->r x lo hi H Q->
  ∃T id,typeLookup (.type T) "__getitem__" = pure (some (.builtin id))/\s.TypeIs v T/\xf (xz X.prog X.w) X.A (getItem v (.ref sl)) (EP X jI σ Q) X.xe s
theorem Ua.or {r r':V->Option Int->Option Int->Hp->VK->Prop}(h:Ua X r)(h':Ua X r'):Ua X (λx lo hi H Q=>r x lo hi H Q∨r' x lo hi H Q):=by
 intro jI s σ H x v vl vu lo hi sl Q I rx hs pl pu q;rcases q with q | q
 ·exact h jI s σ H x v vl vu lo hi sl Q I rx hs pl pu q
 ·exact h' jI s σ H x v vl vu lo hi sl Q I rx hs pl pu q
noncomputable def tSl (r:V->Option Int->Option Int->Hp->VK->Prop)(te:TE)(tl th:TO):TE:=fun σ H Q=>te σ H λx H1=>tl σ H1 λl H2=>th σ H2 λu H3=>r x l u H3 Q
theorem Zji {r:V->Option Int->Option Int->Hp->VK->Prop}(hr:Ua X r)(he:PE X e te)(hl:PO X lo tl)(hu:PO X hi th):PE X (.Subscript e (.Slice lo hi none p2) pos) (tSl r te tl th):=by
 intro jI s σ H Q I h;refine Subscript_ (ZJ (he jI s σ H _ I h) λv s1 ⟨x,H1,I1,r1,q1⟩=>?_);refine wpAny_Slice (ZJ (hl jI s1 σ H1 _ I1 q1) λvl s2 ⟨l,H2,I2,pl,q2⟩=>ZJ (hu jI s2 σ H2 _ I2 q2) λvu s3 ⟨u,H3,I3,pu,q3⟩=>?_);rw[evalPart_none];refine xb ?_;have I4:Inv X jI σ H3 { s3 with heap:=s3.heap.push { cls:=.type "slice",data:=.fields #[vl,vu,.none] } }:=I3.kept (t':=s3.toks) λb ob q=>qj _ q;obtain⟨T,id,hT,ht,hg⟩:=hr jI { s3 with heap:=s3.heap.push { cls:=.type "slice",data:=.fields #[vl,vu,.none] } } σ H3 x v vl vu l u s3.heap.objs.size Q I4 r1 (Heap.IsSliceOf.new ..) pl pu q3;show xf (xz X.prog X.w) X.A (subscriptTail e (.Slice lo hi none p2) v (.ref s3.heap.objs.size)) (EP X jI σ Q) X.xe { s3 with heap:=s3.heap.push { cls:=.type "slice",data:=.fields #[vl,vu,.none] } };exact tail_any (ops:=[.ref s3.heap.objs.size,v]) ht hT hg (by with_unfolding_all rfl)
noncomputable def Vl (xs:List V)(lo hi:Option Int):List V:=(xs.drop (HT.sIx xs.length 0 lo)).take (HT.sIx xs.length xs.length hi-HT.sIx xs.length 0 lo)
theorem Zb7 (xs:List V)(lo hi:Option Int):(Vl xs lo hi).length<=xs.length:=by
 unfold Vl;rw[qZ,zW];omega
noncomputable def rSlT (K:qm):V->Option Int->Option Int->Hp->VK->Prop:=λx lo hi H Q=>∃a xs,x=.ref a/\ZH K H a xs/\
 ¬(HT.sIx xs.length 0 lo=0/\HT.sIx xs.length xs.length hi=xs.length)/\∀p,H p=none->Q (.ref p) (Zl H p (.tup (Vl xs lo hi)))
theorem Znb:Ua X (rSlT X.K):=by
 intro jI s σ H x v vl vu lo hi sl Q I rx hs pl pu h;obtain⟨a,xs,rfl,hx,hw,q⟩:=h
 cases rx
 obtain⟨jK,r,ht,hz⟩:=I.tuple hx;have jO:jK.toArray.size=xs.length:=by rw[qJ];exact r.length.symm
 refine⟨"tuple",_,zR.lookup,ht.typeIs,?_⟩;refine HT.getItem_tuple_cut ht hs pl pu (by rw[jO];exact hw) ?_ (by rw[jO];exact hz);rw[jO];refine⟨.ref s.heap.objs.size,_,I.laid (t':=s.toks) (o:=.tup (Vl xs lo hi)) (λb ob q=>qj _ q) (qp _) ?_,rfl,q _ (I.hok.fresh (qp _))⟩;exact⟨zi (Zb7 xs lo hi) hz,_,(r.drop (HT.sIx xs.length 0 lo)).take (HT.sIx xs.length xs.length hi-HT.sIx xs.length 0 lo),qbW _ _⟩
noncomputable def rLtT (K:qm):R2:=λx y H Q=>∃a b ns ms,x=.ref a/\y=.ref b/\ZH K H a (ns.map V.int)/\ZH K H b (ms.map V.int)/\Q (.bl (HT.lexLt ns ms)) H
theorem Znc (hu:X.A.units<cLine):Z6 X (xk .Lt) (rLtT X.K):=by
 intro jI s σ H x y v u Q I rx ry h;obtain⟨a,b,ns,ms,rfl,rfl,ha,hb,q⟩:=h
 cases rx
 cases ry
 obtain⟨jK,r1,p1,_⟩:=I.tuple ha;obtain⟨j6,r2,p2,_⟩:=I.tuple hb;have i1:IntsAre jK.toArray.toList ns:=WS r1;have i2:IntsAre j6.toArray.toList ms:=WS r2;exact HT.lt_tupInts p1 p2 i1 i2 hu ⟨.bl (HT.lexLt ns ms),H,I,rfl,q⟩
noncomputable def Zol (K:qm):R2:=λx y H Q=>∃a b xs ys,x=.ref a/\y=.ref b/\ZH K H a xs/\ZH K H b ys/\xs≠[]/\xs.length+ys.length<=xg/\
 (ys=[]->Q (.ref a) H)/\(ys≠[]->∀p,H p=none->Q (.ref p) (Zl H p (.tup (xs++ys))))
theorem Zu.nil_iff {xs:List V}{us:List Value}(r:Zu xs us):us=[]↔xs=[]:=by
 cases r with
 | nil=>simp
 | cons _ _=>simp
theorem Zlm:Z6 X (binaryOp .Add) (Zol X.K):=by
 intro jI s σ H x y v u Q I rx ry h;obtain⟨a,b,xs,ys,rfl,rfl,ha,hb,hx,hz,q1,q2⟩:=h
 cases rx
 cases ry
 obtain⟨jK,r1,p1,_⟩:=I.tuple ha;obtain⟨j6,r2,p2,_⟩:=I.tuple hb;refine HT.cat_tup p1 p2 (λz=>hx (r1.nil_iff.mp z)) (λz=>⟨.ref a,H,I,rfl,q1 (r2.nil_iff.mp z)⟩) (λz=>?_) (by rw[<-r1.length,<-r2.length];exact hz);refine⟨.ref s.heap.objs.size,_,I.laid (t':=s.toks) (o:=.tup (xs++ys)) (λb ob q=>qj _ q) (qp _) ?_,rfl,q2 (λw=>z (r2.nil_iff.mpr w)) _ (I.hok.fresh (qp _))⟩;exact⟨by rw[qI];exact hz,_,r1.append r2,qbW _ _⟩
end
noncomputable def Ub (n:Nat)(i:Int):Option Nat:=if 0<=i then (if i<n then some i.toNat else none)else if -(n:Int)<=i then some (i+n).toNat else none
noncomputable def XB {α:Type}(xs:List α)(i:Int):Option α:=(Ub xs.length i).bind λj=>xs[j]?
theorem Zhh {n:Nat}{i:Int}{j:Nat}(h:Ub n i=some j):seqIndex? i n=some j/\j<n/\-(n:Int)<=i/\i<n:=by
 unfold Ub at h;by_cases h0:0<=i
 ·rw[if_pos h0]at h
  by_cases h1:i<n
  ·rw[if_pos h1]at h
   have e:i.toNat=j:=zw h;exact⟨by rw[seqIndex_of h0 h1,e],by omega,by omega,h1⟩
  ·rw[if_neg h1]at h;cases h
 ·rw[if_neg h0]at h
  by_cases h1:-(n:Int)<=i
  ·rw[if_pos h1]at h
   have e:(i+n).toNat=j:=zw h;exact⟨by rw[seqIndex_neg (by omega) h1,e],by omega,h1,by omega⟩
  ·rw[if_neg h1]at h;cases h
theorem Zhi {α:Type}{xs:List α}{i:Int}{v:α}(h:XB xs i=some v):∃j,seqIndex? i xs.length=some j/\xs[j]?=some v/\j<xs.length/\-(xs.length:Int)<=i/\i<xs.length:=by
 unfold XB at h
 cases e:Ub xs.length i with
 | none=>rw[e]at h;cases h
 | some j=>
  rw[e]at h;obtain⟨h1,h2,h3,h4⟩:=Zhh e;exact⟨j,h1,h,h2,h3,h4⟩
theorem Vf {α:Type}{xs:List α}{j:Nat}{v:α}(h:xs[j]?=some v):XB xs (j:Int)=some v:=by
 have hj:j<xs.length:=(qw.mp h).1;have e:Ub xs.length (j:Int)=some j:=by
  unfold Ub;rw[if_pos (by omega),if_pos (by omega)];simp
 unfold XB;rw[e];exact h
noncomputable def Zhj (b:Expr):Prop:=∀o i,subscripted b false o i=operate [o,i] (getItem o i)
noncomputable def Uc (X:Cx)(r:R2):Prop:=
 ∀(value slice:Expr) (jI:Qb) (s:Shared) (σ:St) (H:Hp) (x y:V) (v u:Value) (Q:VK),Inv X jI σ H s->ZI x v->ZI y u->r x y H Q->
  subscripted slice false v u=operate [v,u] (getItem v u)->xf (xz X.prog X.w) X.A (subscriptTail value slice v u) (EP X jI σ Q) X.xe s
noncomputable def MtR (X:Cx)(id:String)(r:V->List V->Hp->VK->Prop):Prop:=
 ∀(jI:Qb) (s:Shared) (σ:St) (H:Hp) (x:V) (xs:List V) (v:Value) (us:List Value) (Q:VK),Inv X jI σ H s->ZI x v->Zu xs us->r x xs H Q->
  xf (xz X.prog X.w) X.A (call (.builtin id) (v::us)) (EP X jI σ Q) X.xe s
section
variable {X:Cx}{a b:Expr}{ta tb:TE}{pos:Pos}
theorem Uc.or {r r':R2}(h:Uc X r)(h':Uc X r'):Uc X (λx y H Q=>r x y H Q∨r' x y H Q):=by
 intro value slice jI s σ H x y v u Q I rx ry q hs;rcases q with q | q
 ·exact h value slice jI s σ H x y v u Q I rx ry q hs
 ·exact h' value slice jI s σ H x y v u Q I rx ry q hs
theorem WI {r:R2}(hr:Uc X r)(ha:PE X a ta)(hb:PE X b tb)(hs:Zhj b):PE X (.Subscript a b pos) (Wk r ta tb):=by
 intro jI s σ H Q I h;exact Subscript_ (binT ha hb I h λv u s2 x y H2 I2 rx ry q=>hr a b jI s2 σ H2 x y v u Q I2 rx ry q (hs _ _))
noncomputable def BA (K:qm):R2:=λx y H Q=>∃p xs i v,x=.ref p/\y=.int i/\ZA K H p xs/\XB xs i=some v/\Q v H
noncomputable def rIxT (K:qm):R2:=λx y H Q=>∃p xs i v,x=.ref p/\y=.int i/\ZH K H p xs/\XB xs i=some v/\Q v H
theorem WC:Uc X (BA X.K):=by
 intro value slice jI s σ H x y v u Q I rx ry h hs;obtain⟨p,xs,i,z,rfl,rfl,hq,he,q⟩:=h
 cases rx
 obtain⟨t,rfl⟩:=ry;obtain⟨jK,r,pl,hz⟩:=I.list hq;obtain⟨j,h1,h2,h3,h4,h5⟩:=Zhi he;obtain⟨w,ew,rw'⟩:=r.get h2;have hl:=r.length;have hn:=Bf;have fin:EP X jI σ Q w s:=⟨z,H,I,rw',q⟩;by_cases h0:0<=i
 ·have hj:i.toNat=j:=by
   rw[seqIndex_of h0 h5]at h1;exact zw h1
  exact item_listR pl.isList h0 (by omega) (by rw[hj];simpa using ew) fin hs
 ·have hj:(i+(jK.toArray.size:Int)).toNat=j:=by
   rw[seqIndex_neg (by omega) h4]at h1;rw[qJ,<-hl];exact zw h1
  exact subscriptTail_builtinR (x:=w) pl.isList.typeIs slot_list_getitem.lookup
   (wpAny_getItem_list_neg (Q:=λr s'=>r=w/\EP X jI σ Q r s') pl.isList (by omega) (by rw[qJ] <;> omega) (by omega) (by rw[hj];simpa using ew) ⟨rfl,fin⟩) hs
theorem Znd:Uc X (rIxT X.K):=by
 intro value slice jI s σ H x y v u Q I rx ry h hs;obtain⟨p,xs,i,z,rfl,rfl,hq,he,q⟩:=h
 cases rx
 obtain⟨t,rfl⟩:=ry;obtain⟨jK,r,pl,hz⟩:=I.tuple hq;obtain⟨j,h1,h2,h3,h4,h5⟩:=Zhi he;obtain⟨w,ew,rw'⟩:=r.get h2;have hl:=r.length;have hn:=Bf;have fin:EP X jI σ Q w s:=⟨z,H,I,rw',q⟩;exact subscriptTail_builtinR (x:=w) pl.typeIs slot_tuple_getitem.lookup
  (getItem_tuple (j:=j) (Q:=λr s'=>r=w/\EP X jI σ Q r s') pl (by omega) (by omega) (by rw[qJ,<-hl];exact h1) (by simpa using ew) ⟨rfl,fin⟩) hs
theorem Zgk (jK:List Value)(n j:Nat)(u:Value):zr (·.setIfInBounds j u) { cls:=.type "list",data:=.seq jK.toArray n } = { cls:=.type "list",data:=.seq (jK.set j u).toArray n }:=by
 simp[zr]
theorem Inv.lst {jI:Qb}{σ:St}{H:Hp}{s:Shared}{p:Addr}{xs:List V}(I:Inv X jI σ H s)(h:H p=some (.lst xs)) :
  ∃(jK:List Value) (n:Nat),Zu xs jK/\s.heap.get? p=some { cls:=.type "list",data:=.seq jK.toArray n }/\xs.length<=xg:=by
 obtain⟨z,jK,n,r,e⟩:=I.hok p _ h;exact⟨jK,n,r,e,z⟩
theorem Inv.lstUpd {jI:Qb}{σ:St}{H:Hp}{s:Shared}{p:Addr}{xs ys:List V}{jK its':List Value}{n n':Nat}{f:Obj->Obj}(I:Inv X jI σ H s)(h:H p=some (.lst xs))
  (ho:s.heap.get? p=some { cls:=.type "list",data:=.seq jK.toArray n }) (hf:f { cls:=.type "list",data:=.seq jK.toArray n } = { cls:=.type "list",data:=.seq its'.toArray n' }) (r:Zu ys its') (hz:ys.length<=xg) (t:Nat) :
  Inv X jI σ (Zl H p (.lst ys)) { s with heap:=s.heap.update p f,toks:=t }:=by
 have e:(s.heap.update p f).get? p=some { cls:=.type "list",data:=.seq its'.toArray n' }:=by
  rw[ya f ho (by rw[hf] <;> rfl),hf]
 refine I.write (x:=p) (e:=p) (by rw[h];trivial) (.inl rfl) (λb u hb q=>(yk _ _ (zH hb)).trans q) ⟨_,e⟩ ?_;exact⟨hz,its',n',r,e⟩
noncomputable def Bl:V->V->V->Hp->(Hp->Prop)->Prop:=λo i v H Q=>∃p xs k j,o=.ref p/\i=.int k/\H p=some (.lst xs)/\Ub xs.length k=some j/\Q (Zl H p (.lst (xs.set j v)))
theorem ZcM:PSet X Bl:=by
 intro jI s σ H o i v ov iv u Q I ro ri rv h;obtain⟨p,xs,k,j,rfl,rfl,hp,hj,q⟩:=h
 cases ro
 obtain⟨t,rfl⟩:=ri;obtain⟨jK,n,r,ho,hz⟩:=I.lst hp;obtain⟨h1,h2,h3,h4⟩:=Zhh hj;have hl:=r.length;have hn:=Bf;have I':Inv X jI σ (Zl H p (.lst (xs.set j v))) { s with heap:=s.heap.update p (zr (·.setIfInBounds j u)) }:=
  I.lstUpd hp ho (Zgk jK n j u) (r.set rv j) (by rw[List.length_set];exact hz) s.toks
 by_cases h0:0<=k
 ·have hk:k.toNat=j:=by
   rw[seqIndex_of h0 h4]at h1;exact zw h1
  exact PySem.W.ki_setAt ho h0 (by omega) (by rw[qJ,<-hl];exact h4) (by rw[hk];exact⟨_,I',q⟩)
 ·have hk:(k+(jK.toArray.size:Int)).toNat=j:=by
   rw[seqIndex_neg (by omega) h3]at h1;rw[qJ,<-hl];exact zw h1
  exact PySem.W.ki_setBack ho (by omega) (by rw[qJ,<-hl];exact h3) (by omega) (by rw[hk];exact⟨_,I',q⟩)
theorem Zep (lo hi:Option Int)(n:Nat):(sliceBounds lo hi none n).1=((HT.sIx n 0 lo:Nat):Int)/\(sliceBounds lo hi none n).2.1=((HT.sIx n n hi:Nat):Int)/\(sliceBounds lo hi none n).2.2=1:=by
 refine⟨?_,?_,rfl⟩
 ·cases lo with
  | none=>simp[sliceBounds,HT.sIx]
  | some i=>
   simp only[sliceBounds,HT.sIx,Option.getD_none,show(1:Int) > 0 by decide,if_true];by_cases h:i<0
   ·simp only[h,if_true] <;> omega
   ·simp only[h,if_false] <;> omega
 ·cases hi with
  | none=>simp[sliceBounds,HT.sIx]
  | some i=>
   simp only[sliceBounds,HT.sIx,Option.getD_none,show(1:Int) > 0 by decide,if_true];by_cases h:i<0
   ·simp only[h,if_true] <;> omega
   ·simp only[h,if_false] <;> omega
theorem Zds (jK:List Value)(lo hi:Option Int):slicePick jK.toArray lo hi none=((jK.drop (HT.sIx jK.length 0 lo)).take (HT.sIx jK.length jK.length hi-HT.sIx jK.length 0 lo)).toArray:=by
 obtain⟨h1,h2,h3⟩:=Zep lo hi jK.toArray.size;unfold slicePick;rw[h1,h2,h3];simp only[sliceRange_one,pick_run,qJ] <;> rfl
noncomputable def rSlL (K:qm):V->Option Int->Option Int->Hp->VK->Prop:=λx lo hi H Q=>∃a xs,x=.ref a/\ZA K H a xs/\∀p,H p=none->Q (.ref p) (Zl H p (.lst (Vl xs lo hi)))
theorem Zln:Ua X (rSlL X.K):=by
 intro jI s σ H x v vl vu lo hi sl Q I rx hs pl pu h;obtain⟨a,xs,rfl,hx,q⟩:=h
 cases rx
 obtain⟨jK,r,ht,hz⟩:=I.list hx;have jO:=r.length;refine⟨"list",_,slot_list_getitem.lookup,ht.isList.typeIs,?_⟩;refine wpAny_getItem_list_slice ht.isList hs pl pu .none (by simp) ?_ (by rw[qJ] <;> omega);rw[Zds,<-jO];refine⟨.ref s.heap.objs.size,_,I.laid (t':=s.toks) (o:=.lst (Vl xs lo hi)) (λb ob q=>qj _ q) (qp _) ?_,rfl,q _ (I.hok.fresh (qp _))⟩;exact⟨zi (Zb7 xs lo hi) hz,_,0,(r.drop (HT.sIx xs.length 0 lo)).take (HT.sIx xs.length xs.length hi-HT.sIx xs.length 0 lo),qC _ rfl⟩
theorem BV:Y6 X (.builtin "len") (λxs H Q=>∃p ys,xs=[.ref p]/\(ZA X.K H p ys∨ZH X.K H p ys)/\Q (.int ys.length) H):=by
 intro jI s σ H xs us Q I r h;obtain⟨p,ys,rfl,hq,q⟩:=h;obtain⟨u,rfl,rx⟩:=Xw r
 cases rx
 have hn:=Bf;rcases hq with hq | hq
 ·obtain⟨jK,r',pl,hz⟩:=I.list hq
  have jO:=r'.length;exact Calls.call_len_list pl.isList (by simp only[qJ] <;> omega) ⟨.int ys.length,H,I.tok _,⟨s.toks+1,by rw[qJ,jO]⟩,q⟩
 ·obtain⟨jK,r',pl,hz⟩:=I.tuple hq
  have jO:=r'.length;exact len_tuple pl (by simp only[qJ] <;> omega) ⟨.int ys.length,H,I.tok _,⟨s.toks+1,by rw[qJ,jO]⟩,q⟩
theorem Zeq:Y6 X (.type "list") (λxs H Q=>∃p ys,xs=[.ref p]/\(ZA X.K H p ys∨ZH X.K H p ys)/\∀l,H l=none->Q (.ref l) (Zl H l (.lst ys))):=by
 intro jI s σ H xs us Q I r h;obtain⟨p,ys,rfl,hq,q⟩:=h;obtain⟨u,rfl,rx⟩:=Xw r
 cases rx
 have fin:∀(jK:List Value),Zu ys jK->ys.length<=xg->∀(h':Heap) (c':Nat),(∀b o',s.heap.get? b=some o'->h'.get? b=some o')->
   h'.get? s.heap.objs.size=some { cls:=.type "list",dict:=none,data:=.seq jK.toArray c',slots:=#[] }->EP X jI σ Q (.ref s.heap.objs.size) { s with heap:=h' }:=λjK r' hz h' c' kp e=>
  ⟨.ref s.heap.objs.size,_,I.laid (t':=s.toks) kp (qp _) (show Ym X.prog X.w _ h' _ (.lst ys)from⟨hz,jK,c',r',e⟩),rfl,q _ (I.hok.fresh (qp _))⟩
 rcases hq with hq | hq
 ·obtain⟨jK,r',pl,hz⟩:=I.list hq
  have jO:=r'.length;obtain⟨o,ho,hc,n,hd⟩:=pl.isList;exact call_list_seq p (.inl rfl) ho hc hd (λh' c' kp e=>fin jK r' hz h' c' kp e) (by simp only[qJ] <;> omega)
 ·obtain⟨jK,r',pl,hz⟩:=I.tuple hq
  have jO:=r'.length;obtain⟨o,ho,hc,n,hd⟩:=pl;exact call_list_seq p (.inr rfl) ho hc hd (λh' c' kp e=>fin jK r' hz h' c' kp e) (by simp only[qJ] <;> omega)
theorem Zdt:Y6 X (.type "tuple") (λxs H Q=>∃p ys,xs=[.ref p]/\((ZA X.K H p ys/\∀l,H l=none->Q (.ref l) (Zl H l (.tup ys)))∨(ZH X.K H p ys/\Q (.ref p) H))):=by
 intro jI s σ H xs us Q I r h;obtain⟨p,ys,rfl,h⟩:=h;obtain⟨u,rfl,rx⟩:=Xw r
 cases rx
 rcases h with⟨hq,q⟩ | ⟨hq,q⟩
 ·obtain⟨jK,r',pl,hz⟩:=I.list hq
  have jO:=r'.length;refine call_tuple_list pl.isList (λh' kp=>?_) (by simp only[qJ] <;> omega);have I1:Inv X jI σ H { s with heap:=h' }:=I.kept (t':=s.toks) kp;have I2:Inv X jI σ (Zl H h'.objs.size (.tup ys)) { s with heap:=h'.push { cls:=.type "tuple",data:=.seq jK.toArray } }:=
   I1.laid (t':=s.toks) (λb o e=>qj _ e) (qp _) (show Ym X.prog X.w _ _ _ (.tup ys)from⟨hz,jK,r',qbW _ _⟩)
  exact⟨.ref h'.objs.size,_,I2,rfl,q _ (I1.hok.fresh (qp _))⟩
 ·obtain⟨jK,r',pl,hz⟩:=I.tuple hq
  exact call_tuple_same pl ⟨.ref p,H,I,rfl,q⟩
noncomputable def tyV (K:qm)(T:String)(x:V)(H:Hp):Prop:=match x with
 | .str _=>T = "str"
 | .int _=>T = "int"
 | .ref p=>(T = "list"/\∃xs,ZA K H p xs)∨(T = "tuple"/\∃o,K.lookup p=some o/\o.cls=.type "tuple"/\o.dict=none)∨
   (T = "dict"/\((∃kvs,H p=some (.dK kvs))∨∃kvs,H p=some (.dT kvs)))∨(T = "set"/\∃S n,H p=some (.set S n))
 | _=>False
theorem Zne {jI:Qb}{σ:St}{H:Hp}{s:Shared}{T:String}{x:V}{v:Value}(I:Inv X jI σ H s)(r:ZI x v)(ty:tyV X.K T x H) :
  s.TypeIs v T/\∀a,v=.ref a->∃ob,s.heap.get? a=some ob/\ob.dict=none:=by
 cases x with
 | str z=>
  obtain⟨t,rfl⟩:=r
  cases (show T = "str" from ty)
  exact⟨typeIs_str s z t,λ_ e=>nomatch e⟩
 | int i=>
  obtain⟨t,rfl⟩:=r
  cases (show T = "int" from ty)
  exact⟨typeIs_int s i t,λ_ e=>nomatch e⟩
 | ref p=>
  cases r
  rcases ty with⟨rfl,xs,hq⟩ | ⟨rfl,o,hk,hc,hd⟩ | ⟨rfl,hk⟩ | ⟨rfl,S,n,hk⟩
  ·obtain⟨jK,_,pl,_⟩:=I.list hq
   refine⟨pl.isList.typeIs,λa e=>?_⟩
   cases e
   obtain⟨o,n,e,c,hd,_⟩:=pl;exact⟨o,e,hd⟩
  ·refine⟨⟨o,I.kIn p o hk,hc⟩,λa e=>?_⟩
   cases e
   exact⟨o,I.kIn _ o hk,hd⟩
  ·have z:∃o,s.heap.get? p=some o/\o.ExactDict:=by
    rcases hk with⟨kvs,hk⟩ | ⟨kvs,hk⟩
    ·obtain⟨_,_,_,_,o,_,_,e,ex,_⟩:=I.hok p _ hk
     exact⟨o,e,ex⟩
    ·obtain⟨_,_,_,_,o,_,_,e,ex,_⟩:=I.hok p _ hk
     exact⟨o,e,ex⟩
   obtain⟨o,e,ex⟩:=z;refine⟨⟨o,e,ex.1⟩,λa e2=>?_⟩
   cases e2
   exact⟨o,e,ex.2.1⟩
  ·obtain⟨o,_,_,_,e,ex,_⟩:=I.hok p _ hk
   refine⟨⟨o,e,ex.1⟩,λa e2=>?_⟩
   cases e2
   exact⟨o,e,ex.2.1⟩
 | _=>exact yC ty
noncomputable def JC (K:qm)(T:String)(r:V->List V->Hp->VK->Prop)(to:TE)(t:TA):TE:=fun σ H Q=>to σ H λx H1=>tyV K T x H1/\t σ H1 λxs H2=>r x xs H2 Q
variable {o e:Expr}{es:List Expr}{to:TE}{t:TA}{name:Str}{apos cpos:Pos}{T id:String}{r:V->List V->Hp->VK->Prop}
theorem Zjj (pa:PlainAttrs T)(slot:Slot T name id)(hty:typeOf (.builtin id)=pure (.type "method_descriptor"))(hm:MtR X id r)(ho:PE X o to)(ha:PA X (e::es) t)
  (hbase:xq o name X.env (eval o X.env)=eval o X.env:=by rfl)
  (hfew:((backTo cpos (xh (e::es) X.env)).all (λx=>!x.1)&&(xp cpos (xi [] X.env)).all (λx=>x.1.isSome)
   && decide ((e::es).length+([]:List Keyword).length+(if ([]:List Keyword).isEmpty then 0 else 1)<30))=true:=by rfl)
  (hline:(apos.endLine==cpos.line)=true:=by rfl) (hs:xh (e::es) X.env=(false,eval e X.env)::xh es X.env:=by rfl) (hplain:(backTo cpos (xh es X.env)).any (·.1)=false:=by rfl) :
  PE X (.Call (.Attribute o name apos) (e::es) [] cpos) (JC X.K T r to t):=by
 intro jI s σ H Q I h;refine wpAny_Call_method_late hbase hfew hline rfl (ZJ (ho jI s σ H _ I h) λv s1 ⟨x,H1,I1,r1,ty,q1⟩=>?_);obtain⟨h1,h2⟩:=Zne I1 r1 ty;refine⟨T,id,pa,slot,hty,h1,h2,?_⟩;have hA:=ha cpos jI s1 σ H1 _ I1 q1;rw[hs]at hA⊢;refine Calls.callWith_builtin (by show(false||(backTo cpos (xh es X.env)).any (·.1))=false;rw[hplain] <;> rfl) (Calls.evalArgs_plain ?_);exact ZJ hA λus s2 ⟨vs,H2,I2,r2,q2⟩=>hm jI s2 σ H2 x vs v us Q I2 r1 r2 q2
end
noncomputable def MtM (X:Cx)(id:String)(r:V->List V->Hp->VK->Prop):Prop:=
 ∀(jI:Qb) (s:Shared) (σ:St) (H:Hp) (x:V) (xs:List V) (v:Value) (us:List Value) (Q:VK),Inv X jI σ H s->ZI x v->Zu xs us->r x xs H Q->
  xf (xz X.prog X.w) X.A (call (.builtin id) (v::us)) (EP X jI σ Q) X.xe s
theorem Zu.one:∀{x:V} {us:List Value},Zu [x] us->∃u,us=[u]/\ZI x u
 | _,_,.cons r .nil=>⟨_,rfl,r⟩
theorem Zu.two:∀{x y:V} {us:List Value},Zu [x,y] us->∃u v,us=[u,v]/\ZI x u/\ZI y v
 | _,_,_,.cons r (.cons q .nil)=>⟨_,_,rfl,r,q⟩
theorem Zu.eraseIdx:∀{xs:List V} {us:List Value} (i:Nat),Zu xs us->Zu (xs.eraseIdx i) (us.eraseIdx i)
 | _,_,_,.nil=>.nil
 | _,_,0,.cons _ t=>t
 | _,_,i+1,.cons r t=>.cons r (Zu.eraseIdx i t)
theorem Zu.rep {xs:List V}{us:List Value}(h:Zu xs us):∀k:Nat,Zu (qy k xs).flatten (qy k us).flatten
 | 0=>.nil
 | k+1=>by
  rw[yo,yo,zP,zP];exact Zu.append h (Zu.rep h k)
theorem ZdM {α:Type}:∀(l:List α) (i:Nat),(l.eraseIdx i).length<=l.length
 | [],_=>qp _
 | _::_,0=>qbV _
 | _::r,i+1=>Nat.succ_le_succ (ZdM r i)
theorem ZbM (jK:List Value):∀(k:Nat) (acc:List Value),
  qbH (λx1 x2=>x1++x2) acc.toArray (qy k jK.toArray)=(acc++(qy k jK).flatten).toArray
 | 0,acc=>by simp
 | k+1,acc=>by
  have e:acc.toArray++jK.toArray=(acc++jK).toArray:=by simp
  have e2:(acc++jK)++(qy k jK).flatten=acc++(qy (k+1) jK).flatten:=by
   rw[yo,zP,qM]
  rw[<-e2,<-ZbM jK k (acc++jK),<-e,yo,qah]
section
variable {X:Cx}{jI:Qb}{σ:St}{H:Hp}{s:Shared}{l b:Addr}{xs ys zs:List V}
theorem Inv.lset {jK its':List Value}{n:Nat}{f:Array Value->Array Value}{t':Nat}(I:Inv X jI σ H s)(hH:H l=some (.lst xs))
  (e:s.heap.get? l=some { cls:=.type "list",data:=.seq jK.toArray n }) (hf:f jK.toArray=its'.toArray) (hv:Zu ys its') (hz:ys.length<=xg) :
  Inv X jI σ (Zl H l (.lst ys)) { s with heap:=s.heap.update l (zr f),toks:=t' }:=by
 have q:=PySem.IsL.update e f;rw[hf]at q;refine I.write (x:=l) (e:=l) (by rw[hH];exact trivial) (.inl rfl) (λb' u hb hu=>(yk s.heap (zr f) (zH hb)).trans hu) ⟨_,q⟩ ?_;exact⟨hz,its',_,hv,q⟩
theorem Inv.lnew {jK:List Value}{t':Nat}(I:Inv X jI σ H s)(hv:Zu ys jK)(hz:ys.length<=xg) :
  Inv X jI σ (Zl H s.heap.objs.size (.lst ys)) { s with heap:=s.heap.push { cls:=.type "list",data:=.seq jK.toArray },toks:=t' }:=
 I.laid (λ_ _ q=>qj _ q) (qp _) ⟨hz,jK,0,hv,qC _ rfl⟩
theorem Inv.fresh (I:Inv X jI σ H s):H s.heap.objs.size=none:=I.hok.fresh (qp _)
theorem Inv.lstM (I:Inv X jI σ H s)(hH:H l=some (.lst xs)):xs.length<=xg/\∃(jK:List Value) (n:Nat),Zu xs jK/\xs.length=jK.length/\s.heap.get? l=some { cls:=.type "list",data:=.seq jK.toArray n }:=by
 obtain⟨z,jK,n,r,e⟩:=I.hok l _ hH;exact⟨z,jK,n,r,r.length,e⟩
theorem Zjk {n:Nat}(h:n<=xg):qba n=false:=by
 unfold qba;exact decide_eq_false (by omega)
end
section
variable {X:Cx}
noncomputable def J8:V->List V->Hp->VK->Prop:=λx vs H Q=>∃l xs y,x=.ref l/\vs=[y]/\H l=some (.lst xs)/\xs.length<xg/\Q .non (Zl H l (.lst (xs ++ [y])))
theorem ZdN:MtM X "list.append" J8:=by
 intro jI s σ H x vs v us Q I rx rv h;obtain⟨l,xs,y,rfl,rfl,hH,hz,q⟩:=h
 cases rx
 obtain⟨u,rfl,ru⟩:=rv.one;obtain⟨z,jK,n,r,hl,e⟩:=I.lstM hH;refine call_meets F.slot_list_append ⟨_,e,rfl⟩ F.entry_list_append (F.args_list_append_2 _ _) (PySem.list_append l jK.toArray n u (by rw[qJ];omega)) ⟨e,?_⟩;refine⟨.non,_,I.lset (its':=jK ++ [u]) hH e (by simp) (r.append (.cons ru .nil)) ?_,rfl,q⟩;rw[qI,qaU];omega
noncomputable def Zjl:V->List V->Hp->VK->Prop:=λx vs H Q=>∃l xs i k y,x=.ref l/\vs=[.int i]/\H l=some (.lst xs)/\-(2 ^ 63)<=i/\i<2 ^ 63/\seqIndex? i xs.length=some k/\xs[k]?=some y/\Q y (Zl H l (.lst (xs.eraseIdx k)))
theorem Zjm:MtM X "list.pop" Zjl:=by
 intro jI s σ H x vs v us Q I rx rv h;obtain⟨l,xs,i,k,y,rfl,rfl,hH,h1,h2,hk,hy,q⟩:=h
 cases rx
 obtain⟨u,rfl,ru⟩:=rv.one;obtain⟨t,rfl⟩:=ru;obtain⟨z,jK,n,r,hl,e⟩:=I.lstM hH;obtain⟨w,hw,rw'⟩:=r.get hy;refine call_meets F.slot_list_pop ⟨_,e,rfl⟩ F.entry_list_pop (F.args_list_pop_2 _ _)
  (MeetsSeq.list_pop_at l jK.toArray n i t k w (fitsIndex_both h1 h2) (by rw[qJ,<-hl];exact hk) (by rw[<-qA];exact hw) (by rw[qJ];omega)) ⟨e,?_⟩
 refine⟨y,_,I.lset (its':=jK.eraseIdx k) hH e ?_ (r.eraseIdx k) ?_,rw',q⟩
 ·show jK.toArray.eraseIdxIfInBounds k=(jK.eraseIdx k).toArray
  rw[List.eraseIdxIfInBounds_toArray]
 ·have:=ZdM xs k
  omega
noncomputable def rCat:R2:=λx y H Q=>∃l b xs zs,x=.ref l/\y=.ref b/\H l=some (.lst xs)/\H b=some (.lst zs)/\xs.length+zs.length<=xg/\∀p,H p=none->Q (.ref p) (Zl H p (.lst (xs++zs)))
theorem Znf:Z6 X (binaryOp .Add) rCat:=by
 intro jI s σ H x y v u Q I rx ry h;obtain⟨l,b,xs,zs,rfl,rfl,hH,hB,hz,q⟩:=h
 cases rx
 cases ry
 obtain⟨z,jK,n,r,hl,e⟩:=I.lstM hH;obtain⟨z2,j6,n2,r2,hl2,e2⟩:=I.lstM hB;refine PySem.P.add_list e e2 ?_ (by rw[qJ,qJ];omega);have ea:jK.toArray++j6.toArray=(jK++j6).toArray:=by simp
 rw[ea];exact⟨.ref _,_,I.lnew (t':=s.toks) (r.append r2) (by rw[qI];omega),rfl,q _ I.fresh⟩
noncomputable def rRep:R2:=λx y H Q=>∃l k xs,x=.ref l/\y=.int k/\H l=some (.lst xs)/\-(2 ^ 63)<=k/\k<2 ^ 63/\xs.length*k.toNat<=xg/\
 ∀p,H p=none->Q (.ref p) (Zl H p (.lst (qy k.toNat xs).flatten))
theorem Zer {α:Type}(xs:List α)(k:Nat):(qy k xs).flatten.length=k*xs.length:=by
 induction k with
 | zero=>simp
 | succ k ih=>rw[yo,zP,qI,ih,Nat.succ_mul,qdd]
theorem Zng:Z6 X (binaryOp .Mult) rRep:=by
 intro jI s σ H x y v u Q I rx ry h;obtain⟨l,k,xs,rfl,rfl,hH,h1,h2,hz,q⟩:=h
 cases rx
 obtain⟨t,rfl⟩:=ry;obtain⟨z,jK,n,r,hl,e⟩:=I.lstM hH;have jO:jK.toArray.size*k.toNat<=xg:=by rw[qJ,<-hl];exact hz
 have hcap:¬jK.toArray.size*k.toNat > (2 ^ 63-1) / 8:=by
  have:(xg:Nat)<=(2 ^ 63-1) / 8:=by decide
  omega
 have hfit:¬(!Builtin.List.listFitsIndex k)=true:=by
  rw[fitsIndex_both h1 h2];exact yw
 have hlong:¬qba (jK.toArray.size*k.toNat)=true:=by
  rw[Zjk jO];exact yw
 have hnew:qbH (λx1 x2=>x1++x2) #[] (qy (if jK.toArray.isEmpty=true then 0 else k.toNat) jK.toArray)=(qy k.toNat jK).flatten.toArray:=by
  have f0:∀m:Nat,qbH (λx1 x2=>x1++x2) #[] (qy m jK.toArray)=(qy m jK).flatten.toArray:=λm=>by
   have:=ZbM jK m [];rw[yR]at this;exact this
  rw[f0]
  cases jK with
  | nil=>simp
  | cons a r'=>rw[if_neg (by simp)]
 refine wpAny_binaryOp_repeat_ref (T:="list") (U:="int") (by decide) ⟨_,e,rfl⟩ (λs'=>typeIs_int s' k t) noFill_list_mul qbI yS repeat_list qbA.lookup
  (call_meets yS (typeIs_int s k t) qbB (qbs _ _) (int___rmul___int_list k t l jK.toArray n)
   ⟨e,rfl,⟨_,e,rfl⟩,call_meets F.slot_list_mul ⟨_,e,rfl⟩ F.entry_list_mul (F.args_list_mul_2 _ _) (AutoListH.list___mul___list_int_3 l jK.toArray n k t hfit hcap hlong) ⟨e,?_⟩⟩)
 rw[hnew];exact⟨.ref _,_,I.lnew (t':=s.toks) (r.rep k.toNat) (by rw[Zer,qce];exact hz),rfl,q _ I.fresh⟩
end
section
variable {prog:xB}{w:World}{A:xC}{E:xD}{s:Shared}
end
section
variable {X:Cx}
end
section
variable {κ:Type}[DecidableEq κ]
noncomputable def Z8 (kvs:List (κ×V))(k:κ):Option V:=(kvs.find? λkv=>decide (kv.1=k)).map (·.2)
noncomputable def Yp (kvs:List (κ×V))(k:κ)(v:V):List (κ×V):=
 if (kvs.any λkv=>decide (kv.1=k))=true then kvs.map (λkv=>if kv.1=k then (kv.1,v)else kv)else kvs ++ [(k,v)]
theorem Wz {p:κ×V}{r:List (κ×V)}{k:κ}(e:p.1=k):Z8 (p::r) k=some p.2:=by simp[Z8,qai,e]
theorem WA {p:κ×V}{r:List (κ×V)}{k:κ}(e:¬p.1=k):Z8 (p::r) k=Z8 r k:=by simp[Z8,qai,e]
theorem JW (k:κ):∀kvs:List (κ×V),(kvs.any λkv=>decide (kv.1=k))=(Z8 kvs k).isSome
 | []=>rfl
 | p::r=>by
  rw[qaF];by_cases e:p.1=k
  ·simp only[Wz e,decide_eq_true e,Bool.true_or,Option.isSome_some]
  ·rw[WA e,decide_eq_false e,Bool.false_or];exact JW k r
theorem Zfd (k j:κ)(y:V):∀kvs:List (κ×V),Z8 (kvs.map λkv=>if kv.1=k then (kv.1,y)else kv) j=(Z8 kvs j).map λx=>if j=k then y else x
 | []=>rfl
 | p::r=>by
  have ih:=Zfd k j y r;rw[zc];by_cases h:p.1=k
  ·rw[if_pos h]
   by_cases e:p.1=j
   ·rw[Wz (p:=(p.1,y)) e,Wz e,ye,if_pos (e.symm.trans h)]
   ·rw[WA (p:=(p.1,y)) e,WA e,ih]
  ·rw[if_neg h]
   by_cases e:p.1=j
   ·rw[Wz (p:=p) e,Wz e,ye,if_neg (λz=>h (e.trans z))]
   ·rw[WA (p:=p) e,WA e,ih]
theorem ZdO (k j:κ)(y:V):∀kvs:List (κ×V),Z8 kvs k=none->Z8 (kvs ++ [(k,y)]) j=if j=k then some y else Z8 kvs j
 | [],_=>by
  by_cases e:k=j
  ·rw[if_pos e.symm];exact Wz (p:=(k,y)) e
  ·rw[if_neg (λz=>e z.symm)];exact WA (p:=(k,y)) e
 | p::r,hn=>by
  rw[qbC];have hk:¬p.1=k:=λz=>by rw[Wz z]at hn;cases hn
  rw[WA hk]at hn;have ih:=ZdO k j y r hn;by_cases e:p.1=j
  ·rw[Wz e,Wz e,if_neg (λz=>hk (e.trans z))]
  ·rw[WA e,WA e,ih]
theorem Zfe (kvs:List (κ×V))(k j:κ)(y:V):Z8 (Yp kvs k y) j=if j=k then some y else Z8 kvs j:=by
 unfold Yp;by_cases a:(kvs.any λkv=>decide (kv.1=k))=true
 ·rw[if_pos a,Zfd]
  rw[JW]at a;by_cases e:j=k
  ·obtain⟨x,hx⟩:=qay.mp a
   rw[if_pos e,e,hx,ye,if_pos rfl]
  ·rw[if_neg e]
   cases Z8 kvs j with
   | none=>rfl
   | some x=>rw[ye,if_neg e]
 ·rw[if_neg a]
  refine ZdO k j y kvs ?_;rw[JW]at a
  cases q:Z8 kvs k with
  | none=>rfl
  | some x=>rw[q]at a;exact(a rfl).elim
theorem Ui (kvs:List (κ×V))(k:κ)(v:V):(Yp kvs k v).length<=kvs.length+1:=by
 unfold Yp;split
 ·rw[qd];omega
 ·rw[qI,qL,qaJ];omega
theorem Zjn {kvs:List (κ×V)}{k:κ}(v:V)(h:Z8 kvs k=none):Yp kvs k v=kvs ++ [(k,v)]:=by
 unfold Yp;rw[JW,h];exact if_neg (by decide)
theorem UG.isSome_eq {o:Option V}{u:Option Value}(r:UG o u):o.isSome=u.isSome:=by
 cases o with
 | none=>cases u with
  | none=>rfl
  | some _=>exact(show False from r).elim
 | some _=>cases u with
  | none=>exact(show False from r).elim
  | some _=>rfl
theorem KV.val {kvs:List (κ×V)}{vs:List (κ×Value)}(r:KV kvs vs)(k:κ):UG (Z8 kvs k) (valueAt vs k):=by
 unfold KV at r
 induction r with
 | nil=>exact y8
 | @cons p q ps qs h t ih=>
  obtain⟨h1,h2⟩:=h;by_cases e:p.1=k
  ·have e':q.1=k:=h1.symm.trans e
   have b:valueAt (q::qs) k=some q.2:=by simp[valueAt,qai,e']
   rw[Wz e,b];exact h2
  ·have e':¬q.1=k:=λz=>e (h1.trans z)
   have b:valueAt (q::qs) k=valueAt qs k:=by simp[valueAt,qai,e']
   rw[WA e,b];exact ih
theorem KV.any {kvs:List (κ×V)}{vs:List (κ×Value)}(r:KV kvs vs)(k:κ):(kvs.any λkv=>decide (kv.1=k))=vs.any λkv=>decide (kv.1=k):=by
 unfold KV at r
 induction r with
 | nil=>rfl
 | cons h t ih=>rw[qaF,qaF,ih,h.1]
theorem KV.repl {kvs:List (κ×V)}{vs:List (κ×Value)}(r:KV kvs vs)(k:κ){y:V}{u:Value}(ry:ZI y u) :
  KV (kvs.map λkv=>if kv.1=k then (kv.1,y)else kv) (vs.map λkv=>if kv.1=k then (kv.1,u)else kv):=by
 unfold KV at r⊢
 induction r with
 | nil=>exact .nil
 | @cons p q ps qs h t ih=>
  rw[zc,zc];refine .cons ?_ ih;obtain⟨h1,h2⟩:=h;by_cases e:p.1=k
  ·rw[if_pos e,if_pos (h1.symm.trans e)];exact⟨h1,ry⟩
  ·rw[if_neg e,if_neg (λz=>e (h1.trans z))];exact⟨h1,h2⟩
theorem KV.put {kvs:List (κ×V)}{vs:List (κ×Value)}(r:KV kvs vs)(k:κ){y:V}{u:Value}(ry:ZI y u):KV (Yp kvs k y) (stored vs k u):=by
 unfold Yp stored;rw[r.any k];by_cases e:(vs.any λkv=>decide (kv.1=k))=true
 ·rw[if_pos e,if_pos e];exact r.repl k ry
 ·rw[if_neg e,if_neg e];exact Paired.snoc r ⟨rfl,ry⟩
theorem KV.length {kvs:List (κ×V)}{vs:List (κ×Value)}(r:KV kvs vs):kvs.length=vs.length:=qan r
end
theorem Bm {P:xB}{w:World}{k:Zt}{u:Value}(r:ZI (kV k) u):(We P w).is k u=true:=by
 cases k with
 | inl i=>obtain⟨t,e⟩:=(show ∃t,u=qcw i t from r);subst e;exact Ze8 P w i t
 | inr x=>obtain⟨t,e⟩:=(show ∃t,u=qdb x t from r);subst e;exact Ze9 P w x t
theorem ZdP {P:xB}{w:World}:∀{ks:List Zt} {us:List Value},Zu (ks.map kV) us->ItemsAre (We P w) ks us
 | [],_,r=>by rw[qa9]at r;cases r;exact .nil
 | k::ks,_,r=>by
  rw[zc]at r
  cases r with
  | cons h t=>exact .cons (Bm h) (ZdP t)
noncomputable abbrev KT (H:Hp):List (List Zt×V)->List (List Zt×Addr×Value)->Prop:=Paired λp q=>p.1=q.1/\H q.2.1=some (.tup (p.1.map kV))/\ZI p.2 q.2.2
theorem KT.val {H:Hp}{kvs:List (List Zt×V)}{xs:List (List Zt×Addr×Value)}(r:KT H kvs xs)(k:List Zt):UG (Z8 kvs k) ((atKey xs k).map (·.2)):=by
 induction r with
 | nil=>exact y8
 | @cons p q ps qs h t ih=>
  obtain⟨h1,_,h2⟩:=h;by_cases e:p.1=k
  ·have e':q.1=k:=h1.symm.trans e
   have b:atKey (q::qs) k=some q.2:=by simp[atKey,qai,e']
   rw[Wz e,b];exact h2
  ·have e':¬q.1=k:=λz=>e (h1.trans z)
   have b:atKey (q::qs) k=atKey qs k:=by simp[atKey,qai,e']
   rw[WA e,b];exact ih
theorem KT.repl {H:Hp}{kvs:List (List Zt×V)}{xs:List (List Zt×Addr×Value)}(r:KT H kvs xs)(k:List Zt){y:V}{u:Value}(ry:ZI y u) :
  KT H (kvs.map λkv=>if kv.1=k then (kv.1,y)else kv) (xs.map (putAt k u)):=by
 induction r with
 | nil=>exact .nil
 | @cons p q ps qs h t ih=>
  rw[zc,zc];refine .cons ?_ ih;obtain⟨h1,h2,h3⟩:=h;unfold putAt;by_cases e:p.1=k
  ·rw[if_pos e,if_pos (h1.symm.trans e)];exact⟨h1,h2,ry⟩
  ·rw[if_neg e,if_neg (λz=>e (h1.trans z))];exact⟨h1,h2,h3⟩
theorem KT.put {H:Hp}{kvs:List (List Zt×V)}{xs:List (List Zt×Addr×Value)}(r:KT H kvs xs)(k:List Zt){b:Addr}{y:V}{u:Value}(hb:H b=some (.tup (k.map kV)))(ry:ZI y u) :
  KT H (Yp kvs k y) (storedH xs k b u):=by
 have e:(kvs.any λkv=>decide (kv.1=k))=(atKey xs k).isSome:=by
  rw[JW,(r.val k).isSome_eq,qb7]
 unfold Yp storedH;rw[e];by_cases q:(atKey xs k).isSome=true
 ·rw[if_pos q,if_pos q];exact r.repl k ry
 ·rw[if_neg q,if_neg q];exact Paired.snoc r ⟨rfl,hb,ry⟩
theorem KT.keeps {H H':Hp}{kvs:List (List Zt×V)}{xs:List (List Zt×Addr×Value)}(r:KT H kvs xs)(ht:∀b ys,H b=some (.tup ys)->H' b=some (.tup ys)):KT H' kvs xs:=
 Paired.mapP r λ_ _ z=>⟨z.1,ht _ _ z.2.1,z.2.2⟩
section
variable {P:xB}{w:World}{H:Hp}{h:Heap}{a:Addr}
theorem Zmu {u:HO}(ok:Yg P w H h)(e:Rd H a u):Ym P w H h a u:=e.ok ok
theorem Zjo {kvs:List (Zt×V)}(ok:Yg P w H h)(e:Rd H a (.dK kvs)):kvs.length<=xg/\(a==sysModules)=false/\∃vs,KV kvs vs/\h.DictOf (We P w) a vs:=
 show Ym P w H h a (.dK kvs)from Zmu ok e
theorem Zmv {kvs:List (Zt×V)}(ok:Yg P w H h)(e:H a=some (.dK kvs)):kvs.length<=xg/\(a==sysModules)=false/\∃vs,KV kvs vs/\h.DictOf (We P w) a vs:=Zjo ok (.inl e)
theorem Bg {ks:List Zt}(ok:Yg P w H h)(e:H a=some (.tup (ks.map kV))):(tupleKind (We P w)).is h ks a:=by
 obtain⟨_,jK,r,o,h1,h2,n,h3⟩:=(show Ym P w H h a (.tup (ks.map kV))from ok a _ e);exact⟨o,jK.toArray,n,h1,h2,h3,by simpa using ZdP r⟩
theorem Zjp {kvs:List (List Zt×V)}(ok:Yg P w H h)(e:Rd H a (.dT kvs)):kvs.length<=xg/\(a==sysModules)=false/\
  ∃xs,KT H kvs xs/\h.DictOfH (tupleKind (We P w)) a xs:=by
 obtain⟨z,y,xs,r,o,es,ep,h1,h2,h3,h4,h5⟩:=(show Ym P w H h a (.dT kvs)from Zmu ok e);refine⟨z,y,xs,r,o,es,ep,h1,h2,h3,h4,λx hx=>?_,h5⟩;have all:∀{l:List (List Zt×V)} {m:List (List Zt×Addr×Value)},KT H l m->∀x∈m,(tupleKind (We P w)).is h x.1 x.2.1:=by
  intro l m q
  induction q with
  | nil=>intro x hx;exact nomatch hx
  | @cons p q ps qs hq t ih=>
   intro x hx;rcases qq.mp hx with e | hx
   ·subst e
    exact Bg ok (by rw[<-hq.1];exact hq.2.1)
   ·exact ih x hx
 exact all r x hx
theorem Zmw {kvs:List (List Zt×V)}(ok:Yg P w H h)(e:H a=some (.dT kvs)):kvs.length<=xg/\(a==sysModules)=false/\
  ∃xs,KT H kvs xs/\h.DictOfH (tupleKind (We P w)) a xs:=Zjp ok (.inl e)
end
noncomputable def W4 (H:Hp)(a:Addr)(y:V)(r:Option V):Prop:=
 (∃kvs k,Rd H a (.dK kvs)/\y=kV k/\r=Z8 kvs k)∨∃kvs k b,Rd H a (.dT kvs)/\y=.ref b/\H b=some (.tup (k.map kV))/\r=Z8 kvs k
noncomputable def WM (H:Hp)(a:Addr)(y v:V)(H':Hp):Prop:=
 (∃kvs k,H a=some (.dK kvs)/\y=kV k/\kvs.length<xg/\H'=Zl H a (.dK (Yp kvs k v)))∨
 ∃kvs k b,H a=some (.dT kvs)/\y=.ref b/\H b=some (.tup (k.map kV))/\kvs.length<xg/\H'=Zl H a (.dT (Yp kvs k v))
theorem W4.k {H:Hp}{a:Addr}{kvs:List (Zt×V)}{k:Zt}(e:H a=some (.dK kvs)):W4 H a (kV k) (Z8 kvs k):=.inl ⟨kvs,k,.inl e,rfl,rfl⟩
theorem W4.t {H:Hp}{a b:Addr}{kvs:List (List Zt×V)}{k:List Zt}(e:H a=some (.dT kvs))(eb:H b=some (.tup (k.map kV))):W4 H a (.ref b) (Z8 kvs k):=.inr ⟨kvs,k,b,.inl e,rfl,eb,rfl⟩
theorem WM.k {H:Hp}{a:Addr}{kvs:List (Zt×V)}{k:Zt}{v:V}(e:H a=some (.dK kvs))(hl:kvs.length<xg):WM H a (kV k) v (Zl H a (.dK (Yp kvs k v))):=.inl ⟨kvs,k,e,rfl,hl,rfl⟩
theorem WM.t {H:Hp}{a b:Addr}{kvs:List (List Zt×V)}{k:List Zt}{v:V}(e:H a=some (.dT kvs))(eb:H b=some (.tup (k.map kV)))(hl:kvs.length<xg) :
  WM H a (.ref b) v (Zl H a (.dT (Yp kvs k v))):=.inr ⟨kvs,k,b,e,rfl,eb,hl,rfl⟩
section
variable {X:Cx}{jI:Qb}{σ:St}{H:Hp}{s:Shared}{a:Addr}{y v:V}{u r:Value}{o:Option V}{A:xC}{E:xD}
theorem Inv.big (I:Inv X jI σ H s):sysModules<s.heap.objs.size:=by
 have h:mainGlobals<s.heap.objs.size:=(I.mod.glob.keeps I.bk).lt;exact qab (by decide) h
theorem d_in {Q:xD}(hu:A.units+1<cLine)(I:Inv X jI σ H s)(g:W4 H a y o)(ry:ZI y u)(h:∀s',Inv X jI σ H s'->Q (.bool o.isSome) s') :
  xf (xz X.prog X.w) A (xk .In u (.ref a)) Q E s:=by
 rcases g with⟨kvs,k,e,ey,l⟩ | ⟨kvs,k,b,e,ey,eb,l⟩
 ·subst ey
  obtain⟨z,hd,vs,rel,dd⟩:=Zjo I.hok e;refine wpAny_in_of (Bm ry) hd dd.mapOf ?_;rw[<-(rel.val k).isSome_eq,<-l];exact h _ (I.tok _)
 ·subst ey
  cases (show u=qY b from ry)
  obtain⟨z,hd,xs,rel,dd⟩:=Zjp I.hok e;refine wpAny_in_heap (tupleKind_room_in1 hu) (Bg I.hok eb) hd dd ?_;have q:=(rel.val k).isSome_eq;rw[qb7]at q;rw[<-q,<-l];exact h _ (I.tok _)
theorem Zlo {Q:xD}(hu:A.units+1<cLine)(I:Inv X jI σ H s)(g:W4 H a y o)(ry:ZI y u)(h:∀s',Inv X jI σ H s'->Q (.bool (!o.isSome)) s') :
  xf (xz X.prog X.w) A (xk .NotIn u (.ref a)) Q E s:=by
 rcases g with⟨kvs,k,e,ey,l⟩ | ⟨kvs,k,b,e,ey,eb,l⟩
 ·subst ey
  obtain⟨z,hd,vs,rel,dd⟩:=Zjo I.hok e;refine wpAny_notIn_of (Bm ry) hd dd.mapOf ?_;rw[<-(rel.val k).isSome_eq,<-l];exact h _ (I.tok _)
 ·subst ey
  cases (show u=qY b from ry)
  obtain⟨z,hd,xs,rel,dd⟩:=Zjp I.hok e;refine wpAny_notIn_heap (tupleKind_room_in1 hu) (Bg I.hok eb) hd dd ?_;have q:=(rel.val k).isSome_eq;rw[qb7]at q;rw[<-q,<-l];exact h _ (I.tok _)
theorem Zcx {h':Heap}{t':Nat}{ob:HO}(I:Inv X jI σ H s)(mu:BI (H a))(hs:yi a s.heap h')(he:∃q,h'.get? a=some q)(new:Ym X.prog X.w (Zl H a ob) h' a ob) :
  Inv X jI σ (Zl H a ob) { s with heap:=h',toks:=t' }:=
 I.write (x:=a) (e:=a) mu (.inl rfl) (λb q hb z=>(hs.2 b hb).trans z) he new
theorem Zjq {P:xB}{w:World}{H':Hp}{h':Heap}{kvs:List (Zt×V)}{vs:List (Zt×Value)}(z:kvs.length<=xg)(hd:(a==sysModules)=false)(rel:KV kvs vs)(dd:h'.DictOf (We P w) a vs) :
  Ym P w H' h' a (.dK kvs):=⟨z,hd,vs,rel,dd⟩
theorem Zh5 {H':Hp}{Q:Unit->Shared->Prop}(hu:A.units+1<cLine)(I:Inv X jI σ H s)(g:WM H a y v H')(ry:ZI y u)(rv:ZI v r)(h:∀s',Inv X jI σ H' s'->Q () s') :
  xf (xz X.prog X.w) A (setItem (.ref a) u r) Q E s:=by
 rcases g with⟨kvs,k,e,ey,l,eH⟩ | ⟨kvs,k,b,e,ey,eb,l,eH⟩
 ·subst ey eH
  obtain⟨z,hd,vs,rel,dd⟩:=Zmv I.hok e;have hz:vs.length<=xg:=by rw[<-rel.length];exact z
  have hl:(Yp kvs k v).length<=xg:=by have:=Ui kvs k v;omega
  refine wpAny_setItem_pairs (hsz:=hz) (Bm ry) dd λh' dd' hs=>h _ ?_;have he:∃q,h'.get? a=some q:=let ⟨q,_,_,hq,_⟩:=dd';⟨q,hq⟩;exact Zcx I (by rw[e];exact y8) hs he (Zjq hl hd (rel.put k rv) dd')
 ·subst ey eH
  cases (show u=qY b from ry)
  obtain⟨z,hd,xs,rel,dd⟩:=Zmw I.hok e;have hz:xs.length<=xg:=by rw[<-qan rel];exact z
  have hl:(Yp kvs k v).length<=xg:=by have:=Ui kvs k v;omega
  refine wpAny_setItem_heap (hsz:=hz) (tupleKind_room_in1 hu) (Bg I.hok eb) dd λh' dd' hs=>h _ ?_;obtain⟨q,es,ep,hq,h2,h3,h4,_,h5⟩:=dd';refine Zcx I (by rw[e];exact y8) hs ⟨q,hq⟩ ⟨hl,hd,_,(rel.put k eb rv).keeps λc ys ec=>?_,q,es,ep,hq,h2,h3,h4,h5⟩;rw[Zx (Zmr ec e (λz=>nomatch z))];exact ec
end
section
variable {X:Cx}{jI:Qb}{σ:St}{H:Hp}{s:Shared}{a:Addr}{kvs:List (Zt×V)}{k:Zt}{u:Value}{A:xC}{E:xD}
end
noncomputable def Zom (td ty tv:TE):TS:=λD σ H=>tv σ H λv H1=>td σ H1 λx H2=>ty σ H2 λy H3=>∃a H4,x=.ref a/\WM H3 a y v H4/\D.nx σ H4
section
variable {X:Cx}{o i e value:Expr}{pos pos' tpos:Pos}{td ty tv:TE}
theorem Zlp (hu:X.A.units+1<cLine)(ho:PE X o td)(hi:PE X i ty)(hv:PE X value tv)(hs:xr value (some (.Subscript o i pos')) pos.line X.env=pure false) :
  PS X (.Assign [.Subscript o i pos'] value pos) (Zom td ty tv):=by
 intro jI s σ H D I h;refine wpAny_Assign_Subscript (ZJ (hv jI s σ H _ I h) λr s1 ⟨v,H1,I1,rv,q1⟩=>ZJ (ho jI s1 σ H1 _ I1 q1) λu s2 ⟨x,H2,I2,rx,q2⟩=>ZJ (hi jI s2 σ H2 _ I2 q2) λiv s3 ⟨y,H3,I3,ry,a,H4,ex,g,q3⟩=>?_) hs;subst ex;obtain rfl:u=qY a:=rx;exact Zh5 hu I3 g ry rv λs4 I4=>⟨σ,H4,I4,q3⟩
end
theorem Zjr {P:xB}{w:World}{H:Hp}(h:Heap)(hb:sysModules<h.objs.size):Ym P w H (h.push { cls:=.type "dict",data:=.dict #[] }) h.objs.size (.dK []):=
 ⟨zC _,beq_eq_false_iff_ne.mpr (zH (qV hb)),[],.nil,Heap.DictOf.new h⟩
theorem Zff {P:xB}{w:World}{H:Hp}(h:Heap)(hb:sysModules<h.objs.size):Ym P w H (h.push { cls:=.type "dict",data:=.dict #[] }) h.objs.size (.dT []):=
 ⟨zC _,beq_eq_false_iff_ne.mpr (zH (qV hb)),[],.nil,_,#[],0,qC _ rfl,⟨rfl,rfl,rfl⟩,rfl,rfl,qbR⟩
noncomputable def Znh:TE:=λ_ H Q=>∀p,H p=none->Q (.ref p) (Zl H p (.dT []))
section
variable {X:Cx}{pos:Pos}
theorem Zjs:PE X (.Dict [] [] pos) Znh:=λjI s σ H Q I h=>
 wpAny_Dict_empty ⟨.ref s.heap.objs.size,_,I.laid (a:=s.heap.objs.size) (o:=.dT []) (t':=s.toks) (λ_ _ q=>qj _ q) (qp _) (Zff s.heap I.big),rfl,h _ (I.hok.fresh (qp _))⟩
end
section
variable {X:Cx}{jI:Qb}{σ:St}{H:Hp}{s:Shared}{a:Addr}{y d:V}{u r:Value}{o:Option V}{A:xC}{E:xD}
end
section
variable {X:Cx}{o e f:Expr}{apos cpos:Pos}{td ty tx:TE}
end
section
variable {X:Cx}{jI:Qb}{σ:St}{H:Hp}{s:Shared}{a:Addr}{kvs:List (Zt×V)}{A:xC}{E:xD}
end
section
variable {X:Cx}{jI:Qb}{σ:St}{H:Hp}{s:Shared}{a:Addr}{y:V}{u:Value}{A:xC}{E:xD}
end
end L2
namespace Att
open PySem.W PySem.Calls
theorem Zco {P:Params}{h:Heap}:∀(ns:List Int) (vs:List Value),WellAll P h vs (ns.map WData.int)->IntsAre vs ns:=by
 intro ns
 induction ns with
 | nil=>
  intro vs w;rw[qa9]at w
  cases w
  exact .nil
 | cons n ns ih=>
  intro vs w;rw[zc]at w
  cases w with
  | cons a b=>
   cases a
   exact .cons _ _ (ih _ b)
theorem Zh6 {l:OpenLaw}{n:Nat}(hn:l.most=some n){P:Params}{h:Heap}{args:List WData}{vals:List Value}
  (hpre:l.row.toRowW.claim.pre args=true) (hwl:WellAll P h vals args) :
  ∃a vs ns,vals=[qY a]/\args=[WData.list (ns.map WData.int)]/\h.get? a=some { cls:=.type "list",data:=.seq vs.toArray }/\IntsAre vs ns/\ns.length<=n:=by
 have hsh:WShape.hasAll [] args [.list .int]=true:=(pre_splitW hpre).1;have hc:l.pre.holds [] { args:=args }=true:=(pre_splitW hpre).2;obtain⟨d,r,rfl,h1,h2⟩:=hasAllW_cons hsh;obtain rfl:=hasAllW_nil h2;obtain⟨xs,rfl,h3⟩:=hasW_list h1;obtain⟨ns,rfl⟩:=items_int h3;have jO:ns.length<=n:=by
  unfold OpenLaw.pre at hc;have h4:(WTm.not (.lt (.lit (.int (n:Int))) (.len (.arg 0)))).holds [] { args:=[.list (ns.map .int)] }=true:=by
   have h4:=(holds_andW hc).1;rw[hn]at h4;exact h4
  have h5:=condW_of h4 (w_not (w_lt w_lit (w_len_list (w_arg rfl))));rw[qd]at h5;refine Nat.le_of_not_lt λq=>?_;have q':(n:Int)<((ns.length:Nat):Int):=by omega
  first
   | (rw[decide_eq_true q']at h5;exact absurd h5 (by decide))
   | (simp at h5;omega)
 cases hwl with
 | cons w1 w2=>
  cases w2
  cases w1 with
  | list ho hall=>exact⟨_,_,ns,rfl,rfl,ho,Zco ns _ hall,jO⟩
theorem Zh7 (l:OpenLaw)(args:List WData):l.row.toRowW.claim.post args (.bool true) args=true:=
 postW_of (r:=l.row.toRowW) (X:=(true==true))
  (show WShape.has [] (.bool true) .bool=true by first | rfl | decide | simp[WShape.has,WShape.arms,WShape.armsAll])
  (show(WTm.eq .res (.lit (.bool true))).value [] { args:=args,res:=some (.bool true),after:=args }=some (.bool (true==true))from w_eq_bool (w_res rfl) w_lit) rfl
theorem attach_call {l:OpenLaw}{n:Nat}{q:xB}{loose:List Str}{XP:(Str->Option Value)->Heap->Prop}{YP:World->Heap->Prop}{d:DefRec}
  (hn:l.most=some n) (hdf:d.params.defaults=[])
  (call:∀(w:World) (s₀ s₁:Shared) (mg mb:Str->Option Value) (fa:Addr) (o:Obj) (pm cd doc:Value) (a:Addr) (vs:List Value) (ns:List Int),
   Ground q loose [] XP w s₀ mg mb s₁.heap->YP w s₁.heap->
   s₁.heap.get? fa=some o->o.data=.func (docDef d.name d.params d.body d.scope pm cd doc)->s₁.heap.CodeRec cd d.name->mg d.name=some (.ref fa)->
   s₁.heap.get? a=some { cls:=.type "list",data:=.seq vs.toArray }->IntsAre vs ns->ns.length<=n->s₁.gens = #[]->
   xo (xz l.prog w) callerA (.call (.ref fa) ⟨[.ref a],[]⟩) (λr s'=>r=.ok (.ret (.bool true))/\OldK s₁.heap s'.heap/\s'.os=s₁.os/\AllBare s'.gens) s₁) :
  WalkO q loose XP YP l.row.toRowW d [] (λf vs=>qcR f vs):=by
 intro w s₀ s₁ mg mb G Y fa o pm cd doc dV kV ho hd hcd hD hmg hg args vals as hpre hlay hrd hwl hlo;obtain rfl:dV=.none:=Dflts.none hD hdf;obtain rfl:kV=.none:=Dflts.noKw hD;obtain⟨a,vs,ns,rfl,rfl,hobj,hints,jO⟩:=Zh6 hn hpre hwl;refine enter_call (codeAny_mono (call w s₀ s₁ mg mb fa o pm cd doc a vs ns G Y ho (fd_plain hd) hcd hmg hobj hints jO hg) λr s' hq=>?_);obtain⟨rfl,h2,h3,h4⟩:=hq;exact⟨.inl ⟨.bool true,.bool true,[],rfl,λ_=>rfl,.bool true,Zh7 l _,λ_=>⟨zY,λ_ hm=>(nomatch hm)⟩⟩,h2,h3,h4⟩
section
variable {prog:xB}{w:World}{A:xC}{E:xD}{s:Shared}{K:Frag}
end
end Att
namespace L2
theorem ZdQ:∀{vs:List Value} {ns:List Int},IntsAre vs ns->Zu (ns.map V.int) vs
 | _,_,.nil=>.nil
 | _,_,.cons n t h=>.cons ⟨t,rfl⟩ (ZdQ h)
noncomputable def WD (s:Stmt):Arguments:=match s with
 | .FunctionDef _ a _ _ _ _ _ _ _ _=>a
 | _=>{ posonlyargs:=[],args:=[],vararg:=none,kwonlyargs:=[],kw_defaults:=[],kwarg:=none,defaults:=[] }
noncomputable def Wf (s:Stmt):List Stmt:=match s with
 | .FunctionDef _ _ b _ _ _ _ _ _ _=>b
 | _=>[]
noncomputable def ZK (s:Stmt):Scope:=match s with
 | .FunctionDef _ _ _ _ _ _ sc _ _ _=>sc
 | _=>{ kind:=.function,names:=[],isGenerator:=false,isCoroutine:=false }
noncomputable abbrev ZV:XT:=λ_ _ _ _ _ _=>False
noncomputable abbrev E0:XK:=λ_ _ _=>False
theorem Zmx {X:Cx}:Zeo ZV X E0:=λ_ _ _ _ _ _ _ h=>h.elim
structure Fun (K:qm)(x qual:Str)(st:Stmt)(f:Addr)(fd:xA):Prop where
 ex:∃(oc:Value) (od:Option Addr) (kV doc pm:Value) (an:Option Addr) (cdv ct:Value) (osl:Array (Option Value)),
  fd=yQ x qual (WD st) (Wf st) (ZK st) .none kV doc pm an cdv ct/\K.lookup f=some ⟨oc,od,.func fd,osl⟩/\qbh K cdv qual=true
 kp:yK K (.ref f)=true
section
variable {P:xB}{w:World}{K:qm}{mg:Str->Option Value}{base:Heap}
theorem Fun.ok {x qual:Str}{st:Stmt}{f:Addr}{fd:xA}{N ps:List Str}{k:Nat}{sp:Sp}(F:Fun K x qual st f fd)(S:FnScope N ps (ZK st))(len:∀vs H Q E,sp vs H Q E->vs.length=ps.length)
  (hbody:∀(cdv:Value) (A:xC) (outer:List Env) (s:Shared) (H:Hp) (vs:List V) (Q:VK) (E:XK),Room k (A.deeper (envOfC qual (ZK st) s.heap.objs.size f cdv))->sp vs H Q E->
   ∃t,Wb (Vj ZV P w K mg base N qual (ZK st) f cdv A outer s H E).nox (Wf st) t/\t { nx:=λ_ H'=>Q .non H',rt:=Q } (start N vs) H):FnOk P w K mg base ZV (k+1) f fd ps sp:=by
 obtain⟨oc,od,kV,doc,pm,an,cdv,ct,osl,rfl,lk,hcd⟩:=F.ex;refine Zmt lk hcd S len λA outer s H vs Q E hr hsp=>?_;obtain⟨t,h,q⟩:=hbody cdv A outer s H vs Q E hr hsp;exact⟨t,h.nox,q⟩
theorem Fun.binds {x qual:Str}{st:Stmt}{f:Addr}{fd:xA}{ps:List Str}(F:Fun K x qual st f fd)
  (h:∀(kV doc pm:Value) (an:Option Addr) (cdv ct:Value) (us:List Value),us.length=ps.length->bindArgs (yQ x qual (WD st) (Wf st) (ZK st) .none kV doc pm an cdv ct) ⟨us,[]⟩=pure (ps.zip us)):Wi K fd ps []:=by
 obtain⟨oc,od,kV,doc,pm,an,cdv,ct,osl,rfl,lk,hcd⟩:=F.ex;exact .all (h kV doc pm an cdv ct)
theorem Zni {x qual:Str}{st:Stmt}{f:Addr}{oc:Value}{od an:Option Addr}{osl:Array (Option Value)}{kV doc pm cdv ct:Value}(l:K.lookup f=some ⟨oc,od,.func (yQ x qual (WD st) (Wf st) (ZK st) .none kV doc pm an cdv ct),osl⟩)
  (c:qbh K cdv qual=true) (k:yK K (.ref f)=true):Fun K x qual st f (yQ x qual (WD st) (Wf st) (ZK st) .none kV doc pm an cdv ct):=⟨⟨oc,od,kV,doc,pm,an,cdv,ct,osl,rfl,l,c⟩,k⟩
end
theorem hu_of {A:xC}{k:Nat}(hr:Room k A):A.units+1<cLine:=Nat.lt_of_le_of_lt (Nat.add_le_add_left (by decide:1<=64) _) hr.units
section
variable {X:Cx}
theorem pv (i:Nat){x:Str}{pos:Pos}(hN:X.N[i]?=some x:=by rfl)(hv:BJ X.env.scope x:=by first | exact qS rfl | exact qbb (qS rfl) | exact qbb (qbb rfl))(hd:(x==("__debug__" : Str))=false:=by decide)
  (hcd:(x==("__classdict__" : Str))=false:=by decide):PE X (.Name x pos) (Yx i):=ZmT hN hv hd hcd
end
theorem V4 {A B:Prop}(h:B):if false=true then A else B:=by
 rw[if_neg yw];exact h
theorem V5 {A B:Prop}(h:A):if true=true then A else B:=by
 rw[if_pos rfl];exact h
section
variable {X:Cx}
end
section
variable {κ:Type}[DecidableEq κ]
end
theorem Zfg {prog:xB}{w:World}{A:xC}{R:Result->Shared->Prop}{s:Shared}{elt target iter:Expr}{ifs:List Expr}{scope:Scope}{pos:Pos}{it acc:Value}{env:Env}(I:Nat->Shared->Prop)
  (turn:∀n s,I n s->xf (xz prog w) A (pyNext it) (λr s₁=>match r with
   | none=>R (.ok .next) s₁
   | some v=>xf (xz prog w) A (letOwnedTupleGo target it v) (λ_ s₁'=>xf (xz prog w) A (assign target env v) (λ_ s₂=>
     xf (xz prog w) A (forIn ifs true λc r=>if r=true then do let ok<-isTrue c env (eval c env);pure (qaj ok)else pure (qaj r)) (λok s₃=>
      if ok=true then xf (xz prog w) A (eval elt env) (λx s₄=>
       xf (xz prog w) A (call (.builtin "list.append") [acc,x]) (λ_ s₅=>∃m,m<n/\I m s₅) (notedBy (xz prog w) A env λe s'=>R (.error e) s') s₄) (notedBy (xz prog w) A env λe s'=>R (.error e) s') s₃
      else ∃m,m<n/\I m s₃) (notedBy (xz prog w) A env λe s'=>R (.error e) s') s₂) (notedBy (xz prog w) A env λe s'=>R (.error e) s') s₁') (notedBy (xz prog w) A env λe s'=>R (.error e) s') s₁) (notedBy (xz prog w) A env λe s'=>R (.error e) s') s)
  (n:Nat) (h:I n s) :
  xo (xz prog w) A (.compLoop (.ListComp elt [⟨target,iter,ifs,0⟩] scope pos) 0 it acc env) R s:=by
 refine codeAny_loop rfl I (λn s hI=>?_) n h;show xf _ A ((compTurn (.ListComp elt [⟨target,iter,ifs,0⟩] scope pos) 0 it acc env).onRaise (λx=>do noteFrame x env;theTreesLotGoes x)) _ _ s;refine wpAny_noted ?_;rw[compTurn_list];refine xa (wpAny_standAt (xa (xc (turn n s hI) (λr s₁ h₁=>?_) λ_ _ h'=>h')))
 cases r with
 | none=>exact xb h₁
 | some v=>
  refine xa (xc h₁ (λ_ s₁' h₁'=>?_) λ_ _ h'=>h');refine xa (xc h₁' (λ_ s₂ h₂=>xa (xc h₂ (λok s₃ h₃=>?_) λ_ _ h'=>h')) λ_ _ h'=>h')
  cases ok with
  | false=>exact xb ⟨rfl,h₃⟩
  | true=>
   exact xa (xa (xc h₃ (λx s₄ h₄=>xa (xc h₄ (λ_ s₅ h₅=>xb (xb ⟨rfl,h₅⟩)) λ_ _ h'=>h')) λ_ _ h'=>h'))
noncomputable def Yz (X:Cx)(jI:Qb)(N':List Str)(scope:Scope)(cl:List (Str×Addr))(C:Addr)(s:Shared)(H:Hp)(fp:List Addr):Cx where
 prog:=X.prog
 w:=X.w
 K:=X.K
 mg:=X.mg
 base:=X.base
 A:=X.A
 N:=N'
 s₀:=s
 H₀:=H
 env:=compEnvC scope cl C X.env
 outer:=X.stack
 stack:=X.stack
 ex:=fp
 fn:=λ_=>false
 calm:=X.calm
 pn:=X.pn++jI
 xe:=λ_ _=>False
noncomputable def Vm (X:Cx)(ifs:List Expr)(t:TT):Prop:=
 ∀(jI:Qb) (s:Shared) (σ:St) (H:Hp) (Q:Bool->Hp->Prop),Inv X jI σ H s->t σ H Q->
  xf (xz X.prog X.w) X.A (forIn ifs true λc r=>if r=true then do let ok<-isTrue c X.env (eval c X.env);pure (qaj ok)else pure (qaj r)) (TP X jI σ Q) X.xe s
noncomputable def Zon:TT:=λ_ H Q=>Q true H
theorem Zjt {X:Cx}:Vm X [] Zon:=λ_ _ _ H _ I h=>xb ⟨H,I,h⟩
theorem Zju {X:Cx}{c:Expr}{t:TT}(h:PT X c t):Vm X [c] t:=λjI s σ H Q I hq=>wpAny_tests_one (h jI s σ H Q I hq)
structure BlkOk (X:Cx)(N':List Str)(src:List (Option Nat))(scope:Scope)(cl:List (Str×Addr)):Prop where
 clos:closureFor scope X.env=pure cl
 nocell:∀y∈scope.names,y.2≠.cell
 kind:scope.kind=.function
 names:∀y∈scope.names,y.2=.local->scope.names.lookup y.1=some .local
 len:src.length=N'.length
 cells:∀x c,cl.lookup x=some c->X.env.cells.lookup x=some c
 has:∀x,((relabel scope X.env).names.lookup x=some .cell∨(relabel scope X.env).names.lookup x=some .free)->∃c,cl.lookup x=some c
 from_:∀(i j:Nat) x,src[i]?=some (some j)->N'[i]?=some x->X.N[j]?=some x/\(X.env.kindOf x=some .cell∨X.env.kindOf x=some .free)/\((relabel scope X.env).names.lookup x=some .cell∨(relabel scope X.env).names.lookup x=some .free)
noncomputable def Vh (src:List (Option Nat))(σ:St):St:=src.map λo=>o.bind λj=>(σ[j]?).bind id
theorem Zlq {X:Cx}{jI:Qb}{σ:St}{H:Hp}{s s1:Shared}{N':List Str}{src:List (Option Nat)}{scope:Scope}{cl:List (Str×Addr)}{C:Addr}{fp:List Addr}{m:Str->Option Value}
  (B:BlkOk X N' src scope cl) (I:Inv X jI σ H s) (hf:∀b∈fp,Wp X jI H b) (hC:s.heap.objs.size<=C) (hCf:∀b∈fp,b≠C)
  (hs:s1.os=s.os) (hg:s1.gens=s.gens) (hk:∀b o,s.heap.get? b=some o->s1.heap.get? b=some o) (hn:s1.heap.Ns C m):Inv (Yz X jI N' scope cl C s H fp) [] (Vh src σ) H s1:=by
 have noC:∀b o,s.heap.get? b=some o->b≠C:=λb o e=>qV (zh (qK e) hC);refine⟨⟨I.ok.mod,B.kind,I.ok.glob,I.ok.blt,hC,λx y c h1 h2=>I.ok.inj x y c (B.cells _ _ h1) (B.cells _ _ h2),λx hx=>B.has x hx,λx c hf _=>(by cases hf),I.ok.hd,I.ok.frames,.inl rfl,λb hb=>?_,I.bs,zi I.ok.bsz I.sz,λb o e hb=>?_,λb hb z=>?_,I.stack,I.stkFree⟩,
  hs,by rw[hg];exact I.bare,Un.kept hk,⟨m,hn,λi x v h1 h2 h3=>?_⟩,λx c e=>?_,I.hok.fresh hC,λx c e=>I.freeC x c (B.cells _ _ e),λp hp=>?_,I.hok.kept hk,?_⟩
 ·obtain⟨f0,f1,f2,f3,f4,f5⟩:=hf b hb
  exact⟨hCf b hb,λx c e=>f4 x c (B.cells _ _ e)⟩
 ·obtain⟨f0,f1,f2,f3,f4,f5⟩:=hf b hb
  rcases f3 with z | z
  ·exact I.ok.noex b o e z
  ·exact absurd (zh (qK (I.ok.bs b o e).1) z) (yI _)
 ·obtain⟨f0,f1,f2,f3,f4,f5⟩:=hf b hb
  rcases qq.mp (I.stkSub b z)with e | e
  ·exact f1 e
  ·exact f2 e
 ·have h2':(Vh src σ)[i]?=some (some v):=h2
  unfold Vh at h2';rw[qH]at h2'
  cases e:src[i]? with
  | none=>rw[e]at h2';cases h2'
  | some o=>
   rw[e]at h2'
   cases o with
   | none=>simp at h2'
   | some j=>
    obtain⟨q1,q2,q3⟩:=B.from_ i j x e h1;have hj:σ[j]?=some (some v):=by
     simp only[ye,Option.bind_some,qb8]at h2'
     cases e2:σ[j]? with
     | none=>rw[e2]at h2';cases h2'
     | some o2=>rw[e2]at h2';simp at h2';rw[h2']
    obtain⟨mm,hnn,hl⟩:=I.loc;have vis:BJ X.env.scope x:=by
     rcases q2 with z | z
     ·exact .inr (.inl z)
     ·exact .inr (.inr z)
    obtain⟨u,r,l⟩:=hl j x v q1 hj vis;refine⟨u,r,?_⟩;rcases l with⟨k,_⟩ | ⟨_,c,ec,z⟩
    ·rcases q2 with z | z <;> rw[z]at k <;> cases k
    ·obtain⟨c',ec'⟩:=B.has x q3
     have ee:c'=c:=by
      have:=B.cells _ _ ec';rw[ec]at this;exact(zw this).symm
     subst ee;obtain⟨o,ho,hd⟩:=z;exact .inr ⟨q3,c',ec',o,hk _ _ ho,hd⟩
 ·obtain⟨v,o,ho,hd⟩:=I.cell x c (B.cells _ _ e)
  exact⟨v,o,hk _ _ ho,hd⟩
 ·have hp':p∈X.pn++jI:=by simpa[Yz]using hp
  obtain⟨e,n,ne,nf,d⟩:=I.pin p hp';refine⟨hk _ _ e,n,noC _ _ e,λz=>?_,d⟩;rcases qq.mp (I.stkSub p.1 z)with q | q
  ·exact ne q
  ·exact nf q
 ·show(Vh src σ).length=N'.length
  unfold Vh;rw[qd,B.len]
noncomputable def Zjv (src:List (Option Nat))(wi:TI)(g:TG)(tt:TT)(te:TE):TE:=fun σ H Q=>wi σ H λJ H1=>∀p,H1 p=none->
 ∃W:Nat->Nat->St->Hp->Prop,(∃m,W 0 m (Vh src σ) (Zl H1 p (.lst [])))/\∀i m σ2 H2,W i m σ2 H2->
  (J.stop i H2/\Q (.ref p) H2)∨(J.go i H2/\∀x H3,J.yld i H2 x H3->g x σ2 H3 fun σ4 H4=>tt σ4 H4 λok H5=>
   if ok=true then te σ4 H5 λy H6=>∃xs,H6 p=some (.lst xs)/\xs.length<xg/\∃m',m'<m/\W (i+1) m' σ4 (Zl H6 p (.lst (xs ++ [y])))
   else ∃m',m'<m/\W (i+1) m' σ4 H5)
theorem ZdR {X:Cx}{elt tg iter:Expr}{ifs:List Expr}{scope:Scope}{pos:Pos}{N':List Str}{src:List (Option Nat)}{cl:List (Str×Addr)}{g:TG}{tt:TT}{te:TE}
  {jI:Qb} {σ:St} {H2:Hp} {s₂:Shared} {it:Addr} {fp:List Addr} {tn:Nat->Heap->Prop} {J:It} {Qp:Addr->Hp->Prop} {RR:Value->Addr->Result->Shared->Prop} {E:xD}
  (hc:X.calm=true) (B:BlkOk X N' src scope cl)
  (hg:∀jI C s H fp,PG (Yz X jI N' scope cl C s H fp) tg g) (ht:∀jI C s H fp,Vm (Yz X jI N' scope cl C s H fp) ifs tt) (he:∀jI C s H fp,PE (Yz X jI N' scope cl C s H fp) elt te)
  (I2:Inv X jI σ H2 s₂) (T:Turn X.prog X.w X.K tg J fp it tn) (jT:tn 0 s₂.heap) (f2:∀b∈fp,Wp X jI H2 b)
  (q2:∀p,H2 p=none->∃W:Nat->Nat->St->Hp->Prop,(∃m,W 0 m (Vh src σ) (Zl H2 p (.lst [])))/\∀i m σ2 H2,W i m σ2 H2->
   (J.stop i H2/\Qp p H2)∨(J.go i H2/\∀x H3,J.yld i H2 x H3->g x σ2 H3 fun σ4 H4=>tt σ4 H4 λok H5=>
    if ok=true then te σ4 H5 λy H6=>∃xs,H6 p=some (.lst xs)/\xs.length<xg/\∃m',m'<m/\W (i+1) m' σ4 (Zl H6 p (.lst (xs ++ [y])))
    else ∃m',m'<m/\W (i+1) m' σ4 H5))
  (hfin:∀p C s6 H5 mm,Inv X jI σ H5 s6->s6.heap.Ns C mm->Wp X jI H5 C->Qp p H5->RR (.ref p) C (.ok .next) s6) :
  xf (xz X.prog X.w) X.A (newList []) (λacc s₃=>xf (xz X.prog X.w) X.A (newFunctionEnv scope X.env.globals cl [] X.env.qual none .none (some X.env)) (λcenv s₄=>
   xo (xz X.prog X.w) X.A (.compStart (.ListComp elt [⟨tg,iter,ifs,0⟩] scope pos) 0 (.ref it) acc { cenv with scope:=relabel scope X.env }) (RR acc cenv.locals) s₄) E s₃) E s₂:=by
 have fpold:∀b∈fp,b<s₂.heap.objs.size:=λb hb=>by
  obtain⟨o,e,_⟩:=T.obj _ _ jT b hb;exact qK e
 have q2:=q2 s₂.heap.objs.size (I2.hok.fresh (qp _));obtain⟨W,⟨m0,w0⟩,turn⟩:=q2
 -- the new list
 refine xl ?_;have I3:Inv X jI σ (Zl H2 s₂.heap.objs.size (.lst [])) { s₂ with heap:=s₂.heap.push { cls:=.type "list",dict:=none,data:=.seq ([]:List Value).toArray } }:=
  I2.lnew (t':=s₂.toks) (ys:=[]) .nil (zC _)
 have st3:tn 0 (s₂.heap.push { cls:=.type "list",dict:=none,data:=.seq ([]:List Value).toArray }):=T.keep _ _ _ jT λb _ o e=>qj _ e;have f3:∀b∈fp,Wp X jI (Zl H2 s₂.heap.objs.size (.lst [])) b:=λb hb=>by
  obtain⟨f0,f1⟩:=f2 b hb;exact⟨by rw[Zx (qV (fpold b hb))];exact f0,f1⟩
 generalize hs3:({ s₂ with heap:=s₂.heap.push { cls:=.type "list",dict:=none,data:=.seq ([]:List Value).toArray } }:Shared)=s₃ at I3;have st3':tn 0 s₃.heap:=by rw[<-hs3];exact st3
 have lt3:s₂.heap.objs.size<s₃.heap.objs.size:=by rw[<-hs3];show _<(Heap.push _ _).objs.size;rw[yb];exact yY _
 refine wpAny_newFunctionEnv B.nocell (by intro y hy;simp at hy) (λh₁ hns₁ hsb₁=>?_) B.kind;have kp1:∀b o,s₃.heap.get? b=some o->h₁.get? b=some o:=λb o e=>hsb₁.extBut b o (qV (qK e)) (qj _ e);have I4:=Zlq (s1:={ s₃ with heap:=h₁,toks:=s₃.toks+([]:List (Str×Value)).length }) (C:=s₃.heap.objs.size) B I3 f3 (qp _) (λb hb=>qV (qab (fpold b hb) lt3)) rfl rfl kp1 hns₁;have st4:tn 0 h₁:=T.keep _ _ _ st3' λb _ o e=>kp1 b o e;show xo (xz X.prog X.w) X.A (.compStart (.ListComp elt [⟨tg,iter,ifs,0⟩] scope pos) 0 (.ref it) (.ref s₂.heap.objs.size) (compEnvC scope cl s₃.heap.objs.size X.env)) (RR (.ref s₂.heap.objs.size) s₃.heap.objs.size) _;generalize hs4:({ s₃ with heap:=h₁,toks:=s₃.toks+([]:List (Str×Value)).length }:Shared)=s₄ at I4;have st4':tn 0 s₄.heap:=by rw[<-hs4];exact st4
 have blkX:∀{b:Addr} {H':Hp},b∈fp->H' b=none->Wp (Yz X jI N' scope cl s₃.heap.objs.size s₃ (Zl H2 s₂.heap.objs.size (.lst [])) fp) [] H' b:=λ{b H'} hb hn=>by
  obtain⟨f0,f1,f2',f3',f4',f5'⟩:=f3 b hb;refine⟨hn,qV (qab (fpold b hb) lt3),λz=>?_,.inl hb,λx c e=>f4' x c (B.cells _ _ e),λp hp=>?_⟩
  ·rcases qq.mp (I3.stkSub b z)with e | e
   ·exact f1 e
   ·exact f2' e
  ·exact f5' p (by simpa[Yz]using hp)
 have loop:xo (xz X.prog X.w) X.A (.compLoop (.ListComp elt [⟨tg,iter,ifs,0⟩] scope pos) 0 (.ref it) (.ref s₂.heap.objs.size) (compEnvC scope cl s₃.heap.objs.size X.env)) (RR (.ref s₂.heap.objs.size) s₃.heap.objs.size) s₄:=by
  refine Zfg (λn s'=>∃i σ' H',Inv (Yz X jI N' scope cl s₃.heap.objs.size s₃ (Zl H2 s₂.heap.objs.size (.lst [])) fp) [] σ' H' s'/\tn i s'.heap/\(∀b∈fp,H' b=none)/\W i n σ' H') ?_ m0 ⟨0,_,_,I4,st4',λb hb=>(f3 b hb).1,w0⟩;rintro n s5 ⟨i,σ5,H5,I5,st5,fr5,w5⟩;rcases turn i n σ5 H5 w5 with⟨stop,qn⟩ | ⟨go,step⟩
  ·refine xc (T.done (Yz X jI N' scope cl s₃.heap.objs.size s₃ (Zl H2 s₂.heap.objs.size (.lst [])) fp) rfl rfl rfl hc i [] s5 σ5 H5 (λ_ _=>False) I5 (λb hb=>blkX hb (fr5 b hb)) st5 stop) (λr s6 ⟨hr,I6⟩=>?_) λ_ _ f=>f.elim
   subst hr;obtain⟨mm,hnn,_⟩:=id I6.loc;have nC:H5 s₃.heap.objs.size=none:=I6.free;have J1:Inv X jI σ H5 s6:=by
    refine I3.call' (ch:=fp) I6.os I6.base I6.hok I6.bare λb hb=>?_;obtain⟨f0,f1,f2',f3',f4',f5'⟩:=f3 b hb;exact⟨f3',f1,f4',f5'⟩
   exact hfin _ _ s6 H5 mm J1 hnn (I3.fpOk (qp _) nC) qn
  ·refine xc (T.item (Yz X jI N' scope cl s₃.heap.objs.size s₃ (Zl H2 s₂.heap.objs.size (.lst [])) fp) rfl rfl rfl hc i [] s5 σ5 H5 (λ_ _=>False) I5 (λb hb=>blkX hb (fr5 b hb)) st5 go) (λr s6 ⟨u,hr,h6⟩=>?_) λ_ _ f=>f.elim
   subst hr;refine xc h6 (λ_ s7 ⟨x,H7,I7,r7,y7,st7,fr7⟩=>?_) λ_ _ f=>f.elim;have I7':=I7.pinned (λb hb=>blkX hb (fr7 b hb)) (T.obj _ _ st7);refine xc (hg _ _ _ _ _ _ s7 σ5 H7 x u _ I7' r7 (step x H7 y7)) (λ_ s8 ⟨σ8,H8,I8,q8⟩=>?_) λ_ _ f=>f.elim;refine xc (ht _ _ _ _ _ _ s8 σ8 H8 _ I8 q8) (λok s9 ⟨H9,I9,q9⟩=>?_) λ_ _ f=>f.elim;have again:∀{σ7:St} {H7:Hp} {sz:Shared},Inv (Yz X jI N' scope cl s₃.heap.objs.size s₃ (Zl H2 s₂.heap.objs.size (.lst [])) fp) ([]++Bd fp s7.heap) σ7 H7 sz->(∃m',m'<n/\W (i+1) m' σ7 H7)->
     ∃m,m<n/\∃i σ' H',Inv (Yz X jI N' scope cl s₃.heap.objs.size s₃ (Zl H2 s₂.heap.objs.size (.lst [])) fp) [] σ' H' sz/\tn i sz.heap/\(∀b∈fp,H' b=none)/\W i m σ' H':=λ{σ7 H7 sz} Iz ⟨m',hm,wz⟩=>by
    refine⟨m',hm,i+1,σ7,H7,Iz.unpinned,T.keep _ _ _ st7 λb hb o e=>(Iz.pin (b,o) (zf _ (zf _ (UV hb e)))).1,λb hb=>?_,wz⟩;obtain⟨o,e,d⟩:=T.obj _ _ st7 b hb;exact(Iz.pin (b,o) (zf _ (zf _ (UV hb e)))).2.1
   cases ok with
   | false=>
    show ∃m,m<n/\_;exact again I9 (by simpa using q9)
   | true=>
    have q9':te σ8 H9 λy H6=>∃xs,H6 s₂.heap.objs.size=some (.lst xs)/\xs.length<xg/\∃m',m'<n/\W (i+1) m' σ8 (Zl H6 s₂.heap.objs.size (.lst (xs ++ [y]))):=by simpa using q9
    show xf _ _ _ _ _ _;refine xc (he _ _ _ _ _ _ s9 σ8 H9 _ I9 q9') (λy sA ⟨yv,HA,IA,rA,xs,eA,zA,mA⟩=>?_) λ_ _ f=>f.elim;refine xc (ZdN (X:=Yz X jI N' scope cl s₃.heap.objs.size s₃ (Zl H2 s₂.heap.objs.size (.lst [])) fp) _ sA σ8 HA (.ref s₂.heap.objs.size) [yv] (.ref s₂.heap.objs.size) [y] (λ_ HB=>HB=Zl HA s₂.heap.objs.size (.lst (xs ++ [yv]))) IA rfl (.cons rA .nil) ⟨_,xs,yv,rfl,rfl,eA,zA,rfl⟩) (λ_ sB ⟨_,HB,IB,_,eB⟩=>?_) λ_ _ f=>f.elim;subst eB;exact again IB mA
 exact codeAny_compStart_list loop (T.self _ 0 _ _ _ st4' loop)
theorem Zlr {X:Cx}{elt tg iter:Expr}{ifs:List Expr}{scope:Scope}{pos:Pos}{N':List Str}{src:List (Option Nat)}{cl:List (Str×Addr)}{wi:TI}{g:TG}{tt:TT}{te:TE}
  (hc:X.calm=true) (B:BlkOk X N' src scope cl) (hi:PI X tg iter wi)
  (hg:∀jI C s H fp,PG (Yz X jI N' scope cl C s H fp) tg g) (ht:∀jI C s H fp,Vm (Yz X jI N' scope cl C s H fp) ifs tt) (he:∀jI C s H fp,PE (Yz X jI N' scope cl C s H fp) elt te)
  (hs:∀x,foldedSetIterable iter X.env x=pure x:=by intro _;rfl):PE X (.ListComp elt [⟨tg,iter,ifs,0⟩] scope pos) (Zjv src wi g tt te):=by
 intro jI s σ H Q I h;rw[eval_ListComp];refine wpAny_comprehension_free (use:=none) rfl hs B.clos B.kind B.names (xc (hi jI s σ H _ I h) (λxv s₁ h₁=>xc h₁ (λit s₂ h₂=>?_) λ_ _ e=>e) λ_ _ e=>e);obtain⟨it,fp,tn,J,H2,e,I2,T,jT,f2,q2⟩:=h₂;subst e;refine ZdR (RR:=λacc C=>compPost (xz X.prog X.w) X.A X.xe none (EP X jI σ Q) acc C) (Qp:=λp H=>Q (.ref p) H) hc B hg ht he I2 T jT f2 q2 ?_;intro p C s6 H5 mm J1 hnn fC qn;refine⟨mm,hnn,λh' sb=>?_⟩;obtain⟨c0,c1,c2,c3,c4,c5⟩:=fC;exact⟨.ref p,H5,J1.turned (t':=s6.toks) (it:=C) (λb o hb e=>(sb.2 b hb).trans e) c0 c1 c3 c4 c5,rfl,qn⟩
theorem Zls {X:Cx}{elt tg iter:Expr}{ifs:List Expr}{scope:Scope}{pos pos' spos:Pos}{N':List Str}{src:List (Option Nat)}{cl:List (Str×Addr)}{wi:TI}{g:TG}{tt:TT}{te:TE}{i:Nat}{x:Str}
  (hN:X.N.Nodup) (hi':X.N[i]?=some x) (hx:W6 X.env.scope x)
  (hc:X.calm=true) (B:BlkOk X N' src scope cl) (hi:PI X tg iter wi)
  (hg:∀jI C s H fp,PG (Yz X jI N' scope cl C s H fp) tg g) (ht:∀jI C s H fp,Vm (Yz X jI N' scope cl C s H fp) ifs tt) (he:∀jI C s H fp,PE (Yz X jI N' scope cl C s H fp) elt te)
  (hsw:xr (.ListComp elt [⟨tg,iter,ifs,0⟩] scope pos) (some (.Name x pos')) spos.line X.env=pure true:=by rfl)
  (hs:∀x,foldedSetIterable iter X.env x=pure x:=by intro _;rfl)
  (hf:X.fn x=true∨X.env.scope.names.lookup x=some .local:=by first | exact .inl rfl | exact .inr rfl | assumption) :
  PS X (.Assign [.Name x pos'] (.ListComp elt [⟨tg,iter,ifs,0⟩] scope pos) spos) (λD σ H=>Zjv src wi g tt te σ H λy H1=>D.nx (σ.set i (some y)) H1):=by
 intro jI s σ H D I h;rw[exec_Assign_Name_used _ _ _ _ hsw];refine xa (wpAny_standAt (xa ?_));show xf _ _ (do let _<-comprehension (.ListComp elt [⟨tg,iter,ifs,0⟩] scope pos) scope X.env _ (newList []) false (eval iter X.env) (some (assign (.Name x pos') X.env))) _ _ s;refine xa (xc (wpAny_comprehension_free (use:=some (assign (.Name x pos') X.env)) (Q:=λ_ s'=>SP X jI D .next s') rfl hs B.clos B.kind B.names
  (xc (hi jI s σ H _ I h) (λxv s₁ h₁=>xc h₁ (λit s₂ h₂=>?_) λ_ _ e=>e) λ_ _ e=>e)) (λ_ s' hq=>xb (xb hq)) λ_ _ e=>e)
 obtain⟨it,fp,tn,J,H2,e,I2,T,jT,f2,q2⟩:=h₂;subst e;refine ZdR (RR:=λacc C=>compPost (xz X.prog X.w) X.A X.xe (some (assign (.Name x pos') X.env)) (λ_ s'=>SP X jI D .next s') acc C) (Qp:=λp H=>D.nx (σ.set i (some (.ref p))) H) hc B hg ht he I2 T jT f2 q2 ?_;intro p C s6 H5 mm J1 hnn fC qn;obtain⟨oC,es,ep,hoC,hdC,hrC⟩:=id hnn;have fC':∀b∈[C],Wp X jI H5 b:=by
  intro b hb;have e:b=C:=by simpa using hb
  rw[e];exact fC
 have oC':∀b∈[C],∃o,s6.heap.get? b=some o/\∀v,o.data≠.cell v:=by
  intro b hb;have e:b=C:=by simpa using hb
  rw[e];exact⟨oC,hoC,λv z=>by rw[hdC]at z;cases z⟩
 have J2:=J1.pinned (fp:=[C]) fC' oC';show xf _ _ (assign (.Name x pos') X.env (.ref p)) _ _ _;refine xc (Ve (X:=X) (pos:=pos') hN hi' hx hf _ s6 σ H5 (.ref p) (.ref p) (fun σ' H'=>σ'=σ.set i (some (.ref p))/\H'=H5) J2 rfl ⟨rfl,rfl⟩) (λ_ s7 ⟨σ7,H7,I7,e7,e7'⟩=>?_) λ_ _ e=>e;subst e7 e7';have pC:=I7.pin (C,oC) (zf _ (zf _ (UV (by simp) hoC)));refine⟨mm,⟨oC,es,ep,pC.1,hdC,hrC⟩,λh' sb=>?_⟩;obtain⟨c0,c1,c2,c3,c4,c5⟩:=fC;exact⟨_,_,(I7.unpinned).turned (t':=s7.toks) (it:=C) (λb o hb e=>(sb.2 b hb).trans e) c0 c1 c3 c4 c5,qn⟩
end L2
namespace TF
open L2
inductive D where
 | non | bl (b:Bool) | int (i:Int) | str (x:Str) | tup (xs:List D) | lst (xs:List D)
 | dk (kvs:List (Zt×V)) | dt (kvs:List (List Zt×V)) | du (kvs:List (List Zt×V)) | df (kvs:List (Zt×V)) | pen | ty (n:String) | clo (t:Nat) (caps:List D)
noncomputable abbrev St:=L2.St
noncomputable abbrev Pn:=List Int×List Int
noncomputable abbrev M (α:Type):=Pn->Option (α×Pn)
noncomputable abbrev Zb:=List (Option D)
noncomputable def Zy {α:Type}(a:α):M α:=λs=>some (a,s)
noncomputable def Zp {α β:Type}(m:M α)(k:α->M β):M β:=λs=>match m s with | none=>none | some p=>k p.1 p.2
noncomputable def ZE {α:Type}:M α:=λ_=>none
noncomputable def YV {α:Type}(o:Option α):M α:=λs=>match o with | none=>none | some a=>some (a,s)
theorem ZC {α β:Type}{m:M α}{k:α->M β}{s s':Pn}{b:β}(h:Zp m k s=some (b,s')):∃a s1,m s=some (a,s1)/\k a s1=some (b,s'):=by
 unfold Zp at h
 cases e:m s with
 | none=>rw[e]at h;cases h
 | some p=>rw[e]at h;exact⟨p.1,p.2,rfl,h⟩
theorem ZN {α:Type}{a b:α}{s s':Pn}(h:Zy a s=some (b,s')):b=a/\s'=s:=by
 unfold Zy at h
 cases h
 exact⟨rfl,rfl⟩
theorem WV {α:Type}{o:Option α}{b:α}{s s':Pn}(h:YV o s=some (b,s')):o=some b/\s'=s:=by
 unfold YV at h
 cases e:o with
 | none=>rw[e]at h;cases h
 | some a=>rw[e]at h;cases h;exact⟨rfl,rfl⟩
structure Gh where
 fp:Addr->Prop
 rd:Addr->Prop
 pen:V
 st:Pn->Hp->Prop
 mono:∀s H H',st s H->(∀b o,rd b->H b=some o->H' b=some o)->(∀b φ,H b=some (.ext φ)->H' b=some (.ext φ))->st s H'
 sub:∀b,fp b->rd b
 dom:∀s H b,st s H->rd b->∃o,H b=some o
 ntp:∀s H b vs,st s H->fp b->H b≠some (.tup vs)
 clo:Nat->V->List V->Prop:=λ_ _ _=>False
mutual
noncomputable def Zi (G:Gh)(H:Hp):D->V->Prop
 | .non,v=>v=.non
 | .bl b,v=>v=.bl b
 | .int i,v=>v=.int i
 | .str x,v=>v=.str x
 | .tup ds,v=>∃a vs,v=.ref a/\¬G.fp a/\H a=some (.tup vs)/\Zh G H ds vs
 | .lst ds,v=>∃a vs,v=.ref a/\¬G.fp a/\H a=some (.lst vs)/\Zh G H ds vs
 | .dk kvs,v=>∃a,v=.ref a/\¬G.fp a/\H a=some (.dK kvs)
 | .dt kvs,v=>∃a o,v=.ref a/\¬G.fp a/\H a=some (.frz o (.dT kvs))
 | .du kvs,v=>∃a,v=.ref a/\¬G.fp a/\H a=some (.dT kvs)
 | .df kvs,v=>∃a o,v=.ref a/\¬G.fp a/\H a=some (.frz o (.dK kvs))
 | .pen,v=>v=G.pen
 | .ty n,v=>v=.ty n
 | .clo t ds,v=>∃vs,G.clo t v vs/\Zh G H ds vs
noncomputable def Zh (G:Gh)(H:Hp):List D->List V->Prop
 | [],vs=>vs=[]
 | d::ds,vs=>∃v r,vs=v::r/\Zi G H d v/\Zh G H ds r
end
noncomputable def Zz (G:Gh)(H H':Hp):Prop:=∀b o,¬G.fp b->H b=some o->H' b=some o
theorem Zz.refl (G:Gh)(H:Hp):Zz G H H:=λ_ _ _ e=>e
theorem Zz.trans {G:Gh}{H H1 H2:Hp}(a:Zz G H H1)(b:Zz G H1 H2):Zz G H H2:=λc o n e=>b c o n (a c o n e)
mutual
theorem Zi.ext {G:Gh}{H H':Hp}(e:Zz G H H'):∀{d:D} {v:V},Zi G H d v->Zi G H' d v
 | .non,_,h=>h
 | .bl _,_,h=>h
 | .int _,_,h=>h
 | .str _,_,h=>h
 | .tup ds,v,h=>by
  unfold Zi at h⊢;obtain⟨a,vs,e1,n,e2,r⟩:=h;exact⟨a,vs,e1,n,e _ _ n e2,Zh.ext e r⟩
 | .lst ds,v,h=>by
  unfold Zi at h⊢;obtain⟨a,vs,e1,n,e2,r⟩:=h;exact⟨a,vs,e1,n,e _ _ n e2,Zh.ext e r⟩
 | .dk kvs,v,h=>by
  unfold Zi at h⊢;obtain⟨a,e1,n,e2⟩:=h;exact⟨a,e1,n,e _ _ n e2⟩
 | .dt kvs,v,h=>by
  unfold Zi at h⊢;obtain⟨a,o,e1,n,e2⟩:=h;exact⟨a,o,e1,n,e _ _ n e2⟩
 | .df kvs,v,h=>by
  unfold Zi at h⊢;obtain⟨a,o,e1,n,e2⟩:=h;exact⟨a,o,e1,n,e _ _ n e2⟩
 | .du kvs,v,h=>by
  unfold Zi at h⊢;obtain⟨a,e1,n,e2⟩:=h;exact⟨a,e1,n,e _ _ n e2⟩
 | .pen,_,h=>h
 | .ty _,_,h=>h
 | .clo t ds,v,h=>by
  unfold Zi at h⊢;obtain⟨vs,c,r⟩:=h;exact⟨vs,c,Zh.ext e r⟩
theorem Zh.ext {G:Gh}{H H':Hp}(e:Zz G H H'):∀{ds:List D} {vs:List V},Zh G H ds vs->Zh G H' ds vs
 | [],_,h=>h
 | d::ds,vs,h=>by
  unfold Zh at h⊢;obtain⟨v,r,e1,r1,r2⟩:=h;exact⟨v,r,e1,Zi.ext e r1,Zh.ext e r2⟩
end
section
variable {G:Gh}{H:Hp}
theorem jc {ds:List D}{v:V}:Zi G H (.tup ds) v↔∃a vs,v=.ref a/\¬G.fp a/\H a=some (.tup vs)/\Zh G H ds vs:=by unfold Zi;exact qax
theorem jb {ds:List D}{v:V}:Zi G H (.lst ds) v↔∃a vs,v=.ref a/\¬G.fp a/\H a=some (.lst vs)/\Zh G H ds vs:=by unfold Zi;exact qax
theorem jj {kvs:List (Zt×V)}{v:V}:Zi G H (.dk kvs) v↔∃a,v=.ref a/\¬G.fp a/\H a=some (.dK kvs):=by unfold Zi;exact qax
theorem jk {kvs:List (List Zt×V)}{v:V}:Zi G H (.dt kvs) v↔∃a o,v=.ref a/\¬G.fp a/\H a=some (.frz o (.dT kvs)):=by unfold Zi;exact qax
theorem jl {kvs:List (List Zt×V)}{v:V}:Zi G H (.du kvs) v↔∃a,v=.ref a/\¬G.fp a/\H a=some (.dT kvs):=by unfold Zi;exact qax
theorem jt {kvs:List (Zt×V)}{v:V}:Zi G H (.df kvs) v↔∃a o,v=.ref a/\¬G.fp a/\H a=some (.frz o (.dK kvs)):=by unfold Zi;exact qax
theorem ja {i:Int}{v:V}:Zi G H (.int i) v↔v=.int i:=by unfold Zi;exact qax
theorem je {b:Bool}{v:V}:Zi G H (.bl b) v↔v=.bl b:=by unfold Zi;exact qax
theorem jh {b:Str}{v:V}:Zi G H (.str b) v↔v=.str b:=by unfold Zi;exact qax
theorem jg {v:V}:Zi G H .non v↔v=.non:=by unfold Zi;exact qax
theorem jp {v:V}:Zi G H .pen v↔v=G.pen:=by unfold Zi;exact qax
theorem jq {n:String}{v:V}:Zi G H (.ty n) v↔v=.ty n:=by unfold Zi;exact qax
theorem jy {t:Nat}{ds:List D}{v:V}:Zi G H (.clo t ds) v↔∃vs,G.clo t v vs/\Zh G H ds vs:=by unfold Zi;exact qax
theorem Zh.nil_iff {vs:List V}:Zh G H [] vs↔vs=[]:=by unfold Zh;exact qax
theorem jd {d:D}{ds:List D}{vs:List V}:Zh G H (d::ds) vs↔∃v r,vs=v::r/\Zi G H d v/\Zh G H ds r:=by
 constructor
 ·intro h;unfold Zh at h;exact h
 ·intro h;unfold Zh;exact h
theorem Zh.length:∀{ds:List D} {vs:List V},Zh G H ds vs->ds.length=vs.length
 | [],vs,h=>by rw[Zh.nil_iff.mp h];rfl
 | d::ds,vs,h=>by
  obtain⟨v,r,rfl,_,h2⟩:=jd.mp h;simp[Zh.length h2]
theorem Zh.get:∀{ds:List D} {vs:List V} {i:Nat} {d:D},Zh G H ds vs->ds[i]?=some d->∃v,vs[i]?=some v/\Zi G H d v
 | [],_,_,_,_,e=>by simp at e
 | d::ds,vs,0,d',h,e=>by
  obtain⟨v,r,rfl,h1,_⟩:=jd.mp h;simp at e;subst e;exact⟨v,rfl,h1⟩
 | d::ds,vs,i+1,d',h,e=>by
  obtain⟨v,r,rfl,_,h2⟩:=jd.mp h;obtain⟨u,e1,e2⟩:=Zh.get h2 (i:=i) (d:=d') (by simpa using e);exact⟨u,by simpa using e1,e2⟩
theorem Zh.append:∀{ds es:List D} {vs us:List V},Zh G H ds vs->Zh G H es us->Zh G H (ds++es) (vs++us)
 | [],es,vs,us,h,h'=>by rw[Zh.nil_iff.mp h];exact h'
 | d::ds,es,vs,us,h,h'=>by
  obtain⟨v,r,rfl,h1,h2⟩:=jd.mp h;exact jd.mpr ⟨v,r++us,rfl,h1,Zh.append h2 h'⟩
theorem Zh.one {d:D}{v:V}(h:Zi G H d v):Zh G H [d] [v]:=jd.mpr ⟨v,[],rfl,h,Zh.nil_iff.mpr rfl⟩
theorem Zh.cons {d:D}{v:V}{ds:List D}{vs:List V}(h:Zi G H d v)(h2:Zh G H ds vs):Zh G H (d::ds) (v::vs):=jd.mpr ⟨v,vs,rfl,h,h2⟩
theorem Zh.take:∀{ds:List D} {vs:List V} (n:Nat),Zh G H ds vs->Zh G H (ds.take n) (vs.take n)
 | _,_,0,_=>Zh.nil_iff.mpr (by simp)
 | [],vs,n+1,h=>by rw[Zh.nil_iff.mp h];exact Zh.nil_iff.mpr (by simp)
 | d::ds,vs,n+1,h=>by
  obtain⟨u,r,rfl,h1,h2⟩:=jd.mp h;exact Zh.cons h1 (Zh.take n h2)
theorem Zh.drop:∀{ds:List D} {vs:List V} (n:Nat),Zh G H ds vs->Zh G H (ds.drop n) (vs.drop n)
 | _,_,0,h=>h
 | [],vs,n+1,h=>by rw[Zh.nil_iff.mp h];exact Zh.nil_iff.mpr (by simp)
 | d::ds,vs,n+1,h=>by
  obtain⟨u,r,rfl,h1,h2⟩:=jd.mp h;exact Zh.drop n h2
end
noncomputable def Nt (o:Option HO):Prop:=∃u,o=some u/\∀vs,u≠.tup vs
theorem Nt.no {o:Option HO}(h:Nt o)(e:o=none):False:=by
 obtain⟨u,q,_⟩:=h;rw[e]at q;cases q
structure Gr (G:Gh)(Hf H Hf' H':Hp):Prop where
 hh:Zz G H H'
 ff:Zz G Hf Hf'
 fh:Zz G Hf' H'
 nw:∀b,¬G.fp b->Hf b=none->Nt (H b)->Hf' b=none
theorem Gr.refl {G:Gh}{Hf H:Hp}(e:Zz G Hf H):Gr G Hf H Hf H:=⟨.refl _ _,.refl _ _,e,λ_ _ h _=>h⟩
theorem Gr.trans {G:Gh}{Hf H jU H1 jZ H2:Hp}(a:Gr G Hf H jU H1)(b:Gr G jU H1 jZ H2):Gr G Hf H jZ H2:=
 ⟨a.hh.trans b.hh,a.ff.trans b.ff,b.fh,λc n h1 h2=>b.nw c n (a.nw c n h1 h2) (let ⟨u,e,nt⟩:=h2;⟨u,a.hh c u n e,nt⟩)⟩
theorem Gr.new {G:Gh}{Hf H:Hp}{p:Addr}{o:HO}(e:Zz G Hf H)(hp:H p=none)(nf:¬G.fp p):Gr G Hf H (Zl Hf p o) (Zl H p o) where
 hh:=λb u n q=>by rw[Zx (Ys q hp)];exact q
 ff:=λb u n q=>by rw[Zx (Ys (e b u n q) hp)];exact q
 fh:=λb u n q=>by
  by_cases hb:b=p
  ·subst hb;rw[ZQ]at q⊢;exact q
  ·rw[Zx hb]at q⊢;exact e b u n q
 nw:=λb n h1 h2=>by
  by_cases hb:b=p
  ·subst hb;exact(h2.no hp).elim
  ·rw[Zx hb];exact h1
theorem Gh.nofp {G:Gh}{s:Pn}{H:Hp}{p:Addr}(h:G.st s H)(hp:H p=none):¬G.fp p:=λf=>by
 obtain⟨o,e⟩:=G.dom s H p h (G.sub p f);rw[hp]at e;cases e
theorem jC {G:Gh}{s:Pn}{H:Hp}{p:Addr}(h:G.st s H)(hp:H p=none):¬G.rd p:=λf=>by
 obtain⟨o,e⟩:=G.dom s H p h f;rw[hp]at e;cases e
theorem Gh.grow {G:Gh}{s:Pn}{H:Hp}{p:Addr}{o:HO}(h:G.st s H)(hp:H p=none):G.st s (Zl H p o):=G.mono s H _ h (λb u _ q=>by
 rw[Zx (Ys q hp)];exact q) λb φ q=>by
 rw[Zx (Ys q hp)];exact q
noncomputable def VZ:D->Prop
 | .lst _=>True
 | .dk _=>True
 | .dt _=>True
 | .du _=>True
 | _=>False
noncomputable def Z2 (G:Gh)(H Hf':Hp)(d:D)(v:V):Prop:=∀a,v=.ref a->VZ d->H a=none/\∀ds,d=.lst ds->∃vs Hm,Hf' a=some (.lst vs)/\Hm a=none/\Zz G Hm Hf'/\Zh G Hm ds vs
theorem jm {G:Gh}{H H' Hf':Hp}{d:D}{v:V}(e:Zz G H H')(r:∀a,v=.ref a->VZ d->¬G.fp a)(h:Z2 G H' Hf' d v):Z2 G H Hf' d v:=λa ea m=>by
 refine⟨?_,(h a ea m).2⟩
 cases q:H a with
 | none=>rfl
 | some o=>
  have:=e a o (r a ea m) q;rw[(h a ea m).1]at this;cases this
theorem Zi.nofp {G:Gh}{H:Hp}{d:D}{v:V}(r:Zi G H d v):∀a,v=.ref a->VZ d->¬G.fp a:=λa e m=>by
 cases d with
 | lst ds=>obtain⟨b,vs,e1,n,_⟩:=jb.mp r;rw[e]at e1;cases e1;exact n
 | dk ds=>obtain⟨b,e1,n,_⟩:=jj.mp r;rw[e]at e1;cases e1;exact n
 | dt ds=>obtain⟨b,_,e1,n,_⟩:=jk.mp r;rw[e]at e1;cases e1;exact n
 | du ds=>obtain⟨b,e1,n,_⟩:=jl.mp r;rw[e]at e1;cases e1;exact n
 | _=>exact m.elim
noncomputable def YF (G:Gh)(H:Hp)(σ:St)(ρ:Zb):Prop:=∀(i:Nat) (d:D),ρ[i]?=some (some d)->∃v,σ[i]?=some (some v)/\Zi G H d v
theorem YF.ext {G:Gh}{H H':Hp}{σ:St}{ρ:Zb}(h:YF G H σ ρ)(e:Zz G H H'):YF G H' σ ρ:=λi d q=>let ⟨v,a,b⟩:=h i d q;⟨v,a,b.ext e⟩
noncomputable def PD (X:Cx)(G:Gh)(fr:Bool)(e:Expr)(f:Zb->M D):Prop:=
 ∃t,PE X e t/\∀(σ:St) (Hf H:Hp) (ρ:Zb) (s:Pn) (d:D) (s':Pn) (Q:VK),Zz G Hf H->YF G Hf σ ρ->G.st s H->f ρ s=some (d,s')->
  (∀v Hf' H',Gr G Hf H Hf' H'->G.st s' H'->Zi G Hf' d v->(fr=true->Z2 G H Hf' d v)->Q v H')->t σ H Q
noncomputable def XU (X:Cx)(G:Gh)(e:Expr)(f:Zb->M Bool):Prop:=
 ∃t,PT X e t/\∀(σ:St) (Hf H:Hp) (ρ:Zb) (s:Pn) (b:Bool) (s':Pn) (Q:Bool->Hp->Prop),Zz G Hf H->YF G Hf σ ρ->G.st s H->f ρ s=some (b,s')->
  (∀Hf' H',Gr G Hf H Hf' H'->G.st s' H'->Q b H')->t σ H Q
noncomputable def WO (X:Cx)(G:Gh)(es:List Expr)(f:Zb->M (List D)):Prop:=
 ∃t,PA X es t/\∀(σ:St) (Hf H:Hp) (ρ:Zb) (s:Pn) (ds:List D) (s':Pn) (Q:List V->Hp->Prop),Zz G Hf H->YF G Hf σ ρ->G.st s H->f ρ s=some (ds,s')->
  (∀vs Hf' H',Gr G Hf H Hf' H'->G.st s' H'->Zh G Hf' ds vs->Q vs H')->t σ H Q
section
variable {X:Cx}{G:Gh}
theorem PD.weak {e:Expr}{f:Zb->M D}{fr:Bool}(h:PD X G fr e f):PD X G false e f:=by
 obtain⟨t,p,q⟩:=h;exact⟨t,p,fun σ Hf H ρ s d s' Q e1 e2 e3 e4 k=>q σ Hf H ρ s d s' Q e1 e2 e3 e4 λv Hf' H' g1 g2 g3 _=>k v Hf' H' g1 g2 g3 (λz=>by cases z)⟩
noncomputable def Za (i:Nat):Zb->M D:=fun ρ=>YV ((ρ[i]?).bind id)
noncomputable def dC (d:D):Zb->M D:=λ_=>Zy d
theorem Zgl (i:Nat){x:Str}{pos:Pos}(h:PE X (.Name x pos) (Yx i)):PD X G false (.Name x pos) (Za i):=by
 refine⟨_,h,fun σ Hf H ρ s d s' Q e1 e2 e3 e4 k=>?_⟩;obtain⟨e,rfl⟩:=WV e4;have e':ρ[i]?=some (some d):=by
  cases q:ρ[i]? with
  | none=>rw[q]at e;cases e
  | some o=>rw[q]at e;simp at e;rw[e]
 obtain⟨v,h1,h2⟩:=e2 i d e';exact⟨v,h1,k v Hf H (.refl e1) e3 h2 (λz=>by cases z)⟩
theorem Z2.scal {H Hf':Hp}{d:D}{v:V}(h:VZ d->False):Z2 G H Hf' d v:=λ_ _ m=>(h m).elim
theorem ZP {i:Int}{j pos}:PD X G true (.Constant (.int i) j pos) (dC (.int i)):=by
 refine⟨_,Xh,fun σ Hf H ρ s d s' Q e1 e2 e3 e4 k=>?_⟩;obtain⟨rfl,rfl⟩:=ZN e4;exact k _ Hf H (.refl e1) e3 (ja.mpr rfl) λ_=>.scal λz=>z
theorem WJ {b:Bool}{j pos}:PD X G true (.Constant (.bool b) j pos) (dC (.bl b)):=by
 refine⟨_,Zn8,fun σ Hf H ρ s d s' Q e1 e2 e3 e4 k=>?_⟩;obtain⟨rfl,rfl⟩:=ZN e4;exact k _ Hf H (.refl e1) e3 (je.mpr rfl) λ_=>.scal λz=>z
noncomputable def Zd:Zb->M (List D):=λ_=>Zy []
noncomputable def Zc (f:Zb->M D)(g:Zb->M (List D)):Zb->M (List D):=fun ρ=>Zp (f ρ) λd=>Zp (g ρ) λds=>Zy (d::ds)
theorem Zm:WO X G [] Zd:=by
 refine⟨_,Xi,fun σ Hf H ρ s d s' Q e1 e2 e3 e4 k=>?_⟩;obtain⟨rfl,rfl⟩:=ZN e4;exact k _ Hf H (.refl e1) e3 (Zh.nil_iff.mpr rfl)
theorem Zg {e:Expr}{es:List Expr}{f:Zb->M D}{g:Zb->M (List D)}{fr:Bool}(h:PD X G fr e f)(hr:WO X G es g)(hs:xh (e::es) X.env=(false,eval e X.env)::xh es X.env:=by rfl):WO X G (e::es) (Zc f g):=by
 obtain⟨t,p,q⟩:=h;obtain⟨u,p2,q2⟩:=hr;refine⟨_,YK p p2 hs,fun σ Hf H ρ s ds s' Q e1 e2 e3 e4 k=>?_⟩;obtain⟨d,s1,a1,a2⟩:=ZC e4;obtain⟨r,s2,a3,a4⟩:=ZC a2;obtain⟨rfl,rfl⟩:=ZN a4;refine q σ Hf H ρ s d s1 _ e1 e2 e3 a1 λv jU H1 g1 jW r1 _=>?_;refine q2 σ jU H1 ρ s1 r _ _ g1.fh (e2.ext g1.ff) jW a3 λvs jZ H2 g2 jT r2=>?_;exact k _ jZ H2 (g1.trans g2) jT (Zh.cons (r1.ext g2.ff) r2)
noncomputable def ZS (f:Zb->M (List D)):Zb->M D:=fun ρ=>Zp (f ρ) λds=>if ds.length<=xg then Zy (.tup ds)else ZE
noncomputable def ZZ (f:Zb->M (List D)):Zb->M D:=fun ρ=>Zp (f ρ) λds=>if ds.length<=xg then Zy (.lst ds)else ZE
theorem Xc {α:Type}{c:Prop}[Decidable c]{a:M α}{s s':Pn}{b:α}(h:(if c then a else ZE) s=some (b,s')):c/\a s=some (b,s'):=by
 split at h
 ·rename_i hc;exact⟨hc,h⟩
 ·cases h
theorem Z2.mk {Hf H:Hp}{p:Addr}{vs:List V}{ds:List D}(e:Zz G Hf H)(hp:H p=none)(nf:¬G.fp p)(r:Zh G Hf ds vs):Z2 G H (Zl Hf p (.lst vs)) (.lst ds) (.ref p):=λa ea _=>by
 cases ea
 refine⟨hp,λds' ed=>?_⟩
 cases ed
 have hf:Hf p=none:=by
  cases q:Hf p with
  | none=>rfl
  | some o=>rw[e p o nf q]at hp;cases hp
 exact⟨vs,Hf,ZQ,hf,λb o n q=>by rw[Zx (Ys q hf)];exact q,r⟩
theorem Xe {es:List Expr}{f:Zb->M (List D)}{x1:Nat}{pos:Pos}(h:WO X G es f):PD X G true (.Tuple es x1 pos) (ZS f):=by
 obtain⟨t,p,q⟩:=h;refine⟨_,Zm8 p,fun σ Hf H ρ s d s' Q e1 e2 e3 e4 k=>?_⟩;obtain⟨ds,s1,a1,a2⟩:=ZC e4;obtain⟨hl,a3⟩:=Xc a2;obtain⟨rfl,rfl⟩:=ZN a3;refine q σ Hf H ρ s ds s' _ e1 e2 e3 a1 λvs jU H1 g1 jW r1=>⟨by rw[<-r1.length];exact hl,λp hp=>?_⟩;have nf:=Gh.nofp jW hp;have g2:=Gr.new (o:=.tup vs) g1.fh hp nf;exact k (.ref p) _ _ (g1.trans g2) (Gh.grow jW hp) (jc.mpr ⟨p,vs,rfl,nf,ZQ,r1.ext g2.ff⟩) λ_=>.scal λz=>z
theorem Xj {es:List Expr}{f:Zb->M (List D)}{pos:Pos}(h:WO X G es f):PD X G true (.List es pos) (ZZ f):=by
 obtain⟨t,p,q⟩:=h;refine⟨_,Zm9 p,fun σ Hf H ρ s d s' Q e1 e2 e3 e4 k=>?_⟩;obtain⟨ds,s1,a1,a2⟩:=ZC e4;obtain⟨hl,a3⟩:=Xc a2;obtain⟨rfl,rfl⟩:=ZN a3;refine q σ Hf H ρ s ds s' _ e1 e2 e3 a1 λvs jU H1 g1 jW r1=>⟨by rw[<-r1.length];exact hl,λp hp=>?_⟩;have nf:=Gh.nofp jW hp;have g2:=Gr.new (o:=.lst vs) g1.fh hp nf;refine k (.ref p) _ _ (g1.trans g2) (Gh.grow jW hp) (jb.mpr ⟨p,vs,rfl,nf,ZQ,r1.ext g2.ff⟩) λ_=>jm g1.hh (λa ea _=>by cases ea;exact nf) (Z2.mk g1.fh hp nf r1)
noncomputable def Xb (X:Cx)(G:Gh)(f:Value->Value->Sem Value)(g:D->D->Option D):Prop:=
 ∃r,Z6 X f r/\∀(Hf H:Hp) (s:Pn) (x y:V) (d e c:D) (Q:VK),Zz G Hf H->G.st s H->Zi G Hf d x->Zi G Hf e y->g d e=some c->
  (∀v Hf' H',Gr G Hf H Hf' H'->G.st s H'->Zi G Hf' c v->Z2 G H Hf' c v->Q v H')->r x y H Q
noncomputable def Ze (g:D->D->Option D)(a b:Zb->M D):Zb->M D:=fun ρ=>Zp (a ρ) λd=>Zp (b ρ) λe=>YV (g d e)
theorem op2D {fa fb:Zb->M D}{g:D->D->Option D}{ta tb:TE}{r:R2}
  (qa:∀(σ:St) (Hf H:Hp) (ρ:Zb) (s:Pn) (d:D) (s':Pn) (Q:VK),Zz G Hf H->YF G Hf σ ρ->G.st s H->fa ρ s=some (d,s')->(∀v Hf' H',Gr G Hf H Hf' H'->G.st s' H'->Zi G Hf' d v->Q v H')->ta σ H Q)
  (qb:∀(σ:St) (Hf H:Hp) (ρ:Zb) (s:Pn) (d:D) (s':Pn) (Q:VK),Zz G Hf H->YF G Hf σ ρ->G.st s H->fb ρ s=some (d,s')->(∀v Hf' H',Gr G Hf H Hf' H'->G.st s' H'->Zi G Hf' d v->Q v H')->tb σ H Q)
  (qo:∀(Hf H:Hp) (s:Pn) (x y:V) (d e c:D) (Q:VK),Zz G Hf H->G.st s H->Zi G Hf d x->Zi G Hf e y->g d e=some c->(∀v Hf' H',Gr G Hf H Hf' H'->G.st s H'->Zi G Hf' c v->Z2 G H Hf' c v->Q v H')->r x y H Q)
  (σ:St) (Hf H:Hp) (ρ:Zb) (s:Pn) (d:D) (s':Pn) (Q:VK) (e1:Zz G Hf H) (e2:YF G Hf σ ρ) (e3:G.st s H) (e4:Ze g fa fb ρ s=some (d,s'))
  (k:∀v Hf' H',Gr G Hf H Hf' H'->G.st s' H'->Zi G Hf' d v->Z2 G H Hf' d v->Q v H'):Wk r ta tb σ H Q:=by
 obtain⟨da,s1,a1,a2⟩:=ZC e4;obtain⟨db,s2,a3,a4⟩:=ZC a2;obtain⟨a5,rfl⟩:=WV a4;refine qa σ Hf H ρ s da s1 _ e1 e2 e3 a1 λx jU H1 g1 jW r1=>?_;refine qb σ jU H1 ρ s1 db _ _ g1.fh (e2.ext g1.ff) jW a3 λy jZ H2 g2 jT r2=>?_;refine qo jZ H2 _ x y da db d Q g2.fh jT (r1.ext g2.ff) r2 a5 λv Hf3 H3 g3 st3 r3 fz=>?_;exact k v Hf3 H3 ((g1.trans g2).trans g3) st3 r3 (jm (g1.hh.trans g2.hh) r3.nofp fz)
theorem PD.drop {e:Expr}{f:Zb->M D}{fr:Bool}(h:PD X G fr e f):∃t,PE X e t/\∀(σ:St) (Hf H:Hp) (ρ:Zb) (s:Pn) (d:D) (s':Pn) (Q:VK),Zz G Hf H->YF G Hf σ ρ->G.st s H->f ρ s=some (d,s')->
  (∀v Hf' H',Gr G Hf H Hf' H'->G.st s' H'->Zi G Hf' d v->Q v H')->t σ H Q:=by
 obtain⟨t,p,q⟩:=h;exact⟨t,p,fun σ Hf H ρ s d s' Q a b c d' k=>q σ Hf H ρ s d s' Q a b c d' λv Hf' H' g1 g2 g3 _=>k v Hf' H' g1 g2 g3⟩
theorem YB {a b:Expr}{op:Operator}{pos:Pos}{fa fb:Zb->M D}{g:D->D->Option D}{r1 r2:Bool}(ho:Xb X G (binaryOp op) g)(ha:PD X G r1 a fa)(hb:PD X G r2 b fb):PD X G true (.BinOp a op b pos) (Ze g fa fb):=by
 obtain⟨r,po,qo⟩:=ho;obtain⟨ta,pa,qa⟩:=ha.drop;obtain⟨tb,pb,qb⟩:=hb.drop;exact⟨_,VC po pa pb,fun σ Hf H ρ s d s' Q e1 e2 e3 e4 k=>op2D qa qb qo σ Hf H ρ s d s' Q e1 e2 e3 e4 λv Hf' H' g1 g2 g3 fz=>k v Hf' H' g1 g2 g3 λ_=>fz⟩
theorem U9 {a b:Expr}{op:CmpOp}{pos:Pos}{fa fb:Zb->M D}{g:D->D->Option D}{r1 r2:Bool}(ho:Xb X G (xk op) g)(ha:PD X G r1 a fa)(hb:PD X G r2 b fb)
  (hm:behindInMarks op b=false:=by first | exact Be _ | with_unfolding_all rfl):PD X G true (.Compare a [op] [b] pos) (Ze g fa fb):=by
 obtain⟨r,po,qo⟩:=ho;obtain⟨ta,pa,qa⟩:=ha.drop;obtain⟨tb,pb,qb⟩:=hb.drop;exact⟨_,Zlg po pa pb hm,fun σ Hf H ρ s d s' Q e1 e2 e3 e4 k=>op2D qa qb qo σ Hf H ρ s d s' Q e1 e2 e3 e4 λv Hf' H' g1 g2 g3 fz=>k v Hf' H' g1 g2 g3 λ_=>fz⟩
noncomputable def asB (f:Zb->M D):Zb->M Bool:=fun ρ=>Zp (f ρ) λd=>match d with | .bl b=>Zy b | _=>ZE
theorem Zfh {f:Zb->M D}{ρ:Zb}{s s':Pn}{b:Bool}(h:asB f ρ s=some (b,s')):f ρ s=some (.bl b,s'):=by
 obtain⟨d,s1,a1,a2⟩:=ZC h
 cases d with
 | bl c=>obtain⟨rfl,rfl⟩:=ZN a2;exact a1
 | _=>cases a2
theorem Xd {a b:Expr}{op:CmpOp}{pos:Pos}{fa fb:Zb->M D}{g:D->D->Option D}{r1 r2:Bool}(ho:Xb X G (xk op) g)(ha:PD X G r1 a fa)(hb:PD X G r2 b fb)
  (hm:behindInMarks op b=false:=by first | exact Be _ | with_unfolding_all rfl):XU X G (.Compare a [op] [b] pos) (asB (Ze g fa fb)):=by
 obtain⟨r,po,qo⟩:=ho;obtain⟨ta,pa,qa⟩:=ha.drop;obtain⟨tb,pb,qb⟩:=hb.drop;refine⟨_,Zcw po pa pb hm,fun σ Hf H ρ s c s' Q e1 e2 e3 e4 k=>?_⟩;exact op2D qa qb qo σ Hf H ρ s (.bl c) s' _ e1 e2 e3 (Zfh e4) λv Hf' H' g1 g2 g3 fz=>⟨c,je.mp g3,k Hf' H' g1 g2⟩
theorem VW {e:Expr}{f:Zb->M D}{fr:Bool}(h:PD X G fr e f)(he:∀whole,isTrue e X.env whole=(do let v<-whole;standAt e.pos;holding [v] (truthy v)):=by intro _;rfl):XU X G e (asB f):=by
 obtain⟨t,p,q⟩:=h;refine⟨_,ZmU p he,fun σ Hf H ρ s c s' Q e1 e2 e3 e4 k=>?_⟩;exact q σ Hf H ρ s (.bl c) s' _ e1 e2 e3 (Zfh e4) λv Hf' H' g1 g2 g3 fz=>⟨c,je.mp g3,k Hf' H' g1 g2⟩
noncomputable def Vn (f:Zb->M Bool):Zb->M Bool:=fun ρ=>Zp (f ρ) λb=>Zy (!b)
theorem U0 {a:Expr}{pos:Pos}{f:Zb->M Bool}(h:XU X G a f):XU X G (.UnaryOp .Not a pos) (Vn f):=by
 obtain⟨t,p,q⟩:=h;refine⟨_,ZmX p,fun σ Hf H ρ s c s' Q e1 e2 e3 e4 k=>?_⟩;obtain⟨b,s1,a1,a2⟩:=ZC e4;obtain⟨rfl,rfl⟩:=ZN a2;exact q σ Hf H ρ s b s' _ e1 e2 e3 a1 λHf' H' g1 g2=>k Hf' H' g1 g2
noncomputable def XZ (f g:Zb->M Bool):Zb->M Bool:=fun ρ=>Zp (f ρ) λb=>if b=true then g ρ else Zy false
noncomputable def WP (f g:Zb->M Bool):Zb->M Bool:=fun ρ=>Zp (f ρ) λb=>if b=true then Zy true else g ρ
noncomputable def Wc (X:Cx)(G:Gh)(e:Expr)(f:Zb->M Bool):Prop:=
 ∃t,PW X e t/\∀(σ:St) (Hf H:Hp) (ρ:Zb) (s:Pn) (b:Bool) (s':Pn) (Q:Bool->Hp->Prop),Zz G Hf H->YF G Hf σ ρ->G.st s H->f ρ s=some (b,s')->
  (∀Hf' H',Gr G Hf H Hf' H'->G.st s' H'->Q b H')->t σ H Q
theorem Wc.pt {e:Expr}{f:Zb->M Bool}(h:Wc X G e f):XU X G e f:=by
 obtain⟨t,p,q⟩:=h;exact⟨t,p.pt,q⟩
theorem ZcN {a:Expr}{pos:Pos}{f:Zb->M Bool}(h:XU X G a f):Wc X G (.BoolOp .And [a] pos) f:=by
 obtain⟨t,p,q⟩:=h;exact⟨t,Zlc p,q⟩
theorem Zcy {a:Expr}{pos:Pos}{f:Zb->M Bool}(h:XU X G a f):Wc X G (.BoolOp .Or [a] pos) f:=by
 obtain⟨t,p,q⟩:=h;exact⟨t,ZmV p,q⟩
theorem Zes {a b:Expr}{rest:List Expr}{pos:Pos}{f g:Zb->M Bool}(h:XU X G a f)(h2:Wc X G (.BoolOp .And (b::rest) pos) g):Wc X G (.BoolOp .And (a::b::rest) pos) (XZ f g):=by
 obtain⟨t,p,q⟩:=h;obtain⟨u,p2,q2⟩:=h2;refine⟨_,ZmW p p2,fun σ Hf H ρ s c s' Q e1 e2 e3 e4 k=>?_⟩;obtain⟨b,s1,a1,a2⟩:=ZC e4;refine q σ Hf H ρ s b s1 _ e1 e2 e3 a1 λjU H1 g1 jW=>?_
 cases b with
 | true=>exact q2 σ jU H1 ρ s1 c s' _ g1.fh (e2.ext g1.ff) jW a2 λjZ H2 g2 jT=>k jZ H2 (g1.trans g2) jT
 | false=>obtain⟨rfl,rfl⟩:=ZN a2;exact k jU H1 g1 jW
theorem Ja {a b:Expr}{rest:List Expr}{pos:Pos}{f g:Zb->M Bool}(h:XU X G a f)(h2:Wc X G (.BoolOp .Or (b::rest) pos) g):Wc X G (.BoolOp .Or (a::b::rest) pos) (WP f g):=by
 obtain⟨t,p,q⟩:=h;obtain⟨u,p2,q2⟩:=h2;refine⟨_,Zn9 p p2,fun σ Hf H ρ s c s' Q e1 e2 e3 e4 k=>?_⟩;obtain⟨b,s1,a1,a2⟩:=ZC e4;refine q σ Hf H ρ s b s1 _ e1 e2 e3 a1 λjU H1 g1 jW=>?_
 cases b with
 | true=>obtain⟨rfl,rfl⟩:=ZN a2;exact k jU H1 g1 jW
 | false=>exact q2 σ jU H1 ρ s1 c s' _ g1.fh (e2.ext g1.ff) jW a2 λjZ H2 g2 jT=>k jZ H2 (g1.trans g2) jT
noncomputable def UH (f g:Zb->M D):Zb->M D:=fun ρ=>Zp (f ρ) λd=>match d with | .bl true=>g ρ | .bl false=>Zy (.bl false) | _=>ZE
noncomputable def vOr (f g:Zb->M D):Zb->M D:=fun ρ=>Zp (f ρ) λd=>match d with | .bl true=>Zy (.bl true) | .bl false=>g ρ | _=>ZE
noncomputable def BB (f:Zb->M D):Zb->M D:=fun ρ=>Zp (f ρ) λd=>match d with | .bl b=>Zy (.bl (!b)) | _=>ZE
theorem Znj {op}{a:Expr}{pos:Pos}{fr:Bool}{f:Zb->M D}(h:PD X G fr a f):PD X G false (.BoolOp op [a] pos) f:=by
 obtain⟨t,p,q⟩:=h.weak;exact⟨t,ZmY p,q⟩
theorem Znk {a b:Expr}{rest:List Expr}{pos:Pos}{r1 r2:Bool}{f g:Zb->M D}(h:PD X G r1 a f)(h2:PD X G r2 (.BoolOp .And (b::rest) pos) g):PD X G false (.BoolOp .And (a::b::rest) pos) (UH f g):=by
 obtain⟨t,p,q⟩:=h.drop;obtain⟨u,p2,q2⟩:=h2.drop;refine⟨_,ZmZ p p2,fun σ Hf H ρ s c s' Q e1 e2 e3 e4 k=>?_⟩;obtain⟨d,s1,a1,a2⟩:=ZC e4;refine q σ Hf H ρ s d s1 _ e1 e2 e3 a1 λv jU H1 g1 jW r1=>?_
 cases d with
 | bl b=>
  cases b with
  | true=>exact⟨true,je.mp r1,V5 (q2 σ jU H1 ρ s1 c s' _ g1.fh (e2.ext g1.ff) jW a2 λv jZ H2 g2 jT r2=>k v jZ H2 (g1.trans g2) jT r2 (λz=>by cases z))⟩
  | false=>obtain⟨rfl,rfl⟩:=ZN a2;exact⟨false,je.mp r1,V4 (k _ jU H1 g1 jW (je.mpr rfl) (λz=>by cases z))⟩
 | _=>cases a2
theorem Znl {a:Expr}{pos:Pos}{r1:Bool}{f:Zb->M D}(h:PD X G r1 a f):PD X G true (.UnaryOp .Not a pos) (BB f):=by
 obtain⟨t,p,q⟩:=h.drop;refine⟨_,Zm0 p,fun σ Hf H ρ s c s' Q e1 e2 e3 e4 k=>?_⟩;obtain⟨d,s1,a1,a2⟩:=ZC e4;refine q σ Hf H ρ s d s1 _ e1 e2 e3 a1 λv jU H1 g1 jW r1=>?_
 cases d with
 | bl b=>obtain⟨rfl,rfl⟩:=ZN a2;exact⟨b,je.mp r1,k _ jU H1 g1 jW (je.mpr rfl) λ_=>.scal λz=>z⟩
 | _=>cases a2
noncomputable def BM (c:Zb->M Bool)(f g:Zb->M D):Zb->M D:=fun ρ=>Zp (c ρ) λb=>if b=true then f ρ else g ρ
theorem Zoo {c a b:Expr}{pos:Pos}{r1 r2:Bool}{fc:Zb->M Bool}{f g:Zb->M D}(hc:XU X G c fc)(ha:PD X G r1 a f)(hb:PD X G r2 b g):PD X G false (.IfExp c a b pos) (BM fc f g):=by
 obtain⟨tc,pc,qc⟩:=hc;obtain⟨ta,pa,qa⟩:=ha.drop;obtain⟨tb,pb,qb⟩:=hb.drop;refine⟨_,Zi9 pc pa pb,fun σ Hf H ρ s d s' Q e1 e2 e3 e4 k=>?_⟩;obtain⟨b,s1,a1,a2⟩:=ZC e4;refine qc σ Hf H ρ s b s1 _ e1 e2 e3 a1 λjU H1 g1 jW=>?_
 cases b with
 | true=>exact V5 (qa σ jU H1 ρ s1 d s' _ g1.fh (e2.ext g1.ff) jW a2 λv jZ H2 g2 jT r2=>k v jZ H2 (g1.trans g2) jT r2 (λz=>by cases z))
 | false=>exact V4 (qb σ jU H1 ρ s1 d s' _ g1.fh (e2.ext g1.ff) jW a2 λv jZ H2 g2 jT r2=>k v jZ H2 (g1.trans g2) jT r2 (λz=>by cases z))
noncomputable def XX (X:Cx)(G:Gh)(f:Value)(g:List D->Option D):Prop:=
 ∃r,Y6 X f r/\∀(Hf H:Hp) (s:Pn) (xs:List V) (ds:List D) (c:D) (Q:VK),Zz G Hf H->G.st s H->Zh G Hf ds xs->g ds=some c->
  (∀v Hf' H',Gr G Hf H Hf' H'->G.st s H'->Zi G Hf' c v->Z2 G H Hf' c v->Q v H')->r xs H Q
noncomputable def Zs (g:List D->Option D)(fs:Zb->M (List D)):Zb->M D:=fun ρ=>Zp (fs ρ) λds=>YV (g ds)
theorem Xq {id:String}{x:Str}{p pos:Pos}{e:Expr}{es:List Expr}{g:List D->Option D}{fs:Zb->M (List D)}(hc:XX X G (.builtin id) g)(hg:Gl X x)(hm:X.mg x=none)(hv:xj x=some (.builtin id))(ha:WO X G (e::es) fs)
  (hn:x≠"__name__":=by decide) (hdb:(x==("__debug__" : Str))=false:=by decide)
  (he:xh (e::es) X.env=(false,eval e X.env)::xh es X.env:=by rfl) (hpl:(backTo pos (xh es X.env)).any (·.1)=false:=by rfl):PD X G true (.Call (.Name x p) (e::es) [] pos) (Zs g fs):=by
 obtain⟨r,pr,qr⟩:=hc;obtain⟨t,pa,qa⟩:=ha;refine⟨_,UX pr hg hm hv pa hn hdb he hpl,fun σ Hf H ρ s d s' Q e1 e2 e3 e4 k=>?_⟩;obtain⟨ds,s1,a1,a2⟩:=ZC e4;obtain⟨a3,rfl⟩:=WV a2;refine qa σ Hf H ρ s ds _ _ e1 e2 e3 a1 λvs jU H1 g1 jW r1=>?_;exact qr jU H1 _ vs ds d Q g1.fh jW r1 a3 λv jZ H2 g2 jT r2 fz=>k v jZ H2 (g1.trans g2) jT r2 λ_=>jm g1.hh r2.nofp fz
theorem Wx {T:String}{x:Str}{p pos:Pos}{e:Expr}{es:List Expr}{g:List D->Option D}{fs:Zb->M (List D)}(hc:XX X G (.type T) g)(hg:Gl X x)(hm:X.mg x=none)(hv:xj x=some (.type T))(ha:WO X G (e::es) fs)
  (hn:x≠"__name__":=by decide) (hdb:(x==("__debug__" : Str))=false:=by decide)
  (he:xh (e::es) X.env=(false,eval e X.env)::xh es X.env:=by rfl) (hpl:(backTo pos (xh es X.env)).any (·.1)=false:=by rfl):PD X G true (.Call (.Name x p) (e::es) [] pos) (Zs g fs):=by
 obtain⟨r,pr,qr⟩:=hc;obtain⟨t,pa,qa⟩:=ha;refine⟨_,JS pr hg hm hv pa hn hdb he hpl,fun σ Hf H ρ s d s' Q e1 e2 e3 e4 k=>?_⟩;obtain⟨ds,s1,a1,a2⟩:=ZC e4;obtain⟨a3,rfl⟩:=WV a2;refine qa σ Hf H ρ s ds _ _ e1 e2 e3 a1 λvs jU H1 g1 jW r1=>?_;exact qr jU H1 _ vs ds d Q g1.fh jW r1 a3 λv jZ H2 g2 jT r2 fz=>k v jZ H2 (g1.trans g2) jT r2 λ_=>jm g1.hh r2.nofp fz
noncomputable def IxD (X:Cx)(G:Gh)(g:D->D->Option D):Prop:=
 ∃r,Uc X r/\∀(Hf H:Hp) (s:Pn) (x y:V) (d e c:D) (Q:VK),Zz G Hf H->G.st s H->Zi G Hf d x->Zi G Hf e y->g d e=some c->
  (∀v,Zi G Hf c v->Q v H)->r x y H Q
theorem ZX {a b:Expr}{pos:Pos}{fa fb:Zb->M D}{g:D->D->Option D}{r1 r2:Bool}(ho:IxD X G g)(ha:PD X G r1 a fa)(hb:PD X G r2 b fb)(hs:Zhj b:=by intro _ _;rfl):PD X G false (.Subscript a b pos) (Ze g fa fb):=by
 obtain⟨r,po,qo⟩:=ho;obtain⟨ta,pa,qa⟩:=ha.drop;obtain⟨tb,pb,qb⟩:=hb.drop;refine⟨_,WI po pa pb hs,fun σ Hf H ρ s d s' Q e1 e2 e3 e4 k=>?_⟩;obtain⟨da,s1,a1,a2⟩:=ZC e4;obtain⟨db,s2,a3,a4⟩:=ZC a2;obtain⟨a5,rfl⟩:=WV a4;refine qa σ Hf H ρ s da s1 _ e1 e2 e3 a1 λx jU H1 g1 jW r1=>?_;refine qb σ jU H1 ρ s1 db _ _ g1.fh (e2.ext g1.ff) jW a3 λy jZ H2 g2 jT r2=>?_;exact qo jZ H2 _ x y da db d Q g2.fh jT (r1.ext g2.ff) r2 a5 λv r3=>k v jZ H2 (g1.trans g2) jT r3 (λz=>by cases z)
noncomputable def Yr (n:Nat)(fr:Bool)(GG:Gh->Prop)(F:List D->M D):Sp:=λvs H Q _=>∃(G:Gh) (Hf:Hp) (ds:List D) (s:Pn) (d:D) (s':Pn),GG G/\vs.length=n/\Zz G Hf H/\Zh G Hf ds vs/\G.st s H/\F ds s=some (d,s')/\
 ∀v Hf' H',Gr G Hf H Hf' H'->G.st s' H'->Zi G Hf' d v->(fr=true->Z2 G H Hf' d v)->Q v H'
noncomputable def Zr (F:List D->M D)(fs:Zb->M (List D)):Zb->M D:=fun ρ=>Zp (fs ρ) F
theorem Zlt {CX:XT}{k:Nat}{f:Addr}{fd:xA}{ps:List Str}{n:Nat}{fr:Bool}{GG:Gh->Prop}{F:List D->M D}{E:XK}{x:Str}{p pos:Pos}{e:Expr}{es:List Expr}{fs:Zb->M (List D)}
  (FN:FnOk X.prog X.w X.K X.mg X.base CX k f fd ps (Yr n fr GG F)) (hG:GG G) (hr:Room k X.A) (hg:Gl X x) (hm:X.mg x=some (.ref f)) (hk:yK X.K (.ref f)=true) (hb:Wi X.K fd ps []) (hx:Zeo CX X E)
  (ha:WO X G (e::es) fs) (jO:(e::es).length=n:=by rfl) (hal:∀ρ s ds s',fs ρ s=some (ds,s')->ds.length=(e::es).length)
  (hdb:(x==("__debug__" : Str))=false:=by decide) (he:xh (e::es) X.env=(false,eval e X.env)::xh es X.env:=by rfl) (hpl:(backTo pos (xh es X.env)).any (·.1)=false:=by rfl) :
  PD X G fr (.Call (.Name x p) (e::es) [] pos) (Zr F fs):=by
 obtain⟨t,pa,qa⟩:=ha;refine⟨_,Zli FN hr hg hm hk hb .nil hx pa hdb he hpl,fun σ Hf H ρ s d s' Q e1 e2 e3 e4 k=>?_⟩;obtain⟨ds,s1,a1,a2⟩:=ZC e4;refine qa σ Hf H ρ s ds _ _ e1 e2 e3 a1 λvs jU H1 g1 jW r1=>?_;refine⟨G,jU,ds,s1,d,s',hG,by rw[zj,<-r1.length,hal _ _ _ _ a1];exact jO,g1.fh,by rw[zj];exact r1,jW,a2,λv jZ H2 g2 jT r2 fz=>?_⟩;exact k v jZ H2 (g1.trans g2) jT r2 λz=>jm g1.hh r2.nofp (fz z)
theorem YX {f:Zb->M D}{g:Zb->M (List D)}{n:Nat}(h:∀ρ s ds s',g ρ s=some (ds,s')->ds.length=n):∀ρ s ds s',Zc f g ρ s=some (ds,s')->ds.length=n+1:=fun ρ s ds s' q=>by
 obtain⟨d,s1,a1,a2⟩:=ZC q;obtain⟨r,s2,a3,a4⟩:=ZC a2;obtain⟨rfl,rfl⟩:=ZN a4;simp[h _ _ _ _ a3]
theorem VT:∀ρ s ds s',Zd ρ s=some (ds,s')->ds.length=0:=fun ρ s ds s' q=>by
 obtain⟨rfl,rfl⟩:=ZN q;rfl
end
mutual
noncomputable def X8:D->Bool
 | .tup ds=>Jb ds
 | .lst _=>false
 | .dk _=>false
 | .dt _=>false
 | .du _=>false
 | .df _=>false
 | .clo _ _=>false
 | _=>true
noncomputable def Jb:List D->Bool
 | []=>true
 | d::ds=>X8 d&&Jb ds
end
mutual
theorem Zi.only {G:Gh}{H H':Hp}(e:∀b vs,¬G.fp b->H b=some (.tup vs)->H' b=some (.tup vs)):∀{d:D} {v:V},X8 d=true->Zi G H d v->Zi G H' d v
 | .non,_,_,h=>h
 | .bl _,_,_,h=>h
 | .int _,_,_,h=>h
 | .str _,_,_,h=>h
 | .tup ds,v,n,h=>by
  obtain⟨a,vs,e1,nf,e2,r⟩:=jc.mp h;exact jc.mpr ⟨a,vs,e1,nf,e _ _ nf e2,Zh.only e (by simpa[X8]using n) r⟩
 | .lst ds,v,n,h=>by simp[X8]at n
 | .dk kvs,v,n,h=>by simp[X8]at n
 | .dt kvs,v,n,h=>by simp[X8]at n
 | .du kvs,v,n,h=>by simp[X8]at n
 | .df kvs,v,n,h=>by simp[X8]at n
 | .pen,_,_,h=>h
 | .ty _,_,_,h=>h
 | .clo _ _,v,n,h=>by simp[X8]at n
theorem Zh.only {G:Gh}{H H':Hp}(e:∀b vs,¬G.fp b->H b=some (.tup vs)->H' b=some (.tup vs)):∀{ds:List D} {vs:List V},Jb ds=true->Zh G H ds vs->Zh G H' ds vs
 | [],_,_,h=>h
 | d::ds,vs,n,h=>by
  obtain⟨v,r,e1,r1,r2⟩:=jd.mp h;have n':X8 d=true/\Jb ds=true:=by simpa[Jb]using n
  exact jd.mpr ⟨v,r,e1,Zi.only e n'.1 r1,Zh.only e n'.2 r2⟩
end
noncomputable def VA (G:Gh)(Hf H:Hp)(a:Addr):D->Prop
 | .lst ds=>∃vs,H a=some (.lst vs)/\Zh G Hf ds vs
 | .dk kvs=>H a=some (.dK kvs)
 | .dt kvs=>∃o,H a=some (.frz o (.dT kvs))
 | .du kvs=>H a=some (.dT kvs)
 | _=>False
theorem VA.there {G:Gh}{Hf H:Hp}{a:Addr}{d:D}(h:VA G Hf H a d):∃o,H a=some o/\∀vs,o≠.tup vs:=by
 cases d with
 | lst ds=>obtain⟨vs,e,_⟩:=h;exact⟨_,e,λ_ z=>by cases z⟩
 | dk kvs=>exact⟨_,h,λ_ z=>by cases z⟩
 | dt kvs=>obtain⟨o,h⟩:=h;exact⟨_,h,λ_ z=>by cases z⟩
 | du kvs=>exact⟨_,h,λ_ z=>by cases z⟩
 | _=>exact h.elim
theorem VA.keep {G:Gh}{Hf H Hf' H':Hp}{a:Addr}{d:D}(h:VA G Hf H a d)(e:Zz G Hf Hf')(ha:∀o,H a=some o->H' a=some o):VA G Hf' H' a d:=by
 cases d with
 | lst ds=>obtain⟨vs,q,r⟩:=h;exact⟨vs,ha _ q,r.ext e⟩
 | dk kvs=>exact ha _ h
 | dt kvs=>obtain⟨o,h⟩:=h;exact⟨o,ha _ h⟩
 | du kvs=>exact ha _ h
 | _=>exact h.elim
theorem VA.rep {G:Gh}{Hf H Hf':Hp}{a:Addr}{d:D}(h:VA G Hf H a d)(nf:¬G.fp a)(e:Zz G Hf Hf')(ha:∀o,H a=some o->Hf' a=some o):Zi G Hf' d (.ref a):=by
 cases d with
 | lst ds=>obtain⟨vs,q,r⟩:=h;exact jb.mpr ⟨a,vs,rfl,nf,ha _ q,r.ext e⟩
 | dk kvs=>exact jj.mpr ⟨a,rfl,nf,ha _ h⟩
 | dt kvs=>obtain⟨o,h⟩:=h;exact jk.mpr ⟨a,o,rfl,nf,ha _ h⟩
 | du kvs=>exact jl.mpr ⟨a,rfl,nf,ha _ h⟩
 | _=>exact h.elim
structure Jf (G:Gh)(own:List Nat)(kn jR H0:Hp)(σ:St)(Hf H:Hp)(ρ:Zb):Prop where
 len:σ.length=ρ.length
 kn:Zz G kn Hf
 gr:Gr G jR H0 Hf H
 fz:∀(i:Nat) (d:D),i∉own->ρ[i]?=some (some d)->∃v,σ[i]?=some (some v)/\Zi G Hf d v
 ow:∀(i:Nat) (d:D),i∈own->ρ[i]?=some (some d)->∃a,σ[i]?=some (some (.ref a))/\¬G.rd a/\Hf a=none/\H0 a=none/\VA G Hf H a d
 ne:∀(i j:Nat) (a:Addr) (di dj:D),i∈own->j∈own->i≠j->ρ[i]?=some (some di)->ρ[j]?=some (some dj)->σ[i]?=some (some (.ref a))->σ[j]?=some (some (.ref a))->False
noncomputable def J (G:Gh)(own:List Nat)(kn jR H0:Hp)(σ:St)(H:Hp)(ρ:Zb):Prop:=∃Hf,Jf G own kn jR H0 σ Hf H ρ
noncomputable def ZG (own:List Nat)(ρ:Zb):Zb:=ρ.mapIdx λi o=>if i∈own then none else o
theorem ZcO (ρ:Zb):ZG [] ρ=ρ:=by
 unfold ZG;apply qap;intro i;simp
theorem Zjw {own:List Nat}{ρ:Zb}{i:Nat}{d:D}(h:(ZG own ρ)[i]?=some (some d)):i∉own/\ρ[i]?=some (some d):=by
 unfold ZG at h;rw[List.getElem?_mapIdx]at h
 cases e:ρ[i]? with
 | none=>rw[e]at h;cases h
 | some o=>
  rw[e]at h;simp only[ye,qb8]at h;split at h
  ·cases h
  ·rename_i hn;exact⟨hn,by rw[h]⟩
section
variable {X:Cx}{G:Gh}{own:List Nat}{kn jR H0 Hf H:Hp}{σ:St}{ρ:Zb}
theorem Jf.envA (j:Jf G own kn jR H0 σ Hf H ρ):YF G Hf σ (ZG own ρ):=λi d e=>by
 obtain⟨n,q⟩:=Zjw e;exact j.fz i d n q
theorem ju {G:Gh}{a:Addr}(h:¬G.rd a):¬G.fp a:=λz=>h (G.sub a z)
theorem Jf.grow {Hf' H':Hp}(j:Jf G own kn jR H0 σ Hf H ρ)(g:Gr G Hf H Hf' H'):Jf G own kn jR H0 σ Hf' H' ρ where
 len:=j.len
 kn:=j.kn.trans g.ff
 gr:=j.gr.trans g
 fz:=λi d n e=>let ⟨v,a,b⟩:=j.fz i d n e;⟨v,a,b.ext g.ff⟩
 ow:=λi d m e=>by
  obtain⟨a,h1,h2,h3,h4,h5⟩:=j.ow i d m e;have nf:=ju h2;refine⟨a,h1,h2,?_,h4,h5.keep g.ff λo q=>g.hh a o nf q⟩;exact g.nw a nf h3 h5.there
 ne:=j.ne
noncomputable def Vo (jR H0 H:Hp):Hp:=λb=>open Classical in if jR b=none/\Nt (H0 b)then none else H b
theorem Um {jR H0 H:Hp}:Zz G (Vo jR H0 H) H:=λb o _ e=>by
 unfold Vo at e;split at e
 ·cases e
 ·exact e
theorem Jf.wideF (j:Jf G own kn jR H0 σ Hf H ρ):Zz G Hf (Vo jR H0 H):=λb o n e=>by
 unfold Vo;split
 ·rename_i h
  rw[j.gr.nw b n h.1 h.2]at e;cases e
 ·exact j.gr.fh b o n e
theorem Jf.envB (j:Jf G own kn jR H0 σ Hf H ρ):YF G (Vo jR H0 H) σ ρ:=λi d e=>by
 by_cases m:i∈own
 ·obtain⟨a,h1,h2,h3,h4,h5⟩:=j.ow i d m e
  refine⟨_,h1,h5.rep (ju h2) j.wideF λo q=>?_⟩;unfold Vo;rw[if_neg (λz=>z.2.no h4)];exact q
 ·obtain⟨v,h1,h2⟩:=j.fz i d m e
  exact⟨v,h1,h2.ext j.wideF⟩
theorem Jf.grW {Hf' H':Hp}(j:Jf G own kn jR H0 σ Hf H ρ)(g:Gr G (Vo jR H0 H) H Hf' H'):Gr G jR H0 Hf' H' where
 hh:=j.gr.hh.trans g.hh
 ff:=λb o n e=>g.ff b o n (j.wideF b o n (j.gr.ff b o n e))
 fh:=g.fh
 nw:=λb n h1 h2=>g.nw b n (by unfold Vo;rw[if_pos ⟨h1,h2⟩]) (let ⟨u,e,nt⟩:=h2;⟨u,j.gr.hh b u n e,nt⟩)
noncomputable def BN:D->Bool
 | .lst ds=>Jb ds
 | .dk _=>true
 | .dt _=>true
 | .du _=>true
 | _=>false
theorem Zlu {d:D}(h:BN d=true):VZ d:=by
 cases d <;> first | trivial | (simp[BN]at h)
theorem Jf.growB {Hf' H':Hp}(j:Jf G own kn jR H0 σ Hf H ρ)(g:Gr G (Vo jR H0 H) H Hf' H') :
  ∃Hf'',Jf G own kn jR H0 σ Hf'' H' ρ/\Zz G Hf Hf''/\(∀d v,X8 d=true->Zi G Hf' d v->Zi G Hf'' d v)/\∀d v,BN d=true->Z2 G H Hf' d v->Zi G Hf' d v->Zi G Hf'' d v/\Z2 G H Hf'' d v:=by
 classical
 -- the owned addresses are left out again
 let OA:Addr->Prop:=λb=>∃i d,i∈own/\ρ[i]?=some (some d)/\σ[i]?=some (some (.ref b))
 have oaH:∀b,OA b->Hf b=none/\¬G.rd b/\∃o,H b=some o/\∀vs,o≠.tup vs:=λb ⟨i,d,m,e,q⟩=>by
  obtain⟨a,h1,h2,h3,h4,h5⟩:=j.ow i d m e;rw[q]at h1;cases h1;exact⟨h3,h2,h5.there⟩
 have W:=j.grW g;refine⟨λb=>if OA b then none else Hf' b,?_⟩;have fF:Zz G Hf (λb=>if OA b then none else Hf' b):=λb o n e=>by
  have:¬OA b:=λz=>by rw[(oaH b z).1]at e;cases e
  show(if OA b then none else Hf' b)=_;rw[if_neg this];exact g.ff b o n (j.wideF b o n e)
 have Fh:Zz G (λb=>if OA b then none else Hf' b) H':=λb o n e=>by
  have e':(if OA b then none else Hf' b)=some o:=e;split at e'
  ·cases e'
  ·exact g.fh b o n e'
 have tupK:∀b vs,¬G.fp b->Hf' b=some (.tup vs)->(if OA b then none else Hf' b)=some (.tup vs):=λb vs nf e=>by
  have:¬OA b:=λz=>by
   obtain⟨_,_,o,q,nt⟩:=oaH b z;have q1:=g.hh b o nf q;have q2:=g.fh b _ nf e;rw[q1]at q2;exact nt vs (zw q2)
  rw[if_neg this];exact e
 have frK:∀a,H a=none->¬OA a:=λa e z=>by
  obtain⟨_,_,o,q,nt⟩:=oaH a z;rw[e]at q;cases q
 refine⟨⟨j.len,j.kn.trans fF,⟨W.hh,j.gr.ff.trans fF,Fh,λb n h1 h2=>?_⟩,λi d n e=>?_,λi d m e=>?_,j.ne⟩,fF,λd v n r=>Zi.only tupK n r,λd v ok fr r=>?_⟩
 ·show(if OA b then none else Hf' b)=none
  split
  ·rfl
  ·exact W.nw b n h1 h2
 ·obtain⟨v,a,b⟩:=j.fz i d n e
  exact⟨v,a,b.ext fF⟩
 ·obtain⟨a,h1,h2,h3,h4,h5⟩:=j.ow i d m e
  refine⟨a,h1,h2,?_,h4,h5.keep fF λo q=>g.hh a o (ju h2) q⟩;show(if OA a then none else Hf' a)=none;rw[if_pos ⟨i,d,m,e,h1⟩]
 ·cases d with
  | lst ds=>
   obtain⟨a,vs,e,n,q,r'⟩:=jb.mp r;have na:=frK a (fr a e trivial).1;have ea:(if OA a then none else Hf' a)=some (.lst vs):=by rw[if_neg na];exact q
   refine⟨jb.mpr ⟨a,vs,e,n,ea,Zh.only tupK ok r'⟩,λb eb m=>?_⟩;rw[e]at eb;cases eb;refine⟨(fr a e trivial).1,λds' ed=>?_⟩
   cases ed
   refine⟨vs,λb=>if b=a then none else if OA b then none else Hf' b,ea,if_pos rfl,λb o nb eb=>?_,?_⟩
   ·have eb':(if b=a then none else if OA b then none else Hf' b)=some o:=eb
    split at eb'
    ·cases eb'
    ·exact eb'
   ·refine Zh.only (λb ws nb eb=>?_) ok r'
    have hba:b≠a:=λz=>by rw[z,q]at eb;cases eb
    show(if b=a then none else if OA b then none else Hf' b)=_;rw[if_neg hba];exact tupK b ws nb eb
  | dk ds=>
   obtain⟨a,e,n,q⟩:=jj.mp r;have na:=frK a (fr a e trivial).1;refine⟨jj.mpr ⟨a,e,n,?_⟩,λb eb m=>⟨(fr b eb m).1,λds' ed=>by cases ed⟩⟩;show(if OA a then none else Hf' a)=_;rw[if_neg na];exact q
  | dt ds=>
   obtain⟨a,o,e,n,q⟩:=jk.mp r;have na:=frK a (fr a e trivial).1;refine⟨jk.mpr ⟨a,o,e,n,?_⟩,λb eb m=>⟨(fr b eb m).1,λds' ed=>by cases ed⟩⟩;show(if OA a then none else Hf' a)=_;rw[if_neg na];exact q
  | du ds=>
   obtain⟨a,e,n,q⟩:=jl.mp r;have na:=frK a (fr a e trivial).1;refine⟨jl.mpr ⟨a,e,n,?_⟩,λb eb m=>⟨(fr b eb m).1,λds' ed=>by cases ed⟩⟩;show(if OA a then none else Hf' a)=_;rw[if_neg na];exact q
  | _=>exact absurd (Zlu ok) (λz=>z)
theorem Jf.set {i:Nat}{d:D}{v:V}{own':List Nat}(j:Jf G own kn jR H0 σ Hf H ρ)(ho:∀k,k∈own'->k≠i/\k∈own)(hk:∀k,k∈own->k≠i->k∈own')(r:Zi G Hf d v):Jf G own' kn jR H0 (σ.set i (some v)) Hf H (ρ.set i (some d)) where
 len:=by simp[j.len]
 kn:=j.kn
 gr:=j.gr
 fz:=λk c n e=>by
  by_cases h:i=k
  ·subst h
   have hl:i < ρ.length:=by
    have:=(qw.mp e).1;simpa using this
   rw[zB hl]at e
   cases e
   exact⟨v,zB (by rw[j.len];exact hl),r⟩
  ·rw[za h]at e⊢
   exact j.fz k c (λz=>n (hk k z (zH h))) e
 ow:=λk c m e=>by
  have h:i≠k:=zH (ho k m).1;rw[za h]at e⊢;exact j.ow k c (ho k m).2 e
 ne:=λk l a dk dl mk ml n ek el sk sl=>by
  have h:i≠k:=zH (ho k mk).1;have h':i≠l:=zH (ho l ml).1;rw[za h]at ek sk;rw[za h']at el sl;exact j.ne k l a dk dl (ho k mk).2 (ho l ml).2 n ek el sk sl
noncomputable def Uy:D->Bool
 | .lst _=>true
 | .dk _=>true
 | .dt _=>true
 | .du _=>true
 | _=>false
theorem Zgm {d:D}(h:Uy d=true):VZ d:=by
 cases d <;> first | trivial | (simp[Uy]at h)
theorem Jf.setOwn {i:Nat}{d:D}{v:V}{Hb Hq:Hp}{s:Pn}{own':List Nat}(j0:Jf G own kn jR H0 σ Hq Hb ρ)(j:Jf G own kn jR H0 σ Hf H ρ)(ho:∀k,k∈own'↔k=i∨k∈own)(st:G.st s Hb)(hb:Zz G Hb H)(hq:Zz G Hq Hf)
  (r:Zi G Hf d v) (fr:Z2 G Hb Hf d v) (ok:Uy d=true):∃Hf',Jf G own' kn jR H0 (σ.set i (some v)) Hf' H (ρ.set i (some d)):=by
 classical
 have mu:=Zgm ok;obtain⟨a,ea,nfa⟩:∃a,v=.ref a/\¬G.fp a:=by
  cases d with
  | lst ds=>obtain⟨a,vs,e,n,_⟩:=jb.mp r;exact⟨a,e,n⟩
  | dk ds=>obtain⟨a,e,n,_⟩:=jj.mp r;exact⟨a,e,n⟩
  | dt ds=>obtain⟨a,_,e,n,_⟩:=jk.mp r;exact⟨a,e,n⟩
  | du ds=>obtain⟨a,e,n,_⟩:=jl.mp r;exact⟨a,e,n⟩
  | _=>exact mu.elim
 subst ea;have fra:Hb a=none:=(fr a rfl mu).1;have hqa:Hq a=none:=by
  cases e:Hq a with
  | none=>rfl
  | some o=>rw[j0.gr.fh a o nfa e]at fra;cases fra
 have h0a:H0 a=none:=by
  cases e:H0 a with
  | none=>rfl
  | some o=>rw[j0.gr.hh a o nfa e]at fra;cases fra
 have qF:Zz G Hq (λb=>if b=a then none else Hf b):=λb o n e=>by
  have:b≠a:=λz=>by rw[z,hqa]at e;cases e
  show(if b=a then none else Hf b)=_;rw[if_neg this];exact hq b o n e
 have oldA:∀k c,k∈own->ρ[k]?=some (some c)->σ[k]?≠some (some (.ref a)):=λk c m e z=>by
  obtain⟨b,h1,_,_,_,h5⟩:=j0.ow k c m e;rw[z]at h1;cases h1;obtain⟨o,q,_⟩:=h5.there;rw[fra]at q;cases q
 refine⟨λb=>if b=a then none else Hf b,by simp[j.len],j0.kn.trans qF,⟨j.gr.hh,j0.gr.ff.trans qF,λb o n e=>?_,λb n h1 h2=>?_⟩,λk c n e=>?_,λk c m e=>?_,λk l b dk dl mk ml n ek el sk sl=>?_⟩
 ·have e':(if b=a then none else Hf b)=some o:=e
  split at e'
  ·cases e'
  ·exact j.gr.fh b o n e'
 ·show(if b=a then none else Hf b)=none
  split
  ·rfl
  ·exact j.gr.nw b n h1 h2
 ·have h:i≠k:=λz=>n ((ho k).mpr (.inl z.symm))
  rw[za h]at e⊢;obtain⟨v,q1,q2⟩:=j0.fz k c (λz=>n ((ho k).mpr (.inr z))) e;exact⟨v,q1,q2.ext qF⟩
 ·by_cases h:i=k
  ·subst h
   have hl:i < ρ.length:=by
    have:=(qw.mp e).1;simpa using this
   rw[zB hl]at e
   cases e
   refine⟨a,zB (by rw[j.len];exact hl),jC st fra,by show(if a=a then none else Hf a)=none;rw[if_pos rfl],h0a,?_⟩
   cases d with
   | lst ds=>
    obtain⟨a',vs,e',n',q',r'⟩:=jb.mp r
    cases e'
    obtain⟨ws,Hm,f1,f2,f3,f4⟩:=(fr a rfl mu).2 ds rfl;rw[q']at f1;cases f1;refine⟨vs,j.gr.fh a _ n' q',f4.ext λb o nb eb=>?_⟩;have:b≠a:=λz=>by rw[z,f2]at eb;cases eb
    show(if b=a then none else Hf b)=_;rw[if_neg this];exact f3 b o nb eb
   | dk ds=>obtain⟨a',e',n',q'⟩:=jj.mp r;cases e';exact j.gr.fh a _ n' q'
   | dt ds=>obtain⟨a',o',e',n',q'⟩:=jk.mp r;cases e';exact⟨o',j.gr.fh a _ n' q'⟩
   | du ds=>obtain⟨a',e',n',q'⟩:=jl.mp r;cases e';exact j.gr.fh a _ n' q'
   | _=>exact mu.elim
  ·have m':k∈own:=((ho k).mp m).resolve_left (zH h)
   rw[za h]at e⊢;obtain⟨b,h1,h2,h3,h4,h5⟩:=j0.ow k c m' e;obtain⟨b',g1,g2,g3,g4,g5⟩:=j.ow k c m' e;rw[h1]at g1;cases g1;refine⟨b,h1,h2,?_,h4,h5.keep qF λo q=>hb b o (ju h2) q⟩;show(if b=a then none else Hf b)=none;split
   ·rfl
   ·exact g3
 ·by_cases hk:i=k
  ·subst hk
   have h':i≠l:=n;have hl:i < σ.length:=by
    have:=(qw.mp sk).1;simpa using this
   rw[zB hl]at sk
   cases sk
   rw[za h']at el sl;exact oldA l dl (((ho l).mp ml).resolve_left (zH h')) el sl
  ·by_cases hl':i=l
   ·subst hl'
    have hl:i < σ.length:=by
     have:=(qw.mp sl).1;simpa using this
    rw[zB hl]at sl
    cases sl
    rw[za hk]at ek sk;exact oldA k dk (((ho k).mp mk).resolve_left (zH hk)) ek sk
   ·rw[za hk]at ek sk
    rw[za hl']at el sl;exact j.ne k l b dk dl (((ho k).mp mk).resolve_left (zH hk)) (((ho l).mp ml).resolve_left (zH hl')) n ek el sk sl
theorem Jf.freeze {own':List Nat}(j:Jf G own kn jR H0 σ Hf H ρ)(ho:∀k,k∈own'->k∈own):∃Hf',Jf G own' kn jR H0 σ Hf' H ρ:=by
 classical
 let OA:Addr->Prop:=λb=>∃i d,i∈own/\i∉own'/\ρ[i]?=some (some d)/\σ[i]?=some (some (.ref b))
 have oaH:∀b,OA b->Hf b=none/\H0 b=none:=λb ⟨i,d,m,_,e,q⟩=>by
  obtain⟨a,h1,h2,h3,h4,h5⟩:=j.ow i d m e;rw[q]at h1;cases h1;exact⟨h3,h4⟩
 have fF:Zz G Hf (λb=>if OA b then H b else Hf b):=λb o n e=>by
  have:¬OA b:=λz=>by rw[(oaH b z).1]at e;cases e
  show(if OA b then H b else Hf b)=_;rw[if_neg this];exact e
 refine⟨λb=>if OA b then H b else Hf b,j.len,j.kn.trans fF,⟨j.gr.hh,j.gr.ff.trans fF,λb o n e=>?_,λb n h1 h2=>?_⟩,λk c n e=>?_,λk c m e=>?_,λk l b dk dl mk ml=>j.ne k l b dk dl (ho k mk) (ho l ml)⟩
 ·have e':(if OA b then H b else Hf b)=some o:=e
  split at e'
  ·exact e'
  ·exact j.gr.fh b o n e'
 ·have:¬OA b:=λz=>h2.no (oaH b z).2
  show(if OA b then H b else Hf b)=none;rw[if_neg this];exact j.gr.nw b n h1 h2
 ·by_cases m:k∈own
  ·obtain⟨a,h1,h2,h3,h4,h5⟩:=j.ow k c m e
   refine⟨_,h1,h5.rep (ju h2) fF λo q=>?_⟩;show(if OA a then H a else Hf a)=_;rw[if_pos ⟨k,c,m,n,e,h1⟩];exact q
  ·obtain⟨v,h1,h2⟩:=j.fz k c m e
   exact⟨v,h1,h2.ext fF⟩
 ·obtain⟨a,h1,h2,h3,h4,h5⟩:=j.ow k c (ho k m) e
  refine⟨a,h1,h2,?_,h4,h5.keep fF λo q=>q⟩;have:¬OA a:=λ⟨i,d,mi,ni,ei,qi⟩=>j.ne i k a d c mi (ho k m) (λz=>ni (z▸m)) ei e qi h1;show(if OA a then H a else Hf a)=none;rw[if_neg this];exact h3
end
theorem Jf.setF {G:Gh}{own:List Nat}{kn jR H0 Hf H:Hp}{σ:St}{ρ:Zb}{i:Nat}{d:D}{v:V}(j:Jf G own kn jR H0 σ Hf H ρ)(hi:i∉own)(r:Zi G Hf d v):Jf G own kn jR H0 (σ.set i (some v)) Hf H (ρ.set i (some d)):=
 j.set (own':=own) (λk m=>⟨λz=>hi (by rw[<-z];exact m),m⟩) (λk m _=>m) r
noncomputable def Ws (G:Gh)(fr:Bool)(t:TE)(f:Zb->M D):Prop:=
 ∀(σ:St) (Hf H:Hp) (ρ:Zb) (s:Pn) (d:D) (s':Pn) (Q:VK),Zz G Hf H->YF G Hf σ ρ->G.st s H->f ρ s=some (d,s')->
  (∀v Hf' H',Gr G Hf H Hf' H'->G.st s' H'->Zi G Hf' d v->(fr=true->Z2 G H Hf' d v)->Q v H')->t σ H Q
noncomputable def VH (G:Gh)(own:List Nat)(fr:Bool)(t:TE)(f:Zb->M D):Prop:=
 ∀(kn jR H0:Hp) (σ:St) (Hf H:Hp) (ρ:Zb) (s:Pn) (d:D) (s':Pn) (Q:VK),Jf G own kn jR H0 σ Hf H ρ->G.st s H->f ρ s=some (d,s')->
  (∀v Hf' H',Jf G own kn jR H0 σ Hf' H' ρ->Zz G Hf Hf'->Zz G H H'->G.st s' H'->Zi G Hf' d v->(fr=true->Z2 G H Hf' d v)->Q v H')->t σ H Q
section
variable {X:Cx}{G:Gh}{own:List Nat}{fr:Bool}{t:TE}{f:Zb->M D}
theorem Ws.a (h:Ws G fr t f):VH G own fr t (fun ρ=>f (ZG own ρ)):=λkn jR H0 σ Hf H ρ s d s' Q j st e k=>
 h σ Hf H (ZG own ρ) s d s' Q j.gr.fh j.envA st e λv Hf' H' g st' r fz=>k v Hf' H' (j.grow g) g.ff g.hh st' r fz
theorem Ws.n (h:Ws G fr t f):VH G [] fr t f:=λkn jR H0 σ Hf H ρ s d s' Q j st e k=>
 h.a kn jR H0 σ Hf H ρ s d s' Q j st (by show f (ZG [] ρ) s=_;rw[ZcO];exact e) k
theorem Zh8 {d:D}(h:X8 d=true):¬VZ d:=by
 cases d <;> first | exact(λz=>z) | (simp[X8]at h)
noncomputable def chk (fr:Bool)(f:Zb->M D):Zb->M D:=fun ρ=>Zp (f ρ) λd=>if (X8 d||(fr&&BN d))=true then Zy d else ZE
theorem Ws.b (h:Ws G fr t f):VH G own fr t (chk fr f):=λkn jR H0 σ Hf H ρ s d s' Q j st e k=>by
 obtain⟨d1,s1,a1,a2⟩:=ZC e;obtain⟨c,a3⟩:=Xc a2;obtain⟨rfl,rfl⟩:=ZN a3;refine h σ _ H ρ s d s' Q Um j.envB st a1 λv Hf' H' g st' r fz=>?_;obtain⟨F,j',fF,q1,q2⟩:=j.growB g;rcases qc5.mp c with c | c
 ·exact k v F H' j' fF g.hh st' (q1 d v c r) λz a ea m=>absurd m (Zh8 c)
 ·obtain⟨c1,c2⟩:=qas.mp c
  obtain⟨x1,x2⟩:=q2 d v c2 (fz c1) r;exact k v F H' j' fF g.hh st' x1 λ_=>x2
inductive Out where
 | nx (ρ:Zb) | rt (d:D) | bk (ρ:Zb) | ct (ρ:Zb)
noncomputable def Post (G:Gh)(ob own':List Nat)(kn jR H0:Hp)(fr:Bool)(out:Out)(s':Pn)(E:Ends):Prop:=match out with
 | .nx ρ=>∀σ H,J G own' kn jR H0 σ H ρ->G.st s' H->E.nx σ H
 | .bk ρ=>∀σ H,J G ob kn jR H0 σ H ρ->G.st s' H->E.bk σ H
 | .ct ρ=>∀σ H,J G ob kn jR H0 σ H ρ->G.st s' H->E.ct σ H
 | .rt d=>∀v Hf' H',Gr G jR H0 Hf' H'->G.st s' H'->Zi G Hf' d v->(fr=true->Z2 G H0 Hf' d v)->E.rt v H'
noncomputable def BO (G:Gh)(ob own own':List Nat)(fr:Bool)(t:TS)(g:Zb->M Out):Prop:=
 ∀(kn jR H0:Hp) (σ:St) (H:Hp) (ρ:Zb) (s:Pn) (out:Out) (s':Pn) (E:Ends),J G own kn jR H0 σ H ρ->G.st s H->g ρ s=some (out,s')->Post G ob own' kn jR H0 fr out s' E->t E σ H
noncomputable def YH (X:Cx)(G:Gh)(ob own own':List Nat)(fr:Bool)(st:Stmt)(g:Zb->M Out):Prop:=∃t,PS X st t/\BO G ob own own' fr t g
noncomputable def X0 (X:Cx)(G:Gh)(ob own own':List Nat)(fr:Bool)(sts:List Stmt)(g:Zb->M Out):Prop:=∃t,Wb X sts t/\BO G ob own own' fr t g
variable {ob own' own2:List Nat}
theorem YH.frz {st:Stmt}{g:Zb->M Out}(h:YH X G ob own2 own' fr st g)(hs:∀k,k∈own2->k∈own:=by decide):YH X G ob own own' fr st g:=by
 obtain⟨t,p,q⟩:=h;exact⟨t,p,λkn jR H0 σ H ρ s out s' E ⟨Hf,j⟩ st e po=>q kn jR H0 σ H ρ s out s' E (j.freeze hs) st e po⟩
noncomputable def Zk:Zb->M Out:=fun ρ=>Zy (.nx ρ)
noncomputable def Zf (g1 g2:Zb->M Out):Zb->M Out:=fun ρ=>Zp (g1 ρ) λo=>match o with | .nx ρ'=>g2 ρ' | .rt d=>Zy (.rt d) | .bk ρ'=>Zy (.bk ρ') | .ct ρ'=>Zy (.ct ρ')
theorem Yc (hs:∀k,k∈own'->k∈own:=by decide):X0 X G ob own own' fr [] Zk:=⟨_,Zel,λkn jR H0 σ H ρ s out s' E ⟨Hf,j⟩ st e p=>by
 obtain⟨rfl,rfl⟩:=ZN e;exact p σ H (j.freeze hs) st⟩
theorem ZU {st:Stmt}{sts:List Stmt}{g1 g2:Zb->M Out}(h:YH X G ob own own2 fr st g1)(h2:X0 X G ob own2 own' fr sts g2):X0 X G ob own own' fr (st::sts) (Zf g1 g2):=by
 obtain⟨t,p,q⟩:=h;obtain⟨u,p2,q2⟩:=h2;refine⟨_,Vt p p2,λkn jR H0 σ H ρ s out s' E j st e po=>?_⟩;obtain⟨o,s1,a1,a2⟩:=ZC e;refine q kn jR H0 σ H ρ s o s1 _ j st a1 ?_
 cases o with
 | nx ρ1=>exact fun σ1 H1 j1 jW=>q2 kn jR H0 σ1 H1 ρ1 s1 out s' E j1 jW a2 po
 | rt d=>obtain⟨rfl,rfl⟩:=ZN a2;exact po
 | bk ρ1=>obtain⟨rfl,rfl⟩:=ZN a2;exact po
 | ct ρ1=>obtain⟨rfl,rfl⟩:=ZN a2;exact po
noncomputable def ZL (f:Zb->M D):Zb->M Out:=fun ρ=>Zp (f ρ) λd=>Zy (.rt d)
theorem Yw {e:Expr}{pos:Pos}(h:PD X G fr e f):YH X G ob own own' fr (.Return (some e) pos) (ZL f):=by
 obtain⟨t,p,q⟩:=h;refine⟨_,Zgb p,λkn jR H0 σ H ρ s out s' E ⟨Hf,j⟩ st e po=>?_⟩;obtain⟨d,s1,a1,a2⟩:=ZC e;obtain⟨rfl,rfl⟩:=ZN a2;exact q σ _ H ρ s d s' _ Um j.envB st a1 λv Hf' H' g st' r fz=>po v Hf' H' (j.grW g) st' r λz=>jm j.gr.hh r.nofp (fz z)
theorem ZcP {i:Nat}{x:Str}{pos pos':Pos}(hi:i∈own)(h:PE X (.Name x pos') (Yx i)):YH X G ob own own' true (.Return (some (.Name x pos')) pos) (ZL (Za i)):=by
 refine⟨_,Zgb h,λkn jR H0 σ H ρ s out s' E ⟨Hf,j⟩ st e po=>?_⟩;obtain⟨d,s1,a1,a2⟩:=ZC e;obtain⟨rfl,rfl⟩:=ZN a2;obtain⟨e1,rfl⟩:=WV a1;have e':ρ[i]?=some (some d):=by
  cases q:ρ[i]? with
  | none=>rw[q]at e1;cases e1
  | some o=>rw[q]at e1;simp at e1;rw[e1]
 obtain⟨v,h1,h2⟩:=j.envB i d e';obtain⟨a,g1,g2,g3,g4,g5⟩:=j.ow i d hi e';rw[g1]at h1;cases h1;refine⟨_,g1,po (.ref a) _ H (j.grW (.refl Um)) st h2 λ_ b eb _=>?_⟩
 cases eb
 refine⟨g4,λds ed=>?_⟩;subst ed;obtain⟨vs,q1,q2⟩:=g5;refine⟨vs,Hf,?_,g3,j.wideF,q2⟩;unfold Vo;rw[if_neg (λz=>z.2.no g4)];exact q1
noncomputable def Yu (c:Zb->M Bool)(g1 g2:Zb->M Out):Zb->M Out:=fun ρ=>Zp (c ρ) λb=>if b=true then g1 ρ else g2 ρ
theorem Zet {c:Expr}{a b:List Stmt}{pos:Pos}{fc:Zb->M Bool}{g1 g2:Zb->M Out}(hc:XU X G c fc)(ha:X0 X G ob own own' fr a g1)(hb:X0 X G ob own own' fr b g2):YH X G ob own own' fr (.If c a b pos) (Yu fc g1 g2):=by
 obtain⟨tc,pc,qc⟩:=hc;obtain⟨ta,pa,qa⟩:=ha;obtain⟨tb,pb,qb⟩:=hb;refine⟨_,Zhe pc pa pb,λkn jR H0 σ H ρ s out s' E ⟨Hf,j⟩ st e po=>?_⟩;obtain⟨b,s1,a1,a2⟩:=ZC e;refine qc σ _ H ρ s b s1 _ Um j.envB st a1 λHf' H' g st'=>?_;obtain⟨F,j',fF,q1,q2⟩:=j.growB g
 cases b with
 | true=>exact V5 (qa kn jR H0 σ H' ρ s1 out s' E ⟨F,j'⟩ st' a2 po)
 | false=>exact V4 (qb kn jR H0 σ H' ρ s1 out s' E ⟨F,j'⟩ st' a2 po)
noncomputable def Jw (X:Cx)(G:Gh)(fr:Bool)(i:Nat)(st:Stmt)(f:Zb->M D):Prop:=∃te,PS X st (λE σ H=>te σ H λy H1=>E.nx (σ.set i (some y)) H1)/\Ws G fr te f
theorem Yi {i:Nat}{x:Str}{e:Expr}{pos pos':Pos}(hN:X.N.Nodup)(hi:X.N[i]?=some x)(hx:W6 X.env.scope x)(he:PD X G fr e f)(hs:xr e (some (.Name x pos')) pos.line X.env=pure false:=by rfl)
  (hf:X.fn x=true∨X.env.scope.names.lookup x=some .local:=by first | exact .inl rfl | exact .inr rfl | assumption):Jw X G fr i (.Assign [.Name x pos'] e pos) f:=by
 obtain⟨t,p,q⟩:=he;exact⟨t,Ux hN hi hx p hs hf,q⟩
noncomputable def ZO (i:Nat)(f:Zb->M D):Zb->M Out:=fun ρ=>Zp (f ρ) λd=>Zy (.nx (ρ.set i (some d)))
theorem Zfi {i:Nat}{st:Stmt}{te:TE}(hp:PS X st (λE σ H=>te σ H λy H1=>E.nx (σ.set i (some y)) H1))(hy:VH G own fr te f)(hi:i∉own){fr':Bool}:YH X G ob own own fr' st (ZO i f):=
 ⟨_,hp,λkn jR H0 σ H ρ s out s' E ⟨Hf,j⟩ st e po=>by
  obtain⟨d,s1,a1,a2⟩:=ZC e;obtain⟨rfl,rfl⟩:=ZN a2;exact hy kn jR H0 σ Hf H ρ s d s' _ j st a1 λv Hf' H' j' e1 e2 st' r fz=>po _ H' ⟨Hf',j'.setF hi r⟩ st'⟩
theorem Y5 {i:Nat}{st:Stmt}{fr':Bool}(h:Jw X G fr i st f):YH X G ob [] [] fr' st (ZO i f):=let ⟨_,p,q⟩:=h;Zfi p q.n (by simp)
theorem Uo {i:Nat}{st:Stmt}{fr':Bool}(h:Jw X G fr i st f)(hi:i∉own:=by decide):YH X G ob own own fr' st (ZO i (fun ρ=>f (ZG own ρ))):=let ⟨_,p,q⟩:=h;Zfi p q.a hi
noncomputable def Xt (i:Nat)(f:Zb->M D):Zb->M Out:=fun ρ=>Zp (f ρ) λd=>if Uy d=true then Zy (.nx (ρ.set i (some d)))else ZE
theorem Zfj {i:Nat}{st:Stmt}{te:TE}(hp:PS X st (λE σ H=>te σ H λy H1=>E.nx (σ.set i (some y)) H1))(hy:VH G own true te f)(ho:∀k,k∈own'↔k=i∨k∈own){fr':Bool}:YH X G ob own own' fr' st (Xt i f):=
 ⟨_,hp,λkn jR H0 σ H ρ s out s' E ⟨Hf,j⟩ st e po=>by
  obtain⟨d,s1,a1,a2⟩:=ZC e;obtain⟨ok,a3⟩:=Xc a2;obtain⟨rfl,rfl⟩:=ZN a3;exact hy kn jR H0 σ Hf H ρ s d s' _ j st a1 λv Hf' H' j' e1 e2 st' r fz=>po _ H' (j.setOwn j' ho st e2 e1 r (fz rfl) ok) st'⟩
theorem Uq {i:Nat}{st:Stmt}{fr':Bool}(h:Jw X G true i st f):YH X G ob [] [i] fr' st (Xt i f):=let ⟨_,p,q⟩:=h;Zfj p q.n (by intro k;simp)
theorem Zfk {i:Nat}{st:Stmt}{fr':Bool}(h:Jw X G true i st f)(ho:∀k,k∈own'↔k=i∨k∈own:=by intro k;simp;try omega):YH X G ob own own' fr' st (Xt i (fun ρ=>f (ZG own ρ))):=let ⟨_,p,q⟩:=h;Zfj p q.a ho
inductive Sets (G:Gh)(Hf:Hp)(ok:Nat->Prop):St->Zb->St->Zb->Prop
 | nil {σ ρ}:Sets G Hf ok σ ρ σ ρ
 | cons {σ ρ σ' ρ'} {i:Nat} {d:D} {v:V}:ok i->Zi G Hf d v->Sets G Hf ok (σ.set i (some v)) (ρ.set i (some d)) σ' ρ'->Sets G Hf ok σ ρ σ' ρ'
noncomputable def W8 (X:Cx)(G:Gh)(tg:Expr)(ok:Nat->Prop)(τ:D->Zb->Option Zb):Prop:=
 ∃g,PG X tg g/\∀(x:V) (σ:St) (Hf H:Hp) (d:D) (ρ ρ':Zb) (Q:St->Hp->Prop),Zz G Hf H->Zi G Hf d x->τ d ρ=some ρ'->(∀σ',Sets G Hf ok σ ρ σ' ρ'->Q σ' H)->g x σ H Q
noncomputable def Zv (i:Nat):D->Zb->Option Zb:=λd ρ=>some (ρ.set i (some d))
theorem Xr {i:Nat}{x:Str}{pos:Pos}{ok:Nat->Prop}(hN:X.N.Nodup)(hi:X.N[i]?=some x)(hx:W6 X.env.scope x)(oi:ok i)(hf:X.fn x=true∨X.env.scope.names.lookup x=some .local:=by first | exact .inl rfl | exact .inr rfl | assumption):W8 X G (.Name x pos) ok (Zv i):=
 ⟨_,Ve hN hi hx hf,λx σ Hf H d ρ ρ' Q e r q k=>by
  cases q
  exact k _ (.cons oi r .nil)⟩
noncomputable def VD (i j:Nat):D->Zb->Option Zb:=λd ρ=>match d with | .tup [a,b]=>some ((ρ.set i (some a)).set j (some b)) | _=>none
theorem Zbo {i j:Nat}{x y:Str}{pos px py:Pos}{k:Nat}{ok:Nat->Prop}(hc:X.calm=true)(hN:X.N.Nodup)(hi:X.N[i]?=some x)(hj:X.N[j]?=some y)(hx:W6 X.env.scope x)(hy:W6 X.env.scope y)(oi:ok i)(oj:ok j)
  (hfx:X.fn x=true∨X.env.scope.names.lookup x=some .local:=by first | exact .inl rfl | exact .inr rfl | assumption) (hfy:X.fn y=true∨X.env.scope.names.lookup y=some .local:=by first | exact .inl rfl | exact .inr rfl | assumption)
  (hn:(assignEach [.Name x px,.Name y py] X.env).length=2:=by rfl) (hst:(assignEach [.Name x px,.Name y py] X.env).findIdx? (·.1)=none:=by rfl)
  (hp:BK X [.Name x px,.Name y py] (Zja (Jo i) (Zja (Jo j) gNil))):W8 X G (.Tuple [.Name x px,.Name y py] k pos) ok (VD i j):=
 ⟨_,Zm1 hc hp hn hst,λx σ Hf H d ρ ρ' Q e r q k=>by
  match d,q,r with
  | .tup [a,b],q,r=>
   cases q
   obtain⟨ad,vs,rfl,n,h,rl⟩:=jc.mp r;obtain⟨v1,r1,rfl,q1,q2⟩:=jd.mp rl;obtain⟨v2,r2,rfl,q3,q4⟩:=jd.mp q2;have:=Zh.nil_iff.mp q4;subst this;exact⟨ad,_,rfl,ZH.of (e _ _ n h),rfl,v1,_,rfl,v2,_,rfl,rfl,k _ (.cons oi q1 (.cons oj q3 .nil))⟩⟩
theorem Sets.jf {kn jR H0 Hf H:Hp}{σ σ':St}{ρ ρ':Zb}(h:Sets G Hf (λi=>i∉own) σ ρ σ' ρ'):Jf G own kn jR H0 σ Hf H ρ->Jf G own kn jR H0 σ' Hf H ρ':=by
 induction h with
 | nil=>exact λj=>j
 | cons o r _ ih=>exact λj=>ih (j.setF o r)
noncomputable def VI (G:Gh)(J:It)(Hf':Hp)(ds:List D):Prop:=
 ∀(i:Nat) (jZ H2:Hp) (s:Pn),Zz G Hf' jZ->Zz G jZ H2->G.st s H2->
  (∀d,ds[i]?=some d->J.go i H2/\∀x H3,J.yld i H2 x H3->∃Hf3,Gr G jZ H2 Hf3 H3/\G.st s H3/\Zi G Hf3 d x)/\(i=ds.length->J.stop i H2)
noncomputable def XC (X:Cx)(G:Gh)(tg iter:Expr)(f:Zb->M (List D)):Prop:=
 ∃wi,PI X tg iter wi/\∀(σ:St) (Hf H:Hp) (ρ:Zb) (s:Pn) (ds:List D) (s':Pn) (R:It->Hp->Prop),Zz G Hf H->YF G Hf σ ρ->G.st s H->f ρ s=some (ds,s')->
  (∀J Hf' H',Gr G Hf H Hf' H'->G.st s' H'->VI G J Hf' ds->R J H')->wi σ H R
theorem VI.range {lo:Int}{n:Nat}{Hf:Hp}{ds:List D}(e:ds=(qk n).map λ(i:Nat)=>D.int (lo+i)):VI G (BL lo n) Hf ds:=λi jZ H2 s e1 e2 st=>by
 subst e;refine⟨λd q=>?_,λq=>by show n<=i;rw[q];simp⟩;have hi:i<n:=by
  have:=(qw.mp q).1;simpa using this
 have hd:d=.int (lo+i):=by
  rw[qH,yX hi]at q;simp at q;exact q.symm
 subst hd;refine⟨hi,λx H3 y=>?_⟩;obtain⟨y1,y2⟩:=y;subst y1 y2;exact⟨jZ,.refl e2,st,ja.mpr rfl⟩
theorem VI.list {K:qm}{a:Addr}{vs:List V}{Hf:Hp}{ds:List D}(nf:¬G.fp a)(h:Hf a=some (.lst vs))(r:Zh G Hf ds vs):VI G (Itl K a) Hf ds:=λi jZ H2 s e1 e2 st=>by
 have h2:ZA K H2 a vs:=ZA.of (e2 _ _ nf (e1 _ _ nf h));refine⟨λd q=>?_,λq=>⟨vs,h2,by rw[q,r.length];exact qp _⟩⟩;obtain⟨v,q1,q2⟩:=r.get q;refine⟨⟨vs,v,h2,q1⟩,λx H3 ⟨y1,y2⟩=>?_⟩;subst y1;have e:=y2 vs h2;rw[q1]at e;cases e;exact⟨jZ,.refl e2,st,q2.ext e1⟩
theorem VI.tup {K:qm}{a:Addr}{vs:List V}{Hf:Hp}{ds:List D}(nf:¬G.fp a)(h:Hf a=some (.tup vs))(r:Zh G Hf ds vs):VI G (Itt K a) Hf ds:=λi jZ H2 s e1 e2 st=>by
 have h2:ZH K H2 a vs:=ZH.of (e2 _ _ nf (e1 _ _ nf h));refine⟨λd q=>?_,λq=>⟨vs,h2,by rw[q,r.length];exact qp _⟩⟩;obtain⟨v,q1,q2⟩:=r.get q;refine⟨⟨vs,v,h2,q1⟩,λx H3 ⟨y1,y2⟩=>?_⟩;subst y1;have e:=y2 vs h2;rw[q1]at e;cases e;exact⟨jZ,.refl e2,st,q2.ext e1⟩
noncomputable def Z3 (lo:Int)(n:Nat):List D:=(qk n).map λ(i:Nat)=>D.int (lo+i)
noncomputable def YL (f:Zb->M D):Zb->M (List D):=fun ρ=>Zp (f ρ) λd=>match d with | .int j=>if -(2 ^ 62)<=j/\j<2 ^ 62 then Zy (Z3 0 j.toNat)else ZE | _=>ZE
theorem ZcQ {tg a:Expr}{p pos:Pos}{r1:Bool}(hg:Gl X "range")(hm:X.mg "range" = none)(ha:PD X G r1 a f)(hs:xh [a] X.env=[(false,eval a X.env)]:=by rfl):XC X G tg (.Call (.Name "range" p) [a] [] pos) (YL f):=by
 obtain⟨t,pa,qa⟩:=ha.drop;refine⟨_,ZdH hg hm (YK pa Xi (by rw[hs];rfl)) hs,fun σ Hf H ρ s ds s' R e1 e2 e3 e4 k=>?_⟩;obtain⟨d,s1,a1,a2⟩:=ZC e4
 cases d with
 | int j=>
  obtain⟨c,a3⟩:=Xc a2;obtain⟨rfl,rfl⟩:=ZN a3;refine qa σ Hf H ρ s _ _ _ e1 e2 e3 a1 λv jU H1 g st r=>?_;rw[ja.mp r];exact⟨j,rfl,c.1,c.2,k _ jU H1 g st (.range rfl)⟩
 | _=>cases a2
noncomputable def U1 (f g:Zb->M D):Zb->M (List D):=fun ρ=>Zp (f ρ) λd=>Zp (g ρ) λe=>match d,e with | .int i,.int j=>if -(2 ^ 62)<=i/\i<2 ^ 62/\-(2 ^ 62)<=j/\j<2 ^ 62 then Zy (Z3 i (j-i).toNat)else ZE | _,_=>ZE
noncomputable def ZY (f:Zb->M D):Zb->M (List D):=fun ρ=>Zp (f ρ) λd=>match d with | .lst ds=>Zy ds | _=>ZE
noncomputable def XY (f:Zb->M D):Zb->M (List D):=fun ρ=>Zp (f ρ) λd=>match d with | .tup ds=>Zy ds | _=>ZE
theorem X5 {tg l:Expr}{r1:Bool}(hl:PD X G r1 l f):XC X G tg l (ZY f):=by
 obtain⟨t,pa,qa⟩:=hl.drop;refine⟨_,Zle pa,fun σ Hf H ρ s ds s' R e1 e2 e3 e4 k=>?_⟩;obtain⟨d,s1,a1,a2⟩:=ZC e4
 cases d with
 | lst es=>
  obtain⟨rfl,rfl⟩:=ZN a2;refine qa σ Hf H ρ s _ _ _ e1 e2 e3 a1 λv jU H1 g st r=>?_;obtain⟨a,vs,rfl,nf,h,rl⟩:=jb.mp r;exact⟨a,rfl,⟨vs,ZA.of (g.fh _ _ nf h)⟩,k _ jU H1 g st (.list nf h rl)⟩
 | _=>cases a2
theorem Us {tg l:Expr}{r1:Bool}(hl:PD X G r1 l f):XC X G tg l (XY f):=by
 obtain⟨t,pa,qa⟩:=hl.drop;refine⟨_,Zm4 pa,fun σ Hf H ρ s ds s' R e1 e2 e3 e4 k=>?_⟩;obtain⟨d,s1,a1,a2⟩:=ZC e4
 cases d with
 | tup es=>
  obtain⟨rfl,rfl⟩:=ZN a2;refine qa σ Hf H ρ s _ _ _ e1 e2 e3 a1 λv jU H1 g st r=>?_;obtain⟨a,vs,rfl,nf,h,rl⟩:=jc.mp r;exact⟨a,rfl,⟨vs,ZH.of (g.fh _ _ nf h)⟩,k _ jU H1 g st (.tup nf h rl)⟩
 | _=>cases a2
noncomputable def X9 (τ:D->Zb->Option Zb)(body:Zb->M Out):List D->Zb->M Out
 | [],ρ=>Zy (.nx ρ)
 | d::ds,ρ=>Zp (YV (τ d ρ)) fun ρ1=>Zp (body ρ1) λo=>match o with | .nx ρ2=>X9 τ body ds ρ2 | .ct ρ2=>X9 τ body ds ρ2 | .bk ρ2=>Zy (.nx ρ2) | .rt d=>Zy (.rt d)
noncomputable def Z9 (fi:Zb->M (List D))(τ:D->Zb->Option Zb)(body:Zb->M Out):Zb->M Out:=fun ρ=>Zp (fi ρ) λds=>X9 τ body ds ρ
noncomputable def BC (X:Cx)(G:Gh)(own:List Nat)(tg iter:Expr)(f:Zb->M (List D)):Prop:=
 ∃wi,PI X tg iter wi/\∀(kn jR H0:Hp) (σ:St) (Hf H:Hp) (ρ:Zb) (s:Pn) (ds:List D) (s':Pn) (R:It->Hp->Prop),Jf G own kn jR H0 σ Hf H ρ->G.st s H->f ρ s=some (ds,s')->
  (∀J Hf' H',Jf G own kn jR H0 σ Hf' H' ρ->Zz G Hf Hf'->G.st s' H'->VI G J Hf' ds->R J H')->wi σ H R
theorem XC.a {tg iter:Expr}{fi:Zb->M (List D)}(h:XC X G tg iter fi):BC X G own tg iter (fun ρ=>fi (ZG own ρ)):=by
 obtain⟨wi,p,q⟩:=h;exact⟨wi,p,λkn jR H0 σ Hf H ρ s ds s' R j st e k=>q σ Hf H _ s ds s' R j.gr.fh j.envA st e λJ Hf' H' g st' it=>k J Hf' H' (j.grow g) g.ff st' it⟩
theorem XC.n {tg iter:Expr}{fi:Zb->M (List D)}(h:XC X G tg iter fi):BC X G [] tg iter fi:=by
 obtain⟨wi,p,q⟩:=h.a (own:=[]);exact⟨wi,p,λkn jR H0 σ Hf H ρ s ds s' R j st e k=>q kn jR H0 σ Hf H ρ s ds s' R j st (by show fi (ZG [] ρ) s=_;rw[ZcO];exact e) k⟩
theorem Vb {tg a:Expr}{p pos:Pos}{r1:Bool}(hg:Gl X "range")(hm:X.mg "range" = none)(ha:PD X G r1 a f)(hs:xh [a] X.env=[(false,eval a X.env)]:=by rfl):BC X G own tg (.Call (.Name "range" p) [a] [] pos) (YL f):=by
 obtain⟨t,pa,qa⟩:=ha.drop;refine⟨_,ZdH hg hm (YK pa Xi (by rw[hs];rfl)) hs,λkn jR H0 σ Hf H ρ s ds s' R j st e4 k=>?_⟩;obtain⟨d,s1,a1,a2⟩:=ZC e4
 cases d with
 | int i=>
  obtain⟨c,a3⟩:=Xc a2;obtain⟨rfl,rfl⟩:=ZN a3;refine qa σ _ H ρ s _ _ _ Um j.envB st a1 λv jU H1 g st r=>?_;obtain⟨F,j',fF,q1,q2⟩:=j.growB g;rw[ja.mp r];exact⟨i,rfl,c.1,c.2,k _ F H1 j' fF st (.range rfl)⟩
 | _=>cases a2
theorem Zb8 {tg a b:Expr}{p pos:Pos}{r1 r2:Bool}{f2:Zb->M D}(hg:Gl X "range")(hm:X.mg "range" = none)(ha:PD X G r1 a f)(hb:PD X G r2 b f2)
  (hs:xh [a,b] X.env=[(false,eval a X.env),(false,eval b X.env)]:=by rfl) (hs2:xh [b] X.env=[(false,eval b X.env)]:=by rfl):BC X G own tg (.Call (.Name "range" p) [a,b] [] pos) (U1 f f2):=by
 obtain⟨t,pa,qa⟩:=ha.drop;obtain⟨u,pb,qb⟩:=hb.drop;refine⟨_,ZhX hg hm (YK pa (YK pb Xi (by rw[hs2];rfl)) (by rw[hs,hs2])) hs hs2,λkn jR H0 σ Hf H ρ s ds s' R j st e4 k=>?_⟩;obtain⟨d,s1,a1,a2⟩:=ZC e4;obtain⟨d2,s2,a3,a4⟩:=ZC a2
 match d,d2,a4,a1,a3 with
 | .int i,.int l,a4,a1,a3=>
  obtain⟨c,a5⟩:=Xc a4;obtain⟨rfl,rfl⟩:=ZN a5;refine qa σ _ H ρ s _ _ _ Um j.envB st a1 λv jU H1 g st r=>?_;refine qb σ jU H1 ρ s1 _ _ _ g.fh (j.envB.ext g.ff) st a3 λv2 jZ H2 g2 jT r2=>?_;obtain⟨F,j',fF,q1,q2⟩:=j.growB (g.trans g2);rw[ja.mp r,ja.mp r2];exact⟨i,l,rfl,c,k _ F H2 j' fF jT (.range rfl)⟩
theorem Jf.weak {kn kn' jR H0 Hf H:Hp}{σ:St}{ρ:Zb}(j:Jf G own kn' jR H0 σ Hf H ρ)(e:Zz G kn kn'):Jf G own kn jR H0 σ Hf H ρ:=⟨j.len,e.trans j.kn,j.gr,j.fz,j.ow,j.ne⟩
theorem Xn {tg iter:Expr}{body:List Stmt}{pos:Pos}{fi:Zb->M (List D)}{τ:D->Zb->Option Zb}{g:Zb->M Out}(hp:PassesOwn (xz X.prog X.w) X.A X.env X.xe)(hc:X.calm=true)(hi:BC X G own tg iter fi)(hg:W8 X G tg (λi=>i∉own) τ)(hb:X0 X G own own own fr body g)
  (hs:∀x,foldedSetIterable iter X.env x=pure x:=by intro _;rfl):YH X G ob own own fr (.For tg iter body [] pos) (Z9 fi τ g):=by
 obtain⟨wi,pi,qi⟩:=hi;obtain⟨gt,pg,qg⟩:=hg;obtain⟨tb,pb,qb⟩:=hb;refine⟨_,Zm5 hp hc pi pg pb hs,λkn jR H0 σ H ρ s out s' E ⟨Hf,j⟩ st e po=>?_⟩;obtain⟨ds,s1,a1,a2⟩:=ZC e;refine qi kn jR H0 σ Hf H ρ s ds s1 _ j st a1 λJt jU H1 j1 e1 jW it=>?_;refine⟨λi m σ2 H2=>∃ρ2 s2,J G own jU jR H0 σ2 H2 ρ2/\G.st s2 H2/\X9 τ g (ds.drop i) ρ2 s2=some (out,s')/\i<=ds.length/\m=ds.length-i,⟨_,ρ,s1,⟨jU,⟨j1.len,.refl _ _,j1.gr,j1.fz,j1.ow,j1.ne⟩⟩,jW,a2,zC _,rfl⟩,?_⟩;rintro i m σ2 H2 ⟨ρ2,s2,⟨jZ,j2⟩,jT,eq2,hle,rfl⟩;obtain⟨i1,i2⟩:=it i jZ H2 s2 j2.kn j2.gr.fh jT;by_cases hlt:i<ds.length
 ·have hd:ds.drop i=ds[i]::ds.drop (i+1):=qat hlt
  rw[hd]at eq2;obtain⟨ρ3,s3,b1,b2⟩:=ZC eq2;obtain⟨b1',e3⟩:=WV b1;subst e3;obtain⟨o,s4,b3,b4⟩:=ZC b2;obtain⟨go,yl⟩:=i1 ds[i] (by simp[hlt]);refine .inr ⟨go,fun σ' H'=>∃ρ5 s5,J G own jU jR H0 σ' H' ρ5/\G.st s5 H'/\X9 τ g (ds.drop (i+1)) ρ5 s5=some (out,s'),fun σ' H' ⟨ρ5,s5,j5,st5,q5⟩=>⟨_,by omega,ρ5,s5,j5,st5,q5,hlt,rfl⟩,λx H3 y3=>?_⟩;obtain⟨Hf3,g3,st3,r3⟩:=yl x H3 y3;have j3:=j2.grow g3;refine qg x σ2 Hf3 H3 ds[i] ρ2 ρ3 _ g3.fh r3 b1' fun σ3 sets=>?_;have j4:=sets.jf j3;refine qb jU jR H0 σ3 H3 ρ3 s3 o s4 _ ⟨Hf3,j4⟩ st3 b3 ?_
  cases o with
  | nx ρ5=>exact fun σ5 H5 j5 st5=>⟨ρ5,s4,j5,st5,b4⟩
  | ct ρ5=>exact fun σ5 H5 j5 st5=>⟨ρ5,s4,j5,st5,b4⟩
  | bk ρ5=>
   obtain⟨rfl,rfl⟩:=ZN b4;exact fun σ5 H5 ⟨Hf5,j5⟩ st5=>po σ5 H5 ⟨Hf5,j5.weak (j.kn.trans e1)⟩ st5
  | rt d=>
   obtain⟨rfl,rfl⟩:=ZN b4;exact po
 ·have hd:ds.drop i=[]:=qcS.mpr (by omega)
  rw[hd]at eq2;obtain⟨rfl,rfl⟩:=ZN eq2;exact .inl ⟨i2 (by omega),po σ2 H2 ⟨jZ,j2.weak (j.kn.trans e1)⟩ jT⟩
end
noncomputable def runB (n k:Nat)(g:Zb->M Out):List D->M D:=λds=>if ds.length=k then Zp (g (ds.map some++qy (n-k) none)) λo=>match o with | .rt d=>Zy d | .nx _=>Zy .non | _=>ZE else ZE
theorem Y4 {P:xB}{w:World}{K:qm}{mg:Str->Option Value}{base:Heap}{x qual:Str}{st:Stmt}{f:Addr}{fd:xA}{N ps:List Str}{k:Nat}{own:List Nat}{fr:Bool}{GG:Gh->Prop}{g:Zb->M Out}
  (F:Fun K x qual st f fd) (S:FnScope N ps (ZK st))
  (hb:∀(cdv:Value) (A:xC) (outer:List Env) (s:Shared) (H:Hp) (E:XK),Room k (A.deeper (envOfC qual (ZK st) s.heap.objs.size f cdv))->∀G,GG G->X0 (Vj ZV P w K mg base N qual (ZK st) f cdv A outer s H E).nox G [] [] own fr (Wf st) g) :
  FnOk P w K mg base ZV (k+1) f fd ps (Yr ps.length fr GG (runB N.length ps.length g)):=by
 refine F.ok S (λvs H Q E h=>?_) λcdv A outer s H vs Q E hr h=>?_
 ·obtain⟨G,Hf,ds,pn,d,pn',_,e,_⟩:=h
  exact e
 ·obtain⟨G,Hf,ds,pn,d,pn',hG,el,e1,r,st',eF,k'⟩:=h
  obtain⟨t,p,q⟩:=hb cdv A outer s H E hr G hG;refine⟨t,p,?_⟩;obtain⟨hl,a0⟩:=Xc eF;obtain⟨o,s1,a1,a2⟩:=ZC a0;have hpl:ps.length<=N.length:=by have:=congrArg qaM S.pre;rw[qZ]at this;omega
  have j0:Jf G [] Hf Hf H (L2.start N vs) Hf H (ds.map some++qy (N.length-ps.length) none):=by
   refine⟨?_,.refl _ _,.refl e1,λi d n e=>?_,λi d m e=>?_,λi j a di dj mi mj n e=>?_⟩
   ·unfold L2.start;simp;omega
   ·have hi:i<ds.length:=by
     by_cases hi:i<ds.length
     ·exact hi
     ·rw[yj (by simpa using hi),yW]at e
      split at e <;> cases e
    have e':ds[i]?=some d:=by
     rw[zD (by simpa using hi),qH]at e
     cases q:ds[i]? with
     | none=>rw[q]at e;cases e
     | some c=>rw[q]at e;simp at e;rw[e]
    obtain⟨v,h1,h2⟩:=r.get e';refine⟨v,?_,h2⟩;unfold L2.start;rw[zD (by simp;rw[<-r.length];exact hi),qH,h1];rfl
   ·exact absurd m (by simp)
   ·exact absurd mi (by simp)
  refine q Hf Hf H (L2.start N vs) H _ pn o s1 _ ⟨Hf,j0⟩ st' a1 ?_
  cases o with
  | rt c=>
   obtain⟨rfl,rfl⟩:=ZN a2;exact λv Hf' H' g' jT r2 fz=>k' v Hf' H' g' jT r2 fz
  | nx ρ'=>
   obtain⟨rfl,rfl⟩:=ZN a2;exact fun σ' H' ⟨Hf',j'⟩ jT=>k' .non Hf' H' j'.gr jT (jg.mpr rfl) λ_=>.scal λz=>z
  | bk ρ'=>cases a2
  | ct ρ'=>cases a2
noncomputable def tOf (G:Gh)(fr:Bool)(f:Zb->M D):TE:=fun σ H Q=>∃(Hf:Hp) (ρ:Zb) (s:Pn) (d:D) (s':Pn),Zz G Hf H/\YF G Hf σ ρ/\G.st s H/\f ρ s=some (d,s')/\
 ∀v Hf' H',Gr G Hf H Hf' H'->G.st s' H'->Zi G Hf' d v->(fr=true->Z2 G H Hf' d v)->Q v H'
noncomputable def UI (G:Gh)(f:Zb->M Bool):TT:=fun σ H Q=>∃(Hf:Hp) (ρ:Zb) (s:Pn) (b:Bool) (s':Pn),Zz G Hf H/\YF G Hf σ ρ/\G.st s H/\f ρ s=some (b,s')/\
 ∀Hf' H',Gr G Hf H Hf' H'->G.st s' H'->Q b H'
noncomputable def gOf (G:Gh)(ok:Nat->Prop)(τ:D->Zb->Option Zb):TG:=λx σ H Q=>∃(Hf:Hp) (d:D) (ρ ρ':Zb),Zz G Hf H/\Zi G Hf d x/\τ d ρ=some ρ'/\∀σ',Sets G Hf ok σ ρ σ' ρ'->Q σ' H
section
variable {X:Cx}{G:Gh}{own:List Nat}{fr:Bool}{f:Zb->M D}
theorem PD.canon {e:Expr}(h:PD X G fr e f):PE X e (tOf G fr f):=by
 obtain⟨t,p,q⟩:=h;exact λjI s σ H Q I ⟨Hf,ρ,pn,d,pn',a1,a2,a3,a4,k⟩=>p jI s σ H Q I (q σ Hf H ρ pn d pn' Q a1 a2 a3 a4 k)
theorem XU.canon {e:Expr}{f:Zb->M Bool}(h:XU X G e f):PT X e (UI G f):=by
 obtain⟨t,p,q⟩:=h;exact λjI s σ H Q I ⟨Hf,ρ,pn,d,pn',a1,a2,a3,a4,k⟩=>p jI s σ H Q I (q σ Hf H ρ pn d pn' Q a1 a2 a3 a4 k)
theorem W8.canon {tg:Expr}{ok:Nat->Prop}{τ:D->Zb->Option Zb}(h:W8 X G tg ok τ):PG X tg (gOf G ok τ):=by
 obtain⟨t,p,q⟩:=h;exact λjI s σ H v u Q I r ⟨Hf,d,ρ,ρ',a1,a2,a3,k⟩=>p jI s σ H v u Q I r (q v σ Hf H d ρ ρ' Q a1 a2 a3 k)
noncomputable def Wn (src:List (Option Nat))(ρ:Zb):Zb:=src.map λo=>o.bind λj=>(ρ[j]?).bind id
theorem Zgn {Hf:Hp}{σ:St}{ρ:Zb}{src:List (Option Nat)}(h:YF G Hf σ ρ):YF G Hf (Vh src σ) (Wn src ρ):=λi d e=>by
 unfold Wn at e;rw[qH]at e
 cases q:src[i]? with
 | none=>rw[q]at e;cases e
 | some o=>
  rw[q]at e
  cases o with
  | none=>simp at e
  | some j=>
   simp only[ye,Option.bind_some,qb8]at e;have hj:ρ[j]?=some (some d):=by
    cases e2:ρ[j]? with
    | none=>rw[e2]at e;cases e
    | some o2=>rw[e2]at e;simp at e;rw[e]
   obtain⟨v,h1,h2⟩:=h j d hj;refine⟨v,?_,h2⟩;unfold Vh;rw[qH,q];simp[h1]
theorem Sets.len {Hf:Hp}{ok:Nat->Prop}{σ σ':St}{ρ ρ':Zb}(h:Sets G Hf ok σ ρ σ' ρ'):(σ.length=ρ.length->σ'.length=ρ'.length)/\σ'.length=σ.length:=by
 induction h with
 | nil=>exact⟨λe=>e,rfl⟩
 | cons _ _ _ ih=>exact⟨λe=>ih.1 (by simp[e]),ih.2.trans (by simp)⟩
theorem Sets.env {Hf:Hp}{ok:Nat->Prop}{σ σ':St}{ρ ρ':Zb}(h:Sets G Hf ok σ ρ σ' ρ'):σ.length=ρ.length->YF G Hf σ ρ->YF G Hf σ' ρ':=by
 induction h with
 | nil=>exact λ_ e=>e
 | @cons σ ρ σ' ρ' i d v o r _ ih=>
  intro hl he;refine ih (by simp[hl]) λk c e=>?_;by_cases h:i=k
  ·subst h
   have hk:i < ρ.length:=by
    have:=(qw.mp e).1;simpa using this
   rw[zB hk]at e
   cases e
   exact⟨v,zB (by rw[hl];exact hk),r⟩
  ·rw[za h]at e⊢
   exact he k c e
theorem Sets.envOld {Hf:Hp}{ok:Nat->Prop}{σ σ':St}{ρ ρ' ρ0:Zb}(h:Sets G Hf ok σ ρ σ' ρ')(h0:∀i d,ok i->ρ0[i]?≠some (some d)):YF G Hf σ ρ0->YF G Hf σ' ρ0:=by
 induction h with
 | nil=>exact λe=>e
 | @cons σ ρ σ' ρ' i d v o r _ ih=>
  intro he;refine ih λk c e=>?_;have hne:i≠k:=λz=>h0 k c (z▸o) e;rw[za hne];exact he k c e
noncomputable def UB (τ:D->Zb->Option Zb)(ft:Zb->M Bool)(fe:Zb->M D)(ρ:Zb):List D->M (List D)
 | []=>Zy []
 | d::ds=>Zp (YV (τ d ρ)) fun ρ1=>Zp (ft ρ1) λb=>if b=true then Zp (fe ρ1) λc=>Zp (UB τ ft fe ρ ds) λr=>Zy (c::r)else UB τ ft fe ρ ds
noncomputable def Yj (src:List (Option Nat))(fi:Zb->M (List D))(τ:D->Zb->Option Zb)(ft:Zb->M Bool)(fe:Zb->M D):Zb->M D:=fun ρ=>
 Zp (fi ρ) λds=>if ds.length<=xg then Zp (UB τ ft fe (Wn src ρ) ds) λr=>Zy (.lst r)else ZE
noncomputable def Yt:Zb->M Bool:=λ_=>Zy true
theorem Zfl {src:List (Option Nat)}{wi:TI}{fi:Zb->M (List D)}{τ:D->Zb->Option Zb}{ft:Zb->M Bool}{fe:Zb->M D}{r1:Bool}
  (qi:∀(σ:St) (Hf H:Hp) (ρ:Zb) (s:Pn) (ds:List D) (s':Pn) (R:It->Hp->Prop),Zz G Hf H->YF G Hf σ ρ->G.st s H->fi ρ s=some (ds,s')->
   (∀J Hf' H',Gr G Hf H Hf' H'->G.st s' H'->VI G J Hf' ds->R J H')->wi σ H R) :
  Ws G true (Zjv src wi (gOf G (λi=>src[i]?=some none) τ) (UI G ft) (tOf G r1 fe)) (Yj src fi τ ft fe):=by
 intro σ Hf H ρ s d s' Q e1 e2 e3 e4 k;obtain⟨ds,s1,a1,a2⟩:=ZC e4;obtain⟨hz,a3⟩:=Xc a2;obtain⟨r,s2,a4,a5⟩:=ZC a3;obtain⟨rfl,rfl⟩:=ZN a5;refine qi σ Hf H ρ s ds s1 _ e1 e2 e3 a1 λJt jU H1 g1 jW it=>?_;intro p hp;have nrp:=jC jW hp;have nfp:=ju nrp;have hf1p:jU p=none:=by
  cases e:jU p with
  | none=>rfl
  | some o=>rw[g1.fh p o nfp e]at hp;cases hp
 have h0:∀(i:Nat) (d:D),src[i]?=some none->(Wn src ρ)[i]?≠some (some d):=λi d e q=>by
  unfold Wn at q;rw[qH,e]at q;simp at q
 refine⟨λi m σ2 H2=>∃(jZ:Hp) (s2:Pn) (vs:List V) (acc rest:List D),i<=ds.length/\m=ds.length-i/\Gr G jU H1 jZ H2/\YF G jZ σ2 (Wn src ρ)/\σ2.length=(Wn src ρ).length/\G.st s2 H2/\jZ p=none/\H2 p=some (.lst vs)/\Zh G jZ acc vs/\acc.length<=i/\
  UB τ ft fe (Wn src ρ) (ds.drop i) s2=some (rest,s')/\acc++rest=r,⟨_,jU,s1,[],[],r,zC _,rfl,?_,?_,?_,Gh.grow jW hp,hf1p,ZQ,Zh.nil_iff.mpr rfl,qp _,a4,rfl⟩,?_⟩
 ·refine⟨λb o n e=>?_,.refl _ _,λb o n e=>?_,λb n h1 h2=>h1⟩
  ·rw[Zx (Ys e hp)];exact e
  ·rw[Zx (Ys e hf1p)];exact g1.fh b o n e
 ·exact Zgn (e2.ext g1.ff)
 ·unfold Vh Wn;simp
 ·rintro i m σ2 H2 ⟨jZ,sz,vs,acc,rest,hle,rfl,g2,env2,len2,jT,hfp2,hp2,racc,hacc,eq2,hr⟩
  obtain⟨i1,i2⟩:=it i jZ H2 sz g2.ff g2.fh jT;by_cases hlt:i<ds.length
  ·have hd:ds.drop i=ds[i]::ds.drop (i+1):=qat hlt
   rw[hd]at eq2;obtain⟨ρ3,s3,b1,b2⟩:=ZC eq2;obtain⟨b1',e3'⟩:=WV b1;subst e3';obtain⟨bo,s4,b3,b4⟩:=ZC b2;obtain⟨go,yl⟩:=i1 ds[i] (by simp[hlt]);refine .inr ⟨go,λx H3 y3=>?_⟩;obtain⟨Hf3,g3,st3,r3⟩:=yl x H3 y3;refine⟨Hf3,ds[i],Wn src ρ,ρ3,g3.fh,r3,b1',fun σ4 sets=>?_⟩;have env2':=env2.ext g3.ff;have env4:=sets.env len2 env2';have env4':=sets.envOld h0 env2';refine⟨Hf3,ρ3,s3,bo,s4,g3.fh,env4,st3,b3,λHf5 H5 g5 st5=>?_⟩;have g25:=g3.trans g5;have hfp5:Hf5 p=none:=g25.nw p nfp hfp2 ⟨_,hp2,λ_ z=>by cases z⟩;have hp5:H5 p=some (.lst vs):=g25.hh p _ nfp hp2
   cases bo with
   | false=>
    refine V4 ⟨ds.length-(i+1),by omega,Hf5,s4,vs,acc,rest,hlt,rfl,g2.trans g25,env4'.ext g5.ff,by rw[<-len2];exact sets.len.2,st5,hfp5,hp5,racc.ext g25.ff,by omega,?_,hr⟩;exact b4
   | true=>
    have b4':Zp (fe ρ3) (λc=>Zp (UB τ ft fe (Wn src ρ) (ds.drop (i+1))) λr=>Zy (c::r)) s4=some (rest,s'):=b4;obtain⟨c,s6,b5,b6⟩:=ZC b4';obtain⟨rr,s7,b7,b8⟩:=ZC b6;obtain⟨rfl,rfl⟩:=ZN b8;refine V5 ⟨Hf5,ρ3,s4,c,s6,g5.fh,env4.ext g5.ff,st5,b5,λv Hf6 H6 g6 st6 r6 _=>?_⟩;have hfp6:Hf6 p=none:=g6.nw p nfp hfp5 ⟨_,hp5,λ_ z=>by cases z⟩;have hp6:H6 p=some (.lst vs):=g6.hh p _ nfp hp5;have hl:vs.length<xg:=by rw[<-racc.length];omega
    refine⟨vs,hp6,hl,ds.length-(i+1),by omega,Hf6,s6,vs ++ [v],acc ++ [c],rr,hlt,rfl,?_,(env4'.ext g5.ff).ext g6.ff,by rw[<-len2];exact sets.len.2,?_,hfp6,ZQ,(racc.ext (g25.ff.trans g6.ff)).append (.one r6),by simp;omega,b7,by rw[<-hr];simp⟩
    ·have gg:=(g2.trans g25).trans g6
     refine⟨λb o n e=>?_,gg.ff,λb o n e=>?_,gg.nw⟩
     ·rw[Zx (Ys e hp)];exact gg.hh b o n e
     ·rw[Zx (Ys e hfp6)];exact gg.fh b o n e
    ·refine G.mono _ _ _ st6 (λb o rb e=>?_) λb φ e=>?_
     ·have:b≠p:=λz=>nrp (z▸rb)
      rw[Zx this];exact e
     ·have:b≠p:=λz=>by rw[z,hp6]at e;cases e
      rw[Zx this];exact e
  ·have hd:ds.drop i=[]:=qcS.mpr (by omega)
   rw[hd]at eq2;obtain⟨rfl,rfl⟩:=ZN eq2;refine .inl ⟨i2 (by omega),?_⟩;rw[zj]at hr;subst hr;refine k (.ref p) (Zl jZ p (.lst vs)) H2 (g1.trans ⟨g2.hh,λb o n e=>?_,λb o n e=>?_,λb n h1 h2=>?_⟩) jT (jb.mpr ⟨p,vs,rfl,nfp,ZQ,racc.ext λb o n e=>?_⟩) λ_ a ea _=>?_
   ·rw[Zx (Ys (g2.ff b o n e) hfp2)];exact g2.ff b o n e
   ·by_cases hb:b=p
    ·subst hb;rw[ZQ]at e;rw[hp2];exact e
    ·rw[Zx hb]at e;exact g2.fh b o n e
   ·have:b≠p:=λz=>h2.no (z▸hp)
    rw[Zx this];exact g2.nw b n h1 h2
   ·rw[Zx (Ys e hfp2)];exact e
   ·cases ea
    refine⟨?_,λds' ed=>?_⟩
    ·cases q:H p with
     | none=>rfl
     | some o=>rw[g1.hh p o nfp q]at hp;cases hp
    ·cases ed
     exact⟨vs,jZ,ZQ,hfp2,λb o n e=>by rw[Zx (Ys e hfp2)];exact e,racc⟩
theorem WY:Vm X [] (UI G Yt):=λjI s σ H Q I ⟨Hf,ρ,pn,b,pn',a1,a2,a3,a4,k⟩=>by
 obtain⟨rfl,rfl⟩:=ZN a4;exact Zjt jI s σ H Q I (k Hf H (.refl a1) a3)
theorem Bn {c:Expr}{ft:Zb->M Bool}(h:XU X G c ft):Vm X [c] (UI G ft):=Zju h.canon
theorem Jf.put {kn jR H0 Hf H:Hp}{σ:St}{ρ:Zb}{i:Nat}{a:Addr}{d d':D}{o':HO}(j:Jf G own kn jR H0 σ Hf H ρ)(hi:i∈own)(e:ρ[i]?=some (some d))(sa:σ[i]?=some (some (.ref a)))
  (new:VA G Hf (Zl H a o') a d'):Jf G own kn jR H0 σ Hf (Zl H a o') (ρ.set i (some d')):=by
 obtain⟨a',h1,h2,h3,h4,h5⟩:=j.ow i d hi e;rw[sa]at h1;cases h1;have il:i < ρ.length:=(qw.mp e).1;refine⟨by simp[j.len],j.kn,⟨λb o n q=>?_,j.gr.ff,λb o n q=>?_,j.gr.nw⟩,λk c n q=>?_,λk c m q=>?_,λk l b dk dl mk ml n ek el sk sl=>?_⟩
 ·rw[Zx (Ys q h4)];exact j.gr.hh b o n q
 ·rw[Zx (Ys q h3)];exact j.gr.fh b o n q
 ·have hne:i≠k:=λz=>n (z▸hi)
  rw[za hne]at q;exact j.fz k c n q
 ·by_cases hk:i=k
  ·subst hk
   rw[zB il]at q
   cases q
   exact⟨a,sa,h2,h3,h4,new⟩
  ·rw[za hk]at q
   obtain⟨b,g1,g2,g3,g4,g5⟩:=j.ow k c m q;have hab:b≠a:=λz=>j.ne i k a d c hi m hk e q sa (z▸g1);exact⟨b,g1,g2,g3,g4,g5.keep (.refl _ _) λo z=>by rw[Zx hab];exact z⟩
 ·have ek':∃d,ρ[k]?=some (some d):=by
   by_cases hk:i=k
   ·exact⟨d,hk▸e⟩
   ·rw[za hk]at ek;exact⟨_,ek⟩
  have el':∃d,ρ[l]?=some (some d):=by
   by_cases hl:i=l
   ·exact⟨d,hl▸e⟩
   ·rw[za hl]at el;exact⟨_,el⟩
  obtain⟨_,ek'⟩:=ek';obtain⟨_,el'⟩:=el';exact j.ne k l b _ _ mk ml n ek' el' sk sl
theorem Ut {kn jR H0 Hf H:Hp}{σ:St}{ρ:Zb}{i:Nat}{ds:List D}(j:Jf G own kn jR H0 σ Hf H ρ)(hi:i∈own)(e:ρ[i]?=some (some (.lst ds))) :
  ∃a vs,σ[i]?=some (some (.ref a))/\¬G.rd a/\H a=some (.lst vs)/\Zh G Hf ds vs:=by
 obtain⟨a,h1,h2,h3,h4,vs,h5,h6⟩:=j.ow i _ hi e;exact⟨a,vs,h1,h2,h5,h6⟩
theorem Zcz {ρ:Zb}{i:Nat}{d:D}(h:(ρ[i]?).bind id=some d):ρ[i]?=some (some d):=by
 cases q:ρ[i]? with
 | none=>rw[q]at h;cases h
 | some o=>rw[q]at h;simp at h;rw[h]
theorem jw {s:Pn}{H:Hp}{a:Addr}{o:HO}(st:G.st s H)(h:¬G.rd a)
  (hx:∀φ,H a≠some (.ext φ):=by intro φ z;first | (have z2:=z.symm.trans (by assumption:_=some (L2.HO.lst _));cases z2) | (have z2:=z.symm.trans (by assumption:_=some (L2.HO.dK _));cases z2) | (have z2:=z.symm.trans (by assumption:_=some (L2.HO.dT _));cases z2)):G.st s (Zl H a o):=G.mono _ _ _ st (λb u rb e=>by
 have:b≠a:=λz=>h (z▸rb);rw[Zx this];exact e) λb φ e=>by
 have:b≠a:=λz=>hx φ (z▸e);rw[Zx this];exact e
noncomputable def Xz (i:Nat)(f:Zb->M D):Zb->M Out:=fun ρ=>Zp (f ρ) λd=>match (ρ[i]?).bind id with
 | some (.lst ds)=>if ds.length<xg then Zy (.nx (ρ.set i (some (.lst (ds ++ [d])))))else ZE
 | _=>ZE
theorem Zlv {i:Nat}{ob:List Nat}{te:TE}{r1:Bool}(hi:i∈own)(hy:VH G own r1 te f) :
  BO G ob own own fr (Bk (JC X.K "list" J8 (Yx i) (Jp te Jv))) (Xz i f):=λkn jR H0 σ H ρ s out s' E ⟨Hf,j⟩ st e po=>by
 obtain⟨d,s1,a1,a2⟩:=ZC e
 cases hb:(ρ[i]?).bind id with
 | none=>rw[hb]at a2;cases a2
 | some c=>
  rw[hb]at a2
  cases c with
  | lst ds=>
   have a2':(if ds.length<xg then Zy (.nx (ρ.set i (some (.lst (ds ++ [d])))))else ZE) s1=some (out,s'):=a2;obtain⟨c2,a3⟩:=Xc a2';obtain⟨rfl,rfl⟩:=ZN a3;have ei:=Zcz hb;obtain⟨a,vs,h1,h2,h3,h4⟩:=Ut j hi ei;refine⟨_,h1,.inl ⟨rfl,vs,ZA.of h3⟩,?_⟩;refine hy kn jR H0 σ Hf H ρ s d s' _ j st a1 λv Hf' H' j' e1 e2 st' r fz=>?_;obtain⟨a',vs',h1',h2',h3',h4'⟩:=Ut j' hi ei;rw[h1]at h1';cases h1';refine⟨a,vs',v,rfl,rfl,h3',by rw[<-h4'.length];exact c2,?_⟩;exact po σ _ ⟨Hf',j'.put hi ei h1 ⟨vs' ++ [v],ZQ,h4'.append (.one r)⟩⟩ (jw st' h2)
  | _=>cases a2
theorem VQ {i:Nat}{x:Str}{e:Expr}{pos p1 p2 p3:Pos}{te:TE}(hv:PE X (.Name x p1) (Yx i))(p:PE X e te)
  (hbase:xq (.Name x p1) "append" X.env (eval (.Name x p1) X.env)=eval (.Name x p1) X.env:=by rfl)
  (hfew:((backTo p3 (xh [e] X.env)).all (λx=>!x.1)&&(xp p3 (xi [] X.env)).all (λx=>x.1.isSome)
   && decide ([e].length+([]:List Keyword).length+(if ([]:List Keyword).isEmpty then 0 else 1)<30))=true:=by rfl)
  (hline:(p2.endLine==p3.line)=true:=by rfl) (hs:xh [e] X.env=(false,eval e X.env)::xh [] X.env:=by rfl)
  (hsw:xr (.Call (.Attribute (.Name x p1) "append" p2) [e] [] p3) none pos.line X.env=pure false:=by rfl) :
  PS X (.Expr (.Call (.Attribute (.Name x p1) "append" p2) [e] [] p3) pos) (Bk (JC X.K "list" J8 (Yx i) (Jp te Jv))):=
 Zld (Zjj qbn PySem.F.slot_list_append PySem.F.type_list_append ZdN hv (YK p Xi hs) hbase hfew hline hs rfl) hsw
section
variable {i:Nat}{x:Str}{e:Expr}{pos p1 p2 p3:Pos}{r1:Bool}{ob:List Nat}{st:Stmt}
theorem Ur (hi:i∈own)(he:PD X G r1 e f)(hp:∀te,PE X e te->PS X st (Bk (JC X.K "list" J8 (Yx i) (Jp te Jv)))):YH X G ob own own fr st (Xz i (fun ρ=>f (ZG own ρ))):=by
 obtain⟨t,p,q⟩:=he;exact⟨_,hp t p,Zlv hi (Ws.a q)⟩
end
end
section
variable {X:Cx}{G:Gh}
noncomputable def dI (C:Int->Int->Bool)(g:Int->Int->D):D->D->Option D
 | .int i,.int j=>if C i j=true then some (g i j)else none
 | _,_=>none
theorem Zeu {C:Int->Int->Bool}{g:Int->Int->D}{d e c:D}(h:dI C g d e=some c):∃i j,d=.int i/\e=.int j/\C i j=true/\c=g i j:=by
 match d,e,h with
 | .int i,.int j,h=>
  have h':(if C i j=true then some (g i j)else none)=some c:=h;split at h'
  ·rename_i hc;cases h';exact⟨i,j,rfl,rfl,hc,rfl⟩
  ·cases h'
theorem Zjx {f:Value->Value->Sem Value}{C:Int->Int->Prop}{Cb:Int->Int->Bool}{g:Int->Int->Int}(h:Z6 X f (rI C λi j=>.int (g i j)))(hc:∀i j,Cb i j=true->C i j):Xb X G f (dI Cb λi j=>.int (g i j)):=
 ⟨_,h,λHf H s x y d e c Q e1 st rx ry q k=>by
  obtain⟨i,j,rfl,rfl,hcb,rfl⟩:=Zeu q;exact⟨i,j,ja.mp rx,ja.mp ry,hc i j hcb,k _ Hf H (.refl e1) st (ja.mpr rfl) (.scal λz=>z)⟩⟩
theorem Znm {f:Value->Value->Sem Value}{g:Int->Int->Int}(h:Z6 X f (W7 λi j=>.int (g i j))):Xb X G f (dI (λ_ _=>true) λi j=>.int (g i j)):=
 ⟨_,h,λHf H s x y d e c Q e1 st rx ry q k=>by
  obtain⟨i,j,rfl,rfl,hcb,rfl⟩:=Zeu q;exact⟨i,j,ja.mp rx,ja.mp ry,k _ Hf H (.refl e1) st (ja.mpr rfl) (.scal λz=>z)⟩⟩
theorem Zgo {f:Value->Value->Sem Value}{g:Int->Int->Bool}(h:Z6 X f (W7 λi j=>.bl (g i j))):Xb X G f (dI (λ_ _=>true) λi j=>.bl (g i j)):=
 ⟨_,h,λHf H s x y d e c Q e1 st rx ry q k=>by
  obtain⟨i,j,rfl,rfl,hcb,rfl⟩:=Zeu q;exact⟨i,j,ja.mp rx,ja.mp ry,k _ Hf H (.refl e1) st (je.mpr rfl) (.scal λz=>z)⟩⟩
noncomputable def UJ:=dI (λ_ _=>true) λi j=>.int (i-j)
noncomputable def UC (i j:Int):Bool:=(decide (-(2 ^ 64)<i)&&decide (i<2 ^ 64))||(decide (-(2 ^ 64)<j)&&decide (j<2 ^ 64))
noncomputable def VJ:=dI UC λi j=>.int (i*j)
noncomputable def V6:=dI (λ_ j=>decide (0<j)) λi j=>.int (i % j)
noncomputable def dPow:=dI (λi j=>decide (0<=j)&&decide (j<=1000000)&&decide (i.natAbs<2 ^ 64)) λi j=>.int (i ^ j.toNat)
theorem Zlw:Xb X G (binaryOp .Sub) UJ:=Znm Zm6
theorem VX:Xb X G (binaryOp .Mult) VJ:=Zjx Zgg λi j h=>by
 simp only[UC,Bool.or_eq_true,zl,decide_eq_true_eq]at h;exact h
theorem ZcA:Xb X G (binaryOp .Mod) V6:=Zjx Zen λi j h=>by simpa using h
theorem Zlx:Xb X G (binaryOp .Pow) dPow:=Zjx Zm7 λi j h=>by
 simp only[zl,decide_eq_true_eq]at h;exact⟨h.1.1,h.1.2,h.2⟩
noncomputable def UN:=dI (λ_ _=>true) λi j=>.bl (decide (i<=j))
noncomputable def dGt:=dI (λ_ _=>true) λi j=>.bl (decide (j<i))
noncomputable def Vp:=dI (λ_ _=>true) λi j=>.bl (decide (j<=i))
theorem Zjy:Xb X G (xk .LtE) UN:=Zgo Zog
theorem Znn:Xb X G (xk .Gt) dGt:=Zgo Zms
theorem Zjz:Xb X G (xk .GtE) Vp:=Zgo Zoh
noncomputable def ZM:List D->Option (List Int)
 | []=>some []
 | .int i::ds=>(ZM ds).map (i :: ·)
 | _::_=>none
theorem WU:∀{ds:List D} {ns:List Int},ZM ds=some ns->ds=ns.map D.int
 | [],ns,h=>by simp[ZM]at h;subst h;rfl
 | .int i::ds,ns,h=>by
  cases e:ZM ds with
  | none=>simp[ZM,e]at h
  | some ms=>simp[ZM,e]at h;subst h;simp[WU e]
 | .non::_,_,h=>by simp[ZM]at h
 | .bl _::_,_,h=>by simp[ZM]at h
 | .str _::_,_,h=>by simp[ZM]at h
 | .tup _::_,_,h=>by simp[ZM]at h
 | .lst _::_,_,h=>by simp[ZM]at h
 | .dk _::_,_,h=>by simp[ZM]at h
 | .dt _::_,_,h=>by simp[ZM]at h
 | .du _::_,_,h=>by simp[ZM]at h
 | .df _::_,_,h=>by simp[ZM]at h
 | .pen::_,_,h=>by simp[ZM]at h
 | .ty _::_,_,h=>by simp[ZM]at h
theorem JL (ns:List Int):ZM (ns.map D.int)=some ns:=by
 induction ns with
 | nil=>rfl
 | cons n ns ih=>simp[ZM,ih]
theorem jn {H:Hp}:∀{ns:List Int} {vs:List V},Zh G H (ns.map D.int) vs->vs=ns.map V.int
 | [],vs,h=>Zh.nil_iff.mp h
 | n::ns,vs,h=>by
  obtain⟨v,r,rfl,h1,h2⟩:=jd.mp h;rw[ja.mp h1,jn h2];rfl
noncomputable def Wt:D->D->Option D
 | .int i,.int j=>some (.bl (decide (i<j)))
 | .tup a,.tup b=>match ZM a,ZM b with | some ns,some ms=>some (.bl (HT.lexLt ns ms)) | _,_=>none
 | _,_=>none
theorem Zgp (hu:X.A.units<cLine):Xb X G (xk .Lt) Wt:=
 ⟨_,Zjd.or (Znc hu),λHf H s x y d e c Q e1 st rx ry q k=>by
  match d,e,q,rx,ry with
  | .int i,.int j,q,rx,ry=>
   cases q
   exact .inl ⟨i,j,ja.mp rx,ja.mp ry,k _ Hf H (.refl e1) st (je.mpr rfl) (.scal λz=>z)⟩
  | .tup a,.tup b,q,rx,ry=>
   have q:(match ZM a,ZM b with | some ns,some ms=>some (D.bl (HT.lexLt ns ms)) | _,_=>none)=some c:=q
   cases ea:ZM a with
   | none=>rw[ea]at q;simp at q
   | some ns=>
    cases eb:ZM b with
    | none=>rw[ea,eb]at q;simp at q
    | some ms=>
     rw[ea,eb]at q
     cases q
     rw[WU ea]at rx;rw[WU eb]at ry;obtain⟨p,vs,rfl,np,hp,rp⟩:=jc.mp rx;obtain⟨p2,vs2,rfl,np2,hp2,rp2⟩:=jc.mp ry;rw[jn rp]at hp;rw[jn rp2]at hp2;exact .inr ⟨p,p2,ns,ms,rfl,rfl,ZH.of (e1 _ _ np hp),ZH.of (e1 _ _ np2 hp2),k _ Hf H (.refl e1) st (je.mpr rfl) (.scal λz=>z)⟩⟩
theorem Zly:Z6 X (binaryOp .Add) (λx y H Q=>∃a b ys,x=.ref a/\y=.ref b/\ZH X.K H a []/\ZH X.K H b ys/\Q (.ref b) H):=by
 intro jI s σ H x y v u Q I rx ry h;obtain⟨a,b,ys,rfl,rfl,ha,hb,q⟩:=h
 cases rx
 cases ry
 obtain⟨jK,r1,p1,_⟩:=I.tuple ha;obtain⟨j6,r2,p2,_⟩:=I.tuple hb;have e0:jK=[]:=by cases r1;rfl
 subst e0;obtain⟨⟨cls,dd,data,sl⟩,ho,hc,n,hd⟩:=id p1;obtain⟨⟨cls2,dd2,data2,sl2⟩,ho2,hc2,n2,hd2⟩:=id p2;simp only at hc hd hc2 hd2;subst hc hd hc2 hd2;exact concat_meets ⟨_,ho,rfl⟩ ⟨_,ho2,rfl⟩ noFill_tuple_add seq_tuple_add qbw qbm (qa8 _ _)
   (tuple_addW0 a b ([]:List Value).toArray j6.toArray n n2 dd dd2 sl sl2 rfl) ⟨ho,ho2,⟨.ref b,H,I,rfl,q⟩⟩
noncomputable def Yk:D->D->Option D
 | .int i,.int j=>some (.int (i+j))
 | .tup a,.tup b=>if a.length+b.length<=xg then some (.tup (a++b))else none
 | .lst a,.lst b=>if a.length+b.length<=xg then some (.lst (a++b))else none
 | _,_=>none
theorem XF:Xb X G (binaryOp .Add) Yk:=
 ⟨_,Zgf.or (Znf.or (Zlm.or Zly)),λHf H s x y d e c Q e1 st rx ry q k=>by
  match d,e,q,rx,ry with
  | .int i,.int j,q,rx,ry=>
   cases q
   exact .inl ⟨i,j,ja.mp rx,ja.mp ry,k _ Hf H (.refl e1) st (ja.mpr rfl) (.scal λz=>z)⟩
  | .lst a,.lst b,q,rx,ry=>
   have q:(if a.length+b.length<=xg then some (D.lst (a++b))else none)=some c:=q;split at q
   ·rename_i hz
    cases q
    obtain⟨p,vs,rfl,np,hp,rp⟩:=jb.mp rx;obtain⟨p2,vs2,rfl,np2,hp2,rp2⟩:=jb.mp ry;refine .inr (.inl ⟨p,p2,vs,vs2,rfl,rfl,e1 _ _ np hp,e1 _ _ np2 hp2,by rw[<-rp.length,<-rp2.length];exact hz,λl hl=>?_⟩);have nf:=Gh.nofp st hl;have g2:=Gr.new (o:=.lst (vs++vs2)) e1 hl nf;have rr:=rp.append rp2;exact k (.ref l) _ _ g2 (Gh.grow st hl) (jb.mpr ⟨l,_,rfl,nf,ZQ,rr.ext g2.ff⟩) (Z2.mk e1 hl nf rr)
   ·cases q
  | .tup a,.tup b,q,rx,ry=>
   have q:(if a.length+b.length<=xg then some (D.tup (a++b))else none)=some c:=q;split at q
   ·rename_i hz
    cases q
    obtain⟨p,vs,rfl,np,hp,rp⟩:=jc.mp rx;obtain⟨p2,vs2,rfl,np2,hp2,rp2⟩:=jc.mp ry;by_cases hv:vs=[]
    ·subst hv
     have ea:a=[]:=zS.mp (by rw[rp.length];rfl);subst ea;exact .inr (.inr (.inr ⟨p,p2,vs2,rfl,rfl,ZH.of (e1 _ _ np hp),ZH.of (e1 _ _ np2 hp2),k _ Hf H (.refl e1) st ry (.scal λz=>z)⟩))
    ·refine .inr (.inr (.inl ⟨p,p2,vs,vs2,rfl,rfl,ZH.of (e1 _ _ np hp),ZH.of (e1 _ _ np2 hp2),hv,by rw[<-rp.length,<-rp2.length];exact hz,λz=>?_,λ_ l hl=>?_⟩))
     ·subst z
      have eb:b=[]:=zS.mp (by rw[rp2.length];rfl);subst eb;rw[zj]at k;exact k _ Hf H (.refl e1) st rx (.scal λz=>z)
     ·have nf:=Gh.nofp st hl
      have g2:=Gr.new (o:=.tup (vs++vs2)) e1 hl nf;exact k (.ref l) _ _ g2 (Gh.grow st hl) (jc.mpr ⟨l,_,rfl,nf,ZQ,(rp.append rp2).ext g2.ff⟩) (.scal λz=>z)
   ·cases q⟩
noncomputable def Zn:D->D->Option D
 | .lst ds,.int i=>XB ds i
 | .tup ds,.int i=>XB ds i
 | _,_=>none
theorem Zhk {Hf:Hp}{ds:List D}{vs:List V}{i:Int}{c:D}(r:Zh G Hf ds vs)(h:XB ds i=some c):∃v,XB vs i=some v/\Zi G Hf c v:=by
 unfold XB at h⊢;rw[<-r.length]
 cases e:Ub ds.length i with
 | none=>rw[e]at h;cases h
 | some j=>
  rw[e]at h;obtain⟨v,h1,h2⟩:=r.get (i:=j) (d:=c) h;exact⟨v,h1,h2⟩
theorem Z0:IxD X G Zn:=
 ⟨_,WC.or Znd,λHf H s x y d e c Q e1 st rx ry q k=>by
  match d,e,q,rx,ry with
  | .lst ds,.int i,q,rx,ry=>
   obtain⟨p,vs,rfl,np,hp,rp⟩:=jb.mp rx;obtain⟨v,h1,h2⟩:=Zhk rp q;exact .inl ⟨p,vs,i,v,rfl,ja.mp ry,ZA.of (e1 _ _ np hp),h1,k v h2⟩
  | .tup ds,.int i,q,rx,ry=>
   obtain⟨p,vs,rfl,np,hp,rp⟩:=jc.mp rx;obtain⟨v,h1,h2⟩:=Zhk rp q;exact .inr ⟨p,vs,i,v,rfl,ja.mp ry,ZH.of (e1 _ _ np hp),h1,k v h2⟩⟩
theorem ji {H:Hp}{d:D}{xs:List V}(h:Zh G H [d] xs):∃v,xs=[v]/\Zi G H d v:=by
 obtain⟨v,r,rfl,h1,h2⟩:=jd.mp h;rw[Zh.nil_iff.mp h2];exact⟨v,rfl,h1⟩
theorem jo {H:Hp}{d e:D}{xs:List V}(h:Zh G H [d,e] xs):∃v w,xs=[v,w]/\Zi G H d v/\Zi G H e w:=by
 obtain⟨v,r,rfl,h1,h2⟩:=jd.mp h;obtain⟨w,rfl,h3⟩:=ji h2;exact⟨v,w,rfl,h1,h3⟩
noncomputable def Ya:List D->Option D
 | [.lst ds]=>some (.int ds.length)
 | [.tup ds]=>some (.int ds.length)
 | _=>none
theorem Zgq:XX X G (.builtin "len") Ya:=
 ⟨_,BV,λHf H s xs ds c Q e1 st r q k=>by
  match ds,q,r with
  | [.lst es],q,r=>
   cases q
   obtain⟨v,rfl,rv⟩:=ji r;obtain⟨p,vs,rfl,np,hp,rp⟩:=jb.mp rv;exact⟨p,vs,rfl,.inl (ZA.of (e1 _ _ np hp)),k _ Hf H (.refl e1) st (ja.mpr (by rw[rp.length])) (.scal λz=>z)⟩
  | [.tup es],q,r=>
   cases q
   obtain⟨v,rfl,rv⟩:=ji r;obtain⟨p,vs,rfl,np,hp,rp⟩:=jc.mp rv;exact⟨p,vs,rfl,.inr (ZH.of (e1 _ _ np hp)),k _ Hf H (.refl e1) st (ja.mpr (by rw[rp.length])) (.scal λz=>z)⟩⟩
noncomputable def WE:List D->Option D
 | [.lst ds]=>some (.tup ds)
 | [.tup ds]=>some (.tup ds)
 | _=>none
theorem UQ:XX X G (.type "tuple") WE:=
 ⟨_,Zdt,λHf H s xs ds c Q e1 st r q k=>by
  match ds,q,r with
  | [.lst es],q,r=>
   cases q
   obtain⟨v,rfl,rv⟩:=ji r;obtain⟨p,vs,rfl,np,hp,rp⟩:=jb.mp rv;refine⟨p,vs,rfl,.inl ⟨ZA.of (e1 _ _ np hp),λl hl=>?_⟩⟩;have nf:=Gh.nofp st hl;have g2:=Gr.new (o:=.tup vs) e1 hl nf;exact k (.ref l) _ _ g2 (Gh.grow st hl) (jc.mpr ⟨l,_,rfl,nf,ZQ,rp.ext g2.ff⟩) (.scal λz=>z)
  | [.tup es],q,r=>
   cases q
   obtain⟨v,rfl,rv⟩:=ji r;obtain⟨p,vs,rfl,np,hp,rp⟩:=jc.mp rv;exact⟨p,vs,rfl,.inr ⟨ZH.of (e1 _ _ np hp),k _ Hf H (.refl e1) st rv (.scal λz=>z)⟩⟩⟩
noncomputable def Zhl:List D->Option D
 | [.lst ds]=>some (.lst ds)
 | [.tup ds]=>some (.lst ds)
 | _=>none
theorem Zb9:XX X G (.type "list") Zhl:=
 ⟨_,Zeq,λHf H s xs ds c Q e1 st r q k=>by
  match ds,q,r with
  | [.lst es],q,r=>
   cases q
   obtain⟨v,rfl,rv⟩:=ji r;obtain⟨p,vs,rfl,np,hp,rp⟩:=jb.mp rv;refine⟨p,vs,rfl,.inl (ZA.of (e1 _ _ np hp)),λl hl=>?_⟩;have nf:=Gh.nofp st hl;have g2:=Gr.new (o:=.lst vs) e1 hl nf;exact k (.ref l) _ _ g2 (Gh.grow st hl) (jb.mpr ⟨l,_,rfl,nf,ZQ,rp.ext g2.ff⟩) (Z2.mk e1 hl nf rp)
  | [.tup es],q,r=>
   cases q
   obtain⟨v,rfl,rv⟩:=ji r;obtain⟨p,vs,rfl,np,hp,rp⟩:=jc.mp rv;refine⟨p,vs,rfl,.inr (ZH.of (e1 _ _ np hp)),λl hl=>?_⟩;have nf:=Gh.nofp st hl;have g2:=Gr.new (o:=.lst vs) e1 hl nf;exact k (.ref l) _ _ g2 (Gh.grow st hl) (jb.mpr ⟨l,_,rfl,nf,ZQ,rp.ext g2.ff⟩) (Z2.mk e1 hl nf rp)⟩
noncomputable def Bo:List D->Option D
 | [.int i,.int j]=>some (.int (if j > i then j else i))
 | _=>none
noncomputable def VE:List D->Option D
 | [.int i,.int j]=>some (.int (if j<i then j else i))
 | _=>none
theorem ZcR (hc:X.calm=true):XX X G (.builtin "max") Bo:=
 ⟨_,ZhZ hc,λHf H s xs ds c Q e1 st r q k=>by
  match ds,q,r with
  | [.int i,.int j],q,r=>
   cases q
   obtain⟨v,w,rfl,rv,rw'⟩:=jo r;rw[ja.mp rv,ja.mp rw'];exact⟨i,j,rfl,k _ Hf H (.refl e1) st (ja.mpr rfl) (.scal λz=>z)⟩⟩
theorem Za8 (hc:X.calm=true):XX X G (.builtin "min") VE:=
 ⟨_,Zh0 hc,λHf H s xs ds c Q e1 st r q k=>by
  match ds,q,r with
  | [.int i,.int j],q,r=>
   cases q
   obtain⟨v,w,rfl,rv,rw'⟩:=jo r;rw[ja.mp rv,ja.mp rw'];exact⟨i,j,rfl,k _ Hf H (.refl e1) st (ja.mpr rfl) (.scal λz=>z)⟩⟩
noncomputable def VF:List D->Option D
 | [.int i]=>some (.int i)
 | [.bl b]=>some (.int (if b then 1 else 0))
 | _=>none
theorem ZcS:XX X G (.type "int") VF:=
 ⟨_,Zh1,λHf H s xs ds c Q e1 st r q k=>by
  match ds,q,r with
  | [.int i],q,r=>
   cases q
   obtain⟨v,rfl,rv⟩:=ji r;rw[ja.mp rv];exact .inl ⟨i,rfl,k _ Hf H (.refl e1) st (ja.mpr rfl) (.scal λz=>z)⟩
  | [.bl i],q,r=>
   cases q
   obtain⟨v,rfl,rv⟩:=ji r;rw[je.mp rv];exact .inr ⟨i,rfl,k _ Hf H (.refl e1) st (ja.mpr rfl) (.scal λz=>z)⟩⟩
theorem Zhm {x:Str}{n:String}{pos:Pos}(hg:Gl X x)(hm:X.mg x=none)(hv:xj x=some (.type n))(hn:x≠"__name__":=by decide)(hd:(x==("__debug__" : Str))=false:=by decide):PD X G true (.Name x pos) (dC (.ty n)):=by
 refine⟨_,Zlb (v:=.ty n) hg hm hv rfl hn hd,fun σ Hf H ρ s d s' Q e1 e2 e3 e4 k=>?_⟩;obtain⟨rfl,rfl⟩:=ZN e4;exact k _ Hf H (.refl e1) e3 (jq.mpr rfl) λ_=>.scal λz=>z
noncomputable def Zev:D->Option String
 | .non=>some "NoneType"
 | .bl _=>some "bool"
 | .int _=>some "int"
 | .str _=>some "str"
 | .tup _=>some "tuple"
 | .lst _=>some "list"
 | .dk _=>some "dict"
 | .dt _=>none
 | .du _=>none
 | .df _=>none
 | _=>none
noncomputable def Bp:List String:=["int","bool","str","tuple","list","dict"]
noncomputable def BD:List D->Option D
 | [d,.ty T]=>match Zev d with
  | some n=>if Bp.contains T then some (.bl (n==T||(n == "bool" && T == "int")))else none
  | none=>none
 | _=>none
theorem Zlz (K:qm):∀n∈["NoneType","bool","int","str","tuple","list","dict"],∀T∈Bp,PySem.W.kitOne K (.type n) (.type T)=some (n==T||(n == "bool" && T == "int")):=by
 intro n hn T hT;simp only[Bp,qq,zX,or_false]at hn hT;rcases hn with rfl | rfl | rfl | rfl | rfl | rfl | rfl <;> rcases hT with rfl | rfl | rfl | rfl | rfl | rfl <;> rfl
theorem Zh9 {Hf H:Hp}{d:D}{v:V}{n:String}(e1:Zz G Hf H)(r:Zi G Hf d v)(h:Zev d=some n):TyOf X.K H v (.type n)/\n∈["NoneType","bool","int","str","tuple","list","dict"]:=by
 cases d with
 | non=>cases h;rw[jg.mp r];exact⟨.non,by decide⟩
 | bl b=>cases h;rw[je.mp r];exact⟨.bl b,by decide⟩
 | int b=>cases h;rw[ja.mp r];exact⟨.int b,by decide⟩
 | str b=>cases h;rw[jh.mp r];exact⟨.str b,by decide⟩
 | tup ds=>cases h;obtain⟨p,vs,rfl,np,hp,rp⟩:=jc.mp r;exact⟨.tup (e1 _ _ np hp),by decide⟩
 | lst ds=>cases h;obtain⟨p,vs,rfl,np,hp,rp⟩:=jb.mp r;exact⟨.lst (e1 _ _ np hp),by decide⟩
 | dk ds=>cases h;obtain⟨p,rfl,np,hp⟩:=jj.mp r;exact⟨.dK (e1 _ _ np hp),by decide⟩
 | dt ds=>cases h
 | du ds=>cases h
 | df ds=>cases h
 | pen=>cases h
 | ty _=>cases h
 | clo _ _=>cases h
theorem Zia:Y6 X (.builtin "isinstance") (λxs H Q=>∃x n T,xs=[x,.ty T]/\TyOf X.K H x (.type n)/\n∈["NoneType","bool","int","str","tuple","list","dict"]/\T∈Bp/\Q (.bl (n==T||(n == "bool" && T == "int"))) H):=by
 intro jI s σ H xs us Q I r h;obtain⟨x,n,T,rfl,ty,hn,hT,q⟩:=h;obtain⟨u,w',rfl,ru,rw'⟩:=Zhf r
 cases (show w'=yp T from rw')
 exact Zh3 I ru ty (Zlz X.K n hn T hT) λtk=>⟨.bl _,H,I.tok tk,rfl,q⟩
theorem B6:XX X G (.builtin "isinstance") BD:=
 ⟨_,Zia,λHf H s xs ds c Q e1 st r q k=>by
  match ds,q,r with
  | [d,.ty T],q,r=>
   obtain⟨v,w,rfl,rv,rw'⟩:=jo r;rw[jq.mp rw'];have q:(match Zev d with | some n=>if Bp.contains T then some (D.bl (n==T||(n == "bool" && T == "int")))else none | none=>none)=some c:=q
   cases e:Zev d with
   | none=>rw[e]at q;cases q
   | some n=>
    rw[e]at q;simp only at q;split at q
    ·rename_i hk
     cases q
     obtain⟨t1,t2⟩:=Zh9 (X:=X) e1 rv e;exact⟨v,n,T,rfl,t1,t2,by simpa using hk,k _ Hf H (.refl e1) st (je.mpr rfl) (.scal λz=>z)⟩
    ·cases q⟩
end
mutual
noncomputable def Zo:D->Bool
 | .non=>true
 | .bl _=>true
 | .int _=>true
 | .str _=>true
 | .tup ds=>Yl ds
 | .lst ds=>Yl ds
 | _=>false
noncomputable def Yl:List D->Bool
 | []=>true
 | d::ds=>Zo d&&Yl ds
end
mutual
noncomputable def Z1:D->Nat
 | .tup ds=>Xf ds+1
 | .lst ds=>Xf ds+1
 | _=>0
noncomputable def Xf:List D->Nat
 | []=>0
 | d::ds=>max (Z1 d) (Xf ds)
end
theorem U2:∀{ds:List D} {d:D},d∈ds->Z1 d<=Xf ds
 | e::ds,d,h=>by
  rcases qq.mp h with rfl | h
  ·simp only[Xf];omega
  ·have:=U2 h
   simp only[Xf];omega
theorem Uk:∀{ds:List D} {d:D},Yl ds=true->d∈ds->Zo d=true
 | e::ds,d,n,h=>by
  have n':Zo e=true/\Yl ds=true:=by simpa[Yl]using n
  rcases qq.mp h with rfl | h
  ·exact n'.1
  ·exact Uk n'.2 h
mutual
noncomputable def ZB:D->D->Bool
 | .non,.non=>true
 | .bl a,.bl b=>a==b
 | .bl a,.int i=>(if a then 1 else 0)==i
 | .int i,.bl b=>i==(if b then 1 else 0)
 | .int i,.int j=>i==j
 | .str x,.str y=>x==y
 | .tup a,.tup b=>Xk a b
 | .lst a,.lst b=>Xk a b
 | _,_=>false
noncomputable def Xk:List D->List D->Bool
 | [],[]=>true
 | a::as,b::bs=>ZB a b&&Xk as bs
 | _,_=>false
end
mutual
theorem Zbp:∀d:D,Zo d=true->ZB d d=true
 | .non,_=>by simp[ZB]
 | .bl _,_=>by simp[ZB]
 | .int _,_=>by simp[ZB]
 | .str _,_=>by simp[ZB]
 | .tup ds,h=>by simp only[ZB];exact ZbN ds (by simpa[Zo]using h)
 | .lst ds,h=>by simp only[ZB];exact ZbN ds (by simpa[Zo]using h)
 | .dk _,h=>by simp[Zo]at h
 | .dt _,h=>by simp[Zo]at h
 | .du _,h=>by simp[Zo]at h
 | .df _,h=>by simp[Zo]at h
 | .pen,h=>by simp[Zo]at h
 | .ty _,h=>by simp[Zo]at h
 | .clo _ _,h=>by simp[Zo]at h
theorem ZbN:∀ds:List D,Yl ds=true->Xk ds ds=true
 | [],_=>by simp[Xk]
 | d::ds,h=>by
  have n':Zo d=true/\Yl ds=true:=by simpa[Yl]using h
  simp only[Xk,Zbp d n'.1,ZbN ds n'.2,Bool.and_self]
end
theorem ZcT:∀{a b:List D},Xk a b=true->a.length=b.length
 | [],[],_=>rfl
 | a::as,b::bs,h=>by
  have:ZB a b=true/\Xk as bs=true:=by simpa[Xk]using h
  simp[ZcT this.2]
 | [],_::_,h=>by simp[Xk]at h
 | _::_,[],h=>by simp[Xk]at h
theorem Za9:∀(a b:List D),a.length=b.length->(qk a.length).all (λj=>ZB (a.getD j .non) (b.getD j .non))=Xk a b
 | [],[],_=>rfl
 | a::as,b::bs,h=>by
  have h':as.length=bs.length:=by simpa using h
  rw[qL,y9,List.all_cons,qde,Xk,<-Za9 as bs h'];rfl
 | [],_::_,h=>by simp at h
 | _::_,[],h=>by simp at h
theorem Zfm:∀(a b:List D),((qk (min a.length b.length)).all (λj=>ZB (a.getD j .non) (b.getD j .non))&&a.length==b.length)=Xk a b:=λa b=>by
 by_cases h:a.length=b.length
 ·rw[<-Za9 a b h,h];simp
 ·have:Xk a b=false:=by
   cases e:Xk a b with
   | false=>rfl
   | true=>exact absurd (ZcT e) h
  rw[this];simp[h]
mutual
theorem Zi.inj {G:Gh}{H:Hp}:∀{d e:D} {v:V},Zo d=true->Zo e=true->Zi G H d v->Zi G H e v->d=e
 | .non,e,v,_,pe,h,h'=>by
  rw[jg.mp h]at h'
  cases e <;> first | rfl | (simp[Zo]at pe;done) | (simp[Zi]at h')
 | .bl b,e,v,_,pe,h,h'=>by
  rw[je.mp h]at h'
  cases e <;> first | (simp[Zo]at pe;done) | (simp[Zi]at h';rw[h']) | (simp[Zi]at h')
 | .int b,e,v,_,pe,h,h'=>by
  rw[ja.mp h]at h'
  cases e <;> first | (simp[Zo]at pe;done) | (simp[Zi]at h';rw[h']) | (simp[Zi]at h')
 | .str b,e,v,_,pe,h,h'=>by
  rw[jh.mp h]at h'
  cases e <;> first | (simp[Zo]at pe;done) | (simp[Zi]at h';rw[h']) | (simp[Zi]at h')
 | .tup ds,e,v,pd,pe,h,h'=>by
  obtain⟨a,vs,rfl,n,q,r⟩:=jc.mp h
  cases e with
  | tup es=>
   obtain⟨a',vs',e',n',q',r'⟩:=jc.mp h'
   cases e'
   rw[q]at q';cases q';rw[Zh.inj (by simpa[Zo]using pd) (by simpa[Zo]using pe) r r']
  | lst es=>
   obtain⟨a',vs',e',n',q',r'⟩:=jb.mp h'
   cases e'
   rw[q]at q';cases q'
  | _=>first | (simp[Zi]at h';done) | (simp[Zo]at pe;done)
 | .lst ds,e,v,pd,pe,h,h'=>by
  obtain⟨a,vs,rfl,n,q,r⟩:=jb.mp h
  cases e with
  | lst es=>
   obtain⟨a',vs',e',n',q',r'⟩:=jb.mp h'
   cases e'
   rw[q]at q';cases q';rw[Zh.inj (by simpa[Zo]using pd) (by simpa[Zo]using pe) r r']
  | tup es=>
   obtain⟨a',vs',e',n',q',r'⟩:=jc.mp h'
   cases e'
   rw[q]at q';cases q'
  | _=>first | (simp[Zi]at h';done) | (simp[Zo]at pe;done)
 | .dk _,_,_,pd,_,_,_=>by simp[Zo]at pd
 | .dt _,_,_,pd,_,_,_=>by simp[Zo]at pd
 | .du _,_,_,pd,_,_,_=>by simp[Zo]at pd
 | .df _,_,_,pd,_,_,_=>by simp[Zo]at pd
 | .pen,_,_,pd,_,_,_=>by simp[Zo]at pd
 | .ty _,_,_,pd,_,_,_=>by simp[Zo]at pd
 | .clo _ _,_,_,pd,_,_,_=>by simp[Zo]at pd
theorem Zh.inj {G:Gh}{H:Hp}:∀{ds es:List D} {vs:List V},Yl ds=true->Yl es=true->Zh G H ds vs->Zh G H es vs->ds=es
 | [],es,vs,_,pe,h,h'=>by
  rw[Zh.nil_iff.mp h]at h'
  cases es with
  | nil=>rfl
  | cons e es=>obtain⟨v,r,e1,_⟩:=jd.mp h';cases e1
 | d::ds,es,vs,pd,pe,h,h'=>by
  obtain⟨v,r,rfl,r1,r2⟩:=jd.mp h;have pd':Zo d=true/\Yl ds=true:=by simpa[Yl]using pd
  cases es with
  | nil=>have:=Zh.nil_iff.mp h';cases this
  | cons e es=>
   obtain⟨v',r',e1,r1',r2'⟩:=jd.mp h'
   cases e1
   have pe':Zo e=true/\Yl es=true:=by simpa[Yl]using pe
   rw[Zi.inj pd'.1 pe'.1 r1 r1',Zh.inj pd'.2 pe'.2 r2 r2']
end
section
variable {X:Cx}{G:Gh}{jI:Qb}{σ:St}{Hf H:Hp}{s:Shared}
theorem JT (A:xC):A.in1.units=A.units+1:=rfl
theorem ZcB {ds:List D}{vs:List V}{us:List Value}(r:Zh G Hf ds vs)(rv:Zu vs us){j:Nat}(h:j<us.toArray.size):∃v,Zi G Hf (ds.getD j .non) v/\ZI v us.toArray[j]/\ds.getD j .non∈ds:=by
 have hl:j<ds.length:=by rw[r.length,rv.length];simpa using h
 have e:ds[j]?=some (ds.getD j .non):=by simp[qbF,hl]
 obtain⟨v,h1,h2⟩:=r.get e;obtain⟨u,h3,h4⟩:=rv.get h1;refine⟨v,h2,?_,?_⟩
 ·have:us.toArray[j]=u:=by
   have h':j<us.length:=by simpa using h
   have q:us[j]?=some us[j]:=by simp[h']
   rw[h3]at q;simpa using(zw q).symm
  rw[this];exact h4
 ·simp[qbF,hl]
theorem ZjA (I:Inv X jI σ H s)(e1:Zz G Hf H):∀(n:Nat) (A:xC) (d e:D) (x y:V) (u v:Value),Z1 d<=n->Z1 e<=n->A.units+n+1<cLine->Zo d=true->Zo e=true->Zi G Hf d x->Zi G Hf e y->ZI x u->ZI y v->
  qaY A s u v (ZB d e)/\qcT A s u v (ZB d e)/\qcf A s u v (!ZB d e):=by
 intro n
 induction n with
 | zero=>
  intro A d e x y u v hd he hu pd pe rd re ru rv;have hu':A.units<cLine:=by omega
  cases d with
  | tup ds=>simp[Z1]at hd
  | lst ds=>simp[Z1]at hd
  | dk _=>simp[Zo]at pd
  | dt _=>simp[Zo]at pd
  | du _=>simp[Zo]at pd
  | df _=>simp[Zo]at pd
  | pen=>simp[Zo]at pd
  | ty _=>simp[Zo]at pd
  | clo _ _=>simp[Zo]at pd
  | non=>
   rw[jg.mp rd]at ru
   cases (show u=zm from ru)
   cases e with
   | tup ds=>simp[Z1]at he
   | lst ds=>simp[Z1]at he
   | dk _=>simp[Zo]at pe
   | dt _=>simp[Zo]at pe
   | du _=>simp[Zo]at pe
   | df _=>simp[Zo]at pe
   | pen=>simp[Zo]at pe
   | ty _=>simp[Zo]at pe
   | clo _ _=>simp[Zo]at pe
   | non=>rw[jg.mp re]at rv;cases (show v=zm from rv);simp only[ZB];exact⟨.same _,.none_none,.none_none⟩
   | bl b=>rw[je.mp re]at rv;cases (show v=yP b from rv);simp only[ZB];exact⟨.none_bool b,.none_bool b,.none_bool b⟩
   | int b=>rw[ja.mp re]at rv;obtain⟨t,rfl⟩:=rv;simp only[ZB];exact⟨.none_int b t,.none_int b t,.none_int b t⟩
   | str b=>rw[jh.mp re]at rv;obtain⟨t,rfl⟩:=rv;simp only[ZB];exact⟨.none_str b t,.none_str b t,.none_str b t⟩
  | bl a=>
   rw[je.mp rd]at ru
   cases (show u=yP a from ru)
   cases e with
   | tup ds=>simp[Z1]at he
   | lst ds=>simp[Z1]at he
   | dk _=>simp[Zo]at pe
   | dt _=>simp[Zo]at pe
   | du _=>simp[Zo]at pe
   | df _=>simp[Zo]at pe
   | pen=>simp[Zo]at pe
   | ty _=>simp[Zo]at pe
   | clo _ _=>simp[Zo]at pe
   | non=>rw[jg.mp re]at rv;cases (show v=zm from rv);simp only[ZB];exact⟨.bool_none a,.bool_none a,.bool_none a⟩
   | bl b=>rw[je.mp re]at rv;cases (show v=yP b from rv);simp only[ZB];exact⟨.bool_bool a b,.bool_bool a b,.bool_bool a b⟩
   | int b=>rw[ja.mp re]at rv;obtain⟨t,rfl⟩:=rv;simp only[ZB];exact⟨.bool_int a b t,.bool_int a b t,.bool_int a b t⟩
   | str b=>rw[jh.mp re]at rv;obtain⟨t,rfl⟩:=rv;simp only[ZB];exact⟨.bool_str a b t,.bool_str a b t,.bool_str a b t⟩
  | int a=>
   rw[ja.mp rd]at ru;obtain⟨ta,rfl⟩:=ru
   cases e with
   | tup ds=>simp[Z1]at he
   | lst ds=>simp[Z1]at he
   | dk _=>simp[Zo]at pe
   | dt _=>simp[Zo]at pe
   | du _=>simp[Zo]at pe
   | df _=>simp[Zo]at pe
   | pen=>simp[Zo]at pe
   | ty _=>simp[Zo]at pe
   | clo _ _=>simp[Zo]at pe
   | non=>rw[jg.mp re]at rv;cases (show v=zm from rv);simp only[ZB];exact⟨.int_none a ta,.int_none a ta,.int_none a ta⟩
   | bl b=>rw[je.mp re]at rv;cases (show v=yP b from rv);simp only[ZB];exact⟨.int_bool a ta b,.int_bool a ta b,.int_bool a ta b⟩
   | int b=>rw[ja.mp re]at rv;obtain⟨t,rfl⟩:=rv;simp only[ZB];exact⟨.int_int a ta b t,.int_int a ta b t,.int_int a ta b t⟩
   | str b=>rw[jh.mp re]at rv;obtain⟨t,rfl⟩:=rv;simp only[ZB];exact⟨.int_str a ta b t,.int_str a ta b t,.int_str a ta b t⟩
  | str a=>
   rw[jh.mp rd]at ru;obtain⟨ta,rfl⟩:=ru
   cases e with
   | tup ds=>simp[Z1]at he
   | lst ds=>simp[Z1]at he
   | dk _=>simp[Zo]at pe
   | dt _=>simp[Zo]at pe
   | du _=>simp[Zo]at pe
   | df _=>simp[Zo]at pe
   | pen=>simp[Zo]at pe
   | ty _=>simp[Zo]at pe
   | clo _ _=>simp[Zo]at pe
   | non=>rw[jg.mp re]at rv;cases (show v=zm from rv);simp only[ZB];exact⟨.str_none a ta,.str_none a ta,.str_none a ta⟩
   | bl b=>rw[je.mp re]at rv;cases (show v=yP b from rv);simp only[ZB];exact⟨.str_bool a ta b,.str_bool a ta b,.str_bool a ta b⟩
   | int b=>rw[ja.mp re]at rv;obtain⟨t,rfl⟩:=rv;simp only[ZB];exact⟨.str_int a ta b t,.str_int a ta b t,.str_int a ta b t⟩
   | str b=>rw[jh.mp re]at rv;obtain⟨t,rfl⟩:=rv;simp only[ZB];exact⟨.str_str a ta b t,.str_str a ta b t,.str_str a ta b t⟩
 | succ n ih=>
  intro A d e x y u v hd he hu pd pe rd re ru rv;have hu':A.units<cLine:=by omega
  by_cases hs:Z1 d<=n/\Z1 e<=n
  ·exact ih A d e x y u v hs.1 hs.2 (by omega) pd pe rd re ru rv
  -- two refs
  have same:∀{l b:Addr},x=.ref l->y=.ref b->l=b->ZB d e=true:=λex ey el=>by
   subst ex ey el;have:=Zi.inj pd pe rd re;subst this;exact Zbp d pd
  cases d with
  | dk _=>simp[Zo]at pd
  | dt _=>simp[Zo]at pd
  | du _=>simp[Zo]at pd
  | df _=>simp[Zo]at pd
  | pen=>simp[Zo]at pd
  | ty _=>simp[Zo]at pd
  | clo _ _=>simp[Zo]at pd
  | tup ds=>
   obtain⟨l,vs,rfl,nl,hl,rl⟩:=jc.mp rd
   cases (show u=qY l from ru)
   obtain⟨jK,rits,pits,_⟩:=I.tuple (ZH.of (K:=X.K) (e1 _ _ nl hl));have il:s.heap.IsTuple l jK.toArray:=pits
   cases e with
   | dk _=>simp[Zo]at pe
   | dt _=>simp[Zo]at pe
   | du _=>simp[Zo]at pe
   | df _=>simp[Zo]at pe
   | pen=>simp[Zo]at pe
   | ty _=>simp[Zo]at pe
   | clo _ _=>simp[Zo]at pe
   | non=>rw[jg.mp re]at rv;cases (show v=zm from rv);simp only[ZB];exact⟨.tuple_none il hu',.tuple_none il hu',.tuple_none il hu'⟩
   | bl b=>rw[je.mp re]at rv;cases (show v=yP b from rv);simp only[ZB];exact⟨.tuple_bool b il hu',.tuple_bool b il hu',.tuple_bool b il hu'⟩
   | int b=>rw[ja.mp re]at rv;obtain⟨t,rfl⟩:=rv;simp only[ZB];exact⟨.tuple_int b t il hu',.tuple_int b t il hu',.tuple_int b t il hu'⟩
   | str b=>rw[jh.mp re]at rv;obtain⟨t,rfl⟩:=rv;simp only[ZB];exact⟨.tuple_str b t il hu',.tuple_str b t il hu',.tuple_str b t il hu'⟩
   | lst es=>
    obtain⟨b,ws,rfl,nb,hb,rb⟩:=jb.mp re
    cases (show v=qY b from rv)
    obtain⟨j6,ke,jX,_⟩:=I.list (ZA.of (K:=X.K) (e1 _ _ nb hb));simp only[ZB];exact⟨.tuple_list il jX.isList hu',.tuple_list il jX.isList hu',.tuple_list il jX.isList hu'⟩
   | tup es=>
    obtain⟨b,ws,rfl,nb,hb,rb⟩:=jc.mp re
    cases (show v=qY b from rv)
    obtain⟨j6,ke,jX,_⟩:=I.tuple (ZH.of (K:=X.K) (e1 _ _ nb hb));have ib:s.heap.IsTuple b j6.toArray:=jX;have hit:∀j (h1:j<jK.toArray.size) (h2:j<j6.toArray.size),qaY A.in1 s jK.toArray[j] j6.toArray[j] ((λj=>ZB (ds.getD j .non) (es.getD j .non)) j):=λj h1 h2=>by
     obtain⟨v1,a1,a2,a3⟩:=ZcB rl rits h1;obtain⟨v2,b1,b2,b3⟩:=ZcB rb ke h2;exact(ih A.in1 _ _ v1 v2 _ _ (zi (U2 a3) (by simp[Z1]at hd;omega)) (zi (U2 b3) (by simp[Z1]at he;omega)) (by rw[JT];omega)
      (Uk (by simpa[Zo]using pd) a3) (Uk (by simpa[Zo]using pe) b3) a1 b1 a2 b2).1
    have sz1:jK.toArray.size=ds.length:=by rw[rl.length,rits.length];simp
    have sz2:j6.toArray.size=es.length:=by rw[rb.length,ke.length];simp
    have rc:=qcT.tuples (e:=λj=>ZB (ds.getD j .non) (es.getD j .non)) il ib hu' hit;have rn:=qcf.tuples (e:=λj=>ZB (ds.getD j .non) (es.getD j .non)) il ib hu' hit;rw[sz1,sz2,Zfm]at rc rn;simp only[ZB];refine⟨?_,rc,rn⟩;by_cases hlb:l=b
    ·have q:=same rfl rfl hlb
     simp only[ZB]at q;subst hlb;rw[q];exact .same _
    ·exact .of_refs hlb rc
  | lst ds=>
   obtain⟨l,vs,rfl,nl,hl,rl⟩:=jb.mp rd
   cases (show u=qY l from ru)
   obtain⟨jK,rits,pits,_⟩:=I.list (ZA.of (K:=X.K) (e1 _ _ nl hl));have il:=pits.isList
   cases e with
   | dk _=>simp[Zo]at pe
   | dt _=>simp[Zo]at pe
   | du _=>simp[Zo]at pe
   | df _=>simp[Zo]at pe
   | pen=>simp[Zo]at pe
   | ty _=>simp[Zo]at pe
   | clo _ _=>simp[Zo]at pe
   | non=>rw[jg.mp re]at rv;cases (show v=zm from rv);simp only[ZB];exact⟨.list_none il hu',.list_none il hu',.list_none il hu'⟩
   | bl b=>rw[je.mp re]at rv;cases (show v=yP b from rv);simp only[ZB];exact⟨.list_bool b il hu',.list_bool b il hu',.list_bool b il hu'⟩
   | int b=>rw[ja.mp re]at rv;obtain⟨t,rfl⟩:=rv;simp only[ZB];exact⟨.list_int b t il hu',.list_int b t il hu',.list_int b t il hu'⟩
   | str b=>rw[jh.mp re]at rv;obtain⟨t,rfl⟩:=rv;simp only[ZB];exact⟨.list_str b t il hu',.list_str b t il hu',.list_str b t il hu'⟩
   | tup es=>
    obtain⟨b,ws,rfl,nb,hb,rb⟩:=jc.mp re
    cases (show v=qY b from rv)
    obtain⟨j6,ke,jX,_⟩:=I.tuple (ZH.of (K:=X.K) (e1 _ _ nb hb));have ib:s.heap.IsTuple b j6.toArray:=jX;simp only[ZB];exact⟨.list_tuple il ib hu',.list_tuple il ib hu',.list_tuple il ib hu'⟩
   | lst es=>
    obtain⟨b,ws,rfl,nb,hb,rb⟩:=jb.mp re
    cases (show v=qY b from rv)
    obtain⟨j6,ke,jX,_⟩:=I.list (ZA.of (K:=X.K) (e1 _ _ nb hb));have ib:=jX.isList;have hit:∀j (h1:j<jK.toArray.size) (h2:j<j6.toArray.size),qaY A.in1 s jK.toArray[j] j6.toArray[j] ((λj=>ZB (ds.getD j .non) (es.getD j .non)) j):=λj h1 h2=>by
     obtain⟨v1,a1,a2,a3⟩:=ZcB rl rits h1;obtain⟨v2,b1,b2,b3⟩:=ZcB rb ke h2;exact(ih A.in1 _ _ v1 v2 _ _ (zi (U2 a3) (by simp[Z1]at hd;omega)) (zi (U2 b3) (by simp[Z1]at he;omega)) (by rw[JT];omega)
      (Uk (by simpa[Zo]using pd) a3) (Uk (by simpa[Zo]using pe) b3) a1 b1 a2 b2).1
    have sz1:jK.toArray.size=ds.length:=by rw[rl.length,rits.length];simp
    have sz2:j6.toArray.size=es.length:=by rw[rb.length,ke.length];simp
    have key:qcT A s (.ref l) (.ref b) (Xk ds es)/\qcf A s (.ref l) (.ref b) (!Xk ds es):=by
     by_cases hsz:ds.length=es.length
     ·have rc:=qcT.lists (e:=λj=>ZB (ds.getD j .non) (es.getD j .non)) il ib (by rw[sz1,sz2];exact hsz) hu' hit
      have rn:=qcf.lists (e:=λj=>ZB (ds.getD j .non) (es.getD j .non)) il ib (by rw[sz1,sz2];exact hsz) hu' hit;rw[sz1,Za9 ds es hsz]at rc rn;exact⟨rc,rn⟩
     ·have hne:(jK.toArray.size != j6.toArray.size)=true:=by rw[sz1,sz2];simpa using hsz
      have hf:Xk ds es=false:=by
       cases e:Xk ds es with
       | false=>rfl
       | true=>exact absurd (ZcT e) hsz
      rw[hf];exact⟨.lists_lengths il ib hne hu',.lists_lengths il ib hne hu'⟩
    simp only[ZB];refine⟨?_,key.1,key.2⟩;by_cases hlb:l=b
    ·have q:=same rfl rfl hlb
     simp only[ZB]at q;subst hlb;rw[q];exact .same _
    ·exact .of_refs hlb key.1
  | non=>
   rw[jg.mp rd]at ru
   cases (show u=zm from ru)
   cases e with
   | tup es=>
    obtain⟨b,ws,rfl,nb,hb,rb⟩:=jc.mp re
    cases (show v=qY b from rv)
    obtain⟨j6,ke,jX,_⟩:=I.tuple (ZH.of (K:=X.K) (e1 _ _ nb hb));have ib:s.heap.IsTuple b j6.toArray:=jX;simp only[ZB];exact⟨.none_tuple ib hu',.none_tuple ib hu',.none_tuple ib hu'⟩
   | lst es=>
    obtain⟨b,ws,rfl,nb,hb,rb⟩:=jb.mp re
    cases (show v=qY b from rv)
    obtain⟨j6,ke,jX,_⟩:=I.list (ZA.of (K:=X.K) (e1 _ _ nb hb));have ib:=jX.isList;simp only[ZB];exact⟨.none_list ib hu',.none_list ib hu',.none_list ib hu'⟩
   | _=>simp[Z1]at hs
  | bl a=>
   rw[je.mp rd]at ru
   cases (show u=yP a from ru)
   cases e with
   | tup es=>
    obtain⟨b,ws,rfl,nb,hb,rb⟩:=jc.mp re
    cases (show v=qY b from rv)
    obtain⟨j6,ke,jX,_⟩:=I.tuple (ZH.of (K:=X.K) (e1 _ _ nb hb));have ib:s.heap.IsTuple b j6.toArray:=jX;simp only[ZB];exact⟨.bool_tuple a ib hu',.bool_tuple a ib hu',.bool_tuple a ib hu'⟩
   | lst es=>
    obtain⟨b,ws,rfl,nb,hb,rb⟩:=jb.mp re
    cases (show v=qY b from rv)
    obtain⟨j6,ke,jX,_⟩:=I.list (ZA.of (K:=X.K) (e1 _ _ nb hb));have ib:=jX.isList;simp only[ZB];exact⟨.bool_list a ib hu',.bool_list a ib hu',.bool_list a ib hu'⟩
   | _=>simp[Z1]at hs
  | int a=>
   rw[ja.mp rd]at ru;obtain⟨ta,rfl⟩:=ru
   cases e with
   | tup es=>
    obtain⟨b,ws,rfl,nb,hb,rb⟩:=jc.mp re
    cases (show v=qY b from rv)
    obtain⟨j6,ke,jX,_⟩:=I.tuple (ZH.of (K:=X.K) (e1 _ _ nb hb));have ib:s.heap.IsTuple b j6.toArray:=jX;simp only[ZB];exact⟨.int_tuple a ta ib hu',.int_tuple a ta ib hu',.int_tuple a ta ib hu'⟩
   | lst es=>
    obtain⟨b,ws,rfl,nb,hb,rb⟩:=jb.mp re
    cases (show v=qY b from rv)
    obtain⟨j6,ke,jX,_⟩:=I.list (ZA.of (K:=X.K) (e1 _ _ nb hb));have ib:=jX.isList;simp only[ZB];exact⟨.int_list a ta ib hu',.int_list a ta ib hu',.int_list a ta ib hu'⟩
   | _=>simp[Z1]at hs
  | str a=>
   rw[jh.mp rd]at ru;obtain⟨ta,rfl⟩:=ru
   cases e with
   | tup es=>
    obtain⟨b,ws,rfl,nb,hb,rb⟩:=jc.mp re
    cases (show v=qY b from rv)
    obtain⟨j6,ke,jX,_⟩:=I.tuple (ZH.of (K:=X.K) (e1 _ _ nb hb));have ib:s.heap.IsTuple b j6.toArray:=jX;simp only[ZB];exact⟨.str_tuple a ta ib hu',.str_tuple a ta ib hu',.str_tuple a ta ib hu'⟩
   | lst es=>
    obtain⟨b,ws,rfl,nb,hb,rb⟩:=jb.mp re
    cases (show v=qY b from rv)
    obtain⟨j6,ke,jX,_⟩:=I.list (ZA.of (K:=X.K) (e1 _ _ nb hb));have ib:=jX.isList;simp only[ZB];exact⟨.str_list a ta ib hu',.str_list a ta ib hu',.str_list a ta ib hu'⟩
   | _=>simp[Z1]at hs
end
section
variable {X:Cx}{G:Gh}
noncomputable def Wq (d e:D):Bool:=Zo d&&Zo e&&decide (Z1 d<=60)&&decide (Z1 e<=60)
theorem ZdS {d e:D}(h:Wq d e=true):Zo d=true/\Zo e=true/\Z1 d<=60/\Z1 e<=60:=by
 simp only[Wq,zl,decide_eq_true_eq]at h;exact⟨h.1.1.1,h.1.1.2,h.1.2,h.2⟩
noncomputable def Yy (d e:D):Option D:=if Wq d e=true then some (.bl (ZB d e))else none
noncomputable def Y8 (d e:D):Option D:=if Wq d e=true then some (.bl (!ZB d e))else none
noncomputable def rEqD (G:Gh)(neg:Bool):R2:=λx y H Q=>∃Hf d e,Zz G Hf H/\Wq d e=true/\Zi G Hf d x/\Zi G Hf e y/\Q (.bl (if neg then !ZB d e else ZB d e)) H
theorem Zno (hu:X.A.units+64<cLine):Z6 X (xk .Eq) (rEqD G false):=by
 intro jI s σ H x y v u Q I rx ry h;obtain⟨Hf,d,e,e1,ok,rd,re,q⟩:=h;obtain⟨o1,o2,o3,o4⟩:=ZdS ok;exact(ZjA I e1 60 X.A d e x y v u o3 o4 (by omega) o1 o2 rd re rx ry).2.1 _ _ _ _ ⟨.bl (ZB d e),H,I,rfl,q⟩
theorem Znp (hu:X.A.units+64<cLine):Z6 X (xk .NotEq) (rEqD G true):=by
 intro jI s σ H x y v u Q I rx ry h;obtain⟨Hf,d,e,e1,ok,rd,re,q⟩:=h;obtain⟨o1,o2,o3,o4⟩:=ZdS ok;exact(ZjA I e1 60 X.A d e x y v u o3 o4 (by omega) o1 o2 rd re rx ry).2.2 _ _ _ _ ⟨.bl (!ZB d e),H,I,rfl,q⟩
theorem Uz (hu:X.A.units+64<cLine):Xb X G (xk .Eq) Yy:=
 ⟨_,Zno (G:=G) hu,λHf H s x y d e c Q e1 st rx ry q k=>by
  unfold Yy at q;split at q
  ·rename_i ok
   cases q
   exact⟨Hf,d,e,e1,ok,rx,ry,k _ Hf H (.refl e1) st (je.mpr rfl) (.scal λz=>z)⟩
  ·cases q⟩
theorem Jc (hu:X.A.units+64<cLine):Xb X G (xk .NotEq) Y8:=
 ⟨_,Znp (G:=G) hu,λHf H s x y d e c Q e1 st rx ry q k=>by
  unfold Y8 at q;split at q
  ·rename_i ok
   cases q
   exact⟨Hf,d,e,e1,ok,rx,ry,k _ Hf H (.refl e1) st (je.mpr rfl) (.scal λz=>z)⟩
  ·cases q⟩
noncomputable def XO (x:D)(ds:List D):Bool:=Zo x&&Yl ds&&decide (Z1 x<=60)&&decide (Xf ds<=60)
noncomputable def XV (x:D)(ds:List D):Bool:=ds.any λd=>ZB d x
theorem Zib {x:D}{ds:List D}(h:XO x ds=true):Zo x=true/\Yl ds=true/\Z1 x<=60/\Xf ds<=60:=by
 simp only[XO,zl,decide_eq_true_eq]at h;exact⟨h.1.1.1,h.1.1.2,h.1.2,h.2⟩
open Classical in
noncomputable def UK (G:Gh)(Hf:Hp)(x:D)(u:Value):Bool:=if h:∃d v,Zo d=true/\Zi G Hf d v/\ZI v u then ZB h.choose x else false
theorem Zhn {Hf:Hp}{x d:D}{v:V}{u:Value}(pd:Zo d=true)(r:Zi G Hf d v)(ru:ZI v u):UK G Hf x u=ZB d x:=by
 have h:∃d v,Zo d=true/\Zi G Hf d v/\ZI v u:=⟨d,v,pd,r,ru⟩;unfold UK;rw[dif_pos h];obtain⟨v',p',r',ru'⟩:=h.choose_spec;have ev:v'=v:=ZI.inj ru' ru;subst ev;rw[Zi.inj p' pd r' r]
theorem Zfn {Hf:Hp}{x:D}:∀{ds:List D} {vs:List V} {us:List Value},Yl ds=true->Zh G Hf ds vs->Zu vs us->us.any (UK G Hf x)=XV x ds
 | [],vs,us,_,r,rv=>by
  rw[Zh.nil_iff.mp r]at rv
  cases rv
  rfl
 | d::ds,vs,us,p,r,rv=>by
  obtain⟨v,rr,rfl,r1,r2⟩:=jd.mp r;have p':Zo d=true/\Yl ds=true:=by simpa[Yl]using p
  cases rv with
  | cons a b=>
   rw[qaF,Zhn p'.1 r1 a,Zfn p'.2 r2 b];rfl
theorem Zfo {Hf:Hp}:∀{ds:List D} {vs:List V} {us:List Value} {u:Value},Zh G Hf ds vs->Zu vs us->u∈us->∃d v,d∈ds/\Zi G Hf d v/\ZI v u
 | [],vs,us,u,r,rv,m=>by
  rw[Zh.nil_iff.mp r]at rv
  cases rv
  simp at m
 | d::ds,vs,us,u,r,rv,m=>by
  obtain⟨v,rr,rfl,r1,r2⟩:=jd.mp r
  cases rv with
  | cons a b=>
   rcases qq.mp m with e | m
   ·subst e;exact⟨d,v,by simp,r1,a⟩
   ·obtain⟨d',v',m',h1,h2⟩:=Zfo r2 b m
    exact⟨d',v',by simp[m'],h1,h2⟩
noncomputable def rInD (G:Gh)(neg:Bool):R2:=λx y H Q=>∃Hf d ds,Zz G Hf H/\XO d ds=true/\Zi G Hf d x/\(Zi G Hf (.lst ds) y∨Zi G Hf (.tup ds) y)/\Q (.bl (if neg then !XV d ds else XV d ds)) H
theorem ZcC {jI:Qb}{s:Shared}{σ:St}{Hf H:Hp}{d:D}{ds:List D}{x:V}{v:Value}{vs:List V}{jK:List Value}(hu:X.A.units+64<cLine)(I:Inv X jI σ H s)(e1:Zz G Hf H)(ok:XO d ds=true)(rd:Zi G Hf d x)(rx:ZI x v)
  (rl:Zh G Hf ds vs) (rv:Zu vs jK):(∀y,y∈jK.toArray->qaY X.A.in1 s y v (UK G Hf d y))/\jK.toArray.any (UK G Hf d)=XV d ds:=by
 obtain⟨o1,o2,o3,o4⟩:=Zib ok;refine⟨λy hy=>?_,?_⟩
 ·obtain⟨c,w,m,h1,h2⟩:=Zfo rl rv (by simpa using hy)
  rw[Zhn (Uk o2 m) h1 h2];exact(ZjA I e1 60 X.A.in1 c d w x y v (zi (U2 m) o4) o3 (by rw[JT];omega) (Uk o2 m) o1 h1 rd h2 rx).1
 ·rw[show jK.toArray.any (UK G Hf d)=jK.any (UK G Hf d) by simp,Zfn o2 rl rv]
theorem Znq (hu:X.A.units+64<cLine):Z6 X (xk .In) (rInD G false):=by
 intro jI s σ H x y v u Q I rx ry h;obtain⟨Hf,d,ds,e1,ok,rd,hl,q⟩:=h;rcases hl with hl | hl
 ·obtain⟨p,vs,rfl,np,hp,rp⟩:=jb.mp hl
  cases (show u=qY p from ry)
  obtain⟨jK,rv,pl,hz⟩:=I.list (ZA.of (K:=X.K) (e1 _ _ np hp));obtain⟨c1,c2⟩:=ZcC hu I e1 ok rd rx rp rv;refine SeqAt.in_listAt _ pl.isList c1 ⟨.bl _,H,I,rfl,?_⟩;rw[c2];exact q
 ·obtain⟨p,vs,rfl,np,hp,rp⟩:=jc.mp hl
  cases (show u=qY p from ry)
  obtain⟨jK,rv,pl,hz⟩:=I.tuple (ZH.of (K:=X.K) (e1 _ _ np hp));obtain⟨c1,c2⟩:=ZcC hu I e1 ok rd rx rp rv;refine SeqAt.in_tupleAt _ pl c1 ⟨.bl _,H,I,rfl,?_⟩;rw[c2];exact q
theorem Zic (hu:X.A.units+64<cLine):Z6 X (xk .NotIn) (rInD G true):=by
 intro jI s σ H x y v u Q I rx ry h;obtain⟨Hf,d,ds,e1,ok,rd,hl,q⟩:=h;rcases hl with hl | hl
 ·obtain⟨p,vs,rfl,np,hp,rp⟩:=jb.mp hl
  cases (show u=qY p from ry)
  obtain⟨jK,rv,pl,hz⟩:=I.list (ZA.of (K:=X.K) (e1 _ _ np hp));obtain⟨c1,c2⟩:=ZcC hu I e1 ok rd rx rp rv;refine SeqAt.notIn_listAt _ pl.isList c1 ⟨.bl _,H,I,rfl,?_⟩;rw[c2];exact q
 ·obtain⟨p,vs,rfl,np,hp,rp⟩:=jc.mp hl
  cases (show u=qY p from ry)
  obtain⟨jK,rv,pl,hz⟩:=I.tuple (ZH.of (K:=X.K) (e1 _ _ np hp));obtain⟨c1,c2⟩:=ZcC hu I e1 ok rd rx rp rv;refine SeqAt.notIn_tupleAt _ pl c1 ⟨.bl _,H,I,rfl,?_⟩;rw[c2];exact q
end
theorem Zid:typeLookup (.type "list") "keys" = pure none:=by rw[typeLookup_type,builtinLookup_eq_fast];kernel_rfl
theorem Zak:entryFor table "dict.update.loop" = some Builtin.«dict.update.loop»:=entryFor_of_tree (by kernel_rfl)
theorem BS:plainId "dict.update.loop" = true:=by decide +kernel
theorem Zba {prog:xB}{w:World}{A:xC}{E:xD}{s:Shared}{a:Addr}{o:Obj}{xs:Array Value}{k:Nat}{Q:Option Value->Shared->Prop}
  (hx:s.heap.get? a=some o) (hc:o.cls=.type "list") (hdat:o.data=.seq xs k) (hd:o.dict=none) (hA:A.handled=none)
  (h:∀h' tk,(∀b o,s.heap.get? b=some o->h'.get? b=some o)->Q none { s with heap:=h',toks:=tk }) :
  xf (xz prog w) A (getAttr? (.ref a) "keys") Q E s:=by
 have hmiss:=Zid;have hname:(["__module__","__name__","__qualname__","__doc__","__annotations__"]:List Str).contains ("keys" : Str)=false:=by decide +kernel
 have hsz:("keys" : Str).length+100<=xg:=by decide +kernel
 obtain⟨c,dct,dat,sl⟩:=o;simp only at hc hdat hd;subst hc hdat hd;obtain⟨hp,g,d,tk,os⟩:=s;have hT:∀tk',(⟨hp,g,d,tk',os⟩:Shared).TypeIs (.ref a) "list":=λ_=>⟨_,hx,rfl⟩;have f1:=sub_AttributeError;have f3:=qbc.lookup;have f4:=qbc.bind (.ref a);have f5:=am_list_getattr_none;unfold getAttr? getAttrBy?;refine xa ?_;refine wpAny_mkText ?_;refine xa (wpAny_attempt ?_);unfold getAttrBy
 repeat (any_goals (first | assumption | exact hT _ | ((with_reducible show xf _ _ (call (Value.builtin "list.__getattribute__") _ _) _ _ _);refine call_meets qbc (hT _) am_entry_list_getattribute (F.args_list_getattribute_2 _ _) (meets_getattribute_miss_list a xs k sl "keys" _ hmiss hname hsz) ⟨hx,hA,λh' tk' e hx'=>?_⟩) | wp_step))
 obtain⟨t',u',he⟩:=hx'.there;have hTe:∀tk',(⟨h',g,d,tk',os⟩:Shared).TypeIs (.ref e) "AttributeError":=λ_=>⟨_,he,rfl⟩;have fin:∀tk',xf (xz prog w) A (do
   let b<-isInstance (.ref e) (.type "AttributeError")
   if b=true then pure none else throw (.ref e)) Q E ⟨h',g,d,tk',os⟩:=λtk'=>by
  refine xa (wpAny_isInstance (hTe _) f1 ?_);simp only[if_true];exact xb (h h' tk' hx'.of.keeps)
 show xf _ _ (getattributeRaised _ _ _ _ _ _ _) _ _ _;unfold getattributeRaised
 repeat (any_goals (first | assumption | exact fin _ | wp_step))
section
variable {X:Cx}{jI:Qb}{σ:St}{H:Hp}{s:Shared}{A:xC}{E:xD}{a:Addr}{y v:V}{u r:Value}
theorem Zie {H':Hp}{Q:Unit->Shared->Prop}(hu:A.units<cLine)(I:Inv X jI σ H s)(g:WM H a y v H')(ry:ZI y u)(rv:ZI v r)(h:∀s',Inv X jI σ H' s'->Q () s') :
  xf (xz X.prog X.w) A (dictSet a u r) Q E s:=by
 rcases g with⟨kvs,k,e,ey,l,eH⟩ | ⟨kvs,k,b,e,ey,eb,l,eH⟩
 ·subst ey eH
  obtain⟨z,hd,vs,rel,dd⟩:=Zmv I.hok e;have hz:vs.length<=xg:=by rw[<-rel.length];exact z
  have hl:(Yp kvs k v).length<=xg:=by have:=Ui kvs k v;omega
  refine wpAny_dictSet_pairs (hsz:=hz) (Bm ry) dd λh' dd' hs=>h _ ?_;have he:∃q,h'.get? a=some q:=let ⟨q,_,_,hq,_⟩:=dd';⟨q,hq⟩;exact Zcx I (by rw[e];exact y8) hs he (Zjq hl hd (rel.put k rv) dd')
 ·subst ey eH
  cases (show u=qY b from ry)
  obtain⟨z,hd,xs,rel,dd⟩:=Zmw I.hok e;have hz:xs.length<=xg:=by rw[<-qan rel];exact z
  have hl:(Yp kvs k v).length<=xg:=by have:=Ui kvs k v;omega
  refine wpAny_dictSet_heap (hsz:=hz) (knd:=tupleKind (We X.prog X.w)) hu (Bg I.hok eb) dd λh' dd' hs=>h _ ?_;obtain⟨q,es,ep,hq,h2,h3,h4,_,h5⟩:=dd';refine Zcx I (by rw[e];exact y8) hs ⟨q,hq⟩ ⟨hl,hd,_,(rel.put k eb rv).keeps λc ys ec=>?_,q,es,ep,hq,h2,h3,h4,h5⟩;rw[Zx (Zmr ec e (λz=>nomatch z))];exact ec
end
section
variable {X:Cx}{jI:Qb}{σ:St}
inductive Puts (d:Addr):Hp->List V->Hp->Prop
 | nil {H:Hp}:Puts d H [] H
 | cons {H H1 H2:Hp} {b:Addr} {k v:V} {r:List V}:H b=some (.tup [k,v])->WM H d k v H1->Puts d H1 r H2->Puts d H (.ref b::r) H2
theorem ZjB {d l it:Addr}{vs:List V}{E:xD}{Q:Shared->Prop}{H':Hp}{A:xC}(hA:A.handled=none)(hu:A.units+1<cLine)
  (hQ:∀s',Inv X jI σ H' s'->Q s') (hfp:∀Hx:Hp,Hx it=none->Wp X jI Hx it) :
  ∀(k i:Nat) (s:Shared) (H:Hp),vs.length-i=k->i<=vs.length->Inv X jI σ H s->H it=none->s.heap.IsListIter it l i->H l=some (.lst vs)->l≠d->(∀Hx Hy y v,WM Hx d y v Hy->Hx l=some (.lst vs)->Hy l=some (.lst vs))->Puts d H (vs.drop i) H'->
   xo (xz X.prog X.w) A (.builtin "dict.update.loop" ⟨[.ref d,.ref it,rawInt i,.none],[]⟩) (wants (λr s₂=>r=.none/\Q s₂) E) s:=by
 intro k
 induction k with
 | zero=>
  intro i s H hk hi I hit st hl hne hkeep hp;have hil:i=vs.length:=by omega
  obtain⟨jK,rv,pl,hz⟩:=I.list (ZA.of (K:=X.K) hl);refine xm Zak ?_;rw[yD BS _];show xf _ A.in1 (pyNext (.ref it) >>= _) _ _ s;obtain⟨f0,f1,f2,f3,f4,f5⟩:=hfp H hit;have jO:=rv.length;refine xa (wpAny_pyNext_list_end (A:=A.in1) hA st pl.isList (by simp;omega) λh' eb=>?_);have I2:Inv X jI σ H { s with heap:=h' }:=I.turned (t':=s.toks) (λb o hb e=>eb b o hb e) f0 f1 f3 f4 f5;have e0:vs.drop i=[]:=by rw[hil];simp
  rw[e0]at hp
  cases hp
  show xf _ _ (Builtin.Dict.addKeywords d [] >>= _) _ _ _;refine xa (xb ?_);exact xb ⟨rfl,hQ _ I2⟩
 | succ k ih=>
  intro i s H hk hi I hit st hl hne hkeep hp;have hlt:i<vs.length:=by omega
  obtain⟨jK,rv,pl,hz⟩:=I.list (ZA.of (K:=X.K) hl);have jO:=rv.length;refine xm Zak ?_;rw[yD BS _];show xf _ A.in1 (pyNext (.ref it) >>= _) _ _ s;obtain⟨f0,f1,f2,f3,f4,f5⟩:=hfp H hit;have hd:vs.drop i=vs[i]::vs.drop (i+1):=qat hlt;rw[hd]at hp;generalize hvi:vs[i]=x at hp;generalize hrest:vs.drop (i+1)=rest at hp
  cases hp with
  | @cons _ H1 _ b k0 v0 _ hb hput hrec=>
   have gx:vs[i]?=some (.ref b):=by rw[qG hlt,hvi]
   obtain⟨u,hu1,ru⟩:=rv.get gx
   cases (show u=qY b from ru)
   refine xa (wpAny_pyNext_list_item (A:=A.in1) st pl.isList (x:=.ref b) (by simpa using hu1) λh' st' sb=>?_);have I1:Inv X jI σ H { s with heap:=h' }:=I.turned (t':=s.toks) (λc o hc e=>(sb.2 c hc).trans e) f0 f1 f3 f4 f5;obtain⟨j6,rv2,pt,_⟩:=I1.tuple (ZH.of (K:=X.K) hb);obtain⟨ku,vu,e2,rk,rvv⟩:=rv2.two;subst e2;obtain⟨o,ho,hoc,n,hod⟩:=id pt;show xf _ _ (holding [qY b] _ >>= _) _ _ _;refine xa (xu ?_);refine xa (wpAny_tryCatch ?_);unfold Builtin.Dict.pairItems;refine xa (wpAny_typeOf (T:="tuple") ⟨o,ho,hoc⟩ ?_);rw[if_pos (by decide)];refine xa (xt ho hod ?_);refine xb ?_;show xf _ _ (holding [ku,vu] (dictSet d ku vu)) _ _ _;refine xu ?_;obtain⟨oi,hoi,ci,di⟩:=id st';have Ip:=I1.pinned (fp:=[it]) (λc hc=>by
    have e:c=it:=by simpa using hc
    subst e;exact hfp H hit) (λc hc=>by
    have e:c=it:=by simpa using hc
    subst e;exact⟨oi,hoi,λw z=>by rw[di]at z;cases z⟩)
   refine Zie (by rw[JT];exact hu) Ip hput rk rvv λs2 I2=>?_;have pit:=I2.pin (it,oi) (zf _ (zf _ (UV (by simp) hoi)));have ec:((i:Int)+1)=((i+1:Nat):Int):=by push_cast;rfl
   show xf _ _ (again (.builtin "dict.update.loop" ⟨[.ref d,.ref it,rawInt ((i:Int)+1),.none],[]⟩)) _ _ _;rw[ec];refine xb ⟨plainId_quiet BS _,?_⟩;refine ih (i+1) s2 H1 (by omega) hlt I2.unpinned pit.2.1 ⟨oi,pit.1,ci,di⟩ (hkeep _ _ _ _ hput hl) hne hkeep ?_;rw[hrest];exact hrec
theorem ZcU (hc:X.calm=true)(hu:X.A.units+64<cLine)(tk:Bool):Y6 X (.type "dict") (λxs H Q=>∃l vs,xs=[.ref l]/\H l=some (.lst vs)/\∀p,H p=none->∃H',Puts p (Zl H p (if tk then .dT []else .dK [])) vs H'/\Q (.ref p) H'):=by
 intro jI s σ H xs us Q I r h;obtain⟨l,vs,rfl,hl,q⟩:=h;obtain⟨u,rfl,ru⟩:=Xw r
 cases (show u=qY l from ru)
 obtain⟨H',puts,q'⟩:=q s.heap.objs.size (I.hok.fresh (qp _));have hA:=I.ok.hd hc;refine callType_codes (Q₁:=λobj s₁=>obj=.ref s.heap.objs.size/\s₁ = { s with heap:=s.heap.push { cls:=.type "dict",data:=.dict #[] } }) F.kt_called_dict (F.kt_typeCall_dict_1 _) F.entry_dict_init (kt_code_dict_new _ ⟨rfl,rfl⟩) ?_;rintro obj s₁ ⟨rfl,rfl⟩;have hbig:=I.big;have I1:Inv X jI σ (Zl H s.heap.objs.size (if tk then .dT []else .dK [])) { s with heap:=s.heap.push { cls:=.type "dict",data:=.dict #[] } }:=
  I.laid (t':=s.toks) (λb o e=>qj _ e) (qp _) (by
   cases tk
   ·exact Zjr s.heap hbig
   ·exact Zff s.heap hbig)
 have hnew:(s.heap.push { cls:=.type "dict",data:=.dict #[] }).get? s.heap.objs.size=some { cls:=.type "dict",data:=.dict #[] }:=qC _ rfl;have hTd:({ s with heap:=s.heap.push { cls:=.type "dict",data:=.dict #[] } }:Shared).TypeIs (.ref s.heap.objs.size) "dict":=⟨_,hnew,rfl⟩;have hld:l≠s.heap.objs.size:=Ys hl (I.hok.fresh (qp _));have hl1:(Zl H s.heap.objs.size (if tk then HO.dT []else HO.dK [])) l=some (.lst vs):=by rw[Zx hld];exact hl
 obtain⟨zz,jK,n,rits,hlo⟩:=(show Ym X.prog X.w _ _ l (.lst vs)from I1.hok l _ hl1);refine⟨hTd,F.args_dict_init_2 _ _,?_⟩;unfold Builtin.«dict.__init__»;refine xa ?_;unfold Builtin.Dict.selfAndRest;refine xa (wpAny_notOrdered_dict hTd ?_);show xf _ _ (pure (s.heap.objs.size,[qY l])) _ _ _;refine xb ?_;show xf _ _ (qco "dict.__init__" s.heap.objs.size (.ref l) [] .none) _ _ _;unfold qco;have hTl:({ s with heap:=s.heap.push { cls:=.type "dict",data:=.dict #[] } }:Shared).TypeIs (.ref l) "list":=⟨_,hlo,rfl⟩;refine xa (wpAny_typeOf hTl ?_);rw[if_pos (by decide)];refine xa (Zba hlo rfl rfl rfl hA λh2 tk2 kp2=>?_);simp only[Option.isNone_none,if_true];refine xa (wpAny_rule ?_);have I2:Inv X jI σ (Zl H s.heap.objs.size (if tk then .dT []else .dK [])) { s with heap:=h2,toks:=tk2 }:=I1.kept kp2;obtain⟨its',rv',pl',hz'⟩:=I2.list (ZA.of (K:=X.K) hl1);refine xa (wpAny_pyIter_list pl'.isList ?_);refine xb ⟨plainId_quiet BS _,?_⟩;have I3:Inv X jI σ (Zl H s.heap.objs.size (if tk then .dT []else .dK [])) { s with heap:=h2.push { cls:=.type "list_iterator",data:=.fields #[.ref l,.int 0 0] },toks:=tk2 }:=I2.kept (t':=tk2) λb o e=>qj _ e;have hfresh:(Zl H s.heap.objs.size (if tk then HO.dT []else HO.dK [])) h2.objs.size=none:=I2.hok.fresh (qp _);have hst:(h2.push { cls:=.type "list_iterator",data:=.fields #[.ref l,.int 0 0] }).IsListIter h2.objs.size l 0:=⟨_,qC _ rfl,rfl,rfl⟩;refine ZjB (l:=l) (vs:=vs) (H':=H') (A:=X.A.in1) (jI:=jI) (σ:=σ) hA (by rw[JT];omega) (λs' I'=>⟨.ref s.heap.objs.size,H',I',rfl,q'⟩) (λHx hn=>I2.fpOk (qp _) hn) vs.length 0 _ _ rfl (zC _) I3 hfresh hst hl1 hld ?_ puts;intro Hx Hy y v hput hxl;rcases hput with⟨kvs,k,e,ey,l',eH⟩ | ⟨kvs,k,b,e,ey,eb,l',eH⟩
 ·subst eH;rw[Zx hld];exact hxl
 ·subst eH;rw[Zx hld];exact hxl
end
section
variable {X:Cx}{G:Gh}
noncomputable def Vi:D->Option Zt
 | .int i=>some (.inl i)
 | .str x=>some (.inr x)
 | _=>none
noncomputable def XI:List D->Option (List Zt)
 | []=>some []
 | d::ds=>match Vi d,XI ds with | some k,some ks=>some (k::ks) | _,_=>none
noncomputable def Wo:D->Option V
 | .int i=>some (.int i)
 | .bl b=>some (.bl b)
 | .str x=>some (.str x)
 | .non=>some .non
 | _=>none
theorem ZbO {H:Hp}{d:D}{v:V}{k:Zt}(h:Vi d=some k)(r:Zi G H d v):v=kV k:=by
 cases d with
 | int i=>cases h;rw[ja.mp r];rfl
 | str i=>cases h;rw[jh.mp r];rfl
 | _=>cases h
theorem JM {H:Hp}:∀{ds:List D} {vs:List V} {ks:List Zt},XI ds=some ks->Zh G H ds vs->vs=ks.map kV
 | [],vs,ks,h,r=>by cases h;exact Zh.nil_iff.mp r
 | d::ds,vs,ks,h,r=>by
  obtain⟨v,rr,rfl,r1,r2⟩:=jd.mp r;unfold XI at h
  cases e1:Vi d with
  | none=>rw[e1]at h;cases h
  | some k=>
   cases e2:XI ds with
   | none=>rw[e1,e2]at h;cases h
   | some ks'=>
    rw[e1,e2]at h
    cases h
    rw[ZbO e1 r1,JM e2 r2];rfl
theorem ZbP {H:Hp}{d:D}{v w:V}(h:Wo d=some w)(r:Zi G H d v):v=w:=by
 cases d with
 | int i=>cases h;exact ja.mp r
 | str i=>cases h;exact jh.mp r
 | bl i=>cases h;exact je.mp r
 | non=>cases h;exact jg.mp r
 | _=>cases h
noncomputable def Zho:D->Option (List Zt×V)
 | .tup [.tup ks,v]=>match XI ks,Wo v with | some k,some w=>some (k,w) | _,_=>none
 | _=>none
noncomputable def ZjC:D->Option (Zt×V)
 | .tup [k,v]=>match Vi k,Wo v with | some k,some w=>some (k,w) | _,_=>none
 | _=>none
noncomputable def WZ:List (List Zt×V)->List D->Option (List (List Zt×V))
 | acc,[]=>some acc
 | acc,d::ds=>match Zho d with | some (k,v)=>WZ (Yp acc k v) ds | none=>none
noncomputable def WK:List (Zt×V)->List D->Option (List (Zt×V))
 | acc,[]=>some acc
 | acc,d::ds=>match ZjC d with | some (k,v)=>WK (Yp acc k v) ds | none=>none
theorem Zgr {d:D}{k:List Zt}{v:V}(h:Zho d=some (k,v)):∃ks w,d=.tup [.tup ks,w]/\XI ks=some k/\Wo w=some v:=by
 match d,h with
 | .tup [.tup ks,w],h=>
  have h':(match XI ks,Wo w with | some k,some w=>some (k,w) | _,_=>none)=some (k,v):=h
  cases e1:XI ks with
  | none=>rw[e1]at h';cases h'
  | some k'=>
   cases e2:Wo w with
   | none=>rw[e1,e2]at h';cases h'
   | some w'=>rw[e1,e2]at h';cases h';exact⟨ks,w,rfl,e1,e2⟩
theorem Zgs {d:D}{k:Zt}{v:V}(h:ZjC d=some (k,v)):∃ks w,d=.tup [ks,w]/\Vi ks=some k/\Wo w=some v:=by
 match d,h with
 | .tup [ks,w],h=>
  have h':(match Vi ks,Wo w with | some k,some w=>some (k,w) | _,_=>none)=some (k,v):=h
  cases e1:Vi ks with
  | none=>rw[e1]at h';cases h'
  | some k'=>
   cases e2:Wo w with
   | none=>rw[e1,e2]at h';cases h'
   | some w'=>rw[e1,e2]at h';cases h';exact⟨ks,w,rfl,e1,e2⟩
theorem ZjD {Hf H:Hp}{p:Addr}(e1:Zz G Hf H)(hp:H p=none):∀{ds:List D} {vs:List V} {acc res:List (List Zt×V)},Zh G Hf ds vs->WZ acc ds=some res->acc.length+ds.length<=xg->Puts p (Zl H p (.dT acc)) vs (Zl H p (.dT res))
 | [],vs,acc,res,r,h,_=>by
  rw[Zh.nil_iff.mp r]
  cases h
  exact .nil
 | d::ds,vs,acc,res,r,h,hl=>by
  obtain⟨v,rr,rfl,r1,r2⟩:=jd.mp r;unfold WZ at h
  cases e:Zho d with
  | none=>rw[e]at h;cases h
  | some kv=>
   obtain⟨k,w⟩:=kv;rw[e]at h;have h:WZ (Yp acc k w) ds=some res:=h;obtain⟨ks,wd,rfl,q1,q2⟩:=Zgr e;obtain⟨b,ws,rfl,nb,hb,rb⟩:=jc.mp r1;obtain⟨v1,v2,rfl,rk,rv⟩:=jo rb;obtain⟨c,cs,rfl,nc,hcx,rc⟩:=jc.mp rk;have ec:=JM q1 rc;subst ec;have ev:=ZbP q2 rv;subst ev;have hb':=e1 _ _ nb hb;have hc':=e1 _ _ nc hcx;have ll:=Ui acc k v2;have hl':acc.length+(ds.length+1)<=xg:=by simpa using hl
   refine .cons (by rw[Zx (Ys hb' hp)];exact hb') (WM.t (k:=k) ZQ (by rw[Zx (Ys hc' hp)];exact hc') (by omega)) ?_;rw[Zek];exact ZjD e1 hp r2 h (by omega)
theorem ZjE {Hf H:Hp}{p:Addr}(e1:Zz G Hf H)(hp:H p=none):∀{ds:List D} {vs:List V} {acc res:List (Zt×V)},Zh G Hf ds vs->WK acc ds=some res->acc.length+ds.length<=xg->Puts p (Zl H p (.dK acc)) vs (Zl H p (.dK res))
 | [],vs,acc,res,r,h,_=>by
  rw[Zh.nil_iff.mp r]
  cases h
  exact .nil
 | d::ds,vs,acc,res,r,h,hl=>by
  obtain⟨v,rr,rfl,r1,r2⟩:=jd.mp r;unfold WK at h
  cases e:ZjC d with
  | none=>rw[e]at h;cases h
  | some kv=>
   obtain⟨k,w⟩:=kv;rw[e]at h;have h:WK (Yp acc k w) ds=some res:=h;obtain⟨ks,wd,rfl,q1,q2⟩:=Zgs e;obtain⟨b,ws,rfl,nb,hb,rb⟩:=jc.mp r1;obtain⟨v1,v2,rfl,rk,rv⟩:=jo rb;have ek:=ZbO q1 rk;subst ek;have ev:=ZbP q2 rv;subst ev;have hb':=e1 _ _ nb hb;have ll:=Ui acc k v2;have hl':acc.length+(ds.length+1)<=xg:=by simpa using hl
   refine .cons (by rw[Zx (Ys hb' hp)];exact hb') (WM.k (k:=k) ZQ (by omega)) ?_;rw[Zek];exact ZjE e1 hp r2 h (by omega)
noncomputable def ZjF:List D->Option D
 | [.lst ds]=>if ds.length<=xg then (WZ [] ds).map .dt else none
 | _=>none
noncomputable def Zew:List D->Option D
 | [.lst ds]=>if ds.length<=xg then (WK [] ds).map .dk else none
 | _=>none
theorem Zgt (hc:X.calm=true)(hu:X.A.units+64<cLine):Y6 X (.type "dict") (λxs H Q=>∃l vs,xs=[.ref l]/\H l=some (.lst vs)/\∀p,H p=none->∃kvs,Puts p (Zl H p (.dT [])) vs (Zl H p (.dT kvs))/\∀o,Q (.ref p) (Zl H p (.frz o (.dT kvs)))):=by
 intro jI s σ H xs us Q I r h;obtain⟨l,vs,ex,hl,hp⟩:=h;refine ZJ (ZcU hc hu true jI s σ H xs us (λv H'=>∃p kvs,v=.ref p/\H'=Zl H p (.dT kvs)/\∀o,Q (.ref p) (Zl H p (.frz o (.dT kvs)))) I r ⟨l,vs,ex,hl,λp hn=>?_⟩) λu s1 ⟨v,H1,I1,r1,p,kvs,ev,eH,q⟩=>?_
 ·obtain⟨kvs,pu,q⟩:=hp p hn
  exact⟨_,pu,p,kvs,rfl,rfl,q⟩
 ·subst ev eH
  have ok:=I1.hok p (.dT kvs) ZQ;obtain⟨_,_,xs',_,o,es,ep,h1,_⟩:=(show Ym X.prog X.w _ s1.heap p (.dT kvs)from ok);have I2:=I1.write (x:=p) (e:=p) (o:=.frz o (.dT kvs)) (h':=s1.heap) (t':=s1.toks) (by rw[ZQ];trivial) (.inl rfl) (λ_ _ _ e=>e) ⟨o,h1⟩ ⟨h1,ok.stay (λ_ _ _ e=>e) (λb e=>?_) λb xs e=>?_⟩
  ·rw[Zek]at I2
   exact⟨.ref p,_,I2,r1,q o⟩
  ·have:b≠p:=λz=>by rw[z,ZQ]at e;cases e
   rw[Zx this];exact e
  ·have:b≠p:=λz=>by rw[z,ZQ]at e;cases e
   rw[Zx this];exact e
theorem Zgu (hc:X.calm=true)(hu:X.A.units+64<cLine):XX X G (.type "dict") ZjF:=
 ⟨_,Zgt hc hu,λHf H s xs ds c Q e1 st r q k=>by
  match ds,q,r with
  | [.lst es],q,r=>
   have q:(if es.length<=xg then (WZ [] es).map D.dt else none)=some c:=q;split at q
   ·rename_i hz
    cases e:WZ [] es with
    | none=>rw[e]at q;cases q
    | some res=>
     rw[e]at q
     cases q
     obtain⟨v,rfl,rv⟩:=ji r;obtain⟨l,vs,rfl,nl,hl,rl⟩:=jb.mp rv;refine⟨l,vs,rfl,e1 _ _ nl hl,λp hp=>⟨_,ZjD e1 hp rl e (by simpa using hz),λo=>?_⟩⟩;have nf:=Gh.nofp st hp;have g2:=Gr.new (o:=.frz o (.dT res)) e1 hp nf;exact k (.ref p) _ _ g2 (Gh.grow st hp) (jk.mpr ⟨p,o,rfl,nf,ZQ⟩) λa ea _=>by cases ea;exact⟨hp,λds ed=>by cases ed⟩
   ·cases q⟩
theorem Zgv (hc:X.calm=true)(hu:X.A.units+64<cLine):XX X G (.type "dict") Zew:=
 ⟨_,ZcU hc hu false,λHf H s xs ds c Q e1 st r q k=>by
  match ds,q,r with
  | [.lst es],q,r=>
   have q:(if es.length<=xg then (WK [] es).map D.dk else none)=some c:=q;split at q
   ·rename_i hz
    cases e:WK [] es with
    | none=>rw[e]at q;cases q
    | some res=>
     rw[e]at q
     cases q
     obtain⟨v,rfl,rv⟩:=ji r;obtain⟨l,vs,rfl,nl,hl,rl⟩:=jb.mp rv;refine⟨l,vs,rfl,e1 _ _ nl hl,λp hp=>⟨_,ZjE e1 hp rl e (by simpa using hz),?_⟩⟩;have nf:=Gh.nofp st hp;have g2:=Gr.new (o:=.dK res) e1 hp nf;exact k (.ref p) _ _ g2 (Gh.grow st hp) (jj.mpr ⟨p,rfl,nf,ZQ⟩) λa ea _=>by cases ea;exact⟨hp,λds ed=>by cases ed⟩
   ·cases q⟩
theorem Znr (hu:X.A.units+1<cLine):Z6 X (xk .In) (λx y H Q=>∃a o,y=.ref a/\W4 H a x o/\Q (.bl o.isSome) H):=by
 intro jI s σ H x y v u Q I rx ry h;obtain⟨a,o,rfl,g,q⟩:=h
 cases (show u=qY a from ry)
 exact d_in hu I g rx λs' I'=>⟨.bl _,H,I',rfl,q⟩
theorem Zif (hu:X.A.units+1<cLine):Z6 X (xk .NotIn) (λx y H Q=>∃a o,y=.ref a/\W4 H a x o/\Q (.bl (!o.isSome)) H):=by
 intro jI s σ H x y v u Q I rx ry h;obtain⟨a,o,rfl,g,q⟩:=h
 cases (show u=qY a from ry)
 exact Zlo hu I g rx λs' I'=>⟨.bl _,H,I',rfl,q⟩
noncomputable def V7:D->D->Option Bool
 | x,.lst ds=>if XO x ds=true then some (XV x ds)else none
 | x,.tup ds=>if XO x ds=true then some (XV x ds)else none
 | .tup ks,.dt kvs=>(XI ks).map λk=>(Z8 kvs k).isSome
 | .tup ks,.du kvs=>(XI ks).map λk=>(Z8 kvs k).isSome
 | x,.dk kvs=>(Vi x).map λk=>(Z8 kvs k).isSome
 | _,_=>none
noncomputable def Y0 (x y:D):Option D:=(V7 x y).map .bl
noncomputable def WF (x y:D):Option D:=(V7 x y).map λb=>.bl (!b)
theorem ZdT {Hf H:Hp}{x y:V}{d e:D}{b:Bool}(e1:Zz G Hf H)(rx:Zi G Hf d x)(ry:Zi G Hf e y)(h:V7 d e=some b) :
  (∃ds,XO d ds=true/\(Zi G Hf (.lst ds) y∨Zi G Hf (.tup ds) y)/\b=XV d ds)∨∃a o,y=.ref a/\W4 H a x o/\b=o.isSome:=by
 cases e with
 | lst ds=>
  have h:(if XO d ds=true then some (XV d ds)else none)=some b:=by cases d <;> exact h
  split at h
  ·rename_i ok;cases h;exact .inl ⟨ds,ok,.inl ry,rfl⟩
  ·cases h
 | tup ds=>
  have h:(if XO d ds=true then some (XV d ds)else none)=some b:=by cases d <;> exact h
  split at h
  ·rename_i ok;cases h;exact .inl ⟨ds,ok,.inr ry,rfl⟩
  ·cases h
 | dt kvs=>
  obtain⟨a,o,rfl,na,ha⟩:=jk.mp ry
  cases d with
  | tup ks=>
   have h:(XI ks).map (λk=>(Z8 kvs k).isSome)=some b:=h
   cases q:XI ks with
   | none=>rw[q]at h;cases h
   | some k=>
    rw[q]at h;cases h;obtain⟨c,cs,rfl,nc,hcx,rc⟩:=jc.mp rx;have ec:=JM q rc;subst ec;exact .inr ⟨a,_,rfl,.inr ⟨kvs,k,c,.inr ⟨o,e1 _ _ na ha⟩,rfl,e1 _ _ nc hcx,rfl⟩,rfl⟩
  | _=>cases h
 | du kvs=>
  obtain⟨a,rfl,na,ha⟩:=jl.mp ry
  cases d with
  | tup ks=>
   have h:(XI ks).map (λk=>(Z8 kvs k).isSome)=some b:=h
   cases q:XI ks with
   | none=>rw[q]at h;cases h
   | some k=>
    rw[q]at h;cases h;obtain⟨c,cs,rfl,nc,hcx,rc⟩:=jc.mp rx;have ec:=JM q rc;subst ec;exact .inr ⟨a,_,rfl,W4.t (e1 _ _ na ha) (e1 _ _ nc hcx),rfl⟩
  | _=>cases h
 | dk kvs=>
  obtain⟨a,rfl,na,ha⟩:=jj.mp ry;have h:(Vi d).map (λk=>(Z8 kvs k).isSome)=some b:=by cases d <;> exact h
  cases q:Vi d with
  | none=>rw[q]at h;cases h
  | some k=>
   rw[q]at h;cases h;have ek:=ZbO q rx;subst ek;exact .inr ⟨a,_,rfl,W4.k (e1 _ _ na ha),rfl⟩
 | _=>cases d <;> cases h
theorem Jd (hu:X.A.units+64<cLine):Xb X G (xk .In) Y0:=
 ⟨_,(Znq (G:=G) hu).or (Znr (by omega)),λHf H s x y d e c Q e1 st rx ry q k=>by
  unfold Y0 at q
  cases h:V7 d e with
  | none=>rw[h]at q;cases q
  | some b=>
   rw[h]at q;cases q;have kk:=k (.bl b) Hf H (.refl e1) st (je.mpr rfl) (.scal λz=>z);rcases ZdT e1 rx ry h with⟨ds,ok,hl,rfl⟩ | ⟨a,o,ey,g,rfl⟩
   ·exact .inl ⟨Hf,d,ds,e1,ok,rx,hl,kk⟩
   ·exact .inr ⟨a,o,ey,g,kk⟩⟩
theorem ZbQ (hu:X.A.units+64<cLine):Xb X G (xk .NotIn) WF:=
 ⟨_,(Zic (G:=G) hu).or (Zif (by omega)),λHf H s x y d e c Q e1 st rx ry q k=>by
  unfold WF at q
  cases h:V7 d e with
  | none=>rw[h]at q;cases q
  | some b=>
   rw[h]at q;cases q;have kk:=k (.bl (!b)) Hf H (.refl e1) st (je.mpr rfl) (.scal λz=>z);rcases ZdT e1 rx ry h with⟨ds,ok,hl,rfl⟩ | ⟨a,o,ey,g,rfl⟩
   ·exact .inl ⟨Hf,d,ds,e1,ok,rx,hl,kk⟩
   ·exact .inr ⟨a,o,ey,g,kk⟩⟩
end
section
variable {X:Cx}{G:Gh}{own ob:List Nat}{fr:Bool}{f:Zb->M D}
noncomputable def ZlA (ta:TA):TE:=fun σ H Q=>ta σ H λvs H1=>∃j:Int,vs=[.int j]/\∀p,H1 p=none->Q (.ref p) (Zl H1 p (.rng 0 j))
theorem Zig {a:Expr}{ta:TA}{p pos:Pos}(hg:Gl X "range")(hm:X.mg "range" = none)(ha:PA X [a] ta)(hs:xh [a] X.env=[(false,eval a X.env)]:=by rfl):PE X (.Call (.Name "range" p) [a] [] pos) (ZlA ta):=by
 intro jI s σ H Q I h;refine Call_ (Uw I hg hm boot_range (yE (ZJ (ha pos jI s σ H _ I h) λus s1 ⟨vs,H1,I1,r1,q1⟩=>?_) hs rfl));obtain⟨j,e,q⟩:=q1;subst e
 cases r1 with
 | cons r rr=>
  cases rr
  obtain⟨t,rfl⟩:=r;refine call_range_1 ⟨.ref s1.heap.objs.size,Zl H1 s1.heap.objs.size (.rng 0 j),I1.laid (t':=s1.toks+1+1) (λb o e=>qj _ e) (qp _) ?_,rfl,q _ (I1.hok.fresh (qp _))⟩;exact⟨_,_,_,qC _ rfl⟩
theorem Zbb:∀(ys:List Value) (lo:Int),(∀(j:Nat) v,ys[j]?=some v->∃t,v=.int (lo+j) t)->Zu ((qk ys.length).map λ(i:Nat)=>V.int (lo+i)) ys
 | [],lo,_=>.nil
 | y::ys,lo,h=>by
  obtain⟨t,e⟩:=h 0 y rfl;rw[qL,y9,zc,qN];refine .cons ⟨t,by rw[e]⟩ ?_;have q:=Zbb ys (lo+1) λj v hv=>by
   obtain⟨t,e⟩:=h (j+1) v (by simpa using hv);exact⟨t,by rw[e];congr 1;push_cast;omega⟩
  have ee:((λ(i:Nat)=>V.int (lo+i))∘Nat.succ)=λ(i:Nat)=>V.int (lo+1+i):=by
   funext i;show V.int (lo+(Nat.succ i:Nat))=V.int (lo+1+i);congr 1;push_cast;omega
  rw[ee];exact q
theorem Zex (hc:X.calm=true):Y6 X (.type "list") (λxs H Q=>∃r j,xs=[.ref r]/\H r=some (.rng 0 j)/\-(2 ^ 62)<=j/\j<=2 ^ 24/\∀l,H l=none->Q (.ref l) (Zl H l (.lst ((qk j.toNat).map λ(i:Nat)=>V.int (0+i))))):=by
 intro jI s σ H xs us Q I r h;obtain⟨rr,j,rfl,hr,h1,h2,q⟩:=h;obtain⟨u,rfl,ru⟩:=Xw r
 cases (show u=qY rr from ru)
 obtain⟨t,u',v',hro⟩:=(show Ym X.prog X.w H s.heap rr (.rng 0 j)from I.hok rr _ hr);have hn:qbl 0 j 1=((j.toNat:Nat):Int):=by rw[rangeSize_one];split <;> omega
 refine call_list_range (I.ok.hd hc) (show IsRange s.heap rr 0 j 1 t u' v' from hro) (small_one (by omega) (by omega) h1 (by omega)) hn (by omega) λh' tk acc' c' hk hS hacc=>?_;obtain⟨sz,hit⟩:=hacc;have rv:=Zbb acc'.toList 0 λi v hv=>by
  obtain⟨t,e⟩:=hit i v (by simpa using hv);exact⟨t,by rw[e];simp⟩
 have el:acc'.toList.length=j.toNat:=by simpa using sz
 rw[el]at rv;refine⟨.ref s.heap.objs.size,Zl H s.heap.objs.size (.lst ((qk j.toNat).map λ(i:Nat)=>V.int (0+i))),I.laid hk (qp _) ?_,rfl,q _ (I.hok.fresh (qp _))⟩;refine⟨?_,acc'.toList,c',rv,?_⟩
 ·rw[qd,qT]
  show j.toNat<=2 ^ 24;omega
 ·rw[qcU]
  exact hS
noncomputable def Ww (f:Zb->M D):Zb->M D:=fun ρ=>Zp (f ρ) λd=>match d with | .int j=>if -(2 ^ 62)<=j/\j<=2 ^ 24 then Zy (.lst (Z3 0 j.toNat))else ZE | _=>ZE
theorem Zbc {Hf:Hp}(lo:Int):∀(l:List Nat),Zh G Hf (l.map λ(i:Nat)=>D.int (lo+i)) (l.map λ(i:Nat)=>V.int (lo+i))
 | []=>Zh.nil_iff.mpr rfl
 | i::l=>Zh.cons (ja.mpr rfl) (Zbc lo l)
theorem BW {a:Expr}{p1 p2 pos1 pos:Pos}{r1:Bool}(hc:X.calm=true)(hg:Gl X "range")(hm:X.mg "range" = none)(hg2:Gl X "list")(hm2:X.mg "list" = none)(hv2:xj "list" = some (.type "list"))(ha:PD X G r1 a f)
  (hs:xh [a] X.env=[(false,eval a X.env)]:=by rfl)
  (he:xh [.Call (.Name "range" p1) [a] [] pos1] X.env=(false,eval (.Call (.Name "range" p1) [a] [] pos1) X.env)::xh [] X.env:=by rfl):PD X G true (.Call (.Name "list" p2) [.Call (.Name "range" p1) [a] [] pos1] [] pos) (Ww f):=by
 obtain⟨t,pa,qa⟩:=ha.drop;refine⟨_,JS (Zex hc) hg2 hm2 hv2 (YK (Zig hg hm (YK pa Xi (by rw[hs];rfl)) hs) Xi he) (by decide) (by decide) he rfl,fun σ Hf H ρ s d s' Q e1 e2 e3 e4 k=>?_⟩;obtain⟨dj,s1,a1,a2⟩:=ZC e4
 cases dj with
 | int j=>
  obtain⟨c,a3⟩:=Xc a2;obtain⟨rfl,rfl⟩:=ZN a3;refine qa σ Hf H ρ s _ _ _ e1 e2 e3 a1 λv jU H1 g st r=>?_;rw[ja.mp r];refine⟨j,rfl,λp hp=>⟨p,j,rfl,ZQ,c.1,c.2,λl hl=>?_⟩⟩;have hlp:l≠p:=λz=>by rw[z,ZQ]at hl;cases hl
  have hl1:H1 l=none:=by rw[Zx hlp]at hl;exact hl
  have jT:G.st s' (Zl H1 p (.rng 0 j)):=Gh.grow st hp;have nf:=Gh.nofp jT hl;have fp:jU p=none:=by
   cases q:jU p with
   | none=>rfl
   | some o=>rw[g.fh p o (Gh.nofp st hp) q]at hp;cases hp
  have gA:Gr G jU H1 jU (Zl H1 p (.rng 0 j)):=⟨λb o n q=>by rw[Zx (Ys q hp)];exact q,.refl _ _,λb o n q=>by rw[Zx (Ys q fp)];exact g.fh b o n q,λb n h1 h2=>h1⟩;have gB:=Gr.new (o:=.lst ((qk j.toNat).map λ(i:Nat)=>V.int (0+i))) gA.fh hl nf;have rr:Zh G jU (Z3 0 j.toNat) ((qk j.toNat).map λ(i:Nat)=>V.int (0+i)):=Zbc 0 _;refine k (.ref l) _ _ ((g.trans gA).trans gB) (Gh.grow jT hl) (jb.mpr ⟨l,_,rfl,nf,ZQ,rr.ext gB.ff⟩) λ_=>?_;exact jm (g.trans gA).hh (λa ea _=>by cases ea;exact nf) (Z2.mk gA.fh hl nf rr)
 | _=>cases a2
end
structure BlkS (X:Cx)(XN:List Str)(NS:List (Str×NameKind))(N':List Str)(src:List (Option Nat))(scope:Scope):Prop where
 xn:X.N=XN
 ns:X.env.scope.names=NS
 nocell:∀y∈scope.names,y.2≠.cell
 kind:scope.kind=.function
 names:∀y∈scope.names,y.2=.local->scope.names.lookup y.1=some .local
 len:src.length=N'.length
 free:∀y∈scope.names,y.2=.free->NS.lookup y.1=some .cell∨NS.lookup y.1=some .free
 from_:(src.zip N').all (λp=>match p.1 with | some j=>decide (XN[j]?=some p.2)&&(decide (NS.lookup p.2=some .cell)||decide (NS.lookup p.2=some .free))&&decide (scope.names.lookup p.2=some .free) | none=>true)=true
theorem Zah {env:Env}:∀{names:List (Str×NameKind)} {x:Str},names.lookup x=some .free->
  (names.map λ(n,k)=>if (k==zZ&&env.scope.kind == .function&&env.kindOf n==some .cell)then (n,qa1)else (n,k)).lookup x=some .cell∨
  (names.map λ(n,k)=>if (k==zZ&&env.scope.kind == .function&&env.kindOf n==some .cell)then (n,qa1)else (n,k)).lookup x=some .free
 | [],_,h=>by simp at h
 | (n,k)::r,x,h=>by
  have ih:=@Zah env r x;show qdi x ((if (k==zZ&&env.scope.kind == .function&&env.kindOf n==some .cell)=true then (n,qa1)else (n,k))::_)=_∨qdi x ((if (k==zZ&&env.scope.kind == .function&&env.kindOf n==some .cell)=true then (n,qa1)else (n,k))::_)=_
  cases hx:x==n with
  | true=>
   simp only[zt,hx]at h
   cases h
   by_cases hc:(zZ==zZ&&env.scope.kind == .function&&env.kindOf n==some .cell)=true
   ·rw[if_pos hc];left;simp[zt,hx]
   ·rw[if_neg hc];right;simp[zt,hx]
  | false=>
   simp only[zt,hx]at h;by_cases hc:(k==zZ&&env.scope.kind == .function&&env.kindOf n==some .cell)=true
   ·rw[if_pos hc];simp only[zt,hx];exact ih h
   ·rw[if_neg hc];simp only[zt,hx];exact ih h
theorem Zaa {env:Env}:∀{names:List (Str×NameKind)} {x:Str} {k':NameKind},(∀y∈names,y.2≠.cell)->(k'=.cell∨k'=.free)->
  (names.map λ(n,k)=>if (k==zZ&&env.scope.kind == .function&&env.kindOf n==some .cell)then (n,qa1)else (n,k)).lookup x=some k'->names.lookup x=some .free
 | [],_,_,_,_,h=>by simp at h
 | (n,k)::r,x,k',nc,hk,h=>by
  have ih:=@Zaa env r x k' (λy hy=>nc y (qQ _ hy)) hk;have h:qdi x ((if (k==zZ&&env.scope.kind == .function&&env.kindOf n==some .cell)=true then (n,qa1)else (n,k))::_)=_:=h
  cases hx:x==n with
  | true=>
   by_cases hc:(k==zZ&&env.scope.kind == .function&&env.kindOf n==some .cell)=true
   ·have:k=.free:=by
     simp only[zl,beq_iff_eq]at hc;exact hc.1.1
    subst this;simp[zt,hx]
   ·rw[if_neg hc]at h
    simp only[zt,hx]at h⊢
    cases h
    rcases hk with rfl | rfl
    ·exact absurd rfl (nc _ zG)
    ·rfl
  | false=>
   by_cases hc:(k==zZ&&env.scope.kind == .function&&env.kindOf n==some .cell)=true
   ·rw[if_pos hc]at h;simp only[zt,hx]at h⊢;exact ih h
   ·rw[if_neg hc]at h;simp only[zt,hx]at h⊢;exact ih h
theorem BX {env:Env}:∀(names:List (Str×NameKind)) (acc:List (Str×Addr)),(∀y∈names,y.2=.free->∃c,env.cells.lookup y.1=some c)->
  (∀x c,acc.lookup x=some c->env.cells.lookup x=some c)->
  ∃cl,(forIn names acc λ(p:Str×NameKind) (cs:List (Str×Addr))=>(if (p.2==zZ)=true then do let a<-cellOf env p.1;pure (qaj ((p.1,a)::cs))else pure (qaj cs):Sem (ForInStep (List (Str×Addr)))))=pure cl/\
   (∀x c,cl.lookup x=some c->env.cells.lookup x=some c)/\(∀x c,acc.lookup x=some c->∃c',cl.lookup x=some c')/\∀y∈names,y.2=.free->∃c,cl.lookup y.1=some c
 | [],acc,_,h2=>⟨acc,by simp,h2,λx c h=>⟨c,h⟩,λy hy=>by simp at hy⟩
 | (n,k)::r,acc,h1,h2=>by
  by_cases hk:k=.free
  ·subst hk
   obtain⟨c,hc⟩:=h1 (n,.free) zG rfl;have hcell:cellOf env n=pure c:=by unfold cellOf;rw[hc]
   obtain⟨cl,q1,q2,q3,q4⟩:=BX (env:=env) r ((n,c)::acc) (λy hy=>h1 y (qQ _ hy)) λx c' h=>by
    cases hx:x==n with
    | true=>
     simp only[zt,hx]at h
     cases h
     have:x=n:=by simpa using hx
     rw[this];exact hc
    | false=>simp only[zt,hx]at h;exact h2 x c' h
   refine⟨cl,?_,q2,λx c' h=>?_,λy hy hf=>?_⟩
   ·rw[List.forIn_cons]
    simp only[beq_self_eq_true,if_true,hcell,pure_bind];exact q1
   ·cases hx:x==n with
    | true=>exact q3 x c (by simp[zt,hx])
    | false=>exact q3 x c' (by simp only[zt,hx];exact h)
   ·rcases qq.mp hy with e | hy
    ·subst e;exact q3 n c (by simp[zt])
    ·exact q4 y hy hf
  ·obtain⟨cl,q1,q2,q3,q4⟩:=BX (env:=env) r acc (λy hy=>h1 y (qQ _ hy)) h2
   refine⟨cl,?_,q2,q3,λy hy hf=>?_⟩
   ·rw[List.forIn_cons]
    have:(k==zZ)=false:=by simpa using hk
    simp only[this,qX,if_false,pure_bind];exact q1
   ·rcases qq.mp hy with e | hy
    ·subst e;exact absurd hf hk
    ·exact q4 y hy hf
theorem BlkS.ok {X:Cx}{XN:List Str}{NS:List (Str×NameKind)}{N':List Str}{src:List (Option Nat)}{scope:Scope}(B:BlkS X XN NS N' src scope)(ok:X.Ok):∃cl,BlkOk X N' src scope cl:=by
 have hcells:∀y∈scope.names,y.2=.free->∃c,X.env.cells.lookup y.1=some c:=λy hy hf=>ok.has y.1 (by
  have:=B.free y hy hf;rw[<-B.ns]at this;exact this)
 obtain⟨cl,q1,q2,q3,q4⟩:=BX (env:=X.env) scope.names [] hcells (λx c h=>by simp at h);refine⟨cl,?_,B.nocell,B.kind,B.names,B.len,q2,λx hx=>?_,λi j x e1 e2=>?_⟩
 ·unfold closureFor
  show(forIn scope.names [] _ >>= _)=_;rw[show(forIn scope.names ([]:List (Str×Addr)) λ(x:Str×NameKind) (r:List (Str×Addr))=>_)=_ from q1];rfl
 ·have hf:scope.names.lookup x=some .free:=by
   rcases hx with h | h
   ·exact Zaa B.nocell (.inl rfl) h
   ·exact Zaa B.nocell (.inr rfl) h
  exact q4 (x,.free) (zO hf) rfl
 ·have hm:(some j,x)∈src.zip N':=by
   have:(src.zip N')[i]?=some (some j,x):=by
    rw[yq];exact⟨e1,e2⟩
   exact zv this
  have q:=yh.mp B.from_ _ hm;simp only[zl,Bool.or_eq_true,decide_eq_true_eq]at q;obtain⟨⟨p1,p2⟩,p3⟩:=q;refine⟨by rw[B.xn];exact p1,?_,Zah p3⟩;show X.env.scope.names.lookup x=_∨X.env.scope.names.lookup x=_;rw[B.ns];exact p2
section
variable {X:Cx}{G:Gh}{elt tg iter:Expr}{ifs:List Expr}{scope:Scope}{pos pos' spos:Pos}{XN:List Str}{NS:List (Str×NameKind)}{N':List Str}{src:List (Option Nat)}{fi:Zb->M (List D)}{τ:D->Zb->Option Zb}{ft:Zb->M Bool}{fe:Zb->M D}{r1:Bool}{i:Nat}{x:Str}
theorem ZjG (hc:X.calm=true)(B:BlkS X XN NS N' src scope)(hi:XC X G tg iter fi)
  (hg:∀cl jI C s H fp,W8 (Yz X jI N' scope cl C s H fp) G tg (λi=>src[i]?=some none) τ) (ht:∀cl jI C s H fp,Vm (Yz X jI N' scope cl C s H fp) ifs (UI G ft)) (he:∀cl jI C s H fp,PD (Yz X jI N' scope cl C s H fp) G r1 elt fe)
  (hs:∀x,foldedSetIterable iter X.env x=pure x:=by intro _;rfl):PD X G true (.ListComp elt [⟨tg,iter,ifs,0⟩] scope pos) (Yj src fi τ ft fe):=by
 obtain⟨wi,pi,qi⟩:=hi;refine⟨_,λjI s σ H Q I h=>?_,Zfl (r1:=r1) qi⟩;obtain⟨cl,B'⟩:=B.ok I.ok;exact Zlr hc B' pi (λjI C s H fp=>(hg cl jI C s H fp).canon) (ht cl) (λjI C s H fp=>(he cl jI C s H fp).canon) hs jI s σ H Q I h
theorem B1 (hN:X.N.Nodup)(hi':X.N[i]?=some x)(hx:W6 X.env.scope x)
  (hc:X.calm=true) (B:BlkS X XN NS N' src scope) (hi:XC X G tg iter fi)
  (hg:∀cl jI C s H fp,W8 (Yz X jI N' scope cl C s H fp) G tg (λi=>src[i]?=some none) τ) (ht:∀cl jI C s H fp,Vm (Yz X jI N' scope cl C s H fp) ifs (UI G ft)) (he:∀cl jI C s H fp,PD (Yz X jI N' scope cl C s H fp) G r1 elt fe)
  (hsw:xr (.ListComp elt [⟨tg,iter,ifs,0⟩] scope pos) (some (.Name x pos')) spos.line X.env=pure true:=by rfl)
  (hs:∀x,foldedSetIterable iter X.env x=pure x:=by intro _;rfl)
  (hf:X.fn x=true∨X.env.scope.names.lookup x=some .local:=by first | exact .inl rfl | exact .inr rfl | assumption) :
  Jw X G true i (.Assign [.Name x pos'] (.ListComp elt [⟨tg,iter,ifs,0⟩] scope pos) spos) (Yj src fi τ ft fe):=by
 obtain⟨wi,pi,qi⟩:=hi;refine⟨_,λjI s σ H D I h=>?_,Zfl (r1:=r1) qi⟩;obtain⟨cl,B'⟩:=B.ok I.ok;exact Zls hN hi' hx hc B' pi (λjI C s H fp=>(hg cl jI C s H fp).canon) (ht cl) (λjI C s H fp=>(he cl jI C s H fp).canon) hsw hs hf jI s σ H D I h
end
noncomputable def ZT (P:xB)(w:World)(K:qm)(mg:Str->Option Value)(base:Heap)(k:Nat)(x:Str)(n:Nat)(fr:Bool)(GG:Gh->Prop)(F:List D->M D):Prop:=
 ∃f fd ps,FnOk P w K mg base ZV k f fd ps (Yr n fr GG F)/\mg x=some (.ref f)/\yK K (.ref f)=true/\Wi K fd ps []
theorem ZT.mono {P:xB}{w:World}{K:qm}{mg:Str->Option Value}{base:Heap}{j k:Nat}{x:Str}{n:Nat}{fr:Bool}{GG:Gh->Prop}{F:List D->M D}(c:ZT P w K mg base j x n fr GG F)(h:j<=k:=by decide):ZT P w K mg base k x n fr GG F:=
 let ⟨f,fd,ps,a,b,c,d⟩:=c
 ⟨f,fd,ps,a.mono h,b,c,d⟩
theorem ZjH {X:Cx}{G:Gh}{k:Nat}{x:Str}{n:Nat}{fr:Bool}{GG:Gh->Prop}{F:List D->M D}{p pos:Pos}{e:Expr}{es:List Expr}{fs:Zb->M (List D)}(c:ZT X.prog X.w X.K X.mg X.base k x n fr GG F)(hG:GG G)(hr:Room k X.A)(hg:Gl X x)
  (ha:WO X G (e::es) fs) (hal:∀ρ s ds s',fs ρ s=some (ds,s')->ds.length=(e::es).length) (jO:(e::es).length=n:=by rfl)
  (hdb:(x==("__debug__" : Str))=false:=by decide) (he:xh (e::es) X.env=(false,eval e X.env)::xh es X.env:=by rfl) (hpl:(backTo pos (xh es X.env)).any (·.1)=false:=by rfl) :
  PD X G fr (.Call (.Name x p) (e::es) [] pos) (Zr F fs):=by
 obtain⟨f,fd,ps,a,b,c,d⟩:=c;exact Zlt a hG hr hg b c d Zmx ha jO hal hdb he hpl
noncomputable def W5 (h base:Heap)(as:List Addr):Heap:=PySem.W.hideAll h ((qk h.objs.size).filter λa=>!((base.get? a).isSome||decide (a∈as)))
theorem Zih {h base:Heap}{as:List Addr}:(W5 h base as).objs.size=h.objs.size:=qcL _ _
theorem Zfp {h base:Heap}{as:List Addr}{b:Addr}{o:Obj}(e:h.get? b=some o)(n:(∃u,base.get? b=some u)∨b∈as):(W5 h base as).get? b=some o:=
 qc4 _ e λhm=>by
  have q:=(qO.mp hm).2;rcases n with⟨u,n⟩ | n
  ·simp[n]at q
  ·simp[n]at q
theorem Zhp {h base:Heap}{as:List Addr}{b:Addr}{o:Obj}(e:(W5 h base as).get? b=some o):h.get? b=some o/\((∃u,base.get? b=some u)∨b∈as):=by
 have e':h.get? b=some o:=PySem.W.of_hideAll _ e;refine⟨e',?_⟩;by_cases c:((base.get? b).isSome||decide (b∈as))=true
 ·rcases qc5.mp c with c | c
  ·exact .inl (qay.mp c)
  ·exact .inr (of_decide_eq_true c)
 ·have z:(W5 h base as).get? b=none:=qcM _ (qO.mpr ⟨qD.mpr (qK e'),by simpa using c⟩)
  rw[z]at e;cases e
theorem Env0.more {P:xB}{w:World}{K:qm}{mg:Str->Option Value}{base:Heap}{A:xC}{outer:List Env}{s:Shared}{H:Hp}{as:List Addr}(e:Env0 P w K mg base A outer s H)(ha:∀b∈as,H b=none)(hf:∀b∈as,b∉XS outer) :
  Env0 P w K mg (W5 s.heap base as) A outer s H:=by
 have up:∀b o,base.get? b=some o->(W5 s.heap base as).get? b=some o:=λb o q=>Zfp (e.bs b o q).1 (.inl ⟨o,q⟩);refine⟨e.frames,⟨e.mod.kin.keeps up,e.mod.glob.keeps up,let ⟨mb,h1,h2⟩:=e.mod.blt;⟨mb,h1.keeps up,h2⟩,e.mod.nolimit.keeps up⟩,λb o q=>?_,Nat.le_of_eq Zih,?_,e.frf,e.hok,e.bare⟩
 ·obtain⟨q1,q2⟩:=Zhp q
  refine⟨q1,?_⟩;rcases q2 with⟨u,q2⟩ | q2
  ·exact(e.bs b u q2).2
  ·exact ha b q2
 ·have all:∀l:List Env,(∀b∈XS l,b∈XS outer)->s.heap.FunFrames base l->s.heap.FunFrames (W5 s.heap base as) l:=by
   intro l
   induction l with
   | nil=>intro _ _;trivial
   | cons env r ih=>
    intro hs hl;obtain⟨hk,⟨L,o,hf',hn,ho,hd⟩,hr⟩:=hl;have hL:L∈XS outer:=hs L (by unfold XS;rw[yF,hf'];exact zG);refine⟨hk,⟨L,o,hf',?_,ho,hd⟩,ih (λb hb=>hs b (by unfold XS;rw[yF,hf'];exact qQ _ hb)) hr⟩
    cases q:(W5 s.heap base as).get? L with
    | none=>rfl
    | some u=>
     rcases (Zhp q).2 with⟨u',q'⟩ | q'
     ·rw[hn]at q';cases q'
     ·exact absurd hL (hf L q')
  exact all outer (λ_ h=>h) e.funs
noncomputable def fnφ (p:Addr)(fd:xA):Heap->Prop:=λh=>∃oc od sl,h.get? p=some ⟨oc,od,.func fd,sl⟩
noncomputable def codeφ (c:Addr)(q:Str):Heap->Prop:=λh=>h.CodeRec (.ref c) q
theorem fnφ_at {P:xB}{w:World}{H:Hp}{h:Heap}{p:Addr}{fd:xA}(ok:Yg P w H h)(e:H p=some (.ext (fnφ p fd))):fnφ p fd h:=(ok p _ e).1
theorem codeφ_at {P:xB}{w:World}{H:Hp}{h:Heap}{c:Addr}{q:Str}(ok:Yg P w H h)(e:H c=some (.ext (codeφ c q))):h.CodeRec (.ref c) q:=(ok c _ e).1
structure CloScope (N ps:List Str)(sc:Scope):Prop where
 kind:sc.kind=.function
 co:sc.isCoroutine=false
 gen:sc.isGenerator=false
 nd:N.Nodup
 pre:N.take ps.length=ps
 par:∀x∈ps,sc.names.lookup x=some .local
 nocell:∀y∈sc.names,y.2≠.cell
noncomputable def BP (CX:XT)(P:xB)(w:World)(K:qm)(mg:Str->Option Value)(base:Heap)(N:List Str)(qual:Str)(scope:Scope)(f:Addr)(cd:Value)(cl:List (Str×Addr))(A:xC)(outer:List Env)(s:Shared)(H:Hp)(E:XK):Cx where
 prog:=P
 w:=w
 K:=K
 mg:=mg
 base:=base
 A:=A.deeper (qac qual scope s.heap.objs.size f cd cl)
 N:=N
 s₀:=s
 H₀:=H
 env:=qac qual scope s.heap.objs.size f cd cl
 outer:=outer
 stack:=qac qual scope s.heap.objs.size f cd cl::outer
 ex:=[]
 calm:=true
 fn:=λ_=>false
 pn:=[]
 xe:=λe s'=>xf (xz P w) (A.deeper (qac qual scope s.heap.objs.size f cd cl)) (leaving (qac qual scope s.heap.objs.size f cd cl) e) (λ_ s''=>CX outer H s E e s'') (λe' s''=>CX outer H s E e' s'') s'
structure CloAt (base:Heap)(cl:List (Str×Addr))(sc:Scope)(N ps:List Str)(cvs:List V):Prop where
 inj:∀x y c,cl.lookup x=some c->cl.lookup y=some c->x=y
 cell:∀x c,cl.lookup x=some c->∃v,base.IsCell c v
 has:∀x,sc.names.lookup x=some .free->∃c,cl.lookup x=some c
 cap:∀(i:Nat) (x:Str) (v:V),N[ps.length+i]?=some x->cvs[i]?=some v->sc.names.lookup x=some .free/\∃c u,cl.lookup x=some c/\base.IsCell c (some u)/\ZI v u
 len:N.length=ps.length+cvs.length
theorem Zbq {α:Type}:∀{l:List (Str×α)} {x:Str} {u:α},(l.map (·.1)).Nodup->(x,u)∈l->l.lookup x=some u
 | [],_,_,_,h=>by simp at h
 | (y,w)::l,x,u,nd,h=>by
  rw[zc,zU]at nd;rcases qq.mp h with e | hm
  ·cases e;simp[zt]
  ·have hne:(x==y)=false:=by
    simp only[beq_eq_false_iff_ne];rintro rfl;exact nd.1 (qaD (f:=(·.1)) hm)
   rw[zt,hne];exact Zbq nd.2 hm
theorem Zca:∀(ps:List Str) (us:List Value),((ps.zip us).map (·.1)).Sublist ps
 | [],_=>by simp
 | _::_,[]=>by simp
 | p::ps,u::us=>by simpa using Zca ps us
theorem ZcV {ps:List Str}{us:List Value}{i:Nat}{x:Str}{u:Value}(nd:ps.Nodup)(h1:ps[i]?=some x)(h2:us[i]?=some u):(ps.zip us).reverse.lookup x=some u:=by
 refine Zbq ?_ ?_
 ·rw[List.map_reverse]
  refine qcH.mpr ?_;exact(nd.sublist (Zca _ _)).imp zH
 ·rw[qaZ]
  exact zv (i:=i) (yq.mpr ⟨h1,h2⟩)
theorem ZlB {CX:XT}{P:xB}{w:World}{K:qm}{mg:Str->Option Value}{base:Heap}{N ps:List Str}{qual:Str}{scope:Scope}{f:Addr}{cd:Value}{cl:List (Str×Addr)}{A:xC}{outer:List Env}{s:Shared}{H:Hp}{E:XK}{us:List Value}{vs cvs:List V}{h':Heap}{tk:Nat}
  (S:CloScope N ps scope) (C:CloAt base cl scope N ps cvs) (hd:A.handled=none) (e0:Env0 P w K mg base A outer s H) (hl:vs.length=ps.length) (r:Zu vs us)
  (hns:h'.Ns s.heap.objs.size (λx=>(ps.zip us).reverse.lookup x)) (hk:∀b o,s.heap.get? b=some o->h'.get? b=some o) :
  Inv (BP CX P w K mg base N qual scope f cd cl A outer s H E) [] (vs.map some++cvs.map some) H { s with heap:=h',toks:=tk }:=by
 have noA:∀b:Addr,b∉(BP CX P w K mg base N qual scope f cd cl A outer s H E).ex:=λb z=>absurd (show b∈([]:List Addr)from z) (by simp);have up:∀b o,base.get? b=some o->h'.get? b=some o:=λb o q=>hk b o (e0.bs b o q).1;have cellAt:∀x c,cl.lookup x=some c->∃v,base.IsCell c v:=C.cell;refine⟨⟨e0.mod,S.kind,rfl,rfl,qp _,λy z c h1 h2=>C.inj y z c h1 h2,λy hy=>?_,λy c z _=>(by cases z),λ_=>hd,qcO e0.frames,.inr ⟨rfl,rfl⟩,λb z=>absurd z (noA b),e0.bs,e0.bsz,λb _ _=>noA b,λb z=>absurd z (noA b),e0.funs,e0.frf⟩,
  rfl,e0.bare,Un.kept hk,⟨_,hns,λi y v h1 h2 h3=>?_⟩,λy c h=>?_,e0.hok.fresh (qp _),λy c h=>?_,λp hp=>absurd (show p∈([]:Qb)from hp) (by simp),e0.hok.kept hk,?_⟩
 ·have hy:scope.names.lookup y=some .cell∨scope.names.lookup y=some .free:=hy
  rcases hy with hy | hy
  ·exact absurd rfl (S.nocell _ (zO hy))
  ·exact C.has y hy
 ·have h1:N[i]?=some y:=h1
  by_cases hi:i<vs.length
  ·have ha:vs[i]?=some v:=by
    rw[zD (by simpa using hi),qH]at h2
    cases e:vs[i]? with
    | none=>rw[e]at h2;cases h2
    | some a=>rw[e]at h2;cases h2;rfl
   obtain⟨u,hu,rv⟩:=r.get ha;have hp:ps[i]?=some y:=by
    rw[<-S.pre,zM (by omega)];exact h1
   have ndP:ps.Nodup:=by rw[<-S.pre];exact S.nd.sublist (zF _ _)
   exact⟨u,rv,.inl ⟨S.par y (zv hp),ZcV ndP hp hu⟩⟩
  ·rw[yj (by simpa using hi),qH,qd]at h2
   have hc:cvs[i-vs.length]?=some v:=by
    cases e:cvs[i-vs.length]? with
    | none=>rw[e]at h2;cases h2
    | some a=>rw[e]at h2;cases h2;rfl
   obtain⟨q1,c,u,q2,q3,q4⟩:=C.cap (i-vs.length) y v (by rw[show ps.length+(i-vs.length)=i by omega];exact h1) hc;exact⟨u,q4,.inr ⟨.inr q1,c,q2,q3.keeps up⟩⟩
 ·obtain⟨v,q⟩:=C.cell y c h
  exact⟨v,q.keeps up⟩
 ·obtain⟨v,o,q,_⟩:=C.cell y c h
  exact(e0.bs c o q).2
 ·show _=N.length
  rw[C.len];simp[hl]
theorem ZlC {CX:XT}{P:xB}{w:World}{K:qm}{mg:Str->Option Value}{base:Heap}{k:Nat}{f:Addr}{name qual:Str}{params:Arguments}{body:Expr}{scope:Scope}{cl:List (Str×Addr)}{pm ct:Value}{c':Addr}{N ps:List Str}{cvs:List V}{sp:Sp}
  (S:CloScope N ps scope) (C:CloAt base cl scope N ps cvs) (len:∀vs H Q E,sp vs H Q E->vs.length=ps.length)
  (at_:∀vs H Q E,sp vs H Q E->H f=some (.ext (fnφ f (yZ name qual params body scope cl pm (.ref c') ct)))/\H c'=some (.ext (codeφ c' qual)))
  (hbody:∀(A:xC) (outer:List Env) (s:Shared) (H:Hp) (vs:List V) (Q:VK) (E:XK),Room k (A.deeper (qac qual scope s.heap.objs.size f (.ref c') cl))->sp vs H Q E->
   ∃t,PE (BP CX P w K mg base N qual scope f (.ref c') cl A outer s H E) body t/\t (vs.map some++cvs.map some) H Q) :
  FnOk P w K mg base CX (k+1) f (yZ name qual params body scope cl pm (.ref c') ct) ps sp:=by
 refine⟨len,λA outer s H args us vs Q E hr e0 hb r hsp=>?_⟩;have hl:=len _ _ _ _ hsp;obtain⟨a1,a2⟩:=at_ _ _ _ _ hsp;obtain⟨oc,od,sl,ho⟩:=fnφ_at e0.hok a1;have lim:s.heap.NoLimit:=e0.mod.nolimit.keeps λb o e=>(e0.bs b o e).1;have hkind:∀y∈ps.zip us,scope.names.lookup y.1=some .local:=λ⟨n,v⟩ hy=>S.par n (qaI hy).1;refine PySem.W.kla_callFunE hr.depth ho rfl S.co S.gen rfl (codeφ_at e0.hok a2) (hb _ _ _ _ ?_);refine wpAny_newFunctionEnv S.nocell hkind (λh' hns hsb=>?_) S.kind;have hk:∀b o,s.heap.get? b=some o->h'.get? b=some o:=λb o e=>hsb.extBut b o (qV (qK e)) (qj _ e);refine⟨lim.keeps hk,?_⟩;show xo _ _ (.expr body (qac qual scope s.heap.objs.size f (.ref c') cl)) _ _;obtain⟨t,ht,hq⟩:=hbody A outer s H vs Q E (hr.deeper _) hsp;refine PySem.W.kla_codeExpr (xc (ht [] _ _ H Q (ZlB S C hr.hd e0 hl r hns hk) hq) (λu s' hs=>?_) λe s' hs=>hs);obtain⟨v,H',J,rv,q⟩:=hs;exact⟨v,H',J.os,J.bare,J.base,J.hok,rv,q⟩
structure Mk0 (X:Cx)(c P:Addr):Prop where
 code:X.env.code=.ref c
 hd:y4 X.base c P
 bm:∃bm o,X.mg "__builtins__" = some (.ref bm)/\bm≠builtinsNs/\bm≠mainGlobals/\X.base.get? bm=some o/\o.cls=.type "module"/\o.dict=some builtinsNs/\o.data=.plain
noncomputable def Slot (P:Addr)(q:Str)(lpos:Pos)(ps:Array Value)(H Hm:Hp)(c':Addr):Prop:=
 (Hm=H/\codeAmong lpos ps.toList=some (.ref c')/\H c'=some (.ext (codeφ c' q)))∨(codeAmong lpos ps.toList=none/\H c'=none/\c'≠P/\Hm=Zl (Zl H P (.tbl (ps ++ #[rawInt lpos.line,rawInt lpos.col,.ref c']))) c' (.ext (codeφ c' q)))
noncomputable def Zop (P:Addr)(q:Str)(lpos:Pos)(isFd:xA->Addr->Prop)(H:Hp)(R:Addr->Addr->xA->Hp->Prop):Prop:=
 ∃ps,H P=some (.tbl ps)/\TriplesOk ps.toList/\(∀cv,codeAmong lpos ps.toList=some cv->∃c',cv=.ref c'/\H c'=some (.ext (codeφ c' q)))/\
  ∀p c' fd Hm,isFd fd c'->Slot P q lpos ps H Hm c'->Hm p=none->R p c' fd (Zl Hm p (.ext (fnφ p fd)))
section
variable {X:Cx}{jI:Qb}{σ:St}{H:Hp}{s:Shared}{c P:Addr}{ps:Array Value}
theorem Mk0.bat (M:Mk0 X c P)(I:Inv X jI σ H s)(hP:H P=some (.tbl ps)):s.heap.BuiltinsAt X.mg P:=by
 obtain⟨bm,o,e1,e2,e3,e4,e5⟩:=M.bm;refine⟨bm,o,e1,e2,e3,λz=>?_,I.bk _ _ e4,e5⟩;have:=(I.bs _ _ e4).2;rw[z,hP]at this;cases this
theorem gne (I:Inv X jI σ H s)(hP:H P=some (.tbl ps)):mainGlobals≠P:=λz=>by
 obtain⟨o,es,ep,e,_⟩:=I.mod.glob;have:=(I.bs _ _ e).2;rw[z,hP]at this;cases this
theorem Zgw {P0:xB}{w:World}{H':Hp}{h:Heap}{a:Addr}{φ:Heap->Prop}(h1:φ h)(h2:∃o,h.get? a=some o)(h3:∀h1 h2:Heap,φ h1->(∀o,h1.get? a=some o->h2.get? a=some o)->φ h2):Ym P0 w H' h a (.ext φ):=⟨h1,h2,h3⟩
theorem fnφ_keep {p:Addr}{fd:xA}:∀h1 h2:Heap,fnφ p fd h1->(∀o,h1.get? p=some o->h2.get? p=some o)->fnφ p fd h2:=λh1 h2 ⟨oc,od,sl,e⟩ k=>⟨oc,od,sl,k _ e⟩
theorem codeφ_keep {p:Addr}{q:Str}:∀h1 h2:Heap,codeφ p q h1->(∀o,h1.get? p=some o->h2.get? p=some o)->codeφ p q h2:=λh1 h2 ⟨a,o,vs,t,e,e1,r⟩ k=>by
 cases e
 exact⟨p,o,vs,t,rfl,k _ e1,r⟩
theorem codeφ_there {p:Addr}{q:Str}{h:Heap}(x:codeφ p q h):∃o,h.get? p=some o:=by
 obtain⟨a,o,vs,t,e,e1,r⟩:=x
 cases e
 exact⟨o,e1⟩
theorem ZlD {h':Heap}{tk:Nat}{c':Addr}{more:Array Value}{q:Str}(I:Inv X jI σ H s)(hP:H P=some (.tbl ps))(hx:qbx P s.heap h')(hge:s.heap.objs.size<=c')(hc:h'.CodeRec (.ref c') q)(ht:h'.get? P=some (qbi (ps++more))) :
  Inv X jI σ (Zl (Zl H P (.tbl (ps++more))) c' (.ext (codeφ c' q))) { s with heap:=h',toks:=tk }/\H c'=none/\c'≠P:=by
 have hc0:H c'=none:=I.hok.fresh hge;have hcP:c'≠P:=λz=>by rw[z,hP]at hc0;cases hc0
 have old:∀{b:Addr} {u:HO},H b=some u->b≠c':=λe z=>by rw[z,hc0]at e;cases e
 have get:∀{b:Addr} {u:HO},H b=some u->b≠P->Zl (Zl H P (.tbl (ps++more))) c' (.ext (codeφ c' q)) b=some u:=λ{b u} e n=>by rw[Zx (old e),Zx n];exact e
 refine⟨I.call (g':=s.gens) (d':=s.drawn) (ch:=[]) ?_ ?_ I.bare (λb hb=>absurd hb (by simp)),hc0,hcP⟩
 ·refine⟨λb o e n _ _=>hx b o (λz=>by rw[z,hP]at n;cases n) e,λb o e n _ _=>⟨o.slots,hx b o (λz=>by rw[z,hP]at n;cases n) e⟩,λb o e n _=>?_,λb o e _=>?_,λb xs e=>get e (λz=>by rw[z,hP]at e;cases e),λb o u e=>get e (λz=>by rw[z,hP]at e;cases e),λb ps' e=>?_⟩
  ·rw[Zx (qV (zh (qK e) hge)),Zx (λz=>by rw[z,hP]at n;cases n)];exact n
  ·by_cases hb:b=P
   ·exact⟨_,hb▸ht⟩
   ·exact⟨o,hx b o hb e⟩
  ·by_cases hb:b=P
   ·subst hb
    rw[hP]at e;cases e;exact⟨more,by rw[Zx (old hP),ZQ]⟩
   ·exact⟨#[],by rw[get e hb];simp⟩
 ·intro a o e
  by_cases ha:a=c'
  ·subst ha
   rw[ZQ]at e;cases e;exact Zgw hc (codeφ_there hc) codeφ_keep
  ·rw[Zx ha]at e
   by_cases hb:a=P
   ·subst hb
    rw[ZQ]at e;cases e;exact ht
   ·rw[Zx hb]at e
    refine(I.hok a o e).stay (λb u hb' r=>hx b u ?_ r) (λb r=>get r (λz=>by rw[z,hP]at r;cases r)) λb xs r=>get r (λz=>by rw[z,hP]at r;cases r);rcases hb' with rfl | hb'
    ·exact hb
    ·intro z;rw[z,hP]at hb';cases hb'
structure CloOf (X:Cx)(scope:Scope)(cl:List (Str×Addr)):Prop where
 of:∀x c,cl.lookup x=some c->X.env.cells.lookup x=some c
 has:∀y∈scope.names,y.2=.free->∃c,cl.lookup y.1=some c
theorem ZlE {scope:Scope}(ok:X.Ok)(hfree:∀y∈scope.names,y.2=.free->X.env.kindOf y.1=some .cell∨X.env.kindOf y.1=some .free):∃cl,closureFor scope X.env=pure cl/\CloOf X scope cl:=by
 obtain⟨cl,q1,q2,q3,q4⟩:=BX (env:=X.env) scope.names [] (λy hy hf=>ok.has y.1 (hfree y hy hf)) (λx c h=>by simp at h);refine⟨cl,?_,q2,q4⟩;unfold closureFor;show(forIn scope.names [] _ >>= _)=_;rw[show(forIn scope.names ([]:List (Str×Addr)) λ(x:Str×NameKind) (r:List (Str×Addr))=>_)=_ from q1];rfl
theorem Zns {params:Arguments}{body:Expr}{scope:Scope}{lpos:Pos}{q:Str}(M:Mk0 X c P)(hq:X.env.qual ++ "<lambda>" = q)(hfree:∀y∈scope.names,y.2=.free->X.env.kindOf y.1=some .cell∨X.env.kindOf y.1=some .free)(hdef:defaultsOf params X.env=([],[]):=by rfl) :
  PE X (.Lambda params body scope lpos) (fun σ H Q=>Zop P q lpos (λfd c'=>∃cl pm ctv,CloOf X scope cl/\fd=yZ "<lambda>" q params body scope cl pm (.ref c') ctv) H λp _ _ H'=>Q (.ref p) H'):=by
 intro jI s σ H Q I ⟨ps,hP,ht,hhit,h⟩;obtain⟨cl,hcl,co⟩:=ZlE I.ok hfree;have hP':s.heap.get? P=some (qbi ps):=I.hok P _ hP;have hg:s.heap.Ns mainGlobals X.mg:=I.mod.glob.keeps I.bk;have hb:=M.bat I hP;refine PySem.W.kla_eval hdef ?_;rw[hq]
 cases hc:codeAmong lpos ps.toList with
 | some cv=>
  obtain⟨c',rfl,hc'⟩:=hhit cv hc;refine PySem.W.kla_makeFunctionHit hcl I.ok.glob hg M.code (M.hd.keeps I.bk) hP' ht hc hb λctv h' tk hk hsz=>?_;refine⟨.ref h'.objs.size,Zl H h'.objs.size (.ext (fnφ _ _)),I.laid (t':=tk) (λb u e=>qj _ (hk b u e)) hsz (Zgw ⟨_,_,_,qC _ rfl⟩ ⟨_,qC _ rfl⟩ fnφ_keep),rfl,h _ c' _ H ⟨cl,_,_,co,rfl⟩ (.inl ⟨rfl,hc,hc'⟩) (I.hok.fresh hsz)⟩
 | none=>
  refine PySem.W.kla_makeFunction hcl I.ok.glob hg M.code (M.hd.keeps I.bk) hP' ht hc (gne I hP) hb λc' ctv h' tk hx hge hlt hrec htb=>?_;obtain⟨I1,hc0,hcP⟩:=ZlD (tk:=tk) I hP hx hge hrec htb;refine⟨.ref h'.objs.size,Zl _ h'.objs.size (.ext (fnφ _ _)),I1.laid (t':=tk) (λb u e=>qj _ e) (qp _) (Zgw ⟨_,_,_,qC _ rfl⟩ ⟨_,qC _ rfl⟩ fnφ_keep),rfl,h _ c' _ _ ⟨cl,_,_,co,rfl⟩ (.inr ⟨hc,hc0,hcP,rfl⟩) (I1.hok.fresh (qp _))⟩
end
structure Cells (X:Cx)(σ:St)(base':Heap):Prop where
 inj:∀x y c,X.env.cells.lookup x=some c->X.env.cells.lookup y=some c->x=y
 cell:∀x c,X.env.cells.lookup x=some c->∃v,base'.IsCell c v
 has:∀x,(X.env.kindOf x=some .cell∨X.env.kindOf x=some .free)->∃c,X.env.cells.lookup x=some c
 val:∀(i:Nat) (x:Str) (v:V),X.N[i]?=some x->σ[i]?=some (some v)->X.env.kindOf x=some .cell->∃c u,X.env.cells.lookup x=some c/\base'.IsCell c (some u)/\ZI v u
section
variable {X:Cx}{jI:Qb}{σ:St}{H:Hp}{s:Shared}
noncomputable def Bq (X:Cx):List Addr:=X.env.cells.filterMap λp=>X.env.cells.lookup p.1
theorem Zii {x:Str}{c:Addr}(e:X.env.cells.lookup x=some c):c∈Bq X:=qaH.mpr ⟨(x,c),zO e,e⟩
theorem Zfq {c:Addr}(h:c∈Bq X):∃x,X.env.cells.lookup x=some c:=by
 obtain⟨p,_,e⟩:=qaH.mp h;exact⟨p.1,e⟩
theorem Zij (I:Inv X jI σ H s)(hfn:∀x,X.fn x=true):Env0 X.prog X.w X.K X.mg (W5 s.heap X.base (Bq X)) X.A X.stack s H/\Cells X σ (W5 s.heap X.base (Bq X)):=by
 have cellK:∀x c v,X.env.cells.lookup x=some c->s.heap.IsCell c v->(W5 s.heap X.base (Bq X)).IsCell c v:=λx c v e ⟨o,ho,hd⟩=>⟨o,Zfp ho (.inr (Zii e)),hd⟩;refine⟨Env0.more I.env0 (λb hb=>?_) λb hb hf=>?_,⟨I.ok.inj,λx c e=>?_,I.ok.has,λi x v h1 h2 h3=>?_⟩⟩
 ·obtain⟨x,e⟩:=Zfq hb
  exact I.freeC x b e
 ·obtain⟨x,e⟩:=Zfq hb
  rcases qq.mp (I.stkSub b hf)with z | z
  ·exact I.cne x b e z
  ·obtain⟨_,o,ho,_⟩:=I.ok.funs.mem z
   exact absurd (zh (qK ho) (I.ok.cab x b (hfn x) e)) (yI _)
 ·obtain⟨v,q⟩:=I.cell x c e
  exact⟨v,cellK x c v e q⟩
 ·obtain⟨m,_,hl⟩:=I.loc
  obtain⟨u,r,l⟩:=hl i x v h1 h2 (.inr (.inl h3));rcases l with⟨hk,_⟩ | ⟨_,c,hc,hcell⟩
  ·rw[h3]at hk;cases hk
  ·exact⟨c,u,hc,cellK x c _ hc hcell,r⟩
theorem ZjI {x:Str}{p pos:Pos}{e:Expr}{es:List Expr}{t:TA}{k:Nat}{f:Addr}{fd:xA}{ps:List Str}{sp:Heap->Sp}(F:∀base,FnOk X.prog X.w X.K X.mg base ZV k f fd ps (sp base))(hfn:∀x,X.fn x=true)(hr:Room k X.A)(hg:Gl X x)(hm:X.mg x=some (.ref f))(hk:yK X.K (.ref f)=true)(hb:Wi X.K fd ps [])
  (ha:PA X (e::es) t) (hdb:(x==("__debug__" : Str))=false:=by decide) (he:xh (e::es) X.env=(false,eval e X.env)::xh es X.env:=by rfl) (hpl:(backTo pos (xh es X.env)).any (·.1)=false:=by rfl) :
  PE X (.Call (.Name x p) (e::es) [] pos) (fun σ H Q=>t σ H λvs H1=>∀base',Cells X σ base'->sp base' vs H1 Q E0):=by
 intro jI s σ H Q I h;refine wpAny_Call_Name_kw (Zhd I hg hm ?_ hdb);refine PySem.W.callWith_K (h₀:=X.base) I.ok.mod.kin hk (ZJ (ha pos jI s σ H _ I h) λus s1 ⟨vs,H1,I1,r,q⟩=>⟨I1.kIn,?_⟩) he hpl;obtain⟨e0,cs⟩:=Zij I1 hfn;have q':=q _ cs;have hl:(us ++ []).length=ps.length:=by rw[zj,<-r.length];exact(F _).len _ _ _ _ q'
 refine xy (codeAny_mono ((F _).run X.A X.stack s1 H1 ⟨us,[]⟩ us vs Q E0 hr e0 (by have:=hb s1 us I1.kIn hl;rw[zj]at this;exact this) r q') λr s' hq=>?_)
 cases r with
 | error e=>exact hq.elim
 | ok fl=>
  cases fl with
  | ret u=>exact I1.after hq
  | next=>exact yC hq
  | brk=>exact yC hq
  | cont=>exact yC hq
theorem ZjJ {x:Str}{p pos:Pos}{e:Expr}{es:List Expr}{t:TA}{k i:Nat}(hf:PE X (.Name x p) (Yx i))(hr:Room k X.A)(ha:PA X (e::es) t)
  (he:xh (e::es) X.env=(false,eval e X.env)::xh es X.env:=by rfl) (hpl:(backTo pos (xh es X.env)).any (·.1)=false:=by rfl) :
  PE X (.Call (.Name x p) (e::es) [] pos) (fun σ H Q=>∃f fd ps sp,σ[i]?=some (some (.ref f))/\Wi X.K fd ps []/\FnOk X.prog X.w X.K X.mg X.base ZV k f fd ps sp/\(∀h:Heap,Yg X.prog X.w H h->X.K.In h->fnφ f fd h)/\
   t σ H λvs H1=>(∀h:Heap,Yg X.prog X.w H1 h->X.K.In h->fnφ f fd h)/\sp vs H1 Q E0):=by
 intro jI s σ H Q I ⟨f,fd,ps,sp,e,hb,F,h0,h⟩;refine wpAny_Call_Name_kw (ZJ (hf jI s σ H (λv H'=>v=.ref f/\H'=H) I ⟨_,e,rfl,rfl⟩) λu s1 ⟨v,H1,I1,rv,ev,eH⟩=>?_);subst ev eH
 cases (show u=qY f from rv)
 have at1:∀{jI σ H s},Inv X jI σ H s->(∀h:Heap,Yg X.prog X.w H h->X.K.In h->fnφ f fd h)->PySem.W.FnAt f s.heap:=λI z=>by
  obtain⟨oc,od,sl,q⟩:=z _ I.hok I.kIn;exact⟨oc,od,fd,sl,q⟩
 refine PySem.W.callWith_F (at1 I1 h0) (ZJ (ha pos jI s1 σ _ _ I1 h) λus s2 ⟨vs,H2,I2,r,h2,q⟩=>⟨at1 I2 h2,?_⟩) he hpl;exact Zje F hr hb .nil Zmx I2 r (by rw[zj];exact q)
end
mutual
noncomputable def YE:D->Bool
 | .tup ds=>Xo ds
 | .lst ds=>Xo ds
 | .clo _ _=>false
 | _=>true
noncomputable def Xo:List D->Bool
 | []=>true
 | d::ds=>YE d&&Xo ds
end
mutual
theorem Zi.re {G G':Gh}{H:Hp}(hf:G'.fp=G.fp)(hp:G'.pen=G.pen):∀{d:D} {v:V},YE d=true->Zi G H d v->Zi G' H d v
 | .non,_,_,h=>jg.mpr (jg.mp h)
 | .bl _,_,_,h=>je.mpr (je.mp h)
 | .int _,_,_,h=>ja.mpr (ja.mp h)
 | .str _,_,_,h=>jh.mpr (jh.mp h)
 | .tup ds,v,n,h=>by
  obtain⟨a,vs,e1,nf,e2,r⟩:=jc.mp h;exact jc.mpr ⟨a,vs,e1,by rw[hf];exact nf,e2,Zh.re hf hp (by simpa[YE]using n) r⟩
 | .lst ds,v,n,h=>by
  obtain⟨a,vs,e1,nf,e2,r⟩:=jb.mp h;exact jb.mpr ⟨a,vs,e1,by rw[hf];exact nf,e2,Zh.re hf hp (by simpa[YE]using n) r⟩
 | .dk _,_,_,h=>by
  obtain⟨a,e1,nf,e2⟩:=jj.mp h;exact jj.mpr ⟨a,e1,by rw[hf];exact nf,e2⟩
 | .dt _,_,_,h=>by
  obtain⟨a,o,e1,nf,e2⟩:=jk.mp h;exact jk.mpr ⟨a,o,e1,by rw[hf];exact nf,e2⟩
 | .du _,_,_,h=>by
  obtain⟨a,e1,nf,e2⟩:=jl.mp h;exact jl.mpr ⟨a,e1,by rw[hf];exact nf,e2⟩
 | .df _,_,_,h=>by
  obtain⟨a,o,e1,nf,e2⟩:=jt.mp h;exact jt.mpr ⟨a,o,e1,by rw[hf];exact nf,e2⟩
 | .pen,_,_,h=>jp.mpr ((jp.mp h).trans hp.symm)
 | .ty _,_,_,h=>jq.mpr (jq.mp h)
 | .clo _ _,_,n,_=>by simp[YE]at n
theorem Zh.re {G G':Gh}{H:Hp}(hf:G'.fp=G.fp)(hp:G'.pen=G.pen):∀{ds:List D} {vs:List V},Xo ds=true->Zh G H ds vs->Zh G' H ds vs
 | [],_,_,h=>Zh.nil_iff.mpr (Zh.nil_iff.mp h)
 | d::ds,vs,n,h=>by
  obtain⟨v,r,e,h1,h2⟩:=jd.mp h;have n':YE d=true/\Xo ds=true:=by simpa[Xo]using n
  exact jd.mpr ⟨v,r,e,Zi.re hf hp n'.1 h1,Zh.re hf hp n'.2 h2⟩
end
theorem Gr.re {G G':Gh}{Hf H Hf' H':Hp}(hf:G'.fp=G.fp)(g:Gr G Hf H Hf' H'):Gr G' Hf H Hf' H':=
 ⟨λb o n=>g.hh b o (by rw[<-hf];exact n),λb o n=>g.ff b o (by rw[<-hf];exact n),λb o n=>g.fh b o (by rw[<-hf];exact n),λb n=>g.nw b (by rw[<-hf];exact n)⟩
theorem Zz.re {G G':Gh}{H H':Hp}(hf:G'.fp=G.fp)(g:Zz G H H'):Zz G' H H':=λb o n=>g b o (by rw[<-hf];exact n)
theorem Z2.re {G G':Gh}{H Hf':Hp}{d:D}{v:V}(hf:G'.fp=G.fp)(hp:G'.pen=G.pen)(n:YE d=true)(h:Z2 G H Hf' d v):Z2 G' H Hf' d v:=λa e m=>by
 obtain⟨h1,h2⟩:=h a e m;refine⟨h1,λds ed=>?_⟩;obtain⟨vs,Hm,q1,q2,q3,q4⟩:=h2 ds ed;subst ed;exact⟨vs,Hm,q1,q2,q3.re hf,q4.re hf hp (by simpa[YE]using n)⟩
noncomputable def spK (n:Nat)(G:Gh)(cvs:List V)(F:List D->M D):Sp:=λus H Q _=>∃(Hf:Hp) (ds cds:List D) (s:Pn) (d:D) (s':Pn),us.length=n/\Zz G Hf H/\Zh G Hf ds us/\Zh G Hf cds cvs/\G.st s H/\F (ds++cds) s=some (d,s')/\
 ∀v Hf' H',Gr G Hf H Hf' H'->G.st s' H'->Zi G Hf' d v->Q v H'
noncomputable def Jx (P:xB)(w:World)(K:qm)(mg:Str->Option Value)(k n:Nat)(T:Nat->List D->M D)(base:Heap)(G:Gh):Prop:=
 ∀t v cvs,G.clo t v cvs->∃f fd ps,v=.ref f/\ps.length=n/\Wi K fd ps []/\(∀s H,G.st s H->∀h:Heap,Yg P w H h->K.In h->fnφ f fd h)/\FnOk P w K mg base ZV k f fd ps (spK n G cvs (T t))
noncomputable def BE (T:Nat->List D->M D)(i:Nat)(fs:Zb->M (List D)):Zb->M D:=fun ρ=>Zp (Za i ρ) λc=>Zp (fs ρ) λds=>match c with | .clo t cds=>T t (ds++cds) | _=>ZE
theorem Zik {i:Nat}{ρ:Zb}{s s':Pn}{d:D}(h:Za i ρ s=some (d,s')):ρ[i]?=some (some d)/\s'=s:=by
 obtain⟨e,rfl⟩:=WV h;refine⟨?_,rfl⟩
 cases q:ρ[i]? with
 | none=>rw[q]at e;cases e
 | some o=>rw[q]at e;simp at e;rw[e]
section
variable {X:Cx}{G:Gh}
theorem ZjK {T:Nat->List D->M D}{k n i:Nat}{x:Str}{p pos:Pos}{e:Expr}{es:List Expr}{fs:Zb->M (List D)}(hG:Jx X.prog X.w X.K X.mg k n T X.base G)(hr:Room k X.A)(hf:PE X (.Name x p) (Yx i))(ha:WO X G (e::es) fs)
  (hal:∀ρ s ds s',fs ρ s=some (ds,s')->ds.length=(e::es).length) (jO:(e::es).length=n:=by rfl)
  (he:xh (e::es) X.env=(false,eval e X.env)::xh es X.env:=by rfl) (hpl:(backTo pos (xh es X.env)).any (·.1)=false:=by rfl) :
  PD X G false (.Call (.Name x p) (e::es) [] pos) (BE T i fs):=by
 obtain⟨t,pa,qa⟩:=ha;refine⟨_,ZjJ hf hr pa he hpl,fun σ Hf H ρ s d s' Q e1 e2 e3 e4 k=>?_⟩;obtain⟨c,s0,b0,b1⟩:=ZC e4;obtain⟨a0,rfl⟩:=Zik b0;obtain⟨ds,s1,a1,a2⟩:=ZC b1
 cases c with
 | clo t cds=>
  obtain⟨v,hσ,r⟩:=e2 i _ a0;obtain⟨cvs,hc,rc⟩:=jy.mp r;obtain⟨f,fd,ps,rfl,hl,hb,hat,F⟩:=hG t v cvs hc;refine⟨f,fd,ps,_,hσ,hb,F,hat _ H e3,qa σ Hf H ρ _ ds s1 _ e1 e2 e3 a1 λvs jU H1 g1 jW r1=>⟨hat _ H1 jW,jU,ds,cds,s1,d,s',?_,g1.fh,r1,rc.ext g1.ff,jW,a2,λv jZ H2 g2 jT r2=>k v jZ H2 (g1.trans g2) jT r2 (λz=>by cases z)⟩⟩;rw[<-r1.length,hal _ _ _ _ a1];exact jO
 | _=>cases a2
end
noncomputable def VL (n:Nat)(f:Zb->M D):List D->M D:=λds=>if ds.length=n then f (ds.map some)else ZE
theorem ZlF {G:Gh}{Hf:Hp}{ds:List D}{vs:List V}(r:Zh G Hf ds vs):YF G Hf (vs.map some) (ds.map some):=λi d e=>by
 rw[qH]at e
 cases q:ds[i]? with
 | none=>rw[q]at e;cases e
 | some d'=>
  rw[q]at e;cases e;obtain⟨v,h1,h2⟩:=r.get q;exact⟨v,by rw[qH,h1];rfl,h2⟩
theorem fnKE {P:xB}{w:World}{K:qm}{mg:Str->Option Value}{base:Heap}{k:Nat}{f:Addr}{name qual:Str}{params:Arguments}{body:Expr}{scope:Scope}{cl:List (Str×Addr)}{pm ct:Value}{c':Addr}{N ps:List Str}{cvs:List V}{G:Gh}{fr:Bool}{fe:Zb->M D}
  (S:CloScope N ps scope) (C:CloAt base cl scope N ps cvs) (hG:∀s H,G.st s H->H f=some (.ext (fnφ f (yZ name qual params body scope cl pm (.ref c') ct)))/\H c'=some (.ext (codeφ c' qual)))
  (hb:∀(A:xC) (outer:List Env) (s:Shared) (H:Hp) (E:XK),Room k (A.deeper (qac qual scope s.heap.objs.size f (.ref c') cl))->PD (BP ZV P w K mg base N qual scope f (.ref c') cl A outer s H E).nox G fr body fe) :
  FnOk P w K mg base ZV (k+1) f (yZ name qual params body scope cl pm (.ref c') ct) ps (spK ps.length G cvs (VL N.length fe)):=by
 refine ZlC (cvs:=cvs) S C (λvs H Q E ⟨_,_,_,_,_,_,h,_⟩=>h) (λvs H Q E ⟨_,_,_,s,_,_,_,_,_,_,st,_⟩=>hG s H st) λA outer s H vs Q E hr h=>?_;obtain⟨Hf,ds,cds,pn,d,pn',el,e1,r1,r2,st,eF,k'⟩:=h;obtain⟨t,p,q⟩:=hb A outer s H E hr;refine⟨t,p.nox,?_⟩;obtain⟨hl,a0⟩:=Xc eF;have env:=ZlF (r1.append r2);rw[zE]at env;exact q _ Hf H _ pn d pn' Q e1 env st a0 λv Hf' H' g st' r _=>k' v Hf' H' g st' r
structure TabG (P:Addr)(q:Str)(G:Gh):Prop where
 get:∀s H,G.st s H->∃ps,H P=some (.tbl ps)/\TriplesOk ps.toList/\∀pos cv,codeAmong pos ps.toList=some cv->∃c',cv=.ref c'/\H c'=some (.ext (codeφ c' q))/\¬G.fp c'
 fp:G.fp P
 put:∀s H ps (pos:Pos) c',G.st s H->H P=some (.tbl ps)->H c'=none->codeAmong pos ps.toList=none->G.st s (Zl (Zl H P (.tbl (ps ++ #[rawInt pos.line,rawInt pos.col,.ref c']))) c' (.ext (codeφ c' q)))
noncomputable def Wr (G:Gh)(t:Nat)(p c':Addr)(fd:xA)(q:Str)(cvs:List V):Gh where
 fp:=G.fp
 rd:=G.rd
 pen:=G.pen
 st:=λs H=>G.st s H/\H p=some (.ext (fnφ p fd))/\H c'=some (.ext (codeφ c' q))
 mono:=λs H H' ⟨h1,h2,h3⟩ k1 k2=>⟨G.mono s H H' h1 k1 k2,k2 _ _ h2,k2 _ _ h3⟩
 sub:=G.sub
 dom:=λs H b h=>G.dom s H b h.1
 ntp:=λs H b vs h=>G.ntp s H b vs h.1
 clo:=λt' v cs=>t'=t/\v=.ref p/\cs=cvs
noncomputable def Jy (P:xB)(w:World)(K:qm)(mg:Str->Option Value)(k:Nat)(x:Str)(n:Nat)(fr:Bool)(GG:Heap->Gh->Prop)(F:List D->M D):Prop:=
 ∃f fd ps,(∀base,FnOk P w K mg base ZV k f fd ps (Yr n fr (GG base) F))/\mg x=some (.ref f)/\yK K (.ref f)=true/\Wi K fd ps []
theorem Jy.mono {P:xB}{w:World}{K:qm}{mg:Str->Option Value}{j k:Nat}{x:Str}{n:Nat}{fr:Bool}{GG:Heap->Gh->Prop}{F:List D->M D}(c:Jy P w K mg j x n fr GG F)(h:j<=k:=by decide):Jy P w K mg k x n fr GG F:=
 let ⟨f,fd,ps,a,b,c,d⟩:=c
 ⟨f,fd,ps,λbase=>(a base).mono h,b,c,d⟩
structure CapS (X:Cx)(XN:List Str)(NS:List (Str×NameKind))(N ps:List Str)(cix:List Nat)(scope:Scope):Prop where
 xn:X.N=XN
 ns:X.env.scope.names=NS
 len:N.length=ps.length+cix.length
 at_:(cix.zip (N.drop ps.length)).all (λp=>decide (XN[p.1]?=some p.2)&&decide (NS.lookup p.2=some .cell)&&decide (scope.names.lookup p.2=some .free))=true
 free:∀y∈scope.names,y.2=.free->NS.lookup y.1=some .cell∨NS.lookup y.1=some .free
theorem CapS.hfree {X:Cx}{XN:List Str}{NS:List (Str×NameKind)}{N ps:List Str}{cix:List Nat}{scope:Scope}(B:CapS X XN NS N ps cix scope):∀y∈scope.names,y.2=.free->X.env.kindOf y.1=some .cell∨X.env.kindOf y.1=some .free:=λy hy hf=>by
 have:=B.free y hy hf;rw[<-B.ns]at this;exact this
theorem CapS.cloAt {X:Cx}{XN:List Str}{NS:List (Str×NameKind)}{N ps:List Str}{cix:List Nat}{scope:Scope}{σ:St}{base':Heap}{cl:List (Str×Addr)}{cvs:List V}(B:CapS X XN NS N ps cix scope)(cs:Cells X σ base')(co:CloOf X scope cl)(hl:cvs.length=cix.length)
  (hv:∀(i j:Nat) (v:V),cix[i]?=some j->cvs[i]?=some v->σ[j]?=some (some v)):CloAt base' cl scope N ps cvs:=by
 refine⟨λx y c h1 h2=>cs.inj x y c (co.of x c h1) (co.of y c h2),λx c h=>cs.cell x c (co.of x c h),λx h=>co.has (x,.free) (zO h) rfl,λi x v h1 h2=>?_,by rw[B.len,hl]⟩;have hi:i<cix.length:=by rw[<-hl];exact(qw.mp h2).1
 have hj:cix[i]?=some cix[i]:=qG hi;have hx:(N.drop ps.length)[i]?=some x:=by rw[zV];exact h1
 have q:=yh.mp B.at_ (cix[i],x) (zv (i:=i) (yq.mpr ⟨hj,hx⟩));simp only[zl,decide_eq_true_eq]at q;obtain⟨⟨q1,q2⟩,q3⟩:=q;refine⟨q3,?_⟩;obtain⟨c,u,e1,e2,e3⟩:=cs.val cix[i] x v (by rw[B.xn];exact q1) (hv i _ v hj h2) (by show X.env.scope.names.lookup x=_;rw[B.ns];exact q2);obtain⟨c2,e4⟩:=co.has (x,.free) (zO q3) rfl;have e5:=co.of x c2 e4;rw[e1]at e5;cases e5;exact⟨c,u,e4,e2,e3⟩
noncomputable def Jq (ρ:Zb):List Nat->Option (List D)
 | []=>some []
 | i::r=>((ρ[i]?).bind id).bind λd=>(Jq ρ r).map (d :: ·)
theorem Zfr {G:Gh}{Hf:Hp}{σ:St}{ρ:Zb}(e:YF G Hf σ ρ):∀{cix:List Nat} {cds:List D},Jq ρ cix=some cds->∃cvs,cvs.length=cix.length/\Zh G Hf cds cvs/\∀(i j:Nat) (v:V),cix[i]?=some j->cvs[i]?=some v->σ[j]?=some (some v)
 | [],cds,h=>by cases h;exact⟨[],rfl,Zh.nil_iff.mpr rfl,λi j v h1=>by simp at h1⟩
 | a::r,cds,h=>by
  unfold Jq at h
  cases q:(ρ[a]?).bind id with
  | none=>rw[q]at h;cases h
  | some d=>
   rw[q]at h
   cases q2:Jq ρ r with
   | none=>rw[q2]at h;cases h
   | some ds=>
    rw[q2]at h;cases h;obtain⟨v,h1,h2⟩:=e a d (by
     cases q3:ρ[a]? with
     | none=>rw[q3]at q;cases q
     | some o=>rw[q3]at q;simp at q;rw[q])
    obtain⟨cvs,l1,l2,l3⟩:=Zfr e q2;refine⟨v::cvs,by simp[l1],Zh.cons h2 l2,λi j u e1 e2=>?_⟩
    cases i with
    | zero=>simp at e1 e2;subst e1;subst e2;exact h1
    | succ i=>exact l3 i j u (by simpa using e1) (by simpa using e2)
noncomputable def dFnC (F:List D->M D)(t:Nat)(cix:List Nat)(f:Zb->M D):Zb->M D:=fun ρ=>Zp (f ρ) λd=>Zp (YV (Jq ρ cix)) λcds=>if (YE d&&Xo cds)=true then Zp (F [d,.clo t cds]) λc=>if YE c=true then Zy c else ZE else ZE
section
variable {X:Cx}{G:Gh}{P c:Addr}{q:Str}
theorem ZlG {lpos:Pos}{ps:Array Value}{H Hm:Hp}{c':Addr}{s:Pn}(TG:TabG P q G)(st:G.st s H)(hP:H P=some (.tbl ps))(sl:Slot P q lpos ps H Hm c'):G.st s Hm/\Hm c'=some (.ext (codeφ c' q))/\Zz G H Hm:=by
 rcases sl with⟨rfl,h1,h2⟩ | ⟨h1,h2,h3,rfl⟩
 ·exact⟨st,h2,.refl _ _⟩
 ·refine⟨TG.put s H ps lpos c' st hP h2 h1,ZQ,λb o n e=>?_⟩
  rw[Zx (Ys e h2),Zx (λz=>n (by rw[z];exact TG.fp))];exact e
theorem ZlH {Hf H Hm:Hp}{p:Addr}{o:HO}(e1:Zz G Hf H)(ex:Zz G H Hm)(hp:Hm p=none):Gr G Hf H Hf (Zl Hm p o):=by
 have hh:Zz G H (Zl Hm p o):=λb u n e=>by
  have:=ex b u n e;rw[Zx (Ys this hp)];exact this
 exact⟨hh,.refl _ _,e1.trans hh,λ_ _ h _=>h⟩
theorem Znt {base':Heap}{k:Nat}{T:Nat->List D->M D}{t:Nat}{p c':Addr}{fd:xA}{cvs:List V}{ps:List Str}{F:List D->M D}(hb:Wi X.K fd ps [])(hF:FnOk X.prog X.w X.K X.mg base' ZV k p fd ps (spK ps.length (Wr G t p c' fd q cvs) cvs F))(hT:T t=F) :
  Jx X.prog X.w X.K X.mg k ps.length T base' (Wr G t p c' fd q cvs):=by
 rintro t' v cs ⟨rfl,rfl,rfl⟩;exact⟨p,fd,ps,rfl,rfl,hb,λs H st h ok _=>fnφ_at ok st.2.1,by rw[hT];exact hF⟩
variable {k kl:Nat}{x:Str}{fr frb:Bool}{F:List D->M D}{T:Nat->List D->M D}{t:Nat}{e1:Expr}{f1:Zb->M D}{r1:Bool}{params:Arguments}{scope:Scope}{lpos ppos pos:Pos}{XN N ps:List Str}{NS:List (Str×NameKind)}{cix:List Nat}
theorem ofC {t:Nat}{p c':Addr}{fd:xA}{cvs:List V}{H:Hp}{d:D}{v:V}(n:YE d=true)(r:Zi (Wr G t p c' fd q cvs) H d v):Zi G H d v:=Zi.re (G:=Wr G t p c' fd q cvs) (G':=G) rfl rfl n r
theorem toC {t:Nat}{p c':Addr}{fd:xA}{cvs:List V}{H:Hp}{d:D}{v:V}(n:YE d=true)(r:Zi G H d v):Zi (Wr G t p c' fd q cvs) H d v:=Zi.re (G:=G) (G':=Wr G t p c' fd q cvs) rfl rfl n r
theorem toCL {t:Nat}{p c':Addr}{fd:xA}{cvs:List V}{H:Hp}{d:List D}{v:List V}(n:Xo d=true)(r:Zh G H d v):Zh (Wr G t p c' fd q cvs) H d v:=Zh.re (G:=G) (G':=Wr G t p c' fd q cvs) rfl rfl n r
theorem grC {t:Nat}{p c':Addr}{fd:xA}{cvs:List V}{Hf H Hf' H':Hp}(g:Gr (Wr G t p c' fd q cvs) Hf H Hf' H'):Gr G Hf H Hf' H':=Gr.re (G:=Wr G t p c' fd q cvs) (G':=G) rfl g
theorem frC {t:Nat}{p c':Addr}{fd:xA}{cvs:List V}{H Hf':Hp}{d:D}{v:V}(n:YE d=true)(h:Z2 (Wr G t p c' fd q cvs) H Hf' d v):Z2 G H Hf' d v:=Z2.re (G:=Wr G t p c' fd q cvs) (G':=G) rfl rfl n h
theorem Zgx {body:Expr}{fe:Zb->M D}(M:Mk0 X c P)(TG:TabG P q G)(hW:Jy X.prog X.w X.K X.mg k x 2 fr (Jx X.prog X.w X.K X.mg (kl+1) ps.length T) F)(hfn:∀x,X.fn x=true)(hr:Room k X.A)(hg:Gl X x)(h1:PD X G r1 e1 f1)
  (hq:X.env.qual ++ "<lambda>" = q) (S:CloScope N ps scope) (B:CapS X XN NS N ps cix scope) (hT:T t=VL N.length fe)
  (hbind:∀(cl:List (Str×Addr)) (pm cd ct:Value) (us:List Value),us.length=ps.length->bindArgs (yZ "<lambda>" q params body scope cl pm cd ct) ⟨us,[]⟩=pure (ps.zip us))
  (hb:∀(base:Heap) (f c':Addr) (cl:List (Str×Addr)) (G:Gh) (A:xC) (outer:List Env) (s:Shared) (H:Hp) (E:XK),Room kl (A.deeper (qac q scope s.heap.objs.size f (.ref c') cl))->PD (BP ZV X.prog X.w X.K X.mg base N q scope f (.ref c') cl A outer s H E).nox G frb body fe)
  (hdef:defaultsOf params X.env=([],[]):=by rfl) (hdb:(x==("__debug__" : Str))=false:=by decide)
  (he:xh [e1,.Lambda params body scope lpos] X.env=(false,eval e1 X.env)::xh [.Lambda params body scope lpos] X.env:=by rfl) (he2:xh [Expr.Lambda params body scope lpos] X.env=(false,eval (.Lambda params body scope lpos) X.env)::xh [] X.env:=by rfl)
  (hpl:(backTo pos (xh [Expr.Lambda params body scope lpos] X.env)).any (·.1)=false:=by rfl) :
  PD X G fr (.Call (.Name x ppos) [e1,.Lambda params body scope lpos] [] pos) (dFnC F t cix f1):=by
 obtain⟨t1,p1,q1⟩:=h1.drop;obtain⟨f,fd0,ps0,FN,hm,hk,hbd⟩:=hW;refine⟨_,ZjI FN hfn hr hg hm hk hbd (YK p1 (YK (Zns M hq B.hfree hdef) Xi he2) he) hdb he hpl,fun σ Hf H ρ s d s' Q x1 x2 x3 x4 k=>?_⟩;obtain⟨d1,s1,a1,a2⟩:=ZC x4;obtain⟨cds,s2,b3,a4⟩:=ZC a2;obtain⟨a3,rfl⟩:=WV b3;obtain⟨hn,a5⟩:=Xc a4;obtain⟨cc,s3,a6,a7⟩:=ZC a5;obtain⟨hn2,a8⟩:=Xc a7;obtain⟨rfl,rfl⟩:=ZN a8;obtain⟨hn0,hn1⟩:=qas.mp hn;refine q1 σ Hf H ρ s d1 _ _ x1 x2 x3 a1 λv1 jU H1 g1 jW rv1=>?_;obtain⟨tp,hP,htr,hhit⟩:=TG.get _ H1 jW;refine⟨tp,hP,htr,λcv h=>let ⟨c',z1,z2,_⟩:=hhit lpos cv h;⟨c',z1,z2⟩,λp c' fd Hm ⟨cl,pm,ctv,co,efd⟩ sl hp=>?_⟩;subst efd;obtain⟨stm,hc',ex⟩:=ZlG TG jW hP sl;have gr:=ZlH (o:=.ext (fnφ p (yZ "<lambda>" q params body scope cl pm (.ref c') ctv))) g1.fh ex hp;have hcp:c'≠p:=λz=>by rw[z,hp]at hc';cases hc'
 obtain⟨cvs,l1,l2,l3⟩:=Zfr (x2.ext g1.ff) a3;intro base' cs;have C:CloAt base' cl scope N ps cvs:=B.cloAt cs co l1 l3;refine⟨Wr G t p c' (yZ "<lambda>" q params body scope cl pm (.ref c') ctv) q cvs,jU,[d1,.clo t cds],_,d,_,Znt (X:=X) (.all (hbind cl pm (.ref c') ctv)) (fnKE S C (λs H st=>st.2) λA outer s H E hr=>hb base' p c' cl _ A outer s H E hr) hT,rfl,gr.fh,?_,⟨Gh.grow stm hp,ZQ,by rw[Zx hcp];exact hc'⟩,a6,λv Hf3 H3 g3 st3 r3 fz=>?_⟩
 ·refine .cons (toC hn0 rv1) (.one (jy.mpr ⟨cvs,⟨rfl,rfl,rfl⟩,toCL hn1 l2⟩))
 ·have g3':Gr G jU _ Hf3 H3:=grC g3
  have gg:=(g1.trans gr).trans g3';have rr:Zi G Hf3 d v:=ofC hn2 r3;refine k v Hf3 H3 gg st3.1 rr λz=>?_;exact jm (g1.hh.trans gr.hh) rr.nofp (frC hn2 (fz z))
end
theorem boot_len:xj "len" = some (.builtin "len"):=by decide +kernel
theorem boot_isinstance:xj "isinstance" = some (.builtin "isinstance"):=by decide +kernel
theorem boot_max:xj "max" = some (.builtin "max"):=by decide +kernel
theorem boot_min:xj "min" = some (.builtin "min"):=by decide +kernel
theorem boot_set:xj "set" = some (.type "set"):=by decide +kernel
theorem boot_sorted:xj "sorted" = some (.builtin "sorted"):=by decide +kernel
theorem boot_tuple:xj "tuple" = some (.type "tuple"):=by decide +kernel
theorem boot_list:xj "list" = some (.type "list"):=by decide +kernel
theorem boot_int:xj "int" = some (.type "int"):=by decide +kernel
theorem boot_bool:xj "bool" = some (.type "bool"):=by decide +kernel
theorem boot_dict:xj "dict" = some (.type "dict"):=by decide +kernel
noncomputable abbrev Z4:Gh->Prop:=λ_=>True
noncomputable def BQ (K:qm)(p sa:Addr)(tr:Bool)(s:Pn)(H:Hp):Prop:=
 ∃a h,s.1=[a,h]/\H p=some (.lst [.ref sa,.int a,.int h])/\sa≠p/\ZA K H sa (s.2.map V.int)/\(tr=true->∃o,H sa=some o)/\(tr=false->∀H':Hp,ZA K H' sa (s.2.map V.int))
noncomputable def V8 (K:qm)(p sa:Addr)(tr:Bool):Gh where
 fp:=λb=>b=p
 rd:=λb=>b=p∨(tr=true/\b=sa)
 pen:=.ref p
 st:=BQ K p sa tr
 mono:=λs H H' ⟨a,h,e0,e1,ne,sq,t1,t2⟩ k _=>by
  refine⟨a,h,e0,k p _ (.inl rfl) e1,ne,?_,λht=>?_,t2⟩
  ·cases tr with
   | false=>exact t2 rfl H'
   | true=>
    rcases sq with(q | ⟨o,q⟩) | q
    ·exact .inl (.inl (k sa _ (.inr ⟨rfl,rfl⟩) q))
    ·exact .inl (.inr ⟨o,k sa _ (.inr ⟨rfl,rfl⟩) q⟩)
    ·exact .inr q
  ·obtain⟨o,q⟩:=t1 ht
   exact⟨o,k sa o (.inr ⟨ht,rfl⟩) q⟩
 sub:=λb h=>.inl h
 dom:=λs H b ⟨a,h,e0,e1,ne,sq,t1,t2⟩ hb=>by
  rcases hb with rfl | ⟨ht,rfl⟩
  ·exact⟨_,e1⟩
  ·exact t1 ht
 ntp:=λs H b vs ⟨a,h,e0,e1,ne,sq,t1,t2⟩ hb z=>by
  rw[hb,e1]at z;cases z
noncomputable def Xg (K:qm):Gh->Prop:=λG=>∃p sa tr,G=V8 K p sa tr
noncomputable def Br (ns:List Int)(a:Int):Int:=if a<ns.length then ns.getD a.toNat 0 else if 0<ns.length then ns.getD (a*7 % ns.length).toNat 0 % 1000003+a*1000003 else 0
noncomputable def W0 (c a:Int):Int:=
 if 10 ^ 18<=c then c else
  let x:=(c % 2147483647*48271+a*69621+11) % 2147483629
  let y:=(x*x+48271*x+a) % 2147483587
  y*2147483579+(y*y+69621*a) % 2147483579
noncomputable def Xx (m a h:Int)(ns:List Int):Int×Int:=if h<m then (a+1,W0 (Br ns a) a)else (a,h)
noncomputable def YS:List D->M D:=λds s=>match ds,s with
 | [.pen,.int m],([a,h],ns)=>if 0<m/\m<1073741824/\0<=a then some (.int ((Xx m a h ns).2 % m),([(Xx m a h ns).1,(Xx m a h ns).2 / m],ns))else none
 | _,_=>none
noncomputable def YO (s:Pn):Prop:=∃a h,s.1=[a,h]/\0<=a/\0<=h
theorem ZjL (c a:Int)(ha:0<=a):0<=W0 c a:=by
 unfold W0;split
 ·have:(0:Int)<=10 ^ 18:=by decide
  omega
 ·dsimp only
  have h2:=qak (((c % 2147483647*48271+a*69621+11) % 2147483629)*((c % 2147483647*48271+a*69621+11) % 2147483629)+48271*((c % 2147483647*48271+a*69621+11) % 2147483629)+a) (show(2147483587:Int)≠0 by decide);generalize hy:(((c % 2147483647*48271+a*69621+11) % 2147483629)*((c % 2147483647*48271+a*69621+11) % 2147483629)+48271*((c % 2147483647*48271+a*69621+11) % 2147483629)+a) % 2147483587=y at h2⊢;have h3:=qak (y*y+69621*a) (show(2147483579:Int)≠0 by decide);omega
theorem ZlI {m:Int}{s:Pn}(ok:YO s)(h1:0<m)(h2:m<1073741824):∃r s',YS [.pen,.int m] s=some (.int r,s')/\0<=r/\r<m/\YO s':=by
 obtain⟨a,h,e,ha,hh⟩:=ok;obtain⟨l,ns⟩:=s;simp only at e;subst e;refine⟨(Xx m a h ns).2 % m,([(Xx m a h ns).1,(Xx m a h ns).2 / m],ns),?_,qak _ (by omega),qaK _ h1,⟨_,_,rfl,?_,?_⟩⟩
 ·show(if 0<m/\m<1073741824/\0<=a then _ else _)=_
  rw[if_pos ⟨h1,h2,ha⟩]
 ·unfold Xx
  split
  ·show 0<=a+1
   omega
  ·exact ha
 ·have:0<=(Xx m a h ns).2:=by
   unfold Xx;split
   ·exact ZjL _ _ ha
   ·exact hh
  exact Int.ediv_nonneg this (by omega)
noncomputable def ZjM (G:Gh)(ob own own':List Nat)(fr:Bool)(g:Zb->M Out):TS:=λE σ H=>∃kn jR H0 ρ s out s',J G own kn jR H0 σ H ρ/\G.st s H/\g ρ s=some (out,s')/\Post G ob own' kn jR H0 fr out s' E
noncomputable def Zoq (K:qm)(t:TA):TE:=fun σ H Q=>t σ H λxs H1=>xs.length<=xg/\∀p,H1 p=none->K.lookup p=none->Q (.ref p) (Zl H1 p (.lst xs))
theorem ZlJ {X:Cx}{es:List Expr}{t:TA}{pos:Pos}(h:PA X es t):PE X (.List es pos) (Zoq X.K t):=by
 intro jI s σ H Q I hq;refine wpAny_List_spliced (ZJ (h pos jI s σ H _ I hq) λus s1 ⟨xs,H1,I1,r,z,q⟩=>⟨by rw[<-r.length];exact z,?_⟩);have hf:H1 s1.heap.objs.size=none:=I1.hok.fresh (qp _);have hk:X.K.lookup s1.heap.objs.size=none:=by
  cases e:X.K.lookup s1.heap.objs.size with
  | none=>rfl
  | some o=>
   have:=I1.kIn _ _ e;rw[qcN (qp _)]at this;cases this
 refine⟨.ref s1.heap.objs.size,Zl H1 s1.heap.objs.size (.lst xs),I1.laid (t':=s1.toks) (λb u e=>qj _ e) (qp _) ?_,rfl,q _ hf hk⟩;exact⟨z,us,0,r,qC _ rfl⟩
noncomputable def Ok {α:Type}(m:M α)(s:Pn)(Q:α->Pn->Prop):Prop:=∃a s',m s=some (a,s')/\Q a s'
theorem Ok.bind {α β:Type}{m:M α}{k:α->M β}{s:Pn}{Q:β->Pn->Prop}(h:Ok m s λa s1=>Ok (k a) s1 Q):Ok (Zp m k) s Q:=by
 obtain⟨a,s1,e,b,s2,e2,q⟩:=h;exact⟨b,s2,by unfold Zp;rw[e];exact e2,q⟩
theorem Ok.ret {α:Type}{a:α}{s:Pn}{Q:α->Pn->Prop}(h:Q a s):Ok (Zy a) s Q:=⟨a,s,rfl,h⟩
theorem Ok.eq {α:Type}{m:M α}{s s':Pn}{a:α}{Q:α->Pn->Prop}(e:m s=some (a,s'))(h:Q a s'):Ok m s Q:=⟨a,s',e,h⟩
theorem Ok.mono {α:Type}{m:M α}{s:Pn}{Q Q':α->Pn->Prop}(h:Ok m s Q)(k:∀a s',Q a s'->Q' a s'):Ok m s Q':=let ⟨a,s',e,q⟩:=h;⟨a,s',e,k a s' q⟩
theorem Ok.of {α:Type}{o:Option α}{a:α}{s:Pn}{Q:α->Pn->Prop}(e:o=some a)(h:Q a s):Ok (YV o) s Q:=⟨a,s,by unfold YV;rw[e],h⟩
theorem Ok.ite {α:Type}{c:Prop}[Decidable c]{m:M α}{s:Pn}{Q:α->Pn->Prop}(hc:c)(h:Ok m s Q):Ok (if c then m else ZE) s Q:=by rw[if_pos hc];exact h
section
variable {ρ:Zb}{s:Pn}{Q:Out->Pn->Prop}{f:Zb->M D}{g1 g2:Zb->M Out}
theorem Ok.seq (h:Ok (g1 ρ) s λo s1=>match o with | .nx ρ'=>Ok (g2 ρ') s1 Q | .rt d=>Q (.rt d) s1 | .bk ρ'=>Q (.bk ρ') s1 | .ct ρ'=>Q (.ct ρ') s1):Ok (Zf g1 g2 ρ) s Q:=by
 refine Ok.bind (h.mono λo s1 q=>?_)
 cases o with
 | nx ρ'=>exact q
 | rt d=>exact .ret q
 | bk ρ'=>exact .ret q
 | ct ρ'=>exact .ret q
theorem Ok.next (h:Q (.nx ρ) s):Ok (Zk ρ) s Q:=.ret h
theorem Ok.sset {i:Nat}(h:Ok (f ρ) s λd s1=>Q (.nx (ρ.set i (some d))) s1):Ok (ZO i f ρ) s Q:=.bind (h.mono λ_ _ q=>.ret q)
theorem Ok.sown {i:Nat}(h:Ok (f ρ) s λd s1=>Uy d=true/\Q (.nx (ρ.set i (some d))) s1):Ok (Xt i f ρ) s Q:=.bind (h.mono λ_ _ q=>.ite q.1 (.ret q.2))
theorem Ok.sret (h:Ok (f ρ) s λd s1=>Q (.rt d) s1):Ok (ZL f ρ) s Q:=.bind (h.mono λ_ _ q=>.ret q)
theorem Ok.sif {c:Zb->M Bool}(h:Ok (c ρ) s λb s1=>if b=true then Ok (g1 ρ) s1 Q else Ok (g2 ρ) s1 Q):Ok (Yu c g1 g2 ρ) s Q:=by
 refine .bind (h.mono λb s1 q=>?_)
 cases b with
 | true=>simpa using q
 | false=>simpa using q
theorem Ok.sapp {i:Nat}{ds:List D}(hi:(ρ[i]?).bind id=some (.lst ds))(hl:ds.length<xg)(h:Ok (f ρ) s λd s1=>Q (.nx (ρ.set i (some (.lst (ds ++ [d]))))) s1):Ok (Xz i f ρ) s Q:=by
 refine .bind (h.mono λd s1 q=>?_);simp only[hi];exact .ite hl (.ret q)
theorem Ok.loop {τ:D->Zb->Option Zb}{body:Zb->M Out}(I:Nat->Zb->Pn->Prop):∀(ds:List D) (k:Nat) (ρ:Zb) (s:Pn),I k ρ s->
  (∀i d ρ s,ds[i]?=some d->I (k+i) ρ s->∃ρ1,τ d ρ=some ρ1/\Ok (body ρ1) s λo s'=>∃ρ',o=.nx ρ'/\I (k+i+1) ρ' s')->Ok (X9 τ body ds ρ) s λo s'=>∃ρ',o=.nx ρ'/\I (k+ds.length) ρ' s'
 | [],k,ρ,s,h0,_=>.ret ⟨ρ,rfl,h0⟩
 | d::ds,k,ρ,s,h0,h=>by
  obtain⟨ρ1,e1,ok⟩:=h 0 d ρ s rfl h0;refine Ok.bind (.of e1 (.bind (ok.mono λo s' q=>?_)));obtain⟨ρ',rfl,q⟩:=q;refine(Ok.loop I ds (k+1) ρ' s' q λi d' ρ2 s2 e2 q2=>?_).mono λo s2 q2=>?_
  ·have:=h (i+1) d' ρ2 s2 (by simpa using e2) (by rw[show k+(i+1)=k+1+i by omega];exact q2)
   rw[show k+(i+1)+1=k+1+i+1 by omega]at this;exact this
  ·rw[show k+(d::ds).length=k+1+ds.length by simp;omega]
   exact q2
theorem Ok.sfor {fi:Zb->M (List D)}{τ:D->Zb->Option Zb}{body:Zb->M Out}(I:Nat->Zb->Pn->Prop)(h:Ok (fi ρ) s λds s1=>I 0 ρ s1/\(∀i d ρ s,ds[i]?=some d->I i ρ s->∃ρ1,τ d ρ=some ρ1/\Ok (body ρ1) s λo s'=>∃ρ',o=.nx ρ'/\I (i+1) ρ' s')/\
  ∀ρ' s',I ds.length ρ' s'->Q (.nx ρ') s'):Ok (Z9 fi τ body ρ) s Q:=by
 refine .bind (h.mono λds s1 q=>?_);obtain⟨q0,q1,q2⟩:=q;refine(Ok.loop I ds 0 ρ s1 q0 λi d ρ s e=>?_).mono λo s' q=>?_
 ·rw[qad];exact q1 i d ρ s e
 ·obtain⟨ρ',rfl,q⟩:=q
  rw[qad]at q;exact q2 ρ' s' q
end
section
variable {ρ ρ':Zb}{s s1 s2:Pn}{f f2:Zb->M D}{g1 g2:Zb->M Out}{d e c:D}{r:Option (Out×Pn)}
theorem Wg {n k:Nat}{g:Zb->M Out}{ds:List D}(hl:ds.length=k)(h:g (ds.map some++qy (n-k) none) s=some (.rt d,s1)):runB n k g ds s=some (d,s1):=by
 unfold runB;rw[if_pos hl];unfold Zp;rw[h];rfl
theorem Wh (h:f ρ s=some (d,s1)):ZL f ρ s=some (.rt d,s1):=by unfold ZL Zp;rw[h];rfl
theorem XG (h:g1 ρ s=some (.rt d,s1)):Zf g1 g2 ρ s=some (.rt d,s1):=by unfold Zf Zp;rw[h];rfl
theorem XH (h:g1 ρ s=some (.nx ρ',s1))(h2:g2 ρ' s1=r):Zf g1 g2 ρ s=r:=by unfold Zf Zp;rw[h];exact h2
theorem WW {i:Nat}(h:f ρ s=some (d,s1)):ZO i f ρ s=some (.nx (ρ.set i (some d)),s1):=by unfold ZO Zp;rw[h];rfl
theorem Zw {g:D->D->Option D}(h1:f ρ s=some (d,s1))(h2:f2 ρ s1=some (e,s2))(h:g d e=some c):Ze g f f2 ρ s=some (c,s2):=by
 unfold Ze Zp;rw[h1];simp only;rw[h2];simp only;unfold YV;rw[h]
theorem Z5 {g:List D->Option D}{fs:Zb->M (List D)}{ds:List D}(h1:fs ρ s=some (ds,s1))(h:g ds=some c):Zs g fs ρ s=some (c,s1):=by
 unfold Zs Zp;rw[h1];simp only;unfold YV;rw[h]
theorem YM {F:List D->M D}{fs:Zb->M (List D)}{ds:List D}{q:Option (D×Pn)}(h1:fs ρ s=some (ds,s1))(h:F ds s1=q):Zr F fs ρ s=q:=by
 unfold Zr Zp;rw[h1];exact h
theorem Zj {fs:Zb->M (List D)}{ds:List D}(h1:f ρ s=some (d,s1))(h2:fs ρ s1=some (ds,s2)):Zc f fs ρ s=some (d::ds,s2):=by
 unfold Zc Zp;rw[h1];simp only;rw[h2];rfl
theorem Vg {fs:Zb->M (List D)}{ds:List D}(h1:fs ρ s=some (ds,s1))(hl:ds.length<=xg):ZS fs ρ s=some (.tup ds,s1):=by
 unfold ZS Zp;rw[h1];simp only;rw[if_pos hl];rfl
theorem Xv {fs:Zb->M (List D)}{ds:List D}(h1:fs ρ s=some (ds,s1))(hl:ds.length<=xg):ZZ fs ρ s=some (.lst ds,s1):=by
 unfold ZZ Zp;rw[h1];simp only;rw[if_pos hl];rfl
theorem YC {b:Bool}(h:f ρ s=some (.bl b,s1)):asB f ρ s=some (b,s1):=by unfold asB Zp;rw[h];rfl
theorem U3 {fb:Zb->M Bool}{b:Bool}(h:fb ρ s=some (b,s1)):Vn fb ρ s=some (!b,s1):=by unfold Vn Zp;rw[h];rfl
end
theorem ZdU {τ:D->Zb->Option Zb}{ft:Zb->M Bool}{fe:Zb->M D}{ρ:Zb}{s:Pn}(r:D->Zb)(b:D->Bool)(c:D->D):∀(ds:List D),(∀d∈ds,τ d ρ=some (r d)/\ft (r d) s=some (b d,s)/\(b d=true->fe (r d) s=some (c d,s)))->
  UB τ ft fe ρ ds s=some ((ds.filter b).map c,s)
 | [],_=>rfl
 | d::ds,h=>by
  obtain⟨h1,h2,h3⟩:=h d (by simp);have ih:=ZdU r b c ds λd' m=>h d' (by simp[m]);unfold UB;simp only[Zp,YV,h1,h2]
  cases hb:b d with
  | true=>simp[Zp,h3 hb,ih,hb,Zy]
  | false=>simp[ih,hb]
end TF
namespace TP
open L2 TF
noncomputable def Zgy:Zb->M Out:=(Zf (Xt 1 (ZZ Zd))
 (Zf (Z9 (YL (Zs Ya (Zc (Za 0) Zd))) (Zv 2)
 (Zf (Z9 (U1 (Ze Yk (Za 2) (dC (.int 1))) (Zs Ya (Zc (Za 0) Zd))) (Zv 3)
 (Zf (Xz 1 (fun ρ=>(ZS (Zc (Ze Zn (Za 0) (Za 2)) (Zc (Ze Zn (Za 0) (Za 3)) Zd))) (ZG [1] ρ)))
 Zk))
 Zk))
 (Zf (ZL (Za 1))
 Zk)))
noncomputable def JN:List D->M D:=runB 4 1 Zgy
noncomputable def ZcW:Zb->M Out:=(Zf (ZL (Ze Y0 (ZS (Zc (Zs VE (Zc (Za 1) (Zc (Za 2) Zd))) (Zc (Zs Bo (Zc (Za 1) (Zc (Za 2) Zd))) Zd))) (Za 0)))
 Zk)
noncomputable def WT:List D->M D:=runB 3 3 ZcW
noncomputable def Znu:Zb->M Out:=(Zf (ZL (Yj [none,some 0,some 1] (YL (Ze Zn (Za 0) (dC (.int 0)))) (Zv 0) (asB (Zr WT (Zc (Ze Zn (Za 1) (dC (.int 1))) (Zc (Za 2) (Zc (Za 0) Zd))))) (Za 0)))
 Zk)
noncomputable def Je:List D->M D:=runB 2 2 Znu
noncomputable def Zdu:Zb->M Out:=(Zf (ZL (Zs ZjF (Zc (Yj [none] (XY (Ze Zn (Za 0) (dC (.int 1)))) (Zv 0) Yt (ZS (Zc (Za 0) (Zc (dC (.bl true)) Zd)))) Zd)))
 Zk)
noncomputable def Uh:List D->M D:=runB 1 1 Zdu
noncomputable def ZaL:Zb->M Out:=(Zf (Yu (asB (Ze Vp (Za 0) (Ze dPow (dC (.int 10)) (dC (.int 18)))))
 (Zf (ZL (Za 0))
 Zk)
 Zk)
 (Zf (ZO 2 (Ze V6 (Ze Yk (Ze Yk (Ze VJ (Ze V6 (Za 0) (dC (.int 2147483647))) (dC (.int 48271))) (Ze VJ (Za 1) (dC (.int 69621)))) (dC (.int 11))) (dC (.int 2147483629))))
 (Zf (ZO 2 (Ze V6 (Ze Yk (Ze Yk (Ze VJ (Za 2) (Za 2)) (Ze VJ (dC (.int 48271)) (Za 2))) (Za 1)) (dC (.int 2147483587))))
 (Zf (ZL (Ze Yk (Ze VJ (Za 2) (dC (.int 2147483579))) (Ze V6 (Ze Yk (Ze VJ (Za 2) (Za 2)) (Ze VJ (dC (.int 69621)) (Za 1))) (dC (.int 2147483579)))))
 Zk))))
noncomputable def Uj:List D->M D:=runB 3 2 ZaL
noncomputable def Zcb:Zb->M Out:=(Zf (ZL (Ze Y0 (ZS (Zc (Zs VE (Zc (Za 1) (Zc (Za 2) Zd))) (Zc (Zs Bo (Zc (Za 1) (Zc (Za 2) Zd))) Zd))) (Ze Zn (Za 0) (dC (.int 1)))))
 Zk)
noncomputable def Vr:List D->M D:=runB 3 3 Zcb
local macro_rules | `(tactic| walk_at "ev")=>`(tactic| simp[runB,Zf,ZL,ZO,Zk,Yu,asB,Ze,Zs,Zc,Zd,ZS,ZZ,Za,dC,Zr,Zp,Zy,YV,Yk,UJ,dI,ZG,Wn,vOr,UH,BB,XZ,WP,Vn])
noncomputable def Zq (p:Nat×Nat):D:=.tup [.int p.1,.int p.2]
noncomputable def ZD (n:Nat)(jJ:Qa):D:=.tup [.int n,.tup (jJ.map Zq)]
noncomputable def tied (jJ:Qa)(a b:Nat):Bool:=decide ((min a b,max a b)∈jJ)
theorem ZjN (p q:Nat×Nat):ZB (Zq p) (Zq q)=decide (p=q):=by
 obtain⟨a,b⟩:=p;obtain⟨c,d⟩:=q;simp only[Zq,ZB,Xk,Bool.and_true];by_cases h1:a=c
 ·by_cases h2:b=d
  ·subst h1 h2;simp
  ·have:((b:Int)==(d:Int))=false:=by simp;omega
   simp[this,h2]
 ·have:((a:Int)==(c:Int))=false:=by simp;omega
  simp[this,h1]
theorem Zil (p:Nat×Nat)(jJ:Qa):XV (Zq p) (jJ.map Zq)=decide (p∈jJ):=by
 unfold XV
 induction jJ with
 | nil=>simp
 | cons t ts ih=>
  rw[zc,qaF,ih,ZjN];by_cases h:t=p
  ·subst h;simp
  ·have:¬p=t:=λz=>h z.symm
   simp[h,this]
theorem Zcc:∀jJ:Qa,Yl (jJ.map Zq)=true
 | []=>by simp[Yl]
 | t::ts=>by simp[Yl,Zq,Zo,Zcc ts]
theorem ZcX:∀jJ:Qa,Xf (jJ.map Zq)<=1
 | []=>by simp[Xf]
 | t::ts=>by
  have:=ZcX ts;simp only[zc,Xf,Zq,Z1];omega
theorem ZjO (p:Nat×Nat):Z1 (Zq p)=1:=by simp[Zq,Z1,Xf]
theorem Zgz (p:Nat×Nat):Zo (Zq p)=true:=by simp[Zq,Zo,Yl]
theorem ZgA (p:Nat×Nat)(jJ:Qa):XO (Zq p) (jJ.map Zq)=true:=by
 have:=ZcX jJ;simp[XO,Zgz,Zcc,ZjO];omega
theorem Zim (p:Nat×Nat)(jJ:Qa):Y0 (Zq p) (.tup (jJ.map Zq))=some (.bl (decide (p∈jJ))):=by
 have:V7 (Zq p) (.tup (jJ.map Zq))=some (decide (p∈jJ)):=by
  show(if XO (Zq p) (jJ.map Zq)=true then some (XV (Zq p) (jJ.map Zq))else none)=_;rw[if_pos (ZgA p jJ),Zil]
 unfold Y0;rw[this];rfl
theorem min_eq (a b:Nat):(if (b:Int)<a then (b:Int)else a)=((min a b:Nat):Int):=by split <;> omega
theorem UD {α:Type}(x:α)(xs:List α):XB (x::xs) 0=some x:=Vf (j:=0) rfl
theorem VG {α:Type}(x y:α)(xs:List α):XB (x::y::xs) 1=some y:=Vf (j:=1) rfl
theorem two_le:2<=xg:=by decide
theorem ZcY (a b:Nat):D.tup [.int (if b<a then (b:Int)else a),.int (if a<b then (b:Int)else a)]=Zq (min a b,max a b):=by
 unfold Zq;congr 2
 ·congr 1;split <;> omega
 ·congr 2;split <;> omega
theorem Zcd (n:Nat)(jJ:Qa)(a b:Nat)(s:Pn):Vr [ZD n jJ,.int a,.int b] s=some (.bl (tied jJ a b),s):=by
 simp[Vr,Zcb,runB,Zf,ZL,Zk,Ze,Zs,Zc,Zd,ZS,Za,dC,Zp,Zy,YV,VE,Bo,two_le,ZcY,ZD,Zn,VG,Zim,tied]
theorem XW {src:List (Option Nat)}{fi:Zb->M (List D)}{τ:D->Zb->Option Zb}{ft:Zb->M Bool}{fe:Zb->M D}{ρ:Zb}{s:Pn}{ds:List D}(r:D->Zb)(b:D->Bool)(c:D->D)(hi:fi ρ s=some (ds,s))(hl:ds.length<=xg)
  (h:∀d∈ds,τ d (Wn src ρ)=some (r d)/\ft (r d) s=some (b d,s)/\(b d=true->fe (r d) s=some (c d,s))):Yj src fi τ ft fe ρ s=some (.lst ((ds.filter b).map c),s):=by
 unfold Yj;simp only[Zp,hi,hl,if_true,ZdU r b c ds h,Zy]
theorem Zin (n:Nat)(h:n<=100000):-(2 ^ 62)<=(n:Int)/\(n:Int)<2 ^ 62:=by omega
theorem YA:xg=16777216:=by decide
theorem Wy {f:Zb->M D}{ρ:Zb}{s:Pn}{n:Nat}(h:f ρ s=some (.int n,s))(hn:n<=100000):YL f ρ s=some (Z3 0 n,s):=by
 unfold YL;simp only[Zp,h];show(if -(2 ^ 62)<=(n:Int)/\(n:Int)<2 ^ 62 then Zy (Z3 0 (n:Int).toNat)else ZE) s=_;rw[if_pos (Zin n hn)];rfl
theorem ZdV {f g:Zb->M D}{ρ:Zb}{s:Pn}{a n:Nat}(h:f ρ s=some (.int a,s))(h2:g ρ s=some (.int n,s))(ha:a<=100000)(hn:n<=100000):U1 f g ρ s=some (Z3 a (n-a),s):=by
 unfold U1;simp only[Zp,h,h2];show(if -(2 ^ 62)<=(a:Int)/\(a:Int)<2 ^ 62/\-(2 ^ 62)<=(n:Int)/\(n:Int)<2 ^ 62 then Zy (Z3 a ((n:Int)-a).toNat)else ZE) s=_;rw[if_pos (by omega),show((n:Int)-(a:Int)).toNat=n-a by omega];rfl
theorem Wm (lo:Int)(n:Nat):(Z3 lo n).length=n:=by simp[Z3]
theorem B2 {lo n i:Nat}{d:D}(h:(Z3 lo n)[i]?=some d):i<n/\d=.int ((lo+i:Nat):Int):=by
 have hi:i<n:=by
  have:=(qw.mp h).1;simpa[Z3]using this
 refine⟨hi,?_⟩;unfold Z3 at h;rw[qH,yX hi]at h;simp at h;rw[<-h];simp
theorem ZcZ {n:Nat}{d:D}(h:d∈Z3 0 n):∃i:Nat,i<n/\d=.int (i:Int):=by
 unfold Z3 at h;obtain⟨i,hi,e⟩:=qu.mp h;exact⟨i,by simpa using hi,by rw[<-e];simp⟩
theorem Vv (n:Nat):Z3 0 n=(qk n).map λ(i:Nat)=>D.int (i:Int):=by
 unfold Z3;simp
noncomputable def YD:D->Nat
 | .int i=>i.toNat
 | _=>0
theorem Zfs (n:Nat)(p:Nat->Bool):((Z3 0 n).filter λd=>p (YD d)).map (λd=>d)=((qk n).filter p).map λ(i:Nat)=>D.int (i:Int):=by
 rw[Vv,qa5];simp only[List.map_id'];congr 1
theorem js {α:Type}{m:M α}{s s':Pn}{a:α}(h:Ok m s λb t=>b=a/\t=s'):m s=some (a,s'):=by
 obtain⟨b,t,e,rfl,rfl⟩:=h;exact e
theorem Zhq {n:Nat}(hn:n<=100000):(Z3 0 n).length<=xg:=by rw[Wm,YA];omega
noncomputable def Jz (row:D)(ds:List D):Prop:=row=.lst ds∨row=.tup ds
theorem Jz.len {row:D}{ds:List D}(h:Jz row ds):Ya [row]=some (.int ds.length):=by
 rcases h with rfl | rfl <;> rfl
theorem Jz.ix {row:D}{ds:List D}(h:Jz row ds){i:Nat}(hi:i<ds.length):Zn row (.int (i:Int))=some (ds.getD i .non):=by
 have e:ds[i]?=some (ds.getD i .non):=by simp[qbF,hi]
 rcases h with rfl | rfl <;> exact Vf e
noncomputable def XQ (n i:Nat):Qa:=(qk i).flatMap λa=>(qk (n-(a+1))).map λk=>(a,a+1+k)
noncomputable def YU (n:Nat):Qa:=XQ n n
theorem B7 (n i:Nat):XQ n (i+1)=XQ n i++(qk (n-(i+1))).map λk=>(i,i+1+k):=by
 unfold XQ;rw[qbJ,List.flatMap_append];simp
theorem Zbr (n:Nat):∀i,(XQ n i).length<=i*n
 | 0=>by simp[XQ]
 | i+1=>by
  have:=Zbr n i;rw[B7,qI,qd,qT];have e:(i+1)*n=i*n+n:=Nat.succ_mul i n;omega
noncomputable def Ud (ds:List D)(p:Nat×Nat):D:=.tup [ds.getD p.1 .non,ds.getD p.2 .non]
theorem ZlK (n i j:Nat)(hn:n<=1000)(hi:i<n)(hj:j<=n):(XQ n i).length+j<xg:=by
 have h1:=Zbr n i;have h2:i*n<=1000*1000:=qaV (by omega) hn;rw[YA];omega
theorem Zft (row:D)(ds:List D)(h:Jz row ds)(hn:ds.length<=1000)(s:Pn):JN [row] s=some (.lst ((YU ds.length).map (Ud ds)),s):=by
 refine Wg rfl (js ?_);refine Ok.seq (.sown (.eq (a:=.lst []) rfl ⟨rfl,?_⟩));show Ok _ s _;refine Ok.seq (.sfor (λi ρ s'=>s=s'/\∃o2 o3,ρ=[some row,some (.lst ((XQ ds.length i).map (Ud ds))),o2,o3]) (.eq (Wy (Z5 (Zj rfl rfl) h.len) (by omega)) ⟨⟨rfl,none,none,rfl⟩,λi d ρ s' hd hI=>?_,fun ρ' s' hI=>?_⟩))
 ·obtain⟨rfl,o2,o3,rfl⟩:=hI
  obtain⟨hi,rfl⟩:=B2 hd;refine⟨_,rfl,?_⟩;refine Ok.seq (.sfor (λj ρ s'=>s=s'/\∃o3,ρ=[some row,some (.lst ((XQ ds.length i).map (Ud ds)++(qk j).map λk=>Ud ds (i,i+1+k))),some (.int ((0+i:Nat):Int)),o3]) (.eq (ZdV (a:=i+1) (Zw (d:=.int ((0+i:Nat):Int)) (e:=.int 1) (c:=.int ((i+1:Nat):Int)) rfl rfl (by simp[Yk])) (Z5 (Zj rfl rfl) h.len) (by omega) (by omega)) ⟨⟨rfl,o3,by simp⟩,λj d ρ s' hd hJ=>?_,fun ρ' s' hJ=>?_⟩))
  ·obtain⟨rfl,o3,rfl⟩:=hJ
   obtain⟨hj,rfl⟩:=B2 hd;refine⟨_,rfl,?_⟩;refine Ok.seq (.sapp (ds:=(XQ ds.length i).map (Ud ds)++(qk j).map λk=>Ud ds (i,i+1+k)) rfl (by simp only[qI,qd,qT];exact ZlK _ _ _ hn hi (by omega)) (.eq (Vg (Zj (Zw (d:=row) (e:=.int ((0+i:Nat):Int)) rfl rfl (by rw[qad];exact h.ix hi)) (Zj (Zw (d:=row) (e:=.int ((i+1+j:Nat):Int)) rfl rfl (h.ix (by omega))) rfl)) two_le) ?_));refine Ok.next ⟨_,rfl,rfl,some (.int ((i+1+j:Nat):Int)),?_⟩;rw[qbJ,zE,<-qM];rfl
  ·obtain⟨rfl,o3',rfl⟩:=hJ
   refine Ok.next ⟨_,rfl,rfl,some (.int ((0+i:Nat):Int)),o3',?_⟩;rw[B7,zE,qN,Wm];rfl
 ·obtain⟨rfl,o2,o3,rfl⟩:=hI
  refine Ok.seq (.sret (.eq rfl ⟨?_,rfl⟩));rw[Wm];rfl
noncomputable def XR (p:Nat×Nat):List Zt:=[.inl (p.1:Int),.inl (p.2:Int)]
theorem ZjP {p q:Nat×Nat}(h:XR p=XR q):p=q:=by
 simp only[XR,qbK,yt.injEq,and_true]at h;obtain⟨a,b⟩:=p;obtain⟨c,d⟩:=q;simp only at h;have h1:a=c:=by omega
 have h2:b=d:=by omega
 rw[h1,h2]
noncomputable def YI (acc:List (List Zt×V))(jJ:Qa):List (List Zt×V):=jJ.foldl (λacc p=>Yp acc (XR p) (.bl true)) acc
theorem ZlL (p:Nat×Nat):Zho (.tup [Zq p,.bl true])=some (XR p,.bl true):=rfl
theorem ZdW:∀(jJ:Qa) (acc:List (List Zt×V)),WZ acc (jJ.map λp=>D.tup [Zq p,.bl true])=some (YI acc jJ)
 | [],acc=>rfl
 | t::ts,acc=>by
  rw[zc];unfold WZ;rw[ZlL];exact ZdW ts _
theorem Zfu (p:Nat×Nat):∀(jJ:Qa) (acc:List (List Zt×V)),(Z8 (YI acc jJ) (XR p)).isSome=(decide (p∈jJ)||(Z8 acc (XR p)).isSome)
 | [],acc=>by simp[YI]
 | t::ts,acc=>by
  have ih:=Zfu p ts (Yp acc (XR t) (.bl true));have e:YI acc (t::ts)=YI (Yp acc (XR t) (.bl true)) ts:=rfl;rw[e,ih,Zfe];by_cases h:p=t
  ·subst h;simp
  ·have hk:¬XR p=XR t:=λz=>h (ZjP z)
   rw[if_neg hk];simp[h]
theorem ZdX (n:Nat)(jJ:Qa)(s:Pn)(hl:jJ.length<=100000):Uh [ZD n jJ] s=some (.dt (YI [] jJ),s):=by
 have hc:Yj [none] (XY (Ze Zn (Za 0) (dC (.int 1)))) (Zv 0) Yt (ZS (Zc (Za 0) (Zc (dC (.bl true)) Zd))) [some (ZD n jJ)] s=some (.lst ((jJ.map Zq).map λd=>D.tup [d,.bl true]),s):=by
  have q:=XW (src:=[none]) (fi:=XY (Ze Zn (Za 0) (dC (.int 1)))) (τ:=Zv 0) (ft:=Yt) (fe:=ZS (Zc (Za 0) (Zc (dC (.bl true)) Zd))) (ρ:=[some (ZD n jJ)]) (s:=s) (ds:=jJ.map Zq) (λd=>[some d]) (λ_=>true) (λd=>D.tup [d,.bl true])
   (by unfold XY Zp;rw[Zw (d:=ZD n jJ) (e:=.int 1) (c:=.tup (jJ.map Zq)) rfl rfl (by unfold ZD;exact VG _ _ _)];rfl) (by rw[qd,YA];omega)
   (λd hd=>⟨rfl,rfl,λ_=>Vg (Zj rfl (Zj rfl rfl)) two_le⟩)
  have q2:(jJ.map Zq).filter (λ_=>true)=jJ.map Zq:=qbO.mpr (by simp);rw[q,q2]
 refine Wg rfl (XG (Wh (Z5 (Zj hc rfl) ?_)));rw[qN];show(if ((jJ.map ((λd=>D.tup [d,.bl true])∘Zq)).length<=xg)then (WZ [] _).map D.dt else none)=_;rw[if_pos (by rw[qd,YA];omega)];have e:=ZdW jJ [];show(WZ [] (jJ.map λp=>D.tup [Zq p,.bl true])).map D.dt=_;rw[e];rfl
theorem Zbs {n i:Nat}{p:Nat×Nat}(h:p∈XQ n i):p.1<i/\p.1<p.2/\p.2<n:=by
 unfold XQ at h;obtain⟨a,ha,h⟩:=y6.mp h;obtain⟨k,hk,rfl⟩:=qu.mp h;simp at ha hk;exact⟨ha,by simp;omega,by simp;omega⟩
theorem Zio {n:Nat}{p:Nat×Nat}(h:p∈YU n):Ud (Z3 0 n) p=Zq p:=by
 obtain⟨h1,h2,h3⟩:=Zbs h;have g:∀i,i<n->(Z3 0 n).getD i .non=.int (i:Int):=λi hi=>by
  rw[Vv];simp[qbF,hi]
 unfold Ud Zq;rw[g _ h1,g _ h3]
theorem Zfv {n:Nat}(s:Pn)(hn:n<=1000):JN [.lst (Z3 0 n)] s=some (.lst ((YU n).map Zq),s):=by
 rw[Zft _ _ (.inl rfl) (by rw[Wm];exact hn) s,Wm];congr 3;exact zy λp hp=>Zio hp
theorem ZaA {f:Zb->M D}{ρ:Zb}{s:Pn}{n:Nat}(h:f ρ s=some (.int n,s))(hn:n<=1000):Ww f ρ s=some (.lst (Z3 0 n),s):=by
 unfold Ww Zp;rw[h];show(if -(2 ^ 62)<=(n:Int)/\(n:Int)<=2 ^ 24 then Zy (D.lst (Z3 0 (n:Int).toNat))else ZE) s=_;rw[if_pos (by omega)];rfl
theorem ZjQ (n:Nat)(hn:n<=1000):(YU n).length<=1000000:=by
 have h1:=Zbr n n;have h2:n*n<=1000*1000:=qaV hn hn;unfold YU;omega
theorem Zey (l:Qa)(b:D->Bool)(q:Nat×Nat->Bool)(h:∀p,b (Zq p)=q p):((l.map Zq).filter b).map (λd=>d)=(l.filter q).map Zq:=by
 rw[qa5,List.map_id'];congr 1;exact List.filter_congr λp _=>h p
noncomputable def nat2:D->Nat×Nat
 | .tup [a,b]=>(YD a,YD b)
 | _=>(0,0)
theorem Zip (p:Nat×Nat):nat2 (Zq p)=p:=rfl
end TP
namespace TF
open L2
theorem Zhr {n:Nat}:∀(l:List D),(∀d∈l,Z1 d<=n)->Xf l<=n
 | [],_=>by simp[Xf]
 | d::l,h=>by
  have:=h d (by simp);have:=Zhr l λx m=>h x (by simp[m]);simp only[Xf];omega
theorem Ok.runB {n k:Nat}{g:Zb->M Out}{ds:List D}{s:Pn}{Q:D->Pn->Prop}(hl:ds.length=k)(h:Ok (g (ds.map some++qy (n-k) none)) s λo s'=>match o with | .rt d=>Q d s' | .nx _=>Q .non s' | _=>False):Ok (runB n k g ds) s Q:=by
 unfold TF.runB;rw[if_pos hl];refine .bind (h.mono λo s' q=>?_)
 cases o with
 | rt d=>exact .ret q
 | nx ρ=>exact .ret q
 | bk ρ=>exact q.elim
 | ct ρ=>exact q.elim
theorem Ok.bor {f g:Zb->M Bool}{ρ:Zb}{s:Pn}{Q:Bool->Pn->Prop}(h:Ok (f ρ) s λb s1=>if b=true then Q true s1 else Ok (g ρ) s1 Q):Ok (WP f g ρ) s Q:=by
 refine .bind (h.mono λb s1 q=>?_)
 cases b with
 | true=>exact .ret (by simpa using q)
 | false=>simpa using q
theorem Ok.fn {F:List D->M D}{fs:Zb->M (List D)}{ρ:Zb}{s s1:Pn}{ds:List D}{Q:D->Pn->Prop}(h1:fs ρ s=some (ds,s1))(h:Ok (F ds) s1 Q):Ok (Zr F fs ρ) s Q:=by
 obtain⟨a,s',e,q⟩:=h;exact⟨a,s',YM h1 e,q⟩
theorem Ok.draw {fs:Zb->M (List D)}{ρ:Zb}{s:Pn}{m:Nat}{Q:D->Pn->Prop}(ok:YO s)(h1:fs ρ s=some ([.pen,.int (m:Int)],s))(hm:0<m)(hm2:m<1073741824)(h:∀(r:Nat) s',r<m->YO s'->Q (.int (r:Int)) s'):Ok (Zr YS fs ρ) s Q:=by
 obtain⟨r,s1,e,r0,r1,ok1⟩:=ZlI ok (show 0<(m:Int) by omega) (show(m:Int)<1073741824 by omega);obtain⟨n,rfl⟩:=Int.eq_ofNat_of_zero_le r0;exact .fn h1 (.eq e (h n s1 (by omega) ok1))
theorem Ok.op {g:D->D->Option D}{f f2:Zb->M D}{ρ:Zb}{s:Pn}{Q:D->Pn->Prop}(h:Ok (f ρ) s λd s1=>Ok (f2 ρ) s1 λe s2=>∃c,g d e=some c/\Q c s2):Ok (Ze g f f2 ρ) s Q:=
 .bind (h.mono λd s1 q=>.bind (q.mono λe s2 q=>let ⟨c,e1,q⟩:=q;.of e1 q))
theorem Ok.cons {f:Zb->M D}{fs:Zb->M (List D)}{ρ:Zb}{s:Pn}{Q:List D->Pn->Prop}(h:Ok (f ρ) s λd s1=>Ok (fs ρ) s1 λds s2=>Q (d::ds) s2):Ok (Zc f fs ρ) s Q:=
 .bind (h.mono λd s1 q=>.bind (q.mono λe s2 q=>.ret q))
theorem Ok.nil {ρ:Zb}{s:Pn}{Q:List D->Pn->Prop}(h:Q [] s):Ok (Zd ρ) s Q:=.ret h
theorem Ok.asB {f:Zb->M D}{ρ:Zb}{s:Pn}{Q:Bool->Pn->Prop}(h:Ok (f ρ) s λd s1=>∃b,d=.bl b/\Q b s1):Ok (asB f ρ) s Q:=
 .bind (h.mono λd s1 q=>by obtain⟨b,rfl,q⟩:=q;exact .ret q)
end TF
namespace TP
open L2 TF
theorem Zc0 (n:Nat):∀i,(XQ n i).Nodup
 | 0=>by simp[XQ]
 | i+1=>by
  rw[B7,qaP];refine⟨Zc0 n i,?_,?_⟩
  ·refine zp.mpr (List.Pairwise.imp ?_ zN)
   intro a b h e;have:=congrArg Prod.snd e;simp at this;exact h this
  ·intro a ha b hb e
   have h1:=(Zbs ha).1;obtain⟨k,_,rfl⟩:=qu.mp hb;rw[e]at h1;simp at h1
theorem B3 (n:Nat):(YU n).Nodup:=Zc0 n n
theorem VU {n:Nat}{p:Nat×Nat}:p∈YU n↔p.1<p.2/\p.2<n:=by
 constructor
 ·intro h;exact(Zbs h).2
 ·intro ⟨h1,h2⟩
  unfold YU XQ;refine y6.mpr ⟨p.1,by simp;omega,qu.mpr ⟨p.2-(p.1+1),by simp;omega,?_⟩⟩;obtain⟨a,b⟩:=p;simp only at h1 h2⊢;rw[show a+1+(b-(a+1))=b by omega]
theorem US {n i:Nat}{d:D}(h:(Z3 0 n)[i]?=some d):i<n/\d=.int (i:Int):=by
 have:=B2 (lo:=0) h;rw[qad]at this;exact this
noncomputable def Yn (n:Nat)(jJ:Qa):Prop:=jJ.Sublist (YU n)
theorem Yn.mem {n:Nat}{jJ:Qa}(h:Yn n jJ){p:Nat×Nat}(hp:p∈jJ):p.1<p.2/\p.2<n:=VU.mp (h.subset hp)
theorem Yn.len {n:Nat}{jJ:Qa}(h:Yn n jJ)(hn:n<=24):jJ.length<=576:=by
 have h1:=h.length_le;have h2:=Zbr n n;have h3:n*n<=24*24:=qaV hn hn;unfold YU at h1;omega
theorem Yn.filter {n:Nat}(f:Nat×Nat->Bool):Yn n ((YU n).filter f):=zu
theorem ZcD {jJ:Qa}{a b:Nat}(h:a<b):tied jJ a b=decide ((a,b)∈jJ):=by
 unfold tied;rw[show min a b=a by omega,show max a b=b by omega]
theorem B8 (jJ:Qa)(a b:Nat):tied jJ a b=tied jJ b a:=by
 unfold tied;rw[show min a b=min b a by omega,show max a b=max b a by omega]
theorem WN {n:Nat}{jJ:Qa}:Zn (ZD n jJ) (.int 0)=some (.int n):=by unfold ZD;exact UD _ _
theorem web1 {n:Nat}{jJ:Qa}:Zn (ZD n jJ) (.int 1)=some (.tup (jJ.map Zq)):=by unfold ZD;exact VG _ _ _
end TP
namespace HT
section
variable {prog:xB}{w:World}{A:xC}{E:xD}{s:Shared}
theorem getItem_tuple_whole {t sl:Addr}{items:Array Value}{vl vu:Value}{lo hi:Option Int}{Q:xD}(ht:IsTup s.heap t items)(hs:s.heap.IsSliceOf sl vl vu .none)(pl:IsPart vl lo)(pu:IsPart vu hi)
  (hw:sIx items.size 0 lo=0/\sIx items.size items.size hi=items.size)
  (h:Q (.ref t) s)
  (hsz:items.size<=xg):xf (xz prog w) A (getItem (.ref t) (.ref sl)) Q E s:=by
 obtain⟨os,hos,hcs,hds⟩:=id hs;have hTs:s.TypeIs (.ref sl) "slice":=⟨os,hos,hcs⟩;unfold getItem
 try with_reducible refine xu ?_
 first | refine xa (xb ?_) | skip
 refine xa (wpAny_sequenceKey ht.typeIs (by decide) ?_);refine xa (wpAny_callSpecial?_slot (name:=qaT "__getitem__") ht.typeIs zR
  (wpAny_call_entry zR ht.typeIs entry_tuple_getitem ?_ (args_tuple_getitem _ _)))
 show xf _ _ (qb1 (.ref t) >>= _) _ _ s;refine xa (tupleItemsOf_ ht ?_);refine xa (wpAny_typeOf hTs ?_);rw[if_pos (by decide)];refine xa (Zav hs pl pu ?_);have hyes:((((sIx items.size 0 lo:Nat):Int)==0&&(1:Int)==1&&(sIx items.size items.size hi-sIx items.size 0 lo)==items.size)=true):=by
  rw[hw.1,hw.2];simp
 show xf _ _ (if (((sIx items.size 0 lo:Nat):Int)==0&&(1:Int)==1&&(sIx items.size items.size hi-sIx items.size 0 lo)==items.size)=true then _ else _) _ _ s;rw[if_pos hyes];unfold Builtin.Tuple.tupleIsExact;refine xa (xa (wpAny_typeOf ht.typeIs ?_));refine xb ?_;rw[if_pos (by decide)];refine xa (wpAny_rule ?_)
 first
  | exact xa (xb ⟨_,rfl,xb h⟩)
  | exact xa (xb (xb ⟨_,rfl,xb h⟩))
end
end HT
namespace TF
open L2
noncomputable def Zor (K:qm):V->Option Int->Option Int->Hp->VK->Prop:=λx lo hi H Q=>∃a xs,x=.ref a/\ZH K H a xs/\
 (HT.sIx xs.length 0 lo=0/\HT.sIx xs.length xs.length hi=xs.length)/\Q (.ref a) H
section
variable {X:Cx}{G:Gh}
theorem ZlM:Ua X (Zor X.K):=by
 intro jI s σ H x v vl vu lo hi sl Q I rx hs pl pu h;obtain⟨a,xs,rfl,hx,hw,q⟩:=h
 cases rx
 obtain⟨jK,r,ht,hz⟩:=I.tuple hx;have jO:jK.toArray.size=xs.length:=by rw[qJ];exact r.length.symm
 refine⟨"tuple",_,zR.lookup,ht.typeIs,?_⟩;exact HT.getItem_tuple_whole ht hs pl pu (by rw[jO];exact hw) ⟨.ref a,H,I,rfl,q⟩ (by rw[jO];exact hz)
noncomputable def V9 (ds:List D)(lo hi:Option Int):List D:=(ds.drop (HT.sIx ds.length 0 lo)).take (HT.sIx ds.length ds.length hi-HT.sIx ds.length 0 lo)
noncomputable def POD (X:Cx)(G:Gh)(e:Option Expr)(f:Zb->M (Option Int)):Prop:=
 ∃t,PO X e t/\∀(σ:St) (Hf H:Hp) (ρ:Zb) (s:Pn) (o:Option Int) (s':Pn) (Q:Option Int->Hp->Prop),Zz G Hf H->YF G Hf σ ρ->G.st s H->f ρ s=some (o,s')->
  (∀Hf' H',Gr G Hf H Hf' H'->G.st s' H'->Q o H')->t σ H Q
noncomputable def Zmy:Zb->M (Option Int):=λ_=>Zy none
noncomputable def Zmz (f:Zb->M D):Zb->M (Option Int):=fun ρ=>Zp (f ρ) λd=>match d with | .int i=>Zy (some i) | _=>ZE
theorem ZjR:POD X G none Zmy:=⟨_,Zlk,fun σ Hf H ρ s o s' Q e1 e2 e3 e4 k=>by
 obtain⟨rfl,rfl⟩:=ZN e4;exact k Hf H (.refl e1) e3⟩
theorem ZjS {e:Expr}{f:Zb->M D}{r1:Bool}(h:PD X G r1 e f):POD X G (some e) (Zmz f):=by
 obtain⟨t,p,q⟩:=h.drop;refine⟨_,Zll p,fun σ Hf H ρ s o s' Q e1 e2 e3 e4 k=>?_⟩;obtain⟨d,s1,a1,a2⟩:=ZC e4;refine q σ Hf H ρ s d s1 _ e1 e2 e3 a1 λv jU H1 g1 jW r1=>?_
 match d,a2,r1 with
 | .int i,a2,r1=>
  obtain⟨rfl,rfl⟩:=ZN a2;exact⟨i,ja.mp r1,k jU H1 g1 jW⟩
noncomputable def ZjT (f:Zb->M D)(fl fh:Zb->M (Option Int)):Zb->M D:=fun ρ=>Zp (f ρ) λd=>Zp (fl ρ) λlo=>Zp (fh ρ) λhi=>match d with
 | .tup ds=>Zy (.tup (V9 ds lo hi))
 | .lst ds=>Zy (.lst (V9 ds lo hi))
 | _=>ZE
theorem Zhs {Hf:Hp}{ds:List D}{vs:List V}(r:Zh G Hf ds vs)(lo hi:Option Int):Zh G Hf (V9 ds lo hi) (Vl vs lo hi):=by
 unfold V9 Vl;rw[r.length];exact(r.drop _).take _
theorem ZgB {ds:List D}{lo hi:Option Int}(h:HT.sIx ds.length 0 lo=0/\HT.sIx ds.length ds.length hi=ds.length):V9 ds lo hi=ds:=by
 unfold V9;rw[h.1,h.2];simp
theorem ZjU {e:Expr}{lo hi:Option Expr}{p2 pos:Pos}{f:Zb->M D}{fl fh:Zb->M (Option Int)}{r1:Bool}(he:PD X G r1 e f)(hl:POD X G lo fl)(hh:POD X G hi fh):PD X G true (.Subscript e (.Slice lo hi none p2) pos) (ZjT f fl fh):=by
 obtain⟨t,p,q⟩:=he.drop;obtain⟨tl,pl,ql⟩:=hl;obtain⟨th,ph,qh⟩:=hh;refine⟨_,Zji (Zln.or (Znb.or ZlM)) p pl ph,fun σ Hf H ρ s d s' Q e1 e2 e3 e4 k=>?_⟩;obtain⟨d0,s1,a1,a2⟩:=ZC e4;obtain⟨lo',s2,a3,a4⟩:=ZC a2;obtain⟨hi',s3,a5,a6⟩:=ZC a4;refine q σ Hf H ρ s d0 s1 _ e1 e2 e3 a1 λv jU H1 g1 jW r1=>?_;refine ql σ jU H1 ρ s1 lo' s2 _ g1.fh (e2.ext g1.ff) jW a3 λjZ H2 g2 jT=>?_;refine qh σ jZ H2 ρ s2 hi' s3 _ g2.fh ((e2.ext g1.ff).ext g2.ff) jT a5 λHf3 H3 g3 st3=>?_;have rr:=(r1.ext g2.ff).ext g3.ff;have g:=(g1.trans g2).trans g3
 match d0,a6,rr with
 | .lst ds,a6,rr=>
  obtain⟨rfl,rfl⟩:=ZN a6;obtain⟨a,vs,rfl,na,ha,ra⟩:=jb.mp rr;refine .inl ⟨a,vs,rfl,ZA.of (g.fh _ _ na ha),λl hl=>?_⟩;have nf:=Gh.nofp st3 hl;have g2:=Gr.new (o:=.lst (Vl vs lo' hi')) g.fh hl nf;have rr:=Zhs ra lo' hi';exact k (.ref l) _ _ (g.trans g2) (Gh.grow st3 hl) (jb.mpr ⟨l,_,rfl,nf,ZQ,rr.ext g2.ff⟩) λ_=>jm g.hh (λa ea _=>by cases ea;exact nf) (Z2.mk g.fh hl nf rr)
 | .tup ds,a6,rr=>
  obtain⟨rfl,rfl⟩:=ZN a6;obtain⟨a,vs,rfl,na,ha,ra⟩:=jc.mp rr;by_cases hw:HT.sIx vs.length 0 lo'=0/\HT.sIx vs.length vs.length hi'=vs.length
  ·refine .inr (.inr ⟨a,vs,rfl,ZH.of (g.fh _ _ na ha),hw,?_⟩)
   rw[<-ra.length]at hw;exact k (.ref a) _ _ g st3 (by rw[ZgB hw];exact rr) λ_=>.scal λz=>z
  ·refine .inr (.inl ⟨a,vs,rfl,ZH.of (g.fh _ _ na ha),hw,λl hl=>?_⟩)
   have nf:=Gh.nofp st3 hl;have g2:=Gr.new (o:=.tup (Vl vs lo' hi')) g.fh hl nf;exact k (.ref l) _ _ (g.trans g2) (Gh.grow st3 hl) (jc.mpr ⟨l,_,rfl,nf,ZQ,(Zhs ra lo' hi').ext g2.ff⟩) λ_=>.scal λz=>z
noncomputable def BR (X:Cx)(ops:List CmpOp)(rs:List Expr)(t:V->TT):Prop:=
 ∀(pos:Pos) (jI:Qb) (s:Shared) (σ:St) (H:Hp) (y:V) (v:Value) (Q:Bool->Hp->Prop),Inv X jI σ H s->ZI y v->t y σ H Q->xf (xz X.prog X.w) X.A (testChain pos v ops (evalEach rs X.env)) (TP X jI σ Q) X.xe s
theorem ZlN {op:CmpOp}{r:R2}{c:Expr}{tc:TE}(ho:Z6 X (xk op) r)(hc:PE X c tc):BR X [op] [c] (λy σ H Q=>tc σ H λz H1=>r y z H1 λw H2=>∃k,w=.bl k/\Q k H2):=by
 intro pos jI s σ H y v Q I r1 h;refine test_last (ZJ (hc jI s σ H _ I h) λu s2 ⟨z,H2,I2,r2,q2⟩=>ZJ (ho jI s2 σ H2 y z v u _ I2 r1 r2 q2) λd s3 ⟨z',H3,I3,r3,k,e,q3⟩=>?_);subst e
 cases r3
 exact wpAny_truthy_bool ⟨H3,I3,q3⟩
theorem ZjV {op op':CmpOp}{ops:List CmpOp}{r:R2}{b c:Expr}{rs:List Expr}{tb:TE}{t:V->TT}(ho:Z6 X (xk op) r)(hb:PE X b tb)(hr:BR X (op'::ops) (c::rs) t) :
  BR X (op::op'::ops) (b::c::rs) (λy σ H Q=>tb σ H λz H1=>r y z H1 λw H2=>∃k,w=.bl k/\(if k=true then t z σ H2 Q else Q false H2)):=by
 intro pos jI s σ H y v Q I r1 h;refine test_link (ZJ (hb jI s σ H _ I h) λu s2 ⟨z,H2,I2,r2,q2⟩=>ZJ (ho jI s2 σ H2 y z v u _ I2 r1 r2 q2) λd s3 ⟨z',H3,I3,r3,k,e,q3⟩=>?_);subst e
 cases r3
 refine wpAny_truthy_bool ?_
 cases k with
 | false=>exact ite_ff ⟨H3,I3,q3⟩
 | true=>exact ite_tt (hr pos jI s3 σ H3 z u Q I3 r2 q3)
theorem Ziq {op op':CmpOp}{ops:List CmpOp}{a b c:Expr}{rs:List Expr}{pos:Pos}{ta:TE}{t:V->TT}(ha:PE X a ta)(hr:BR X (op::op'::ops) (b::c::rs) t)
  (hm:lastMarks (op::op'::ops) (b::c::rs)=false:=by with_unfolding_all rfl):PT X (.Compare a (op::op'::ops) (b::c::rs) pos) (fun σ H Q=>ta σ H λy H1=>t y σ H1 Q):=by
 intro jI s σ H Q I h;exact isTrue_chain (ZJ (ha jI s σ H _ I h) λv s1 ⟨y,H1,I1,r1,q1⟩=>hr pos jI s1 σ H1 y v Q I1 r1 q1) hm
noncomputable def PDCh (X:Cx)(G:Gh)(ops:List CmpOp)(rs:List Expr)(f:D->Zb->M Bool):Prop:=
 ∃t,BR X ops rs t/\∀(y:V) (σ:St) (Hf H:Hp) (d:D) (ρ:Zb) (s:Pn) (b:Bool) (s':Pn) (Q:Bool->Hp->Prop),Zz G Hf H->Zi G Hf d y->YF G Hf σ ρ->G.st s H->f d ρ s=some (b,s')->
  (∀Hf' H',Gr G Hf H Hf' H'->G.st s' H'->Q b H')->t y σ H Q
noncomputable def JD (o:Option D):M Bool:=match o with | some (.bl k)=>Zy k | _=>ZE
theorem Zfw {o:Option D}{s s':Pn}{b:Bool}(h:JD o s=some (b,s')):o=some (.bl b)/\s'=s:=by
 unfold JD at h;split at h
 ·obtain⟨rfl,rfl⟩:=ZN h
  exact⟨rfl,rfl⟩
 ·cases h
noncomputable def Bt (g:D->D->Option D)(fc:Zb->M D):D->Zb->M Bool:=λd ρ=>Zp (fc ρ) λe=>JD (g d e)
noncomputable def Bu (g:D->D->Option D)(fb:Zb->M D)(f:D->Zb->M Bool):D->Zb->M Bool:=λd ρ=>Zp (fb ρ) λe=>Zp (JD (g d e)) λk=>if k=true then f e ρ else Zy false
noncomputable def Bh (fa:Zb->M D)(f:D->Zb->M Bool):Zb->M Bool:=fun ρ=>Zp (fa ρ) λd=>f d ρ
theorem ZjW {op:CmpOp}{g:D->D->Option D}{c:Expr}{fc:Zb->M D}{r1:Bool}(ho:Xb X G (xk op) g)(hc:PD X G r1 c fc):PDCh X G [op] [c] (Bt g fc):=by
 obtain⟨r,po,qo⟩:=ho;obtain⟨tc,pc,qc⟩:=hc.drop;refine⟨_,ZlN po pc,λy σ Hf H d ρ s b s' Q e1 ry e2 e3 e4 k=>?_⟩;obtain⟨e,s1,a1,a2⟩:=ZC e4;obtain⟨a3,rfl⟩:=Zfw a2;refine qc σ Hf H ρ s e _ _ e1 e2 e3 a1 λz jU H1 g1 jW r1=>?_;exact qo jU H1 _ y z d e _ _ g1.fh jW (ry.ext g1.ff) r1 a3 λv jZ H2 g2 jT r2 _=>⟨b,je.mp r2,k jZ H2 (g1.trans g2) jT⟩
theorem Zir {op op':CmpOp}{ops:List CmpOp}{g:D->D->Option D}{b c:Expr}{rs:List Expr}{fb:Zb->M D}{f:D->Zb->M Bool}{r1:Bool}(ho:Xb X G (xk op) g)(hb:PD X G r1 b fb)(hr:PDCh X G (op'::ops) (c::rs) f) :
  PDCh X G (op::op'::ops) (b::c::rs) (Bu g fb f):=by
 obtain⟨r,po,qo⟩:=ho;obtain⟨tb,pb,qb⟩:=hb.drop;obtain⟨t,pt,qt⟩:=hr;refine⟨_,ZjV po pb pt,λy σ Hf H d ρ s b' s' Q e1 ry e2 e3 e4 k=>?_⟩;obtain⟨e,s1,a1,a2⟩:=ZC e4;obtain⟨k1,s2,a3',a4⟩:=ZC a2;obtain⟨a3,rfl⟩:=Zfw a3';refine qb σ Hf H ρ s e _ _ e1 e2 e3 a1 λz jU H1 g1 jW r1=>?_;refine qo jU H1 _ y z d e _ _ g1.fh jW (ry.ext g1.ff) r1 a3 λv jZ H2 g2 jT r2 _=>⟨k1,je.mp r2,?_⟩
 cases k1 with
 | false=>
  obtain⟨rfl,rfl⟩:=ZN a4;rw[if_neg (by decide)];exact k jZ H2 (g1.trans g2) jT
 | true=>
  rw[if_pos rfl]at a4⊢;exact qt z σ jZ H2 e ρ _ _ _ Q (g1.trans g2).fh (r1.ext g2.ff) ((e2.ext g1.ff).ext g2.ff) jT a4 λHf3 H3 g3 st3=>k Hf3 H3 ((g1.trans g2).trans g3) st3
theorem Zis {op op':CmpOp}{ops:List CmpOp}{a b c:Expr}{rs:List Expr}{pos:Pos}{fa:Zb->M D}{f:D->Zb->M Bool}{r1:Bool}(ha:PD X G r1 a fa)(hr:PDCh X G (op::op'::ops) (b::c::rs) f)
  (hm:lastMarks (op::op'::ops) (b::c::rs)=false:=by with_unfolding_all rfl):XU X G (.Compare a (op::op'::ops) (b::c::rs) pos) (Bh fa f):=by
 obtain⟨ta,pa,qa⟩:=ha.drop;obtain⟨t,pt,qt⟩:=hr;refine⟨_,Ziq pa pt hm,fun σ Hf H ρ s b s' Q e1 e2 e3 e4 k=>?_⟩;obtain⟨d,s1,a1,a2⟩:=ZC e4;refine qa σ Hf H ρ s d _ _ e1 e2 e3 a1 λy jU H1 g1 jW r1=>?_;exact qt y σ jU H1 d ρ s1 b s' Q g1.fh r1 (e2.ext g1.ff) jW a2 λjZ H2 g2 jT=>k jZ H2 (g1.trans g2) jT
noncomputable def UL (τ:D->Zb->Option Zb)(f:Zb->M D):Zb->M Out:=fun ρ=>Zp (f ρ) λd=>match τ d ρ with | some ρ'=>Zy (.nx ρ') | none=>ZE
theorem ZlO {ob own:List Nat}{fr r1:Bool}{tg e:Expr}{pos:Pos}{τ:D->Zb->Option Zb}{f:Zb->M D}(he:PD X G r1 e f)(hg:W8 X G tg (λi=>i∉own) τ)(hs:swapsWithSole [tg] e pos.line X.env=pure false:=by rfl)(hw:swappedStores [tg] e X.env=pure none:=by rfl)
  (h1:(assignEach [tg] X.env).map (·.2)=[assign tg X.env]:=by rfl):YH X G ob own own fr (.Assign [tg] e pos) (UL τ (fun ρ=>f (ZG own ρ))):=by
 obtain⟨t,p,q⟩:=he;obtain⟨g,pg,qg⟩:=hg;have hy:Ws G r1 t f:=q;refine⟨_,Zem p pg hs hw h1,λkn jR H0 σ H ρ s out s' E ⟨Hf,j⟩ st e po=>?_⟩;obtain⟨d,s1,a1,a2⟩:=ZC e;refine hy.a kn jR H0 σ Hf H ρ s d s1 _ j st a1 λv Hf' H' j' e1 e2 st' r fz=>?_
 cases eq:τ d ρ with
 | none=>rw[eq]at a2;cases a2
 | some ρ'=>
  rw[eq]at a2;obtain⟨rfl,rfl⟩:=ZN a2;exact qg v σ Hf' H' d ρ ρ' _ j'.gr.fh r eq fun σ' hs'=>po σ' H' ⟨Hf',hs'.jf j'⟩ st'
theorem Zfx {ob:List Nat}{fr r1:Bool}{tg e:Expr}{pos:Pos}{τ:D->Zb->Option Zb}{f:Zb->M D}(he:PD X G r1 e f)(hg:W8 X G tg (λi=>i∉([]:List Nat)) τ)(hs:swapsWithSole [tg] e pos.line X.env=pure false:=by rfl)(hw:swappedStores [tg] e X.env=pure none:=by rfl)
  (h1:(assignEach [tg] X.env).map (·.2)=[assign tg X.env]:=by rfl):YH X G ob [] [] fr (.Assign [tg] e pos) (UL τ f):=by
 have h:=ZlO (ob:=ob) (fr:=fr) he hg hs hw h1;have e:(fun ρ=>f (ZG [] ρ))=f:=by funext ρ;rw[ZcO]
 rw[e]at h;exact h
theorem ZT.none {P:xB}{w:World}{K:qm}{mg:Str->Option Value}{base:Heap}{k:Nat}{x:Str}{n:Nat}{fr:Bool}{GG:Gh->Prop}{f:Addr}{fd:xA}{ps:List Str}(hm:mg x=some (.ref f))(hk:yK K (.ref f)=true)(hb:Wi K fd ps []) :
  ZT P w K mg base k x n fr GG (λ_=>ZE):=by
 refine⟨f,fd,ps,⟨λvs H Q E h=>?_,λA outer s H args us vs Q E _ _ _ _ h=>?_⟩,hm,hk,hb⟩
 ·obtain⟨G,Hf,ds,s,d,s',_,_,_,_,_,h,_⟩:=h
  cases h
 ·obtain⟨G,Hf,ds,s,d,s',_,_,_,_,_,h,_⟩:=h
  cases h
end
open PySem.SeqAt
open AutoSeq1 (wpAny_loadPart')
theorem ZgC (l:Addr)(items:Array Value)(n:Nat)(dd:Option Addr)(sl:Array (Option Value))(x:Int)(u:Tok)(hc0:¬((x < -(2 ^ 63):Bool)||(x≥2 ^ 63:Bool))=true)(hc1:¬(items.isEmpty||x==1)=true)(hc2:¬((x<=0:Bool)||items.isEmpty)=true)
  (hc3:¬((items.size:Int)*x > (2 ^ 63-1) / 8)) (hc4:¬qb2 ((items.size:Int)*x)=true) (hsz:(qbH (λx1 x2=>x1++x2) #[] (qy x.toNat items)).size<=xg) :
  Meets (Builtin.«tuple.__mul__» ⟨[.ref l,.int x u],[]⟩) (λ_ R s=>s.heap.get? l=some { cls:=.type "tuple",dict:=dd,data:=.seq items n,slots:=sl }/\R (.ok (.ret (qY s.heap.objs.size))) { s with heap:=s.heap.push { cls:=yp "tuple",data:=Data.seq (qbH (λx1 x2=>x1++x2) #[] (qy x.toNat items)) },toks:=s.toks }):=
 .of_wp λprog w A R s h=>by
  obtain⟨hp,g,d,tk,os⟩:=s;obtain⟨hl,h⟩:=h;have f1:=qcg;have f2:=qaz;have f3:=qby;have f4:=qbo;have f5:=qbp;wp_walk using wpAny_loadPart' hl;rw[if_neg hc0];wp_walk using wpAny_loadPart' hl;rw[if_neg hc3];wp_walk using wpAny_loadPart' hl
  try (refine wpAny_ite_false (decide_eq_false (Nat.not_lt.mpr hsz)) ?_;wp_walk)
  exact⟨_,rfl,h⟩
theorem Zab:fillsNumberSlot (.type "tuple") "mul" = pure false:=
 PySem.fillsNumberSlot_seq (id:="tuple.__mul__") (r:=some (.builtin "tuple.__rmul__")) qaa.lookup (by decide +kernel) qcp.lookup (by decide +kernel)
theorem ZaB:seqRepeat? (.type "tuple")=pure (some (.builtin "tuple.__mul__")):=by
 unfold seqRepeat?;rw[PySem.seqSlot_of (T:="tuple") (name:="__mul__") (id:="tuple.__mul__") qaa.lookup (by decide +kernel),PySem.seqSlot_of (T:="tuple") (name:="__rmul__") (id:="tuple.__rmul__") qcp.lookup (by decide +kernel)];rfl
theorem Zaj (a:Int)(t:Tok)(l:Addr)(items:Array Value)(n:Nat)(dd:Option Addr)(sl:Array (Option Value)) :
  Meets (Builtin.«int.__rmul__» ⟨[.int a t,.ref l],[]⟩) (λ_ R s=>s.heap.get? l=some { cls:=.type "tuple",dict:=dd,data:=.seq items n,slots:=sl }/\R (.ok (.ret qcP)) s):=
 .of_wp λprog w A R s h=>by obtain⟨hp,g,d,tk,os⟩:=s;obtain⟨hl,h⟩:=h;wp_walk;exact⟨_,rfl,h⟩
section
variable {X:Cx}{G:Gh}
noncomputable def Zos (K:qm):R2:=λx y H Q=>∃l k xs,x=.ref l/\y=.int k/\ZH K H l xs/\xs≠[]/\2<=k/\k<2 ^ 62/\xs.length*k.toNat<=xg/\
 ∀p,H p=none->Q (.ref p) (Zl H p (.tup (qy k.toNat xs).flatten))
theorem ZlP:Z6 X (binaryOp .Mult) (Zos X.K):=by
 intro jI s σ H x y v u Q I rx ry h;obtain⟨l,k,xs,rfl,rfl,hH,hne,h1,h2,hz,q⟩:=h
 cases rx
 obtain⟨t,rfl⟩:=ry;obtain⟨jK,r,p1,_⟩:=I.tuple hH;obtain⟨⟨cls,dd,data,sl⟩,ho,hc,n,hd⟩:=id p1;simp only at hc hd;subst hc hd;have hl:=r.length;have hsz:jK.toArray.size=xs.length:=by rw[qJ];exact hl.symm
 have hne':jK≠[]:=λz=>hne (r.nil_iff.mp z);have hemp:jK.toArray.isEmpty=false:=by cases jK with | nil=>exact absurd rfl hne' | cons a b=>rfl
 have e0:((k.toNat:Nat):Int)=k:=by omega
 have hcap:((jK.toArray.size:Int)*k)=((xs.length*k.toNat:Nat):Int):=by rw[hsz,Int.natCast_mul,e0]
 have sl2:(xg:Nat)=16777216:=sizeLine_eq;have hnew:qbH (λx1 x2=>x1++x2) #[] (qy k.toNat jK.toArray)=(qy k.toNat jK).flatten.toArray:=by
  have:=ZbM jK k.toNat [];rw[yR]at this;exact this
 have hfl:(qy k.toNat jK).flatten.length<=xg:=by rw[Zer,qce,<-hl];exact hz
 refine wpAny_binaryOp_repeat_ref (T:="tuple") (U:="int") (by decide) ⟨_,ho,rfl⟩ (λs'=>typeIs_int s' k t) Zab qbI yS ZaB qbA.lookup
  (call_meets yS (typeIs_int s k t) qbB (qbs _ _) (Zaj k t l jK.toArray n dd sl)
   ⟨ho,rfl,⟨_,ho,rfl⟩,call_meets qaa ⟨_,ho,rfl⟩ qbq (qbd _ _) (ZgC l jK.toArray n dd sl k t ?_ ?_ ?_ ?_ ?_ ?_) ⟨ho,?_⟩⟩)
 ·simp;omega
 ·rw[hemp];simp;omega
 ·rw[hemp];simp;omega
 ·rw[hcap];omega
 ·unfold qb2
  rw[hcap,decide_eq_true_eq];omega
 ·rw[hnew,qJ];exact hfl
 ·rw[hnew]
  exact⟨.ref s.heap.objs.size,_,I.laid (t':=s.toks) (o:=.tup (qy k.toNat xs).flatten) (λb ob q=>qj _ q) (qp _) ⟨by rw[Zer,qce];exact hz,_,r.rep k.toNat,qbW _ _⟩,rfl,q _ (I.hok.fresh (qp _))⟩
theorem Zh.rep {Hf:Hp}{ds:List D}{vs:List V}(r:Zh G Hf ds vs):∀k:Nat,Zh G Hf (qy k ds).flatten (qy k vs).flatten
 | 0=>Zh.nil_iff.mpr rfl
 | k+1=>by
  rw[yo,yo,zP,zP];exact r.append (Zh.rep r k)
noncomputable def Jr:D->D->Option D
 | .int i,.int j=>if UC i j=true then some (.int (i*j))else none
 | .tup ds,.int k=>if ds≠[]/\2<=k/\k<2 ^ 62/\ds.length*k.toNat<=xg then some (.tup (qy k.toNat ds).flatten)else none
 | .lst ds,.int k=>if -(2 ^ 63)<=k/\k<2 ^ 63/\ds.length*k.toNat<=xg then some (.lst (qy k.toNat ds).flatten)else none
 | _,_=>none
theorem ZjX:Xb X G (binaryOp .Mult) Jr:=by
 obtain⟨r0,po,qo⟩:=VX (X:=X) (G:=G);refine⟨_,po.or (ZlP.or Zng),λHf H s x y d e c Q e1 st rx ry q k=>?_⟩
 match d,e,q,rx,ry with
 | .int i,.int j,q,rx,ry=>exact .inl (qo Hf H s x y _ _ c Q e1 st rx ry q k)
 | .tup ds,.int j,q,rx,ry=>
  have q:(if ds≠[]/\2<=j/\j<2 ^ 62/\ds.length*j.toNat<=xg then some (D.tup (qy j.toNat ds).flatten)else none)=some c:=q;split at q
  ·rename_i hz
   cases q
   obtain⟨p,vs,rfl,np,hp,rp⟩:=jc.mp rx;refine .inr (.inl ⟨p,j,vs,rfl,ja.mp ry,ZH.of (e1 _ _ np hp),λz=>hz.1 (zS.mp (by rw[rp.length,z];rfl)),hz.2.1,hz.2.2.1,by rw[<-rp.length];exact hz.2.2.2,λl hl=>?_⟩);have nf:=Gh.nofp st hl;have g2:=Gr.new (o:=.tup (qy j.toNat vs).flatten) e1 hl nf;exact k (.ref l) _ _ g2 (Gh.grow st hl) (jc.mpr ⟨l,_,rfl,nf,ZQ,(rp.rep _).ext g2.ff⟩) (.scal λz=>z)
  ·cases q
 | .lst ds,.int j,q,rx,ry=>
  have q:(if -(2 ^ 63)<=j/\j<2 ^ 63/\ds.length*j.toNat<=xg then some (D.lst (qy j.toNat ds).flatten)else none)=some c:=q;split at q
  ·rename_i hz
   cases q
   obtain⟨p,vs,rfl,np,hp,rp⟩:=jb.mp rx;refine .inr (.inr ⟨p,j,vs,rfl,ja.mp ry,e1 _ _ np hp,hz.1,hz.2.1,by rw[<-rp.length];exact hz.2.2,λl hl=>?_⟩);have nf:=Gh.nofp st hl;have g2:=Gr.new (o:=.lst (qy j.toNat vs).flatten) e1 hl nf;exact k (.ref l) _ _ g2 (Gh.grow st hl) (jb.mpr ⟨l,_,rfl,nf,ZQ,(rp.rep _).ext g2.ff⟩) (Z2.mk e1 hl nf (rp.rep _))
  ·cases q
end
end TF
namespace TF
open L2
section
variable {X:Cx}{G:Gh}
end
section
variable {f g:Zb->M D}{ρ:Zb}{s s1:Pn}{a b:Bool}{r:Option (D×Pn)}
theorem Znv (h:f ρ s=some (.bl true,s1))(h2:g ρ s1=r):UH f g ρ s=r:=by unfold UH Zp;rw[h];exact h2
theorem ZlQ (h:f ρ s=some (.bl a,s1)):BB f ρ s=some (.bl (!a),s1):=by unfold BB Zp;rw[h];rfl
end
section
variable {f g:Zb->M Bool}{ρ:Zb}{s s1:Pn}{a b:Bool}{r:Option (Bool×Pn)}
theorem Znw (h:f ρ s=some (false,s1)):XZ f g ρ s=some (false,s1):=by unfold XZ Zp;rw[h];rfl
theorem Znx (h:f ρ s=some (true,s1))(h2:g ρ s1=r):XZ f g ρ s=r:=by unfold XZ Zp;rw[h];exact h2
theorem Bv (h:f ρ s=some (false,s1))(h2:g ρ s1=r):WP f g ρ s=r:=by unfold WP Zp;rw[h];exact h2
theorem Zez (h:f ρ s=some (a,s))(h2:a=true->g ρ s=some (b,s)):XZ f g ρ s=some (a&&b,s):=by
 cases a with
 | false=>exact Znw h
 | true=>rw[qcZ];exact Znx h (h2 rfl)
end
section
variable {c:Zb->M Bool}{g1 g2:Zb->M Out}{ρ:Zb}{s s1:Pn}{r:Option (Out×Pn)}
theorem ZmA (h:c ρ s=some (true,s1))(h2:g1 ρ s1=r):Yu c g1 g2 ρ s=r:=by unfold Yu Zp;rw[h];exact h2
theorem ZmB (h:c ρ s=some (false,s1))(h2:g2 ρ s1=r):Yu c g1 g2 ρ s=r:=by unfold Yu Zp;rw[h];exact h2
end
section
variable {fa fb:Zb->M D}{f:D->Zb->M Bool}{g:D->D->Option D}{ρ:Zb}{s s1 s2:Pn}{d e:D}{k:Bool}{r:Option (Bool×Pn)}
theorem Zit (h:fa ρ s=some (d,s1))(h2:f d ρ s1=r):Bh fa f ρ s=r:=by unfold Bh Zp;rw[h];exact h2
theorem ZjY (h:fb ρ s=some (e,s1))(h2:g d e=some (.bl k)):Bt g fb d ρ s=some (k,s1):=by unfold Bt Zp;rw[h];show JD (g d e) s1=_;rw[h2];rfl
theorem ZjZ (h:fb ρ s=some (e,s))(h2:g d e=some (.bl k)){b:Bool}(h3:k=true->f e ρ s=some (b,s)):Bu g fb f d ρ s=some (k&&b,s):=by
 unfold Bu Zp;simp only[h,h2,JD,Zy]
 cases k with
 | false=>rfl
 | true=>simp[h3 rfl]
end
theorem eqi (a b:Int):Yy (.int a) (.int b)=some (.bl (a==b)):=by
 unfold Yy;rw[if_pos (by simp[Wq,Zo,Z1])];simp[ZB]
theorem nei (a b:Int):Y8 (.int a) (.int b)=some (.bl (!(a==b))):=by
 unfold Y8;rw[if_pos (by simp[Wq,Zo,Z1])];simp[ZB]
theorem ZaC {τ:D->Zb->Option Zb}{body:Zb->M Out}{d:D}{ds:List D}{ρ ρ1 ρ2:Zb}{s s1:Pn}{r:Option (Out×Pn)}(h:τ d ρ=some ρ1)(hb:body ρ1 s=some (.nx ρ2,s1))(h2:X9 τ body ds ρ2 s1=r):X9 τ body (d::ds) ρ s=r:=by
 unfold X9 Zp YV;simp only[h,hb];exact h2
theorem ZeA {τ:D->Zb->Option Zb}{body:Zb->M Out}{d e:D}{ds:List D}{ρ ρ1:Zb}{s s1:Pn}(h:τ d ρ=some ρ1)(hb:body ρ1 s=some (.rt e,s1)):X9 τ body (d::ds) ρ s=some (.rt e,s1):=by
 unfold X9 Zp YV;simp only[h,hb];rfl
theorem U4 {fi:Zb->M (List D)}{τ:D->Zb->Option Zb}{body:Zb->M Out}{ds:List D}{ρ:Zb}{s s1:Pn}{r:Option (Out×Pn)}(h:fi ρ s=some (ds,s1))(h2:X9 τ body ds ρ s1=r):Z9 fi τ body ρ s=r:=by
 unfold Z9 Zp;rw[h];exact h2
theorem U5 {f:Zb->M D}{ρ:Zb}{s s1:Pn}{ds:List D}(h:f ρ s=some (.tup ds,s1)):XY f ρ s=some (ds,s1):=by unfold XY Zp;rw[h];rfl
theorem X6 {f:Zb->M D}{ρ:Zb}{s s1:Pn}{ds:List D}(h:f ρ s=some (.lst ds,s1)):ZY f ρ s=some (ds,s1):=by unfold ZY Zp;rw[h];rfl
end TF
namespace TP
open L2 TF
theorem Vc {α:Type}(l:List α):l.filter (λ_=>true)=l:=qbO.mpr (by simp)
end TP
namespace TF
open L2
section
variable {f:Zb->M D}{fs:Zb->M (List D)}{ρ:Zb}{s:Pn}
theorem Ok.tup {Q:D->Pn->Prop}(h:Ok (fs ρ) s λds s1=>ds.length<=xg/\Q (.tup ds) s1):Ok (ZS fs ρ) s Q:=.bind (h.mono λ_ _ q=>.ite q.1 (.ret q.2))
theorem Ok.call {g:List D->Option D}{Q:D->Pn->Prop}(h:Ok (fs ρ) s λds s1=>∃c,g ds=some c/\Q c s1):Ok (Zs g fs ρ) s Q:=.bind (h.mono λ_ _ q=>let ⟨c,e,q⟩:=q;.of e q)
theorem Ok.sunp {τ:D->Zb->Option Zb}{Q:Out->Pn->Prop}(h:Ok (f ρ) s λd s1=>∃ρ',τ d ρ=some ρ'/\Q (.nx ρ') s1):Ok (UL τ f ρ) s Q:=
 .bind (h.mono λd s1 q=>by obtain⟨ρ',e,q⟩:=q;rw[e];exact .ret q)
end
theorem ZlR {f:Zb->M D}{ρ:Zb}{s:Pn}{x:D}(h1:f ρ s=some (x,s)):ZS (Zc f Zd) ρ s=some (.tup [x],s):=Vg (Zj h1 rfl) (by show 1<=xg;decide)
theorem Vw {f g:Zb->M D}{ρ:Zb}{s:Pn}{x y:D}(h1:f ρ s=some (x,s))(h2:g ρ s=some (y,s)):ZS (Zc f (Zc g Zd)) ρ s=some (.tup [x,y],s):=Vg (Zj h1 (Zj h2 rfl)) TP.two_le
theorem ZeB {f:Zb->M D}{ρ:Zb}{s:Pn}{x:D}(h1:f ρ s=some (x,s)):ZZ (Zc f Zd) ρ s=some (.lst [x],s):=Xv (Zj h1 rfl) (by show 1<=xg;decide)
theorem ZeC {f g:Zb->M D}{ρ:Zb}{s:Pn}{x y:D}(h1:f ρ s=some (x,s))(h2:g ρ s=some (y,s)):ZZ (Zc f (Zc g Zd)) ρ s=some (.lst [x,y],s):=Xv (Zj h1 (Zj h2 rfl)) TP.two_le
theorem Zj0 {X:Cx}{GG:Gh->Prop}{ob own own':List Nat}{fr:Bool}{sts:List Stmt}{g:Zb->M Out}(h:∀G,GG G->X0 X G ob own own' fr sts g):Wb X sts (λE σ H=>∃G,GG G/\ZjM G ob own own' fr g E σ H):=by
 intro jI s σ H D I ⟨G,hG,kn,jR,H0,ρ,pn,out,pn',j,st,e,po⟩;obtain⟨t,p,q⟩:=h G hG;exact p jI s σ H D I (q kn jR H0 σ H ρ pn out pn' D j st e po)
theorem Zny {K:qm}{H:Hp}{a p:Addr}{xs:List V}{o:HO}(sq:ZA K H a xs)(hp:H p=none):ZA K (Zl H p o) a xs:=by
 have hne:∀u,H a=some u->a≠p:=λu e z=>by rw[z,hp]at e;cases e
 rcases sq with(q | ⟨o',q⟩) | q
 ·exact .inl (.inl (by rw[Zx (hne _ q)];exact q))
 ·exact .inl (.inr ⟨o',by rw[Zx (hne _ q)];exact q⟩)
 ·exact .inr q
noncomputable def Xu (L:List (Addr×Str))(b:Addr):Prop:=∃q,(b,q)∈L
noncomputable def ZmC (G0:Gh)(L:List (Addr×Str))(P:Addr)(q:Str)(H:Hp):Prop:=∃ps,H P=some (.tbl ps)/\TriplesOk ps.toList/\∀pos cv,codeAmong pos ps.toList=some cv->∃c',cv=.ref c'/\H c'=some (.ext (codeφ c' q))/\¬G0.fp c'/\¬Xu L c'
noncomputable def UE (G0:Gh)(L:List (Addr×Str)):Gh where
 fp:=λb=>G0.fp b∨Xu L b
 rd:=λb=>G0.rd b∨Xu L b
 pen:=G0.pen
 st:=λs H=>G0.st s H/\∀P q,(P,q)∈L->ZmC G0 L P q H
 mono:=λs H H' ⟨h1,h2⟩ k1 k2=>⟨G0.mono s H H' h1 (λb o r=>k1 b o (.inl r)) k2,λP q m=>by
  obtain⟨ps,e,t,h⟩:=h2 P q m;refine⟨ps,k1 P _ (.inr ⟨q,m⟩) e,t,λpos cv hc=>?_⟩;obtain⟨c',z1,z2,z3⟩:=h pos cv hc;exact⟨c',z1,k2 _ _ z2,z3⟩⟩
 sub:=λb h=>h.elim (λz=>.inl (G0.sub b z)) .inr
 dom:=λs H b ⟨h1,h2⟩ hb=>by
  rcases hb with z | ⟨q,m⟩
  ·exact G0.dom s H b h1 z
  ·obtain⟨ps,e,_⟩:=h2 b q m
   exact⟨_,e⟩
 ntp:=λs H b vs ⟨h1,h2⟩ hb=>by
  rcases hb with z | ⟨q,m⟩
  ·exact G0.ntp s H b vs h1 z
  ·obtain⟨ps,e,_⟩:=h2 b q m
   rw[e];intro z;cases z
theorem Zdv {pos pos':Pos}{c:Value}(l:List Value)(h:TriplesOk l){cv:Value}(hc:codeAmong pos' (l ++ [rawInt pos.line,rawInt pos.col,c])=some cv):codeAmong pos' l=some cv∨cv=c:=by
 fun_induction TriplesOk l with
 | case1=>
  simp only[yR,rawInt,codeAmong]at hc;split at hc
  ·exact .inr (zw hc).symm
  ·cases hc
 | case2 a b d e f rest ih=>
  simp only[qbC,codeAmong]at hc⊢;split at hc
  ·rename_i h1;rw[if_pos h1];exact .inl hc
  ·rename_i h1;rw[if_neg h1];exact ih h hc
 | case3=>cases h
theorem Zfy {pos:Pos}{c:Value}(l:List Value)(h:TriplesOk l):TriplesOk (l ++ [rawInt pos.line,rawInt pos.col,c]):=by
 fun_induction TriplesOk l with
 | case1=>simp[TriplesOk,rawInt]
 | case2 a b d e f rest ih=>simp only[qbC,TriplesOk];exact ih h
 | case3=>cases h
noncomputable def Wl (L:List (Addr×Str)):Prop:=∀P q q',(P,q)∈L->(P,q')∈L->q=q'
noncomputable def Y2 (GG0:Gh->Prop)(L:List (Addr×Str))(G:Gh):Prop:=∃G0,GG0 G0/\(∀b,Xu L b->¬G0.rd b)/\G=UE G0 L
theorem ZlS {G0:Gh}{L:List (Addr×Str)}{P:Addr}{q:Str}(lo:Wl L)(hrd:∀b,Xu L b->¬G0.rd b)(m:(P,q)∈L):TabG P q (UE G0 L):=by
 refine⟨λs H st=>?_,.inr ⟨q,m⟩,λs H ps pos c' st hP hc hn=>?_⟩
 ·obtain⟨ps,e,t,h⟩:=st.2 P q m
  refine⟨ps,e,t,λpos cv hc=>?_⟩;obtain⟨c',z1,z2,z3,z4⟩:=h pos cv hc;exact⟨c',z1,z2,λz=>z.elim z3 z4⟩
 ·have hcP:c'≠P:=λz=>by rw[z,hP]at hc;cases hc
  have notL:¬Xu L c':=λ⟨q',m'⟩=>by
   obtain⟨_,e,_⟩:=st.2 c' q' m';rw[hc]at e;cases e
  have k2:∀b φ,H b=some (.ext φ)->Zl (Zl H P (.tbl (ps ++ #[rawInt pos.line,rawInt pos.col,.ref c']))) c' (.ext (codeφ c' q)) b=some (.ext φ):=λb φ e=>by
   rw[Zx (Ys e hc),Zx (λz=>by rw[z,hP]at e;cases e)];exact e
  refine⟨G0.mono s H _ st.1 (λb o r e=>?_) k2,λP' q' m'=>?_⟩
  ·rw[Zx (Ys e hc),Zx (λz=>hrd P ⟨q,m⟩ (by rw[<-z];exact r))];exact e
  ·by_cases hb:P'=P
   ·subst hb
    have:=lo P' q q' m m';subst this;obtain⟨ps',e,t,h⟩:=st.2 P' q m;rw[hP]at e;cases e;refine⟨_,by rw[Zx (zH hcP),ZQ],?_,λpos' cv hcv=>?_⟩
    ·rw[zb];exact Zfy _ t
    ·rw[zb]at hcv
     rcases Zdv (pos:=pos) _ t hcv with z | z
     ·obtain⟨c2,z1,z2,z3⟩:=h pos' cv z
      exact⟨c2,z1,k2 _ _ z2,z3⟩
     ·exact⟨c',z,ZQ,Gh.nofp st.1 hc,notL⟩
   ·obtain⟨ps',e,t,h⟩:=st.2 P' q' m'
    refine⟨ps',by rw[Zx (Ys e hc),Zx hb];exact e,t,λpos' cv hcv=>?_⟩;obtain⟨c2,z1,z2,z3⟩:=h pos' cv hcv;exact⟨c2,z1,k2 _ _ z2,z3⟩
noncomputable def XJ (L:List (Addr×Str))(G:Gh):Prop:=∀P q,(P,q)∈L->TabG P q G
theorem jr {GG0:Gh->Prop}{L:List (Addr×Str)}{G:Gh}(lo:Wl L)(h:Y2 GG0 L G):XJ L G:=by
 obtain⟨G0,_,hrd,rfl⟩:=h;exact λP q m=>ZlS lo hrd m
mutual
theorem Zi.tr {G G':Gh}{H H':Hp}(h:∀a o,¬G.fp a->H a=some o->(∀ps,o≠.tbl ps)->¬G'.fp a/\H' a=some o)(hp:G'.pen=G.pen):∀{d:D} {v:V},YE d=true->Zi G H d v->Zi G' H' d v
 | .non,_,_,r=>jg.mpr (jg.mp r)
 | .bl _,_,_,r=>je.mpr (je.mp r)
 | .int _,_,_,r=>ja.mpr (ja.mp r)
 | .str _,_,_,r=>jh.mpr (jh.mp r)
 | .tup ds,v,n,r=>by
  obtain⟨a,vs,e1,nf,e2,r⟩:=jc.mp r;obtain⟨z1,z2⟩:=h a _ nf e2 (λ_ z=>by cases z);exact jc.mpr ⟨a,vs,e1,z1,z2,Zh.tr h hp (by simpa[YE]using n) r⟩
 | .lst ds,v,n,r=>by
  obtain⟨a,vs,e1,nf,e2,r⟩:=jb.mp r;obtain⟨z1,z2⟩:=h a _ nf e2 (λ_ z=>by cases z);exact jb.mpr ⟨a,vs,e1,z1,z2,Zh.tr h hp (by simpa[YE]using n) r⟩
 | .dk _,_,_,r=>by
  obtain⟨a,e1,nf,e2⟩:=jj.mp r;obtain⟨z1,z2⟩:=h a _ nf e2 (λ_ z=>by cases z);exact jj.mpr ⟨a,e1,z1,z2⟩
 | .dt _,_,_,r=>by
  obtain⟨a,o,e1,nf,e2⟩:=jk.mp r;obtain⟨z1,z2⟩:=h a _ nf e2 (λ_ z=>by cases z);exact jk.mpr ⟨a,o,e1,z1,z2⟩
 | .du _,_,_,r=>by
  obtain⟨a,e1,nf,e2⟩:=jl.mp r;obtain⟨z1,z2⟩:=h a _ nf e2 (λ_ z=>by cases z);exact jl.mpr ⟨a,e1,z1,z2⟩
 | .df _,_,_,r=>by
  obtain⟨a,o,e1,nf,e2⟩:=jt.mp r;obtain⟨z1,z2⟩:=h a _ nf e2 (λ_ z=>by cases z);exact jt.mpr ⟨a,o,e1,z1,z2⟩
 | .pen,_,_,r=>jp.mpr ((jp.mp r).trans hp.symm)
 | .ty _,_,_,r=>jq.mpr (jq.mp r)
 | .clo _ _,_,n,_=>by simp[YE]at n
theorem Zh.tr {G G':Gh}{H H':Hp}(h:∀a o,¬G.fp a->H a=some o->(∀ps,o≠.tbl ps)->¬G'.fp a/\H' a=some o)(hp:G'.pen=G.pen):∀{ds:List D} {vs:List V},Xo ds=true->Zh G H ds vs->Zh G' H' ds vs
 | [],_,_,r=>Zh.nil_iff.mpr (Zh.nil_iff.mp r)
 | d::ds,vs,n,r=>by
  obtain⟨v,rr,e,h1,h2⟩:=jd.mp r;have n':YE d=true/\Xo ds=true:=by simpa[Xo]using n
  exact jd.mpr ⟨v,rr,e,Zi.tr h hp n'.1 h1,Zh.tr h hp n'.2 h2⟩
end
open Classical in
noncomputable def VM (L:List (Addr×Str))(H H2:Hp):Hp:=λb=>if Xu L b then H2 b else H b
theorem ZlT {L:List (Addr×Str)}{H H2:Hp}{b:Addr}(h:Xu L b):VM L H H2 b=H2 b:=by unfold VM;rw[if_pos h]
theorem WB {L:List (Addr×Str)}{H H2:Hp}{b:Addr}(h:¬Xu L b):VM L H H2 b=H b:=by unfold VM;rw[if_neg h]
theorem ZlU {P:xB}{w:World}{K:qm}{mg:Str->Option Value}{base:Heap}{k:Nat}{f:Addr}{fd:xA}{ps:List Str}{n:Nat}{fr:Bool}{GG0:Gh->Prop}{L:List (Addr×Str)}{F:List D->M D}(FN:FnOk P w K mg base ZV k f fd ps (Yr n fr GG0 F))
  (hF:∀ds s d s',F ds s=some (d,s')->Xo ds=true/\YE d=true):FnOk P w K mg base ZV k f fd ps (Yr n fr (Y2 GG0 L) F):=by
 refine FN.imp λvs H Q E h=>?_;obtain⟨G,Hf,ds,s,d,s',⟨G0,hG0,hrd,rfl⟩,hl,e1,r,st,eF,k⟩:=h;obtain⟨n1,n2⟩:=hF _ _ _ _ eF;have nfp:∀b,Xu L b->¬G0.fp b:=λb m z=>hrd b m (G0.sub b z);have e1':Zz G0 (VM L Hf λ_=>none) H:=λb o nb q=>by
  by_cases m:Xu L b
  ·rw[ZlT m]at q;cases q
  ·rw[WB m]at q;exact e1 b o (λz=>z.elim nb m) q
 refine⟨G0,VM L Hf λ_=>none,ds,s,d,s',hG0,hl,e1',Zh.tr (G:=UE G0 L) (G':=G0) (λa o na q _=>?_) rfl n1 r,st.1,eF,λv Hf' H' g st' r' fz=>?_⟩
 ·have m:¬Xu L a:=λz=>na (.inr z)
  exact⟨λz=>na (.inl z),by rw[WB m];exact q⟩
 ·have tab:∀b,Xu L b->∃ps,H' b=some (.tbl ps):=λb ⟨q,m⟩=>by
   obtain⟨ps,e,_⟩:=st.2 b q m;exact⟨ps,g.hh b _ (nfp b ⟨q,m⟩) e⟩
  have out:∀a o,¬G0.fp a->Hf' a=some o->(∀ps,o≠.tbl ps)->¬Xu L a:=λa o na q no m=>by
   obtain⟨ps,e⟩:=tab a m;rw[g.fh a o na q]at e;exact no ps (zw e)
  have tr:∀a o,¬G0.fp a->Hf' a=some o->(∀ps,o≠.tbl ps)->¬(UE G0 L).fp a/\VM L Hf' Hf a=some o:=λa o na q no=>by
   have m:=out a o na q no;exact⟨λz=>z.elim na m,by rw[WB m];exact q⟩
  refine k v (VM L Hf' Hf) H' ⟨λb o nb q=>g.hh b o (λz=>nb (.inl z)) q,λb o nb q=>?_,λb o nb q=>?_,λb nb q1 q2=>?_⟩ ⟨st',λP q m=>?_⟩ (Zi.tr (G:=G0) (G':=UE G0 L) tr rfl n2 r') λz a ea mu=>?_
  ·have m:¬Xu L b:=λz=>nb (.inr z)
   rw[WB m];exact g.ff b o (λz=>nb (.inl z)) (by rw[WB m];exact q)
  ·have m:¬Xu L b:=λz=>nb (.inr z)
   rw[WB m]at q;exact g.fh b o (λz=>nb (.inl z)) q
  ·have m:¬Xu L b:=λz=>nb (.inr z)
   rw[WB m];exact g.nw b (λz=>nb (.inl z)) (by rw[WB m];exact q1) q2
  ·obtain⟨ps,e,t,h⟩:=st.2 P q m
   refine⟨ps,g.hh P _ (nfp P ⟨q,m⟩) e,t,λpos cv hc=>?_⟩;obtain⟨c',z1,z2,z3,z4⟩:=h pos cv hc;exact⟨c',z1,g.hh c' _ z3 z2,z3,z4⟩
  ·obtain⟨h1,h2⟩:=fz z a ea mu
   refine⟨h1,λxs ed=>?_⟩;obtain⟨us,Hm,q1,q2,q3,q4⟩:=h2 xs ed;have na:¬Xu L a:=λm=>by
    obtain⟨q,m⟩:=m;obtain⟨ps,e,_⟩:=st.2 a q m;rw[h1]at e;cases e
   refine⟨us,VM L Hm λ_=>none,by rw[WB na];exact q1,by rw[WB na];exact q2,λb o nb q=>?_,?_⟩
   ·have m:¬Xu L b:=λz=>nb (.inr z)
    rw[WB m]at q⊢;exact q3 b o (λz=>nb (.inl z)) q
   ·subst ed
    refine Zh.tr (G:=G0) (G':=UE G0 L) (λb o nb q no=>?_) rfl (by simpa[YE]using n2) q4;have m:=out b o nb (q3 b o nb q) no;exact⟨λz=>z.elim nb m,by rw[WB m];exact q⟩
theorem Zj1 {P:xB}{w:World}{K:qm}{mg:Str->Option Value}{base:Heap}{k:Nat}{x:Str}{n:Nat}{fr:Bool}{GG0:Gh->Prop}{L:List (Addr×Str)}{F:List D->M D}(c:ZT P w K mg base k x n fr GG0 F)(hF:∀ds s d s',F ds s=some (d,s')->Xo ds=true/\YE d=true):ZT P w K mg base k x n fr (Y2 GG0 L) F:=
 let ⟨f,fd,ps,a,b,c,d⟩:=c
 ⟨f,fd,ps,ZlU a hF,b,c,d⟩
theorem Zj2 {N ps:List Str}{own:List Nat}{fr:Bool}{G:Gh}{t:TS}{g:Zb->M Out}{vs:List V}{ds:List D}{Hf H:Hp}{pn pn':Pn}{d:D}{Q:VK}(hpl:ps.length<=N.length)(q:BO G [] [] own fr t g)(e1:Zz G Hf H)(r:Zh G Hf ds vs)(st':G.st pn H)(eF:runB N.length ps.length g ds pn=some (d,pn'))
  (k':∀v Hf' H',Gr G Hf H Hf' H'->G.st pn' H'->Zi G Hf' d v->(fr=true->Z2 G H Hf' d v)->Q v H'):t { nx:=λ_ H'=>Q .non H',rt:=Q } (L2.start N vs) H:=by
 obtain⟨hl,a0⟩:=Xc eF;obtain⟨o,s1,a1,a2⟩:=ZC a0;have j0:Jf G [] Hf Hf H (L2.start N vs) Hf H (ds.map some++qy (N.length-ps.length) none):=by
  refine⟨?_,.refl _ _,.refl e1,λi d n e=>?_,λi d m e=>absurd m (by simp),λi j a di dj mi mj n e=>absurd mi (by simp)⟩
  ·have:=r.length
   unfold L2.start;simp;omega
  ·have hi:i<ds.length:=by
    by_cases hi:i<ds.length
    ·exact hi
    ·rw[yj (by simpa using hi),yW]at e
     split at e <;> cases e
   have e':ds[i]?=some d:=by
    rw[zD (by simpa using hi),qH]at e
    cases q:ds[i]? with
    | none=>rw[q]at e;cases e
    | some c=>rw[q]at e;simp at e;rw[e]
   obtain⟨v,h1,h2⟩:=r.get e';refine⟨v,?_,h2⟩;unfold L2.start;rw[zD (by simp;rw[<-r.length];exact hi),qH,h1];rfl
 refine q Hf Hf H (L2.start N vs) H _ pn o s1 _ ⟨Hf,j0⟩ st' a1 ?_
 cases o with
 | rt c=>
  obtain⟨rfl,rfl⟩:=ZN a2;exact λv Hf' H' g' jT r2 fz=>k' v Hf' H' g' jT r2 fz
 | nx ρ'=>
  obtain⟨rfl,rfl⟩:=ZN a2;exact fun σ' H' ⟨Hf',j'⟩ jT=>k' .non Hf' H' j'.gr jT (jg.mpr rfl) λ_=>.scal λz=>z
 | bk ρ'=>cases a2
 | ct ρ'=>cases a2
theorem fnDC {P:xB}{w:World}{K:qm}{mg:Str->Option Value}{base:Heap}{x qual:Str}{st:Stmt}{f:Addr}{fd:xA}{N ps:List Str}{k:Nat}{own:List Nat}{fr:Bool}{GG:Gh->Prop}{g:Zb->M Out}
  (F:Fun K x qual st f fd) (S:FnScope N ps (ZK st))
  (hb:∀(A:xC) (outer:List Env) (s:Shared) (H:Hp) (E:XK),Room k (A.deeper (envOfC qual (ZK st) s.heap.objs.size f fd.code))->∀G,GG G->X0 (Vj ZV P w K mg base N qual (ZK st) f fd.code A outer s H E).nox G [] [] own fr (Wf st) g) :
  FnOk P w K mg base ZV (k+1) f fd ps (Yr ps.length fr GG (runB N.length ps.length g)):=by
 obtain⟨oc,od,kV,doc,pm,an,cdv,ct,osl,rfl,lk,hcd⟩:=F.ex;refine Zmt lk hcd S (λvs H Q E ⟨_,_,_,_,_,_,_,e,_⟩=>e) λA outer s H vs Q E hr h=>?_;obtain⟨G,Hf,ds,pn,d,pn',hG,el,e1,r,st',eF,k'⟩:=h;obtain⟨t,p,q⟩:=hb A outer s H E hr G hG;exact⟨t,p.nox,Zj2 (by have:=congrArg qaM S.pre;rw[qZ]at this;omega) q e1 r st' eF k'⟩
section
variable {X:Cx}{G:Gh}{P c:Addr}{q:Str}{k kl n:Nat}{x:Str}{fr frb:Bool}{F:List D->M D}{T:Nat->List D->M D}{t:Nat}{e1:Expr}{f1:Zb->M D}{r1:Bool}{params:Arguments}{scope:Scope}{lpos ppos pos:Pos}{XN N ps:List Str}{NS:List (Str×NameKind)}{cix:List Nat}
end
noncomputable def JE (mg:Str->Option Value)(h:Heap):Prop:=∃bm o,mg "__builtins__" = some (.ref bm)/\bm≠builtinsNs/\bm≠mainGlobals/\h.get? bm=some o/\o.cls=.type "module"/\o.dict=some builtinsNs/\o.data=.plain
theorem Ziu {P:xB}{w:World}{K:qm}{mg mb:Str->Option Value}{CX:XT}{k:Nat}{fa a:Addr}{fd:xA}{x:Str}{sp:Sp}{s₁:Shared}{vs:List Value}{ns:List Int}{tb:List (Addr×Addr)}
  (KX:K.In s₁.heap) (hns:s₁.heap.Ns mainGlobals mg) (hb:s₁.heap.Ns builtinsNs mb) (hbb:∀x:Str,x≠"__name__"->mb x=xj x) (hlim:s₁.heap.NoLimit) (hg:s₁.gens = #[])
  (hT:∀e∈tb,y4 s₁.heap e.1 e.2/\s₁.heap.get? e.2=some (qbi #[])) (hKt:PySem.W.noTabs K=true) (hbm:JE mg s₁.heap)
  (ha:s₁.heap.get? a=some { cls:=.type "list",data:=.seq vs.toArray }) (hi:IntsAre vs ns) (hl:ns.length<=xg) (hr:Room k callerA)
  (F:∀base:Heap,K.In base->base.Ns mainGlobals mg->(∀e∈tb,y4 base e.1 e.2)->JE mg base->FnOk P w K mg base CX k fa fd [x] sp) (hbind:∀(s:Shared) (u:Value),BindsTo s fd ⟨[u],[]⟩ [(x,u)])
  (hsp:∀H:Hp,ZA K H a (ns.map V.int)->(∀e∈tb,H e.2=some (.tbl #[]))->sp [.ref a] H (λv _=>v=.bl true) λ_ _ _=>False)
  (hCX:∀H e s',CX [] H s₁ (λ_ _ _=>False) e s'->False) :
  xo (xz P w) callerA (.call (.ref fa) ⟨[.ref a],[]⟩) (λr s'=>r=.ok (.ret (.bool true))/\OldK s₁.heap s'.heap/\s'.os=s₁.os/\AllBare s'.gens) s₁:=by
 have rv:=ZdQ hi;have lenV:=hi.length;have tabne:∀e∈tb,e.2≠a:=λe he z=>by
  have:=(hT e he).2;rw[z,ha]at this;cases this
 have noK:∀e∈tb,K.lookup e.2=none:=λe he=>by
  cases q:K.lookup e.2 with
  | none=>rfl
  | some o=>
   have h2:=yh.mp hKt (e.2,o) (PySem.W.mem_of_lookupK q);have e1:=KX _ _ q;rw[(hT e he).2]at e1
   cases e1
   exact absurd (show false=true from h2) yw
 have core:∀H:Hp,(∀b u,H b=some u->(b=a/\u=.frz { cls:=.type "list",data:=.seq vs.toArray } (.lst (ns.map V.int))/\K.lookup a=none)∨(u=.tbl #[]/\∃e∈tb,e.2=b))->ZA K H a (ns.map V.int)->(∀e∈tb,H e.2=some (.tbl #[]))->
   xo (xz P w) callerA (.call (.ref fa) ⟨[.ref a],[]⟩) (λr s'=>r=.ok (.ret (.bool true))/\OldK s₁.heap s'.heap/\s'.os=s₁.os/\AllBare s'.gens) s₁:=by
  intro H hO hS hTb;have hok:Yg P w H s₁.heap:=λb u e=>by
   rcases hO b u e with⟨rfl,rfl,_⟩ | ⟨rfl,e',he,rfl⟩
   ·exact⟨ha,by rw[qd];exact hl,vs,_,rv,ha⟩
   ·exact(hT e' he).2
  have base_of:∀{b:Addr} {o:Obj},s₁.heap.get? b=some o->H b=none->(W3 s₁.heap H).get? b=some o:=λe n=>Zi8 e n;have noA:∀{b:Addr} {o:Obj},s₁.heap.get? b=some o->(∀vs n,o.data≠.seq vs n)->(∀vs,o.data≠.fields vs∨o.cls≠.none)->H b=none:=λ{b o} e d1 d2=>by
   cases q:H b with
   | none=>rfl
   | some u=>
    rcases hO b u q with⟨rfl,_,_⟩ | ⟨_,e',he,rfl⟩
    ·rw[ha]at e;cases e;exact absurd rfl (d1 _ _)
    ·rw[(hT e' he).2]at e;cases e
     rcases d2 #[]with z | z
     ·exact absurd rfl z
     ·exact absurd rfl z
  have nsK:∀{b:Addr} {m:Str->Option Value},s₁.heap.Ns b m->(W3 s₁.heap H).Ns b m:=λ{b m} ⟨o,es,ep,e,d,r⟩=>⟨o,es,ep,base_of e (noA e (λ_ _ z=>by rw[d]at z;cases z) λ_=>.inl λz=>by rw[d]at z;cases z),d,r⟩;have hKb:K.In (W3 s₁.heap H):=λb o e=>base_of (KX b o e) (by
   cases q:H b with
   | none=>rfl
   | some u=>
    rcases hO b u q with⟨rfl,_,z⟩ | ⟨_,e',he,rfl⟩
    ·rw[z]at e;cases e
    ·rw[noK e' he]at e;cases e)
  have hM:Mod K mg (W3 s₁.heap H):=⟨hKb,nsK hns,⟨mb,nsK hb,hbb⟩,let ⟨mc,h1,h2⟩:=hlim;⟨mc,nsK h1,h2⟩⟩;have e0:Env0 P w K mg (W3 s₁.heap H) callerA [] s₁ H:=⟨rfl,hM,λb o e=>Zla e,Nat.le_of_eq (ZhU _ _),trivial,λb hb=>absurd (show b∈([]:List Addr)from hb) (by simp),hok,.of_eq hg⟩;have hCd:∀e∈tb,y4 (W3 s₁.heap H) e.1 e.2:=λe he=>by
   obtain⟨o,vs',file,tf,flags,tg,inF,text,tt,e1,r1,r2,r3⟩:=(hT e he).1;exact⟨o,vs',file,tf,flags,tg,inF,text,tt,base_of e1 (noA e1 (λ_ _ z=>by rw[r2]at z;cases z) λ_=>.inr (by rw[r1];nofun)),r1,r2,r3⟩
  have hBm:JE mg (W3 s₁.heap H):=by
   obtain⟨bm,o,e1,e2,e3,e4,e5,e6,e7⟩:=hbm;exact⟨bm,o,e1,e2,e3,base_of e4 (noA e4 (λ_ _ z=>by rw[e7]at z;cases z) λ_=>.inl λz=>by rw[e7]at z;cases z),e5,e6,e7⟩
  refine codeAny_mono ((F _ hKb (nsK hns) hCd hBm).run callerA [] s₁ H ⟨[.ref a],[]⟩ [.ref a] [.ref a] _ _ hr e0 (hbind s₁ (.ref a)) (.cons rfl .nil) (hsp H hS hTb)) λr s' h=>?_
  cases r with
  | error e=>exact(hCX H e s' h).elim
  | ok fl=>
   cases fl with
   | next=>exact yC h
   | brk=>exact yC h
   | cont=>exact yC h
   | ret u=>
    obtain⟨v,H',os,bare,un,hok',r',q⟩:=h;have q':v=.bl true:=q;subst q';obtain rfl:u=yP true:=r';refine⟨rfl,⟨λb o e=>?_,λb o e=>un.there b o e (by simp)⟩,os,bare⟩
    cases q:H b with
    | none=>exact .inl (un.keep b o e q (by intro z;exact absurd (show b∈([]:List Addr)from z) (by simp)) (by simp))
    | some u=>
     rcases hO b u q with⟨rfl,rfl,_⟩ | ⟨rfl,e',he,rfl⟩
     ·have z2:=un.frzs b _ _ q
      obtain⟨e1,_⟩:=hok b _ q;obtain⟨e2,_⟩:=hok' b _ z2;rw[e]at e1;cases e1;exact .inl e2
     ·obtain⟨more,z⟩:=un.tbls _ _ q
      have z2:s'.heap.get? e'.2=some (qbi (#[]++more)):=hok' _ _ z;have e1:=(hT e' he).2;rw[e]at e1;cases e1;exact .inr (.inl ⟨((hT e' he).1.tab (hT e' he).2).isCodeTable,rfl,#[],more,rfl,z2⟩)
 cases hk:K.lookup a with
 | some o=>
  have e:=KX a o hk;rw[ha]at e
  cases e
  refine core (λb=>open Classical in if ∃e∈tb,e.2=b then some (.tbl #[])else none) (λb u z=>?_) (.inr ⟨_,vs.toArray,_,hk,rfl,rfl,rfl,by rw[qJ,lenV];exact hl,by simpa using rv⟩) (λe he=>if_pos ⟨e,he,rfl⟩);by_cases h:∃e∈tb,e.2=b
  ·rw[if_pos h]at z;cases z;exact .inr ⟨rfl,h⟩
  ·rw[if_neg h]at z;cases z
 | none=>
  refine core (λb=>open Classical in if ∃e∈tb,e.2=b then some (.tbl #[])else if b=a then some (.frz { cls:=.type "list",data:=.seq vs.toArray } (.lst (ns.map V.int)))else none) (λb u z=>?_) (.inl (.inr ⟨{ cls:=.type "list",data:=.seq vs.toArray },?_⟩)) (λe he=>if_pos ⟨e,he,rfl⟩)
  ·by_cases h:∃e∈tb,e.2=b
   ·rw[if_pos h]at z;cases z;exact .inr ⟨rfl,h⟩
   ·rw[if_neg h]at z
    by_cases hb:b=a
    ·rw[if_pos hb]at z;cases z;exact .inl ⟨hb,rfl,hk⟩
    ·rw[if_neg hb]at z;cases z
  ·show(if ∃e∈tb,e.2=a then _ else _)=_
   rw[if_neg (λ⟨e,he,z⟩=>tabne e he z),if_pos rfl]
theorem Zj3 {l : PySem.W.OpenLaw}{n k : Nat}{q : xB}{loose : List Str}{XP : (Str -> Option Value) -> Heap -> Prop}{YP : World -> Heap -> Prop}{d : DefRec}{K : Params -> qm}{CX : World -> XT}{sp : World -> Sp}{x : Str}{tb : List (Str × Addr × Addr)}
    (hn : l.most = some n) (hn2 : n <= xg) (hdf : d.params.defaults = []) (hr : Room k callerA)
    (hY : ∀ (w : World) (h : Heap), YP w h -> (K w.params).In h)
    (hrec : ∀ e ∈ tb, ∃ d, (recsOf q).find? (λr => r.name == e.1) = some d) (htab : ∀ w : World, ∀ e ∈ tb, PySem.W.tabIn (K w.params) e.1 = some e.2) (hno : ∀ w : World, PySem.W.noTabs (K w.params) = true)
    (F : ∀ (w : World) (mg : Str -> Option Value) (fa : Addr) (h : Heap), (K w.params).In h -> h.Ns mainGlobals mg -> mg d.name = some (.ref fa) ->
      ∃ fd : xA, (∀ (s : Shared) (u : Value), BindsTo s fd ⟨[u], []⟩ [(x, u)]) /\
        ∀ base : Heap, (K w.params).In base -> base.Ns mainGlobals mg -> (∀ e ∈ tb, y4 base e.2.1 e.2.2) -> JE mg base -> FnOk l.prog w (K w.params) mg base (CX w) k fa fd [x] (sp w))
    (hsp : ∀ (w : World) (H : Hp) (a : Addr) (ns : List Int), ns.length <= n -> ZA (K w.params) H a (ns.map V.int) -> (∀ e ∈ tb, H e.2.2 = some (.tbl #[])) -> sp w [.ref a] H (λv _ => v = .bl true) λ_ _ _ => False)
    (hCX : ∀ (w : World) (H : Hp) (s : Shared) (e : Value) (s' : Shared), CX w [] H s (λ_ _ _ => False) e s' -> False) :
    qc0 q loose XP YP l.row.toRowW d [] (λf vs => qcR f vs) := by
  refine Att.attach_call hn hdf λw s₀ s₁ mg mb fa o pm cd doc a vs ns G Y ho hd hcd hmg hobj hints jO hg => ?_;have KX := hY w _ Y;obtain⟨fd, hb, hF⟩ := F w mg fa _ KX G.T.g hmg;have hT : ∀ e ∈ tb.map (·.2), y4 s₁.heap e.1 e.2 /\ s₁.heap.get? e.2 = some (qbi #[]) := λe he => by
    obtain⟨e', he', rfl⟩ := qu.mp he;obtain⟨d', hd'⟩ := hrec e' he';exact PySem.W.tab_of G.T KX hd' (htab w e' he')
  exact Ziu (tb := tb.map (·.2)) KX G.T.g G.T.b G.T.builtins G.T.nolimit hg hT (hno w) (let ⟨bm, ob, a, b, c, d, e, f⟩ := G.T.bmain; ⟨bm, ob, a, b, (λz => by
      obtain⟨o, es, ep, e', hd', _⟩ := G.T.g;rw[z, e'] at c; cases c; rw[hd'] at f; cases f), c, d, e, f⟩) hobj hints (zi jO hn2) hr
    (λbase h1 h2 h3 h4 => hF base h1 h2 (λe he => h3 e.2 (qaD (f := (·.2)) he)) h4) hb (λH hS hTb => hsp w H a ns jO hS λe he => hTb e.2 (qaD (f := (·.2)) he)) λH e s' => hCX w H s₁ e s'
end TF
namespace L2
section
variable {X:Cx}{jI:Qb}{σ:St}{H:Hp}{s:Shared}{h':Heap}
end
end L2
namespace TF
open L2
section
variable {X:Cx}{G:Gh}
end
section
variable {X:Cx}{G:Gh}
noncomputable def Xp (n:Int)(r:List Int):Int:=r.foldl max n
theorem ZlV (r:List Int):∀n,n<=Xp n r/\∀a∈r,a<=Xp n r:=by
 induction r with
 | nil=>intro n;exact⟨yO _,by simp⟩
 | cons b r ih=>
  intro n;obtain⟨h1,h2⟩:=ih (max n b);refine⟨?_,λa ha=>?_⟩
  ·show n<=Xp (max n b) r;omega
  ·show a<=Xp (max n b) r
   rcases qq.mp ha with rfl | ha
   ·omega
   ·exact h2 a ha
theorem Zj4 (r:List Int):∀n,Xp n r∈n::r:=by
 induction r with
 | nil=>intro n;simp[Xp]
 | cons b r ih=>
  intro n;have h:=ih (max n b);show Xp (max n b) r∈n::b::r;rcases qq.mp h with h | h
  ·rw[h]
   rcases Int.le_total n b with z | z
   ·rw[Int.max_eq_right z];simp
   ·rw[Int.max_eq_left z];simp
  ·exact qQ _ (qQ _ h)
theorem Zj5 {n M:Int}{r:List Int}(h1:M∈n::r)(h2:∀a∈n::r,a<=M):M=Xp n r:=by
 obtain⟨g1,g2⟩:=ZlV r n;have g3:=h2 _ (Zj4 r n);have g4:M<=Xp n r:=by
  rcases qq.mp h1 with h | h
  ·rw[h];exact g1
  ·exact g2 M h
 omega
noncomputable def V0:List D->Option D
 | [.lst ds]=>match ZM ds with | some (n::r)=>some (.int (Xp n r)) | _=>none
 | _=>none
theorem Ziv (hc:X.calm=true):Y6 X (.builtin "max") (λxs H Q=>∃p n r,xs=[.ref p]/\ZA X.K H p ((n::r).map V.int)/\Q (.int (Xp n r)) H):=by
 intro jI s σ H xs us Q I r h;obtain⟨p,n,rr,rfl,hp,q⟩:=h;obtain⟨u,rfl,ru⟩:=Xw r
 cases ru
 obtain⟨jK,rv,pl,hz⟩:=I.list hp;have hi:IntsAre jK (n::rr):=WS rv;obtain⟨xs,e⟩:=hi.allInts.items;have hns:n::rr=xs.toList.map (·.1):=by rw[<-hi.numsOf,<-nums_intItems,<-e]
 have hl:=pl.isList;rw[e]at hl;have hsz:0<xs.size:=by
  have h3:0<(n::rr).length:=by simp
  rw[hns,qd,qB]at h3;exact h3
 refine max_intList (I.ok.hd hc) hl hsz λv h' tk hv hk=>?_;obtain⟨t,rfl⟩:=intItems_at hv;obtain⟨h1,h2⟩:=argBest_gt (numAt xs) (xs.size-1);have e2:numAt xs (argBest (λi j=>decide (numAt xs i > numAt xs j)) (xs.size-1))=Xp n rr:=by
  refine Zj5 ?_ λa ha=>?_
  ·rw[hns,numAt_eq];exact getD_mem (by rw[qd,qB];omega)
  ·rw[hns]at ha
   obtain⟨j,hj,rfl⟩:=mem_getD ha;rw[qd,qB]at hj;rw[<-numAt_eq];exact h2 j (by omega)
 rw[e2];exact⟨.int (Xp n rr),H,I.kept (t':=tk) hk,⟨_,rfl⟩,q⟩
theorem Zbd (hc:X.calm=true):XX X G (.builtin "max") V0:=
 ⟨_,Ziv hc,λHf H s xs ds c Q e1 st r q k=>by
  match ds,q,r with
  | [.lst es],q,r=>
   have q:(match ZM es with | some (n::r)=>some (D.int (Xp n r)) | _=>none)=some c:=q
   cases he:ZM es with
   | none=>rw[he]at q;cases q
   | some ns=>
    cases ns with
    | nil=>rw[he]at q;cases q
    | cons n rr=>
     rw[he]at q
     cases q
     obtain⟨v,rfl,rv⟩:=ji r;obtain⟨p,vs,rfl,np,hp,rp⟩:=jb.mp rv;rw[WU he]at rp;rw[jn rp]at hp;exact⟨p,n,rr,rfl,ZA.of (e1 _ _ np hp),k _ Hf H (.refl e1) st (ja.mpr rfl) (.scal λz=>z)⟩⟩
end
theorem ZaM:∀{a b:List Int},a.Perm b->a.Pairwise (·<=·)->b.Pairwise (·<=·)->a=b
 | [],b,p,_,_=>(List.nil_perm.mp p).symm
 | x::a,[],p,_,_=>absurd p.length_eq (by simp)
 | x::a,y::b,p,ha,hb=>by
  have ha':=yf.mp ha;have hb':=yf.mp hb;have e:x=y:=by
   have h1:x∈y::b:=p.mem_iff.mp (by simp);have h2:y∈x::a:=p.mem_iff.mpr (by simp);rcases qq.mp h1 with h1 | h1
   ·exact h1
   ·rcases qq.mp h2 with h2 | h2
    ·exact h2.symm
    ·have:=hb'.1 x h1
     have:=ha'.1 y h2;omega
  subst e;rw[ZaM (qaL.cons_inv p) ha'.2 hb'.2]
noncomputable def Y7 (ns:List Int):List Int:=ns.mergeSort λa b=>decide (a<=b)
theorem Zbe (ns:List Int):(Y7 ns).Perm ns:=qc6 ns _
theorem ZeD (ns:List Int):(Y7 ns).Pairwise (·<=·):=by
 have h:=qcq (le:=λ(a b:Int)=>decide (a<=b)) (λa b c h1 h2=>by simp at h1 h2⊢;omega) (λa b=>by simp;omega) ns;exact h.imp λh=>by simpa using h
theorem JO {a ns:List Int}(p:a.Perm ns)(h:a.Pairwise (·<=·)):a=Y7 ns:=ZaM (p.trans (Zbe ns).symm) h (ZeD ns)
section
variable {X:Cx}{G:Gh}
theorem ZaD:∀{vs:List Value} {ns:List Int},IntsAre vs ns->Zu (ns.map V.int) vs
 | _,_,.nil=>.nil
 | _,_,.cons n t r=>.cons ⟨t,rfl⟩ (ZaD r)
theorem ZgD:Y6 X (.builtin "sorted") (λxs H Q=>∃(p:Addr) (ns:List Int),xs=[.ref p]/\ZA X.K H p (ns.map V.int)/\ns.length<64/\∀l,H l=none->Q (.ref l) (Zl H l (.lst ((Y7 ns).map V.int)))):=by
 intro jI s σ H xs us Q I r h;obtain⟨p,ns,rfl,hp,h64,q⟩:=h;obtain⟨u,rfl,ru⟩:=Xw r
 cases ru
 obtain⟨jK,rv,pl,hz⟩:=I.list hp;have hi:IntsAre jK ns:=WS rv;have hl:=rv.length;rw[qd]at hl;refine sorted_ints pl.isList hi (by omega) λout ns' a1 a2 a3=>?_;obtain⟨e,he⟩:=sortedAll_at s.heap jK out;have eo:out=out.toList.toArray:=by simp
 rw[eo]at he;have en:=JO a2 a3;subst en;have hle:s.heap.objs.size<=s.heap.objs.size+1:=qbV _;refine⟨.ref (s.heap.objs.size+1),_,I.laid (a:=s.heap.objs.size+1) (o:=.lst ((Y7 ns).map V.int)) (t':=s.toks) (λ_ _=>sortedAll_old) hle ⟨?_,out.toList,e,ZaD a1,he⟩,rfl,q _ (I.hok.fresh hle)⟩;rw[qd,(Zbe ns).length_eq,sizeLine_eq];omega
noncomputable def Uu:List D->Option D
 | [.lst ds]=>match ZM ds with | some ns=>if ns.length<64 then some (.lst ((Y7 ns).map .int))else none | none=>none
 | _=>none
theorem JU {Hf:Hp}:∀ns:List Int,Zh G Hf (ns.map D.int) (ns.map V.int)
 | []=>Zh.nil_iff.mpr rfl
 | n::ns=>.cons (ja.mpr rfl) (JU ns)
theorem Zbt:XX X G (.builtin "sorted") Uu:=
 ⟨_,ZgD,λHf H s xs ds c Q e1 st r q k=>by
  match ds,q,r with
  | [.lst es],q,r=>
   have q:(match ZM es with | some ns=>if ns.length<64 then some (D.lst ((Y7 ns).map .int))else none | none=>none)=some c:=q
   cases he:ZM es with
   | none=>rw[he]at q;cases q
   | some ns=>
    rw[he]at q;have q:(if ns.length<64 then some (D.lst ((Y7 ns).map .int))else none)=some c:=q;split at q
    ·rename_i h64
     cases q
     obtain⟨v,rfl,rv⟩:=ji r;obtain⟨p,vs,rfl,np,hp,rp⟩:=jb.mp rv;rw[WU he]at rp;rw[jn rp]at hp;refine⟨p,ns,rfl,ZA.of (e1 _ _ np hp),h64,λl hl=>?_⟩;have nf:=Gh.nofp st hl;have g2:=Gr.new (o:=.lst ((Y7 ns).map V.int)) e1 hl nf;exact k (.ref l) _ _ g2 (Gh.grow st hl) (jb.mpr ⟨l,_,rfl,nf,ZQ,JU _⟩) (Z2.mk e1 hl nf (JU _))
    ·cases q⟩
end
end TF
namespace HT
section
variable {prog:xB}{w:World}{A:xC}{E:xD}{s:Shared}
end
end HT
namespace TF
open L2
section
variable {X:Cx}{G:Gh}
end
end TF
namespace L2
open AutoSeq1 (wpAny_loadPart')
section
variable {prog:xB}{w:World}{A:xC}{E:xD}{s:Shared}
end
end L2
namespace TF
open L2
section
variable {X:Cx}{G:Gh}
end
section
variable {X:Cx}{G:Gh}
theorem Zj6 {i:Nat}{x:Str}{e:Expr}{pos p1 p2 p3:Pos}{r1 fr:Bool}{ob own:List Nat}{f:Zb->M D}(hi:i∈own)(hv:PE X (.Name x p1) (Yx i))(he:PD X G r1 e f)
  (hbase:xq (.Name x p1) "append" X.env (eval (.Name x p1) X.env)=eval (.Name x p1) X.env:=by rfl)
  (hfew:((backTo p3 (xh [e] X.env)).all (λx=>!x.1)&&(xp p3 (xi [] X.env)).all (λx=>x.1.isSome)
   && decide ([e].length+([]:List Keyword).length+(if ([]:List Keyword).isEmpty then 0 else 1)<30))=true:=by rfl)
  (hline:(p2.endLine==p3.line)=true:=by rfl) (hs:xh [e] X.env=(false,eval e X.env)::xh [] X.env:=by rfl)
  (hsw:xr (.Call (.Attribute (.Name x p1) "append" p2) [e] [] p3) none pos.line X.env=pure false:=by rfl) :
  YH X G ob own own fr (.Expr (.Call (.Attribute (.Name x p1) "append" p2) [e] [] p3) pos) (Xz i (fun ρ=>f (ZG own ρ))):=
 Ur hi he λte p=>VQ hv p hbase hfew hline hs hsw
end
theorem ZdY {α β:Type}(f:α->β):∀(l:List α) (i:Nat),(l.eraseIdx i).map f=(l.map f).eraseIdx i
 | [],i=>by simp
 | a::l,0=>by simp
 | a::l,i+1=>by simp[ZdY f l i]
end TF
namespace L2
section
variable {prog:xB}{w:World}{A:xC}{E:xD}{s:Shared}
theorem Zj7 {t:Addr}{vs:List Value}{Q:List Value->Shared->Prop}(ht:s.heap.IsTuple t vs.toArray)(k:Q vs { s with heap:=(s.heap.push (seqObj "list" #[] 0)).update s.heap.objs.size (zr (· ++ vs.toArray)) })(hz:vs.length<=xg):xf (xz prog w) A (collect (.ref t)) Q E s:=by
 obtain⟨o,ho,hc,n,hd⟩:=id ht;unfold collect;refine xa (wpAny_runValue (xm entry_proto_collect' ?_));show xf _ _ (do again (.builtin "list.__iadd__" ⟨[<-newList [],.ref t],[]⟩)) _ _ s;refine xa (xw (xb ⟨qbX _ (by decide +kernel),xm entry_list_iadd' ?_⟩));show xf _ _ (qae (.ref s.heap.objs.size) (.ref t) (.ref s.heap.objs.size)) _ _ { s with heap:=s.heap.push (seqObj "list" #[] 0) };unfold qae;have ho':(s.heap.push (seqObj "list" #[] 0)).get? t=some o:=qj _ ho;refine xa (wpAny_typeOf (T:="tuple") ⟨o,ho',hc⟩ ?_);have hb:(yp "tuple" == yp "tuple")=true:=by rfl
 rw[if_pos (by rw[hb];simp)];refine xa (listItems_at ho' hd ?_);refine xa (listItems_at (xs:=#[]) (n:=0) (qC _ rfl) rfl ?_);rw[if_neg (by simp)];refine xa (listUpdate_at (xs:=#[]) (n:=0) (qC _ rfl) rfl ?_ (zC _) (by show(#[]++vs.toArray).size<=xg+1;simp only[Array.size_append,qJ,qaJ];omega));refine xb ?_;show xf (xz prog w) A (do let o<-load s.heap.objs.size;match o.data with | .seq xs _=>pure xs.toList | _=>unsupported "internal:collect") Q E { s with heap:=(s.heap.push (seqObj "list" #[] 0)).update s.heap.objs.size (zr (· ++ vs.toArray)) };refine xa (wpAny_load (get?_update_seq (qC _ rfl) _) ?_);show xf _ _ (pure ((#[]:Array Value)++vs.toArray).toList) Q E _;rw[show((#[]:Array Value)++vs.toArray).toList=vs by simp];exact xb k
theorem sortedT {t:Addr}{vs:List Value}{ns:List Int}{Q:xD}(ht:s.heap.IsTuple t vs.toArray)(hI:IntsAre vs ns)(h64:vs.length<64)
  (k:∀(out:Array Value) (ns':List Int),IntsAre out.toList ns'->ns'.Perm ns->ns'.Pairwise (·<=·)->Q (.ref (s.heap.objs.size+1)) { s with heap:=sortedAll s.heap vs out }):xf (xz prog w) A (call (.builtin "sorted") [.ref t]) Q E s:=by
 refine qa6 kind_sorted plain_sorted entry_sorted (args_sorted1 _) ?_;unfold Builtin.«sorted»;refine xa (m:=checkCount "sorted" 1 1 _) (xb ?_);refine xa (Zj7 ht ?_ (by rw[sizeLine_eq];omega));refine xa (xw ?_);have z1:((s.heap.push (seqObj "list" #[] 0)).update s.heap.objs.size (zr (· ++ vs.toArray))).objs.size=s.heap.objs.size+1:=by rw[Heap.size_update,size_push']
 have g1:(((s.heap.push (seqObj "list" #[] 0)).update s.heap.objs.size (zr (· ++ vs.toArray))).push (seqObj "list" vs.toArray 0)).get? (s.heap.objs.size+1)=some (seqObj "list" vs.toArray 0):=by rw[<-z1];exact qC _ rfl
 show xf _ _ _ _ _ { s with heap:=((s.heap.push (seqObj "list" #[] 0)).update s.heap.objs.size (zr (· ++ vs.toArray))).push (seqObj "list" vs.toArray 0) };rw[z1];refine xa (xu (wpAny_call_entry slot_list_sort ⟨_,g1,rfl⟩ entry_list_sort (list_sort_tree g1 hI h64 λout ns' a1 a2 a3=>⟨_,rfl,?_⟩) (args_list_sort _)));exact xb ⟨_,rfl,k out ns' a1 a2 a3⟩
end
end L2
namespace TF
open L2
section
variable {X:Cx}{G:Gh}
theorem Zfz:Y6 X (.builtin "sorted") (λxs H Q=>∃(p:Addr) (ns:List Int),xs=[.ref p]/\ZH X.K H p (ns.map V.int)/\ns.length<64/\∀l,H l=none->Q (.ref l) (Zl H l (.lst ((Y7 ns).map V.int)))):=by
 intro jI s σ H xs us Q I r h;obtain⟨p,ns,rfl,hp,h64,q⟩:=h;obtain⟨u,rfl,ru⟩:=Xw r
 cases ru
 obtain⟨jK,rv,pl,hz⟩:=I.tuple hp;have hi:IntsAre jK ns:=WS rv;have hl:=rv.length;rw[qd]at hl;refine sortedT (show s.heap.IsTuple p jK.toArray from pl) hi (by omega) λout ns' a1 a2 a3=>?_;obtain⟨e,he⟩:=sortedAll_at s.heap jK out;have eo:out=out.toList.toArray:=by simp
 rw[eo]at he;have en:=JO a2 a3;subst en;have hle:s.heap.objs.size<=s.heap.objs.size+1:=qbV _;refine⟨.ref (s.heap.objs.size+1),_,I.laid (a:=s.heap.objs.size+1) (o:=.lst ((Y7 ns).map V.int)) (t':=s.toks) (λ_ _=>sortedAll_old) hle ⟨?_,out.toList,e,ZaD a1,he⟩,rfl,q _ (I.hok.fresh hle)⟩;rw[qd,(Zbe ns).length_eq,sizeLine_eq];omega
noncomputable def Zc1:List D->Option D
 | [.tup ds]=>match ZM ds with | some ns=>if ns.length<64 then some (.lst ((Y7 ns).map .int))else none | none=>none
 | _=>none
theorem ZeE:XX X G (.builtin "sorted") Zc1:=
 ⟨_,Zfz,λHf H s xs ds c Q e1 st r q k=>by
  match ds,q,r with
  | [.tup es],q,r=>
   have q:(match ZM es with | some ns=>if ns.length<64 then some (D.lst ((Y7 ns).map .int))else none | none=>none)=some c:=q
   cases he:ZM es with
   | none=>rw[he]at q;cases q
   | some ns=>
    rw[he]at q;have q:(if ns.length<64 then some (D.lst ((Y7 ns).map .int))else none)=some c:=q;split at q
    ·rename_i h64
     cases q
     obtain⟨v,rfl,rv⟩:=ji r;obtain⟨p,vs,rfl,np,hp,rp⟩:=jc.mp rv;rw[WU he]at rp;rw[jn rp]at hp;refine⟨p,ns,rfl,ZH.of (e1 _ _ np hp),h64,λl hl=>?_⟩;have nf:=Gh.nofp st hl;have g2:=Gr.new (o:=.lst ((Y7 ns).map V.int)) e1 hl nf;exact k (.ref l) _ _ g2 (Gh.grow st hl) (jb.mpr ⟨l,_,rfl,nf,ZQ,JU _⟩) (Z2.mk e1 hl nf (JU _))
    ·cases q⟩
end
end TF
namespace L2
end L2
namespace TF
open L2
section
variable {X:Cx}{G:Gh}
end
end TF
namespace L2
section
variable {prog:xB}{w:World}{A:xC}{E:xD}{s:Shared}{o:Obj}{es:Array DictEntry}{d it:Addr}{ep i:Nat}
end
section
variable {X:Cx}{tg:Expr}
end
end L2
namespace TF
open L2
section
variable {X:Cx}{G:Gh}
end
end TF
namespace L2
section
variable {prog:xB}{w:World}{A:xC}{E:xD}{s:Shared}{z TI TO i1 i2:Addr}{f1 f2:List Addr}{n1 n2 k:Nat}{P1 P2:Nat->Value->Prop}{S1 S2:Nat->Heap->Prop}{a b:Value}
end
section
variable {prog:xB}{w:World}{A:xC}{E:xD}{s:Shared}
end
end L2
namespace TF
open L2
section
variable {X:Cx}{G:Gh}
end
end TF
namespace TS
open PySem.W
section
variable {lt:Nat->Nat->Bool}{n:Nat}{p q:Array Nat}
end
noncomputable def Yq:List Int->List Int->Bool
 | [],[]=>false
 | [],_::_=>true
 | _::_,[]=>false
 | a::as,b::bs=>if a=b then Yq as bs else decide (a<b)
theorem Zc2:∀a,Yq a a=false
 | []=>rfl
 | a::as=>by unfold Yq;rw[if_pos rfl];exact Zc2 as
theorem ZcE:∀a b c,Yq a b=true->Yq b c=true->Yq a c=true
 | [],[],_,h,_=>by cases h
 | [],_::_,[],_,h=>by cases h
 | [],_::_,_::_,_,_=>rfl
 | _::_,[],_,h,_=>by cases h
 | _::_,_::_,[],_,h=>by cases h
 | a::as,b::bs,c::cs,h1,h2=>by
  unfold Yq at h1 h2⊢;split at h1
  ·rename_i e;subst e
   split at h2
   ·rename_i e;subst e;rw[if_pos rfl];exact ZcE as bs cs h1 h2
   ·rename_i e;rw[if_neg e];exact h2
  ·rename_i e1
   split at h2
   ·rename_i e;subst e;rw[if_neg e1];exact h1
   ·rename_i e2
    simp at h1 h2;rw[if_neg (by omega)];simp;omega
theorem J9:∀a b,a≠b->Yq a b=false->Yq b a=true
 | [],[],n,_=>absurd rfl n
 | [],_::_,_,h=>by cases h
 | _::_,[],_,_=>rfl
 | a::as,b::bs,n,h=>by
  unfold Yq at h⊢;split at h
  ·rename_i e;subst e;rw[if_pos rfl]
   exact J9 as bs (λz=>n (by rw[z])) h
  ·rename_i e
   simp at h;rw[if_neg (zH e)];simp;omega
theorem ZfA {a b:List Int}(h:Yq a b=true):Yq b a=false:=by
 cases e:Yq b a with
 | false=>rfl
 | true=>have:=ZcE _ _ _ h e;rw[Zc2]at this;cases this
noncomputable def Xl (a b:List Int):Bool:=!Yq b a
theorem Zj8 {a b:List Int}(h1:Xl a b=true)(h2:Xl b a=true):a=b:=by
 unfold Xl at h1 h2;simp at h1 h2;by_cases e:a=b
 ·exact e
 ·rw[J9 a b e h2]at h1;cases h1
theorem Znz (a b c:List Int)(h1:Xl a b=true)(h2:Xl b c=true):Xl a c=true:=by
 unfold Xl at h1 h2⊢;simp at h1 h2⊢;by_cases e1:a=b
 ·subst e1;exact h2
 ·by_cases e2:b=c
  ·subst e2;exact h1
  ·exact ZfA (ZcE _ _ _ (J9 b a (zH e1) h1) (J9 c b (zH e2) h2))
theorem ZnA (a b:List Int):(Xl a b||Xl b a)=true:=by
 unfold Xl
 cases e:Yq b a with
 | false=>rfl
 | true=>rw[ZfA e];rfl
theorem Zc3:∀{a b:List (List Int)},a.Perm b->a.Pairwise (λx y=>Xl x y=true)->b.Pairwise (λx y=>Xl x y=true)->a=b
 | [],b,p,_,_=>(List.nil_perm.mp p).symm
 | x::a,[],p,_,_=>absurd p.length_eq (by simp)
 | x::a,y::b,p,ha,hb=>by
  have ha':=yf.mp ha;have hb':=yf.mp hb;have e:x=y:=by
   have h1:x∈y::b:=p.mem_iff.mp (by simp);have h2:y∈x::a:=p.mem_iff.mpr (by simp);rcases qq.mp h1 with h1 | h1
   ·exact h1
   ·rcases qq.mp h2 with h2 | h2
    ·exact h2.symm
    ·exact Zj8 (ha'.1 y h2) (hb'.1 x h1)
  subst e;rw[Zc3 (qaL.cons_inv p) ha'.2 hb'.2]
noncomputable def YG (jM:List (List Int)):List (List Int):=jM.mergeSort Xl
theorem Zc4 (jM:List (List Int)):(YG jM).Perm jM:=qc6 jM _
theorem Zbu (jM:List (List Int)):(YG jM).Pairwise (λx y=>Xl x y=true):=qcq Znz ZnA jM
theorem Zbf {a jM:List (List Int)}(p:a.Perm jM)(h:a.Pairwise (λx y=>Xl x y=true)):a=YG jM:=Zc3 (p.trans (Zc4 jM).symm) h (Zbu jM)
theorem ZaN {a b:List (List Int)}(p:a.Perm b):YG a=YG b:=Zbf ((Zc4 a).trans p) (Zbu a)
noncomputable def Yo (h:Heap)(v:Value)(ns:List Int):Prop:=∃a xs,v=.ref a/\h.IsTuple a (yT xs)/\IntsAre xs ns
section
variable {prog:xB}{w:World}{A:xC}{E:xD}{s:Shared}
theorem ZmD {fin:Bool}{Q:Bool->Shared->Prop}:∀{as bs:List Int} {xs ys:List Value} (i:Nat),IntsAre xs as->IntsAre ys bs->fin=decide (as.length<bs.length)->Q (Yq as bs) s->KatLex prog w A true fin Q (xs.zip ys) i s
 | [],[],_,_,i,.nil,.nil,e,h=>by subst e;exact kat_nil h
 | [],_::_,_,_,i,.nil,.cons _ _ _,e,h=>by subst e;exact kat_nil h
 | _::_,[],_,_,i,.cons _ _ _,.nil,e,h=>by subst e;exact kat_nil h
 | a::as,b::bs,_,_,i,.cons _ t hx,.cons _ u hy,e,h=>by
  unfold Yq at h;refine kat_cons (wpAny_eqBool_int ?_);by_cases q:a=b
  ·rw[if_pos q]at h
   rw[show(a==b)=true by simp[q]];exact kat_yes (ZmD (i+1) hx hy (by rw[e];simp) h)
  ·rw[if_neg q]at h
   rw[show(a==b)=false by simp[q]];refine kat_no ?_;by_cases hi:i=0
   ·subst hi
    exact oneLt_int h
   ·rw[show(true&&i==0)=false by simp[hi]]
    exact kat_one _ _ (lt_int h)
theorem Zot {x y:Value}{as bs:List Int}{C:Bool->Shared->Prop}(hx:Yo s.heap x as)(hy:Yo s.heap y bs)(h:C (Yq as bs) s):xf (xz prog w) A (keyLt' (tuples' true) x y) C E s:=by
 obtain⟨a,xs,rfl,⟨o,ho,hc,n,hd⟩,ix⟩:=hx;obtain⟨b,ys,rfl,⟨o',ho',hc',n',hd'⟩,iy⟩:=hy;refine kat_lt ho hd ho' hd' ?_;have e:decide ((yT xs).size<(yT ys).size)=decide (as.length<bs.length):=by rw[qJ,qJ,ix.length,iy.length]
 exact ZmD 0 ix iy e h
theorem Zj9 {h:Heap}:∀{vs:List Value} {jM:List (List Int)},Paired (Yo h) vs jM->(∀ns∈jM,ns≠[])->∃fs,KatTups h vs fs/\fs.length=vs.length/\∀v∈fs,∃n t,v=qcw n t
 | _,_,.nil,_=>⟨[],.nil,rfl,λ_ z=>by simp at z⟩
 | _,_,.cons (a:=v) (b:=ns) hv r,hne=>by
  obtain⟨fs,h1,h2,h3⟩:=Zj9 r λns' m=>hne ns' (qQ _ m);obtain⟨a,xs,rfl,⟨o,ho,hc,n,hd⟩,ix⟩:=hv
  cases ix with
  | nil=>exact absurd rfl (hne [] (by simp))
  | cons m t r'=>
   refine⟨.int m t::fs,.cons ho hc hd (by simp) h1,by simp[h2],λv hv=>?_⟩;rcases qq.mp hv with rfl | hv
   ·exact⟨m,t,rfl⟩
   ·exact h3 v hv
theorem ZnB {vs:List Value}{jM:List (List Int)}{Q:SortKind->Shared->Prop}(h:Paired (Yo s.heap) vs jM)(hne:∀ns∈jM,ns≠[])(h0:0<vs.length)(q:Q (tuples' true) s):xf (xz prog w) A (keyKind' vs.toArray) Q E s:=by
 obtain⟨fs,h1,h2,h3⟩:=Zj9 h hne;refine kat_kind (T:=.type "int") h1 (by omega) (λv hv=>?_) rfl ?_
 ·obtain⟨n,t,rfl⟩:=h3 v hv
  exact Looks.of_pure rfl
 ·exact q
theorem Yo.at {h h':Heap}{v:Value}{ns:List Int}{b:Addr}(k:∀c o,c≠b->h.get? c=some o->h'.get? c=some o)(hb:∃o,h.get? b=some o/\o.cls=.type "list")(x:Yo h v ns):Yo h' v ns:=by
 obtain⟨a,xs,e,⟨o,ho,hc,r⟩,i⟩:=x;refine⟨a,xs,e,⟨o,k a o (λz=>?_) ho,hc,r⟩,i⟩;obtain⟨o',h1,h2⟩:=hb;rw[z,h1]at ho;cases ho;rw[h2]at hc;exact absurd (yp.inj hc) (by decide)
theorem jv {α β:Type}{F:α->β->Prop}:∀{l:List α} {r:List β} {i:Nat} (d:α) (d':β),Paired F l r->i<l.length->F (l.getD i d) (r.getD i d')
 | _,_,i,_,_,.nil,e=>absurd e (by simp)
 | _,_,0,_,_,.cons h t,e=>h
 | _,_,i+1,d,d',.cons h t,e=>by
  have:=jv d d' t (i:=i) (by simpa using e);simpa using this
theorem range_getD {α:Type}(vs:List α)(d:α):((qk vs.length).map λi=>vs.getD i d)=vs:=by
 refine List.ext_getElem (by simp) λi h1 h2=>?_;simp[h2]
end
section
variable {prog:xB}{w:World}{A:xC}{E:xD}{s:Shared}
end
theorem Paired.pick {α β:Type}{F:α->β->Prop}{l:List α}{r:List β}(d:α)(d':β)(h:Paired F l r):∀(ix:List Nat),(∀i∈ix,i<l.length)->Paired F (ix.map λi=>l.getD i d) (ix.map λi=>r.getD i d')
 | [],_=>.nil
 | i::ix,hb=>.cons (jv d d' h (hb i (by simp))) (Paired.pick d d' h ix λj m=>hb j (qQ _ m))
end TS
namespace TF
open L2 TS
section
variable {X:Cx}{G:Gh}
theorem ZbR {jI:Qb}{s:Shared}{σ:St}{H:Hp}{T:V->List Int->Prop}(I:Inv X jI σ H s)(hT:∀v ns,T v ns->∃a,v=.ref a/\ZH X.K H a (ns.map V.int)):∀{vs:List V} {jK:List Value} {jM:List (List Int)},Zu vs jK->Paired T vs jM->Paired (Yo s.heap) jK jM
 | _,_,_,.nil,.nil=>.nil
 | _,_,_,.cons r rr,.cons t tt=>by
  refine .cons ?_ (ZbR I hT rr tt);obtain⟨a,rfl,hq⟩:=hT _ _ t
  cases r
  obtain⟨xs,rv,pl,hz⟩:=I.tuple hq;exact⟨a,xs,rfl,show s.heap.IsTuple a xs.toArray from pl,WS rv⟩
noncomputable def Y9 (ns:List Int):D:=.tup (ns.map .int)
noncomputable def WG:List D->Option (List (List Int))
 | []=>some []
 | .tup ds::r=>match ZM ds,WG r with | some ns,some jM=>some (ns::jM) | _,_=>none
 | _::_=>none
theorem Zbg:∀jM:List (List Int),WG (jM.map Y9)=some jM
 | []=>rfl
 | ns::jM=>by
  show(match ZM (ns.map D.int),WG (jM.map Y9)with | some ns,some jM=>some (ns::jM) | _,_=>none)=_;rw[JL,Zbg jM]
theorem ZbS:∀{ds:List D} {jM:List (List Int)},WG ds=some jM->ds=jM.map Y9
 | [],jM,h=>by
  have h:some []=some jM:=h
  cases h;rfl
 | d::r,jM,h=>by
  cases d with
  | tup ds=>
   have h:(match ZM ds,WG r with | some ns,some jM=>some (ns::jM) | _,_=>none)=some jM:=h
   cases e1:ZM ds with
   | none=>rw[e1]at h;cases h
   | some ns=>
    cases e2:WG r with
    | none=>rw[e1,e2]at h;cases h
    | some ms=>
     rw[e1,e2]at h;cases h;rw[zc,<-ZbS e2];unfold Y9;rw[<-WU e1]
  | _=>cases h
theorem ZbT {Hf:Hp}:∀{jM:List (List Int)} {vs:List V},Zh G Hf (jM.map Y9) vs->Paired (λv ns=>Zi G Hf (Y9 ns) v) vs jM
 | [],vs,h=>by
  rw[Zh.nil_iff.mp h];exact .nil
 | ns::jM,vs,h=>by
  obtain⟨v,r,rfl,h1,h2⟩:=jd.mp h;exact .cons h1 (ZbT h2)
theorem ZbU {Hf:Hp}:∀{jM:List (List Int)} {vs:List V},Paired (λv ns=>Zi G Hf (Y9 ns) v) vs jM->Zh G Hf (jM.map Y9) vs
 | _,_,.nil=>Zh.nil_iff.mpr rfl
 | _,_,.cons h t=>.cons h (ZbU t)
end
end TF
namespace TF
open L2
section
variable {X:Cx}{G:Gh}{own:List Nat}{fr:Bool}
end
section
variable {X:Cx}{G:Gh}
end
section
variable {X:Cx}{G:Gh}{ob:List Nat}{fr:Bool}
end
section
variable {X:Cx}{G:Gh}{ob own:List Nat}{fr:Bool}
noncomputable def Jg (c:Zb->M Bool)(g:Zb->M Out):Nat->Zb->M Out
 | 0,_=>ZE
 | n+1,ρ=>Zp (c ρ) λb=>if b=true then Zp (g ρ) λo=>match o with | .nx ρ2=>Jg c g n ρ2 | .ct ρ2=>Jg c g n ρ2 | .bk ρ2=>Zy (.nx ρ2) | .rt d=>Zy (.rt d)else Zy (.nx ρ)
noncomputable def Ji (n:Nat)(c:Zb->M Bool)(g:Zb->M Out):Zb->M Out:=Jg c g n
theorem ZdZ {n:Nat}{c:Expr}{body:List Stmt}{pos:Pos}{fc:Zb->M Bool}{g:Zb->M Out}(hp:PassesOwn (xz X.prog X.w) X.A X.env X.xe)(hc:XU X G c fc)(hb:X0 X G own own own fr body g):YH X G ob own own fr (.While c body [] pos) (Ji n fc g):=by
 obtain⟨tc,pc,qc⟩:=hc;obtain⟨tb,pb,qb⟩:=hb;refine⟨_,Zjb hp pc pb,λkn jR H0 σ H ρ s out s' E ⟨Hf,j⟩ st e po=>?_⟩;refine⟨λm σ2 H2=>∃ρ2 s2,J G own kn jR H0 σ2 H2 ρ2/\G.st s2 H2/\Jg fc g m ρ2 s2=some (out,s'),⟨n,ρ,s,⟨Hf,j⟩,st,e⟩,?_⟩;rintro m σ2 H2 ⟨ρ2,s2,⟨jZ,j2⟩,jT,eq2⟩
 cases m with
 | zero=>cases eq2
 | succ m=>
  obtain⟨b,s3,a1,a2⟩:=ZC eq2;refine qc σ2 _ H2 ρ2 s2 b s3 _ Um j2.envB jT a1 λHf' H' g' st'=>?_;obtain⟨F,j',fF,q1,q2⟩:=j2.growB g'
  cases b with
  | false=>
   obtain⟨rfl,rfl⟩:=ZN a2;exact V4 (po σ2 H' ⟨F,j'⟩ st')
  | true=>
   rw[if_pos rfl]at a2;obtain⟨o,s4,b3,b4⟩:=ZC a2;refine V5 ⟨fun σ' H'=>∃ρ5 s5,J G own kn jR H0 σ' H' ρ5/\G.st s5 H'/\Jg fc g m ρ5 s5=some (out,s'),fun σ' H' h=>⟨m,yY m,h⟩,?_⟩;refine qb kn jR H0 σ2 H' ρ2 s3 o s4 _ ⟨F,j'⟩ st' b3 ?_
   cases o with
   | nx ρ5=>exact fun σ5 H5 j5 st5=>⟨ρ5,s4,j5,st5,b4⟩
   | ct ρ5=>exact fun σ5 H5 j5 st5=>⟨ρ5,s4,j5,st5,b4⟩
   | bk ρ5=>
    obtain⟨rfl,rfl⟩:=ZN b4;exact fun σ5 H5 j5 st5=>po σ5 H5 j5 st5
   | rt d=>
    obtain⟨rfl,rfl⟩:=ZN b4;exact po
end
theorem jz {n:Nat}{c:Zb->M Bool}{g:Zb->M Out}{ρ:Zb}{s:Pn}{Q:Out->Pn->Prop}(I:Nat->Zb->Pn->Prop)(m:Nat)(hm:m<n)(h0:I m ρ s)
  (step:∀m ρ s,I m ρ s->Ok (c ρ) s λb s1=>if b=true then Ok (g ρ) s1 λo s2=>match o with | .nx ρ'=>∃m',m'<m/\I m' ρ' s2 | .ct ρ'=>∃m',m'<m/\I m' ρ' s2 | .bk ρ'=>Q (.nx ρ') s2 | .rt d=>Q (.rt d) s2 else Q (.nx ρ) s1):Ok (Ji n c g ρ) s Q:=by
 show Ok (Jg c g n ρ) s Q
 induction n generalizing m ρ s with
 | zero=>omega
 | succ n ih=>
  refine Ok.bind ((step m ρ s h0).mono λb s1 q=>?_)
  cases b with
  | false=>exact .ret (by simpa using q)
  | true=>
   rw[if_pos rfl]at q;rw[if_pos rfl];refine Ok.bind (q.mono λo s2 q=>?_)
   cases o with
   | nx ρ'=>obtain⟨m',hm',h'⟩:=q;exact ih m' (by omega) h'
   | ct ρ'=>obtain⟨m',hm',h'⟩:=q;exact ih m' (by omega) h'
   | bk ρ'=>exact .ret q
   | rt d=>exact .ret q
section
variable {X:Cx}{G:Gh}{ob own:List Nat}{fr:Bool}
noncomputable def ZnC (K:qm):V->List V->Hp->VK->Prop:=λx vs H Q=>∃(p:Addr) (ns:List Int) (k:Int),x=.ref p/\vs=[.int k]/\ZA K H p (ns.map V.int)/\k∈ns/\Q (.int (ns.idxOf k:Nat)) H
theorem Zka : MtR X "list.index" (ZnC X.K) := by
  intro jI s σ H x xs v us Q I rx rv h;obtain⟨p, ns, k, rfl, rfl, hp, hk, q⟩ := h
  cases rx
  obtain⟨u, rfl, t, rfl⟩ := Xw rv;obtain⟨jK, r2, pl, hz⟩ := I.list hp;have hi : IntsAre jK ns := WS r2;obtain⟨⟨c0, d0, dat, sl0⟩, hob, hcl, n0, hdat⟩ := id pl.isList;simp only at hcl hdat;subst hcl hdat;have l1 := hi.length;have l2 : ns.idxOf k < ns.length := by rw[qbe]; exact hk
  have l3 : ns.length <= xg := by simpa using hz
  have l4 := Bf;have go := SeqAt.list_indexAt p jK.toArray n0 d0 sl0 (.int k t) (isInt k) (ns.idxOf k) (by simpa[l1] using l2) (by omega)
    (by show isInt k jK[ns.idxOf k] = true
        rw[isInt_at k hi (ns.idxOf k) (by omega) l2]; simpa using List.getElem_idxOf l2)
    (λj hjs hlt => by
        show isInt k jK[j] = false;rw[isInt_at k hi j (by simpa using hjs) (by have : j < ns.idxOf k := hlt; omega)]; exact ne_of_lt_idxOf hlt _)
  refine call_meets qcr ⟨_, hob, rfl⟩ PySem.F.entry_list_index (PySem.F.args_list_index_2 _ _) go ⟨hob, λy hy => (eq_isInt k t hi y (by simpa using hy)).at _ _, ?_⟩;exact⟨.int (ns.idxOf k : Nat), H, I.tok _, ⟨_, rfl⟩, q⟩
noncomputable def ZeF:D->D->Option D
 | .lst ds,.int k=>(ZM ds).bind λns=>if k∈ns then some (.int (ns.idxOf k:Nat))else none
 | _,_=>none
theorem Zkb {o e:Expr}{ap cp:Pos}{r1 r2:Bool}{fo fe:Zb->M D}(ho:PD X G r1 o fo)(he:PD X G r2 e fe)
  (hbase:xq o "index" X.env (eval o X.env)=eval o X.env:=by rfl)
  (hfew:((backTo cp (xh [e] X.env)).all (λx=>!x.1)&&(xp cp (xi [] X.env)).all (λx=>x.1.isSome)
   && decide ([e].length+([]:List Keyword).length+(if ([]:List Keyword).isEmpty then 0 else 1)<30))=true:=by rfl)
  (hline:(ap.endLine==cp.line)=true:=by rfl) (hs:xh [e] X.env=(false,eval e X.env)::xh [] X.env:=by rfl) :
  PD X G true (.Call (.Attribute o "index" ap) [e] [] cp) (Ze ZeF fo fe):=by
 obtain⟨to,po,qo⟩:=ho.drop;obtain⟨te,pe,qe⟩:=he.drop;refine⟨_,Zjj qbn qcr PySem.F.type_list_index Zka po (YK pe Xi hs) hbase hfew hline hs rfl,fun σ Hf H ρ s d s' Q e1 e2 e3 e4 k=>?_⟩;obtain⟨da,s1,a1,a2⟩:=ZC e4;obtain⟨db,s2,a3,a4⟩:=ZC a2;obtain⟨a5,rfl⟩:=WV a4;refine qo σ Hf H ρ s da s1 _ e1 e2 e3 a1 λx jU H1 g1 jW r1=>?_
 match da,db,a5,r1,a3 with
 | .lst ds,.int kk,a5,r1,a3=>
  have a5:((ZM ds).bind λns=>if kk∈ns then some (D.int (ns.idxOf kk:Nat))else none)=some d:=a5
  cases he:ZM ds with
  | none=>rw[he]at a5;cases a5
  | some ns=>
   rw[he]at a5;have a5:(if kk∈ns then some (D.int (ns.idxOf kk:Nat))else none)=some d:=a5;split at a5
   ·rename_i hmem
    cases a5
    obtain⟨p,vs,rfl,np,hp,rp⟩:=jb.mp r1;refine⟨.inl ⟨rfl,vs,ZA.of (g1.fh _ _ np hp)⟩,?_⟩;refine qe σ jU H1 ρ s1 _ _ _ g1.fh (e2.ext g1.ff) jW a3 λy jZ H2 g2 jT r2=>?_;rw[WU he]at rp;rw[jn rp]at hp
    cases (ja.mp r2)
    exact⟨p,ns,kk,rfl,rfl,ZA.of (g2.fh _ _ np (g2.ff _ _ np hp)),hmem,k _ jZ H2 (g1.trans g2) jT (ja.mpr rfl) λ_=>.scal λz=>z⟩
   ·cases a5
end
section
variable {X:Cx}{G:Gh}{ob own:List Nat}{fr:Bool}
theorem Zkc {pos:Pos}:PD X G true (.Dict [] [] pos) (dC (.du [])):=by
 refine⟨_,Zjs,fun σ Hf H ρ s d s' Q e1 e2 e3 e4 k=>?_⟩;obtain⟨rfl,rfl⟩:=ZN e4;intro p hp;have nf:=Gh.nofp e3 hp;have g2:=Gr.new (o:=.dT []) e1 hp nf;exact k (.ref p) _ _ g2 (Gh.grow e3 hp) (jl.mpr ⟨p,rfl,nf,ZQ⟩) λ_ a ea _=>by cases ea;exact⟨hp,λds ed=>by cases ed⟩
noncomputable def keyT:D->Option (List Zt)
 | .tup ks=>XI ks
 | _=>none
noncomputable def Bw (i:Nat)(fx fv:Zb->M D):Zb->M Out:=fun ρ=>Zp (fv ρ) λv=>Zp (fx ρ) λx=>match (ρ[i]?).bind id with
 | some (.du kvs)=>match keyT x,Wo v with | some k,some w=>if kvs.length<xg then Zy (.nx (ρ.set i (some (.du (Yp kvs k w)))))else ZE | _,_=>ZE
 | _=>ZE
theorem Ziw {r1 r2:Bool}{i:Nat}{x:Str}{ex ev:Expr}{p1 p2 pos:Pos}{fx fv:Zb->M D}{tx tv:TE}(hu:X.A.units+1<cLine)(hi:i∈own)(hn:PE X (.Name x p1) (Yx i))(px:PE X ex tx)(yx:VH G own r1 tx fx)(pv':PE X ev tv)(yv:VH G own r2 tv fv)
  (hs:xr ev (some (.Subscript (.Name x p1) ex p2)) pos.line X.env=pure false) :
  YH X G ob own own fr (.Assign [.Subscript (.Name x p1) ex p2] ev pos) (Bw i fx fv):=by
 refine⟨_,Zlp hu hn px pv' hs,λkn jR H0 σ H ρ s out s' E ⟨Hf,j⟩ st e po=>?_⟩;obtain⟨v,s1,a1,a2⟩:=ZC e;obtain⟨xx,s2,a3,a4⟩:=ZC a2;refine yv kn jR H0 σ Hf H ρ s v s1 _ j st a1 λw jU H1 j1 e1 e2 jW r1 _=>?_
 cases hb:(ρ[i]?).bind id with
 | none=>rw[hb]at a4;cases a4
 | some c=>
  rw[hb]at a4
  cases c with
  | du kvs=>
   have a4':(match keyT xx,Wo v with | some k,some w=>if kvs.length<xg then Zy (Out.nx (ρ.set i (some (.du (Yp kvs k w)))))else ZE | _,_=>ZE) s2=some (out,s'):=a4
   cases hk:keyT xx with
   | none=>rw[hk]at a4';cases a4'
   | some k=>
    cases hw:Wo v with
    | none=>rw[hk,hw]at a4';cases a4'
    | some w'=>
     rw[hk,hw]at a4';obtain⟨hl,a5⟩:=Xc a4';obtain⟨rfl,rfl⟩:=ZN a5;have ei:=Zcz hb;obtain⟨a,h1,h2,h3,h4,h5⟩:=j1.ow i _ hi ei;refine⟨_,h1,?_⟩;refine yx kn jR H0 σ jU H1 ρ s1 _ _ _ j1 jW a3 λw2 jZ H2 j2 e3 e4 jT r2 _=>?_;obtain⟨a',h1',h2',h3',h4',h5'⟩:=j2.ow i _ hi ei;rw[h1]at h1';cases h1';have ew:=ZbP hw r1;subst ew
     match xx,hk,r2 with
     | .tup ks,hk,r2=>
      obtain⟨q,vs,rfl,nq,hq,rq⟩:=jc.mp r2;have ey:=JM (show XI ks=some k from hk) rq;subst ey;refine⟨a,_,rfl,WM.t (k:=k) (show H2 a=some (.dT kvs)from h5') (j2.gr.fh _ _ nq hq) (by omega),?_⟩;exact po σ _ ⟨jZ,j2.put hi ei h1 (show Zl H2 a (.dT (Yp kvs k w)) a=some (.dT (Yp kvs k w))from ZQ)⟩ (jw jT h2)
  | _=>cases a4
theorem ZgE {r1 r2:Bool}{i:Nat}{x:Str}{ex ev:Expr}{p1 p2 pos:Pos}{fx fv:Zb->M D}(hu:X.A.units+1<cLine)(hi:i∈own)(hn:PE X (.Name x p1) (Yx i))(hx:PD X G r1 ex fx)(hv:PD X G r2 ev fv)
  (hs:xr ev (some (.Subscript (.Name x p1) ex p2)) pos.line X.env=pure false:=by rfl) :
  YH X G ob own own fr (.Assign [.Subscript (.Name x p1) ex p2] ev pos) (Bw i (fun ρ=>fx (ZG own ρ)) (fun ρ=>fv (ZG own ρ))):=by
 obtain⟨tv,pv',qv⟩:=hv;obtain⟨tx,px,qx⟩:=hx;have yv:Ws G r2 tv fv:=qv;have yx:Ws G r1 tx fx:=qx;exact Ziw hu hi hn px yx.a pv' yv.a hs
end
end TF
namespace HT
theorem Zkd:isSubtype (.type "tuple") (.type "set")=pure false:=by rw[isSubtype_type];kernel_rfl
theorem ZfB:isSubtype (.type "tuple") (.type "frozenset")=pure false:=by rw[isSubtype_type];kernel_rfl
section
variable {prog:xB}{w:World}{A:xC}{E:xD}{s:Shared}
noncomputable abbrev YY (led:Bool):Obj:={ cls:=.type "set",dict:=none,data:=.set #[] 0 (.fresh 0 0 led) }
theorem set_of_tuple {l:Addr}{items:Array Value}{ns:List Int}{Q:xD}(hh:A.handled=none)(hl:s.heap.IsTuple l items)(hi:IntsAre items.toList ns)(hb:items.size+1<scanBound)
  (h:∀(h':Heap) (tk:Nat),h'.SetOf (intKind prog w) s.heap.objs.size (λk'=>(firstMet (λi=>ns.getD i 0) items.size).any (· == k')) (firstMet (λi=>ns.getD i 0) items.size).length->(∀b o,b<s.heap.objs.size->s.heap.get? b=some o->h'.get? b=some o)->Q (.ref s.heap.objs.size) { s with heap:=h',toks:=tk }) :
  xf (xz prog w) A (call (.type "set") [.ref l]) Q E s:=by
 obtain⟨c,tl,hmro⟩:=zq.mro;have hmade:=zq.made;have hsub:=zq.sub;refine xy (codeAny_of_tree ?_);show xf _ _ (callAny (.type "set") _) _ _ _;refine xb ⟨qbX _ (by decide +kernel),xm qcs ?_⟩;rw[xC.under_plain (weight_type_call_type "set" [.ref l] []) rfl];have h1:=zq.notType;have h2:=zq.canCreate;have hct:=qcB (.ref l)
 repeat (any_goals (first | assumption | wp_step))
 refine codeAny_mono (code_set_new_1 (.ref l) (E:=E) (Q₁:=λobj s₁=>∃led:Bool,obj=.ref s.heap.objs.size/\s₁ = { s with heap:=s.heap.push (YY led) }) λled=>⟨led,rfl,rfl⟩) λr s₁ hr=>?_
 cases r with
 | error e=>exact hr
 | ok fl=>
  cases fl with
  | ret obj=>
   obtain⟨led,rfl,rfl⟩:=hr;have hS:(s.heap.push (YY led)).get? s.heap.objs.size=some (YY led):=qC _ rfl;have hT:qb3 { s with heap:=s.heap.push (YY led) } (.ref s.heap.objs.size) "set":=⟨_,hS,rfl⟩;have hli:=zq.init.lookup;have hbi:=zq.init.bind (.ref s.heap.objs.size)
   repeat (any_goals (first | assumption | wp_step))
   refine codeAny_mono (codeAny_call_builtin (R:=wants (λr s₂=>r=.none/\∃h' tk,s₂ = { s with heap:=h',toks:=tk }/\h'.SetOf (intKind prog w) s.heap.objs.size (λk'=>(firstMet (λi=>ns.getD i 0) items.size).any (· == k')) (firstMet (λi=>ns.getD i 0) items.size).length/\(∀b o,b<s.heap.objs.size->s.heap.get? b=some o->h'.get? b=some o)) E) zq.init.plain qcC (check_set_init_1 hT ?_)) λr₂ s₂ hr₂=>?_
   ·obtain⟨ol,hol,hcl,nl,hdl⟩:=hl;obtain⟨ocls,odict,odata,oslots⟩:=ol
    simp only at hcl hdl;subst hcl;subst hdl;have hol':(s.heap.push (YY led)).get? l=some { cls:=.type "tuple",dict:=odict,data:=.seq items nl,slots:=oslots }:=qj _ hol;have z1:=Zkd;have z2:=ZfB;have hne:(yp "tuple" == yp "dict")=false:=by decide
    have hl1:(s.heap.push (YY led)).IsTuple l items:=⟨_,hol',rfl,nl,rfl⟩;unfold Builtin.«set.__init__» noKeywords qbS;generalize hPI:pyIter=PI
    wp_walk
    subst hPI;refine wpAny_pyIter_tuple hl1 ?_;refine xa (wpAny_runValue ?_);have hlS:l<s.heap.objs.size:=qK hol;have hh3:A.in1.in1.in1.handled=none:=by simp[hh]
    have hneI:l≠(s.heap.push (YY led)).objs.size:=by rw[yb];exact qV (zQ hlS)
    have hSf:s.heap.objs.size∉[(s.heap.push (YY led)).objs.size,l]:=by
     rw[yb];simp only[qq,qz,zX,or_false,not_or];exact⟨qV (yY _),qbG hlS⟩
    have hval:∀(i:Nat) (v:Value),items[i]?=some v->∃t,v=.int ((λi=>ns.getD i 0) i) t:=λi v hv=>IntsAre.int_at hi i v (by rw[qA];exact hv);refine codeAny_set_update_loopS ((Walks.tuple hh3 _ l hneI items).toS) s.heap.objs.size hSf (λi=>ns.getD i 0) hval hb (items.size-0) 0 _ (by omega) (zC _) ⟨⟨_,qC _ rfl,rfl,rfl⟩,(hl1.push _)⟩ ?hS0 ?hR
    case hS0=>
     have hget:((s.heap.push (YY led)).push { cls:=.type "tuple_iterator",data:=.fields #[.ref l,.int 0 0] }).get? s.heap.objs.size=some (YY led):=qj _ hS;exact SetOf_congr ((setObjOf_fresh (knd:=intKind prog w) led).setOf hget (by unfold scanBound;omega)) (λ_=>rfl) rfl
    case hR=>
     intro s' hm hS';obtain⟨h',g',d',tk',os'⟩:=s';have eg:g'=s.gens:=hm.gens;have ed:d'=s.drawn:=hm.drawn;have eo:os'=s.os:=hm.os;subst eg;subst ed;subst eo;show xf _ _ _ _ _ _;refine xb ?_;show xf _ _ (ret zm) _ _ _;refine xb ⟨rfl,h',tk',rfl,hS',λb o hb e=>?_⟩;have hb1:b≠s.heap.objs.size:=qV hb;have hb2:b≠(s.heap.push (YY led)).objs.size:=by rw[yb];exact qV (zQ hb)
     exact hm.heap b o (by simp only[qq,qz,zX,or_false,not_or];exact⟨hb1,hb2⟩) (qj _ (qj _ e))
   ·cases r₂ with
    | error e=>exact hr₂
    | ok fl₂=>
     cases fl₂ with
     | ret r=>
      obtain⟨rfl,h',tk,rfl,hS',hk'⟩:=hr₂;repeat (any_goals (first | assumption | wp_step))
      exact h _ _ hS' hk'
     | next=>exact hr₂.elim
     | brk=>exact hr₂.elim
     | cont=>exact hr₂.elim
  | next=>exact hr.elim
  | brk=>exact hr.elim
  | cont=>exact hr.elim
end
end HT
namespace TF
open L2
section
variable {X:Cx}{G:Gh}
noncomputable def Xs (ns:List Int):Nat:=(ns.foldl step_dedup []).length
theorem Zcp (ns:List Int)(n:Nat)(h:n=ns.length):firstMet (λi=>ns.getD i 0) n=ns.foldl step_dedup []:=by
 unfold firstMet;congr 1;subst h;apply qap;intro i;rw[qH];by_cases hi:i<ns.length
 ·rw[yX hi,qG hi]
  simp[qP,qG hi]
 ·rw[yc (by simp;omega:(qk ns.length).length<=i),yc (by omega)]
  rfl
theorem Zix (hc:X.calm=true):Y6 X (.type "set") (λxs H Q=>∃(p:Addr) (ns:List Int),xs=[.ref p]/\(ZA X.K H p (ns.map V.int)∨ZH X.K H p (ns.map V.int))/\ns.length<=1000/\∀l S,H l=none->Q (.ref l) (Zl H l (.set S (Xs ns)))):=by
 intro jI s σ H xs us Q I r h;obtain⟨p,ns,rfl,hp,hl,q⟩:=h;obtain⟨u,rfl,ru⟩:=Xw r
 cases ru
 have hsb:(1000:Nat)+1<scanBound:=by unfold scanBound;omega
 have fin:∀(items:Array Value) (_:IntsAre items.toList ns) (h':Heap) (tk:Nat),h'.SetOf (intKind X.prog X.w) s.heap.objs.size (λk'=>(firstMet (λi=>ns.getD i 0) items.size).any (· == k')) (firstMet (λi=>ns.getD i 0) items.size).length->(∀b o,b<s.heap.objs.size->s.heap.get? b=some o->h'.get? b=some o)->EP X jI σ Q (.ref s.heap.objs.size) { s with heap:=h',toks:=tk }:=λitems hi h' tk hS hk=>by
  have e:firstMet (λi=>ns.getD i 0) items.size=ns.foldl step_dedup []:=Zcp ns _ (by rw[<-hi.length,qB]);rw[e]at hS;exact⟨.ref s.heap.objs.size,_,I.laid (a:=s.heap.objs.size) (o:=.set (λk'=>(ns.foldl step_dedup []).any (· == k')) (Xs ns)) (t':=tk) (λb o e=>hk b o (qK e) e) (qp _) hS,rfl,q _ _ (I.hok.fresh (qp _))⟩
 rcases hp with hp | hp
 ·obtain⟨jK,rv,pl,hz⟩:=I.list hp
  have hi:IntsAre jK ns:=WS rv;have hll:=hi.length;exact call_set_list (I.ok.hd hc) pl.isList (by simpa using hi) (by simp;omega) (fin jK.toArray (by simpa using hi))
 ·obtain⟨jK,rv,pl,hz⟩:=I.tuple hp
  have hi:IntsAre jK ns:=WS rv;have hll:=hi.length;exact HT.set_of_tuple (I.ok.hd hc) (show s.heap.IsTuple p jK.toArray from pl) (by simpa using hi) (by simp;omega) (fin jK.toArray (by simpa using hi))
theorem ZfC:Y6 X (.builtin "len") (λxs H Q=>∃(p:Addr) (S:Int->Bool) (n:Nat),xs=[.ref p]/\H p=some (.set S n)/\n<=1000/\Q (.int n) H):=by
 intro jI s σ H xs us Q I r h;obtain⟨p,S,n,rfl,hp,hn,q⟩:=h;obtain⟨u,rfl,ru⟩:=Xw r
 cases ru
 obtain⟨o,es,ep,t,h1,h2,h3,h4,h5,h6,h7,h8⟩:=(show s.heap.SetOf (intKind X.prog X.w) p S n from I.hok p _ hp);refine call_len_set h1 h2 h3 h7 (by omega) ?_;rw[h8];exact⟨.int n,H,I.tok _,⟨_,rfl⟩,q⟩
theorem ZlW (ns:List Int):∀acc:List Int,(ns.foldl step_dedup acc).length<=acc.length+ns.length:=by
 induction ns with
 | nil=>intro acc;simp
 | cons a r ih=>
  intro acc;have h:=ih (step_dedup acc a);have:(step_dedup acc a).length<=acc.length+1:=by unfold step_dedup;split <;> simp
  show(r.foldl step_dedup (step_dedup acc a)).length<=_;simp only[qL];omega
theorem Ziy (ns:List Int):Xs ns<=ns.length:=by
 have:=ZlW ns [];simpa[Xs]using this
noncomputable def ZcF (f:Zb->M D):Zb->M D:=fun ρ=>Zp (f ρ) λd=>match d with
 | .tup ds=>(match ZM ds with | some ns=>if ns.length<=1000 then Zy (.int (Xs ns:Nat))else ZE | none=>ZE)
 | .lst ds=>(match ZM ds with | some ns=>if ns.length<=1000 then Zy (.int (Xs ns:Nat))else ZE | none=>ZE)
 | _=>ZE
theorem Ziz {a:Expr}{p1 p2 pos1 pos:Pos}{r1:Bool}{f:Zb->M D}(hc:X.calm=true)(hg:Gl X "len")(hm:X.mg "len" = none)(hv:xj "len" = some (.builtin "len"))(hg2:Gl X "set")(hm2:X.mg "set" = none)(hv2:xj "set" = some (.type "set"))(ha:PD X G r1 a f)
  (hs:xh [a] X.env=(false,eval a X.env)::xh [] X.env:=by rfl)
  (hs2:xh [qbf (.Name "set" p2) [a] [] pos1] X.env=(false,eval (qbf (.Name "set" p2) [a] [] pos1) X.env)::xh [] X.env:=by rfl) (hpl:(backTo pos (xh [] X.env)).any (·.1)=false:=by rfl) (hpl1:(backTo pos1 (xh [] X.env)).any (·.1)=false:=by rfl) :
  PD X G true (.Call (.Name "len" p1) [.Call (.Name "set" p2) [a] [] pos1] [] pos) (ZcF f):=by
 obtain⟨t,pa,qa⟩:=ha.drop;refine⟨_,UX ZfC hg hm hv (YK (JS (Zix hc) hg2 hm2 hv2 (YK pa Xi hs) (by decide) (by decide) hs hpl1) Xi hs2) (by decide) (by decide) hs2 hpl,fun σ Hf H ρ s d s' Q e1 e2 e3 e4 k=>?_⟩;obtain⟨d0,s1,a1,a2⟩:=ZC e4;refine qa σ Hf H ρ s d0 s1 _ e1 e2 e3 a1 λv jU H1 g1 jW r1=>?_;have go:∀ns:List Int,(if ns.length<=1000 then Zy (D.int (Xs ns:Nat))else ZE) s1=some (d,s')->(∃p,v=.ref p/\(ZA X.K H1 p (ns.map V.int)∨ZH X.K H1 p (ns.map V.int)))->∃(p:Addr) (ns:List Int),[v]=[.ref p]/\(ZA X.K H1 p (ns.map V.int)∨ZH X.K H1 p (ns.map V.int))/\ns.length<=1000/\∀l S,H1 l=none->∃(p:Addr) (S':Int->Bool) (n:Nat),[V.ref l]=[.ref p]/\Zl H1 l (.set S (Xs ns)) p=some (.set S' n)/\n<=1000/\Q (.int n) (Zl H1 l (.set S (Xs ns))):=λns h ⟨p,ev,hp⟩=>by
  obtain⟨hl,h⟩:=Xc h;obtain⟨rfl,rfl⟩:=ZN h;have hu:=Ziy ns;refine⟨p,ns,by rw[ev],hp,hl,λl S hn=>⟨l,S,Xs ns,rfl,ZQ,by omega,?_⟩⟩;have nf:=Gh.nofp jW hn;have g2:=Gr.new (o:=.set S (Xs ns)) g1.fh hn nf;exact k _ _ _ (g1.trans g2) (Gh.grow jW hn) (ja.mpr rfl) λ_=>.scal λz=>z
 match d0,a2,r1 with
 | .tup ds,a2,r1=>
  have a2:(match ZM ds with | some ns=>if ns.length<=1000 then Zy (D.int (Xs ns:Nat))else ZE | none=>ZE) s1=some (d,s'):=a2
  cases he:ZM ds with
  | none=>rw[he]at a2;cases a2
  | some ns=>
   rw[he]at a2;obtain⟨p,vs,rfl,np,hp,rp⟩:=jc.mp r1;rw[WU he]at rp;rw[jn rp]at hp;exact go ns a2 ⟨p,rfl,.inr (ZH.of (g1.fh _ _ np hp))⟩
 | .lst ds,a2,r1=>
  have a2:(match ZM ds with | some ns=>if ns.length<=1000 then Zy (D.int (Xs ns:Nat))else ZE | none=>ZE) s1=some (d,s'):=a2
  cases he:ZM ds with
  | none=>rw[he]at a2;cases a2
  | some ns=>
   rw[he]at a2;obtain⟨p,vs,rfl,np,hp,rp⟩:=jb.mp r1;rw[WU he]at rp;rw[jn rp]at hp;exact go ns a2 ⟨p,rfl,.inl (ZA.of (g1.fh _ _ np hp))⟩
theorem ZeG (ns:List Int):(ns.foldl step_dedup []).Nodup/\∀x,x∈ns.foldl step_dedup []↔x∈ns:=by
 have gen:∀(r acc:List Int),acc.Nodup->(r.foldl step_dedup acc).Nodup/\∀x,x∈r.foldl step_dedup acc↔x∈acc∨x∈r:=by
  intro r
  induction r with
  | nil=>intro acc h;exact⟨h,λx=>by simp⟩
  | cons a r ih=>
   intro acc h;show(r.foldl step_dedup (step_dedup acc a)).Nodup/\∀x,x∈r.foldl step_dedup (step_dedup acc a)↔_;by_cases m:acc.any (· == a)=true
   ·have e:step_dedup acc a=acc:=by unfold step_dedup;rw[if_pos m]
    rw[e];obtain⟨h1,h2⟩:=ih acc h;obtain⟨y,hy,ey⟩:=List.any_eq_true.mp m;have ey:y=a:=by simpa using ey
    subst ey;refine⟨h1,λx=>?_⟩;rw[h2 x];constructor
    ·rintro(z | z)
     ·exact .inl z
     ·exact .inr (qQ _ z)
    ·rintro(z | z)
     ·exact .inl z
     ·rcases qq.mp z with z | z
      ·subst z;exact .inl hy
      ·exact .inr z
   ·have e:step_dedup acc a=acc ++ [a]:=by unfold step_dedup;rw[if_neg m]
    rw[e];have na:a∉acc:=λz=>m (List.any_eq_true.mpr ⟨a,z,by simp⟩);obtain⟨h1,h2⟩:=ih (acc ++ [a]) (qaP.mpr ⟨h,by simp,λx hx y hy=>by
     have:=qz.mp hy;subst this;exact λz=>na (z▸hx)⟩)
    refine⟨h1,λx=>?_⟩;rw[h2 x];simp only[qR,qq,zX,or_false];constructor
    ·rintro((z | z) | z)
     ·exact .inl z
     ·exact .inr (.inl z)
     ·exact .inr (.inr z)
    ·rintro(z | z | z)
     ·exact .inl (.inl z)
     ·exact .inl (.inr z)
     ·exact .inr z
 obtain⟨h1,h2⟩:=gen ns [] qbR;exact⟨h1,λx=>by rw[h2 x];simp⟩
end
end TF
namespace HT
section
variable {prog:xB}{w:World}{A:xC}{R:Result->Shared->Prop}{I:Addr}{fp wr:List Addr}{n:Nat}{P:Nat->Value->Prop}{St:Nat->Heap->Prop}
end
section
variable {prog:xB}{w:World}{A:xC}{E:xD}{s:Shared}
end
section
variable {prog:xB}{w:World}{A:xC}{R:Result->Shared->Prop}{I:Addr}{fp wr:List Addr}{n:Nat}{P:Nat->Value->Prop}{St:Nat->Heap->Prop}
end
section
variable {prog:xB}{w:World}{A:xC}{E:xD}{s:Shared}
end
end HT
namespace L2
section
variable {X:Cx}
end
end L2
namespace TF
open L2
section
variable {X:Cx}{G:Gh}
end
end TF
namespace TS
open L2
section
variable {prog:xB}{w:World}{A:xC}{E:xD}{s:Shared}
end
end TS
namespace TF
open L2 TS
section
variable {X:Cx}{G:Gh}
end
end TF
namespace TP2
open L2 TF TP
end TP2
namespace TP3
open L2 TF TP
open TP2
noncomputable def ZeH:Zb->M Out:=(Zf (Xt 1 (dC (.du [])))
 (Zf (Z9 (fun ρ=>(XY (Ze Zn (Za 0) (dC (.int 1)))) (ZG [1] ρ)) (Zv 2)
 (Zf (Bw 1 (fun ρ=>(Za 2) (ZG [1] ρ)) (fun ρ=>(dC (.bl true)) (ZG [1] ρ)))
 Zk))
 (Zf (ZO 3 (fun ρ=>(ZZ (Zc (ZS Zd) Zd)) (ZG [1] ρ)))
 (Zf (Z9 (YL (Ze Zn (Za 0) (dC (.int 0)))) (Zv 4)
 (Zf (Xt 5 (ZZ Zd))
 (Zf (Z9 (fun ρ=>(ZY (Za 3)) (ZG [5] ρ)) (Zv 6)
 (Zf (Yu (asB (Ze WF (dC (.bl false)) (Yj [none,some 4,some 1] (XY (Za 6)) (Zv 0) Yt (Ze Y0 (ZS (Zc (Za 0) (Zc (Za 1) Zd))) (Za 2)))))
 (Zf (Xz 5 (fun ρ=>(Ze Yk (Za 6) (ZS (Zc (Za 4) Zd))) (ZG [5] ρ)))
 Zk)
 Zk)
 Zk))
 (Zf (ZO 3 (Ze Yk (Za 3) (Za 5)))
 Zk))))
 (Zf (ZL (Za 3))
 Zk)))))
noncomputable def JJ:List D->M D:=runB 7 1 ZeH
noncomputable def ZfD:Zb->M Out:=(Zf (ZL (Zs V0 (Zc (Yj [none] (ZY (Zr JJ (Zc (Za 0) Zd))) (Zv 0) Yt (Zs Ya (Zc (Za 0) Zd))) Zd)))
 Zk)
noncomputable def UT:List D->M D:=runB 1 1 ZfD
noncomputable def Zc5:Zb->M Out:=(Zf (Z9 (YL (Zs Ya (Zc (Za 1) Zd))) (Zv 2)
 (Zf (Z9 (XY (ZjT (Za 1) Zmy (Zmz (Za 2)))) (Zv 3)
 (Zf (Yu (Vn (asB (Zr Vr (Zc (Za 0) (Zc (Za 3) (Zc (Ze Zn (Za 1) (Za 2)) Zd))))))
 (Zf (ZL (dC (.bl false)))
 Zk)
 Zk)
 Zk))
 Zk))
 (Zf (ZL (dC (.bl true)))
 Zk))
noncomputable def BU:List D->M D:=runB 4 2 Zc5
noncomputable def Za2:Zb->M Out:=(Zf (Yu (WP (Vn (asB (Zs BD (Zc (Za 1) (Zc (dC (.ty "tuple")) Zd))))) (asB (Ze Y8 (ZcF (Za 1)) (Zs Ya (Zc (Za 1) Zd)))))
 (Zf (ZL (dC (.bl false)))
 Zk)
 Zk)
 (Zf (Z9 (XY (Za 1)) (Zv 2)
 (Zf (Yu (WP (Vn (asB (Zs BD (Zc (Za 2) (Zc (dC (.ty "int")) Zd))))) (WP (asB (Zs BD (Zc (Za 2) (Zc (dC (.ty "bool")) Zd)))) (Vn (Bh (dC (.int 0)) (Bu UN (Za 2) (Bt Wt (Ze Zn (Za 0) (dC (.int 0)))))))))
 (Zf (ZL (dC (.bl false)))
 Zk)
 Zk)
 Zk))
 (Zf (ZL (UH (Ze Yy (Zs Zhl (Zc (Za 1) Zd)) (Zs Zc1 (Zc (Za 1) Zd))) (Zr BU (Zc (Za 0) (Zc (Za 1) Zd)))))
 Zk)))
noncomputable def JG:List D->M D:=runB 3 2 Za2
end TP3
namespace TQ
open L2 TF TQ
open TP
open TP2
open TP3
noncomputable def ZiA:Zb->M Out:=(Zf (ZL (UH (Ze Wt (Ze Zn (Za 0) (dC (.int 0))) (Ze Zn (Za 1) (dC (.int 1)))) (Ze Wt (Ze Zn (Za 1) (dC (.int 0))) (Ze Zn (Za 0) (dC (.int 1))))))
 Zk)
noncomputable def ZiB:List D->M D:=runB 2 2 ZiA
noncomputable def Zbv:Zb->M Out:=(Zf (ZL (vOr (Ze Yy (Za 1) (Za 2)) (Zr WT (Zc (Za 0) (Zc (Za 1) (Zc (Za 2) Zd))))))
 Zk)
noncomputable def Zal:List D->M D:=runB 3 3 Zbv
noncomputable def ZeI:List D->M D:=runB 4 4 (Zf (Yu (asB (Ze Yy (Ze Zn (Za 0) (dC (.int 0))) (Ze Zn (Za 1) (dC (.int 0)))))
 (Zf (ZL (Zr WT (Zc (Ze Zn (Za 2) (Ze Zn (Za 0) (dC (.int 0)))) (Zc (Ze Zn (Za 0) (dC (.int 1))) (Zc (Ze Zn (Za 1) (dC (.int 1))) Zd)))))
 Zk)
 Zk)
 (Zf (ZL (Zr WT (Zc (Za 3) (Zc (Ze Zn (Za 0) (dC (.int 0))) (Zc (Ze Zn (Za 1) (dC (.int 0))) Zd)))))
 Zk))
noncomputable def Zbw:List D->M D:=VL 3 (BB (Zr WT (Zc (Za 2) (Zc (Za 0) (Zc (Za 1) Zd)))))
noncomputable def Zc6:List D->M D:=runB 4 4 (Zf (ZL (UH (Zr Zal (Zc (Za 2) (Zc (Ze Zn (Za 0) (dC (.int 0))) (Zc (Ze Zn (Za 1) (dC (.int 0))) Zd)))) (Zr Zal (Zc (Za 3) (Zc (Ze Zn (Za 0) (dC (.int 1))) (Zc (Ze Zn (Za 1) (dC (.int 1))) Zd))))))
 Zk)
noncomputable def Za3:List D->M D:=VL 3 (Zr WT (Zc (Za 2) (Zc (Za 0) (Zc (Za 1) Zd))))
noncomputable def Zbh:List D->M D:=VL 3 (vOr (Ze Y0 (ZS (Zc (Za 0) (Zc (Za 1) Zd))) (Za 2)) (Ze Y0 (ZS (Zc (Za 1) (Zc (Za 0) Zd))) (Za 2)))
noncomputable def Zc7:List D->M D:=VL 3 (Ze Y8 (Ze V6 (Za 0) (Za 2)) (Ze V6 (Za 1) (Za 2)))
noncomputable def Zbx:List D->M D:=VL 4 (Ze Y0 (Zs VE (Zc (Ze UJ (Za 1) (Za 0)) (Zc (Ze Yk (Ze UJ (Za 2) (Za 1)) (Za 0)) Zd))) (Za 3))
noncomputable def Tl:Nat->List D->M D
 | 0=>Zbw
 | 1=>Za3
 | 2=>ZiB
 | 3=>ZeI
 | 4=>Zc6
 | 5=>Zbh
 | 6=>Zc7
 | 7=>Zbx
 | _=>λ_=>ZE
noncomputable def ZfE:Zb->M Out:=(Zf (ZO 2 (Zr JN (Zc (Ww (Zs Ya (Zc (Za 0) Zd))) Zd)))
 (Zf (ZL (ZS (Zc (Zs Ya (Zc (Za 0) Zd)) (Zc (Zs WE (Zc (Yj [none,some 1,some 0] (ZY (Za 2)) (Zv 0) (asB (BE Tl 1 (Zc (Ze Zn (Za 2) (Ze Zn (Za 0) (dC (.int 0)))) (Zc (Ze Zn (Za 2) (Ze Zn (Za 0) (dC (.int 1)))) Zd)))) (Za 0)) Zd)) Zd))))
 Zk))
noncomputable def JK:List D->M D:=runB 3 2 ZfE
noncomputable def Zke:Zb->M Out:=(Zf (ZO 1 (Zr Uh (Zc (Za 0) Zd)))
 (Zf (ZL (dFnC JK 0 [1] (Ww (Ze Zn (Za 0) (dC (.int 0))))))
 Zk))
noncomputable def UY:List D->M D:=runB 2 1 Zke
end TQ
namespace TF
open L2
noncomputable def ZgF (K:qm)(L:List (Addr×Str)):Sp:=λvs H Q _=>∃(a:Addr) (ns:List Int),vs=[.ref a]/\ZA K H a (ns.map V.int)/\ns.length<=63/\(∀P q,(P,q)∈L->H P=some (.tbl #[]))/\∀H',Q (.bl true) H'
theorem ZgG {L:List (Addr×Str)}{tb:List (Str×Addr×Addr)}{H:Hp}(h:∀P q,(P,q)∈L->∃x c,(x,c,P)∈tb)(hT:∀e∈tb,H e.2.2=some (.tbl #[])):∀P q,(P,q)∈L->H P=some (.tbl #[]):=λP q m=>by
 obtain⟨x,c,z⟩:=h P q m;exact hT _ z
theorem Zou {G0:Gh}{L:List (Addr×Str)}{H:Hp}(h:∀P q,(P,q)∈L->H P=some (.tbl #[])):∀P q,(P,q)∈L->ZmC G0 L P q H:=λP q m=>⟨#[],h P q m,trivial,λpos cv hc=>by cases hc⟩
theorem Zkf {K:qm}{L:List (Addr×Str)}{N:List Str}{H:Hp}{a p:Addr}{ns:List Int}{g:Zb->M Out}{Q:VK}{n:Nat}{s':Pn}(sq:ZA K H a (ns.map V.int))(hTb:∀P q,(P,q)∈L->H P=some (.tbl #[]))(hp:H p=none)(hk:K.lookup p=none)(hQ:∀H',Q (.bl true) H')
  (hg:g (none::some .pen::qy n none) ([0,0],ns)=some (.rt (.bl true),s')) :
  ∃G,Y2 (Xg K) L G/\ZjM G [] [] [] false g { nx:=λ_ H'=>Q .non H',rt:=Q } (some (.ref a)::some (.ref p)::qy n none) (Zl H p (.lst [.ref a,.int 0,.int 0])):=by
 have main:∀tr:Bool,(tr=true->∃o,H a=some o/\∀ps,o≠.tbl ps)->(tr=false->∀H':Hp,ZA K H' a (ns.map V.int))->a≠p->∃G,Y2 (Xg K) L G/\ZjM G [] [] [] false g { nx:=λ_ H'=>Q .non H',rt:=Q } (some (.ref a)::some (.ref p)::qy n none) (Zl H p (.lst [.ref a,.int 0,.int 0])):=by
  intro tr t1 t2 ne;refine⟨UE (V8 K p a tr) L,⟨V8 K p a tr,⟨p,a,tr,rfl⟩,λb ⟨q,mb⟩ hb=>?_,rfl⟩,λ_=>none,λ_=>none,Zl H p (.lst [.ref a,.int 0,.int 0]),none::some .pen::qy n none,([0,0],ns),_,s',⟨λ_=>none,⟨by simp,.refl _ _,.refl (λb o _ e=>by cases e),λi d _ e=>?_,λi d m=>by simp at m,λi j b di dj m=>by simp at m⟩⟩,⟨⟨0,0,rfl,ZQ,ne,?_,λht=>?_,t2⟩,Zou λP q z=>?_⟩,hg,λv Hf' H' g st r _=>?_⟩
  ·have e:=hTb b q mb
   rcases hb with rfl | ⟨ht,rfl⟩
   ·rw[hp]at e;cases e
   ·obtain⟨o,z1,z2⟩:=t1 ht
    rw[e]at z1;cases z1;exact z2 _ rfl
  ·match i,e with
   | 0,e=>cases e
   | 1,e=>cases e;exact⟨_,rfl,jp.mpr rfl⟩
   | i+2,e=>
    have e':(qy n (none:Option D))[i]?=some (some d):=e;rw[yW]at e';split at e' <;> cases e'
  ·exact Zny sq hp
  ·obtain⟨o,q,_⟩:=t1 ht
   exact⟨o,by rw[Zx ne];exact q⟩
  ·rw[Zx (Ys (hTb P q z) hp)];exact hTb P q z
  ·rw[je.mp r]
   exact hQ H'
 have hne:∀o,H a=some o->a≠p:=λo e z=>by rw[z,hp]at e;cases e
 rcases sq with(q | ⟨o,q⟩) | q
 ·exact main true (λ_=>⟨_,q,λ_ z=>by cases z⟩) (λz=>by cases z) (hne _ q)
 ·exact main true (λ_=>⟨_,q,λ_ z=>by cases z⟩) (λz=>by cases z) (hne _ q)
 ·by_cases e:a=p
  ·obtain⟨o,_,_,q1,_⟩:=q
   rw[e,hk]at q1;cases q1
  ·exact main false (λz=>by cases z) (λ_ H'=>.inr q) e
theorem lok_nd:∀{L:List (Addr×Str)},(L.map (·.1)).Nodup->Wl L
 | [],_=>λP q q' h=>by simp at h
 | (a,b)::L,nd=>λP q q' h1 h2=>by
  rw[zc,zU]at nd;rcases qq.mp h1 with e1 | m1
  ·cases e1
   rcases qq.mp h2 with e2 | m2
   ·cases e2;rfl
   ·exact absurd (qaD (f:=(·.1)) m2) nd.1
  ·rcases qq.mp h2 with e2 | m2
   ·cases e2;exact absurd (qaD (f:=(·.1)) m1) nd.1
   ·exact lok_nd nd.2 P q q' m1 m2
theorem Zkg:∀ds s d s',YS ds s=some (d,s')->Xo ds=true/\YE d=true:=λds s d s' h=>by
 unfold YS at h;split at h
 ·split at h
  ·cases h;exact⟨rfl,rfl⟩
  ·cases h
 ·cases h
end TF
namespace TT
noncomputable def Ba:Bool->Keyed->Array Keyed->Nat->Nat->Nat->StateT SortSt Sem (Option Nat):=sortPriv% PySem.Builtin.gallop
noncomputable def Bb (left:Bool)(key:Keyed)(arr:Array Keyed)(base:Nat)(i:Nat):StateT SortSt Sem (Option Bool):=do
 let x<-elem' arr (base+i)
 if left then lt' x key else return (<-lt' key x).map (!·)
section
variable {M:Model}{A:xC}{E:xD}{s:Shared}
set_option hygiene false in
local macro_rules | `(tactic| walk_at "galBin")=>`(tactic| (
  refine wpS_bind (wpS_mono (wpS_forRange (I:=λx c st'=>st'=st/\∃l h,c=(none,l,h)/\l<=h/\h<=n/\h-l<=n-x/\(∀i,i<l->B i=true)/\(∀i,h<=i->i<n->B i=false))
   (Q:=λc st'=>st'=st/\∃h,c=(none,h,h)/\h<=n/\(∀i,i<h->B i=true)/\(∀i,h<=i->i<n->B i=false)) ?stepB ?finB ⟨rfl,lo,hi,rfl,h1,h2,by omega,h3,h4⟩) ?postB)
  case postB=>
   rintro c st' ⟨rfl,h,rfl,a1,a2,a3⟩;exact wpS_pure (k h a1 a2 a3)
  case finB=>
   rintro c st' ⟨rfl,l,h,rfl,a1,a2,a3,a4,a5⟩;have:l=h:=by omega
   subst this;exact⟨rfl,l,rfl,a2,a4,a5⟩
  case stepB=>
   rintro x c st' _ hx ⟨rfl,l,h,rfl,a1,a2,a3,a4,a5⟩;dsimp only;by_cases e:l≥h
   ·rw[if_pos e]
    have:l=h:=by omega
    subst this;exact wpS_pure ⟨rfl,l,rfl,a2,a4,a5⟩
   ·rw[if_neg e]
    have hm:l+(h-l) / 2<n:=by omega
    refine wpS_bind (hB _ hm _ ?_);dsimp only
    cases q:B (l+(h-l) / 2)with
    | true=>
     rw[if_pos rfl];exact wpS_pure ⟨rfl,_,_,rfl,by omega,a2,by omega,λi hi=>low (by omega) hm q,a5⟩
    | false=>
     rw[if_neg (by decide)];exact wpS_pure ⟨rfl,_,_,rfl,by omega,by omega,by omega,a4,λi hi hn=>upp hi hn q⟩))
theorem B9 {left:Bool}{key:Keyed}{arr:Array Keyed}{base n hint:Nat}{st:SortSt}{Q:Option Nat->SortSt->Prop}(B:Nat->Bool)(hh:hint<n)(mono:∀i j,i<j->j<n->B j=true->B i=true)
  (hB:∀i,i<n->∀F:Option Bool->SortSt->Prop,F (some (B i)) st->wpS M A E s (Bb left key arr base i) F st)
  (k:∀r,r<=n->(∀i,i<r->B i=true)->(∀i,r<=i->i<n->B i=false)->Q (some r) st):wpS M A E s (Ba left key arr base n hint) Q st:=by
 have low:∀{i j:Nat},i<=j->j<n->B j=true->B i=true:=λ{i j} h1 h2 h3=>by
  rcases Nat.lt_or_eq_of_le h1 with h | h
  ·exact mono i j h h2 h3
  ·rw[h];exact h3
 have upp:∀{i j:Nat},i<=j->j<n->B i=false->B j=false:=λ{i j} h1 h2 h3=>by
  cases e:B j with
  | false=>rfl
  | true=>rw[low h1 h2 e]at h3;cases h3
 refine wpS_bind (hB hint hh _ ?_)
 cases hr:B hint with
 | true=>
  dsimp only;rw[if_pos rfl];refine wpS_bind (wpS_mono (wpS_forRange (I:=λx c st'=>st'=st/\∃l f,c=(none,l,f)/\l<f/\x+1<=f/\hint+l<n/\B (hint+l)=true)
   (Q:=λc st'=>st'=st/\∃l f,c=(none,l,f)/\l<f/\hint+l<n/\B (hint+l)=true/\(f≥n-hint∨hint+f<n/\B (hint+f)=false)) ?step ?fin ⟨rfl,0,1,rfl,by omega,by omega,hh,hr⟩) ?post)
  case post=>
   rintro c jT ⟨e0,l,f,rfl,a1,a2,a3,a4⟩;rw[e0];have h1:hint+l+1<=hint+min f (n-hint):=by omega
   have h2:hint+min f (n-hint)<=n:=by omega
   have h3:∀i,i<hint+l+1->B i=true:=λi hi=>low (by omega) a2 a3;have h4:∀i,hint+min f (n-hint)<=i->i<n->B i=false:=λi hi hn=>by
    rcases a4 with a4 | a4
    ·omega
    ·exact upp (by omega) hn a4.2
   dsimp only;generalize hint+l+1=lo at h1 h3⊢;generalize hint+min f (n-hint)=hi at h1 h2 h4⊢
   walk_at "galBin"
  case fin=>
   rintro c st' ⟨rfl,l,f,rfl,a1,a2,a3,a4⟩;exact⟨rfl,l,f,rfl,a1,a3,a4,.inl (by omega)⟩
  case step=>
   rintro x c st' _ hx ⟨rfl,l,f,rfl,a1,a2,a3,a4⟩;dsimp only;by_cases e:f≥n-hint
   ·rw[if_pos e]
    exact wpS_pure ⟨rfl,l,f,rfl,a1,a3,a4,.inl e⟩
   ·rw[if_neg e]
    refine wpS_bind (hB _ (by omega) _ ?_);dsimp only
    cases q:B (hint+f)with
    | true=>
     rw[if_neg (by decide)];exact wpS_pure ⟨rfl,f,2*f+1,rfl,by omega,by omega,by omega,q⟩
    | false=>
     rw[if_pos (by decide)];exact wpS_pure ⟨rfl,l,f,rfl,a1,a3,a4,.inr ⟨by omega,q⟩⟩
 | false=>
  dsimp only;rw[if_neg (by decide)];refine wpS_bind (wpS_mono (wpS_forRange (I:=λx c st'=>st'=st/\∃l f,c=(none,l,f)/\l<f/\x+1<=f/\l<=hint/\B (hint-l)=false)
   (Q:=λc st'=>st'=st/\∃l f,c=(none,l,f)/\l<f/\l<=hint/\B (hint-l)=false/\(f≥hint+1∨f<=hint/\B (hint-f)=true)) ?step ?fin ⟨rfl,0,1,rfl,by omega,by omega,by omega,hr⟩) ?post)
  case post=>
   rintro c jT ⟨e0,l,f,rfl,a1,a2,a3,a4⟩;rw[e0];have h1:hint+1-min f (hint+1)<=hint-l:=by omega
   have h2:hint-l<=n:=by omega
   have h3:∀i,i<hint+1-min f (hint+1)->B i=true:=λi hi=>by
    rcases a4 with a4 | a4
    ·omega
    ·exact low (j:=hint-f) (by omega) (by omega) a4.2
   have h4:∀i,hint-l<=i->i<n->B i=false:=λi hi hn=>upp hi hn a3;dsimp only;generalize hint+1-min f (hint+1)=lo at h1 h3⊢;generalize hint-l=hi at h1 h2 h4⊢
   walk_at "galBin"
  case fin=>
   rintro c st' ⟨rfl,l,f,rfl,a1,a2,a3,a4⟩;exact⟨rfl,l,f,rfl,a1,a3,a4,.inl (by omega)⟩
  case step=>
   rintro x c st' _ hx ⟨rfl,l,f,rfl,a1,a2,a3,a4⟩;dsimp only;by_cases e:f≥hint+1
   ·rw[if_pos e]
    exact wpS_pure ⟨rfl,l,f,rfl,a1,a3,a4,.inl e⟩
   ·rw[if_neg e]
    refine wpS_bind (hB _ (by omega) _ ?_);dsimp only
    cases q:B (hint-f)with
    | true=>
     rw[if_pos rfl];exact wpS_pure ⟨rfl,l,f,rfl,a1,a3,a4,.inr ⟨by omega,q⟩⟩
    | false=>
     rw[if_neg (by decide)];exact wpS_pure ⟨rfl,f,2*f+1,rfl,by omega,by omega,by omega,q⟩
end
noncomputable abbrev setG (st:SortSt)(g:Nat):SortSt:=SortSt.mk' (kindOf st) (arrOf st) (pendingOf st) g (failedOf st)
noncomputable def Zkh:Array Keyed->Array Keyed->StateT SortSt Sem (Array Keyed):=sortPriv% PySem.Builtin.mergeLo
noncomputable def Zki:Array Keyed->Array Keyed->StateT SortSt Sem (Array Keyed):=sortPriv% PySem.Builtin.mergeHi
section
variable (rk:Keyed->Int)
noncomputable def SL (l:List Keyed):Prop:=l.Pairwise λx y=>rk x<=rk y
structure Jm (a b out:Array Keyed)(ia ib:Nat):Prop where
 la:ia<=a.size
 lb:ib<=b.size
 pm:out.toList.Perm (a.toList.take ia++b.toList.take ib)
 so:SL rk out.toList
 ga:∀x∈out.toList,∀y∈a.toList.drop ia,rk x<=rk y
 gb:∀x∈out.toList,∀y∈b.toList.drop ib,rk x<=rk y
variable {rk}{a b out:Array Keyed}{ia ib:Nat}
theorem Vx {l:List Keyed}{i:Nat}{x:Keyed}(h:l[i]?=some x):l.drop i=x::l.drop (i+1):=by
 obtain⟨hl,e⟩:=qw.mp h;rw[qat hl,e]
theorem Vy {l:List Keyed}{i:Nat}{x:Keyed}(h:l[i]?=some x):l.take (i+1)=l.take i ++ [x]:=by
 obtain⟨hl,e⟩:=qw.mp h;rw[List.take_succ_eq_append_getElem hl,e]
theorem SL.drop {l:List Keyed}(h:SL rk l)(i:Nat):SL rk (l.drop i):=h.sublist (List.drop_sublist _ _)
theorem SL.head {l:List Keyed}(h:SL rk l){i:Nat}{x:Keyed}(hx:l[i]?=some x):∀y∈l.drop i,rk x<=rk y:=λy hy=>by
 have:=h.drop i;rw[Vx hx]at this hy;rcases qq.mp hy with rfl | hy
 ·exact yO _
 ·exact(yf.mp this).1 y hy
theorem WQ {l:Array Keyed}{i:Nat}{x:Keyed}(h:l[i]?=some x):l.toList[i]?=some x:=by rw[qA];exact h
theorem Jm.pushB (h:Jm rk a b out ia ib)(hb:SL rk b.toList){x:Keyed}(hx:b[ib]?=some x)(hle:∀y∈a.toList.drop ia,rk x<=rk y):Jm rk a b (out.push x) ia (ib+1):=by
 have hx':=WQ hx;have hl:ib<b.size:=by
  have:=(qw.mp hx').1;simpa using this
 have hd:=hb.head hx';refine⟨h.la,hl,?_,?_,λo ho y hy=>?_,λo ho y hy=>?_⟩
 ·rw[ze,Vy hx',<-qM]
  exact h.pm.append_right _
 ·rw[ze]
  refine qW.mpr ⟨h.so,yg _ _,λo ho y hy=>?_⟩;rw[qz.mp hy];exact h.gb o ho x (by rw[Vx hx'];simp)
 ·rw[ze]at ho
  rcases qR.mp ho with ho | ho
  ·exact h.ga o ho y hy
  ·rw[qz.mp ho];exact hle y hy
 ·rw[ze]at ho
  have hy':y∈b.toList.drop ib:=by rw[Vx hx'];exact qQ _ hy
  rcases qR.mp ho with ho | ho
  ·exact h.gb o ho y hy'
  ·rw[qz.mp ho];exact hd y hy'
theorem Jm.pushA (h:Jm rk a b out ia ib)(ha:SL rk a.toList){x:Keyed}(hx:a[ia]?=some x)(hle:∀y∈b.toList.drop ib,rk x<=rk y):Jm rk a b (out.push x) (ia+1) ib:=by
 have hx':=WQ hx;have hl:ia<a.size:=by
  have:=(qw.mp hx').1;simpa using this
 have hd:=ha.head hx';refine⟨hl,h.lb,?_,?_,λo ho y hy=>?_,λo ho y hy=>?_⟩
 ·rw[ze,Vy hx']
  refine(h.pm.append_right _).trans ?_;rw[qM,qM];exact qaW _ yu
 ·rw[ze]
  refine qW.mpr ⟨h.so,yg _ _,λo ho y hy=>?_⟩;rw[qz.mp hy];exact h.ga o ho x (by rw[Vx hx'];simp)
 ·rw[ze]at ho
  have hy':y∈a.toList.drop ia:=by rw[Vx hx'];exact qQ _ hy
  rcases qR.mp ho with ho | ho
  ·exact h.ga o ho y hy'
  ·rw[qz.mp ho];exact hd y hy'
 ·rw[ze]at ho
  rcases qR.mp ho with ho | ho
  ·exact h.gb o ho y hy
  ·rw[qz.mp ho];exact hle y hy
theorem ZfF {xs:Array Keyed}{i k:Nat}(h:i+k<xs.size)(out:Array Keyed):out++xs.extract i (i+(k+1))=(out++xs.extract i (i+k)).push xs[i+k]:=by
 apply Array.ext';simp only[zb,yU,ze,yr,qM];congr 1;have e1:i+(k+1)-i=k+1:=by omega
 have e2:i+k-i=k:=by omega
 rw[e1,e2];have hg:(xs.toList.drop i)[k]?=some xs[i+k]:=by rw[zV,qA,qf h]
 exact Vy hg
theorem Jm.bulkA (ha:SL rk a.toList):∀(k:Nat),Jm rk a b out ia ib->ia+k<=a.size->(∀i x,i<k->a[ia+i]?=some x->∀y∈b.toList.drop ib,rk x<=rk y)->Jm rk a b (out++a.extract ia (ia+k)) (ia+k) ib
 | 0,h,_,_=>by
  have:out++a.extract ia (ia+0)=out:=by simp;omega
  rw[this];exact h
 | k+1,h,hk,hle=>by
  have hi:ia+k<a.size:=by omega
  have ih:=Jm.bulkA ha k h (by omega) λi x hi=>hle i x (by omega);rw[ZfF hi];exact ih.pushA ha (qf hi) (hle k _ (by omega) (qf hi))
theorem Jm.bulkB (hb:SL rk b.toList):∀(k:Nat),Jm rk a b out ia ib->ib+k<=b.size->(∀i x,i<k->b[ib+i]?=some x->∀y∈a.toList.drop ia,rk x<=rk y)->Jm rk a b (out++b.extract ib (ib+k)) ia (ib+k)
 | 0,h,_,_=>by
  have:out++b.extract ib (ib+0)=out:=by simp;omega
  rw[this];exact h
 | k+1,h,hk,hle=>by
  have hi:ib+k<b.size:=by omega
  have ih:=Jm.bulkB hb k h (by omega) λi x hi=>hle i x (by omega);rw[ZfF hi];exact ih.pushB hb (qf hi) (hle k _ (by omega) (qf hi))
noncomputable def Mg (rk:Keyed->Int)(a b r:Array Keyed):Prop:=r.toList.Perm (a.toList++b.toList)/\SL rk r.toList
theorem VV (xs:Array Keyed)(i:Nat):(xs.extract i xs.size).toList=xs.toList.drop i:=by
 rw[yU,yr,qcD];rw[zW,qB];exact qp _
theorem Jm.done (h:Jm rk a b out ia ib)(ha:SL rk a.toList)(hb:SL rk b.toList)(e:ib=b.size∨ia=a.size):Mg rk a b (out++a.extract ia a.size++b.extract ib b.size):=by
 refine⟨?_,?_⟩
 ·rw[zb,zb,VV,VV]
  refine((h.pm.append_right _).append_right _).trans ?_;rw[qM,qM];have:(b.toList.take ib++(a.toList.drop ia++b.toList.drop ib)).Perm (a.toList.drop ia++(b.toList.take ib++b.toList.drop ib)):=by
   rw[<-qM,<-qM];exact yu.append_right _
  refine(this.append_left _).trans ?_;rw[zk,<-qM,zk]
 ·rw[SL,zb,zb,VV,VV]
  rcases e with e | e
  ·have z:b.toList.drop ib=[]:=by rw[e];exact ym (by simp)
   rw[z,zj];exact qW.mpr ⟨h.so,ha.drop ia,λx hx y hy=>h.ga x hx y hy⟩
  ·have z:a.toList.drop ia=[]:=by rw[e];exact ym (by simp)
   rw[z,zj];exact qW.mpr ⟨h.so,hb.drop ib,λx hx y hy=>h.gb x hx y hy⟩
theorem Jm.last (h:Jm rk a b out ia ib)(ha:SL rk a.toList)(hb:SL rk b.toList)(e:ia+1=a.size)(ZR:∀y∈b.toList,∀x,a[a.size-1]?=some x->rk y<=rk x):Mg rk a b (out++b.extract ib b.size++a.extract ia a.size):=by
 have hi:ia<a.size:=by omega
 refine⟨?_,?_⟩
 ·rw[zb,zb,VV,VV]
  refine((h.pm.append_right _).append_right _).trans ?_;rw[qM (a.toList.take ia),zk,qM];refine(yu.append_left _).trans ?_;rw[<-qM,zk]
 ·rw[SL,zb,zb,VV,VV]
  have hx:=qf hi;have z:a.toList.drop ia=[a[ia]]:=by
   rw[Vx (WQ hx)];rw[ym (by simp;omega)]
  rw[z];refine qW.mpr ⟨qW.mpr ⟨h.so,hb.drop ib,λx hx y hy=>h.gb x hx y hy⟩,yg _ _,λx hx2 y hy=>?_⟩;rw[qz.mp hy];rcases qR.mp hx2 with hx2 | hx2
  ·exact h.ga x hx2 _ (by rw[z];simp)
  ·refine ZR x (qa0 hx2) _ ?_
   rw[show a.size-1=ia by omega];exact hx
end
structure Sim (st st':SortSt):Prop where
 kind:kindOf st'=kindOf st
 arr:arrOf st'=arrOf st
 pend:pendingOf st'=pendingOf st
 fail:failedOf st'=failedOf st
theorem Sim.refl (st:SortSt):Sim st st:=⟨rfl,rfl,rfl,rfl⟩
theorem Sim.setG {st st':SortSt}(h:Sim st st')(g:Nat):Sim st (setG st' g):=⟨h.kind,h.arr,h.pend,h.fail⟩
section
variable {M:Model}{A:xC}{E:xD}{s:Shared}
noncomputable def Wu (M:Model)(A:xC)(E:xD)(s:Shared)(rk:Keyed->Int)(κ:SortKind)(In:Keyed->Prop):Prop:=
 ∀x y,In x->In y->∀(st:SortSt) (F:Option Bool->SortSt->Prop),kindOf st=κ->F (some (decide (rk x<rk y))) st->wpS M A E s (lt' x y) F st
variable {rk:Keyed->Int}{κ:SortKind}{In:Keyed->Prop}
theorem YR {xs:Array Keyed}{i:Nat}{x:Keyed}{st:SortSt}{F:Keyed->SortSt->Prop}(h:xs[i]?=some x)(k:F x st):wpS M A E s (elem' xs i) F st:=by
 rw[elem'_eq,h];exact wpS_pure k
theorem ZfG {key:Keyed}{arr:Array Keyed}{base n hint:Nat}{st:SortSt}{Q:Option Nat->SortSt->Prop}(C:Wu M A E s rk κ In)(hk:kindOf st=κ)(hkey:In key)(hin:∀x∈arr.toList,In x)(hs:SL rk (arr.toList.drop base))(hb:base+n<=arr.size)(hh:hint<n)
  (k:∀r,r<=n->(∀i x,i<r->arr[base+i]?=some x->rk x<=rk key)->(∀i x,r<=i->i<n->arr[base+i]?=some x->rk key<rk x)->Q (some r) st):wpS M A E s (Ba false key arr base n hint) Q st:=by
 have hx:∀i,i<n->∃x,arr[base+i]?=some x:=λi hi=>⟨arr[base+i]'(by omega),qf (by omega)⟩;have le:∀i j x y,i<j->j<n->arr[base+i]?=some x->arr[base+j]?=some y->rk x<=rk y:=λi j x y hij hj ex ey=>by
  have e1:(arr.toList.drop base)[i]?=some x:=by rw[zV,qA];exact ex
  have e2:(arr.toList.drop base)[j]?=some y:=by rw[zV,qA];exact ey
  obtain⟨l1,e1⟩:=qw.mp e1;obtain⟨l2,e2⟩:=qw.mp e2;have:=zx.mp hs i j l1 l2 hij;rw[e1,e2]at this;exact this
 refine B9 (λi=>match arr[base+i]? with | some x=>!decide (rk key<rk x) | none=>false) hh (λi j hij hj h=>?_) (λi hi F hF=>?_) λr h1 h2 h3=>k r h1 (λi x hi ex=>?_) λi x hi hn ex=>?_
 ·obtain⟨x,ex⟩:=hx i (by omega)
  obtain⟨y,ey⟩:=hx j hj;simp only[ex,ey]at h⊢;have:=le i j x y hij hj ex ey;simp only[yV,decide_eq_false_iff_not]at h⊢;omega
 ·obtain⟨x,ex⟩:=hx i hi
  unfold Bb;refine wpS_bind (YR ex ?_);simp only[qX,if_false];refine wpS_bind (C key x hkey (hin x (zd.mpr (zo ex))) st _ hk ?_);refine wpS_pure ?_;simp only[ex]at hF;exact hF
 ·have:=h2 i hi
  simp only[ex,yV,decide_eq_false_iff_not]at this;omega
 ·have:=h3 i hi hn
  simp only[ex,Bool.not_eq_false',decide_eq_true_eq]at this;exact this
theorem Zht {key:Keyed}{arr:Array Keyed}{base n hint:Nat}{st:SortSt}{Q:Option Nat->SortSt->Prop}(C:Wu M A E s rk κ In)(hk:kindOf st=κ)(hkey:In key)(hin:∀x∈arr.toList,In x)(hs:SL rk (arr.toList.drop base))(hb:base+n<=arr.size)(hh:hint<n)
  (k:∀r,r<=n->(∀i x,i<r->arr[base+i]?=some x->rk x<rk key)->(∀i x,r<=i->i<n->arr[base+i]?=some x->rk key<=rk x)->Q (some r) st):wpS M A E s (Ba true key arr base n hint) Q st:=by
 have hx:∀i,i<n->∃x,arr[base+i]?=some x:=λi hi=>⟨arr[base+i]'(by omega),qf (by omega)⟩;have le:∀i j x y,i<j->j<n->arr[base+i]?=some x->arr[base+j]?=some y->rk x<=rk y:=λi j x y hij hj ex ey=>by
  have e1:(arr.toList.drop base)[i]?=some x:=by rw[zV,qA];exact ex
  have e2:(arr.toList.drop base)[j]?=some y:=by rw[zV,qA];exact ey
  obtain⟨l1,e1⟩:=qw.mp e1;obtain⟨l2,e2⟩:=qw.mp e2;have:=zx.mp hs i j l1 l2 hij;rw[e1,e2]at this;exact this
 refine B9 (λi=>match arr[base+i]? with | some x=>decide (rk x<rk key) | none=>false) hh (λi j hij hj h=>?_) (λi hi F hF=>?_) λr h1 h2 h3=>k r h1 (λi x hi ex=>?_) λi x hi hn ex=>?_
 ·obtain⟨x,ex⟩:=hx i (by omega)
  obtain⟨y,ey⟩:=hx j hj;simp only[ex,ey]at h⊢;have:=le i j x y hij hj ex ey;simp only[decide_eq_true_eq]at h⊢;omega
 ·obtain⟨x,ex⟩:=hx i hi
  unfold Bb;refine wpS_bind (YR ex ?_);simp only[if_true];refine C x key (hin x (zd.mpr (zo ex))) hkey st _ hk ?_;simp only[ex]at hF;exact hF
 ·have:=h2 i hi
  simp only[ex,decide_eq_true_eq]at this;exact this
 ·have:=h3 i hi hn
  simp only[ex,decide_eq_false_iff_not]at this;omega
theorem ZmE {b:Array Keyed}{ib k:Nat}{v:Int}(h:∀i x,k<=i->i<b.size-ib->b[ib+i]?=some x->v<=rk x):∀y∈b.toList.drop (ib+k),v<=rk y:=λy hy=>by
 obtain⟨j,hj⟩:=zI.mp hy;rw[zV,qA]at hj;have hl:ib+k+j<b.size:=(zJ.mp hj).1;exact h (k+j) y (by omega) (by omega) (by rw[<-hj];congr 1;omega)
set_option hygiene false in
local macro_rules | `(tactic| walk_at "loEnd")=>`(tactic| (
  refine wpS_bind (YR hax ?_);have J5:=J4.pushA ha hax hge;by_cases d3:(ia2+1+1==a.size)=true
  ·rw[if_pos d3]
   exact wpS_pure ⟨hsim,.inl ⟨_,_,_,_,_,_,_,rfl,J5.last ha hb (by simpa using d3) ZR⟩⟩
  ·rw[if_neg d3]
   have d3':ia2+1+1≠a.size:=by simpa using d3
   split
   ·exact wpS_pure ⟨hsim,.inr ⟨_,_,_,_,_,_,rfl,J5,by omega,by omega,by omega⟩⟩
   ·exact wpS_pure ⟨hsim,_,_,_,_,_,_,rfl,J5,by omega,by omega,by omega⟩))
set_option hygiene false in
local macro_rules | `(tactic| walk_at "loTail")=>`(tactic| (
  refine wpS_bind (YR hbx ?_);have J3:=J2.pushB hb hbx hgt;by_cases d1:(ib+1==b.size)=true
  ·rw[if_pos d1]
   exact wpS_pure ⟨hsim,.inl ⟨_,_,_,_,_,_,_,rfl,J3.done ha hb (.inl (by simpa using d1))⟩⟩
  ·rw[if_neg d1]
   have d1':ib+1≠b.size:=by simpa using d1
   have hax:=qf (xs:=a) (i:=ia2) (by omega);refine wpS_bind (YR hax ?_);refine wpS_bind (Zht C hk2 (hia _ (zd.mpr (zo hax))) hib (hb.drop _) (by omega) (by omega) λk1 g1 g2 g3=>?_);have hge:=ZmE (ib:=ib+1) (k:=k1) g3;dsimp only;by_cases e1:k1 > 0
   ·rw[if_pos e1]
    have J4:=Jm.bulkB hb k1 J3 (by omega) λi x hi hx y hy=>qaB (yH (g2 i x hi hx)) (ha.head (WQ hax) y hy);by_cases d2:(ib+1+k1==b.size)=true
    ·rw[if_pos d2]
     exact wpS_pure ⟨hsim,.inl ⟨_,_,_,_,_,_,_,rfl,J4.done ha hb (.inl (by simpa using d2))⟩⟩
    ·rw[if_neg d2]
     have d2':ib+1+k1≠b.size:=by simpa using d2
     walk_at "loEnd"
   ·rw[if_neg e1]
    have z:k1=0:=by omega
    subst z;have J4:=J3;have d2':ib+1+0≠b.size:=d1'
    walk_at "loEnd"))
set_option hygiene false in
local macro_rules | `(tactic| walk_at "loHead")=>`(tactic| (
  refine wpS_bind (wpS_modify ?_);have hsim:=hsim0.setG gm;have hbx:=qf (xs:=b) (i:=ib) (by omega);refine wpS_bind (YR hbx ?_);have hk2:kindOf (setG jT gm)=κ:=hsim.kind.trans hk;refine wpS_bind (ZfG C hk2 (hib _ (zd.mpr (zo hbx))) hia (ha.drop _) (by omega) (by omega) λk0 f1 f2 f3=>?_);dsimp only;have hgt0:=ZmE (b:=a) (ib:=ia) (k:=k0) (v:=rk b[ib]) λi x h1 h2 h3=>yH (f3 i x h1 h2 h3);by_cases e0:k0 > 0
  ·rw[if_pos e0]
   have J2:=Jm.bulkA ha k0 J (by omega) λi x hi hx y hy=>qaB (f2 i x hi hx) (hb.head (WQ hbx) y hy);by_cases d4:(ia+k0+1==a.size)=true
   ·rw[if_pos d4]
    exact wpS_pure ⟨hsim,.inl ⟨_,_,_,_,_,_,_,rfl,J2.last ha hb (by simpa using d4) ZR⟩⟩
   ·rw[if_neg d4]
    have d4':ia+k0+1≠a.size:=by simpa using d4
    by_cases d5:(ia+k0==a.size)=true
    ·rw[if_pos d5]
     exact wpS_pure ⟨hsim,.inl ⟨_,_,_,_,_,_,_,rfl,J2.done ha hb (.inr (by simpa using d5))⟩⟩
    ·rw[if_neg d5]
     have d5':ia+k0≠a.size:=by simpa using d5
     have hgt:=hgt0;have i1:ia+k0+1<a.size:=by omega
     have i2:ia<=ia+k0:=by omega
     generalize ia+k0=ia2 at J2 hgt i1 i2⊢
     walk_at "loTail"
  ·rw[if_neg e0]
   have z0:k0=0:=by omega
   subst z0;have J2:=J;have hgt:∀y∈a.toList.drop ia,rk b[ib]<=rk y:=hgt0;have i1:ia+1<a.size:=l1;have i2:ia<=ia:=qp _;generalize e2:ia=ia2 at J2 hgt i1⊢;rw[e2]at i2
   walk_at "loTail"))
theorem ZgH {a b:Array Keyed}{st:SortSt}{Q:Array Keyed->SortSt->Prop}(C:Wu M A E s rk κ In)(hk:kindOf st=κ)(hia:∀x∈a.toList,In x)(hib:∀x∈b.toList,In x)(ha:SL rk a.toList)(hb:SL rk b.toList)(a0:0<a.size)(b0:0<b.size)
  (first:∀x,b[0]?=some x->∀y∈a.toList,rk x<=rk y) (ZR:∀y∈b.toList,∀x,a[a.size-1]?=some x->rk y<=rk x)
  (k:∀r st',Mg rk a b r->Sim st st'->Q r st'):wpS M A E s (Zkh a b) Q st:=by
 refine wpS_bind (wpS_lift (wpAny_rule ⟨rfl,?_⟩));have hb0:=qf b0;refine wpS_bind (YR hb0 ?_);have J0:Jm rk a b #[b[0]] 0 1:=by
  have e:Jm rk a b #[] 0 0:=⟨zC _,zC _,by simp,zY,λx hx=>by simp at hx,λx hx=>by simp at hx⟩;exact e.pushB hb hb0 λy hy=>first _ hb0 y (by simpa using hy)
 dsimp only;by_cases c1:(1==b.size)=true
 ·rw[if_pos c1]
  have:1=b.size:=by simpa using c1
  exact wpS_pure (k _ _ (J0.done ha hb (.inl this)) (Sim.refl st))
 ·rw[if_neg c1]
  by_cases c2:(0+1==a.size)=true
  ·rw[if_pos c2]
   have:0+1=a.size:=by simpa using c2
   exact wpS_pure (k _ _ (J0.last ha hb this ZR) (Sim.refl st))
  ·rw[if_neg c2]
   refine wpS_bind (wpS_get ?_);have c1':1≠b.size:=by simpa using c1
   have c2':0+1≠a.size:=by simpa using c2
   refine wpS_bind (wpS_mono (wpS_forRange (I:=λy c st'=>Sim st st'/\∃out ia ib g,c=(none,out,ia,ib,g)/\Jm rk a b out ia ib/\ia+1<a.size/\ib<b.size/\y<=ia+ib)
    (Q:=λc st'=>Sim st st'/\∃r out ia ib g,c=(some r,out,ia,ib,g)/\Mg rk a b r) ?step ?fin ⟨Sim.refl st,_,_,_,_,rfl,J0,by omega,by omega,by omega⟩) ?post)
   case post=>
    rintro c st' ⟨h1,r,out,ia,ib,g,rfl,h2⟩;exact wpS_pure (k r st' h2 h1)
   case fin=>
    rintro c st' ⟨h1,out,ia,ib,g,rfl,J,l1,l2,h3⟩;omega
   case step=>
    rintro y c jW _ hy ⟨hs1,out,ia,ib,g,rfl,J,l1,l2,h3⟩;dsimp only;refine wpS_bind (wpS_mono (wpS_forRange (I:=λx c st'=>st'=jW/\∃o2 i2 j2 p q,c=(none,o2,i2,j2,p,q)/\Jm rk a b o2 i2 j2/\i2+1<a.size/\j2<b.size/\ia+ib+x<=i2+j2)
     (Q:=λc st'=>st'=jW/\((∃r o2 i2 j2 p q,c=(some r,o2,i2,j2,p,q)/\Mg rk a b r)∨∃o2 i2 j2 p q,c=(none,o2,i2,j2,p,q)/\Jm rk a b o2 i2 j2/\i2+1<a.size/\j2<b.size/\ia+ib+1<=i2+j2)) ?step1 ?fin1 ⟨rfl,_,_,_,_,_,rfl,J,l1,l2,by omega⟩) ?post1)
    case fin1=>
     rintro c st' ⟨rfl,o2,i2,j2,p,q,rfl,J2,m1,m2,m3⟩;omega
    case step1=>
     rintro x c st' _ hx ⟨rfl,o2,i2,j2,p,q,rfl,J2,m1,m2,m3⟩;dsimp only;have hbx:=qf (xs:=b) (i:=j2) m2;have hax:=qf (xs:=a) (i:=i2) (by omega);refine wpS_bind (YR hbx (wpS_bind (YR hax ?_)));refine wpS_bind (C _ _ (hib _ (zd.mpr (zo hbx))) (hia _ (zd.mpr (zo hax))) _ _ (hs1.kind.trans hk) ?_);dsimp only;by_cases w:rk b[j2]<rk a[i2]
     ·rw[if_pos (decide_eq_true w)]
      refine wpS_bind (YR hbx ?_);have J3:=J2.pushB hb hbx λy hy=>qaB (yH w) (ha.head (WQ hax) y hy);by_cases d:(j2+1==b.size)=true
      ·rw[if_pos d]
       exact wpS_pure ⟨rfl,.inl ⟨_,_,_,_,_,_,rfl,J3.done ha hb (.inl (by simpa using d))⟩⟩
      ·rw[if_neg d]
       have d':j2+1≠b.size:=by simpa using d
       split
       ·exact wpS_pure ⟨rfl,.inr ⟨_,_,_,_,_,rfl,J3,m1,by omega,by omega⟩⟩
       ·exact wpS_pure ⟨rfl,_,_,_,_,_,rfl,J3,m1,by omega,by omega⟩
     ·rw[if_neg (by simpa using w)]
      refine wpS_bind (YR hax ?_);have J3:=J2.pushA ha hax λy hy=>qaB (Int.not_lt.mp w) (hb.head (WQ hbx) y hy);by_cases d:(i2+1+1==a.size)=true
      ·rw[if_pos d]
       exact wpS_pure ⟨rfl,.inl ⟨_,_,_,_,_,_,rfl,J3.last ha hb (by simpa using d) ZR⟩⟩
      ·rw[if_neg d]
       have d':i2+1+1≠a.size:=by simpa using d
       split
       ·exact wpS_pure ⟨rfl,.inr ⟨_,_,_,_,_,rfl,J3,by omega,m2,by omega⟩⟩
       ·exact wpS_pure ⟨rfl,_,_,_,_,_,rfl,J3,by omega,m2,by omega⟩
    case post1=>
     rintro c st' ⟨rfl,h | h⟩
     ·obtain⟨r,o2,i2,j2,p,q,rfl,h⟩:=h
      exact wpS_pure ⟨hs1,_,_,_,_,_,rfl,h⟩
     ·obtain⟨o2,i2,j2,p,q,rfl,J2,m1,m2,m3⟩:=h
      dsimp only;refine wpS_bind (wpS_lift (wpAny_rule ⟨rfl,?_⟩));refine wpS_bind (wpS_mono (wpS_forRange (I:=λx c jT=>Sim st jT/\∃o3 i3 j3 g p q,c=(none,o3,i3,j3,g,p,q)/\Jm rk a b o3 i3 j3/\i3+1<a.size/\j3<b.size/\i2+j2+x<=i3+j3)
       (Q:=λc jT=>Sim st jT/\((∃r o3 i3 j3 g p q,c=(some r,o3,i3,j3,g,p,q)/\Mg rk a b r)∨∃o3 i3 j3 g p q,c=(none,o3,i3,j3,g,p,q)/\Jm rk a b o3 i3 j3/\i3+1<a.size/\j3<b.size/\i2+j2<=i3+j3)) ?step2 ?fin2 ⟨hs1,_,_,_,_,_,_,rfl,J2,m1,m2,by omega⟩) ?post2)
      case fin2=>
       rintro c jT ⟨h1,o3,i3,j3,g,p,q,rfl,J3,n1,n2,n3⟩;omega
      case post2=>
       rintro c jT ⟨h1,h | h⟩
       ·obtain⟨r,o3,i3,j3,g,p,q,rfl,h⟩:=h
        exact wpS_pure ⟨h1,_,_,_,_,_,rfl,h⟩
       ·obtain⟨o3,i3,j3,g,p,q,rfl,J3,n1,n2,n3⟩:=h
        dsimp only;exact wpS_bind (wpS_modify (wpS_pure ⟨h1.setG _,_,_,_,_,rfl,J3,n1,n2,by omega⟩))
      case step2=>
       clear J l1 l2 h3 J2 m1 m2;rintro x c jT _ hx ⟨hsim0,out,ia,ib,g,p,q,rfl,J,l1,l2,n3⟩;dsimp only;refine' (λ(key:∀gm:Nat,(_:Nat->Prop) gm)=>?m1) ?m2
       case m1=>
        by_cases g1:g > 1
        ·rw[if_pos g1]
         generalize g-1=gm;exact key gm
        ·rw[if_neg g1]
         generalize g=gm;exact key gm
       case m2=>
        intro gm
        walk_at "loHead"
end
section
variable (rk:Keyed->Int)
structure Jh (a b out:Array Keyed)(na nb:Nat):Prop where
 la:na<=a.size
 lb:nb<=b.size
 pm:out.toList.Perm (a.toList.drop na++b.toList.drop nb)
 so:out.toList.Pairwise λx y=>rk y<=rk x
 ga:∀x∈out.toList,∀y∈a.toList.take na,rk y<=rk x
 gb:∀x∈out.toList,∀y∈b.toList.take nb,rk y<=rk x
variable {rk}{a b out:Array Keyed}{na nb:Nat}
theorem SL.last {l:List Keyed}(h:SL rk l){i:Nat}{x:Keyed}(hx:l[i]?=some x):∀y∈l.take (i+1),rk y<=rk x:=λy hy=>by
 have:=h.sublist (zF (i+1) l);rw[Vy hx]at this hy;rcases qR.mp hy with hy | hy
 ·exact(qW.mp this).2.2 y hy x (by simp)
 ·rw[qz.mp hy];exact yO _
theorem Jh.pushB (h:Jh rk a b out na (nb+1))(hb:SL rk b.toList){x:Keyed}(hx:b[nb]?=some x)(hle:∀y∈a.toList.take na,rk y<=rk x):Jh rk a b (out.push x) na nb:=by
 have hx':=WQ hx;have hd:=hb.last hx';refine⟨h.la,by have:=h.lb;omega,?_,?_,λo ho y hy=>?_,λo ho y hy=>?_⟩
 ·rw[ze,Vx hx']
  refine(h.pm.append_right _).trans ?_;rw[qM];exact qaW _ yu
 ·rw[ze]
  refine qW.mpr ⟨h.so,yg _ _,λo ho y hy=>?_⟩;rw[qz.mp hy];exact h.gb o ho x (by rw[Vy hx'];simp)
 ·rw[ze]at ho
  rcases qR.mp ho with ho | ho
  ·exact h.ga o ho y hy
  ·rw[qz.mp ho];exact hle y hy
 ·rw[ze]at ho
  have hy':y∈b.toList.take (nb+1):=by rw[Vy hx'];exact yB _ hy
  rcases qR.mp ho with ho | ho
  ·exact h.gb o ho y hy'
  ·rw[qz.mp ho];exact hd y hy'
theorem Jh.pushA (h:Jh rk a b out (na+1) nb)(ha:SL rk a.toList){x:Keyed}(hx:a[na]?=some x)(hle:∀y∈b.toList.take nb,rk y<=rk x):Jh rk a b (out.push x) na nb:=by
 have hx':=WQ hx;have hd:=ha.last hx';refine⟨by have:=h.la;omega,h.lb,?_,?_,λo ho y hy=>?_,λo ho y hy=>?_⟩
 ·rw[ze,Vx hx']
  refine(h.pm.append_right _).trans ?_;exact yu
 ·rw[ze]
  refine qW.mpr ⟨h.so,yg _ _,λo ho y hy=>?_⟩;rw[qz.mp hy];exact h.ga o ho x (by rw[Vy hx'];simp)
 ·rw[ze]at ho
  have hy':y∈a.toList.take (na+1):=by rw[Vy hx'];exact yB _ hy
  rcases qR.mp ho with ho | ho
  ·exact h.ga o ho y hy'
  ·rw[qz.mp ho];exact hd y hy'
 ·rw[ze]at ho
  rcases qR.mp ho with ho | ho
  ·exact h.gb o ho y hy
  ·rw[qz.mp ho];exact hle y hy
theorem ZfH {xs:Array Keyed}{i n:Nat}(h:i<n)(hn:n<=xs.size)(out:Array Keyed):out++(xs.extract i n).reverse=(out++(xs.extract (i+1) n).reverse).push (xs[i]'(by omega)):=by
 apply Array.ext';simp only[zb,qau,yU,ze,yr,qM];congr 1;have hg:xs.toList[i]?=some (xs[i]'(by omega)):=WQ (qf (by omega));rw[Vx hg,show n-i=(n-(i+1))+1 by omega,qc7,List.reverse_cons]
theorem Jh.bulkA (ha:SL rk a.toList){n:Nat}:∀(k:Nat),k<=n->n<=a.size->Jh rk a b out n nb->(∀i x,n-k<=i->i<n->a[i]?=some x->∀y∈b.toList.take nb,rk y<=rk x)->Jh rk a b (out++(a.extract (n-k) n).reverse) (n-k) nb
 | 0,_,hn,h,_=>by
  have:out++(a.extract (n-0) n).reverse=out:=by simp;omega
  rw[this,qch];exact h
 | k+1,hk,hn,h,hle=>by
  have ih:=Jh.bulkA ha k (by omega) hn h λi x h1=>hle i x (by omega);have e:n-k=n-(k+1)+1:=by omega
  rw[ZfH (by omega) hn,<-e];rw[e]at ih;have:=ih.pushA ha (qf (by omega)) (hle _ _ (by omega) (by omega) (qf (by omega)));rw[<-e]at this;exact this
theorem Jh.bulkB (hb:SL rk b.toList){n:Nat}:∀(k:Nat),k<=n->n<=b.size->Jh rk a b out na n->(∀i x,n-k<=i->i<n->b[i]?=some x->∀y∈a.toList.take na,rk y<=rk x)->Jh rk a b (out++(b.extract (n-k) n).reverse) na (n-k)
 | 0,_,hn,h,_=>by
  have:out++(b.extract (n-0) n).reverse=out:=by simp;omega
  rw[this,qch];exact h
 | k+1,hk,hn,h,hle=>by
  have ih:=Jh.bulkB hb k (by omega) hn h λi x h1=>hle i x (by omega);have e:n-k=n-(k+1)+1:=by omega
  rw[ZfH (by omega) hn,<-e];rw[e]at ih;have:=ih.pushB hb (qf (by omega)) (hle _ _ (by omega) (by omega) (qf (by omega)));rw[<-e]at this;exact this
theorem VR (xs:Array Keyed)(i:Nat):(xs.extract 0 i).toList=xs.toList.take i:=by
 rw[yU,yr,qbj,qch]
theorem Jh.perm (h:Jh rk a b out na nb):(a.toList.take na++b.toList.take nb++out.toList.reverse).Perm (a.toList++b.toList):=by
 refine((List.reverse_perm _).trans h.pm).append_left _ |>.trans ?_;rw[qM];have:(b.toList.take nb++(a.toList.drop na++b.toList.drop nb)).Perm (a.toList.drop na++(b.toList.take nb++b.toList.drop nb)):=by
  rw[<-qM,<-qM];exact yu.append_right _
 refine(this.append_left _).trans ?_;rw[zk,<-qM,zk]
theorem Jh.rev (h:Jh rk a b out na nb):SL rk out.toList.reverse:=qcH.mpr h.so
theorem Jh.done (h:Jh rk a b out na nb)(ha:SL rk a.toList)(hb:SL rk b.toList)(e:na=0∨nb=0):Mg rk a b (a.extract 0 na++b.extract 0 nb++out.reverse):=by
 refine⟨?_,?_⟩
 ·rw[zb,zb,VR,VR,qau]
  exact h.perm
 ·rw[SL,zb,zb,VR,VR,qau]
  rcases e with e | e
  ·rw[e,qcI,yR]
   exact qW.mpr ⟨hb.sublist (zF _ _),h.rev,λx hx y hy=>h.gb y (qaZ.mp hy) x hx⟩
  ·rw[e,qcI,zj]
   exact qW.mpr ⟨ha.sublist (zF _ _),h.rev,λx hx y hy=>h.ga y (qaZ.mp hy) x hx⟩
theorem Jh.first (h:Jh rk a b out na 1)(ha:SL rk a.toList)(bot:∀x,b[0]?=some x->∀y∈a.toList,rk x<=rk y):Mg rk a b (b.extract 0 1++a.extract 0 na++out.reverse):=by
 refine⟨?_,?_⟩
 ·rw[zb,zb,VR,VR,qau]
  exact(yu.append_right _).trans h.perm
 ·rw[SL,zb,zb,VR,VR,qau]
  refine qW.mpr ⟨qW.mpr ⟨?_,ha.sublist (zF _ _),λx hx y hy=>?_⟩,h.rev,λx hx y hy=>?_⟩
  ·have hl:=List.length_take_le 1 b.toList
   cases e:b.toList.take 1 with
   | nil=>exact zY
   | cons z l=>
    rw[e]at hl;have:l=[]:=by simpa using hl
    rw[this];exact yg _ _
  ·have hb0:0<b.size:=h.lb
   have z:b.toList.take 1=[b[0]]:=by
    have:=Vy (l:=b.toList) (i:=0) (WQ (qf hb0));simpa using this
   rw[z]at hx;rw[qz.mp hx];exact bot _ (qf hb0) y (qav hy)
  ·rcases qR.mp hx with hx | hx
   ·exact h.gb y (qaZ.mp hy) x hx
   ·exact h.ga y (qaZ.mp hy) x hx
end
section
variable {M:Model}{A:xC}{E:xD}{s:Shared}{rk:Keyed->Int}{κ:SortKind}{In:Keyed->Prop}
theorem ZmF {b:Array Keyed}{k:Nat}{v:Int}(h:∀i x,i<k->b[0+i]?=some x->rk x<=v):∀y∈b.toList.take k,rk y<=v:=λy hy=>by
 obtain⟨j,hj⟩:=zI.mp hy;have hl:=(qw.mp hj).1;rw[qZ]at hl;rw[zM (by omega),qA]at hj;exact h j y (by omega) (by rw[qad];exact hj)
theorem Jh.pushA' {a b out:Array Keyed}{na nb:Nat}(h:Jh rk a b out na nb)(hn:0<na)(ha:SL rk a.toList){x:Keyed}(hx:a[na-1]?=some x)(hle:∀y∈b.toList.take nb,rk y<=rk x):Jh rk a b (out.push x) (na-1) nb:=by
 obtain⟨m,rfl⟩:∃m,na=m+1:=⟨na-1,by omega⟩;exact h.pushA ha hx hle
theorem Jh.pushB' {a b out:Array Keyed}{na nb:Nat}(h:Jh rk a b out na nb)(hn:0<nb)(hb:SL rk b.toList){x:Keyed}(hx:b[nb-1]?=some x)(hle:∀y∈a.toList.take na,rk y<=rk x):Jh rk a b (out.push x) na (nb-1):=by
 obtain⟨m,rfl⟩:∃m,nb=m+1:=⟨nb-1,by omega⟩;exact h.pushB hb hx hle
theorem Jh.cutA {a b out:Array Keyed}{na nb t:Nat}(h:Jh rk a b out na nb)(ht:t<=na)(ha:SL rk a.toList)(hle:∀i x,t<=i->i<na->a[i]?=some x->∀y∈b.toList.take nb,rk y<=rk x):Jh rk a b (out++(a.extract t na).reverse) t nb:=by
 have:=Jh.bulkA ha (na-t) (by omega) h.la h (by rw[show na-(na-t)=t by omega];exact hle);rw[show na-(na-t)=t by omega]at this;exact this
theorem Jh.cutB {a b out:Array Keyed}{na nb t:Nat}(h:Jh rk a b out na nb)(ht:t<=nb)(hb:SL rk b.toList)(hle:∀i x,t<=i->i<nb->b[i]?=some x->∀y∈a.toList.take na,rk y<=rk x):Jh rk a b (out++(b.extract t nb).reverse) na t:=by
 have:=Jh.bulkB hb (nb-t) (by omega) h.lb h (by rw[show nb-(nb-t)=t by omega];exact hle);rw[show nb-(nb-t)=t by omega]at this;exact this
theorem Jh.first' {a b out:Array Keyed}{na nb:Nat}(h:Jh rk a b out na nb)(e:nb=1)(ha:SL rk a.toList)(bot:∀x,b[0]?=some x->∀y∈a.toList,rk x<=rk y):Mg rk a b (b.extract 0 nb++a.extract 0 na++out.reverse):=by
 subst e;exact h.first ha bot
theorem Zhu {l:Array Keyed}(h:SL rk l.toList){n:Nat}(hn:0<n){x:Keyed}(hx:l[n-1]?=some x):∀y∈l.toList.take n,rk y<=rk x:=by
 have:=h.last (WQ hx);rw[show n-1+1=n by omega]at this;exact this
set_option hygiene false in
local macro_rules | `(tactic| walk_at "hiEnd")=>`(tactic| (
  refine wpS_bind (YR hax ?_);have J5:=J4.pushA' i1 ha hax hge;by_cases d3:(na2-1==0)=true
  ·rw[if_pos d3]
   exact wpS_pure ⟨hsim,.inl ⟨_,_,_,_,_,_,_,rfl,J5.done ha hb (.inl (by simpa using d3))⟩⟩
  ·rw[if_neg d3]
   have d3':na2-1≠0:=by simpa using d3
   split
   ·exact wpS_pure ⟨hsim,.inr ⟨_,_,_,_,_,_,rfl,J5,by omega,by omega,by omega⟩⟩
   ·exact wpS_pure ⟨hsim,_,_,_,_,_,_,rfl,J5,by omega,by omega,by omega⟩))
set_option hygiene false in
local macro_rules | `(tactic| walk_at "hiTail")=>`(tactic| (
  refine wpS_bind (YR hbx ?_);have J3:=J2.pushB' (by omega) hb hbx hgt;by_cases d1:(nb-1==1)=true
  ·rw[if_pos d1]
   exact wpS_pure ⟨hsim,.inl ⟨_,_,_,_,_,_,_,rfl,J3.first' (by simpa using d1) ha first⟩⟩
  ·rw[if_neg d1]
   have d1':nb-1≠1:=by simpa using d1
   have hla:=J2.la;have hax:=qf (xs:=a) (i:=na2-1) (by omega);refine wpS_bind (YR hax ?_);refine wpS_bind (Zht C hk2 (hia _ (zd.mpr (zo hax))) hib (hb.drop _) (by omega) (by omega) λt1 g1 g2 g3=>?_);have hge:=ZmF (b:=b) (k:=t1) λi x h1 h2=>yH (g2 i x h1 h2);have hmax:=Zhu ha i1 hax;dsimp only;by_cases e1:nb-1-t1 > 0
   ·rw[if_pos e1]
    have J4:=J3.cutB g1 hb λi x h1 h2 hx y hy=>qaB (hmax y hy) (g3 i x h1 h2 (by rw[qad];exact hx));by_cases d2:(t1==1)=true
    ·rw[if_pos d2]
     exact wpS_pure ⟨hsim,.inl ⟨_,_,_,_,_,_,_,rfl,J4.first' (by simpa using d2) ha first⟩⟩
    ·rw[if_neg d2]
     have d2':t1≠1:=by simpa using d2
     by_cases d6:(t1==0)=true
     ·rw[if_pos d6]
      exact wpS_pure ⟨hsim,.inl ⟨_,_,_,_,_,_,_,rfl,J4.done ha hb (.inr (by simpa using d6))⟩⟩
     ·rw[if_neg d6]
      have d6':t1≠0:=by simpa using d6
      walk_at "hiEnd"
   ·rw[if_neg e1]
    have z:t1=nb-1:=by omega
    subst z;have J4:=J3
    walk_at "hiEnd"))
set_option hygiene false in
local macro_rules | `(tactic| walk_at "hiHead")=>`(tactic| (
  refine wpS_bind (wpS_modify ?_);have hsim:=hsim0.setG gm;have hlb:=J.lb;have hla0:=J.la;have hbx:=qf (xs:=b) (i:=nb-1) (by omega);refine wpS_bind (YR hbx ?_);have hk2:kindOf (setG jT gm)=κ:=hsim.kind.trans hk;refine wpS_bind (ZfG C hk2 (hib _ (zd.mpr (zo hbx))) hia (ha.drop _) (by omega) (by omega) λt0 f1 f2 f3=>?_);dsimp only;have hgt0:=ZmF (b:=a) (k:=t0) λi x h1 h2=>f2 i x h1 h2;have hbm:=Zhu hb (by omega:0<nb) hbx;by_cases e0:na-t0 > 0
  ·rw[if_pos e0]
   have J2:=J.cutA f1 ha λi x h1 h2 hx y hy=>qaB (hbm y hy) (yH (f3 i x h1 h2 (by rw[qad];exact hx)));by_cases d4:(t0==0)=true
   ·rw[if_pos d4]
    exact wpS_pure ⟨hsim,.inl ⟨_,_,_,_,_,_,_,rfl,J2.done ha hb (.inl (by simpa using d4))⟩⟩
   ·rw[if_neg d4]
    have d4':t0≠0:=by simpa using d4
    have hgt:=hgt0;have i1:0<t0:=by omega
    have i2:t0<=na:=f1;generalize t0=na2 at J2 hgt i1 i2⊢
    walk_at "hiTail"
  ·rw[if_neg e0]
   have z0:t0=na:=by omega
   subst z0;have J2:=J;have hgt:=hgt0;have i1:0<t0:=l1;have i2:t0<=t0:=qp _;generalize e2:t0=na2 at J2 hgt i1⊢;rw[e2]at i2
   walk_at "hiTail"))
theorem ZgI {a b:Array Keyed}{st:SortSt}{Q:Array Keyed->SortSt->Prop}(C:Wu M A E s rk κ In)(hk:kindOf st=κ)(hia:∀x∈a.toList,In x)(hib:∀x∈b.toList,In x)(ha:SL rk a.toList)(hb:SL rk b.toList)(a0:0<a.size)(b0:0<b.size)
  (first:∀x,b[0]?=some x->∀y∈a.toList,rk x<=rk y) (ZR:∀y∈b.toList,∀x,a[a.size-1]?=some x->rk y<=rk x)
  (k:∀r st',Mg rk a b r->Sim st st'->Q r st'):wpS M A E s (Zki a b) Q st:=by
 refine wpS_bind (wpS_lift (wpAny_rule ⟨rfl,?_⟩));have hal:a[a.size-1]?=some (a[a.size-1]'(by omega)):=qf (by omega);dsimp only;refine wpS_bind (YR hal ?_);have J0:Jh rk a b #[a[a.size-1]'(by omega)] (a.size-1) b.size:=by
  have e:Jh rk a b #[] (a.size-1+1) b.size:=⟨by omega,qp _,by
   rw[ym (by simp;omega),ym (by simp)];exact .refl _,zY,λx hx=>by simp at hx,λx hx=>by simp at hx⟩
  exact e.pushA ha hal λy hy=>ZR y (qav hy) _ hal
 by_cases c1:(a.size-1==0)=true
 ·rw[if_pos c1]
  exact wpS_pure (k _ _ (J0.done ha hb (.inl (by simpa using c1))) (Sim.refl st))
 ·rw[if_neg c1]
  have c1':a.size-1≠0:=by simpa using c1
  by_cases c2:(b.size==1)=true
  ·rw[if_pos c2]
   have e1:b.size=1:=by simpa using c2
   have J1:=J0;rw[e1]at J1;have:=J1.first ha first;rw[e1];exact wpS_pure (k _ _ this (Sim.refl st))
  ·rw[if_neg c2]
   have c2':b.size≠1:=by simpa using c2
   refine wpS_bind (wpS_get ?_);refine wpS_bind (wpS_mono (wpS_forRange (I:=λy c st'=>Sim st st'/\∃na nb out g,c=(none,na,nb,out,g)/\Jh rk a b out na nb/\0<na/\1<nb/\na+nb+y<=a.size+b.size)
    (Q:=λc st'=>Sim st st'/\∃r na nb out g,c=(some r,na,nb,out,g)/\Mg rk a b r) ?step ?fin ⟨Sim.refl st,_,_,_,_,rfl,J0,by omega,by omega,by omega⟩) ?post)
   case post=>
    rintro c st' ⟨h1,r,na,nb,out,g,rfl,h2⟩;exact wpS_pure (k r st' h2 h1)
   case fin=>
    rintro c st' ⟨h1,na,nb,out,g,rfl,J,l1,l2,h3⟩;omega
   case step=>
    rintro y c jW _ hy ⟨hs1,na,nb,out,g,rfl,J,l1,l2,h3⟩;dsimp only;refine wpS_bind (wpS_mono (wpS_forRange (I:=λx c st'=>st'=jW/\∃i2 j2 o2 p q,c=(none,i2,j2,o2,p,q)/\Jh rk a b o2 i2 j2/\0<i2/\1<j2/\i2+j2+x<=na+nb)
     (Q:=λc st'=>st'=jW/\((∃r i2 j2 o2 p q,c=(some r,i2,j2,o2,p,q)/\Mg rk a b r)∨∃i2 j2 o2 p q,c=(none,i2,j2,o2,p,q)/\Jh rk a b o2 i2 j2/\0<i2/\1<j2/\i2+j2+1<=na+nb)) ?step1 ?fin1 ⟨rfl,_,_,_,_,_,rfl,J,l1,l2,by omega⟩) ?post1)
    case fin1=>
     rintro c st' ⟨rfl,i2,j2,o2,p,q,rfl,J2,m1,m2,m3⟩;omega
    case step1=>
     rintro x c st' _ hx ⟨rfl,i2,j2,o2,p,q,rfl,J2,m1,m2,m3⟩;dsimp only;have hla:=J2.la;have hlb:=J2.lb;have hbx:=qf (xs:=b) (i:=j2-1) (by omega);have hax:=qf (xs:=a) (i:=i2-1) (by omega);refine wpS_bind (YR hbx (wpS_bind (YR hax ?_)));refine wpS_bind (C _ _ (hib _ (zd.mpr (zo hbx))) (hia _ (zd.mpr (zo hax))) _ _ (hs1.kind.trans hk) ?_);dsimp only;have hA:=Zhu ha m1 hax;have hB:=Zhu hb (by omega:0<j2) hbx;by_cases w:rk b[j2-1]<rk a[i2-1]
     ·rw[if_pos (decide_eq_true w)]
      refine wpS_bind (YR hax ?_);have J3:=J2.pushA' m1 ha hax λy hy=>qaB (hB y hy) (yH w);by_cases d:(i2-1==0)=true
      ·rw[if_pos d]
       exact wpS_pure ⟨rfl,.inl ⟨_,_,_,_,_,_,rfl,J3.done ha hb (.inl (by simpa using d))⟩⟩
      ·rw[if_neg d]
       have d':i2-1≠0:=by simpa using d
       split
       ·exact wpS_pure ⟨rfl,.inr ⟨_,_,_,_,_,rfl,J3,by omega,m2,by omega⟩⟩
       ·exact wpS_pure ⟨rfl,_,_,_,_,_,rfl,J3,by omega,m2,by omega⟩
     ·rw[if_neg (by simpa using w)]
      refine wpS_bind (YR hbx ?_);have J3:=J2.pushB' (by omega) hb hbx λy hy=>qaB (hA y hy) (Int.not_lt.mp w);by_cases d:(j2-1==1)=true
      ·rw[if_pos d]
       exact wpS_pure ⟨rfl,.inl ⟨_,_,_,_,_,_,rfl,J3.first' (by simpa using d) ha first⟩⟩
      ·rw[if_neg d]
       have d':j2-1≠1:=by simpa using d
       split
       ·exact wpS_pure ⟨rfl,.inr ⟨_,_,_,_,_,rfl,J3,m1,by omega,by omega⟩⟩
       ·exact wpS_pure ⟨rfl,_,_,_,_,_,rfl,J3,m1,by omega,by omega⟩
    case post1=>
     rintro c st' ⟨rfl,h | h⟩
     ·obtain⟨r,i2,j2,o2,p,q,rfl,h⟩:=h
      exact wpS_pure ⟨hs1,_,_,_,_,_,rfl,h⟩
     ·obtain⟨i2,j2,o2,p,q,rfl,J2,m1,m2,m3⟩:=h
      dsimp only;refine wpS_bind (wpS_lift (wpAny_rule ⟨rfl,?_⟩));refine wpS_bind (wpS_mono (wpS_forRange (I:=λx c jT=>Sim st jT/\∃i3 j3 o3 g p q,c=(none,i3,j3,o3,g,p,q)/\Jh rk a b o3 i3 j3/\0<i3/\1<j3/\i3+j3+x<=i2+j2)
       (Q:=λc jT=>Sim st jT/\((∃r i3 j3 o3 g p q,c=(some r,i3,j3,o3,g,p,q)/\Mg rk a b r)∨∃i3 j3 o3 g p q,c=(none,i3,j3,o3,g,p,q)/\Jh rk a b o3 i3 j3/\0<i3/\1<j3/\i3+j3<=i2+j2)) ?step2 ?fin2 ⟨hs1,_,_,_,_,_,_,rfl,J2,m1,m2,by omega⟩) ?post2)
      case fin2=>
       have z1:=J2.la;have z2:=J2.lb;rintro c jT ⟨h1,i3,j3,o3,g,p,q,rfl,J3,n1,n2,n3⟩;omega
      case post2=>
       rintro c jT ⟨h1,h | h⟩
       ·obtain⟨r,i3,j3,o3,g,p,q,rfl,h⟩:=h
        exact wpS_pure ⟨h1,_,_,_,_,_,rfl,h⟩
       ·obtain⟨i3,j3,o3,g,p,q,rfl,J3,n1,n2,n3⟩:=h
        dsimp only;exact wpS_bind (wpS_modify (wpS_pure ⟨h1.setG _,_,_,_,_,rfl,J3,n1,n2,by omega⟩))
      case step2=>
       clear J l1 l2 h3 J2 m1 m2 m3;rintro x c jT _ hx ⟨hsim0,na,nb,out,g,p,q,rfl,J,l1,l2,n3⟩;dsimp only;refine' (λ(key:∀gm:Nat,(_:Nat->Prop) gm)=>?m1) ?m2
       case m1=>
        by_cases g1:g > 1
        ·rw[if_pos g1]
         generalize g-1=gm;exact key gm
        ·rw[if_neg g1]
         generalize g=gm;exact key gm
       case m2=>
        intro gm
        walk_at "hiHead"
end
section
variable {M:Model}{A:xC}{E:xD}{s:Shared}{rk:Keyed->Int}{κ:SortKind}{In:Keyed->Prop}
theorem ZiC {key:Keyed}{arr:Array Keyed}{base n hint:Nat}{st:SortSt}{Q:Option Nat->SortSt->Prop}(C:Wu M A E s rk κ In)(hk:kindOf st=κ)(hkey:In key)(hin:∀x∈arr.toList,In x)(le:∀i j x y,i<j->j<n->arr[base+i]?=some x->arr[base+j]?=some y->rk x<=rk y)(hb:base+n<=arr.size)(hh:hint<n)
  (k:∀r,r<=n->(∀i x,i<r->arr[base+i]?=some x->rk x<=rk key)->(∀i x,r<=i->i<n->arr[base+i]?=some x->rk key<rk x)->Q (some r) st):wpS M A E s (Ba false key arr base n hint) Q st:=by
 have hx:∀i,i<n->∃x,arr[base+i]?=some x:=λi hi=>⟨arr[base+i]'(by omega),qf (by omega)⟩;refine B9 (λi=>match arr[base+i]? with | some x=>!decide (rk key<rk x) | none=>false) hh (λi j hij hj h=>?_) (λi hi F hF=>?_) λr h1 h2 h3=>k r h1 (λi x hi ex=>?_) λi x hi hn ex=>?_
 ·obtain⟨x,ex⟩:=hx i (by omega)
  obtain⟨y,ey⟩:=hx j hj;simp only[ex,ey]at h⊢;have:=le i j x y hij hj ex ey;simp only[yV,decide_eq_false_iff_not]at h⊢;omega
 ·obtain⟨x,ex⟩:=hx i hi
  unfold Bb;refine wpS_bind (YR ex ?_);simp only[qX,if_false];refine wpS_bind (C key x hkey (hin x (zd.mpr (zo ex))) st _ hk ?_);refine wpS_pure ?_;simp only[ex]at hF;exact hF
 ·have:=h2 i hi
  simp only[ex,yV,decide_eq_false_iff_not]at this;omega
 ·have:=h3 i hi hn
  simp only[ex,Bool.not_eq_false',decide_eq_true_eq]at this;exact this
theorem Zkj {key:Keyed}{arr:Array Keyed}{base n hint:Nat}{st:SortSt}{Q:Option Nat->SortSt->Prop}(C:Wu M A E s rk κ In)(hk:kindOf st=κ)(hkey:In key)(hin:∀x∈arr.toList,In x)(le:∀i j x y,i<j->j<n->arr[base+i]?=some x->arr[base+j]?=some y->rk x<=rk y)(hb:base+n<=arr.size)(hh:hint<n)
  (k:∀r,r<=n->(∀i x,i<r->arr[base+i]?=some x->rk x<rk key)->(∀i x,r<=i->i<n->arr[base+i]?=some x->rk key<=rk x)->Q (some r) st):wpS M A E s (Ba true key arr base n hint) Q st:=by
 have hx:∀i,i<n->∃x,arr[base+i]?=some x:=λi hi=>⟨arr[base+i]'(by omega),qf (by omega)⟩;refine B9 (λi=>match arr[base+i]? with | some x=>decide (rk x<rk key) | none=>false) hh (λi j hij hj h=>?_) (λi hi F hF=>?_) λr h1 h2 h3=>k r h1 (λi x hi ex=>?_) λi x hi hn ex=>?_
 ·obtain⟨x,ex⟩:=hx i (by omega)
  obtain⟨y,ey⟩:=hx j hj;simp only[ex,ey]at h⊢;have:=le i j x y hij hj ex ey;simp only[decide_eq_true_eq]at h⊢;omega
 ·obtain⟨x,ex⟩:=hx i hi
  unfold Bb;refine wpS_bind (YR ex ?_);simp only[if_true];refine C x key (hin x (zd.mpr (zo ex))) hkey st _ hk ?_;simp only[ex]at hF;exact hF
 ·have:=h2 i hi
  simp only[ex,decide_eq_true_eq]at this;exact this
 ·have:=h3 i hi hn
  simp only[ex,decide_eq_false_iff_not]at this;omega
theorem ZnD {l:List Keyed}{p:Keyed}:∀{P:List Keyed} {x:Keyed} {R:List Keyed},l=P++x::R->l.set P.length p=P++p::R:=λe=>by
 subst e;rw[List.set_append_right _ _ (qp _),Nat.sub_self];rfl
theorem ZfI:∀(ms olds P R:List Keyed) (arr:Array Keyed) (n:Nat),arr.toList=P++olds++R->olds.length=ms.length->((ms.zipIdx n).foldl (λa (p,j)=>a.setIfInBounds (P.length-n+j) p) arr).toList=P++ms++R∨P.length<n
 | [],olds,P,R,arr,n,e,hl=>by
  have:olds=[]:=zS.mp hl;subst this;exact .inl e
 | m::ms,[],P,R,arr,n,e,hl=>by cases hl
 | m::ms,o::olds,P,R,arr,n,e,hl=>by
  by_cases hn:P.length<n
  ·exact .inr hn
  ·rw[List.zipIdx_cons,qah]
   have e1:(arr.setIfInBounds (P.length-n+n) m).toList=(P ++ [m])++olds++R:=by
    rw[Array.toList_setIfInBounds,show P.length-n+n=P.length by omega,ZnD (P:=P) (x:=o) (R:=olds++R) (by rw[e];simp)];simp
   have ih:=ZfI ms olds (P ++ [m]) R (arr.setIfInBounds (P.length-n+n) m) (n+1) e1 (by simpa using hl);rw[qI,qaU]at ih;rw[show P.length+1-(n+1)=P.length-n by omega]at ih;refine .inl ?_;rcases ih with ih | ih
   ·simpa using ih
   ·omega
theorem ZiD {ms olds P R:List Keyed}{arr:Array Keyed}(e:arr.toList=P++olds++R)(hl:olds.length=ms.length):(ms.zipIdx.foldl (λa (p,j)=>a.setIfInBounds (P.length+j) p) arr).toList=P++ms++R:=by
 rcases ZfI ms olds P R arr 0 e hl with h | h
 ·simpa using h
 ·omega
theorem Zkk {P As T:List Keyed}{arr:Array Keyed}(e:arr.toList=P++As++T){j:Nat}(hj:j<As.length):arr[P.length+j]?=As[j]?:=by
 rw[<-qA,e,qM,yj (by omega),show P.length+j-P.length=j by omega,zD hj]
theorem SL.le {l:List Keyed}(h:SL rk l){i j:Nat}{x y:Keyed}(hij:i<j)(ex:l[i]?=some x)(ey:l[j]?=some y):rk x<=rk y:=by
 obtain⟨l1,e1⟩:=qw.mp ex;obtain⟨l2,e2⟩:=qw.mp ey;have:=zx.mp h i j l1 l2 hij;rw[e1,e2]at this;exact this
theorem Zce {l:List Keyed}{k:Nat}{x:Keyed}(h:x∈l.take k):∃i,i<k/\i<l.length/\l[i]?=some x:=by
 obtain⟨i,hi⟩:=zI.mp h;have hl:=(qw.mp hi).1;rw[qZ]at hl;rw[zM (by omega)]at hi;exact⟨i,by omega,by omega,hi⟩
theorem Zcf {l:List Keyed}{k:Nat}{x:Keyed}(h:x∈l.drop k):∃i,k<=i/\i<l.length/\l[i]?=some x:=by
 obtain⟨i,hi⟩:=zI.mp h;have hl:=(qw.mp hi).1;rw[zW]at hl;rw[zV]at hi;exact⟨k+i,by omega,by omega,hi⟩
theorem ZgJ {st:SortSt}{i p q:Nat}{P As Bs R:List Keyed}{Q:Bool->SortSt->Prop}(C:Wu M A E s rk κ In)(hk:kindOf st=κ)(hf:failedOf st=none)(hin:∀x∈(arrOf st).toList,In x)
  (p1:(pendingOf st)[i]?=some (P.length,As.length,p)) (p2:(pendingOf st)[i+1]?=some (P.length+As.length,Bs.length,q)) (e:(arrOf st).toList=P++As++(Bs++R)) (hA:SL rk As) (hB:SL rk Bs) (a0:0<As.length) (b0:0<Bs.length)
  (k:∀st' Ms,(arrOf st').toList=P++Ms++R->Ms.Perm (As++Bs)->SL rk Ms->kindOf st'=κ->failedOf st'=none->pendingOf st'=((pendingOf st).setIfInBounds i (P.length,As.length+Bs.length,p)).eraseIdxIfInBounds (i+1)->Q true st'):wpS M A E s (mergeAt' i) Q st:=by
 refine wpS_bind (wpS_get ?_);rw[p1,p2];dsimp only;have hset:∀{T:SortSt} {F:PUnit->SortSt->Prop},F ⟨⟩ T->wpS M A E s (set T:StateT SortSt Sem PUnit) F st:=λ{T F} h=>by
  unfold wpS;rw[StateT.run_set];exact xb ⟨rfl,h⟩
 refine wpS_bind (hset ?_);have e':(arrOf st).toList=(P++As)++Bs++R:=by rw[e];simp
 have hPA:(P++As).length=P.length+As.length:=qI;have atA:∀{j:Nat},j<As.length->(arrOf st)[P.length+j]?=As[j]?:=λ{j} h=>Zkk e h;have atB:∀{j:Nat},j<Bs.length->(arrOf st)[P.length+As.length+j]?=Bs[j]?:=λ{j} h=>by
  have:=Zkk e' h;rw[hPA]at this;exact this
 have hsz:(arrOf st).size=P.length+As.length+Bs.length+R.length:=by
  rw[<-qB,e];simp only[qI];omega
 have hB0:Bs[0]?=some Bs[0]:=qG b0;have key1:(arrOf st)[P.length+As.length]?=some Bs[0]:=by
  have:=atB (j:=0) b0;rw[qci]at this;rw[this,hB0]
 have mem:∀{j:Nat} {x:Keyed},(arrOf st)[j]?=some x->In x:=λ{j x} h=>hin x (zd.mpr (zo h));refine wpS_bind (YR key1 ?_);refine wpS_bind (ZiC (κ:=κ) (arr:=arrOf st) C hk (mem key1) hin (λi j x y hij hj ex ey=>?_) (by omega) a0 λk1 f1 f2 f3=>?_)
 ·rw[atA (by omega)]at ex
  rw[atA hj]at ey;exact hA.le hij ex ey
 have lowA:∀x∈As.take k1,rk x<=rk Bs[0]:=λx hx=>by
  obtain⟨j,h1,h2,h3⟩:=Zce hx;exact f2 j x h1 (by rw[atA h2];exact h3)
 have uppA:∀x∈As.drop k1,rk Bs[0]<rk x:=λx hx=>by
  obtain⟨j,h1,h2,h3⟩:=Zcf hx;exact f3 j x h1 h2 (by rw[atA h2];exact h3)
 have geB:∀y∈Bs,rk Bs[0]<=rk y:=λy hy=>hB.head hB0 y (by rw[qbj];exact hy);dsimp only;by_cases c1:(As.length-k1==0)=true
 ·rw[if_pos c1]
  have z:k1=As.length:=by
   have:As.length-k1=0:=by simpa using c1
   omega
  refine wpS_pure (k _ (As++Bs) (by show(arrOf st).toList=_;rw[e];simp) (.refl _) (qW.mpr ⟨hA,hB,λx hx y hy=>?_⟩) hk hf rfl);have h1:=lowA x (by rw[z,yy];exact hx);have h2:=geB y hy;omega
 ·rw[if_neg c1]
  have c1':As.length-k1≠0:=by simpa using c1
  have hAl:As[As.length-1]?=some (As[As.length-1]'(by omega)):=qG (by omega);have key2:(arrOf st)[P.length+k1+(As.length-k1)-1]?=some (As[As.length-1]'(by omega)):=by
   rw[show P.length+k1+(As.length-k1)-1=P.length+(As.length-1) by omega,atA (by omega)];exact hAl
  refine wpS_bind (YR key2 ?_);refine wpS_bind (Zkj (κ:=κ) (arr:=arrOf st) C hk (mem key2) hin (λi j x y hij hj ex ey=>?_) (by omega) (by omega) λn1 g1 g2 g3=>?_)
  ·rw[atB (by omega)]at ex
   rw[atB hj]at ey;exact hB.le hij ex ey
  have lowB:∀y∈Bs.take n1,rk y<=rk (As[As.length-1]'(by omega)):=λy hy=>by
   obtain⟨j,h1,h2,h3⟩:=Zce hy;exact yH (g2 j y h1 (by rw[atB h2];exact h3))
  have uppB:∀y∈Bs.drop n1,rk (As[As.length-1]'(by omega))<=rk y:=λy hy=>by
   obtain⟨j,h1,h2,h3⟩:=Zcf hy;exact g3 j y h1 h2 (by rw[atB h2];exact h3)
  have leA:∀x∈As,rk x<=rk (As[As.length-1]'(by omega)):=λx hx=>by
   have:=hA.last hAl;rw[show As.length-1+1=As.length by omega,yy]at this;exact this x hx
  dsimp only;by_cases c2:(n1==0)=true
  ·rw[if_pos c2]
   have z:n1=0:=by simpa using c2
   refine wpS_pure (k _ (As++Bs) (by show(arrOf st).toList=_;rw[e];simp) (.refl _) (qW.mpr ⟨hA,hB,λx hx y hy=>?_⟩) hk hf rfl);have h1:=leA x hx;have h2:=uppB y (by rw[z,qbj];exact hy);omega
  ·rw[if_neg c2]
   have c2':n1≠0:=by simpa using c2
   have hx:((arrOf st).extract (P.length+k1) (P.length+As.length)).toList=As.drop k1:=by
    rw[yU,yr,e,qM,List.drop_append,ym (by omega),yR,show P.length+k1-P.length=k1 by omega,List.drop_append_of_le_length f1,qbN (by rw[zW];omega),qcD (by rw[zW];omega)]
   have hy:((arrOf st).extract (P.length+As.length) (P.length+As.length+n1)).toList=Bs.take n1:=by
    rw[yU,yr,e',qM,List.drop_append,ym (by omega),yR,hPA,Nat.sub_self,qbj,show P.length+As.length+n1-(P.length+As.length)=n1 by omega,qbN g1]
   generalize (arrOf st).extract (P.length+k1) (P.length+As.length)=X at hx⊢;generalize (arrOf st).extract (P.length+As.length) (P.length+As.length+n1)=Y at hy⊢;have sX:SL rk X.toList:=by rw[hx];exact hA.drop k1
   have sY:SL rk Y.toList:=by rw[hy];exact hB.sublist (zF _ _)
   have lX:X.size=As.length-k1:=by rw[<-qB,hx,zW]
   have lY:Y.size=n1:=by rw[<-qB,hy,qZ];omega
   have inX:∀x∈X.toList,In x:=λx h=>by
    rw[hx]at h;exact hin x (by rw[e];simp[qa0 h])
   have inY:∀x∈Y.toList,In x:=λx h=>by
    rw[hy]at h;exact hin x (by rw[e];simp[qav h])
   have frst:∀x,Y[0]?=some x->∀y∈X.toList,rk x<=rk y:=λx h y hyy=>by
    rw[<-qA,hy,zM (by omega),hB0]at h
    cases h
    rw[hx]at hyy;exact yH (uppA y hyy)
   have topp:∀y∈Y.toList,∀x,X[X.size-1]?=some x->rk y<=rk x:=λy hyy x h=>by
    rw[<-qA,hx,lX,zV,show k1+(As.length-k1-1)=As.length-1 by omega,hAl]at h
    cases h
    rw[hy]at hyy;exact lowB y hyy
   have fin:∀(r:Array Keyed) (st':SortSt),Mg rk X Y r->Sim (setPending st (((pendingOf st).setIfInBounds i (P.length,As.length+Bs.length,p)).eraseIdxIfInBounds (i+1))) st'->wpS M A E s (do
     modify λs=>setArr s (r.toList.zipIdx.foldl (λa (p,j)=>a.setIfInBounds (P.length+k1+j) p) (arrOf s))
     return (failedOf (<-get)).isNone) Q st':=λr st' hm hs=>by
    refine wpS_bind (wpS_modify (wpS_bind (wpS_get (wpS_pure ?_))));have hff:failedOf st'=none:=hs.fail.trans hf;have hrl:r.toList.length=As.length-k1+n1:=by rw[hm.1.length_eq,qI,qB,qB,lX,lY]
    have eA:(arrOf st').toList=(P++As.take k1)++(As.drop k1++Bs.take n1)++(Bs.drop n1++R):=by
     have:arrOf st'=arrOf st:=hs.arr;rw[this,e];have h1:As=As.take k1++As.drop k1:=(zk _ _).symm;have h2:Bs=Bs.take n1++Bs.drop n1:=(zk _ _).symm
     conv=>lhs;rw[h1,h2]
     simp only[qM]
    have hPl:(P++As.take k1).length=P.length+k1:=by rw[qI,qZ];omega
    have fs:=ZiD (ms:=r.toList) eA (by rw[qI,zW,qZ,hrl];omega);rw[hPl]at fs;have hfail:(failedOf st').isNone=true:=by rw[hff];rfl
    have goalq:=k (setArr st' (r.toList.zipIdx.foldl (λa (p,j)=>a.setIfInBounds (P.length+k1+j) p) (arrOf st'))) (As.take k1++r.toList++Bs.drop n1) (by
     show(r.toList.zipIdx.foldl (λa (p,j)=>a.setIfInBounds (P.length+k1+j) p) (arrOf st')).toList=_;rw[fs];simp only[qM]) ?_ ?_ (hs.kind.trans hk) hff hs.pend
    ·show Q (failedOf st').isNone _
     rw[hfail];exact goalq
    ·have pr:=hm.1
     rw[hx,hy]at pr;refine((pr.append_left _).append_right _).trans ?_;rw[<-qM,zk,qM,zk]
    ·have mr:∀z∈r.toList,(z∈As.drop k1∨z∈Bs.take n1):=λz hz=>by
      have:=hm.1.mem_iff.mp hz;rw[hx,hy]at this;exact qR.mp this
     refine qW.mpr ⟨qW.mpr ⟨hA.sublist (zF _ _),hm.2,λx h1 y h2=>?_⟩,hB.drop n1,λx h1 y h2=>?_⟩
     ·have l1:=lowA x h1
      rcases mr y h2 with h2 | h2
      ·have:=uppA y h2;omega
      ·have:=geB y (qav h2);omega
     ·have hy2:=qa0 h2
      rcases qR.mp h1 with h1 | h1
      ·have l1:=lowA x h1
       have:=geB y hy2;omega
      ·have l2:=uppB y h2
       rcases mr x h1 with h1 | h1
       ·have:=leA x (qa0 h1);omega
       ·have:=lowB x h1;omega
   by_cases c3:As.length-k1<=n1
   ·rw[if_pos c3]
    refine wpS_bind (ZgH C (st:=setPending st _) hk inX inY sX sY (by omega) (by omega) frst topp λr st' hm hs=>?_);exact fin r st' hm hs
   ·rw[if_neg c3]
    refine wpS_bind (ZgI C (st:=setPending st _) hk inX inY sX sY (by omega) (by omega) frst topp λr st' hm hs=>?_);exact fin r st' hm hs
end
section
variable (rk:Keyed->Int)
noncomputable def Vk (xs:Array Keyed)(i:Nat):Int:=match xs[i]? with
 | some p=>rk p
 | none=>0
noncomputable def Up (xs:Array Keyed)(lo n:Nat):Prop:=∀i j,i<=j->j<n->Vk rk xs (lo+i)<=Vk rk xs (lo+j)
noncomputable def Dn (xs:Array Keyed)(lo n:Nat):Prop:=∀i j,i<=j->j<n->Vk rk xs (lo+j)<=Vk rk xs (lo+i)
end
structure TB (st st':SortSt)(lo:Nat):Prop where
 perm:(arrOf st').toList.Perm (arrOf st).toList
 pre:∀i,i<lo->(arrOf st')[i]?=(arrOf st)[i]?
 kind:kindOf st'=kindOf st
 pend:pendingOf st'=pendingOf st
 fail:failedOf st'=failedOf st
theorem TB.refl (st:SortSt)(lo:Nat):TB st st lo:=⟨.refl _,λ_ _=>rfl,rfl,rfl,rfl⟩
theorem TB.size {st st':SortSt}{lo:Nat}(h:TB st st' lo):(arrOf st').size=(arrOf st).size:=by
 have:=h.perm.length_eq;simpa using this
section
variable {rk:Keyed->Int}
theorem JX {xs ys:Array Keyed}{i j:Nat}(h:xs[i]?=ys[j]?):Vk rk xs i=Vk rk ys j:=by unfold Vk;rw[h]
theorem TB.bub {st st':SortSt}{lo src d:Nat}(h:TB st st' lo)(hs:src<(arrOf st').size)(hd:d<=src)(hl:lo<=src-d):TB st (setArr st' (bubble (arrOf st') src d)) lo:=by
 refine⟨(qb4.mp (bubble_perm _ _ _)).trans h.perm,λi hi=>?_,h.kind,h.pend,h.fail⟩;show(bubble (arrOf st') src d)[i]?=_;rw[getElem?_bubble hs d hd,if_neg (by omega),if_neg (by omega)];exact h.pre i hi
theorem TB.mir {st st':SortSt}{lo i j:Nat}(h:TB st st' lo)(hj:j<=(arrOf st').size)(hl:lo<=i):TB st (setArr st' (mirror (arrOf st') i j ((j-i) / 2))) lo:=by
 refine⟨(qb4.mp (mirror_perm _ _ _ _)).trans h.perm,λk hk=>?_,h.kind,h.pend,h.fail⟩;show(mirror (arrOf st') i j ((j-i) / 2))[k]?=_;rw[getElem?_mirror_all hj,if_neg (by omega)];exact h.pre k hk
theorem Zkl {xs:Array Keyed}{src d:Nat}(hs:src<xs.size)(hd:d<=src)(k:Nat):Vk rk (bubble xs src d) k=if k=src-d then Vk rk xs src else if src-d<k/\k<=src then Vk rk xs (k-1)else Vk rk xs k:=by
 have e:=getElem?_bubble hs d hd k;by_cases h1:k=src-d
 ·rw[if_pos h1]at e⊢;exact JX e
 ·rw[if_neg h1]at e⊢
  by_cases h2:src-d<k/\k<=src
  ·rw[if_pos h2]at e⊢;exact JX e
  ·rw[if_neg h2]at e⊢;exact JX e
theorem ZgK {xs:Array Keyed}{i j:Nat}(hj:j<=xs.size)(k:Nat):Vk rk (mirror xs i j ((j-i) / 2)) k=if i<=k/\k<j then Vk rk xs (i+j-1-k)else Vk rk xs k:=by
 have e:=getElem?_mirror_all (i:=i) hj k;by_cases h1:i<=k/\k<j
 ·rw[if_pos h1]at e⊢;exact JX e
 ·rw[if_neg h1]at e⊢;exact JX e
end
section
variable {M:Model}{A:xC}{E:xD}{s:Shared}{rk:Keyed->Int}{κ:SortKind}{In:Keyed->Prop}
theorem U6 {st0 st:SortSt}{lo i j:Nat}{Q:Option Bool->SortSt->Prop}(C:Wu M A E s rk κ In)(hk:kindOf st0=κ)(hin:∀x∈(arrOf st0).toList,In x)(h:TB st0 st lo)(hi:i<(arrOf st0).size)(hj:j<(arrOf st0).size)
  (q:Q (some (decide (Vk rk (arrOf st) i<Vk rk (arrOf st) j))) st):wpS M A E s (ltAt' i j) Q st:=by
 have hi':i<(arrOf st).size:=by rw[h.size];exact hi
 have hj':j<(arrOf st).size:=by rw[h.size];exact hj
 have ei:=qf hi';have ej:=qf hj';have mem:∀{k:Nat} {x:Keyed},(arrOf st)[k]?=some x->In x:=λ{k x} e=>hin x (h.perm.mem_iff.mp (zd.mpr (zo e)));rw[ltAt'_eq];refine wpS_bind (wpS_get ?_);refine wpS_bind (YR ei (wpS_bind (YR ej ?_)));refine C _ _ (mem ei) (mem ej) st _ (h.kind.trans hk) ?_;have v1:Vk rk (arrOf st) i=rk (arrOf st)[i]:=by unfold Vk;rw[ei]
 have v2:Vk rk (arrOf st) j=rk (arrOf st)[j]:=by unfold Vk;rw[ej]
 rw[v1,v2]at q;exact q
theorem ZiE {st0 st:SortSt}{lo n ok:Nat}{Q:Bool->SortSt->Prop}(C:Wu M A E s rk κ In)(hk:kindOf st0=κ)(hin:∀x∈(arrOf st0).toList,In x)(hn:lo+n<=(arrOf st0).size)(hok:ok<=n)(hT:TB st0 st lo)(hs:Up rk (arrOf st) lo ok)
  (h:∀st',TB st0 st' lo->Up rk (arrOf st') lo n->Q true st'):wpS M A E s (binarySort' lo n ok) Q st:=by
 rw[binarySort'_eq];refine wpS_bind (wpS_mono (wpS_forRange (I:=λk c st'=>c=(none,())/\TB st0 st' lo/\Up rk (arrOf st') lo (min k n))
  (Q:=λc st'=>c=(none,())/\TB st0 st' lo/\Up rk (arrOf st') lo n) ?step ?fin ?init) ?post)
 case post=>
  rintro c st' ⟨rfl,hB',hs'⟩;exact wpS_pure (h st' hB' hs')
 case init=>
  refine⟨rfl,hT,λi j hij hj=>?_⟩;by_cases h1:ok=0
  ·have:i=j:=by omega
   subst this;exact yO _
  ·exact hs i j hij (by omega)
 case fin=>
  rintro c st' ⟨hc,hB',hs'⟩;refine⟨hc,hB',?_⟩
  rwa[show min (max (max ok 1) n) n=n by omega]at hs'
 case step=>
  rintro k c st' hak hkn ⟨rfl,hB',hs'⟩;rw[show min k n=k by omega]at hs';have hk':lo+k<(arrOf st0).size:=by omega
  refine wpS_bind (wpS_mono (wpS_forRange (I:=λx c st''=>st''=st'/\∃l r,c=(none,l,r)/\l<=r/\r<=k/\r-l<=k-x/\
    (∀i,i<l->Vk rk (arrOf st') (lo+i)<=Vk rk (arrOf st') (lo+k))/\(∀i,r<=i->i<k->Vk rk (arrOf st') (lo+k)<Vk rk (arrOf st') (lo+i)))
   (Q:=λc st''=>st''=st'/\∃l r,c=(none,l,r)/\l<=k/\
    (∀i,i<l->Vk rk (arrOf st') (lo+i)<=Vk rk (arrOf st') (lo+k))/\(∀i,l<=i->i<k->Vk rk (arrOf st') (lo+k)<Vk rk (arrOf st') (lo+i))) ?istep ?ifin ?iinit) ?ipost)
  case iinit=>exact⟨rfl,0,k,rfl,by omega,by omega,by omega,λi hi=>by omega,λi h1 h2=>by omega⟩
  case ifin=>
   rintro c st'' ⟨rfl,l,r,rfl,hlr,hrk,hm,hlo,hhi⟩;have:l=r:=by omega
   subst this;exact⟨rfl,l,l,rfl,hrk,hlo,hhi⟩
  case istep=>
   rintro x c st'' _ hxk ⟨e0,l,r,rfl,hlr,hrk,hm,hlo,hhi⟩;rw[e0];dsimp only;by_cases hge:l≥r
   ·rw[if_pos hge]
    have:l=r:=by omega
    subst this;exact wpS_pure ⟨rfl,l,l,rfl,hrk,hlo,hhi⟩
   ·rw[if_neg hge]
    refine wpS_bind (U6 C hk hin hB' hk' (by omega) ?_);by_cases hless:Vk rk (arrOf st') (lo+k)<Vk rk (arrOf st') (lo+(l+r) / 2)
    ·dsimp only
     rw[if_pos (decide_eq_true hless)];refine wpS_pure ⟨rfl,l,(l+r) / 2,rfl,by omega,by omega,by omega,hlo,λi h1 h2=>?_⟩;have:=hs' ((l+r) / 2) i h1 h2;omega
    ·dsimp only
     rw[if_neg (by simpa using hless)];refine wpS_pure ⟨rfl,(l+r) / 2+1,r,rfl,by omega,by omega,by omega,λi h1=>?_,hhi⟩;have:=hs' i ((l+r) / 2) (by omega) (by omega);omega
  case ipost=>
   rintro c st'' ⟨rfl,l,r,rfl,hlk,hlo,hhi⟩;show wpS _ _ _ _ (do moveDown' (lo+k) (lo+l);pure (qaj (none,()))) _ _;rw[moveDown'_eq];have hks:lo+k<(arrOf st'').size:=by rw[hB'.size];exact hk'
   refine wpS_bind (wpS_modify (wpS_pure ⟨rfl,hB'.bub hks (by omega) (by omega),?_⟩));rw[show min (k+1) n=k+1 by omega];intro i j hij hj;show Vk rk (bubble (arrOf st'') (lo+k) (lo+k-(lo+l))) (lo+i)<=Vk rk (bubble (arrOf st'') (lo+k) (lo+k-(lo+l))) (lo+j);rw[Zkl hks (by omega),Zkl hks (by omega),show lo+k-(lo+k-(lo+l))=lo+l by omega];have e1:∀m,l<m->lo+m-1=lo+(m-1):=λm hm=>by omega
   by_cases i1:i=l
   ·subst i1
    rw[if_pos rfl];by_cases j1:j=i
    ·rw[if_pos (by omega)];exact yO _
    ·rw[if_neg (by omega),if_pos (by omega),e1 j (by omega)]
     exact yH (hhi _ (by omega) (by omega))
   ·rw[if_neg (by omega)]
    by_cases i2:l<i
    ·rw[if_pos (by omega),if_neg (by omega),if_pos (by omega),e1 i i2,e1 j (by omega)]
     exact hs' _ _ (by omega) (by omega)
    ·rw[if_neg (by omega)]
     by_cases j1:j=l
     ·rw[if_pos (by omega)];exact hlo i (by omega)
     ·rw[if_neg (by omega)]
      by_cases j2:l<j
      ·rw[if_pos (by omega),e1 j j2]
       exact hs' i (j-1) (by omega) (by omega)
      ·rw[if_neg (by omega)]
       exact hs' i j hij (by omega)
end
section
variable {M:Model}{A:xC}{E:xD}{s:Shared}{rk:Keyed->Int}{κ:SortKind}{In:Keyed->Prop}
theorem ZbV {xs:Array Keyed}{i j:Nat}{c:Int}(hj:j<=xs.size)(he:∀k,i<=k->k<j->Vk rk xs k=c)(k:Nat):Vk rk (mirror xs i j ((j-i) / 2)) k=Vk rk xs k:=by
 rw[ZgK hj];split
 ·rw[he _ (by omega) (by omega),he k (by omega) (by omega)]
 ·rfl
theorem ZeJ {st:SortSt}{i j:Nat}{F:Unit->SortSt->Prop}(h:F () (setArr st (mirror (arrOf st) i j ((j-i) / 2)))):wpS M A E s (reverseSlice' i j) F st:=by
 rw[reverseSlice'_eq];exact wpS_modify h
theorem Up.next {xs:Array Keyed}{lo x:Nat}(h:Up rk xs lo x)(hx:1<=x)(hv:¬Vk rk xs (lo+x)<Vk rk xs (lo+x-1)):Up rk xs lo (x+1):=λi j hij hj=>by
 by_cases hjx:j<x
 ·exact h i j hij hjx
 ·have e:j=x:=by omega
  subst e;by_cases hi:i=j
  ·subst hi;exact yO _
  ·have:=h i (j-1) (by omega) (by omega)
   rw[show lo+(j-1)=lo+j-1 by omega]at this;omega
theorem Dn.next {xs:Array Keyed}{lo x:Nat}(h:Dn rk xs lo x)(hx:1<=x)(hv:Vk rk xs (lo+x)<=Vk rk xs (lo+x-1)):Dn rk xs lo (x+1):=λi j hij hj=>by
 by_cases hjx:j<x
 ·exact h i j hij hjx
 ·have e:j=x:=by omega
  subst e;by_cases hi:i=j
  ·subst hi;exact yO _
  ·have:=h i (j-1) (by omega) (by omega)
   rw[show lo+(j-1)=lo+j-1 by omega]at this;omega
theorem Dn.flip {xs:Array Keyed}{lo n:Nat}(h:Dn rk xs lo n)(hn:lo+n<=xs.size):Up rk (mirror xs lo (lo+n) ((lo+n-lo) / 2)) lo n:=λi j hij hj=>by
 rw[ZgK hn,ZgK hn,if_pos (by omega),if_pos (by omega),show lo+(lo+n)-1-(lo+i)=lo+(n-1-i) by omega,show lo+(lo+n)-1-(lo+j)=lo+(n-1-j) by omega];exact h _ _ (by omega) (by omega)
set_option hygiene false in
local macro_rules | `(tactic| walk_at "upTail")=>`(tactic| (
  refine wpS_bind (ZeJ ?_);have hT3:=hT2.mir (i:=lo) (j:=lo+m) (by rw[hT2.size];omega) (qp _);have hU3:=hD2.flip (by rw[hT2.size];omega);refine wpS_bind (wpS_mono (wpS_forRange (I:=λx c st'=>c=(none,x)/\TB st0 st' lo/\Up rk (arrOf st') lo x) (Q:=λc st'=>∃m,c=(none,m)/\1<=m/\m<=nrem/\TB st0 st' lo/\Up rk (arrOf st') lo m) ?stepU ?finU ⟨rfl,hT3,hU3⟩) ?postU)
  case postU=>
   rintro c st' ⟨m,rfl,a1,a2,a3,a4⟩;exact wpS_pure (h m st' a3 a1 a2 a4)
  case finU=>
   rintro c st' ⟨rfl,a1,a2⟩;rw[show max m nrem=nrem by omega]at a2⊢;exact⟨nrem,rfl,by omega,qp _,a1,a2⟩
  case stepU=>
   rintro x c st' hax hxn ⟨rfl,a1,a2⟩;dsimp only;refine wpS_bind (U6 C hk hin a1 (by omega) (by omega) ?_);dsimp only;by_cases w:Vk rk (arrOf st') (lo+x)<Vk rk (arrOf st') (lo+x-1)
   ·rw[if_pos (decide_eq_true w)]
    exact wpS_pure ⟨x,rfl,by omega,by omega,a1,a2⟩
   ·rw[if_neg (by simpa using w)]
    exact wpS_pure ⟨rfl,a1,a2.next (by omega) w⟩))
set_option hygiene false in
local macro_rules | `(tactic| walk_at "descT")=>`(tactic| (
  refine wpS_bind (wpS_lift (wpAny_rule ⟨rfl,?_⟩));refine wpS_bind (wpS_mono (wpS_forRange (I:=λx c st'=>∃neq,c=(none,x,neq)/\TB st0 st' lo/\Dn rk (arrOf st') lo x/\neq+1<=x/\(∀k,lo+x-(neq+1)<=k->k<lo+x->Vk rk (arrOf st') k=Vk rk (arrOf st') (lo+x-1)))
   (Q:=λc st'=>∃m neq,c=(none,m,neq)/\1<=m/\m<=nrem/\TB st0 st' lo/\Dn rk (arrOf st') lo m/\neq+1<=m/\(∀k,lo+m-(neq+1)<=k->k<lo+m->Vk rk (arrOf st') k=Vk rk (arrOf st') (lo+m-1))) ?stepD ?finD ⟨0,rfl,hTd,hDd,by omega,λk h1 h2=>by congr 1;omega⟩) ?postD)
  case finD=>
   rintro c st' ⟨neq,rfl,a1,a2,a3,a4⟩;rw[show max (n+1) nrem=nrem by omega]at a2 a3 a4⊢;exact⟨nrem,neq,rfl,by omega,qp _,a1,a2,a3,a4⟩
  case stepD=>
   rintro x c st' hax hxn ⟨neq,rfl,a1,a2,a3,a4⟩;dsimp only;refine wpS_bind (U6 C hk hin a1 (by omega) (by omega) ?_);dsimp only;by_cases w:Vk rk (arrOf st') (lo+x)<Vk rk (arrOf st') (lo+x-1)
   ·rw[if_pos (decide_eq_true w)]
    have up:=a2.next (by omega) (yH w);by_cases hq:neq > 0
    ·rw[if_pos hq]
     refine wpS_bind (ZeJ ?_);have hm:=ZbV (xs:=arrOf st') (i:=lo+x-(neq+1)) (j:=lo+x) (by rw[a1.size];omega) a4;exact wpS_pure ⟨0,rfl,a1.mir (by rw[a1.size];omega) (by omega),λi j hij hj=>by
      show Vk rk (mirror _ _ _ _) _<=Vk rk (mirror _ _ _ _) _;rw[hm,hm];exact up i j hij hj,by omega,λk h1 h2=>by congr 1;omega⟩
    ·rw[if_neg hq]
     exact wpS_pure ⟨0,rfl,a1,up,by omega,λk h1 h2=>by congr 1;omega⟩
   ·rw[if_neg (by simpa using w)]
    refine wpS_bind (U6 C hk hin a1 (by omega) (by omega) ?_);dsimp only;by_cases w2:Vk rk (arrOf st') (lo+x-1)<Vk rk (arrOf st') (lo+x)
    ·rw[if_pos (decide_eq_true w2)]
     exact wpS_pure ⟨x,neq,rfl,by omega,by omega,a1,a2,a3,a4⟩
    ·rw[if_neg (by simpa using w2)]
     have eq:Vk rk (arrOf st') (lo+x)=Vk rk (arrOf st') (lo+x-1):=by omega
     refine wpS_pure ⟨neq+1,rfl,a1,a2.next (by omega) (by omega),by omega,λk h1 h2=>?_⟩;rw[show lo+(x+1)-1=lo+x by omega];by_cases hkx:k=lo+x
     ·rw[hkx]
     ·rw[eq];exact a4 k (by omega) (by omega)
  case postD=>
   rintro c stD ⟨m,neq,rfl,b1,b2,hT1,hD1,b3,b4⟩;dsimp only;by_cases hq:neq > 0
   ·rw[if_pos hq]
    refine wpS_bind (ZeJ ?_);have hm:=ZbV (xs:=arrOf stD) (i:=lo+m-(neq+1)) (j:=lo+m) (by rw[hT1.size];omega) b4;have hT2:=hT1.mir (i:=lo+m-(neq+1)) (j:=lo+m) (by rw[hT1.size];omega) (by omega);have hD2:Dn rk (arrOf (setArr stD (mirror (arrOf stD) (lo+m-(neq+1)) (lo+m) ((lo+m-(lo+m-(neq+1))) / 2)))) lo m:=λi j hij hj=>by
     show Vk rk (mirror _ _ _ _) _<=Vk rk (mirror _ _ _ _) _;rw[hm,hm];exact hD1 i j hij hj
    generalize setArr stD (mirror (arrOf stD) (lo+m-(neq+1)) (lo+m) ((lo+m-(lo+m-(neq+1))) / 2))=stE at hT2 hD2⊢
    walk_at "upTail"
   ·rw[if_neg hq]
    have hT2:=hT1;have hD2:=hD1
    walk_at "upTail"))
theorem Zkm {st0 st:SortSt}{lo nrem:Nat}{Q:Option Nat->SortSt->Prop}(C:Wu M A E s rk κ In)(hk:kindOf st0=κ)(hin:∀x∈(arrOf st0).toList,In x)(hn:lo+nrem<=(arrOf st0).size)(h1:1<=nrem)(hT:TB st0 st lo)
  (h:∀m st',TB st0 st' lo->1<=m->m<=nrem->Up rk (arrOf st') lo m->Q (some m) st'):wpS M A E s (countRun' lo nrem) Q st:=by
 rw[countRun'_eq];refine wpS_bind (wpS_mono (wpS_forRange (I:=λx c st'=>st'=st/\c=(none,x)/\Up rk (arrOf st) lo x)
  (Q:=λc st'=>st'=st/\∃n,c=(none,n)/\1<=n/\n<=nrem/\Up rk (arrOf st) lo n/\(n=nrem∨Vk rk (arrOf st) (lo+n)<Vk rk (arrOf st) (lo+n-1))) ?step ?fin ⟨rfl,rfl,λi j hij hj=>by
   have:i=j:=by omega
   subst this;exact yO _⟩) ?post)
 case fin=>
  rintro c st' ⟨rfl,rfl,a⟩;rw[show max 1 nrem=nrem by omega]at a⊢;exact⟨rfl,nrem,rfl,h1,qp _,a,.inl rfl⟩
 case step=>
  rintro x c st' hax hxn ⟨e0,rfl,a⟩;rw[e0];dsimp only;refine wpS_bind (U6 C hk hin hT (by omega) (by omega) ?_);dsimp only;by_cases w:Vk rk (arrOf st) (lo+x)<Vk rk (arrOf st) (lo+x-1)
  ·rw[if_pos (decide_eq_true w)]
   exact wpS_pure ⟨rfl,x,rfl,hax,by omega,a,.inr w⟩
  ·rw[if_neg (by simpa using w)]
   exact wpS_pure ⟨rfl,rfl,a.next hax w⟩
 case post=>
  rintro c st' ⟨e0,n,rfl,n1,n2,a,hor⟩;rw[e0];dsimp only;by_cases hnn:n=nrem
  ·rw[if_pos (by simpa using hnn)]
   exact wpS_pure (h n st hT n1 n2 a)
  ·rw[if_neg (by simpa using hnn)]
   have hlt:=hor.resolve_left hnn;have hn1:n+1<=nrem:=by omega
   by_cases hgt:n > 1
   ·rw[if_pos hgt]
    refine wpS_bind (U6 C hk hin hT (by omega) (by omega) ?_);dsimp only;by_cases rose:Vk rk (arrOf st) lo<Vk rk (arrOf st) (lo+n-1)
    ·rw[if_pos (decide_eq_true rose)]
     exact wpS_pure (h n st hT n1 n2 a)
    ·rw[if_neg (by simpa using rose)]
     refine wpS_bind (ZeJ ?_);have hall:∀k,lo<=k->k<lo+n->Vk rk (arrOf st) k=Vk rk (arrOf st) lo:=λk h1 h2=>by
      have a1:=a 0 (k-lo) (by omega) (by omega);have a2:=a (k-lo) (n-1) (by omega) (by omega);rw[qci,show lo+(k-lo)=k by omega]at a1;rw[show lo+(k-lo)=k by omega,show lo+(n-1)=lo+n-1 by omega]at a2;omega
     have hm:=ZbV (xs:=arrOf st) (i:=lo) (j:=lo+n) (by rw[hT.size];omega) hall;have hTd:=hT.mir (i:=lo) (j:=lo+n) (by rw[hT.size];omega) (qp _);have hDd:Dn rk (arrOf (setArr st (mirror (arrOf st) lo (lo+n) ((lo+n-lo) / 2)))) lo (n+1):=λi j hij hj=>by
      show Vk rk (mirror _ _ _ _) _<=Vk rk (mirror _ _ _ _) _;rw[hm,hm];have v1:=hall (lo+n-1) (by omega) (by omega);by_cases hjn:j<n
      ·rw[hall (lo+j) (by omega) (by omega),hall (lo+i) (by omega) (by omega)];exact yO _
      ·have ej:j=n:=by omega
       subst ej;by_cases hi:i=j
       ·subst hi;exact yO _
       ·rw[hall (lo+i) (by omega) (by omega)];omega
     generalize setArr st (mirror (arrOf st) lo (lo+n) ((lo+n-lo) / 2))=stx at hTd hDd⊢
     walk_at "descT"
   ·rw[if_neg hgt]
    have hn0:n=1:=by omega
    have hTd:=hT;have hDd:Dn rk (arrOf st) lo (n+1):=by
     subst hn0;exact Dn.next (λi j hij hj=>by
      have:i=j:=by omega
      subst this;exact yO _) (qp _) (yH hlt)
    walk_at "descT"
end
noncomputable def Pd:Nat->List (Nat×Nat×Nat)->List (List Keyed)->Prop
 | _,[],[]=>True
 | off,x::ps,r::rs=>x.1=off/\x.2.1=r.length/\Pd (off+r.length) ps rs
 | _,_,_=>False
theorem Pd.len:∀{off:Nat} {ps:List (Nat×Nat×Nat)} {rs:List (List Keyed)},Pd off ps rs->ps.length=rs.length
 | _,[],[],_=>rfl
 | _,_::_,_::_,h=>by rw[qL,qL,Pd.len h.2.2]
 | _,[],_::_,h=>h.elim
 | _,_::_,[],h=>h.elim
theorem Pd.push {x:Nat×Nat×Nat}{r:List Keyed}:∀{off:Nat} {ps:List (Nat×Nat×Nat)} {rs:List (List Keyed)},Pd off ps rs->x.1=off+rs.flatten.length->x.2.1=r.length->Pd off (ps ++ [x]) (rs ++ [r])
 | off,[],[],_,h1,h2=>⟨by simpa using h1,h2,trivial⟩
 | off,y::ps,q::rs,h,h1,h2=>by
  refine⟨h.1,h.2.1,Pd.push h.2.2 ?_ h2⟩;rw[h1];simp;omega
 | _,[],_::_,h,_,_=>h.elim
 | _,_::_,[],h,_,_=>h.elim
theorem Pd.modify {pw:Nat}:∀{off:Nat} {ps:List (Nat×Nat×Nat)} {rs:List (List Keyed)} (k:Nat),Pd off ps rs->Pd off (ps.modify k λx=>(x.1,x.2.1,pw)) rs
 | off,[],[],k,h=>by cases k <;> exact h
 | off,y::ps,q::rs,0,h=>⟨h.1,h.2.1,h.2.2⟩
 | off,y::ps,q::rs,k+1,h=>⟨h.1,h.2.1,Pd.modify k h.2.2⟩
 | _,[],_::_,_,h=>h.elim
 | _,_::_,[],_,h=>h.elim
theorem Pd.at:∀{off:Nat} {ps:List (Nat×Nat×Nat)} {rs:List (List Keyed)} (i:Nat),Pd off ps rs->i+1<ps.length->∃rs1 As Bs rs2 p q,rs=rs1++As::Bs::rs2/\ps[i]?=some (off+rs1.flatten.length,As.length,p)/\ps[i+1]?=some (off+rs1.flatten.length+As.length,Bs.length,q)/\∀Ms:List Keyed,Ms.length=As.length+Bs.length->Pd off ((ps.set i (off+rs1.flatten.length,As.length+Bs.length,p)).eraseIdx (i+1)) (rs1++Ms::rs2)
 | off,x::y::ps,a::b::rs,0,h,_=>by
  obtain⟨h1,h2,h3,h4,h5⟩:=h;refine⟨[],a,b,rs,x.2.2,y.2.2,rfl,?_,?_,λMs hm=>⟨by simp,hm.symm,?_⟩⟩
  ·simp[<-h1,<-h2]
  ·simp[<-h3,<-h4]
  ·rw[hm,<-qa2];exact h5
 | off,x::ps,a::rs,i+1,h,hi=>by
  obtain⟨h1,h2,h3⟩:=h;obtain⟨rs1,As,Bs,rs2,p,q,e,e1,e2,k⟩:=Pd.at i h3 (by simpa using hi);refine⟨a::rs1,As,Bs,rs2,p,q,by rw[e];rfl,?_,?_,λMs hm=>?_⟩
  ·simp only[qct,zP,qI]
   rw[e1,qa2]
  ·simp only[qct,zP,qI]
   rw[e2,qa2 off]
  ·have:=k Ms hm
   simp only[zP,qI,List.set_cons_succ,qcu,qbC];rw[<-qa2];exact⟨h1,h2,this⟩
 | off,[x],a::rs,0,h,hi=>by simp at hi
 | off,x::y::ps,[a],0,h,_=>h.2.2.elim
 | _,[],_,_,_,hi=>by simp at hi
 | _,_::_,[],_,h,_=>h.elim
section
variable {M:Model}{A:xC}{E:xD}{s:Shared}{rk:Keyed->Int}{κ:SortKind}{In:Keyed->Prop}{a₀:List Keyed}
structure SI (rk:Keyed->Int)(κ:SortKind)(a₀:List Keyed)(st:SortSt)(runs:List (List Keyed))(R:List Keyed):Prop where
 e:(arrOf st).toList=runs.flatten++R
 pd:Pd 0 (pendingOf st).toList runs
 ok:∀r∈runs,SL rk r/\0<r.length
 perm:(arrOf st).toList.Perm a₀
 kind:kindOf st=κ
 fail:failedOf st=none
theorem SI.psize {st:SortSt}{runs:List (List Keyed)}{R:List Keyed}(h:SI rk κ a₀ st runs R):(pendingOf st).size=runs.length:=by
 rw[<-h.pd.len,qB]
theorem Zc8 {st:SortSt}{runs:List (List Keyed)}{R:List Keyed}{i:Nat}{Q:Bool->SortSt->Prop}(C:Wu M A E s rk κ In)(hin:∀x∈a₀,In x)(h:SI rk κ a₀ st runs R)(hi:i+1<(pendingOf st).size)
  (k:∀st' runs',SI rk κ a₀ st' runs' R->runs'.length+1=runs.length->runs'.flatten.length=runs.flatten.length->Q true st'):wpS M A E s (mergeAt' i) Q st:=by
 obtain⟨rs1,As,Bs,rs2,p,q,e,e1,e2,kk⟩:=Pd.at i h.pd (by simpa using hi);rw[qad]at e1 e2 kk;have oA:=h.ok As (by rw[e];simp);have oB:=h.ok Bs (by rw[e];simp);refine ZgJ (P:=rs1.flatten) (As:=As) (Bs:=Bs) (R:=rs2.flatten++R) C h.kind h.fail (λx hx=>hin x (h.perm.mem_iff.mp hx)) (by rw[<-qA];exact e1) (by rw[<-qA];exact e2) (by rw[h.e,e];simp) oA.1 oB.1 oA.2 oB.2 λst' Ms h1 h2 h3 h4 h5 h6=>?_;have hml:Ms.length=As.length+Bs.length:=by rw[h2.length_eq,qI]
 refine k st' (rs1++Ms::rs2) ⟨by rw[h1];simp,?_,λr hr=>?_,?_,h4,h5⟩ ?_ ?_
 ·rw[h6]
  have:=kk Ms hml;simpa using this
 ·rcases qR.mp hr with hr | hr
  ·exact h.ok r (by rw[e];simp[hr])
  ·rcases qq.mp hr with rfl | hr
   ·exact⟨h3,by rw[hml];omega⟩
   ·exact h.ok r (by rw[e];simp[hr])
 ·refine qaL.trans ?_ h.perm
  rw[h1,h.e,e];have:(Ms++(rs2.flatten++R)).Perm (As++Bs++(rs2.flatten++R)):=h2.append_right _;have:=this.append_left rs1.flatten;simpa using this
 ·rw[e];simp;omega
 ·rw[e];simp[hml];omega
theorem ZmG {arr:Array Keyed}{F R:List Keyed}{n:Nat}(e:arr.toList=F++R)(h:Up rk arr F.length n)(hn:n<=R.length):SL rk (R.take n):=by
 have at':∀{j:Nat} (hj:j<R.length),Vk rk arr (F.length+j)=rk R[j]:=λ{j} hj=>by
  unfold Vk;rw[<-qA,e,yj (by omega),show F.length+j-F.length=j by omega,qG hj]
 refine zx.mpr λi j hi hj hij=>?_;rw[qZ]at hi hj;have:=h i j (by omega) (by omega);rw[at' (by omega),at' (by omega)]at this;rw[List.getElem_take,List.getElem_take];exact this
theorem SI.push {st:SortSt}{runs:List (List Keyed)}{R:List Keyed}{n:Nat}(h:SI rk κ a₀ st runs R)(hs:SL rk (R.take n))(h1:1<=n)(hn:n<=R.length):SI rk κ a₀ (setPending st ((pendingOf st).push (runs.flatten.length,n,0))) (runs ++ [R.take n]) (R.drop n):=by
 refine⟨?_,?_,λr hr=>?_,h.perm,h.kind,h.fail⟩
 ·show(arrOf st).toList=_
  rw[h.e];simp
 ·show Pd 0 ((pendingOf st).push (runs.flatten.length,n,0)).toList _
  rw[ze];exact h.pd.push (by simp) (by rw[qZ];show n=_;omega)
 ·rcases qR.mp hr with hr | hr
  ·exact h.ok r hr
  ·rw[qz.mp hr]
   exact⟨hs,by rw[qZ];omega⟩
theorem SI.power {st:SortSt}{runs:List (List Keyed)}{R:List Keyed}{k pw:Nat}(h:SI rk κ a₀ st runs R):SI rk κ a₀ (setPending st ((pendingOf st).modify k λx=>(x.1,x.2.1,pw))) runs R:=by
 refine⟨h.e,?_,h.ok,h.perm,h.kind,h.fail⟩;show Pd 0 ((pendingOf st).modify k λx=>(x.1,x.2.1,pw)).toList _;rw[Array.toList_modify];exact h.pd.modify k
theorem SI.fresh {st st':SortSt}{runs:List (List Keyed)}{R:List Keyed}(h:SI rk κ a₀ st runs R)(t:TB st st' runs.flatten.length):SI rk κ a₀ st' runs ((arrOf st').toList.drop runs.flatten.length):=by
 have ep:(arrOf st').toList.take runs.flatten.length=runs.flatten:=by
  apply qap;intro i;by_cases hi:i<runs.flatten.length
  ·rw[zM hi,qA,t.pre i hi,<-qA,h.e,zD hi]
  ·rw[yc (by rw[qZ];omega),yc (by omega)]
 refine⟨?_,by rw[t.pend];exact h.pd,h.ok,t.perm.trans h.perm,t.kind.trans h.kind,t.fail.trans h.fail⟩
 conv=>lhs;rw[<-zk runs.flatten.length (arrOf st').toList]
 rw[ep]
theorem SI.le {st:SortSt}{runs:List (List Keyed)}{R:List Keyed}(h:SI rk κ a₀ st runs R):runs.length<=runs.flatten.length:=by
 have:∀rs:List (List Keyed),(∀r∈rs,SL rk r/\0<r.length)->rs.length<=rs.flatten.length:=by
  intro rs
  induction rs with
  | nil=>intro _;simp
  | cons r rs ih=>
   intro hr;have h1:=ih λq hq=>hr q (by simp[hq]);have h2:=(hr r (by simp)).2;simp only[qL,zP,qI];omega
 exact this runs h.ok
end
section
variable {M:Model}{A:xC}{E:xD}{s:Shared}{rk:Keyed->Int}{κ:SortKind}{In:Keyed->Prop}{a₀:List Keyed}
set_option hygiene false in
local macro_rules | `(tactic| walk_at "runEnd")=>`(tactic| (
  have yes:∀st4 runs4,SI rk κ a₀ st4 runs4 R3->runs4.flatten.length=runs.flatten.length->∃lo' runs' R',((none:Option PUnit),runs.flatten.length+nn)=(none,lo')/\SI rk κ a₀ (setPending st4 ((pendingOf st4).push (runs.flatten.length,nn,0))) runs' R'/\runs'.flatten.length=lo'/\x+1<=lo'/\lo'<=(arrOf st).size:=λst4 runs4 h4 e4=>by
   have hp4:=h4.push hS3 n1 n2;rw[e4]at hp4;refine⟨_,_,_,rfl,hp4,?_,by omega,by omega⟩;simp only[List.flatten_append,qI,zP,List.flatten_nil,zj,qZ];omega
  refine wpS_bind (wpS_get ?_);split
  ·refine wpS_bind (wpS_mono (wpS_forRange (I:=λy c st4=>c=(none,())/\∃runs4,SI rk κ a₀ st4 runs4 R3/\runs4.flatten.length=runs.flatten.length)
    (Q:=λc st4=>c=(none,())/\∃runs4,SI rk κ a₀ st4 runs4 R3/\runs4.flatten.length=runs.flatten.length) ?stepM ?finM ⟨rfl,runs,h3,rfl⟩) ?postM)
   case finM=>exact λc st4 z=>z
   case postM=>
    rintro c st4 ⟨rfl,runs4,h4,e4⟩;dsimp only;refine wpS_bind (wpS_modify (wpS_bind (wpS_modify (wpS_pure ?_))));exact yes _ runs4 h4.power e4
   case stepM=>
    rintro y c st4 _ hy ⟨rfl,runs4,h4,e4⟩
    try dsimp only
    refine wpS_bind (wpS_get ?_);by_cases g0:(pendingOf st4).size > 1
    ·rw[if_pos g0]
     split
     ·split
      ·exact wpS_pure ⟨rfl,runs4,h4,e4⟩
      ·refine wpS_bind (Zc8 C hin h4 (by omega) λst5 runs5 h5 l5 e5=>?_)
       simp only[qao,qX,if_false];exact wpS_pure ⟨rfl,runs5,h5,e5.trans e4⟩
     ·exact wpS_pure ⟨rfl,runs4,h4,e4⟩
    ·rw[if_neg g0]
     exact wpS_pure ⟨rfl,runs4,h4,e4⟩
  ·refine wpS_bind (wpS_modify (wpS_pure ?_))
   exact yes _ runs h3 rfl))
theorem ZfJ {st:SortSt}{Q:Unit->SortSt->Prop}(C:Wu M A E s rk κ In)(hin:∀x∈a₀,In x)(hp:(arrOf st).toList.Perm a₀)(hk:kindOf st=κ)(hf:failedOf st=none)(hpe:pendingOf st = #[])
  (k:∀st',(arrOf st').toList.Perm a₀->SL rk (arrOf st').toList->failedOf st'=none->Q () st'):wpS M A E s sortRuns' Q st:=by
 rw[sortRuns'_eq];refine wpS_bind (wpS_get ?_);dsimp only;have hsz:∀{st':SortSt} {runs:List (List Keyed)} {R:List Keyed},SI rk κ a₀ st' runs R->(arrOf st').size=(arrOf st).size:=λ{st' runs R} h=>by
  have h1:=h.perm.length_eq;have h2:=hp.length_eq;simp only[qB]at h1 h2;omega
 have S0:SI rk κ a₀ st [] (arrOf st).toList:=⟨by simp,by rw[hpe];trivial,λr hr=>by simp at hr,hp,hk,hf⟩;generalize minRun' (arrOf st).size (arrOf st).size 0=mr;refine wpS_bind (wpS_mono (wpS_forRange (I:=λx c st'=>∃lo runs R,c=(none,lo)/\SI rk κ a₀ st' runs R/\runs.flatten.length=lo/\x<=lo/\lo<=(arrOf st).size)
  (Q:=λc st'=>∃runs R,c=(none,(arrOf st).size)/\SI rk κ a₀ st' runs R/\runs.flatten.length=(arrOf st).size) ?step ?fin ⟨0,[],_,rfl,S0,rfl,qp _,zC _⟩) ?post)
 case fin=>
  rintro c st' ⟨lo,runs,R,rfl,h,h1,h2,h3⟩;have:lo=(arrOf st).size:=by omega
  subst this;exact⟨runs,R,rfl,h,h1⟩
 case step=>
  rintro x c jW _ hx ⟨lo,runs,R,rfl,h,h1,h2,h3⟩;dsimp only;by_cases c0:lo≥(arrOf st).size
  ·rw[if_pos c0]
   have:lo=(arrOf st).size:=by omega
   subst this;exact wpS_pure ⟨runs,R,rfl,h,h1⟩
  ·rw[if_neg c0]
   have hs1:=hsz h;have hin1:∀x∈(arrOf jW).toList,In x:=λx hx=>hin x (h.perm.mem_iff.mp hx);refine wpS_bind (Zkm C h.kind hin1 (by omega) (by omega) (TB.refl jW lo) λm jT t2 m1 m2 u2=>?_);dsimp only;subst h1;have hRl:∀{st3:SortSt},TB jW st3 runs.flatten.length->((arrOf st3).toList.drop runs.flatten.length).length=(arrOf st).size-runs.flatten.length:=λ{st3} t=>by
    rw[zW,qB,t.size,hs1]
   by_cases cm:m<mr
   ·rw[if_pos cm]
    refine wpS_bind (wpS_lift (wpAny_rule ⟨rfl,?_⟩));refine wpS_bind (ZiE C h.kind hin1 (by omega) (by omega) t2 u2 λst3 t3 u3=>?_);simp only[qao,qX,if_false];have h3:=h.fresh t3;have hl3:=hRl t3;have n2:min ((arrOf st).size-runs.flatten.length) mr<=((arrOf st3).toList.drop runs.flatten.length).length:=by omega
    have hS3:=ZmG h3.e u3 n2;have n1:1<=min ((arrOf st).size-runs.flatten.length) mr:=by omega
    generalize (arrOf st3).toList.drop runs.flatten.length=R3 at h3 hl3 n2 hS3;generalize min ((arrOf st).size-runs.flatten.length) mr=nn at n1 n2 hS3⊢
    walk_at "runEnd"
   ·rw[if_neg cm]
    have h3:=h.fresh t2;have hl3:=hRl t2;have n2:m<=((arrOf jT).toList.drop runs.flatten.length).length:=by omega
    have hS3:=ZmG h3.e u2 n2;have n1:=m1;generalize (arrOf jT).toList.drop runs.flatten.length=R3 at h3 hl3 n2 hS3;generalize m=nn at n1 n2 hS3⊢
    walk_at "runEnd"
 case post=>
  rintro c jW ⟨runs,R,rfl,h,h1⟩;dsimp only;refine wpS_bind (wpS_mono (wpS_forRange (I:=λy c st4=>c=(none,())/\∃runs4,SI rk κ a₀ st4 runs4 R/\runs4.flatten.length=(arrOf st).size/\(runs4.length<=1∨runs4.length+y<=(arrOf st).size))
   (Q:=λc st4=>c=(none,())/\∃runs4,SI rk κ a₀ st4 runs4 R/\runs4.flatten.length=(arrOf st).size/\runs4.length<=1) ?stepF ?finF ⟨rfl,runs,h,h1,.inr (by have:=h.le;omega)⟩) ?postF)
  case finF=>
   rintro c st4 ⟨rfl,runs4,h4,e4,l4⟩;exact⟨rfl,runs4,h4,e4,by omega⟩
  case postF=>
   rintro c st4 ⟨rfl,runs4,h4,e4,l4⟩;dsimp only;refine wpS_pure (k st4 h4.perm ?_ h4.fail);have hs4:=hsz h4;have hl:=congrArg qaM h4.e;rw[qI,qB]at hl;have hR:R=[]:=zS.mp (by omega);rw[h4.e,hR,zj]
   cases runs4 with
   | nil=>exact zY
   | cons r rs=>
    have:rs=[]:=by simpa using l4
    subst this;have:=(h4.ok r (by simp)).1;simpa using this
  case stepF=>
   rintro y c st4 _ hy ⟨rfl,runs4,h4,e4,l4⟩;have ps:=h4.psize
   try dsimp only
   refine wpS_bind (wpS_get ?_);by_cases g0:(pendingOf st4).size<=1
   ·rw[if_pos g0]
    exact wpS_pure ⟨rfl,runs4,h4,e4,by omega⟩
   ·rw[if_neg g0]
    refine wpS_bind (Zc8 C hin h4 ?_ λst5 runs5 h5 l5 e5=>?_)
    ·repeat' split
     all_goals omega
    ·simp only[qao,qX,if_false]
     exact wpS_pure ⟨rfl,runs5,h5,e5.trans e4,by omega⟩
end
open L2 TS
theorem ZfK:∀{xs:List Value} {a b:List Int},IntsAre xs a->IntsAre xs b->a=b
 | _,_,_,.nil,.nil=>rfl
 | _,_,_,.cons n t h,k=>by
  cases k with
  | cons _ _ k=>rw[ZfK h k]
theorem ZlX {h:Heap}{v:Value}{a b:List Int}(x:Yo h v a)(y:Yo h v b):a=b:=by
 obtain⟨p,xs,rfl,⟨o,h1,h2,n,h3⟩,i1⟩:=x;obtain⟨q,ys,e,⟨o',k1,k2,m,k3⟩,i2⟩:=y
 cases e
 rw[h1]at k1;cases k1;rw[h3]at k3;injection k3 with e1 e2;have:xs=ys:=by simpa using congrArg qdc e1
 subst this;exact ZfK i1 i2
open Classical in
noncomputable def VN (h:Heap)(v:Value):List Int:=if x:∃ns,Yo h v ns then x.choose else []
theorem Vz {h:Heap}{v:Value}{ns:List Int}(x:Yo h v ns):VN h v=ns:=by
 have hx:∃ns,Yo h v ns:=⟨ns,x⟩;unfold VN;rw[dif_pos hx];exact ZlX hx.choose_spec x
noncomputable def JF (jM:List (List Int))(h:Heap)(p:Keyed):Int:=((jM.filter λm=>Yq m (VN h p.1)).length:Nat)
theorem Zhv {jM:List (List Int)}{a b:List Int}(ha:a∈jM)(h:Yq a b=true):(jM.filter λm=>Yq m a).length<(jM.filter λm=>Yq m b).length:=by
 have sub:∀(l:List (List Int)),(l.filter λm=>Yq m a).length<=(l.filter λm=>Yq m b).length/\(a∈l->(l.filter λm=>Yq m a).length<(l.filter λm=>Yq m b).length):=by
  intro l
  induction l with
  | nil=>exact⟨qp _,λz=>by simp at z⟩
  | cons c l ih=>
   obtain⟨i1,i2⟩:=ih;have step:Yq c a=true->Yq c b=true:=λz=>ZcE _ _ _ z h;constructor
   ·cases q:Yq c a with
    | true=>simp only[yz,q,step q,if_true,qL];omega
    | false=>
     simp only[yz,q,qX,if_false];split
     ·simp only[qL];omega
     ·exact i1
   ·intro z
    rcases qq.mp z with rfl | z
    ·simp only[yz,Zc2,qX,if_false,h,if_true,qL];omega
    ·have:=i2 z
     cases q:Yq c a with
     | true=>simp only[yz,q,step q,if_true,qL];omega
     | false=>
      simp only[yz,q,qX,if_false];split
      ·simp only[qL];omega
      ·exact this
 exact(sub jM).2 ha
theorem ZfL {jM:List (List Int)}{h:Heap}{x y:Keyed}{a b:List Int}(hx:Yo h x.1 a)(hy:Yo h y.1 b)(ha:a∈jM)(hb:b∈jM):decide (JF jM h x<JF jM h y)=Yq a b:=by
 unfold JF;rw[Vz hx,Vz hy]
 cases q:Yq a b with
 | true=>
  have:=Zhv ha q;exact decide_eq_true (by omega)
 | false=>
  refine decide_eq_false ?_;by_cases e:a=b
  ·subst e;omega
  ·have:=Zhv hb (J9 _ _ e q)
   omega
section
variable {prog:xB}{w:World}{A:xC}{E:xD}{s:Shared}
theorem cmpT (jM:List (List Int)):Wu (xz prog w) A E s (JF jM s.heap) (tuples' true) (λp=>∃ns∈jM,Yo s.heap p.1 ns):=λx y ⟨a,ha,hx⟩ ⟨b,hb,hy⟩ st F hk q=>by
 rw[lt'_eq];refine wpS_bind (wpS_get ?_);rw[hk];refine wpS_bind (wpS_lift (wpAny_attempt (Zot hx hy ⟨rfl,?_⟩)));refine wpS_pure ?_;rw[ZfL hx hy ha hb]at q;exact q
theorem UW {h:Heap}:∀{vs:List Value} {jM:List (List Int)},Paired (Yo h) vs jM->vs.map (VN h)=jM/\∀v∈vs,∃ns∈jM,Yo h v ns
 | [],[],_=>⟨rfl,λv hv=>by simp at hv⟩
 | v::vs,ns::jM,h=>by
  cases h with
  | cons h1 h2=>
   obtain⟨a1,a2⟩:=UW h2;refine⟨by rw[zc,a1,Vz h1],λu hu=>?_⟩;rcases qq.mp hu with rfl | hu
   ·exact⟨ns,by simp,h1⟩
   ·obtain⟨m,hm,t⟩:=a2 u hu
    exact⟨m,by simp[hm],t⟩
theorem ZbW {h:Heap}:∀{vs:List Value},(∀v∈vs,∃ns,Yo h v ns)->Paired (Yo h) vs (vs.map (VN h))
 | [],_=>.nil
 | v::vs,hv=>by
  obtain⟨ns,t⟩:=hv v (by simp);refine .cons (by rw[Vz t];exact t) (ZbW λu hu=>hv u (by simp[hu]))
theorem Zby {h:Heap}{vs:List Value}{jM:List (List Int)}(ht:Paired (Yo h) vs jM){st:SortSt}(hp:(arrOf st).toList.Perm (pairsOf vs).toList)(hs:SL (JF jM h) (arrOf st).toList) :
  Paired (Yo h) ((arrOf st).map (·.2)).toList (YG jM)/\((arrOf st).map (·.2)).toList.Perm vs:=by
 obtain⟨p1,p2⟩:=UW ht;have same:∀p∈(arrOf st).toList,p.1=p.2/\p.1∈vs:=λp hp'=>by
  have:=hp.mem_iff.mp hp';rw[pairsOf_toList]at this;obtain⟨i,hi⟩:=zI.mp this;rw[yq]at hi;obtain⟨e1,e2⟩:=hi;rw[e1]at e2;exact⟨zw e2,zv e1⟩
 have em:((arrOf st).map (·.2)).toList=(arrOf st).toList.map (·.1):=by
  rw[Array.toList_map];exact zy λp hp'=>((same p hp').1).symm
 have pv:((arrOf st).toList.map (·.1)).Perm vs:=by
  have:=hp.map (·.1);rw[pairsOf_toList,List.map_fst_zip (qp _)]at this;exact this
 rw[em];refine⟨?_,pv⟩;have key:((arrOf st).toList.map (·.1)).map (VN h)=YG jM:=by
  refine Zbf ?_ ?_
  ·rw[<-p1];exact pv.map _
  ·rw[qN]
   refine zp.mpr (yA (λ{x y} hx hy hxy=>?_) hs);obtain⟨a,ha,ta⟩:=p2 x.1 (same x hx).2;obtain⟨b,hb,tb⟩:=p2 y.1 (same y hy).2;have:=ZfL tb ta hb ha;show Xl (VN h x.1) (VN h y.1)=true;rw[Vz ta,Vz tb];unfold Xl;rw[<-this,decide_eq_false (by omega)];rfl
 rw[<-key];exact ZbW λv hv=>by
  obtain⟨ns,_,t⟩:=p2 v (pv.mem_iff.mp hv);exact⟨ns,t⟩
theorem Zkn {α:Type}{R:α->α->Prop}:∀{l:List α},l.length<2->l.Pairwise R
 | [],_=>zY
 | [_],_=>yg _ _
 | _::_::_,h=>by simp at h;omega
theorem ZeK {a:Addr}{vs:List Value}{jM:List (List Int)}{n:Nat}{P:PySem.Fin->Shared->Prop}(ho:s.heap.get? a=some (seqObj "list" vs.toArray n))(ht:Paired (Yo s.heap) vs jM)(hz:vs.length<=100000)(hne:2<=vs.length->∀ns∈jM,ns≠[])
  (h:∀out:Array Value,Paired (Yo s.heap) out.toList (YG jM)->out.toList.Perm vs->P (.done (.ret .none)) { s with heap:=sortedHeap s.heap a vs out }) :
  xf (xz prog w) A (Builtin.«list.sort» ⟨[.ref a],[]⟩) P E s:=by
 have jO:vs.length=jM.length:=qan ht;rw[list_sort_plain];have ha:a<s.heap.objs.size:=qK ho;have hvz:vs.toArray.size<=xg:=by rw[qJ,sizeLine_eq];omega
 refine xa (listItems_at ho rfl ?_);refine xa (listUpdate_at ho rfl ?_ (hsz:=hvz));obtain⟨e1,ho1⟩:∃e1,(s.heap.update a (zr λ_=>#[])).get? a=some (seqObj "list" #[] e1):=⟨_,get?_update_seq ho (λ_=>#[])⟩;refine xa (seqEpoch_at ho1 rfl ?_);refine xa (wpAny_newTuple ?_ (by simpa using hvz));refine xa (xw ?_);refine xu ?_;have ho6:(((s.heap.update a (zr λ_=>#[])).push (seqObj "tuple" vs.toArray 0)).push (seqObj "list" #[] 0)).get? a=some (seqObj "list" #[] e1):=qj _ (qj _ ho1);have kk:∀c o,c≠a->s.heap.get? c=some o->(((s.heap.update a (zr λ_=>#[])).push (seqObj "tuple" vs.toArray 0)).push (seqObj "list" #[] 0)).get? c=some o:=λc o hc e=>qj _ (qj _ (by rw[qc8 _ _ _ _ hc];exact e));have ht2:Paired (Yo (((s.heap.update a (zr λ_=>#[])).push (seqObj "tuple" vs.toArray 0)).push (seqObj "list" #[] 0))) vs jM:=L2.Paired.mapP ht λv ns x=>x.at kk ⟨_,ho,rfl⟩;have back:∀out:Array Value,Paired (Yo (((s.heap.update a (zr λ_=>#[])).push (seqObj "tuple" vs.toArray 0)).push (seqObj "list" #[] 0))) out.toList (YG jM)->out.toList.Perm vs->Paired (Yo s.heap) out.toList (YG jM):=λout hpd hpv=>by
  obtain⟨q1,q2⟩:=UW ht;obtain⟨r1,r2⟩:=UW hpd;have z:=ZbW (h:=s.heap) (vs:=out.toList) λv hv=>by
   obtain⟨ns,_,t⟩:=q2 v (hpv.mem_iff.mp hv);exact⟨ns,t⟩
  have e:out.toList.map (VN s.heap)=YG jM:=by
   rw[<-r1];refine zy λv hv=>?_;obtain⟨ns,_,t⟩:=q2 v (hpv.mem_iff.mp hv);rw[Vz t,Vz (t.at kk ⟨_,ho,rfl⟩)]
  rw[e]at z;exact z
 show xf (xz prog w) A _ P E { s with heap:=((s.heap.update a (zr λ_=>#[])).push (seqObj "tuple" vs.toArray 0)).push (seqObj "list" #[] 0) };dsimp only;have hsz:vs.toArray.size=vs.length:=by simp
 by_cases h2:vs.toArray.size<2
 ·rw[if_pos h2,if_pos h2];refine xa (xb ?_);rw[StateT.run_pure]
  refine xa (xb ?_);dsimp only;refine xa (seqEpoch_at ho6 rfl ?_);refine xa (listUpdate_at ho6 rfl ?_ (hsz2:=by rw[Array.size_map];show(pairsOf vs).size<=_;rw[pairsOf_size,sizeLine_eq];omega));simp only[bne_self_eq_false,qX,if_false];have sp:=Zby ht2 (st:=SortSt.mk' general' (vs.toArray.zip vs.toArray) #[] 7 none) (.refl _) (by
   show((pairsOf vs).toList).Pairwise _;have hl:(pairsOf vs).toList.length<2:=by rw[qB,pairsOf_size];omega
   exact Zkn hl)
  exact xb (h _ (back _ sp.1 sp.2) sp.2)
 ·rw[if_neg h2,if_neg h2]
  have h2':2<=vs.length:=by omega
  refine xa (ZnB (s:={ s with heap:=((s.heap.update a (zr λ_=>#[])).push (seqObj "tuple" vs.toArray 0)).push (seqObj "list" #[] 0) }) ht2 (hne h2') (by omega) ?_);refine xa (xc (ZfJ (s:={ s with heap:=((s.heap.update a (zr λ_=>#[])).push (seqObj "tuple" vs.toArray 0)).push (seqObj "list" #[] 0) }) (a₀:=(pairsOf vs).toList) (st:=SortSt.mk' (tuples' true) (vs.toArray.zip vs.toArray) #[] 7 none)
   (Q:=λ_ st'=>(arrOf st').toList.Perm (pairsOf vs).toList/\SL (JF jM _) (arrOf st').toList/\failedOf st'=none) (cmpT jM) (λx hx=>?_) (.refl _) rfl rfl rfl λst' a1 a2 a3=>⟨a1,a2,a3⟩) ?_ λ_ _ e=>e)
  ·rw[pairsOf_toList]at hx
   exact(UW ht2).2 x.1 (qaI hx).1
  ·rintro⟨⟨⟩,st'⟩ s' ⟨rfl,hp,hs,hf⟩
   dsimp only;have sp:=Zby ht2 hp hs;refine xa (seqEpoch_at ho6 rfl ?_);refine xa (listUpdate_at ho6 rfl ?_ (hsz2:=by
    have:=sp.2.length_eq;rw[qB]at this;rw[this,sizeLine_eq];omega))
   rw[hf];simp only[bne_self_eq_false,qX,if_false];exact xb (h _ (back _ sp.1 sp.2) sp.2)
end
end TT
namespace TF
open L2
section
variable {X:Cx}{G:Gh}
end
end TF
namespace L2
section
variable {X:Cx}{tg:Expr}
end
end L2
namespace TF
open L2
section
variable {X:Cx}{G:Gh}{ob own:List Nat}{fr:Bool}
end
open Sem (wp)
section
variable {prog:xB}{w:World}{A:xC}{E:xD}{s:Shared}
end
variable {X:Cx}{G:Gh}{f:Zb->M D}
end TF
namespace HT
noncomputable def X1 (xs:Array Nat):Prop:=xs.toList.Pairwise (· < ·)
theorem X1.lt {xs:Array Nat}(h:X1 xs){i k:Nat}(hk:k<xs.size)(hi:i<k):xs.getD i 0<xs.getD k 0:=by
 have:=zx.mp h i k (by simp;omega) (by simpa using hk) hi;simp only[Array.getElem_toList]at this;rw[qU,qU,qf (by omega),qf hk];exact this
theorem Zc9 {xs:Array Nat}(h:X1 xs)(j:Nat):∀(f lo hi:Nat),hi-lo<=f->lo<=hi->hi<=xs.size->(∀i<lo,xs.getD i 0<j)->(∀i,hi<=i->i<xs.size->j<=xs.getD i 0)->
  (∀i<qaQ xs j f lo hi,xs.getD i 0<j)/\(∀i,qaQ xs j f lo hi<=i->i<xs.size->j<=xs.getD i 0)/\qaQ xs j f lo hi<=xs.size
 | 0,lo,hi,e1,e2,e3,a,b=>by
  have:lo=hi:=by omega
  subst this;unfold qaQ;exact⟨a,b,e3⟩
 | f+1,lo,hi,e1,e2,e3,a,b=>by
  unfold qaQ;by_cases c:lo<hi
  ·rw[if_pos c]
   dsimp only;have hm:(lo+hi) / 2<xs.size:=by omega
   have eg:xs.getD ((lo+hi) / 2) j=xs.getD ((lo+hi) / 2) 0:=by
    rw[qU,qU,qf hm];rfl
   rw[eg];by_cases d:xs.getD ((lo+hi) / 2) 0<j
   ·rw[if_pos d]
    refine Zc9 h j f _ hi (by omega) (by omega) e3 (λi hi'=>?_) b;by_cases z:i<(lo+hi) / 2
    ·exact qab (h.lt hm z) d
    ·have:i=(lo+hi) / 2:=by omega
     rw[this];exact d
   ·rw[if_neg d]
    refine Zc9 h j f lo _ (by omega) (by omega) (by omega) a λi hi' hs=>?_;by_cases z:i=(lo+hi) / 2
    ·rw[z];omega
    ·have:=h.lt hs (show(lo+hi) / 2<i by omega)
     omega
  ·rw[if_neg c]
   have:lo=hi:=by omega
   subst this;exact⟨a,b,e3⟩
theorem JP {xs:Array Nat}(h:X1 xs)(j:Nat):(∀i<qE xs j,xs.getD i 0<j)/\(∀i,qE xs j<=i->i<xs.size->j<=xs.getD i 0)/\qE xs j<=xs.size:=
 Zc9 h j xs.size 0 xs.size (by omega) (zC _) (qp _) (λi hi=>by omega) λi h1 h2=>by omega
theorem ZgL {xs:Array Nat}(h:X1 xs){i:Nat}(hi:i<xs.size):qE xs (xs.getD i 0+1)=i+1:=by
 obtain⟨a,b,c⟩:=JP h (xs.getD i 0+1);have h1:¬qE xs (xs.getD i 0+1)<=i:=λz=>by
  have:=b i z hi;omega
 by_cases h2:i+1<qE xs (xs.getD i 0+1)
 ·have:=a (i+1) h2
  have:=h.lt (show i+1<xs.size by omega) (yY i);omega
 ·omega
theorem ZgM {xs:Array Nat}(h:X1 xs):qE xs 0=0:=by
 obtain⟨a,b,c⟩:=JP h 0;by_cases z:0<qE xs 0
 ·have:=a 0 z;omega
 ·omega
theorem ZfM {xs:Array Nat}(h:X1 xs){j:Nat}(hj:¬xs[qE xs j]?=some j):X1 (qaR xs (qE xs j) j):=by
 obtain⟨a,b,c⟩:=JP h j;unfold X1;rw[qaC];have gl:∀{i:Nat} {x:Nat},xs.toList[i]?=some x->i<xs.size/\xs.getD i 0=x:=λ{i x} e=>by
  rw[qA]at e;obtain⟨l,e2⟩:=zJ.mp e;exact⟨l,by rw[qU,e];rfl⟩
 have m1:∀x∈xs.toList.take (qE xs j),x<j:=λx hx=>by
  obtain⟨i,hi⟩:=zI.mp hx;have hl:=(qw.mp hi).1;rw[qZ]at hl;rw[zM (by omega)]at hi;have:=a i (by omega);rw[(gl hi).2]at this;exact this
 have m2:∀x∈xs.toList.drop (qE xs j),j<x:=λx hx=>by
  obtain⟨i,hi⟩:=zI.mp hx;rw[zV]at hi;obtain⟨g1,g2⟩:=gl hi;have h1:=b _ (qcj _ i) g1;rw[g2]at h1;by_cases e:j=x
  ·exfalso
   subst e;by_cases z:i=0
   ·subst z
    rw[qci,qA]at hi;exact hj hi
   ·have h2:=h.lt g1 (show qE xs j<qE xs j+i by omega)
    have h3:=b _ (qp _) (by omega);omega
  ·omega
 refine qW.mpr ⟨h.sublist (zF _ _),yf.mpr ⟨m2,h.sublist (List.drop_sublist _ _)⟩,λx hx y hy=>?_⟩;rcases qq.mp hy with rfl | hy
 ·exact m1 x hx
 ·exact qab (m1 x hx) (m2 y hy)
theorem ZiF {t:SetTable}{j:Nat}(h:t.place[qE t.place j]?=some j):t.slot j=.live (qE t.place j):=by
 unfold SetTable.slot;dsimp only;rw[if_pos (by rw[h];simp)]
theorem Zao (g:Nat->Option Nat):∀l:List Nat,(l.filterMap λj=>(g j).map (j,·)).map (·.1)=l.filter λj=>(g j).isSome
 | []=>rfl
 | a::l=>by
  rw[yF]
  cases e:g a with
  | none=>simp[e,Zao g l]
  | some x=>simp[e,Zao g l]
theorem ZiG {m f v:Nat}{l p:Bool}{hs:Array Int}{r:SetTable×Array Nat}(h:qbz m f v l p hs=some r):r.1.led=l/\X1 r.1.place:=by
 unfold qbz at h
 cases e:zK m hs with
 | none=>rw[e]at h;cases h
 | some ow=>
  rw[e]at h
  cases h
  refine⟨rfl,?_⟩;show((((qk (m+1)).filterMap λj=>(ow.getD j none).map (j,·)).map (·.1)).toArray.toList).Pairwise (· < ·);rw[yG,Zao];exact qcE.sublist zu
noncomputable def Yv (w:World):Bool:=w.params.followText "set-order"
noncomputable def Good (w:World)(t:SetTable):Prop:=(Yv w=true∨t.led=true)/\X1 t.place
section
variable {prog:xB}{w:World}
variable (prog w) in
variable {A:xC}{E:xD}{s:Shared}
theorem ZnE (a:Value){Q₁:xD}(h:Q₁ (.ref s.heap.objs.size) { s with heap:=s.heap.push (YY (!Yv w)) }) :
  xo (xz prog w) A (.call (.builtin "set.__new__") ⟨[.type "set",a],[]⟩) (wants Q₁ E) s:=by
 apply codeAny_of_tree;show xf _ A.in1 (do
  checkBuiltinCall "set.__new__" ⟨[.type "set",a],[]⟩
  again (.builtin "set.__new__" ⟨[.type "set",a],[]⟩)) _ _ s
 refine xa (wpAny_of_eq (PySem.F.newCall_set_1 a) (xb ⟨plainId_quiet qcJ _,xm PySem.F.entry_set_new ?_⟩));rw[yD qcJ _];unfold Builtin.«set.__new__»;unfold Builtin.Frozenset.newClass;have s1:=sub_set_self;obtain⟨hp,g,d,tk,os⟩:=s;dsimp only
 wp_walk
 refine wpAny_askSetting (xb ?_);dsimp only;simp only[newObj];refine xa (wpAny_alloc (xb (xb ?_)));exact h
end
namespace FS
theorem entry_set_iter:entryFor table "set.__iter__" = some Builtin.«frozenset.__iter__»:=
 entryFor_alias (id':="frozenset.__iter__") (by kernel_rfl) rfl (by decide +kernel) (by kernel_rfl)
theorem slot_next:Slot "set_iterator" "__next__" "set_iterator.__next__":=
 .of (owner:="set_iterator") (n:="__next__") (by rw[typeLookup_type,builtinLookup_eq_fast];kernel_rfl)
  (by decide +kernel) (by decide +kernel) (by decide +kernel)
  (by first | exact .inl (by decide +kernel) | exact .inr (by decide +kernel))
  (by rw[isSubtype_type];kernel_rfl)
theorem entry_next:entryFor table "set_iterator.__next__" = some Builtin.«set_iterator.__next__»:=
 entryFor_of_tree (by kernel_rfl)
theorem ZfN:Manifest.owners.lookup (String.ofList ['r','o','t','a','r','e','t','i','_','t','e','s'].reverse)=some Manifest.sig_set_iterator:=by kernel_rfl
theorem args_next (a:Value):argsOk "set_iterator.__next__" ⟨[a],[]⟩:=by
 unfold argsOk;rw[signature?_of (id:="set_iterator.__next__") (n:=['_','_','t','x','e','n','_','_']) (o:=['r','o','t','a','r','e','t','i','_','t','e','s']) (by kernel_rfl) ZfN]
 kernel_rfl
end FS
theorem erase_perm {α:Type}:∀(l:List α) {i:Nat} (h:i<l.length),([l[i]]++l.eraseIdx i).Perm l
 | a::l,0,_=>.refl _
 | a::l,i+1,h=>by
  have ih:=erase_perm l (i:=i) (by simpa using h);simp only[List.getElem_cons_succ,qcu,List.singleton_append]at ih⊢;exact(qaL.swap _ _ _).trans (ih.cons a)
theorem Zhw {α:Type}(f:Nat->Nat):∀(n k:Nat) (l:List α) (out:Array α),l.length=n->(pickOrder.go f n k l out).toList.Perm (out.toList++l)
 | 0,k,l,out,h=>by
  have:l=[]:=zS.mp h;subst this;unfold pickOrder.go;rw[zj]
 | n+1,k,l,out,h=>by
  unfold pickOrder.go;have hl:f k % l.length<l.length:=qbk _ (by omega);rw[qG hl];dsimp only;refine(Zhw f n (k+1) _ _ (by rw[qa3 hl];omega)).trans ?_;rw[ze,qM];refine qaW _ ?_;exact erase_perm l hl
theorem ZbX {α:Type}(f:Nat->Nat)(xs:Array α):(pickOrder f xs).toList.Perm xs.toList:=by
 have:=Zhw f xs.size 0 xs.toList #[] (by simp);simpa[pickOrder]using this
section
variable {prog:xB}{w:World}{A:xC}{E:xD}{s:Shared}
theorem Zd0 {α:Type}:∀(n:Nat) (l:List α) (s:Shared) (Q:List α->Shared->Prop),l.length=n->(∀(r:List α) d,r.Perm l->Q r { s with drawn:=d })->xf (xz prog w) A (drawOrder n l) Q E s
 | 0,l,s,Q,h,k=>by
  have:l=[]:=zS.mp h;subst this;unfold drawOrder;exact xb (k [] s.drawn (.refl _))
 | n+1,[],s,Q,h,k=>by cases h
 | n+1,a::l,s,Q,h,k=>by
  unfold drawOrder;refine xa ?_;intro Γ p hΓ;show Sem.wp _ _ (.choose .order (a::l).length .pure) _ _ _ _;rw[Sem.wp_choose];refine⟨by simp,?_⟩;have hl:(xz prog w).w.draws .order (s.drawn.get .order) % (a::l).length<(a::l).length:=qbk _ (by simp);generalize (xz prog w).w.draws .order (s.drawn.get .order) % (a::l).length=i at hl;show Sem.wp _ _ (Sem.pure i) _ _ _ _;rw[Sem.wp_pure];dsimp only;rw[qG hl];dsimp only;refine xa (Zd0 n _ _ _ (by rw[qa3 hl,h];rfl) λr d hr=>?_);exact xb (k _ d ((hr.cons _).trans (erase_perm (a::l) hl)))
noncomputable abbrev Xy (first:Value)(i:Nat)(a:Addr)(n ep:Nat):Obj:={ cls:=.type "set_iterator",data:=.fields #[first,rawInt i,.ref a,rawInt n,rawInt ep] }
theorem Zhx {it a:Addr}{o:Obj}{es:Array (Int×Value)}{ep:Nat}{t:SetTable}{slot i nx:Nat}{x:Value}{Q:Option Value->Shared->Prop}
  (hit:s.heap.get? it=some (Xy (rawInt slot) i a es.size ep)) (ho:s.heap.get? a=some o) (hd:o.data=.set es ep t) (hf:t.fits es.size=true)
  (hn:∀(A:xC) (E:xD) (F:Option (Value×Nat)->Shared->Prop),F (some (x,nx)) s->xf (xz prog w) A (setNext a slot i ep) F E s)
  (hQ:∀h',h'.get? it=some (Xy (rawInt nx) (i+1) a es.size ep)->yi it s.heap h'->Q (some x) { s with heap:=h' }):xf (xz prog w) A (pyNext (.ref it)) Q E s:=by
 have hT:s.TypeIs (.ref it) "set_iterator":=⟨_,hit,rfl⟩;unfold pyNext;refine xa (wpAny_attempt (wpAny_callSpecial?_slot (name:=qaT "__next__") hT FS.slot_next
  (wpAny_call_entry FS.slot_next hT FS.entry_next ?_ (FS.args_next _))))
 unfold Builtin.«set_iterator.__next__»;refine xa (m:=slotArgs _ _ _) (xb ?_);refine xa (wpAny_fieldsOf hit rfl ?_);show xf _ _ (setEntries a >>= _) _ _ _;refine xa (wpAny_setEntries_of ho hd hf ?_);rw[if_neg (by simp)];show xf _ _ (setNext a slot i ep >>= _) _ _ _;refine xa (hn _ _ _ ?_);dsimp only;refine xa (wpAny_setField hit rfl (by simp) ?_);have g1:(s.heap.update it (yJ (·.setIfInBounds 0 (rawInt nx)))).get? it=some (Xy (rawInt nx) i a es.size ep):=ya _ hit rfl;refine xa (wpAny_setField (s:={ s with heap:=s.heap.update it (yJ (·.setIfInBounds 0 (rawInt nx))) }) g1 rfl (by simp) ?_);have g2:((s.heap.update it (yJ (·.setIfInBounds 0 (rawInt nx)))).update it (yJ (·.setIfInBounds 1 (rawInt ((i:Int)+1))))).get? it=some (Xy (rawInt nx) (i+1) a es.size ep):=ya _ g1 rfl;exact xb ⟨_,rfl,xb (hQ _ g2 ((qaE ..).trans (qaE ..)))⟩
theorem Zhy {it:Addr}{i n ep:Nat}{a:Addr}{f:Value}{Q:Option Value->Shared->Prop}(hh:A.handled=none)(hit:s.heap.get? it=some (Xy f i a n ep))
  (k:∀(A:xC) (G:Fin->Shared->Prop) (F:xD),A.handled=none->(∀v h',qbx it s.heap h'->qb3 { s with heap:=h' } v "StopIteration"->F v { s with heap:=h' })->xf (xz prog w) A (Builtin.«set_iterator.__next__» ⟨[.ref it],[]⟩) G F s)
  (hQ:∀h',qbx it s.heap h'->Q none { s with heap:=h' }):xf (xz prog w) A (pyNext (.ref it)) Q E s:=by
 have hT:s.TypeIs (.ref it) "set_iterator":=⟨_,hit,rfl⟩;unfold pyNext;refine xa (wpAny_attempt (wpAny_callSpecial?_slot (name:=qaT "__next__") hT FS.slot_next
  (wpAny_call_entry FS.slot_next hT FS.entry_next (k _ _ _ hh λv h' e tv=>?_) (FS.args_next _))))
 refine xa (wpAny_isInstance (T:="StopIteration") (b:=true) tv isSubtype_stop ?_);exact xb (hQ _ e)
end
end HT
namespace HT
section
variable {prog:xB}{w:World}{A:xC}{E:xD}{s:Shared}
variable {a:Addr}{o:Obj}{es:Array (Int×Value)}{ep:Nat}{t:SetTable}
theorem Zd1 {slot i:Nat}{F:Option (Value×Nat)->Shared->Prop}(ho:s.heap.get? a=some o)(hd:o.data=.set es ep t)(hf:t.fits es.size=true)(hT:Yv w=true)
  (k:F (((pickOrder (w.params.setOrder a ep) es)[i]?).map λe=>(e.2,slot)) s):xf (xz prog w) A (setNext a slot i ep) F E s:=by
 unfold setNext;refine xa (wpAny_setState_of ho hd hf ?_);dsimp only;unfold setsByText;refine xa (xa (wpAny_askSetting (xb ?_)));show xf _ _ (if Yv w=true then _ else _) _ _ _;rw[if_pos hT,if_neg (by simp)];unfold setWalk;refine xa (xa (wpAny_setState_of ho hd hf ?_));dsimp only;unfold setsByText;refine xa (xa (wpAny_askSetting (xb ?_)));show xf _ _ (if Yv w=true then _ else _) _ _ _;rw[if_pos hT];refine xa (wpAny_askSetting (xb ?_));exact xb k
theorem Zda {slot i:Nat}{F:Option (Value×Nat)->Shared->Prop}(ho:s.heap.get? a=some o)(hd:o.data=.set es ep t)(hf:t.fits es.size=true)(hT:Yv w=false)(hdr:(!t.plain&&decide (es.size > 1))=false)(hl:t.led=true)
  (k:F (match es[qE t.place slot]?,t.place[qE t.place slot]? with | some (_,x),some j=>some (x,j+1) | _,_=>none) s):xf (xz prog w) A (setNext a slot i ep) F E s:=by
 unfold setNext;refine xa (wpAny_setState_of ho hd hf ?_);dsimp only;unfold setsByText;refine xa (xa (wpAny_askSetting (xb ?_)));show xf _ _ (if Yv w=true then _ else _) _ _ _;rw[if_neg (by rw[hT];decide)];show xf _ _ (if (!t.plain&&decide (es.size > 1))=true then _ else _) _ _ _;rw[if_neg (by rw[hdr];decide)];show xf _ _ ((if (!t.led && !es.isEmpty)=true then unsupported "set:maker-not-led" else pure ()) >>= _) _ _ _;rw[if_neg (by simp[hl])];refine xa (xb ?_);exact xb k
theorem Zdb {G:Fin->Shared->Prop}{F:xD}(hh:A.handled=none)(k:∀v h',(∀b u,s.heap.get? b=some u->h'.get? b=some u)->qb3 { s with heap:=h' } v "StopIteration"->F v { s with heap:=h' }) :
  xf (xz prog w) A (newExc (.type "StopIteration") [] >>= λe=>(raiseNew e:Sem Fin)) G F s:=by
 refine xa ?_;simp only[newExc,newTuple];refine xa (xl ?_ (by size_fits));refine xa (m:=firstArgMember _ _) (wpAny_of_eq (a:=zm) (by first | rfl | (simp only[firstArgMember];rfl)) ?_);refine xl ?_ (by size_fits);simp only[raiseNew];refine xa (wpAny_handled ?_);rw[hh];refine xa (xb (wpAny_throw ?_));exact k _ _ (λb u e=>qj _ (qj _ e)) ⟨_,qC _ rfl,rfl⟩
theorem Zko {it:Addr}{slot i:Nat}{Q:Option Value->Shared->Prop}(hh:A.handled=none)(hit:s.heap.get? it=some (Xy (rawInt slot) i a es.size ep))(ho:s.heap.get? a=some o)(hd:o.data=.set es ep t)(hf:t.fits es.size=true)
  (hn:∀(A:xC) (E:xD) (F:Option (Value×Nat)->Shared->Prop),F none s->xf (xz prog w) A (setNext a slot i ep) F E s)
  (hQ:∀h',qbx it s.heap h'->Q none { s with heap:=h' }):xf (xz prog w) A (pyNext (.ref it)) Q E s:=by
 refine Zhy hh hit (λA G F hh k=>?_) hQ;unfold Builtin.«set_iterator.__next__»;refine xa (m:=slotArgs _ _ _) (xb ?_);refine xa (wpAny_fieldsOf hit rfl ?_);show xf _ _ (setEntries a >>= _) _ _ _;refine xa (wpAny_setEntries_of ho hd hf ?_);rw[if_neg (by simp)];show xf _ _ (setNext a slot i ep >>= _) _ _ _;refine xa (hn _ _ _ ?_);dsimp only;refine xa (wpAny_setField hit rfl (by simp) ?_);refine Zdb (s:={ s with heap:=s.heap.update it (yJ (·.setIfInBounds 2 .none)) }) hh λv h' e tv=>k v h' (λb u nb eb=>e b u ?_) tv;exact(yk _ _ (zH nb)).trans eb
namespace FS
theorem entry_si_iter:entryFor table "set_iterator.__iter__" = some Builtin.«dict_keyiterator.__iter__»:=
 entryFor_alias (id':="dict_keyiterator.__iter__") (by kernel_rfl) rfl (by decide +kernel) (by kernel_rfl)
theorem slot_si_iter:Slot "set_iterator" "__iter__" "set_iterator.__iter__":=
 .of (owner:="set_iterator") (n:="__iter__") (by rw[typeLookup_type,builtinLookup_eq_fast];kernel_rfl)
  (by decide +kernel) (by decide +kernel) (by decide +kernel)
  (by first | exact .inl (by decide +kernel) | exact .inr (by decide +kernel))
  (by rw[isSubtype_type];kernel_rfl)
theorem args_si_iter (a:Value):argsOk "set_iterator.__iter__" ⟨[a],[]⟩:=by
 unfold argsOk;rw[signature?_of (id:="set_iterator.__iter__") (n:=['_','_','r','e','t','i','_','_']) (o:=['r','o','t','a','r','e','t','i','_','t','e','s']) (by kernel_rfl) ZfN]
 kernel_rfl
end FS
theorem ZfO {it:Addr}{f:Value}{i n:Nat}{Q:xD}(hit:s.heap.get? it=some (Xy f i a n ep))(h:Q (.ref it) s):xf (xz prog w) A (pyIter (.ref it)) Q E s:=by
 have hT:s.TypeIs (.ref it) "set_iterator":=⟨_,hit,rfl⟩;refine wpAny_pyIter_slot hT FS.slot_si_iter (wpAny_call_entry FS.slot_si_iter hT FS.entry_si_iter ?_ (FS.args_si_iter _));show xf _ _ (ret (.ref it)) _ _ s;exact xb ⟨_,rfl,"set_iterator",_,hT,FS.slot_next.lookup,h⟩
noncomputable def VO (w:World)(a:Addr)(ep:Nat)(es:Array (Int×Value)):List Value:=if Yv w=true then (pickOrder (w.params.setOrder a ep) es).toList.map (·.2)else es.toList.map (·.2)
theorem ZfP:(VO w a ep es).Perm (es.toList.map (·.2)):=by
 unfold VO;split
 ·exact(ZbX _ es).map _
 ·exact .refl _
theorem ZlY:(VO w a ep es).length=es.size:=by rw[ZfP.length_eq,qd,qB]
theorem Zkp (hh:A.handled=none)(I:Addr)(hne:a≠I)(hd:o.data=.set es ep t)(hf:t.fits es.size=true)(hg:Good w t)(hdr:Yv w=true∨(!t.plain&&decide (es.size > 1))=false) :
  Walks prog w A I [I,a] [I] es.size (λi v=>(VO w a ep es)[i]?=some v) (λi h=>h.get? a=some o/\∃slot:Nat,h.get? I=some (Xy (rawInt slot) i a es.size ep)/\(Yv w=true∨qE t.place slot=i)) where
 sub:=λb hb=>by simp at hb;simp[hb]
 frame:=λi h h' st k=>by
  obtain⟨h1,slot,h2,h3⟩:=st;exact⟨k a (by simp) _ h1,slot,k I (by simp) _ h2,h3⟩
 item:=λi s Q E hi st k=>by
  obtain⟨h1,slot,h2,h3⟩:=st;have hps:t.place.size=es.size:=by
   simp only[qc2,zl,beq_iff_eq]at hf;exact hf.1
  have fin:∀(x:Value) (nx:Nat),(VO w a ep es)[i]?=some x->(Yv w=true∨qE t.place nx=i+1)->∀h',h'.get? I=some (Xy (rawInt nx) (i+1) a es.size ep)->yi I s.heap h'->Q (some x) { s with heap:=h' }:=λx nx hx hb h' g sb=>
   k x h' s.toks hx ⟨(sb.2 a hne).trans h1,nx,g,hb⟩ λb u nb e=>(sb.2 b (λz=>nb (by simp[z]))).trans e
  cases hT:Yv w with
  | true=>
   have jO:i<(pickOrder (w.params.setOrder a ep) es).size:=by
    have:=(ZbX (w.params.setOrder a ep) es).length_eq;simp only[qB]at this;omega
   have hx:(VO w a ep es)[i]?=some (pickOrder (w.params.setOrder a ep) es)[i].2:=by
    unfold VO;rw[if_pos hT,qH,qA,qf jO];rfl
   refine Zhx (nx:=slot) h2 h1 hd hf (λA E F q=>Zd1 h1 hd hf hT ?_) (fin _ slot hx (.inl hT));rw[qf jO];exact q
  | false=>
   have hb:qE t.place slot=i:=h3.resolve_left (by rw[hT];decide);have hdr':=hdr.resolve_left (by rw[hT];decide);have hl:=hg.1.resolve_left (by rw[hT];decide);have hx:(VO w a ep es)[i]?=some es[i].2:=by
    unfold VO;rw[if_neg (by rw[hT];decide),qH,qA,qf hi];rfl
   have hp:t.place[i]?=some (t.place.getD i 0):=by
    rw[qU,qf (by omega)];rfl
   refine Zhx (nx:=t.place.getD i 0+1) h2 h1 hd hf (λA E F q=>Zda h1 hd hf hT hdr' hl ?_) (fin _ _ hx (.inr (ZgL hg.2 (by omega))));rw[hb,qf hi,hp];exact q
 done:=λs Q E st k=>by
  obtain⟨h1,slot,h2,h3⟩:=st;have fin:∀h',qbx I s.heap h'->Q none { s with heap:=h' }:=λh' e=>k h' s.toks λb u nb g=>e b u (λz=>nb (by simp[z])) g
  cases hT:Yv w with
  | true=>
   refine Zko hh h2 h1 hd hf (λA E F q=>Zd1 h1 hd hf hT ?_) fin;rw[qaN]
   ·exact q
   ·have:=(ZbX (w.params.setOrder a ep) es).length_eq
    simp only[qB]at this;omega
  | false=>
   have hb:qE t.place slot=es.size:=h3.resolve_left (by rw[hT];decide);refine Zko hh h2 h1 hd hf (λA E F q=>Zda h1 hd hf hT (hdr.resolve_left (by rw[hT];decide)) (hg.1.resolve_left (by rw[hT];decide)) ?_) fin;rw[hb,qaN (qp _)];exact q
 self:=λi s Q E st k=>ZfO st.2.choose_spec.1 k
noncomputable abbrev Wv (pl:List Nat):Array Value:=(pl.map λ(i:Nat)=>rawInt i).toArray
theorem ZlZ {it T:Addr}{i p:Nat}{x:Int×Value}{pl:List Nat}{c:Nat}{Q:Option Value->Shared->Prop}
  (hit:s.heap.get? it=some (Xy (.ref T) i a es.size ep)) (ho:s.heap.get? a=some o) (hd:o.data=.set es ep t) (hf:t.fits es.size=true)
  (hT:s.heap.get? T=some { cls:=.type "tuple",data:=.seq (Wv pl) c }) (hp:pl[i]?=some p) (hx:es[p]?=some x)
  (hQ:∀h',h'.get? it=some (Xy (.ref T) (i+1) a es.size ep)->yi it s.heap h'->Q (some x.2) { s with heap:=h' }):xf (xz prog w) A (pyNext (.ref it)) Q E s:=by
 have hTy:s.TypeIs (.ref it) "set_iterator":=⟨_,hit,rfl⟩;unfold pyNext;refine xa (wpAny_attempt (wpAny_callSpecial?_slot (name:=qaT "__next__") hTy FS.slot_next
  (wpAny_call_entry FS.slot_next hTy FS.entry_next ?_ (FS.args_next _))))
 unfold Builtin.«set_iterator.__next__»;refine xa (m:=slotArgs _ _ _) (xb ?_);refine xa (wpAny_fieldsOf hit rfl ?_);show xf _ _ (setEntries a >>= _) _ _ _;refine xa (wpAny_setEntries_of ho hd hf ?_);rw[if_neg (by simp)];show xf _ _ (seqItems? (.ref T) >>= _) _ _ _;refine xa (xt hT rfl ?_);have e:(Wv pl)[((i:Nat):Int).toNat]?=some (rawInt p):=by
  rw[qaq];simp[Wv,hp]
 dsimp only;rw[e];show xf _ _ (setNextDrawn a p ep >>= _) _ _ _;unfold setNextDrawn;refine xa (xa (wpAny_setState_of ho hd hf ?_));dsimp only;rw[if_neg (by simp),hx];refine xb ?_;refine xa (wpAny_setField hit rfl (by simp) ?_);have g2:(s.heap.update it (yJ (·.setIfInBounds 1 (rawInt ((i:Int)+1))))).get? it=some (Xy (.ref T) (i+1) a es.size ep):=ya _ hit rfl;exact xb ⟨_,rfl,xb (hQ _ g2 (qaE ..))⟩
theorem ZnF {it T:Addr}{i:Nat}{pl:List Nat}{c:Nat}{Q:Option Value->Shared->Prop}(hh:A.handled=none)
  (hit:s.heap.get? it=some (Xy (.ref T) i a es.size ep)) (ho:s.heap.get? a=some o) (hd:o.data=.set es ep t) (hf:t.fits es.size=true)
  (hT:s.heap.get? T=some { cls:=.type "tuple",data:=.seq (Wv pl) c }) (hp:pl.length<=i)
  (hQ:∀h',qbx it s.heap h'->Q none { s with heap:=h' }):xf (xz prog w) A (pyNext (.ref it)) Q E s:=by
 refine Zhy hh hit (λA G F hh k=>?_) hQ;unfold Builtin.«set_iterator.__next__»;refine xa (m:=slotArgs _ _ _) (xb ?_);refine xa (wpAny_fieldsOf hit rfl ?_);show xf _ _ (setEntries a >>= _) _ _ _;refine xa (wpAny_setEntries_of ho hd hf ?_);rw[if_neg (by simp)];show xf _ _ (seqItems? (.ref T) >>= _) _ _ _;refine xa (xt hT rfl ?_);have e:(Wv pl)[((i:Nat):Int).toNat]?=none:=by
  rw[qaq];simp[Wv,hp]
 dsimp only;rw[e];dsimp only;refine xa (wpAny_setField hit rfl (by simp) ?_);have g1:(s.heap.update it (yJ (·.setIfInBounds 0 (rawInt 0)))).get? it=some (Xy (rawInt 0) i a es.size ep):=ya _ hit rfl;refine xa (wpAny_setField (s:={ s with heap:=s.heap.update it (yJ (·.setIfInBounds 0 (rawInt 0))) }) g1 rfl (by simp) ?_);refine Zdb (s:={ s with heap:=(s.heap.update it (yJ (·.setIfInBounds 0 (rawInt 0)))).update it (yJ (·.setIfInBounds 2 .none)) }) hh λv h' e tv=>k v h' (λb u nb eb=>e b u ?_) tv;exact(yk _ _ (zH nb)).trans ((yk _ _ (zH nb)).trans eb)
noncomputable def JA (es:Array (Int×Value))(pl:List Nat):List Value:=pl.map λp=>(es.getD p default).2
theorem ZiH {pl:List Nat}(hp:pl.Perm (qk es.size)):(JA es pl).Perm (es.toList.map (·.2)):=by
 unfold JA;refine(hp.map _).trans ?_;have:((qk es.size).map λp=>(es.getD p default).2)=es.toList.map (·.2):=by
  apply qap;intro i;have el:es.toList[i]?=es[i]?:=qA ..;rw[qH,qH,el];by_cases hi:i<es.size
  ·rw[yX hi,qf hi]
   simp only[ye];rw[qU,qf hi];rfl
  ·rw[yc (by simp;omega),qaN (by omega)]
   rfl
 rw[this]
theorem ZgN (hh:A.handled=none)(I T:Addr)(hne:a≠I)(hneT:T≠I)(hd:o.data=.set es ep t)(hf:t.fits es.size=true){pl:List Nat}{c:Nat}(hp:pl.Perm (qk es.size)) :
  Walks prog w A I [I,a,T] [I] es.size (λi v=>(JA es pl)[i]?=some v) (λi h=>h.get? a=some o/\h.get? I=some (Xy (.ref T) i a es.size ep)/\h.get? T=some { cls:=.type "tuple",data:=.seq (Wv pl) c }) where
 sub:=λb hb=>by simp at hb;simp[hb]
 frame:=λi h h' st k=>⟨k a (by simp) _ st.1,k I (by simp) _ st.2.1,k T (by simp) _ st.2.2⟩
 item:=λi s Q E hi st k=>by
  obtain⟨h1,h2,h3⟩:=st;have hl:i<pl.length:=by rw[hp.length_eq,qT];exact hi
  have hm:pl[i]<es.size:=qD.mp (hp.mem_iff.mp (qbD hl));have hx:(JA es pl)[i]?=some es[pl[i]].2:=by
   unfold JA;rw[qH,qG hl];simp only[ye];rw[qU,qf hm];rfl
  exact ZlZ h2 h1 hd hf h3 (qG hl) (qf hm) λh' g sb=>k _ h' s.toks hx ⟨(sb.2 a hne).trans h1,g,(sb.2 T hneT).trans h3⟩ λb u nb e=>(sb.2 b (λz=>nb (by simp[z]))).trans e
 done:=λs Q E st k=>by
  obtain⟨h1,h2,h3⟩:=st;exact ZnF hh h2 h1 hd hf h3 (by rw[hp.length_eq,qT];exact qp _) λh' e=>k h' s.toks λb u nb g=>e b u (λz=>nb (by simp[z])) g
 self:=λi s Q E st k=>ZfO st.2.1 k
theorem Zkq {Q:xD}(ho:s.heap.get? a=some o)(hex:o.ExactSet)(hd:o.data=.set es ep t)(hf:t.fits es.size=true)(hz:es.size<=1000)
  (k1:(Yv w=true∨(!t.plain&&decide (es.size > 1))=false)->Q (.ref s.heap.objs.size) { s with heap:=s.heap.push (Xy (rawInt (0:Nat)) 0 a es.size ep) })
  (k2:∀(pl:List Nat) d,pl.Perm (qk es.size)->Q (.ref (s.heap.objs.size+1)) { s with heap:=(s.heap.push { cls:=.type "tuple",data:=.seq (Wv pl) }).push (Xy (.ref s.heap.objs.size) 0 a es.size ep),drawn:=d }):xf (xz prog w) A (pyIter (.ref a)) Q E s:=by
 have hT:s.TypeIs (.ref a) "set":=⟨o,ho,hex.1⟩;refine wpAny_pyIter_slot hT qcK (wpAny_call_entry qcK hT FS.entry_set_iter ?_ (PySem.F.args_set_iter_1 _));unfold Builtin.«frozenset.__iter__» Builtin.Frozenset.slot0;refine xa (xa (m:=slotArgs _ _ _) (xb ?_));refine xb ?_;unfold Builtin.Frozenset.sizeOf;refine xa (xa (wpAny_setEntries_of ho hd hf (xb ?_)));unfold setDrawn;refine xa (xa (wpAny_setState_of ho hd hf ?_));dsimp only;unfold setsByText;refine xa (xa (wpAny_askSetting (xb (xb ?_))));show xf _ _ (if (!Yv w&&(!t.plain&&decide (es.size > 1)))=true then _ else _) _ _ _;by_cases hc:(!Yv w&&(!t.plain&&decide (es.size > 1)))=true
 ·rw[if_pos hc]
  refine xa (Zd0 es.size (qk es.size) _ _ qT λpl d hp=>?_);have hpl:pl.length=es.size:=by rw[hp.length_eq,qT]
  unfold newTuple;refine xa (xl ?_ (by show(Wv pl).size<=xg;rw[sizeLine_eq];simp[Wv];omega));refine xa (wpAny_setEpoch_of (s:={ s with heap:=s.heap.push { cls:=.type "tuple",data:=.seq (Wv pl) },drawn:=d }) (qj _ ho) hd hf ?_);unfold newFields;refine xa (xl ?_);refine xb ⟨_,rfl,"set_iterator",_,⟨_,qC _ rfl,rfl⟩,FS.slot_next.lookup,?_⟩;have:=k2 pl d hp;rw[<-yb s.heap { cls:=.type "tuple",data:=.seq (Wv pl) }]at this;exact this
 ·rw[if_neg hc]
  refine xa (xb ?_);refine xa (wpAny_setEpoch_of ho hd hf ?_);unfold newFields;refine xa (xl ?_);refine xb ⟨_,rfl,"set_iterator",_,⟨_,qC _ rfl,rfl⟩,FS.slot_next.lookup,?_⟩;refine k1 ?_
  cases hb:Yv w with
  | true=>exact .inl rfl
  | false=>
   rw[hb]at hc;exact .inr (by simpa using hc)
end
end HT
namespace HT
section
variable {prog:xB}{w:World}{A:xC}{E:xD}{s:Shared}
variable {a:Addr}{o:Obj}{es:Array (Int×Value)}{ep:Nat}{t:SetTable}
theorem Zkr {Q:Bool->Shared->Prop}(hT:s.TypeIs (.ref a) "set")(h:Q false s):xf (xz prog w) A (qaX (.ref a)) Q E s:=by
 unfold qaX;refine xa (wpAny_specialOf hT PySem.F.slot_set_len.lookup ?_);generalize hid:("set.__len__" : String)=id0
 wp_delta
 rw[show splitId id0=some ("set","__len__")from by subst hid;decide +kernel];subst hid;refine xa (wpAny_isInstance (T:="set") (b:=true) hT (by rw[isSubtype_type];kernel_rfl) ?_);refine wpAny_ite_split (λz=>absurd z (by decide)) (λ_=>?_);refine wpAny_ite_split (λ_=>?_) (λz=>absurd (by decide +kernel) z);refine xa (wpAny_typeOf hT ?_);exact xb h
theorem Zks {l:List Value}{acc:Array Value}(h:ItemsOf (λi v=>l[i]?=some v) acc l.length):acc.toList=l:=by
 apply qap;intro i;rw[qA];by_cases hi:i<l.length
 ·have hs:i<acc.size:=by rw[h.1];exact hi
  rw[qf hs];exact(h.2 i _ (qf hs)).symm
 ·rw[qaN (by rw[h.1];omega),yc (by omega)]
theorem after {I S:Addr}{fp wr:List Addr}{l:List Value}{St:Nat->Heap->Prop}{n:Nat}{g:Bool->Bool}{s1:Shared}{R:Result->Shared->Prop}(W:Walks prog w A.in1 I fp wr n (λi v=>l[i]?=some v) St)(hl:l.length=n)(hn:n<=1000)(st:St 0 s1.heap)(hSf:S∉fp)
  (hS:s1.heap.get? S=some { cls:=.type "list",data:=.seq #[] 0 }) (hT:s1.TypeIs (.ref a) "set") (hg:g false=true)
  (k:∀h' tk c,(∀b u,b∉S::wr->s1.heap.get? b=some u->h'.get? b=some u)->h'.get? S=some { cls:=.type "list",dict:=none,data:=.seq l.toArray c,slots:=#[] }->R (.ok (.ret (.ref S))) { s1 with heap:=h',toks:=tk }) :
  xf (xz prog w) A.in1 (do
   let room<-holding [.ref I] (qaX (.ref a))
   if g room=true then do
    rule "list.extend.makes-room"
    Builtin.List.listTouch (.ref S)
    again (.builtin "list.extend.loop" { pos:=[.ref S,.ref I,.ref S] })
   else again (.builtin "list.extend.loop" { pos:=[.ref S,.ref I,.ref S] }))
   (λfin s'=>match fin with | .done f=>R (.ok f) s' | .again c'=>c'.quiet=true/\xo (xz prog w) A c' R s') (λe s'=>R (.error e) s') s1:=by
 refine xa (xu (Zkr hT ?_));rw[if_pos hg];refine xa (wpAny_rule (xa ?_));show xf _ _ (updateSeq S (·.push .none) >>= λ_=>updateSeq S (·.pop)) _ _ _;refine xa (wpAny_updateSeq hS rfl ?_);have q2:=ya (zr (·.push zm)) hS rfl;refine wpAny_updateSeq (hz:=by seq_fits) q2 rfl ?_;have q3:=ya (zr (·.pop)) q2 rfl;have oth:∀b u,b≠S->s1.heap.get? b=some u->((s1.heap.update S (zr (·.push zm))).update S (zr (·.pop))).get? b=some u:=λb u nb e=>
  (yk _ _ (zH nb)).trans ((yk _ _ (zH nb)).trans e)
 refine xb ⟨plainId_quiet F.plain_extend_loop _,codeAny_extend_loopS W.toS (by rw[sizeLine_eq];omega) S hSf _ n 0 _ #[] _ rfl (zC _) (W.frame 0 s1.heap _ st λb m u e=>oth b u (λz=>hSf (z▸m)) e) q3 (ItemsOf.nil _) λs' acc' c' hm hS' hacc=>?_⟩;rw[Moved.eq_with hm];rw[<-hl]at hacc;have el:=Zks hacc;refine k s'.heap s'.toks c' (λb u nb e=>hm.heap b u nb (oth b u (λz=>nb (by simp[z])) e)) ?_;rw[hS',<-el]
noncomputable def RF (prog:xB)(w:World)(A:xC)(E:xD)(Q:List Value->Shared->Prop)(S:Addr):Result->Shared->Prop:=λr s'=>r=.ok (.ret (.ref S))/\xf (xz prog w) A (load S >>= λx=>match x.data with | .seq xs _=>pure xs.toList | _=>unsupported "internal:collect") Q E s'
theorem ZfQ {Q:List Value->Shared->Prop}(hh:A.handled=none)(ho:s.heap.get? a=some o)(hex:o.ExactSet)(hd:o.data=.set es ep t)(hf:t.fits es.size=true)(hg:Good w t)(hz:es.size<=1000)
  (k:∀(vs:List Value) (h':Heap) (tk:Nat) d,(∀b u,s.heap.get? b=some u->h'.get? b=some u)->s.heap.objs.size<h'.objs.size->vs.Perm (es.toList.map (·.2))->Q vs { s with heap:=h',toks:=tk,drawn:=d }):xf (xz prog w) A (collect (.ref a)) Q E s:=by
 unfold collect;apply xa;apply wpAny_runValue;apply xm F.entry_proto_collect;rw[yD
  F.plain_proto_collect _]
 show xf _ A.in1 (newList [] >>= λz=>
  again (.builtin "list.__iadd__" ⟨[z,.ref a],[]⟩)) _ _ s
 apply xa;refine xl ?_;refine xb ⟨plainId_quiet
  F.plain_list_iadd _,xm
  F.entry_list_iadd ?_⟩
 rw[yD
  F.plain_list_iadd _]
 show xf _ A.in1 (qae
  (.ref s.heap.objs.size) (.ref a)
  (.ref s.heap.objs.size)) _ _ _
 have hlt:a<s.heap.objs.size:=qK ho;have hS0:(s.heap.push
   { cls:=.type "list",data:=.seq ([]:List Value).toArray }).get?
   s.heap.objs.size=some { cls:=.type "list",data:=.seq #[] 0 }:=
  qC _ rfl
 have ho0:(s.heap.push
   { cls:=.type "list",data:=.seq ([]:List Value).toArray }).get? a=some o:=qj _ ho
 have kp0:∀b u,s.heap.get? b=some u->(s.heap.push
   { cls:=.type "list",data:=.seq ([]:List Value).toArray }).get? b=some u:=λb u e=>qj _ e
 have sz0:(s.heap.push
   { cls:=.type "list",data:=.seq ([]:List Value).toArray }).objs.size=s.heap.objs.size+1:=yb _ _
 generalize (s.heap.push
   { cls:=.type "list",data:=.seq ([]:List Value).toArray })=h0 at hS0 ho0 kp0 sz0⊢
 unfold qae;refine xa (wpAny_typeOf (T:="set") ⟨_,ho0,hex.1⟩ ?_);have b1:qck (.ref s.heap.objs.size) (.ref a)=false:=by
  have:s.heap.objs.size≠a:=qbG hlt;simp[qck,this]
 have b2:(yp "set" == yp "list")=false:=by decide
 have b3:(yp "set" == yp "tuple")=false:=by decide
 simp only[b1,b2,b3,Bool.or_false,qX,if_false];have fin:∀(l:List Value) (I:Addr) (wr:List Addr) (h1:Heap) (d:Drawn),l.Perm (es.toList.map (·.2))->(∀b∈wr,b=I)->s.heap.objs.size<I->(∀b u,h0.get? b=some u->h1.get? b=some u)->∀(h':Heap) (tk c:Nat),(∀b u,b∉s.heap.objs.size::wr->h1.get? b=some u->h'.get? b=some u)->h'.get? s.heap.objs.size=some { cls:=.type "list",dict:=none,data:=.seq l.toArray c,slots:=#[] }->
   xf (xz prog w) A (load s.heap.objs.size >>= λx=>match x.data with | .seq xs _=>pure xs.toList | _=>unsupported "internal:collect") Q E { s with heap:=h',toks:=tk,drawn:=d }:=λl I wr h1 d hp hw hI kp h' tk c kk hL=>by
  refine xa (wpAny_load hL ?_);refine xb ?_;show Q l.toArray.toList _;rw[yG];refine k l h' tk d (λb u e=>kk b u (λz=>?_) (kp b u (kp0 b u e))) (qK hL) hp;have hb:=qK e;rcases qq.mp z with z | z
  ·exact absurd hb (by rw[z];exact yI _)
  ·rw[hw b z]at hb;exact absurd (qab hb hI) (yI _)
 have z1:s.heap.objs.size<h0.objs.size:=by rw[sz0];exact yY _
 have z2:s.heap.objs.size<h0.objs.size+1:=zQ z1;have n1:a≠h0.objs.size:=qV (qab hlt z1);have n2:a≠h0.objs.size+1:=qV (qab hlt z2);have n3:s.heap.objs.size≠a:=qbG hlt;refine xc (Q:=λfin s'=>match fin with | .done f=>RF prog w A E Q s.heap.objs.size (.ok f) s' | .again c'=>c'.quiet=true/\xo (xz prog w) A c' (RF prog w A E Q s.heap.objs.size) s') (E:=λe s'=>RF prog w A E Q s.heap.objs.size (.error e) s') ?_ (λfin s' h=>?_) (λe s' h=>?_)
 rotate_left
 ·cases fin with
  | done f=>
   obtain⟨e,q⟩:=h
   cases e
   exact q
  | again c'=>
   refine⟨h.1,codeAny_mono h.2 λr s'' hr=>?_⟩;obtain⟨rfl,q⟩:=hr;exact q
 ·exact absurd h.1 (by simp)
 refine xa (Zkq ho0 hex hd hf hz (λhdr=>?_) λpl d hp=>?_)
 ·refine after (Zkp (A:=A.in1) hh h0.objs.size n1 hd hf hg hdr) ZlY hz ?_ ?_ ?_ ?_ ?_ ?_
  ·exact⟨qj _ ho0,0,qC _ rfl,.inr (ZgM hg.2)⟩
  ·simp only[qq,zX,or_false,not_or]
   exact⟨qV z1,n3⟩
  ·exact qj _ hS0
  ·exact⟨_,qj _ ho0,hex.1⟩
  ·decide +kernel
  ·intro h' tk c kk hL
   exact⟨rfl,fin _ h0.objs.size [h0.objs.size] _ _ ZfP (λb m=>qz.mp m) z1 (λb u e=>qj _ e) h' tk c kk hL⟩
 ·refine after (ZgN (A:=A.in1) hh (h0.objs.size+1) h0.objs.size n2 (qV (yY _)) hd hf hp (c:=0)) ?_ hz ?_ ?_ ?_ ?_ ?_ ?_
  ·unfold JA;rw[qd,hp.length_eq,qT]
  ·refine⟨qj _ (qj _ ho0),?_,qj _ (qC _ rfl)⟩
   have:=qC (h0.push { cls:=.type "tuple",data:=.seq (Wv pl) }) (o:=Xy (.ref h0.objs.size) 0 a es.size ep) rfl;rw[yb]at this;exact this
  ·simp only[qq,zX,or_false,not_or]
   exact⟨qV z2,n3,qV z1⟩
  ·exact qj _ (qj _ hS0)
  ·exact⟨_,qj _ (qj _ ho0),hex.1⟩
  ·decide +kernel
  ·intro h' tk c kk hL
   exact⟨rfl,fin _ (h0.objs.size+1) [h0.objs.size+1] _ _ (ZiH hp) (λb m=>qz.mp m) z2 (λb u e=>qj _ (qj _ e)) h' tk c kk hL⟩
end
section
variable {prog:xB}{w:World}{A:xC}{E:xD}{s:Shared}
variable {a:Addr}{o:Obj}{es:Array (Int×Value)}{ep:Nat}{t:SetTable}
end
end HT
namespace TF
open L2
section
variable {X:Cx}{G:Gh}
theorem jF {jI:Qb}{σ:St}{H:Hp}{s:Shared}{d:Drawn}(I:Inv X jI σ H s):Inv X jI σ H { s with drawn:=d }:=⟨I.ok,I.os,I.bare,I.base,I.loc,I.cell,I.free,I.freeC,I.pin,I.hok,I.len⟩
end
section
variable {X:Cx}{G:Gh}{ob own:List Nat}{fr:Bool}{f:Zb->M D}
theorem Zh.erase {H:Hp}:∀{ds:List D} {vs:List V} (k:Nat),Zh G H ds vs->Zh G H (ds.eraseIdx k) (vs.eraseIdx k)
 | [],vs,k,h=>by
  have:vs=[]:=Zh.nil_iff.mp h;subst this;exact h
 | d::ds,vs,k,h=>by
  obtain⟨v,r,rfl,h1,h2⟩:=jd.mp h
  cases k with
  | zero=>exact h2
  | succ k=>exact Zh.cons h1 (Zh.erase k h2)
theorem jA {H:Hp}:∀{ds:List D} {vs:List V} {k:Nat} {d:D},Zh G H ds vs->ds[k]?=some d->∃v,vs[k]?=some v/\Zi G H d v
 | [],vs,k,d,h,e=>by cases e
 | d::ds,vs,k,d',h,e=>by
  obtain⟨v,r,rfl,h1,h2⟩:=jd.mp h
  cases k with
  | zero=>cases e;exact⟨v,rfl,h1⟩
  | succ k=>
   obtain⟨u,hu,ru⟩:=jA (k:=k) h2 (by simpa using e);exact⟨u,by simpa using hu,ru⟩
noncomputable def Bc (i j:Nat)(f:Zb->M D):Zb->M Out:=fun ρ=>Zp (f ρ) λd=>match d,(ρ[i]?).bind id,(ρ[j]?).bind id with
 | .int r,some (.lst xs),some (.lst ys)=>if 0<=r/\xs.length<xg/\ys.length<=1000 then (match ys[r.toNat]? with | some y=>Zy (.nx ((ρ.set j (some (.lst (ys.eraseIdx r.toNat)))).set i (some (.lst (xs ++ [y]))))) | none=>ZE)else ZE
 | _,_,_=>ZE
theorem ZgO {i j:Nat}{te:TE}{r1:Bool}(hi:i∈own)(hj:j∈own)(hij:i≠j)(hy:VH G own r1 te f) :
  BO G ob own own fr (Bk (JC X.K "list" J8 (Yx i) (Jp (JC X.K "list" Zjl (Yx j) (Jp te Jv)) Jv))) (Bc i j f):=λkn jR H0 σ H ρ s out s' E ⟨Hf,jf⟩ st e po=>by
 obtain⟨d,s1,a1,a2⟩:=ZC e
 cases d with
 | int r=>
  cases hb:(ρ[i]?).bind id with
  | none=>rw[hb]at a2;cases a2
  | some c=>
   cases hb2:(ρ[j]?).bind id with
   | none=>rw[hb,hb2]at a2;cases c <;> cases a2
   | some c2=>
    rw[hb,hb2]at a2
    cases c with
    | lst xs=>
     cases c2 with
     | lst ys=>
      obtain⟨hc,a3⟩:=Xc (show(if 0<=r/\xs.length<xg/\ys.length<=1000 then (match ys[r.toNat]? with | some y=>Zy (.nx ((ρ.set j (some (.lst (ys.eraseIdx r.toNat)))).set i (some (.lst (xs ++ [y]))))) | none=>ZE)else ZE) s1=some (out,s')from a2)
      cases hy2:ys[r.toNat]? with
      | none=>rw[hy2]at a3;cases a3
      | some y=>
       rw[hy2]at a3;obtain⟨rfl,rfl⟩:=ZN a3;have ei:=Zcz hb;have ej:=Zcz hb2;obtain⟨a,vs,h1,h2,h3,h4⟩:=Ut jf hi ei;obtain⟨b,us,k1,k2,k3,k4⟩:=Ut jf hj ej;refine⟨_,h1,.inl ⟨rfl,vs,ZA.of h3⟩,?_⟩;refine⟨_,k1,.inl ⟨rfl,us,ZA.of k3⟩,?_⟩;refine hy kn jR H0 σ Hf H ρ s (.int r) s' _ jf st a1 λv Hf' H' j' e1 e2 st' rp fz=>?_;rw[ja.mp rp];obtain⟨a',vs',h1',h2',h3',h4'⟩:=Ut j' hi ei;rw[h1]at h1';cases h1';obtain⟨b',us',k1',k2',k3',k4'⟩:=Ut j' hj ej;rw[k1]at k1';cases k1';obtain⟨u,hu,ru⟩:=jA k4' hy2;have hlt:r.toNat<us'.length:=(qw.mp hu).1;have hul:us'.length=ys.length:=k4'.length.symm;have hrr:(r.toNat:Int)=r:=qbP hc.1;have hr1:r<2 ^ 63:=by have:=hc.2.2;omega
       have hr0:-(2 ^ 63)<=r:=by have:=hc.1;omega
       refine⟨b,us',r,r.toNat,u,rfl,rfl,k3',hr0,hr1,seqIndex_of hc.1 (by omega),hu,?_⟩;have jB:=j'.put hj ej k1 (d':=.lst (ys.eraseIdx r.toNat)) (o':=.lst (us'.eraseIdx r.toNat)) ⟨_,ZQ,Zh.erase _ k4'⟩;have ei2:(ρ.set j (some (.lst (ys.eraseIdx r.toNat))))[i]?=some (some (.lst xs)):=by rw[za (zH hij)];exact ei
       obtain⟨a2',ws,m1,m2,m3,m4⟩:=Ut jB hi ei2;rw[h1]at m1;cases m1;refine⟨a,ws,u,rfl,rfl,m3,by rw[<-m4.length];exact hc.2.1,?_⟩;exact po σ _ ⟨Hf',jB.put hi ei2 h1 ⟨ws ++ [u],ZQ,m4.append (.one ru)⟩⟩ (jw (jw st' k2) m2)
     | _=>cases a2
    | _=>cases a2
 | _=>cases a2
theorem ZgP {i j:Nat}{x y:Str}{e:Expr}{pos p1 p2 p3 q1 q2 q3:Pos}{r1:Bool}(hi:i∈own)(hj:j∈own)(hij:i≠j)(hv:PE X (.Name x p1) (Yx i))(hw:PE X (.Name y q1) (Yx j))(he:PD X G r1 e f)
  (c1:xq (.Name y q1) "pop" X.env (eval (.Name y q1) X.env)=eval (.Name y q1) X.env:=by rfl)
  (c2:((backTo q3 (xh [e] X.env)).all (λx=>!x.1)&&(xp q3 (xi [] X.env)).all (λx=>x.1.isSome)&&decide ([e].length+([]:List Keyword).length+(if ([]:List Keyword).isEmpty then 0 else 1)<30))=true:=by rfl)
  (c3:(q2.endLine==q3.line)=true:=by rfl) (c4:xh [e] X.env=(false,eval e X.env)::xh [] X.env:=by rfl)
  (d1:xq (.Name x p1) "append" X.env (eval (.Name x p1) X.env)=eval (.Name x p1) X.env:=by rfl)
  (d2:((backTo p3 (xh [qbf (.Attribute (.Name y q1) "pop" q2) [e] [] q3] X.env)).all (λx=>!x.1)&&(xp p3 (xi [] X.env)).all (λx=>x.1.isSome)&&decide ([qbf (.Attribute (.Name y q1) "pop" q2) [e] [] q3].length+([]:List Keyword).length+(if ([]:List Keyword).isEmpty then 0 else 1)<30))=true:=by rfl)
  (d3:(p2.endLine==p3.line)=true:=by rfl) (d4:xh [qbf (.Attribute (.Name y q1) "pop" q2) [e] [] q3] X.env=(false,eval (qbf (.Attribute (.Name y q1) "pop" q2) [e] [] q3) X.env)::xh [] X.env:=by rfl)
  (d5:xr (.Call (.Attribute (.Name x p1) "append" p2) [.Call (.Attribute (.Name y q1) "pop" q2) [e] [] q3] [] p3) none pos.line X.env=pure false:=by rfl) :
  YH X G ob own own fr (.Expr (.Call (.Attribute (.Name x p1) "append" p2) [.Call (.Attribute (.Name y q1) "pop" q2) [e] [] q3] [] p3) pos) (Bc i j (chk r1 f)):=by
 obtain⟨t,p,q⟩:=he;exact⟨_,VQ hv (Zjj qbn PySem.F.slot_list_pop PySem.F.type_list_pop Zjm hw (YK p Xi c4) c1 c2 c3 c4 rfl) d1 d2 d3 d4 d5,ZgO hi hj hij (Ws.b q)⟩
end
end TF
namespace TT
open L2 TS
theorem perm_ix {α:Type}(d:α){l' l:List α}(h:l'.Perm l):∃ix:List Nat,ix.Perm (qk l.length)/\l'=ix.map λi=>l.getD i d:=by
 induction h with
 | nil=>exact⟨[],.refl _,rfl⟩
 | @cons x l1 l2 p ih=>
  obtain⟨ix,h1,h2⟩:=ih;refine⟨0::ix.map (· + 1),?_,?_⟩
  ·rw[qL,y9]
   exact(h1.map _).cons 0
  ·rw[zc,qN,h2]
   rfl
 | swap x y l=>
  refine⟨1::0::(qk l.length).map (· + 2),?_,?_⟩
  ·rw[qL,qL,y9,y9,zc,qN]
   exact .swap _ _ _
  ·rw[zc,zc,qN]
   have:(qk l.length).map ((λi=>(x::y::l).getD i d)∘λx=>x+2)=l:=by
    have e:((λi=>(x::y::l).getD i d)∘λx=>x+2)=λi=>l.getD i d:=rfl;rw[e];exact TS.range_getD l d
   rw[this];rfl
 | @trans l1 l2 l3 p q ih1 ih2=>
  obtain⟨ix,h1,h2⟩:=ih1;obtain⟨jx,k1,k2⟩:=ih2;refine⟨ix.map λi=>jx.getD i 0,?_,?_⟩
  ·have e:l2.length=jx.length:=by rw[k2,qd]
   rw[e]at h1;have:=h1.map λi=>jx.getD i 0;rw[TS.range_getD]at this;exact this.trans k1
  ·rw[h2,qN]
   refine zy λi hi=>?_;have hl:i<l2.length:=qD.mp (h1.mem_iff.mp hi);have hj:i<jx.length:=by rw[k2,qd]at hl;exact hl
   show l2.getD i d=l3.getD (jx.getD i 0) d;rw[k2,qP,qH,qG hj,qP (l:=jx),qG hj];rfl
section
variable {prog:xB}{w:World}{A:xC}{E:xD}{s:Shared}
theorem list_sort_T2 {a:Addr}{vs:List Value}{jM:List (List Int)}{n:Nat}{P:PySem.Fin->Shared->Prop}(ho:s.heap.get? a=some (seqObj "list" vs.toArray n))(ht:Paired (Yo s.heap) vs jM)(hz:vs.length<=100000)(hne:2<=vs.length->∀ns∈jM,ns≠[])
  (h:∀p:Array Nat,p.toList.Perm (qk vs.length)->(p.toList.map λi=>jM.getD i [])=YG jM->P (.done (.ret .none)) { s with heap:=sortedHeap s.heap a vs (yT (p.toList.map λi=>vs.getD i zm)) }) :
  xf (xz prog w) A (Builtin.«list.sort» ⟨[.ref a],[]⟩) P E s:=by
 refine ZeK ho ht hz hne λout h1 h2=>?_;obtain⟨ix,k1,k2⟩:=perm_ix zm h2;have jO:vs.length=jM.length:=qan ht;have eo:out=yT ((yT ix).toList.map λi=>vs.getD i zm):=by
  apply Array.toList_inj.mp;rw[yG,yG];exact k2
 rw[eo];refine h (yT ix) (by rw[yG];exact k1) ?_;rw[yG,<-(UW h1).1,k2,qN];refine zy λi hi=>?_;have hl:i<vs.length:=qD.mp (k1.mem_iff.mp hi);exact(Vz (jv _ [] ht hl)).symm
end
end TT
namespace TS
open L2
section
variable {prog:xB}{w:World}{A:xC}{E:xD}{s:Shared}
theorem ZiI {l:Addr}{vs:List Value}{jM:List (List Int)}{Q:xD}(hl:s.heap.IsList l vs.toArray)(ht:Paired (Yo s.heap) vs jM)(hz:vs.length<=100000)(hne:2<=vs.length->∀ns∈jM,ns≠[])
  (h:∀p:Array Nat,p.toList.Perm (qk vs.length)->(p.toList.map λi=>jM.getD i [])=YG jM->Q (.ref (s.heap.objs.size+1)) { s with heap:=sortedAll s.heap vs (yT (p.toList.map λi=>vs.getD i zm)) }):xf (xz prog w) A (call (.builtin "sorted") [.ref l]) Q E s:=by
 refine qa6 kind_sorted plain_sorted entry_sorted (args_sorted1 _) ?_;unfold Builtin.«sorted»;refine xa (m:=checkCount "sorted" 1 1 _) (xb ?_);refine xa (collect_list hl ?_ (by rw[sizeLine_eq];omega));refine xa (xw ?_ (by rw[sizeLine_eq];omega));have z1:((s.heap.push (seqObj "list" #[] 0)).update s.heap.objs.size (zr (· ++ vs.toArray))).objs.size=s.heap.objs.size+1:=by rw[Heap.size_update,size_push']
 have g1:(((s.heap.push (seqObj "list" #[] 0)).update s.heap.objs.size (zr (· ++ vs.toArray))).push (seqObj "list" vs.toArray 0)).get? (s.heap.objs.size+1)=some (seqObj "list" vs.toArray 0):=by rw[<-z1];exact qC _ rfl
 have kp:∀c o,c≠s.heap.objs.size->s.heap.get? c=some o->(((s.heap.push (seqObj "list" #[] 0)).update s.heap.objs.size (zr (· ++ vs.toArray))).push (seqObj "list" vs.toArray 0)).get? c=some o:=λc o hc e=>qj _ (by rw[qc8 _ _ _ _ hc];exact qj _ e);have ht2:Paired (Yo (((s.heap.push (seqObj "list" #[] 0)).update s.heap.objs.size (zr (· ++ vs.toArray))).push (seqObj "list" vs.toArray 0))) vs jM:=L2.Paired.mapP ht λv ns ⟨a,xs,e,⟨o,ho,r⟩,i⟩=>⟨a,xs,e,⟨o,kp a o (qV (qK ho)) ho,r⟩,i⟩;show xf _ _ _ _ _ { s with heap:=((s.heap.push (seqObj "list" #[] 0)).update s.heap.objs.size (zr (· ++ vs.toArray))).push (seqObj "list" vs.toArray 0) };rw[z1];refine xa (xu (wpAny_call_entry slot_list_sort ⟨_,g1,rfl⟩ entry_list_sort (TT.list_sort_T2 (s:={ s with heap:=((s.heap.push (seqObj "list" #[] 0)).update s.heap.objs.size (zr (· ++ vs.toArray))).push (seqObj "list" vs.toArray 0) }) g1 ht2 hz hne λp a1 a2=>⟨_,rfl,?_⟩) (args_list_sort _)));exact xb ⟨_,rfl,h p a1 a2⟩
end
end TS
namespace TF
open L2 TS
section
variable {X:Cx}{G:Gh}
theorem ZeL:Y6 X (.builtin "sorted") (λxs H Q=>∃(p:Addr) (vs:List V) (jM:List (List Int)) (T:V->List Int->Prop),xs=[.ref p]/\ZA X.K H p vs/\(∀v ns,T v ns->∃a,v=.ref a/\ZH X.K H a (ns.map V.int))/\Paired T vs jM/\
  jM.length<=100000/\(2<=jM.length->∀ns∈jM,ns≠[])/\∀l vs',Paired T vs' (YG jM)->H l=none->Q (.ref l) (Zl H l (.lst vs'))):=by
 intro jI s σ H xs us Q I r h;obtain⟨p,vs,jM,T,rfl,hp,hT,pT,h64,hne,q⟩:=h;obtain⟨u,rfl,ru⟩:=Xw r
 cases ru
 obtain⟨jK,rv,pl,hz⟩:=I.list hp;have hl:=rv.length;have hl2:vs.length=jM.length:=qan pT;refine ZiI pl.isList (ZbR I hT rv pT) (by omega) (λz=>hne (by omega)) λpm a1 a2=>?_;obtain⟨e,he⟩:=sortedAll_at s.heap jK (yT (pm.toList.map λi=>jK.getD i zm));have hle:s.heap.objs.size<=s.heap.objs.size+1:=qbV _;have hb:∀i∈pm.toList,i<jK.length:=λi m=>by
  have:=a1.mem_iff.mp m;simpa using this
 have pv:Zu (pm.toList.map λi=>vs.getD i V.non) (pm.toList.map λi=>jK.getD i zm):=TS.Paired.pick _ _ rv _ λi m=>by rw[hl];exact hb i m
 have pt:Paired T (pm.toList.map λi=>vs.getD i V.non) (pm.toList.map λi=>jM.getD i []):=TS.Paired.pick _ _ pT _ λi m=>by rw[hl];exact hb i m
 rw[a2]at pt;refine⟨.ref (s.heap.objs.size+1),_,I.laid (a:=s.heap.objs.size+1) (o:=.lst (pm.toList.map λi=>vs.getD i V.non)) (t':=s.toks) (λ_ _=>sortedAll_old) hle ⟨?_,_,e,pv,he⟩,rfl,q _ _ pt (I.hok.fresh hle)⟩;have:=a1.length_eq;rw[qT]at this;rw[qd,this,sizeLine_eq];omega
noncomputable def Uv (jM:List (List Int)):Prop:=jM.length<=100000/\(2<=jM.length->∀ns∈jM,ns≠[])
instance (jM:List (List Int)):Decidable (Uv jM):=by unfold Uv;infer_instance
noncomputable def UZ:List D->Option D
 | [.lst ds]=>match WG ds with | some jM=>if Uv jM then some (.lst ((YG jM).map Y9))else none | none=>none
 | _=>none
theorem ZaO:XX X G (.builtin "sorted") UZ:=
 ⟨_,ZeL,λHf H s xs ds c Q e1 st r q k=>by
  match ds,q,r with
  | [.lst es],q,r=>
   have q:(match WG es with | some jM=>if Uv jM then some (D.lst ((YG jM).map Y9))else none | none=>none)=some c:=q
   cases he:WG es with
   | none=>rw[he]at q;cases q
   | some jM=>
    rw[he]at q;have q:(if Uv jM then some (D.lst ((YG jM).map Y9))else none)=some c:=q;split at q
    ·rename_i ok
     cases q
     obtain⟨v,rfl,rv⟩:=ji r;obtain⟨p,vs,rfl,np,hp,rp⟩:=jb.mp rv;rw[ZbS he]at rp;refine⟨p,vs,jM,λv ns=>Zi G Hf (Y9 ns) v,rfl,ZA.of (e1 _ _ np hp),λv ns h=>?_,ZbT rp,ok.1,ok.2,λl vs' pt hl=>?_⟩
     ·obtain⟨a,us,rfl,na,ha,ra⟩:=jc.mp h
      rw[jn ra]at ha;exact⟨a,rfl,ZH.of (e1 _ _ na ha)⟩
     ·have nf:=Gh.nofp st hl
      have g2:=Gr.new (o:=.lst vs') e1 hl nf;have rl:=ZbU pt;exact k (.ref l) _ _ g2 (Gh.grow st hl) (jb.mpr ⟨l,_,rfl,nf,ZQ,rl.ext g2.ff⟩) (Z2.mk e1 hl nf rl)
    ·cases q⟩
end
end TF
namespace TF
open L2 TT
section
variable {X:Cx}{G:Gh}
end
end TF
namespace TQ
open L2 TF TQ
open TP
open TP2
open TP3
end TQ
namespace TF
open L2
section
variable {X:Cx}{G:Gh}{f g:Zb->M D}
theorem ZiJ {a b:Expr}{ta:TA}{p pos:Pos}(hg:Gl X "range")(hm:X.mg "range" = none)(ha:PA X [a,b] ta)(hs:xh [a,b] X.env=(false,eval a X.env)::xh [b] X.env:=by rfl)(hpl:(backTo pos (xh [b] X.env)).any (·.1)=false:=by rfl) :
  PE X (.Call (.Name "range" p) [a,b] [] pos) (fun σ H Q=>ta σ H λvs H1=>∃i j:Int,vs=[.int i,.int j]/\∀p,H1 p=none->Q (.ref p) (Zl H1 p (.rng i j))):=by
 intro jI s σ H Q I h;refine Call_ (Uw I hg hm boot_range (yE (ZJ (ha pos jI s σ H _ I h) λus s1 ⟨vs,H1,I1,r1,q1⟩=>?_) hs hpl));obtain⟨i,j,e,q⟩:=q1;subst e;obtain⟨u,v,rfl,⟨t,rfl⟩,⟨t',rfl⟩⟩:=Zhf r1;refine call_range_2 ⟨.ref s1.heap.objs.size,Zl H1 s1.heap.objs.size (.rng i j),I1.laid (t':=s1.toks+1) (λb o e=>qj _ e) (qp _) ?_,rfl,q _ (I1.hok.fresh (qp _))⟩;exact⟨_,_,_,qC _ rfl⟩
theorem Zdw (hc:X.calm=true):Y6 X (.type "list") (λxs H Q=>∃r i j,xs=[.ref r]/\H r=some (.rng i j)/\(-(2 ^ 62)<=i/\i<2 ^ 62/\-(2 ^ 62)<=j/\j<2 ^ 62)/\j-i<=2 ^ 24/\∀l,H l=none->Q (.ref l) (Zl H l (.lst ((qk (j-i).toNat).map λ(k:Nat)=>V.int (i+k))))):=by
 intro jI s σ H xs us Q I r h;obtain⟨rr,i,j,rfl,hr,⟨h1,h2,h3,h4⟩,h5,q⟩:=h;obtain⟨u,rfl,ru⟩:=Xw r
 cases (show u=qY rr from ru)
 obtain⟨t,u',v',hro⟩:=(show Ym X.prog X.w H s.heap rr (.rng i j)from I.hok rr _ hr);have hn:qbl i j 1=(((j-i).toNat:Nat):Int):=by rw[rangeSize_one];split <;> omega
 refine call_list_range (I.ok.hd hc) (show IsRange s.heap rr i j 1 t u' v' from hro) (small_one h1 h2 h3 h4) hn (by omega) λh' tk acc' c' hk hS hacc=>?_;obtain⟨sz,hit⟩:=hacc;have rv:=Zbb acc'.toList i λk v hv=>by
  obtain⟨t,e⟩:=hit k v (by simpa using hv);exact⟨t,by rw[e];simp⟩
 have el:acc'.toList.length=(j-i).toNat:=by simpa using sz
 rw[el]at rv;refine⟨.ref s.heap.objs.size,Zl H s.heap.objs.size (.lst ((qk (j-i).toNat).map λ(k:Nat)=>V.int (i+k))),I.laid hk (qp _) ?_,rfl,q _ (I.hok.fresh (qp _))⟩;refine⟨?_,acc'.toList,c',rv,?_⟩
 ·rw[qd,qT]
  show(j-i).toNat<=2 ^ 24;omega
 ·rw[qcU]
  exact hS
noncomputable def UU (f g:Zb->M D):Zb->M D:=fun ρ=>Zp (f ρ) λd=>Zp (g ρ) λe=>match d,e with | .int i,.int j=>if (-(2 ^ 62)<=i/\i<2 ^ 62/\-(2 ^ 62)<=j/\j<2 ^ 62)/\j-i<=2 ^ 24 then Zy (.lst (Z3 i (j-i).toNat))else ZE | _,_=>ZE
theorem Zdx {a b:Expr}{p1 p2 pos1 pos:Pos}{r1 r2:Bool}(hc:X.calm=true)(hg:Gl X "range")(hm:X.mg "range" = none)(hg2:Gl X "list")(hm2:X.mg "list" = none)(hv2:xj "list" = some (.type "list"))(ha:PD X G r1 a f)(hb:PD X G r2 b g)
  (hs:xh [a,b] X.env=(false,eval a X.env)::xh [b] X.env:=by rfl) (hs2:xh [b] X.env=(false,eval b X.env)::xh [] X.env:=by rfl) (hpl:(backTo pos1 (xh [b] X.env)).any (·.1)=false:=by rfl)
  (he:xh [.Call (.Name "range" p1) [a,b] [] pos1] X.env=(false,eval (.Call (.Name "range" p1) [a,b] [] pos1) X.env)::xh [] X.env:=by rfl):PD X G true (.Call (.Name "list" p2) [.Call (.Name "range" p1) [a,b] [] pos1] [] pos) (UU f g):=by
 obtain⟨t,pa,qa⟩:=ha.drop;obtain⟨u,pb,qb⟩:=hb.drop;refine⟨_,JS (Zdw hc) hg2 hm2 hv2 (YK (ZiJ hg hm (YK pa (YK pb Xi hs2) hs) hs hpl) Xi he) (by decide) (by decide) he rfl,fun σ Hf H ρ s d s' Q e1 e2 e3 e4 k=>?_⟩;obtain⟨di,s1,a1,a2⟩:=ZC e4;obtain⟨dj,s2,a3,a4⟩:=ZC a2
 match di,dj,a4,a1,a3 with
 | .int i,.int j,a4,a1,a3=>
  obtain⟨c,a5⟩:=Xc a4;obtain⟨rfl,rfl⟩:=ZN a5;refine qa σ Hf H ρ s _ _ _ e1 e2 e3 a1 λv jU H1 g0 st0 r=>?_;refine qb σ jU H1 ρ s1 _ _ _ g0.fh (e2.ext g0.ff) st0 a3 λv2 jZ H2 g1 st r2=>?_;have gg:=g0.trans g1;rw[ja.mp r,ja.mp r2];refine⟨i,j,rfl,λp hp=>⟨p,i,j,rfl,ZQ,c.1,c.2,λl hl=>?_⟩⟩;have hlp:l≠p:=λz=>by rw[z,ZQ]at hl;cases hl
  have jT:=Gh.grow (o:=.rng i j) st hp;have nf:=Gh.nofp jT hl;have fp:jZ p=none:=by
   cases q:jZ p with
   | none=>rfl
   | some o=>rw[gg.fh p o (Gh.nofp st hp) q]at hp;cases hp
  have gA:Gr G jZ H2 jZ (Zl H2 p (.rng i j)):=⟨λb o n q=>by rw[Zx (Ys q hp)];exact q,.refl _ _,λb o n q=>by rw[Zx (Ys q fp)];exact gg.fh b o n q,λb n h1 h2=>h1⟩;have gB:=Gr.new (o:=.lst ((qk (j-i).toNat).map λ(k:Nat)=>V.int (i+k))) gA.fh hl nf;have rr:Zh G jZ (Z3 i (j-i).toNat) ((qk (j-i).toNat).map λ(k:Nat)=>V.int (i+k)):=Zbc i _;refine k (.ref l) _ _ ((gg.trans gA).trans gB) (Gh.grow jT hl) (jb.mpr ⟨l,_,rfl,nf,ZQ,rr.ext gB.ff⟩) λ_=>?_;exact jm (gg.trans gA).hh (λa ea _=>by cases ea;exact nf) (Z2.mk gA.fh hl nf rr)
end
end TF
namespace TQ
open L2 TF
end TQ
namespace TF
open L2
section
variable {X:Cx}{G:Gh}
end
theorem boot_sum:xj "sum" = some (.builtin "sum"):=by decide +kernel
section
variable {X:Cx}{G:Gh}
noncomputable def W1 (ns:List Int):Bool:=ns.all λn=>decide (-4294967296<=n)&&decide (n<=4294967296)
theorem ZfR {ns:List Int}(h:W1 ns=true):∀j:Nat,-(4294967296*(j:Int))<=(ns.take j).sum/\(ns.take j).sum<=4294967296*(j:Int):=by
 intro j
 induction ns generalizing j with
 | nil=>rw[List.take_nil];show _<=(0:Int)/\(0:Int)<=_;omega
 | cons n r ih=>
  cases j with
  | zero=>rw[qcI];show _<=(0:Int)/\(0:Int)<=_;omega
  | succ j=>
   unfold W1 at h;simp only[List.all_cons,zl,decide_eq_true_eq]at h;have:=ih h.2 j;rw[qc7,List.sum_cons];omega
noncomputable def dSum:List D->Option D
 | [.lst ds]=>match ZM ds with | some ns=>if W1 ns=true then some (.int ns.sum)else none | none=>none
 | _=>none
theorem ZiK (hc:X.calm=true):Y6 X (.builtin "sum") (λxs H Q=>∃p ns,xs=[.ref p]/\ZA X.K H p (ns.map V.int)/\W1 ns=true/\Q (.int ns.sum) H):=by
 intro jI s σ H xs us Q I r h;obtain⟨p,ns,rfl,hp,ok,q⟩:=h;obtain⟨u,rfl,ru⟩:=Xw r
 cases ru
 obtain⟨jK,rv,pl,hz⟩:=I.list hp;have hi:IntsAre jK ns:=WS rv;obtain⟨xs,e⟩:=hi.allInts.items;have hns:ns=xs.toList.map (·.1):=by rw[<-hi.numsOf,<-nums_intItems,<-e]
 have hl:=pl.isList;rw[e]at hl;have jO:ns.length=xs.size:=by rw[hns,qd,qB]
 have hz2:ns.length<=16777216:=by
  have:=hz;rw[qd]at this;rw[show xg=16777216 by decide]at this;exact this
 refine sum_intList (I.ok.hd hc) hl (λj hj=>?_) λh' tk t' hk=>?_
 ·rw[preSum_eq,<-hns]
  have h1:=ZfR ok (j+1);have h2:-4294967296<=numAt xs j/\numAt xs j<=4294967296:=by
   rw[numAt_eq,<-hns];have hm:ns.getD j 0∈ns:=getD_mem (by omega);have:=yh.mp ok _ hm;simp only[zl,decide_eq_true_eq]at this;exact this
  constructor
  ·constructor <;> omega
  ·constructor <;> omega
 ·rw[preSum_eq,<-hns,<-jO,yy]
  exact⟨.int ns.sum,H,I.kept (t':=tk) hk,⟨_,rfl⟩,q⟩
theorem ZiL (hc:X.calm=true):XX X G (.builtin "sum") dSum:=
 ⟨_,ZiK hc,λHf H s xs ds c Q e1 st r q k=>by
  match ds,q,r with
  | [.lst es],q,r=>
   have q:(match ZM es with | some ns=>if W1 ns=true then some (D.int ns.sum)else none | none=>none)=some c:=q
   cases he:ZM es with
   | none=>rw[he]at q;cases q
   | some ns=>
    rw[he]at q;by_cases ok:W1 ns=true
    ·have q:(if W1 ns=true then some (D.int ns.sum)else none)=some c:=q
     rw[if_pos ok]at q
     cases q
     obtain⟨v,rfl,rv⟩:=ji r;obtain⟨p,vs,rfl,np,hp,rp⟩:=jb.mp rv;rw[WU he]at rp;rw[jn rp]at hp;exact⟨p,ns,rfl,ZA.of (e1 _ _ np hp),ok,k _ Hf H (.refl e1) st (ja.mpr rfl) (.scal λz=>z)⟩
    ·have q:(if W1 ns=true then some (D.int ns.sum)else none)=some c:=q
     rw[if_neg ok]at q;cases q⟩
end
open PySem.SeqAt
open AutoSeq1 (wpAny_loadPart')
theorem ZfS (l:Addr)(items:Array Value)(n:Nat)(dd:Option Addr)(sl:Array (Option Value))(u:Tok) :
  Meets (Builtin.«tuple.__mul__» ⟨[.ref l,.int 1 u],[]⟩) (λ_ R s=>s.heap.get? l=some { cls:=.type "tuple",dict:=dd,data:=.seq items n,slots:=sl }/\R (.ok (.ret (qY l))) s):=
 .of_wp λprog w A R s h=>by
  obtain⟨hp,g,d,tk,os⟩:=s;obtain⟨hl,h⟩:=h;have f1:=qcg;have f2:=qaz;have f3:=qby;have f4:=qbo;have f5:=qbp;wp_walk using wpAny_loadPart' hl;exact⟨_,rfl,h⟩
theorem ZfT (l:Addr)(items:Array Value)(n:Nat)(dd:Option Addr)(sl:Array (Option Value))(u:Tok)(hc1:items.isEmpty=false) :
  Meets (Builtin.«tuple.__mul__» ⟨[.ref l,.int 0 u],[]⟩) (λ_ R s=>s.heap.get? l=some { cls:=.type "tuple",dict:=dd,data:=.seq items n,slots:=sl }/\R (.ok (.ret (qY s.heap.objs.size))) { s with heap:=s.heap.push { cls:=yp "tuple",data:=Data.seq #[] },toks:=s.toks }):=
 .of_wp λprog w A R s h=>by
  obtain⟨hp,g,d,tk,os⟩:=s;obtain⟨hl,h⟩:=h;have f1:=qcg;have f2:=qaz;have f3:=qby;have f4:=qbo;have f5:=qbp;wp_walk using wpAny_loadPart' hl;exact⟨_,rfl,h⟩
section
variable {X:Cx}{G:Gh}
noncomputable def ZnG (K:qm):R2:=λx y H Q=>∃l xs,x=.ref l/\y=.int 1/\ZH K H l xs/\Q (.ref l) H
noncomputable def ZnH (K:qm):R2:=λx y H Q=>∃l xs,x=.ref l/\y=.int 0/\ZH K H l xs/\xs≠[]/\∀p,H p=none->Q (.ref p) (Zl H p (.tup []))
theorem Zkt:Z6 X (binaryOp .Mult) (ZnG X.K):=by
 intro jI s σ H x y v u Q I rx ry h;obtain⟨l,xs,rfl,rfl,hH,q⟩:=h
 cases rx
 obtain⟨t,rfl⟩:=ry;obtain⟨jK,r,p1,_⟩:=I.tuple hH;obtain⟨⟨cls,dd,data,sl⟩,ho,hc,n,hd⟩:=id p1;simp only at hc hd;subst hc hd;exact wpAny_binaryOp_repeat_ref (T:="tuple") (U:="int") (by decide) ⟨_,ho,rfl⟩ (λs'=>typeIs_int s' 1 t) Zab qbI yS ZaB qbA.lookup
  (call_meets yS (typeIs_int s 1 t) qbB (qbs _ _) (Zaj 1 t l jK.toArray n dd sl)
   ⟨ho,rfl,⟨_,ho,rfl⟩,call_meets qaa ⟨_,ho,rfl⟩ qbq (qbd _ _) (ZfS l jK.toArray n dd sl t) ⟨ho,.ref l,H,I,rfl,q⟩⟩)
theorem Zku:Z6 X (binaryOp .Mult) (ZnH X.K):=by
 intro jI s σ H x y v u Q I rx ry h;obtain⟨l,xs,rfl,rfl,hH,hne,q⟩:=h
 cases rx
 obtain⟨t,rfl⟩:=ry;obtain⟨jK,r,p1,_⟩:=I.tuple hH;obtain⟨⟨cls,dd,data,sl⟩,ho,hc,n,hd⟩:=id p1;simp only at hc hd;subst hc hd;have hne':jK≠[]:=λz=>hne (r.nil_iff.mp z);have hemp:jK.toArray.isEmpty=false:=by cases jK with | nil=>exact absurd rfl hne' | cons a b=>rfl
 exact wpAny_binaryOp_repeat_ref (T:="tuple") (U:="int") (by decide) ⟨_,ho,rfl⟩ (λs'=>typeIs_int s' 0 t) Zab qbI yS ZaB qbA.lookup
  (call_meets yS (typeIs_int s 0 t) qbB (qbs _ _) (Zaj 0 t l jK.toArray n dd sl)
   ⟨ho,rfl,⟨_,ho,rfl⟩,call_meets qaa ⟨_,ho,rfl⟩ qbq (qbd _ _) (ZfT l jK.toArray n dd sl t hemp) ⟨ho,.ref s.heap.objs.size,_,I.laid (t':=s.toks) (o:=.tup []) (λb ob q=>qj _ q) (qp _) ⟨zC _,[],.nil,qbW _ _⟩,rfl,q _ (I.hok.fresh (qp _))⟩⟩)
noncomputable def Zhz (d e:D):Option D:=match d,e with
 | .tup ds,.int k=>if k=1 then some (.tup ds)else if k=0/\ds≠[]then some (.tup [])else Jr (.tup ds) (.int k)
 | _,_=>Jr d e
theorem Zkv:Xb X G (binaryOp .Mult) Zhz:=by
 obtain⟨r0,po,qo⟩:=ZjX (X:=X) (G:=G);refine⟨_,po.or (Zkt.or Zku),λHf H s x y d e c Q e1 st rx ry q k=>?_⟩;by_cases hd:∃ds j,d=.tup ds/\e=.int j
 ·obtain⟨ds,j,rfl,rfl⟩:=hd
  have q:(if j=1 then some (D.tup ds)else if j=0/\ds≠[]then some (.tup [])else Jr (.tup ds) (.int j))=some c:=q;by_cases h1:j=1
  ·rw[if_pos h1]at q
   cases q
   obtain⟨p,vs,rfl,np,hp,rp⟩:=jc.mp rx;refine .inr (.inl ⟨p,vs,rfl,by rw[ja.mp ry,h1],ZH.of (e1 _ _ np hp),?_⟩);exact k (.ref p) _ _ (.refl e1) st (jc.mpr ⟨p,vs,rfl,np,hp,rp⟩) (.scal λz=>z)
  ·rw[if_neg h1]at q
   by_cases h2:j=0/\ds≠[]
   ·rw[if_pos h2]at q
    cases q
    obtain⟨p,vs,rfl,np,hp,rp⟩:=jc.mp rx;refine .inr (.inr ⟨p,vs,rfl,by rw[ja.mp ry,h2.1],ZH.of (e1 _ _ np hp),λz=>h2.2 (zS.mp (by rw[rp.length,z];rfl)),λl hl=>?_⟩);have nf:=Gh.nofp st hl;have g2:=Gr.new (o:=.tup []) e1 hl nf;exact k (.ref l) _ _ g2 (Gh.grow st hl) (jc.mpr ⟨l,_,rfl,nf,ZQ,Zh.nil_iff.mpr rfl⟩) (.scal λz=>z)
   ·rw[if_neg h2]at q
    exact .inl (qo Hf H s x y _ _ c Q e1 st rx ry q k)
 ·have q':Jr d e=some c:=by
   unfold Zhz at q;split at q
   ·exact absurd ⟨_,_,rfl,rfl⟩ hd
   ·exact q
  exact .inl (qo Hf H s x y _ _ c Q e1 st rx ry q' k)
end
end TF
namespace TQ
open L2 TF TQ
open TP
open TP2
open TP3
noncomputable def ZgQ:Zb->M Out:=(Zf (ZO 1 (ZS (Zc (Ze Zn (Za 0) (dC (.int 0))) (Zc (Zr Uh (Zc (Za 0) Zd)) Zd))))
 (Zf (ZL (Yj [none,some 1] (YL (Ze Zn (Za 0) (dC (.int 0)))) (Zv 0) Yt (Zr Je (Zc (Za 1) (Zc (Za 0) Zd)))))
 Zk))
noncomputable def Zbi:List D->M D:=runB 2 1 ZgQ
noncomputable def Zcq (Fs:List D->M D):Zb->M Out:=(Zf (ZO 4 (Yj [none,some 2,some 0] (ZY (Za 3)) (Zv 0) (XZ (asB (Ze Y8 (Za 0) (Za 1))) (asB (Ze WF (Za 0) (Ze Zn (Za 2) (Za 1))))) (Za 0)))
 (Zf (ZL (Ze Yk (ZZ (Zc (Za 2) Zd)) (Zr Fs (Zc (Za 0) (Zc (Za 1) (Zc (Za 4) Zd))))))
 Zk))
noncomputable def BT (Fs:List D->M D):List D->M D:=runB 5 4 (Zcq Fs)
noncomputable def Zdy:Zb->M Out:=(Zf (ZL (Yj [none,some 0,some 1] (ZY (Za 2)) (Zv 0) (asB (Ze Y0 (Za 0) (Ze Zn (Za 1) (Za 2)))) (Za 0)))
 Zk)
noncomputable def Zap:List D->M D:=runB 3 3 Zdy
noncomputable def ZiM:Zb->M Out:=(Zf (ZL (Zs dSum (Zc (Yj [none,some 0] (ZY (Za 1)) (Zv 0) Yt (Ze Zn (Za 1) (Za 0))) Zd)))
 Zk)
noncomputable def JV:List D->M D:=runB 2 2 ZiM
noncomputable def Zac (Fs:List D->M D):Zb->M Out:=(Zf (Yu (asB (Ze Yy (Za 2) (ZZ Zd)))
 (Zf (ZL (ZZ Zd))
 Zk)
 Zk)
 (Zf (ZO 3 (Yj [none,some 0,some 2] (ZY (Za 2)) (Zv 0) Yt (Zr Zap (Zc (Za 1) (Zc (Za 0) (Zc (Za 2) Zd))))))
 (Zf (Z9 (YL (Zs Ya (Zc (Za 2) Zd))) (Zv 4)
 (Zf (Yu (asB (Ze UN (Zr JV (Zc (Za 1) (Zc (Ze Zn (Za 3) (Za 4)) Zd))) (Ze Zn (Za 1) (Ze Zn (Za 2) (Za 4)))))
 (Zf (ZL (Zr (BT Fs) (Zc (Za 0) (Zc (Za 1) (Zc (Ze Zn (Za 2) (Za 4)) (Zc (Za 2) Zd))))))
 Zk)
 Zk)
 Zk))
 (Zf (ZO 5 (Yj [none] (ZY (Za 3)) (Zv 0) Yt (Zs Ya (Zc (Za 0) Zd))))
 (Zf (ZO 6 (Ze Zn (Za 2) (Ze ZeF (Za 5) (Zs V0 (Zc (Za 5) Zd)))))
 (Zf (ZO 7 (Zr (BT Fs) (Zc (Za 0) (Zc (Za 1) (Zc (Za 6) (Zc (Za 2) Zd))))))
 (Zf (ZO 8 (Zr Fs (Zc (Za 0) (Zc (Za 1) (Zc (Yj [none,some 6] (ZY (Za 2)) (Zv 0) (asB (Ze Y8 (Za 0) (Za 1))) (Za 0)) Zd)))))
 (Zf (ZL (BM (asB (Ze Vp (Zr JV (Zc (Za 1) (Zc (Za 7) Zd))) (Zr JV (Zc (Za 1) (Zc (Za 8) Zd))))) (Za 7) (Za 8)))
 Zk))))))))
noncomputable def Ug:Nat->List D->M D
 | 0=>λ_=>ZE
 | n+1=>runB 9 3 (Zac (Ug n))
noncomputable def ZaI:Zb->M Out:=(Zf (ZO 2 (Yj [none] (ZY (Zr Zbi (Zc (Zr UY (Zc (Za 0) Zd)) Zd))) (Zv 0) Yt (Zs Zew (Zc (Yj [none] (ZY (Za 0)) (Zv 0) Yt (ZS (Zc (Za 0) (Zc (dC (.bl true)) Zd)))) Zd))))
 (Zf (ZL (Zs WE (Zc (Zs Uu (Zc (Zr (Ug 26) (Zc (Za 2) (Zc (Za 1) (Zc (Ww (Ze Zn (Za 0) (dC (.int 0)))) Zd)))) Zd)) Zd)))
 Zk))
noncomputable def JI:List D->M D:=runB 3 2 ZaI
noncomputable def ZnI:Zb->M Out:=(Zf (ZO 1 (Zr JI (Zc (Za 0) (Zc (Ze Zhz (ZS (Zc (dC (.int 1)) Zd)) (Ze Zn (Za 0) (dC (.int 0)))) Zd))))
 (Zf (ZL (ZS (Zc (Zs Ya (Zc (Za 1) Zd)) (Zc (Za 1) Zd))))
 Zk))
noncomputable def Jj:List D->M D:=runB 2 1 ZnI
end TQ
namespace HT
open SetTable (leap runEnd Probe bits)
noncomputable def WR (m:Nat)(p:Probe):Probe:=
 if p.more > 0 then { p with j:=p.j+1,more:=p.more-1 } else
 { p with j:=(leap m p.i p.perturb).1,more:=runEnd m (leap m p.i p.perturb).1-(leap m p.i p.perturb).1,i:=(leap m p.i p.perturb).1,perturb:=(leap m p.i p.perturb).2 }
noncomputable def S0 (m i q:Nat):Probe:={ j:=i,more:=runEnd m i-i,i:=i,perturb:=q,dummy:=none }
noncomputable def Sh (m:Nat)(h:Int):Probe:=S0 m (bits h % (m+1)) (bits h)
theorem Zkw (t:SetTable)(h:Int):t.probeStart h=Sh t.mask h:=rfl
inductive Fd (m:Nat)(occ:Nat->Prop)(x:Nat):Probe->Prop
 | here {p:Probe} (h:p.j=x) (ho:occ x):Fd m occ x p
 | on {p:Probe} (ho:occ p.j) (h:Fd m occ x (WR m p)):Fd m occ x p
inductive Rc (m:Nat)(occ:Nat->Prop):Nat->Probe->Prop
 | here {n:Nat} {p:Probe} (h:¬occ p.j):Rc m occ (n+1) p
 | on {n:Nat} {p:Probe} (h:Rc m occ n (WR m p)):Rc m occ (n+1) p
theorem Fd.mono {m:Nat}{o1 o2:Nat->Prop}{x:Nat}{p:Probe}(h:∀j,o1 j->o2 j)(f:Fd m o1 x p):Fd m o2 x p:=by
 induction f with
 | here a b=>exact .here a (h _ b)
 | on a _ ih=>exact .on (h _ a) ih
theorem Rc.more {m:Nat}{occ:Nat->Prop}{n:Nat}{p:Probe}(r:Rc m occ n p):∀{k:Nat},n<=k->Rc m occ k p:=by
 induction r with
 | here h=>
  intro k hk;obtain⟨k,rfl⟩:∃j,k=j+1:=⟨k-1,by omega⟩;exact .here h
 | on _ ih=>
  intro k hk;obtain⟨k,rfl⟩:∃j,k=j+1:=⟨k-1,by omega⟩;exact .on (ih (by omega))
section
variable {m:Nat}{occ:Nat->Prop}
theorem Zkx {n i q:Nat}(h:Rc m occ n (S0 m (leap m i q).1 (leap m i q).2)):∀(more j:Nat),Rc m occ (n+more+1) { j:=j,more:=more,i:=i,perturb:=q,dummy:=none }
 | 0,j=>.on h
 | k+1,j=>.on (Zkx h k (j+1))
theorem ZnJ (m i:Nat):runEnd m i-i<=9:=by unfold runEnd;split <;> omega
theorem ZeM {m i:Nat}(h:i<=m):i<=runEnd m i/\runEnd m i<=m:=by unfold runEnd;split <;> omega
noncomputable def YJ (m:Nat):Nat->Nat×Nat->Nat×Nat
 | 0,x=>x
 | c+1,x=>YJ m c (leap m x.1 x.2)
theorem U7 (m:Nat):∀(a b:Nat) (x:Nat×Nat),YJ m (a+b) x=YJ m b (YJ m a x)
 | 0,b,x=>by rw[qad];rfl
 | a+1,b,x=>by
  rw[show a+1+b=(a+b)+1 by omega];exact U7 m a b _
theorem ZmH:∀(C:Nat) (x:Nat×Nat) (c:Nat),c<=C->¬occ (YJ m c x).1->Rc m occ (10*C+1) (S0 m x.1 x.2)
 | C,x,0,_,h=>.here h
 | 0,x,c+1,hc,_=>by omega
 | C+1,x,c+1,hc,h=>by
  have ih:=ZmH C (leap m x.1 x.2) c (by omega) h;have:=Zkx (n:=10*C+1) ih (runEnd m x.1-x.1) x.1;have hl:=ZnJ m x.1;exact this.more (by omega)
theorem ZgR (m:Nat):∀(c:Nat) (x:Nat×Nat),(YJ m c x).2=x.2 / 32 ^ c
 | 0,x=>by simp[YJ]
 | c+1,x=>by
  show(YJ m c (leap m x.1 x.2)).2=_;rw[ZgR m c];show x.2 / 32 / 32 ^ c=_;rw[Nat.div_div_eq_div_mul,Nat.pow_succ,qce 32]
theorem Zky (m:Nat):∀(c:Nat) (x:Nat×Nat),x.1<=m->(YJ m c x).1<=m
 | 0,x,h=>h
 | c+1,x,h=>Zky m c _ (by
  show(x.1*5+1+x.2 / 32) % (m+1)<=m;exact qaS (qbk _ (qbL m)))
noncomputable def orb (m:Nat):Nat->Nat->List Nat
 | 0,_=>[]
 | k+1,i=>i::orb m k ((i*5+1) % (m+1))
theorem ZeN (m c i:Nat):(YJ m c (i,0)).2=0:=by rw[ZgR];simp
theorem Zl0 (m c i:Nat):YJ m (c+1) (i,0)=(((YJ m c (i,0)).1*5+1) % (m+1),0):=by
 rw[U7 m c 1];have:=ZeN m c i;generalize YJ m c (i,0)=y at this;obtain⟨a,b⟩:=y
 cases this
 show((a*5+1+0 / 32) % (m+1),0 / 32)=_;simp
theorem ZhA (m:Nat):∀(k c:Nat) (x:Nat),x∈orb m k (YJ m c (0,0)).1->∃c'<c+k,(YJ m c' (0,0)).1=x
 | 0,c,x,h=>by simp[orb]at h
 | k+1,c,x,h=>by
  rcases qq.mp h with rfl | h
  ·exact⟨c,by omega,rfl⟩
  ·have e:((YJ m c (0,0)).1*5+1) % (m+1)=(YJ m (c+1) (0,0)).1:=by rw[Zl0]
   rw[e]at h;obtain⟨c',h1,h2⟩:=ZhA m k (c+1) x h;exact⟨c',by omega,h2⟩
noncomputable def W9 (m:Nat):Prop:=m=7∨m=31∨m=127∨m=511
noncomputable def JB (m:Nat):Bool:=((qk (m+1)).all λj=>(orb m (m+1) 0).contains j)&&(YJ m (m+1) (0,0)).1==0
theorem Zov:JB 7=true:=by decide +kernel
theorem ZnK:JB 31=true:=by decide +kernel
theorem Zl1:JB 127=true:=by decide +kernel
theorem Zl2:JB 511=true:=by decide +kernel
theorem cov {m:Nat}(hm:W9 m){i j:Nat}(hi:i<=m)(hj:j<=m):∃c≤m,(YJ m c (i,0)).1=j:=by
 have hc:JB m=true:=by
  rcases hm with rfl | rfl | rfl | rfl
  ·exact Zov
  ·exact ZnK
  ·exact Zl1
  ·exact Zl2
 unfold JB at hc;rw[zl,yh,beq_iff_eq]at hc;obtain⟨h1,h2⟩:=hc;have at':∀x≤m,∃c≤m,(YJ m c (0,0)).1=x:=λx hx=>by
  have:=h1 x (qD.mpr (by omega));obtain⟨c,hc,e⟩:=ZhA m (m+1) 0 x (by simpa[YJ]using this);exact⟨c,by omega,e⟩
 have per:YJ m (m+1) (0,0)=(0,0):=qcQ h2 (ZeN _ _ _);obtain⟨a,ha,ea⟩:=at' i hi;obtain⟨b,hb,eb⟩:=at' j hj;have eia:YJ m a (0,0)=(i,0):=qcQ ea (ZeN _ _ _);by_cases hab:a<=b
 ·refine⟨b-a,by omega,?_⟩
  rw[<-eia,<-U7,show a+(b-a)=b by omega];exact eb
 ·refine⟨m+1+b-a,by omega,?_⟩
  rw[<-eia,<-U7,show a+(m+1+b-a)=m+1+b by omega,U7,per];exact eb
theorem ZhB (h:Int):bits h<2 ^ 64:=by
 unfold bits;have:=qaK h (show(0:Int)<2 ^ 64 by decide);have:=qak h (show(2 ^ 64:Int)≠0 by decide);omega
theorem way {m:Nat}(hm:W9 m){i q:Nat}(hi:i<=m)(hq:q<2 ^ 64){j:Nat}(hj:j<=m):∃c≤m+13,(YJ m c (i,q)).1=j:=by
 obtain⟨c,hc,e⟩:=cov hm (Zky m 13 (i,q) hi) hj;refine⟨13+c,by omega,?_⟩;rw[U7];have h2:(YJ m 13 (i,q)).2=0:=by
  rw[ZgR];exact Nat.div_eq_of_lt (qab hq (by decide))
 have e2:YJ m 13 (i,q)=((YJ m 13 (i,q)).1,0):=qcQ rfl h2;rw[e2];exact e
theorem Bx (m:Nat)(h:Int):bits h % (m+1)<=m:=by
 exact qaS (qbk _ (qbL m))
theorem Zkz {m:Nat}(hm:W9 m)(h:Int){occ:Nat->Prop}{j:Nat}(hj:j<=m)(ho:¬occ j):Rc m occ (10*(m+15)) (Sh m h):=by
 obtain⟨c,hc,e⟩:=way hm (Bx m h) (ZhB h) hj;exact(ZmH (m+13) (bits h % (m+1),bits h) c hc (by rw[e];exact ho)).more (by omega)
noncomputable def Pb (m:Nat)(p:Probe):Prop:=p.j+p.more<=m
theorem ZmI {m i:Nat}(q:Nat)(h:i<=m):Pb m (S0 m i q):=by
 have:=ZeM h;show i+(runEnd m i-i)<=m;omega
theorem ZnL {m:Nat}{p:Probe}(h:Pb m p):Pb m (WR m p):=by
 unfold WR;split
 ·show p.j+1+(p.more-1)<=m
  unfold Pb at h;omega
 ·exact ZmI 0 (by
   show(p.i*5+1+p.perturb / 32) % (m+1)<=m;exact qaS (qbk _ (qbL m)))
end
theorem ZiN {xs:Array Nat}(h:X1 xs){j:Nat}(hj:j∈xs.toList):xs[qE xs j]?=some j:=by
 obtain⟨a,b,c⟩:=JP h j;obtain⟨i,hi,e⟩:=qcV.mp hj;have hi':i<xs.size:=by simpa using hi
 have e':xs.getD i 0=j:=by rw[qU,qf hi'];simpa using e
 have h1:¬i<qE xs j:=λz=>by have:=a i z;omega
 have h2:¬qE xs j<i:=λz=>by
  have:=b (qE xs j) (qp _) (by omega);have:=h.lt hi' z;omega
 have:qE xs j=i:=by omega
 rw[this,qf hi'];rw[<-e',qU,qf hi'];rfl
theorem ZkA {t:SetTable}(hd:t.dummies = #[])(hr:X1 t.place)(j:Nat):(∃i,t.slot j=.live i/\t.place[i]?=some j)∨(t.slot j=.empty/\j∉t.place.toList):=by
 by_cases h:t.place[qE t.place j]?=some j
 ·exact .inl ⟨_,ZiF h,h⟩
 ·refine .inr ⟨?_,λz=>h (ZiN hr z)⟩
  unfold SetTable.slot;dsimp only;rw[if_neg (by simpa using h),if_neg (by rw[hd];simp[qdf])]
theorem Zd2 {xs:Array Nat}(h:X1 xs){i k x:Nat}(h1:xs[i]?=some x)(h2:xs[k]?=some x):i=k:=by
 obtain⟨l1,e1⟩:=zJ.mp h1;obtain⟨l2,e2⟩:=zJ.mp h2;have d1:xs.getD i 0=x:=by rw[qU,h1];rfl
 have d2:xs.getD k 0=x:=by rw[qU,h2];rfl
 rcases qbt i k with z | z | z
 ·have:=h.lt l2 z;omega
 ·exact z
 ·have:=h.lt l1 z;omega
theorem Zd3 {xs:Array Nat}{i x:Nat}(h:xs[i]?=some x):x∈xs.toList:=by
 rw[<-qA]at h;exact zv h
noncomputable abbrev XA (t:SetTable):Nat->Prop:=λj=>j∈t.place.toList
theorem ZiO (m:Nat)(p:Probe):(WR m p).dummy=p.dummy:=by unfold WR;split <;> rfl
theorem ZhC {t:SetTable}{g:Nat->Int}{h:Int}(hd:t.dummies = #[])(hr:X1 t.place):∀(f n:Nat) (p:Probe),Rc t.mask (XA t) n p->n<=f->p.dummy=none->Pb t.mask p->
  (∃j,qbu t g h f p=some (.empty j none)/\j∉t.place.toList/\j<=t.mask/\(∀i x,t.place[i]?=some x->Fd t.mask (XA t) x p->g i≠h)/\∀oc:Nat->Prop,(∀j,XA t j->oc j)->oc j->Fd t.mask oc j p)∨
  (∃j i q n',qbu t g h f p=some (.candidate j i q)/\t.slot j=.live i/\t.place[i]?=some j/\g i=h/\Rc t.mask (XA t) n' q/\n'<n/\q.dummy=none/\Pb t.mask q/\(∀i' x,t.place[i']?=some x->Fd t.mask (XA t) x p->g i'≠h∨i'=i∨Fd t.mask (XA t) x q)/\∀oc:Nat->Prop,(∀j,XA t j->oc j)->∀y,Fd t.mask oc y q->Fd t.mask oc y p)
 | 0,n,p,rc,hn,_,_=>by
  cases rc <;> omega
 | f+1,n,p,rc,hn,hp,hb=>by
  unfold qbu;rcases ZkA hd hr p.j with⟨i,e,hi⟩ | ⟨e,hi⟩
  ·rw[e]
   dsimp only;have ho:XA t p.j:=Zd3 hi;obtain⟨n,rfl,rc'⟩:∃k,n=k+1/\Rc t.mask (XA t) k (WR t.mask p):=by
    cases rc with
    | here z=>exact absurd ho z
    | on z=>exact⟨_,rfl,z⟩
   have hp':(WR t.mask p).dummy=none:=by rw[ZiO];exact hp
   have hb':=ZnL hb;by_cases hg:g i=h
   ·rw[if_pos (by simpa using hg)]
    refine .inr ⟨p.j,i,WR t.mask p,n,rfl,e,hi,hg,rc',by omega,hp',hb',λi' x hx fd=>?_,λoc ho' y fd=>.on (ho' _ ho) fd⟩
    cases fd with
    | here a b=>
     subst a;exact .inr (.inl (Zd2 hr hx hi))
    | on a b=>exact .inr (.inr b)
   ·rw[if_neg (by simpa using hg)]
    have pass:∀i' x,t.place[i']?=some x->Fd t.mask (XA t) x p->g i'≠h∨Fd t.mask (XA t) x (WR t.mask p):=λi' x hx fd=>by
     cases fd with
     | here a b=>
      subst a;rw[Zd2 hr hx hi];exact .inl hg
     | on a b=>exact .inr b
    rcases ZhC hd hr f n (WR t.mask p) rc' (by omega) hp' hb' with⟨j,z1,z2,z3,z4,z5⟩ | ⟨j,i2,q,n',z1,z2,z3,z4,z5,z6,z7,z8,z9,z10⟩
    ·refine .inl ⟨j,z1,z2,z3,λi' x hx fd=>?_,λoc a b=>.on (a _ ho) (z5 oc a b)⟩
     rcases pass i' x hx fd with z | z
     ·exact z
     ·exact z4 i' x hx z
    ·refine .inr ⟨j,i2,q,n',z1,z2,z3,z4,z5,by omega,z7,z8,λi' x hx fd=>?_,λoc a y b=>.on (a _ ho) (z10 oc a y b)⟩
     rcases pass i' x hx fd with z | z
     ·exact .inl z
     ·exact z9 i' x hx z
  ·rw[e]
   dsimp only;refine .inl ⟨p.j,by rw[hp],hi,by unfold Pb at hb;omega,λi' x hx fd=>?_,λoc _ b=>.here rfl b⟩
   cases fd with
   | here a b=>exact absurd (a▸b) hi
   | on a b=>exact absurd a hi
noncomputable abbrev BF (ow:Array (Option Nat)):Nat->Prop:=λj=>∃k,ow[j]?=some (some k)
theorem ZkB {m:Nat}{occ:Nat->Prop}{i q e x:Nat}:∀(d b:Nat),b+d=x->x<=e->(∀a,b<=a->a<x->occ (i+a))->occ (i+x)->Fd m occ (i+x) { j:=i+b,more:=e-b,i:=i,perturb:=q,dummy:=none }
 | 0,b,hb,he,h1,h2=>.here (by show i+b=i+x;omega) h2
 | d+1,b,hb,he,h1,h2=>.on (h1 b (qp _) (by omega)) (by
  have:=ZkB (m:=m) (q:=q) (e:=e) d (b+1) (by omega) he (λa ha=>h1 a (by omega)) h2;unfold WR;rw[if_pos (by show e-b > 0;omega)];exact this)
theorem ZhD {m:Nat}{occ:Nat->Prop}{i q x:Nat}(h:Fd m occ x (S0 m (leap m i q).1 (leap m i q).2)):∀(more j:Nat),(∀a≤more,occ (j+a))->Fd m occ x { j:=j,more:=more,i:=i,perturb:=q,dummy:=none }
 | 0,j,ho=>.on (ho 0 (qp _)) h
 | k+1,j,ho=>.on (ho 0 (by omega)) (by
  have:=ZhD h k (j+1) λa ha=>by rw[qa2,qdd 1];exact ho (a+1) (by omega)
  exact this)
theorem Zd4 {m:Nat}{ow:Array (Option Nat)}(hs:ow.size=m+1):∀(f i q j:Nat),i<=m->zL m ow f i q=some j->ow[j]?=some none/\∀oc:Nat->Prop,(∀j,BF ow j->oc j)->oc j->Fd m oc j (S0 m i q)
 | 0,i,q,j,_,h=>by unfold zL at h;cases h
 | f+1,i,q,j,hi,h=>by
  have hm:=ZeM hi;have get:∀a≤runEnd m i-i,(ow.getD (i+a) (some 0)).isNone=false->BF ow (i+a):=λa ha e=>by
   have hl:i+a<ow.size:=by omega
   rw[qU,qf hl]at e
   cases eo:ow[i+a]with
   | none=>rw[eo]at e;cases e
   | some k=>exact⟨k,by rw[qf hl,eo]⟩
  unfold zL at h
  cases e:(qk (runEnd m i+1-i)).find? λk=>(ow.getD (i+k) (some 0)).isNone with
  | some k=>
   rw[e]at h
   cases h
   obtain⟨e1,e2,e3⟩:=List.find?_range_eq_some.mp e;have e2:=qD.mp e2;have hl:i+k<ow.size:=by omega
   refine⟨?_,λoc a b=>?_⟩
   ·rw[qU,qf hl]at e1
    rw[qf hl]
    cases eo:ow[i+k]with
    | none=>rfl
    | some z=>rw[eo]at e1;cases e1
   ·exact ZkB (e:=runEnd m i-i) k 0 (by omega) (by omega) (λc _ hc=>a _ (get c (by omega) (by simpa using e3 c hc))) b
  | none=>
   rw[e]at h;obtain⟨h1,h2⟩:=Zd4 hs f _ _ j (qaS (qbk _ (qbL m))) h;refine⟨h1,λoc a b=>ZhD (h2 oc a b) _ _ λc hc=>a _ (get c hc ?_)⟩;have:=List.find?_eq_none.mp e c (qD.mpr (by omega));exact qb9.mpr this
theorem Zd5 {m:Nat}{ow:Array (Option Nat)}(hs:ow.size=m+1):∀(f i q c:Nat),i<=m->c<f->ow[(YJ m c (i,q)).1]?=some none->∃j,zL m ow f i q=some j
 | 0,i,q,c,_,h,_=>by omega
 | f+1,i,q,c,hi,hc,h=>by
  unfold zL;have hm:=ZeM hi
  cases e:(qk (runEnd m i+1-i)).find? λk=>(ow.getD (i+k) (some 0)).isNone with
  | some k=>exact⟨_,rfl⟩
  | none=>
   cases c with
   | zero=>
    have:=List.find?_eq_none.mp e 0 (qD.mpr (by omega));have h:ow[i]?=some none:=h;rw[qci,qU,h]at this;simp at this
   | succ c=>exact Zd5 hs f _ _ c (qaS (qbk _ (qbL m))) (by omega) h
structure Ow (m:Nat)(hs:List Int)(ow:Array (Option Nat)):Prop where
 sz:ow.size=m+1
 lt:∀j k:Nat,ow[j]?=some (some k)->k<hs.length/\Fd m (BF ow) j (Sh m (hs.getD k 0))
 ex:∀k<hs.length,∃j:Nat,ow[j]?=some (some k)
 un:∀j j' k:Nat,ow[j]?=some (some k)->ow[j']?=some (some k)->j=j'
theorem ZbY:∀{a b:List Nat},a.Nodup->(∀x∈a,x∈b)->a.length<=b.length
 | [],_,_,_=>by simp
 | x::a,b,nd,h=>by
  have nd':=zU.mp nd;have hx:=h x (by simp);have ih:=ZbY (a:=a) (b:=b.erase x) nd'.2 λy hy=>(qcW (λ(z:y=x)=>nd'.1 (by rw[<-z];exact hy))).mpr (h y (by simp[hy]));have:=qcl hx;have:0<b.length:=qcF hx;simp only[qL];omega
theorem ZkC (l:List Nat)(n:Nat)(nd:l.Nodup)(h:∀x∈l,x<n):l.length<=n:=by
 have:=ZbY nd λx hx=>qD.mpr (h x hx)
 rwa[qT]at this
theorem Ow.free {m:Nat}{hs:List Int}{ow:Array (Option Nat)}(o:Ow m hs ow)(h:hs.length<=m):∃j≤m,ow[j]?=some none:=by
 refine qaw λno=>?_;have all:∀j≤m,∃k,ow[j]?=some (some k):=λj hj=>by
  have hl:j<ow.size:=by rw[o.sz];omega
  cases e:ow[j]with
  | none=>exact absurd ⟨j,hj,by rw[qf hl,e]⟩ no
  | some k=>exact⟨k,by rw[qf hl,e]⟩
 let f:Nat->Nat:=λj=>((ow[j]?).getD none).getD 0
 have hf:∀j≤m,ow[j]?=some (some (f j)):=λj hj=>by
  obtain⟨k,e⟩:=all j hj;show ow[j]?=some (some (((ow[j]?).getD none).getD 0));rw[e];rfl
 have:=ZkC ((qk (m+1)).map f) hs.length (by
  refine zp.mpr (zN.imp_of_mem λ{a b} ha hb ne e=>ne ?_);have ha:=qD.mp ha;have hb:=qD.mp hb;exact o.un a b (f a) (hf a (by omega)) (by rw[e];exact hf b (by omega))) λx hx=>by
  obtain⟨j,hj,rfl⟩:=qu.mp hx;have hj:=qD.mp hj;exact(o.lt j _ (hf j (by omega))).1
 rw[qd,qT]at this;omega
theorem Ow.step {m:Nat}(hm:W9 m){hs:List Int}{ow:Array (Option Nat)}(o:Ow m hs ow)(h:hs.length<=m)(x:Int):∃j,zL m ow (yL m) (bits x % (m+1)) (bits x)=some j/\Ow m (hs ++ [x]) (ow.setIfInBounds j (some hs.length)):=by
 obtain⟨z,hz,ez⟩:=o.free h;obtain⟨c,hc,ec⟩:=way hm (Bx m x) (ZhB x) hz;obtain⟨j,hj⟩:=Zd5 o.sz (yL m) _ _ c (Bx m x) (by unfold yL;omega) (by rw[ec];exact ez);obtain⟨f1,f2⟩:=Zd4 o.sz _ _ _ j (Bx m x) hj;have hjl:j<ow.size:=(zJ.mp f1).1;refine⟨j,hj,?_⟩;have at_j:(ow.setIfInBounds j (some hs.length))[j]?=some (some hs.length):=by rw[qbT,if_pos rfl,if_pos hjl]
 have at_ne:∀i,i≠j->(ow.setIfInBounds j (some hs.length))[i]?=ow[i]?:=λi hi=>by rw[qbT,if_neg (λz=>hi z.symm)]
 have oc:∀i,BF ow i->BF (ow.setIfInBounds j (some hs.length)) i:=λi ⟨k,e⟩=>by
  by_cases z:i=j
  ·exact⟨hs.length,by rw[z];exact at_j⟩
  ·exact⟨k,by rw[at_ne i z];exact e⟩
 have two:∀i k,(ow.setIfInBounds j (some hs.length))[i]?=some (some k)->(i=j/\k=hs.length)∨(i≠j/\ow[i]?=some (some k)):=λi k e=>by
  by_cases z:i=j
  ·rw[z,at_j]at e
   injection e with e;injection e with e;exact .inl ⟨z,e.symm⟩
  ·rw[at_ne i z]at e
   exact .inr ⟨z,e⟩
 refine⟨by rw[Array.size_setIfInBounds];exact o.sz,λi k e=>?_,λk hk=>?_,λi i' k e e'=>?_⟩
 ·rcases two i k e with⟨rfl,rfl⟩ | ⟨_,e⟩
  ·refine⟨by simp,?_⟩
   rw[show(hs ++ [x]).getD hs.length 0=x by simp];exact f2 _ oc ⟨_,at_j⟩
  ·obtain⟨k1,k2⟩:=o.lt i k e
   refine⟨by simp;omega,?_⟩;rw[show(hs ++ [x]).getD k 0=hs.getD k 0 by rw[qP,zD k1,<-qP]];exact k2.mono oc
 ·by_cases z:k=hs.length
  ·exact⟨j,by rw[z];exact at_j⟩
  ·obtain⟨i,e⟩:=o.ex k (by simp at hk;omega)
   exact⟨i,by rw[at_ne i λz=>by rw[z,f1]at e;cases e];exact e⟩
 ·rcases two i k e with⟨rfl,rfl⟩ | ⟨_,f⟩
  ·rcases two i' _ e' with⟨rfl,_⟩ | ⟨_,f'⟩
   ·rfl
   ·have:=(o.lt _ _ f').1;omega
  ·rcases two i' k e' with⟨rfl,rfl⟩ | ⟨_,f'⟩
   ·have:=(o.lt _ _ f).1;omega
   ·exact o.un _ _ _ f f'
theorem Ow.start (m:Nat):Ow m [] (Array.replicate (m+1) none):=by
 have no:∀j k,(Array.replicate (m+1) (none:Option Nat))[j]?≠some (some k):=λj k e=>by
  rw[Array.getElem?_replicate]at e;split at e <;> cases e
 exact⟨by simp,λj k e=>absurd e (no j k),λk hk=>by simp at hk,λj _ k e=>absurd e (no j k)⟩
theorem ZhE {m:Nat}(hm:W9 m):∀(rest hs:List Int) (ow:Array (Option Nat)),Ow m hs ow->hs.length+rest.length<=m+1->
  ∃ow',rest.foldl (λ(acc:Option (Array (Option Nat)×Nat)) h=>do
   let (owner,k)<-acc
   let j<-zL m owner (yL m) (bits h % (m+1)) (bits h)
   pure (owner.setIfInBounds j (some k),k+1)) (some (ow,hs.length))=some (ow',hs.length+rest.length)/\Ow m (hs++rest) ow'
 | [],hs,ow,o,_=>⟨ow,rfl,by rw[zj];exact o⟩
 | x::rest,hs,ow,o,hl=>by
  rw[qL]at hl;obtain⟨j,e,o'⟩:=o.step hm (by omega) x;obtain⟨ow',e2,o2⟩:=ZhE hm rest (hs ++ [x]) _ o' (by simp;omega);refine⟨ow',?_,by rw[List.append_cons];exact o2⟩;rw[qah];have:(do
   let (owner,k)<-some (ow,hs.length)
   let j<-zL m owner (yL m) (bits x % (m+1)) (bits x)
   pure (owner.setIfInBounds j (some k),k+1):Option (Array (Option Nat)×Nat))=some (ow.setIfInBounds j (some hs.length),(hs ++ [x]).length):=by
   show(do
    let j<-zL m ow (yL m) (bits x % (m+1)) (bits x)
    pure (ow.setIfInBounds j (some hs.length),hs.length+1):Option _)=_
   rw[e];simp
  rw[this,e2];simp[qa2,qdd 1]
theorem ZfU {m:Nat}(hm:W9 m)(hs:Array Int)(hl:hs.size<=m+1):∃ow,zK m hs=some ow/\Ow m hs.toList ow:=by
 obtain⟨ow,e,o⟩:=ZhE hm hs.toList [] _ (Ow.start m) (by simpa using hl);refine⟨ow,?_,by simpa using o⟩;unfold zK;rw[<-Array.foldl_toList];have e':=congrArg (Option.map (·.1)) e;exact e'
structure Tb (t:SetTable)(es:List (Int×Value)):Prop where
 ms:W9 t.mask
 du:t.dummies = #[]
 ri:X1 t.place
 le:∀j∈t.place.toList,j<=t.mask
 sz:t.place.toList.length=es.length
 fd:∀q∈es.zip t.place.toList,Fd t.mask (XA t) q.2 (Sh t.mask q.1.1)
theorem ZkD {m:Nat}{ow:Array (Option Nat)}{j k:Nat}(hs:ow.size=m+1):(j,k)∈((qk (m+1)).filterMap λj=>(ow.getD j none).map (j,·))↔ow[j]?=some (some k):=by
 rw[qaH];constructor
 ·rintro⟨i,_,e⟩
  obtain⟨z,e1,e2⟩:=yn.mp e
  cases e2
  rw[qU]at e1
  cases eo:ow[j]? with
  | none=>rw[eo]at e1;cases e1
  | some y=>rw[eo]at e1;exact congrArg some e1
 ·intro e
  have hl:=(zJ.mp e).1;refine⟨j,qD.mpr (by omega),?_⟩;rw[qU,e];rfl
theorem ZgS {l:List Nat}{n:Nat}(nd:l.Nodup)(h:∀x,x∈l↔x<n):l.Perm (qk n):=(zT nd zN).mpr λx=>by rw[h,qD]
theorem ZaP {α β:Type}{f:α->Option β}{g:α->β}:∀{l:List α},(∀q∈l,f q=some (g q))->l.filterMap f=l.map g
 | [],_=>rfl
 | a::l,h=>by
  rw[yF,h a zG,zc];exact congrArg _ (ZaP λq hq=>h q (qQ _ hq))
theorem Zl3 {m f v:Nat}{l p:Bool}(hm:W9 m)(es:Array (Int×Value))(hl:es.size<=m+1) :
  ∃t order,qbz m f v l p (es.map (·.1))=some (t,order)/\((order.filterMap (es[·]?)).toList).Perm es.toList/\Tb t (order.filterMap (es[·]?)).toList/\t.led=l/\t.mask=m/\t.moves=v:=by
 obtain⟨ow,e,o⟩:=ZfU hm (es.map (·.1)) (by simpa using hl);have jO:(es.map (·.1)).toList.length=es.size:=by simp
 have lm:∀j k,(j,k)∈((qk (m+1)).filterMap λj=>(ow.getD j none).map (j,·))↔ow[j]?=some (some k):=λj k=>ZkD o.sz;have ea:qbz m f v l p (es.map (·.1))=some ({ mask:=m,place:=(((qk (m+1)).filterMap λj=>(ow.getD j none).map (j,·)).map (·.1)).toArray,dummies:=#[],finger:=f,led:=l,moves:=v,plain:=p },(((qk (m+1)).filterMap λj=>(ow.getD j none).map (j,·)).map (·.2)).toArray):=by
  unfold qbz;rw[e];rfl
 have ri:=(ZiG ea).2;refine⟨_,_,ea,?_,?_,rfl,rfl,rfl⟩
 all_goals (generalize hL:((qk (m+1)).filterMap λj=>(ow.getD j none).map (j,·))=L at lm ri⊢)
 all_goals
  have nd1:(L.map (·.1)).Nodup:=(show(L.map (·.1)).toArray.toList.Pairwise (· < ·)from ri).imp λh=>qV h;have nd2:(L.map (·.2)).Nodup:=by
   refine zp.mpr ((zp.mp nd1).imp_of_mem λ{a b} ha hb ne e=>ne ?_);exact o.un a.1 b.1 a.2 ((lm _ _).mp ha) (by rw[e];exact(lm _ _).mp hb)
  have pm:(L.map (·.2)).Perm (qk es.size):=ZgS nd2 λx=>by
   constructor
   ·intro hx
    obtain⟨q,hq,rfl⟩:=qu.mp hx;have:=(o.lt q.1 q.2 ((lm _ _).mp hq)).1;omega
   ·intro hx
    obtain⟨j,hj⟩:=o.ex x (by omega);exact qu.mpr ⟨(j,x),(lm _ _).mpr hj,rfl⟩
  have ef:((L.map (·.2)).toArray.filterMap (es[·]?)).toList=L.map λq=>es.toList.getD q.2 (0,.none):=by
   rw[Array.toList_filterMap,yG,List.filterMap_map];have:∀q∈L,((λx=>es[x]?)∘λq:Nat×Nat=>q.2) q=some (es.toList.getD q.2 (0,.none)):=λq hq=>by
    have hlt:q.2<es.size:=by
     have:=(o.lt q.1 q.2 ((lm _ _).mp hq)).1;omega
    show es[q.2]?=_;rw[qP,qA,qf hlt];rfl
   exact ZaP this
 ·rw[ef]
  have:=pm.map λi=>es.toList.getD i (0,.none);rw[qN]at this;refine this.trans ?_;rw[show es.size=es.toList.length by simp,TS.range_getD]
 ·refine⟨hm,rfl,ri,λj hj=>?_,by rw[ef];simp,λq hq=>?_⟩
  ·obtain⟨q,hq,rfl⟩:=qu.mp (show j∈L.map (·.1)from hj)
   have:=(zJ.mp ((lm _ _).mp hq)).1;rw[o.sz]at this;show q.1<=m;omega
  ·rw[ef]at hq
   rw[show(L.map (·.1)).toArray.toList=L.map (·.1)from rfl,List.zip_map']at hq;obtain⟨z,hz,rfl⟩:=qu.mp hq;have h2:=(o.lt z.1 z.2 ((lm _ _).mp hz)).2;have hlt:z.2<es.size:=by
    have:=(o.lt z.1 z.2 ((lm _ _).mp hz)).1;omega
   have eh:(es.map (·.1)).toList.getD z.2 0=(es.toList.getD z.2 (0,.none)).1:=by
    rw[qP,qP,qA,qA,Array.getElem?_map,qf hlt];rfl
   rw[eh]at h2;exact h2.mono λj ⟨k,hk⟩=>by
    show j∈L.map (·.1);exact qu.mpr ⟨(j,k),(lm _ _).mpr hk,rfl⟩
theorem Zl4 {α β:Type}{a a':List α}{b b':List β}{x:α}{y:β}(h:a.length=b.length):(a++x::a').zip (b++y::b')=a.zip b++(x,y)::a'.zip b':=by
 rw[List.zip_append h];rfl
theorem ZnM {t:SetTable}{es:Array (Int×Value)}(T:Tb t es.toList){j:Nat}{h:Int}{x:Value}(hj:j∉t.place.toList)(hm:j<=t.mask)(hf:∀oc:Nat->Prop,(∀j,XA t j->oc j)->oc j->Fd t.mask oc j (Sh t.mask h)) :
  Tb (t.put j).1 (qaR es (t.put j).2 (h,x)).toList/\(t.put j).1.mask=t.mask/\(t.put j).1.place.size=t.place.size+1/\(t.put j).1.dummies = #[]/\(t.put j).1.led=t.led:=by
 have hne:¬t.place[qE t.place j]?=some j:=λz=>hj (Zd3 z);have hb:=(JP T.ri j).2.2;have ed:(t.put j).1.dummies = #[]:=by
  show(if qdf t.dummies j then _ else t.dummies) = #[];rw[T.du,if_neg (by simp[qdf])]
 have ep:(t.put j).1.place.toList=t.place.toList.take (qE t.place j)++j::t.place.toList.drop (qE t.place j):=qaC _ _ _;have ee:(qaR es (t.put j).2 (h,x)).toList=es.toList.take (qE t.place j)++(h,x)::es.toList.drop (qE t.place j):=qaC _ _ _;have hs:t.place.toList.length=es.toList.length:=T.sz;have mem:∀y,y∈(t.put j).1.place.toList↔y=j∨y∈t.place.toList:=λy=>by
  rw[ep,qR,qq]
  conv=>rhs;rw[<-zk (qE t.place j) t.place.toList,qR]
  constructor
  ·rintro(a | a | a)
   ·exact .inr (.inl a)
   ·exact .inl a
   ·exact .inr (.inr a)
  ·rintro(a | a | a)
   ·exact .inr (.inl a)
   ·exact .inl a
   ·exact .inr (.inr a)
 have lp:(t.put j).1.place.toList.length=t.place.toList.length+1:=by
  rw[ep,qI,qL,qZ,zW];have:qE t.place j<=t.place.toList.length:=by simpa using hb
  omega
 refine⟨⟨T.ms,ed,ZfM T.ri hne,λy hy=>?_,?_,λq hq=>?_⟩,rfl,by simpa using lp,ed,rfl⟩
 ·rcases (mem y).mp hy with rfl | hy
  ·exact hm
  ·exact T.le y hy
 ·rw[lp,ee,qI,qL,qZ,zW]
  have:qE t.place j<=t.place.toList.length:=by simpa using hb
  omega
 ·rw[ep,ee,Zl4 (by rw[qZ,qZ,hs]),qR,qq]at hq
  have old:q∈es.toList.zip t.place.toList->Fd t.mask (XA (t.put j).1) q.2 (Sh t.mask q.1.1):=λh=>(T.fd q h).mono λy hy=>(mem y).mpr (.inr hy);have ez:es.toList.zip t.place.toList=(es.toList.take (qE t.place j)).zip (t.place.toList.take (qE t.place j))++(es.toList.drop (qE t.place j)).zip (t.place.toList.drop (qE t.place j)):=by
   rw[<-List.zip_append (by rw[qZ,qZ,hs]),zk,zk]
  rcases hq with a | rfl | a
  ·exact old (by rw[ez];exact yB _ a)
  ·exact hf _ (λy hy=>(mem y).mpr (.inr hy)) ((mem j).mpr (.inl rfl))
  ·exact old (by rw[ez];exact zf _ a)
section
variable {prog:xB}{w:World}{A:xC}{E:xD}{s:Shared}
variable (prog w) in
noncomputable abbrev TK (h:Heap)(ns:List Int)(a:Addr):Prop:=IsTupleKey (intKind prog w) h ns a
variable (prog w) in
noncomputable abbrev XD (ns:List Int):Int:=tupleKeyHash (intKind prog w) ns
theorem Zcr (n:Nat){v:Value}(h:carriedByValue v=true):ofAClassStatement n v=pure false:=by
 cases v with
 | ref a=>simp[carriedByValue]at h
 | _=>first | rfl | simp[ofAClassStatement] | (unfold ofAClassStatement;rfl)
theorem Zdc {ns:List Int}{a:Addr}{Q:Bool->Shared->Prop}(hk:TK prog w s.heap ns a)(h:Q false s):xf (xz prog w) A (ofAClassStatement 8 (.ref a)) Q E s:=by
 have hT:=hk.typeIs;obtain⟨o,items,n,ho,_,hd,hi⟩:=hk;unfold ofAClassStatement;refine xa (wpAny_typeOf hT ?_);dsimp only;rw[if_pos (by simp)];refine xa (xb ?_);simp only[qao,qX,if_false];refine xa (xt ho hd ?_);dsimp only;refine xa ?_;rw[<-Array.forIn_toList];refine wpAny_forIn_list _ (λrest r s'=>r.1=none/\s'=s/\∀v∈rest,carriedByValue v=true) _ ?_ ?_ _ _ ⟨rfl,rfl,hi.byValue⟩
 ·rintro v rest r s' ⟨hr,rfl,hall⟩
  rw[Zcr _ (hall v zG)];refine xa (xb ?_);simp only[qX,if_false];exact xb ⟨rfl,rfl,λu hu'=>hall u (qQ _ hu')⟩
 ·rintro⟨r1,r2⟩ s' ⟨hr,rfl,_⟩
  simp only at hr;subst hr;exact xb h
theorem ZgT {x:List Int}{vs:List Value}(hx:ItemsAre (intKind prog w) x vs):∀v∈vs,∃k t,v=.int k t:=by
 induction hx with
 | nil=>intro v hv;simp at hv
 | @cons k v' ks vs h1 _ ih=>
  intro v hv;rcases qq.mp hv with rfl | hv
  ·obtain⟨t,rfl⟩:=Value.isInt_shape (show qdg k v=true from h1)
   exact⟨_,_,rfl⟩
  ·exact ih v hv
theorem ZgU {ns:List Int}{a:Addr}{Q:Bool->Shared->Prop}(hk:TK prog w s.heap ns a)(h:Q true s):xf (xz prog w) A (hashByValue 8 (.ref a)) Q E s:=by
 have hT:=hk.typeIs;obtain⟨o,items,n,ho,_,hd,hi⟩:=hk;unfold hashByValue;refine xa (wpAny_specialOf hT F.slot_tuple_hash.lookup ?_);show xf _ _ (seqItems? (.ref a) >>= _) _ _ s;refine xa (xt ho hd ?_);refine xa ?_;show xf _ _ (forIn items _ _) _ _ s;rw[<-Array.forIn_toList];refine wpAny_forIn_list _ (λrest r s'=>r.1=none/\s'=s/\∀v∈rest,∃k t,v=.int k t) _ ?_ ?_ _ _ ⟨rfl,rfl,ZgT hi⟩
 ·rintro v rest r s' ⟨hr,rfl,hall⟩
  obtain⟨k,t,rfl⟩:=hall v zG;refine xa (wpAny_of_eq (show hashByValue 7 (.int k t)=pure true by unfold hashByValue;rfl) ?_);simp only[qao,qX,if_false];exact xb ⟨rfl,rfl,λu hu'=>hall u (qQ _ hu')⟩
 ·rintro⟨r1,r2⟩ s' ⟨hr,rfl,_⟩
  simp only at hr;subst hr;exact xb h
theorem Zl5 {ns:List Int}{a:Addr}{Q:Bool->Shared->Prop}(hk:TK prog w s.heap ns a){ys:List Value}(hy:∀y∈ys,∃ms b,y=.ref b/\TK prog w s.heap ms b)(h:Q false s):xf (xz prog w) A (searchCouldBeSeen (.ref a) ys) Q E s:=by
 unfold searchCouldBeSeen;refine xa ?_;refine wpAny_forIn_list _ (λrest r s'=>r.1=none/\s'=s/\∀y∈rest,∃ms b,y=.ref b/\TK prog w s.heap ms b) _ ?_ ?_ _ _ ⟨rfl,rfl,hy⟩
 ·rintro v rest r s' ⟨hr,rfl,hall⟩
  obtain⟨ms,b,rfl,hb⟩:=hall v zG;have fin:∀u∈rest,∃ms b,u=.ref b/\TK prog w s'.heap ms b:=λu hu=>hall u (qQ _ hu);dsimp only;by_cases c:(a==b||carriedByValue (.ref a)&&carriedByValue (.ref b))=true
  ·rw[if_pos c]
   exact xb ⟨rfl,rfl,fin⟩
  ·rw[if_neg c]
   refine xa (wpAny_eqIsQuiet_tuple hk ?_);simp only[qao,qX,if_false];refine xa (wpAny_eqIsQuiet_tuple hb ?_);simp only[qao,qX,if_false];refine xa (Zdc hk ?_);simp only[qX,if_false];refine xa (Zdc hb ?_);simp only[qX,if_false];exact xb ⟨rfl,rfl,fin⟩
 ·rintro⟨r1,r2⟩ s' ⟨hr,rfl,_⟩
  simp only at hr;subst hr;exact xb h
theorem Zl6 {m:Nat}(h:W9 m):(m % 2==0)=false:=by rcases h with rfl | rfl | rfl | rfl <;> rfl
theorem ZnN {α β:Type}{a:List α}{b:List β}{i:Nat}{x:α}{y:β}(h1:a[i]?=some x)(h2:b[i]?=some y):(x,y)∈a.zip b:=by
 refine zv (i:=i) ?_;rw[yq];exact⟨h1,h2⟩
theorem Zd6 {a ax:Addr}{ns:List Int}{o:Obj}{es:Array (Int×Value)}{ep:Nat}{t:SetTable}(hu:A.units<cLine)(g1:s.heap.get? a=some o)(g3:o.data=.set es ep t)(T:Tb t es.toList)(hf:t.fits es.size=true)
  (hE:∀e∈es.toList,∃ms b,e=(XD prog w ms,.ref b)/\TK prog w s.heap ms b) (hx:TK prog w s.heap ns ax) {Q:SetFound->Shared->Prop}
  (there:(∃e∈es.toList,∃b,e.2=.ref b/\TK prog w s.heap ns b)->Q (.there none) s)
  (free:(∀e∈es.toList,∀b,e.2=.ref b->¬TK prog w s.heap ns b)->∀j,j∉t.place.toList->j<=t.mask->(∀oc:Nat->Prop,(∀j,XA t j->oc j)->oc j->Fd t.mask oc j (Sh t.mask (XD prog w ns)))->Q (.free j false) s) :
  ∀(f n:Nat) (st:Option Probe) (p:Probe),st.getD (Sh t.mask (XD prog w ns))=p->Rc t.mask (XA t) n p->n<=f->n<=10*(t.mask+15)->p.dummy=none->Pb t.mask p->
   (∀q∈es.toList.zip t.place.toList,∀b,q.1.2=.ref b->TK prog w s.heap ns b->Fd t.mask (XA t) q.2 p)->
   (∀oc:Nat->Prop,(∀j,XA t j->oc j)->∀y,Fd t.mask oc y p->Fd t.mask oc y (Sh t.mask (XD prog w ns)))->
   xf (xz prog w) A (setSearchFrom a (.ref ax) (XD prog w ns) true f st) Q E s
 | 0,n,st,p,_,rc,hn,_,_,_,_,_=>by
  cases rc <;> omega
 | f+1,n,st,p,hst,rc,hn,hn2,hp,hb,hFd,hup=>by
  unfold setSearchFrom;refine xa (wpAny_setState_of g1 g3 hf ?_);dsimp only;have hgw:t.gaveWay=false:=Zl6 T.ms;rw[hgw];simp only[qX,↓reduceIte];rw[Zkw,hst];generalize hM:SetTable.probe t _ (XD prog w ns) p=M;have hM':qbu t (λi=>(es[i]?.map (·.1)).getD 0) (XD prog w ns) (10*yL t.mask) p=M:=hM;have esz:t.place.size=es.size:=by simpa using T.sz
  have at':∀(i x:Nat),t.place[i]?=some x->∃(ms:List Int) (b:Addr),es[i]?=some (XD prog w ms,qY b)/\TK prog w s.heap ms b/\(es[i]?.map (·.1)).getD 0=XD prog w ms:=λi x hi=>by
   have hl:=(zJ.mp hi).1;have e1:es[i]?=some es[i]:=qf (by omega);obtain⟨ms,b,e,hb⟩:=hE es[i] (by simp);exact⟨ms,b,by rw[e1,e],hb,by rw[e1,e];rfl⟩
  rcases ZhC (g:=λi=>(es[i]?.map (·.1)).getD 0) (h:=XD prog w ns) T.du T.ri (10*yL t.mask) n p rc (by unfold yL;omega) hp hb with⟨j,z1,z2,z3,z4,z5⟩ | ⟨j,i,q,n',z1,z2,z3,z4,z5,z6,z7,z8,z9,z10⟩
  ·rw[z1]at hM'
   subst hM';dsimp only;refine xb (free (λe he b eb hk=>?_) j z2 z3 λoc a b=>hup oc a j (z5 oc a b));obtain⟨i,hi⟩:=zI.mp he;have hl:i<es.size:=by simpa using(qw.mp hi).1
   have hx:t.place[i]?=some t.place[i]:=qf (by omega);obtain⟨ms,b',e1,hk',e2⟩:=at' i _ hx;rw[qA,e1]at hi
   cases hi
   cases eb
   have:=hk.inj hk';subst this;exact z4 i _ hx (hFd _ (ZnN (i:=i) (by rw[qA];exact e1) (by rw[qA];exact hx)) _ rfl hk) e2
  ·rw[z1]at hM'
   subst hM';obtain⟨ms,b,e1,hk,e2⟩:=at' i j z3;have hseen:∀y∈((es.filter (·.1==XD prog w ns)).toList.map (·.2)),∃ms b,y=.ref b/\TK prog w s.heap ms b:=λy hy=>by
    obtain⟨e,he,rfl⟩:=qu.mp hy;have:=(Array.mem_filter.mp (zd.mp he)).1;obtain⟨ms,b,ee,hb⟩:=hE e (zd.mpr this);exact⟨ms,b,by rw[ee],hb⟩
   dsimp only
   cases hl:t.led
   all_goals simp only[qao,Bool.not_false,qX,if_false,if_true]
   all_goals try
    refine xa (Zl5 hx hseen ?_);simp only[qX,if_false]
   all_goals
    rw[e1];dsimp only;refine xa (xu (wpAny_eqBool_tuple hu hk hx ?_));refine xa (wpAny_setState_of g1 g3 hf ?_);dsimp only;by_cases eq:ms=ns
    ·subst eq
     rw[if_pos (by simp)];exact xb (there ⟨_,zv (i:=i) (by rw[qA];exact e1),b,rfl,hk⟩)
    ·rw[if_neg (by simp[eq])]
     have hsm:t.sameMemory t.moves t.mask=some true:=by unfold SetTable.sameMemory;rw[if_pos (by simp)]
     rw[hsm];dsimp only;rw[if_pos rfl,z2];dsimp only;rw[e1];dsimp only;refine xa (wpAny_isSame_ref_self ?_);refine xa (xb ?_);rw[if_pos rfl];dsimp only;rw[if_neg (by simp[eq])];refine Zd6 hu g1 g3 T hf hE hx there free f n' (some q) q rfl z5 (by omega) (by omega) z7 z8 (λr hr b' eb hk'=>?_) λoc a y fd=>hup oc a y (z10 oc a y fd);obtain⟨i',hi'⟩:=zI.mp hr;rw[yq]at hi';obtain⟨p1,p2⟩:=hi';rw[qA]at p1 p2;obtain⟨ms',b2,f1,hk2,f2⟩:=at' i' _ p2;rw[f1]at p1;have p1:=(zw p1).symm;rw[p1]at eb
     cases eb
     have:=hk'.inj hk2;subst this;rcases z9 i' _ p2 (hFd r hr _ (by rw[p1]) hk')with z | z | z
     ·exact absurd f2 z
     ·subst z
      rw[e1]at f1;injection f1 with f1;injection f1 with _ f1;injection f1 with f1;subst f1;exact absurd (hk.inj hk') eq
     ·exact z
end
section
variable {prog:xB}{w:World}{A:xC}{E:xD}{s:Shared}
variable (prog w) in
noncomputable abbrev entT (x:List Int×Addr):Int×Value:=(XD prog w x.1,.ref x.2)
variable (prog w) in
noncomputable def SetT (h:Heap)(a:Addr)(ts:List (List Int×Addr)):Prop:=∃o es ep t,h.get? a=some o/\o.ExactSet/\o.data=.set es ep t/\Tb t es.toList/\Good w t/\t.place.size*5<t.mask*3/\es.toList.Perm (ts.map (entT prog w))/\(ts.map (·.1)).Nodup
noncomputable def stepT (ts:List (List Int×Addr))(x:List Int×Addr):List (List Int×Addr):=if x.1∈ts.map (·.1)then ts else ts ++ [x]
theorem Tb.fits {t:SetTable}{es:Array (Int×Value)}(T:Tb t es.toList)(h:t.place.size*5<t.mask*3):t.fits es.size=true:=by
 have:=T.sz;simp only[qB]at this;simp only[qc2,zl,beq_iff_eq,decide_eq_true_eq,SetTable.fill,T.du];refine⟨this,?_⟩;simp;omega
theorem Tb.empty {t:SetTable}{es:List (Int×Value)}(T:Tb t es)(h:t.place.size*5<t.mask*3):∃j≤t.mask,j∉t.place.toList:=by
 refine qaw λno=>?_;have:=ZbY (a:=qk (t.mask+1)) (b:=t.place.toList) zN λx hx=>qaw λhn=>no ⟨x,by have:=qD.mp hx;omega,hn⟩;rw[qT,qB]at this;omega
theorem ZhF {h:Heap}{a:Addr}{o:Obj}{es:Array (Int×Value)}{ep:Nat}{t:SetTable}(ho:h.get? a=some o)(hd:o.data=.set es ep t)(es':Array (Int×Value))(t':SetTable):(h.update a (qcc es' t')).get? a=some { o with data:=.set es' (ep+1) t' }:=by
 have:=ya (qcc es' t') ho (by rw[putSet_of es' t' hd];rfl);rw[putSet_of es' t' hd]at this;exact this
theorem Zow:yM 20=32:=by decide +kernel
theorem Zox:yM 76=128:=by decide +kernel
theorem ZnO:yM 308=512:=by decide +kernel
theorem Zoy {m n:Nat}(hm:W9 m)(h1:n*5<m*3)(h2:(n+1)*5≥m*3)(h3:n<306):W9 (yM (yN (n+1))-1)/\(n+1)*5<(yM (yN (n+1))-1)*3/\yM (yN (n+1))<=512:=by
 have hg:yN (n+1)=(n+1)*4:=by unfold yN;rw[if_neg (by omega)]
 rw[hg];rcases hm with rfl | rfl | rfl | rfl
 ·obtain rfl:n=4:=by omega
  rw[Zow];exact⟨.inr (.inl rfl),by decide,by decide⟩
 ·obtain rfl:n=18:=by omega
  rw[Zox];exact⟨.inr (.inr (.inl rfl)),by decide,by decide⟩
 ·obtain rfl:n=76:=by omega
  rw[ZnO];exact⟨.inr (.inr (.inr rfl)),by decide,by decide⟩
 ·omega
theorem ZkE {a:Addr}{o:Obj}{es:Array (Int×Value)}{ep:Nat}{t:SetTable}{n:Nat}{Q:Unit->Shared->Prop}(g1:s.heap.get? a=some o)(g3:o.data=.set es ep t)(T:Tb t es.toList)(hn:es.size=n+1)(h1:n*5<t.mask*3)(h2:(n+1)*5≥t.mask*3)(h3:n<306)(hfits:t.fits es.size=true)
  (c:∀es' t',Tb t' es'.toList->es'.toList.Perm es.toList->t'.led=t.led->t'.place.size*5<t'.mask*3->Q () { s with heap:=s.heap.update a (qcc es' t') }):xf (xz prog w) A (setRelay a (yN (n+1))) Q E s:=by
 obtain⟨k1,k2,k3⟩:=Zoy T.ms h1 h2 h3;unfold setRelay;refine xa (wpAny_setState_of g1 g3 hfits ?_);dsimp only;rw[if_neg (by rw[sizeLine_eq];omega)];obtain⟨t',ord,e,pm,T',hl,hm,hv⟩:=Zl3 (f:=t.finger) (v:=t.movedTo (yM (yN (n+1))-1)) (l:=t.led) (p:=t.plain) k1 es (by omega);have e':t.relaid (es.map (·.1)) (yN (n+1))=some (t',ord):=e;have sz:(ord.filterMap (es[·]?)).size=es.size:=by rw[<-qB,pm.length_eq,qB]
 rw[e'];refine xa (wpAny_of_eq (a:=(ord.filterMap (es[·]?),t')) ?_ ?_)
 ·show(do
   if ((ord.filterMap (es[·]?)).size != es.size)=true then unsupported "internal:set-table-lost-an-element"
   pure (ord.filterMap (es[·]?),t'):Sem _)=_
  rw[sz];simp
 ·refine wpAny_storeSet_of g1 g3 (c _ t' T' pm hl ?_) (by rw[sz,sizeLine_eq];omega)
  have:=T'.sz;rw[qB,qB,sz]at this;rw[this,hm,hn];exact k2
theorem Zoz {a ax:Addr}{ns:List Int}{ts:List (List Int×Addr)}{Q:Bool->Shared->Prop}(hu:A.units<cLine)(hS:SetT prog w s.heap a ts)(hts:∀x∈ts,TK prog w s.heap x.1 x.2)(hx:TK prog w s.heap ns ax)(hroom:ts.length<306)
  (c:∀b h',yi a s.heap h'->SetT prog w h' a (stepT ts (ns,ax))->Q b { s with heap:=h' }):xf (xz prog w) A (setAddHashed a (.ref ax) (XD prog w ns)) Q E s:=by
 obtain⟨o,es,ep,t,g1,g2,g3,T,hg,hfull,pm,nd⟩:=hS;have hf:=T.fits hfull;have esz:es.size=ts.length:=by rw[<-qB,pm.length_eq,qd]
 have psz:t.place.size=es.size:=by simpa using T.sz
 have hE:∀e∈es.toList,∃ms b,e=(XD prog w ms,.ref b)/\TK prog w s.heap ms b:=λe he=>by
  obtain⟨x,hx,rfl⟩:=qu.mp (pm.mem_iff.mp he);exact⟨x.1,x.2,rfl,hts x hx⟩
 unfold setAddHashed setAddHashedIn;refine xu (xa (wpAny_setState_of g1 g3 hf ?_));dsimp only;have hbs:byScan (.ref ax) es=false:=by unfold byScan;simp[Value.scannable]
 rw[hbs];simp only[qX,↓reduceIte];unfold setSearch;obtain⟨j0,hj0,hjn⟩:=T.empty hfull;have hm5:t.mask<=511:=by rcases T.ms with e | e | e | e <;> omega
 refine xa (Zd6 hu g1 g3 T hf hE hx (λhyes=>?_) (λhno j hj hjm hfd=>?_) 100000 (10*(t.mask+15)) none (Sh t.mask (XD prog w ns)) rfl (Zkz T.ms _ hj0 hjn) (by omega) (qp _) rfl (ZmI _ (Bx _ _)) (λq hq b eb hk=>?_) λ_ _ _ h=>h)
 ·obtain⟨e,he,b,eb,hk⟩:=hyes
  dsimp only;obtain⟨x,hx',rfl⟩:=qu.mp (pm.mem_iff.mp he)
  cases eb
  have:=hk.inj (hts x hx');have hin:ns∈ts.map (·.1):=qu.mpr ⟨x,hx',this.symm⟩;refine xb ?_;have fin:=c false s.heap (yi.refl a s.heap) (by unfold stepT;rw[if_pos hin];exact⟨o,es,ep,t,g1,g2,g3,T,hg,hfull,pm,nd⟩);have e:s = { s with heap:=s.heap }:=by cases s;rfl
  rw[e];exact fin
 ·have hin:ns∉ts.map (·.1):=λz=>by
   obtain⟨x,hx',e⟩:=qu.mp z;exact hno (entT prog w x) (pm.mem_iff.mpr (qu.mpr ⟨x,hx',rfl⟩)) x.2 rfl (by rw[<-e];exact hts x hx')
  obtain⟨T1,m1,s1,d1,l1⟩:=ZnM (h:=XD prog w ns) (x:=.ref ax) T hj hjm hfd;dsimp only;refine xa (wpAny_setState_of g1 g3 hf ?_);dsimp only;have ee:(qaR es (t.put j).2 (XD prog w ns,qY ax)).toList.Perm ((stepT ts (ns,ax)).map (entT prog w)):=by
   unfold stepT;rw[if_neg hin,qaC,zE];refine List.perm_middle.trans ?_;rw[zk];refine(qaL.cons _ pm).trans ?_;exact(List.perm_append_singleton _ _).symm
  have nd':((stepT ts (ns,ax)).map (·.1)).Nodup:=by
   unfold stepT;rw[if_neg hin,zE];refine qaP.mpr ⟨nd,by simp,λx hx y hy e=>hin ?_⟩;simp at hy;rw[<-hy,<-e];exact hx
  have hg1:Good w (t.put j).1:=⟨by rw[l1];exact hg.1,T1.ri⟩;generalize hE1:qaR es (t.put j).2 (XD prog w ns,qY ax)=es1 at T1 ee⊢;generalize hT1:(t.put j).1=t1 at T1 m1 s1 d1 l1 hg1⊢;have z1:es1.size=ts.length+1:=by
   have:=T1.sz;rw[qB,qB]at this;omega
  have tail:xf (xz prog w) A (do
    storeSet a es1 t1
    if (!false&&t1.tooFull)=true then setRelay a (yN (es.size+1))
    pure true) Q E s:=by
   refine xa (wpAny_storeSet_of g1 g3 ?_ (by rw[z1,sizeLine_eq];omega));have q1:=ZhF g1 g3 es1 t1;have sb:=qaE s.heap a (qcc es1 t1);have hfl:t1.fill=t1.place.size:=by unfold SetTable.fill;rw[d1];rfl
   by_cases full:t1.tooFull=true
   ·rw[if_pos (by simp[full])]
    unfold SetTable.tooFull at full;rw[hfl]at full;have full:=of_decide_eq_true full;have hf1:t1.fits es1.size=true:=by
     have:=T1.sz;rw[qB,qB]at this;simp only[qc2,zl,beq_iff_eq,decide_eq_true_eq,hfl];refine⟨this,?_⟩;rcases T.ms with e | e | e | e <;> omega
    refine xa (ZkE (n:=es.size) (s:={ s with heap:=s.heap.update a (qcc es1 t1) }) q1 rfl T1 (by omega) (by rw[m1];omega) (by omega) (by omega) hf1 λes2 t2 T2 p2 l2 f2=>?_);refine xb (c true _ (sb.trans (qaE _ a _)) ⟨_,es2,ep+2,t2,ZhF q1 rfl es2 t2,g2,rfl,T2,⟨by rw[l2];exact hg1.1,T2.ri⟩,f2,p2.trans ee,nd'⟩)
   ·rw[if_neg (by simp[full])]
    unfold SetTable.tooFull at full;rw[hfl]at full;have full:¬(t1.place.size*5≥t1.mask*3):=λz=>full (decide_eq_true z);exact xb (c true _ sb ⟨_,es1,ep+1,t1,q1,g2,rfl,T1,hg1,by omega,ee,nd'⟩)
  split
  ·refine xa (ZgU hx ?_)
   simp only[↓reduceIte];exact tail
  ·refine xa (xb ?_)
   simp only[↓reduceIte];exact tail
 ·have ⟨i,hi⟩:=zI.mp hq
  obtain⟨ms,b',ee,hk'⟩:=hE q.1 (qaI hq).1;rw[ee]at eb
  cases eb
  have:=hk.inj hk';subst this;have:=T.fd q hq;rw[ee]at this;exact this
end
end HT
namespace HT
section
variable {prog:xB}{w:World}{A:xC}{E:xD}{s:Shared}
noncomputable def firstT (ks:List (List Int×Addr))(i:Nat):List (List Int×Addr):=(ks.take i).foldl stepT []
theorem ZfV {ks:List (List Int×Addr)}{i:Nat}{x:List Int×Addr}(h:ks[i]?=some x):firstT ks (i+1)=stepT (firstT ks i) x:=by
 unfold firstT;rw[List.take_add_one,h];simp[qca]
theorem ZiP (ts:List (List Int×Addr))(x:List Int×Addr):(∀y∈stepT ts x,y∈ts∨y=x)/\(stepT ts x).length<=ts.length+1/\∀k,k∈(stepT ts x).map (·.1)↔k∈ts.map (·.1)∨k=x.1:=by
 unfold stepT;split
 ·rename_i h
  refine⟨λy hy=>.inl hy,by omega,λk=>⟨.inl,λz=>?_⟩⟩;rcases z with z | rfl
  ·exact z
  ·exact h
 ·refine⟨λy hy=>by simpa using hy,by simp,λk=>?_⟩
  simp[eq_comm]
theorem foldT_sub:∀(ks ts:List (List Int×Addr)),(∀y∈ks.foldl stepT ts,y∈ts∨y∈ks)/\(ks.foldl stepT ts).length<=ts.length+ks.length/\∀k,k∈(ks.foldl stepT ts).map (·.1)↔k∈ts.map (·.1)∨k∈ks.map (·.1)
 | [],ts=>⟨λy hy=>.inl hy,by simp,λk=>by simp⟩
 | x::ks,ts=>by
  obtain⟨a1,a2,a3⟩:=foldT_sub ks (stepT ts x);obtain⟨b1,b2,b3⟩:=ZiP ts x;refine⟨λy hy=>?_,by rw[qah,qL];omega,λk=>?_⟩
  ·rcases a1 y hy with z | z
   ·rcases b1 y z with z | z
    ·exact .inl z
    ·exact .inr (by simp[z])
   ·exact .inr (by simp[z])
  ·rw[qah,a3 k,b3 k,zc,qq,or_assoc]
theorem firstT_sub (ks:List (List Int×Addr))(i:Nat):(∀y∈firstT ks i,y∈ks)/\(firstT ks i).length<=i:=by
 obtain⟨a,b,_⟩:=foldT_sub (ks.take i) [];refine⟨λy hy=>?_,?_⟩
 ·rcases a y hy with z | z
  ·simp at z
  ·exact qav z
 ·have:(ks.take i).length<=i:=by rw[qZ];omega
  unfold firstT;simp only[qaJ]at b;omega
theorem TK.keep {h h':Heap}{ns:List Int}{a:Addr}(k:TK prog w h ns a)(hk:∀o,h.get? a=some o->h'.get? a=some o):TK prog w h' ns a:=by
 obtain⟨o,items,n,ho,r⟩:=k;exact⟨o,items,n,hk o ho,r⟩
theorem SetT.keep {h h':Heap}{a:Addr}{ts:List (List Int×Addr)}(k:SetT prog w h a ts)(hk:∀o,h.get? a=some o->h'.get? a=some o):SetT prog w h' a ts:=by
 obtain⟨o,es,ep,t,ho,r⟩:=k;exact⟨o,es,ep,t,hk o ho,r⟩
theorem Zl7 {h:Heap}{a:Addr}{ks:List (List Int×Addr)}(hg:h.get? a=some (YY (!Yv w))):SetT prog w h a (firstT ks 0):=by
 refine⟨_,#[],0,_,hg,⟨rfl,rfl,rfl⟩,rfl,⟨.inl rfl,rfl,zY,λj hj=>?_,rfl,λq hq=>?_⟩,⟨?_,zY⟩,by show 0*5<7*3;decide,.refl _,zY⟩
 ·exact absurd (show j∈([]:List Nat)from hj) (by simp)
 ·exact absurd (show q∈([]:List ((Int×Value)×Nat))from hq) (by simp)
 ·show Yv w=true∨(!Yv w)=true
  cases Yv w <;> simp
theorem ZnP {R:Result->Shared->Prop}{I:Addr}{fp wr:List Addr}{G:Array GenState->Array GenState->Prop}{n:Nat}{P:Nat->Value->Prop}{St:Nat->Shared->Prop}
  (W:WalksS prog w A.in1 I fp wr G n P St) (Z:Addr) (hZ:Z∉fp) (ks:List (List Int×Addr)) (hv:∀i v,P i v->∃x,ks[i]?=some x/\v=.ref x.2) (hb:n<=306) (hu:A.in1.units<cLine) (hd:∀x∈ks,x.2≠Z/\x.2∉wr) :
  ∀(k i:Nat) (s:Shared),n-i=k->i<=n->St i s->SetT prog w s.heap Z (firstT ks i)->(∀x∈ks,TK prog w s.heap x.1 x.2)->
   (∀s',Moved (Z::wr) G s s'->SetT prog w s'.heap Z (firstT ks n)->R (.ok (.ret .none)) s')->
   xo (xz prog w) A (.builtin "set.update.loop" ⟨[.ref Z,.ref I],[]⟩) R s:=by
 have hZw:Z∉wr:=λh=>hZ (W.sub _ h);have sub:∀b∈wr,b∈Z::wr:=λb m=>qQ _ m;intro k
 induction k with
 | zero=>
  intro i s hk hi st hS hT hR;have e:i=n:=by omega
  subst e;refine xm qbg ?_;rw[yD qaf _];show xf _ A.in1 (pyNext (.ref I) >>= _) _ _ s;refine xa (W.done s _ _ st λs' hm=>?_);show xf _ A.in1 (ret zm) _ _ s';exact xb (hR s' (hm.mono sub) (hS.keep λo e=>hm.heap Z o hZw e))
 | succ k ih=>
  intro i s hk hi st hS hT hR;have hlt:i<n:=by omega
  refine xm qbg ?_;rw[yD qaf _];show xf _ A.in1 (pyNext (.ref I) >>= _) _ _ s;refine xa (W.item i s _ _ hlt st λv s' hP st' hm=>?_);obtain⟨x,hx,rfl⟩:=hv i v hP;have hxm:x∈ks:=zv hx;have hS':=hS.keep λo e=>hm.heap Z o hZw e;have hT':∀y∈ks,TK prog w s'.heap y.1 y.2:=λy hy=>TK.keep (hT y hy) λo e=>hm.heap y.2 o (hd y hy).2 e;obtain⟨f1,f2⟩:=firstT_sub ks i;show xf _ A.in1 (holding [qY x.2] (setAdd Z (.ref x.2)) >>= _) _ _ s';refine xa (xu ?_);unfold setAdd;refine xu (xa (wpAny_pyHash_tuple hu (hT' x hxm) ?_));refine Zoz (s:={ s' with toks:=s'.toks+(x.1.length+1) }) hu hS' (λy hy=>hT' y (f1 y hy)) (hT' x hxm) (by omega) λb h' sb z=>?_;have z':SetT prog w h' Z (firstT ks (i+1)):=by rw[ZfV hx];exact z
  refine xb ⟨plainId_quiet qaf _,ih (i+1) _ (by omega) hlt (W.frame _ s' _ _ st' (qcj _ _) λb m o e=>?_) z' (λy hy=>TK.keep (hT' y hy) λo e=>?_) λs'' hm'' hS''=>?_⟩
  ·rw[sb.2 b (λh:b=Z=>hZ (by rw[<-h];exact m))];exact e
  ·rw[sb.2 y.2 (hd y hy).1];exact e
  ·refine hR s'' (Moved.trans W.gtrans ((hm.mono sub).then_heap (qcj _ _) λb o m e=>?_) hm'') hS''
   rw[sb.2 b (λh:b=Z=>m (by rw[h];exact zG))];exact e
theorem setT_of_list {l:Addr}{items:Array Value}{ks:List (List Int×Addr)}{Q:xD}(hh:A.handled=none)(hl:s.heap.IsList l items)(hi:items.toList=ks.map λx=>.ref x.2)(hk:∀x∈ks,TK prog w s.heap x.1 x.2)(hb:items.size<=306)(hu:A.units+10<cLine)
  (h:∀(h':Heap) (tk:Nat),SetT prog w h' s.heap.objs.size (firstT ks items.size)->(∀b o,b<s.heap.objs.size->s.heap.get? b=some o->h'.get? b=some o)->Q (.ref s.heap.objs.size) { s with heap:=h',toks:=tk }) :
  xf (xz prog w) A (call (.type "set") [.ref l]) Q E s:=by
 obtain⟨c,tl,hmro⟩:=zq.mro;have hmade:=zq.made;have hsub:=zq.sub;refine xy (codeAny_of_tree ?_);show xf _ _ (callAny (.type "set") _) _ _ _;refine xb ⟨qbX _ (by decide +kernel),xm qcs ?_⟩;rw[xC.under_plain (weight_type_call_type "set" [.ref l] []) rfl];have h1:=zq.notType;have h2:=zq.canCreate;have hct:=qcB (.ref l)
 repeat (any_goals (first | assumption | wp_step))
 refine codeAny_mono (ZnE (.ref l) (E:=E) (Q₁:=λobj s₁=>obj=.ref s.heap.objs.size/\s₁ = { s with heap:=s.heap.push (YY (!Yv w)) }) ⟨rfl,rfl⟩) λr s₁ hr=>?_
 cases r with
 | error e=>exact hr
 | ok fl=>
  cases fl with
  | ret obj=>
   obtain⟨rfl,rfl⟩:=hr;have hS:(s.heap.push (YY (!Yv w))).get? s.heap.objs.size=some (YY (!Yv w)):=qC _ rfl;have hT:qb3 { s with heap:=s.heap.push (YY (!Yv w)) } (.ref s.heap.objs.size) "set":=⟨_,hS,rfl⟩;have hli:=zq.init.lookup;have hbi:=zq.init.bind (.ref s.heap.objs.size)
   repeat (any_goals (first | assumption | wp_step))
   refine codeAny_mono (codeAny_call_builtin (R:=wants (λr s₂=>r=.none/\∃h' tk,s₂ = { s with heap:=h',toks:=tk }/\SetT prog w h' s.heap.objs.size (firstT ks items.size)/\(∀b o,b<s.heap.objs.size->s.heap.get? b=some o->h'.get? b=some o)) E) zq.init.plain qcC (check_set_init_1 hT ?_)) λr₂ s₂ hr₂=>?_
   ·obtain⟨ol,hol,hcl,nl,hdl⟩:=hl;obtain⟨ocls,odict,odata,oslots⟩:=ol
    simp only at hcl hdl;subst hcl;subst hdl;have hol':(s.heap.push (YY (!Yv w))).get? l=some { cls:=.type "list",dict:=odict,data:=.seq items nl,slots:=oslots }:=qj _ hol;have z1:=PySem.F.sub_list_set;have z2:=PySem.F.sub_list_frozenset;have hne:(yp "list" == yp "dict")=false:=by decide
    have hl1:(s.heap.push (YY (!Yv w))).IsList l items:=⟨_,hol',rfl,nl,rfl⟩;unfold Builtin.«set.__init__» noKeywords qbS;generalize hPI:pyIter=PI
    wp_walk
    subst hPI;refine wpAny_pyIter_list hl1 ?_;refine xa (wpAny_runValue ?_);have hlS:l<s.heap.objs.size:=qK hol;have hh3:A.in1.in1.in1.handled=none:=by simp[hh]
    have hneI:l≠(s.heap.push (YY (!Yv w))).objs.size:=by rw[yb];exact qV (zQ hlS)
    have hSf:s.heap.objs.size∉[(s.heap.push (YY (!Yv w))).objs.size,l]:=by
     rw[yb];simp only[qq,qz,zX,or_false,not_or];exact⟨qV (yY _),qbG hlS⟩
    have hval:∀(i:Nat) (v:Value),items[i]?=some v->∃x,ks[i]?=some x/\v=.ref x.2:=λi v hv=>by
     rw[<-qA,hi,qH]at hv;obtain⟨x,e1,e2⟩:=yn.mp hv;exact⟨x,e1,e2.symm⟩
    have hdd:∀x∈ks,x.2≠s.heap.objs.size/\x.2∉[(s.heap.push (YY (!Yv w))).objs.size]:=λx hx=>by
     obtain⟨o,_,_,ho,_⟩:=hk x hx;have:=qK ho;rw[yb];simp only[qq,qz,zX,or_false];exact⟨qV this,qV (zQ this)⟩
    refine ZnP ((Walks.list hh3 _ l hneI items).toS) s.heap.objs.size hSf ks hval hb (by show A.units+1+1+1<cLine;omega) hdd (items.size-0) 0 _ (by omega) (zC _) ⟨⟨_,qC _ rfl,rfl,rfl⟩,(hl1.push _)⟩ ?hS0 (λx hx=>TK.keep (hk x hx) λo e=>qj _ (qj _ e)) ?hR
    case hS0=>
     have hget:((s.heap.push (YY (!Yv w))).push { cls:=.type "list_iterator",data:=.fields #[.ref l,.int 0 0] }).get? s.heap.objs.size=some (YY (!Yv w)):=qj _ hS;exact Zl7 hget
    case hR=>
     intro s' hm hS';obtain⟨h',g',d',tk',os'⟩:=s';have eg:g'=s.gens:=hm.gens;have ed:d'=s.drawn:=hm.drawn;have eo:os'=s.os:=hm.os;subst eg;subst ed;subst eo;show xf _ _ _ _ _ _;refine xb ?_;show xf _ _ (ret zm) _ _ _;refine xb ⟨rfl,h',tk',rfl,hS',λb o hb e=>?_⟩;have hb1:b≠s.heap.objs.size:=qV hb;have hb2:b≠(s.heap.push (YY (!Yv w))).objs.size:=by rw[yb];exact qV (zQ hb)
     exact hm.heap b o (by simp only[qq,qz,zX,or_false,not_or];exact⟨hb1,hb2⟩) (qj _ (qj _ e))
   ·cases r₂ with
    | error e=>exact hr₂
    | ok fl₂=>
     cases fl₂ with
     | ret r=>
      obtain⟨rfl,h',tk,rfl,hS',hk'⟩:=hr₂;repeat (any_goals (first | assumption | wp_step))
      exact h _ _ hS' hk'
     | next=>exact hr₂.elim
     | brk=>exact hr₂.elim
     | cont=>exact hr₂.elim
  | next=>exact hr.elim
  | brk=>exact hr.elim
  | cont=>exact hr.elim
end
open L2 TS
section
variable {prog:xB}{w:World}{A:xC}{E:xD}{s:Shared}
variable {a:Addr}{o:Obj}{es:Array (Int×Value)}{ep:Nat}{t:SetTable}
theorem ZfW:∀{vs:List Value} {ns:List Int},IntsAre vs ns->ItemsAre (intKind prog w) ns vs
 | _,_,.nil=>.nil
 | _,_,.cons n t h=>.cons (intKind_is _ _ _ _) (ZfW h)
theorem tk_of {h:Heap}{a:Addr}{ns:List Int}(x:Yo h (.ref a) ns):TK prog w h ns a:=by
 obtain⟨b,xs,e,⟨o,ho,hc,n,hd⟩,hi⟩:=x
 cases e
 exact⟨o,_,n,ho,hc,hd,by simpa using ZfW hi⟩
theorem sortedT {Q:xD}(hh:A.handled=none)(ho:s.heap.get? a=some o)(hex:o.ExactSet)(hd:o.data=.set es ep t)(hf:t.fits es.size=true)(hg:Good w t)(hz:es.size<=1000){jM:List (List Int)}(hi:Paired (Yo s.heap) (es.toList.map (·.2)) jM)(hne:2<=jM.length->∀ns∈jM,ns≠[])
  (k:∀(ix:List Nat) (L:Addr) (h':Heap) (tk:Nat) d (e:Nat),ix.Perm (qk es.size)->(ix.map λi=>jM.getD i [])=YG jM->(∀b u,s.heap.get? b=some u->h'.get? b=some u)->s.heap.objs.size<=L->h'.get? L=some (seqObj "list" (ix.map λi=>(es.toList.map (·.2)).getD i .none).toArray e)->Q (.ref L) { s with heap:=h',toks:=tk,drawn:=d }) :
  xf (xz prog w) A (call (.builtin "sorted") [.ref a]) Q E s:=by
 refine qa6 kind_sorted plain_sorted entry_sorted (args_sorted1 _) ?_;unfold Builtin.«sorted»;refine xa (m:=checkCount "sorted" 1 1 _) (xb ?_);refine xa (ZfQ hh ho hex hd hf hg hz λvs h1 tk d kp hs pm=>?_);obtain⟨ix,p1,p2⟩:=TT.perm_ix zm pm;have hel:(es.toList.map (·.2)).length=es.size:=by simp
 rw[hel]at p1;have hb:∀i∈ix,i<(es.toList.map (·.2)).length:=λi hi=>by rw[hel];exact qD.mp (p1.mem_iff.mp hi)
 have hl:vs.length=es.size:=by rw[pm.length_eq,hel]
 have hnl:jM.length=es.size:=by rw[<-qan hi,hel]
 have hpk:Paired (Yo s.heap) vs (ix.map λi=>jM.getD i []):=by
  have:=TS.Paired.pick zm [] hi ix hb;rw[<-p2]at this;exact this
 have hnp:(ix.map λi=>jM.getD i []).Perm jM:=by
  have:=p1.map λi=>jM.getD i [];rw[<-hnl,TS.range_getD]at this;exact this
 refine xa (xw ?_ (by rw[sizeLine_eq];omega));have g1:(h1.push (seqObj "list" vs.toArray 0)).get? h1.objs.size=some (seqObj "list" vs.toArray 0):=qC _ rfl;have ht:Paired (Yo (h1.push (seqObj "list" vs.toArray 0))) vs (ix.map λi=>jM.getD i []):=L2.Paired.mapP hpk λv ns ⟨a,xs,e,⟨o,ho,r⟩,i⟩=>⟨a,xs,e,⟨o,qj _ (kp a o ho),r⟩,i⟩;show xf _ _ _ _ _ { s with heap:=h1.push (seqObj "list" vs.toArray 0),toks:=tk,drawn:=d };refine xa (xu (wpAny_call_entry slot_list_sort ⟨_,g1,rfl⟩ entry_list_sort (TT.list_sort_T2 (s:={ s with heap:=h1.push (seqObj "list" vs.toArray 0),toks:=tk,drawn:=d }) g1 ht (by omega) (λz ns hm=>hne (by omega) ns (hnp.mem_iff.mp hm)) λp a1 a2=>⟨_,rfl,?_⟩) (args_list_sort _)));obtain⟨e,he⟩:=sortedHeap_at (out:=yT (p.toList.map λi=>vs.getD i zm)) g1;have hpl:∀i∈p.toList,i<ix.length:=λi hi=>by
  have:=qD.mp (a1.mem_iff.mp hi);rw[p2,qd]at this;exact this
 have comp:∀{α:Type} (l:List α) (d:α),(p.toList.map λi=>(ix.map λi=>l.getD i d).getD i d)=(p.toList.map λi=>ix.getD i 0).map λi=>l.getD i d:=λl d=>by
  rw[qN];refine zy λi hi=>?_;have:=hpl i hi;show(ix.map λi=>l.getD i d).getD i d=l.getD (ix.getD i 0) d;rw[qP,qH,qG this,qP (l:=ix),qG this];rfl
 refine xb ⟨_,rfl,k (p.toList.map λi=>ix.getD i 0) h1.objs.size _ tk d e ?_ ?_ (λb u q=>?_) (qcd hs) ?_⟩
 ·have:=a1.map λi=>ix.getD i 0
  rw[show vs.length=ix.length by rw[p2,qd],TS.range_getD]at this;exact this.trans p1
 ·rw[<-comp jM [],a2]
  exact ZaN hnp
 ·have q1:=kp b u q
  have l1:=qK q1;rw[sortedHeap_old (qV l1) (by rw[yb];exact zQ l1)];exact qj _ q1
 ·rw[<-comp (es.toList.map (·.2)) zm,<-p2]
  exact he
end
end HT
namespace TF
open L2 TS
section
variable {X:Cx}{G:Gh}
noncomputable def BG (w:World)(o:Obj)(vs:List V):Prop:=∃es ep t,o.data=.set es ep t/\o.ExactSet/\t.fits es.size=true/\HT.Good w t/\es.size<=306/\Zu vs (es.toList.map (·.2))
theorem ZhG {T:V->List Int->Prop}(hT:∀v ns,T v ns->∃a,v=.ref a):∀{vs:List V} {jM:List (List Int)},Paired T vs jM->∃ks:List (List Int×Addr),vs=ks.map (λx=>V.ref x.2)/\jM=ks.map (·.1)/\∀x∈ks,T (.ref x.2) x.1
 | _,_,.nil=>⟨[],rfl,rfl,by simp⟩
 | _,_,.cons r t=>by
  obtain⟨ks,rfl,rfl,h⟩:=ZhG hT t;obtain⟨a,rfl⟩:=hT _ _ r;exact⟨(_,a)::ks,rfl,rfl,λx hx=>by
   rcases qq.mp hx with rfl | hx
   ·exact r
   ·exact h x hx⟩
theorem Zd7:∀{ks:List (List Int×Addr)} {jK:List Value},Zu (ks.map λx=>V.ref x.2) jK->jK=ks.map λx=>.ref x.2
 | [],_,r=>by cases r;rfl
 | x::ks,_,r=>by
  cases r with
  | cons a b=>
   cases a
   rw[Zd7 b];rfl
theorem Zd8:∀(ks:List (List Int×Addr)),Zu (ks.map λx=>V.ref x.2) (ks.map λx=>.ref x.2)
 | []=>.nil
 | x::ks=>.cons rfl (Zd8 ks)
theorem Zd9 {T:V->List Int->Prop}:∀{ks:List (List Int×Addr)},(∀x∈ks,T (.ref x.2) x.1)->Paired T (ks.map λx=>V.ref x.2) (ks.map (·.1))
 | [],_=>.nil
 | x::ks,h=>.cons (h x (by simp)) (Zd9 λy hy=>h y (by simp[hy]))
theorem ZnQ {jI:Qb}{s:Shared}{σ:St}{H:Hp}{T:V->List Int->Prop}{Q:VK}(I:Inv X jI σ H s)(ks:List (List Int×Addr))(hTk:∀x∈ks,T (.ref x.2) x.1)(hl:ks.length<=306)
  (q:∀l o vs' nss',H l=none->BG X.w o vs'->Paired T vs' nss'->nss'.Nodup->(∀x,x∈nss'↔x∈ks.map (·.1))->Q (.ref l) (Zl H l (.frz o (.own 0)))) (n:Nat) (hn:n=ks.length) (h':Heap) (tk:Nat) (hS:HT.SetT X.prog X.w h' s.heap.objs.size (HT.firstT ks n)) (hk:∀b o,b<s.heap.objs.size->s.heap.get? b=some o->h'.get? b=some o):EP X jI σ Q (.ref s.heap.objs.size) { s with heap:=h',toks:=tk }:=by
 subst hn;obtain⟨o,es,ep,t,g1,g2,g3,Tb,hg,hfull,pm,nd⟩:=hS;obtain⟨ix,p1,p2⟩:=TT.perm_ix ((0:Int),zm) pm;obtain⟨f1,f2⟩:=HT.firstT_sub ks ks.length;have f3:=(HT.foldT_sub (ks.take ks.length) []).2.2;rw[yy]at f3;have e0:HT.firstT ks ks.length=ks.foldl HT.stepT []:=by unfold HT.firstT;rw[yy]
 obtain⟨ts,hts,et⟩:∃ts:List (List Int×Addr),ts.Perm (HT.firstT ks ks.length)/\es.toList=ts.map (HT.entT X.prog X.w):=by
  refine⟨ix.map λi=>(HT.firstT ks ks.length).getD i ([],0),?_,?_⟩
  ·rw[qd]at p1
   have:=p1.map λi=>(HT.firstT ks ks.length).getD i ([],0);rw[TS.range_getD]at this;exact this
  ·rw[p2,qN]
   refine zy λi hi=>?_;have:=qD.mp (p1.mem_iff.mp hi);rw[qd]at this;show((HT.firstT ks ks.length).map (HT.entT X.prog X.w)).getD i (0,zm)=HT.entT X.prog X.w ((HT.firstT ks ks.length).getD i ([],0));rw[qP,qH,qG this,qP,qG this];rfl
 have esz:es.size=ts.length:=by rw[<-qB,et,qd]
 have tsl:ts.length<=306:=by rw[hts.length_eq];omega
 refine⟨.ref s.heap.objs.size,_,I.laid (a:=s.heap.objs.size) (o:=.frz o (.own 0)) (t':=tk) (λb o e=>hk b o (qK e) e) (qp _) ⟨g1,o,g1⟩,rfl,q _ o (ts.map λx=>V.ref x.2) (ts.map (·.1)) (I.hok.fresh (qp _)) ⟨es,ep,t,g3,g2,Tb.fits hfull,hg,by omega,?_⟩ (Zd9 λx hx=>hTk x (f1 x (hts.mem_iff.mp hx))) ((hts.map _).nodup_iff.mpr nd) λx=>?_⟩
 ·rw[et,qN]
  exact Zd8 ts
 ·rw[(hts.map (·.1)).mem_iff,e0,f3]
  simp
theorem ZgV (hc:X.calm=true)(hu:X.A.units+10<cLine):Y6 X (.type "set") (λxs H Q=>∃(p:Addr) (vs:List V) (jM:List (List Int)) (T:V->List Int->Prop),xs=[.ref p]/\ZA X.K H p vs/\(∀v ns,T v ns->∃a,v=.ref a/\ZH X.K H a (ns.map V.int))/\Paired T vs jM/\jM.length<=306/\
  ∀l o vs' nss',H l=none->BG X.w o vs'->Paired T vs' nss'->nss'.Nodup->(∀x,x∈nss'↔x∈jM)->Q (.ref l) (Zl H l (.frz o (.own 0)))):=by
 intro jI s σ H xs us Q I r h;obtain⟨p,vs,jM,T,rfl,hp,hT,pT,hl,q⟩:=h;obtain⟨u,rfl,ru⟩:=Xw r
 cases ru
 obtain⟨jK,rv,pl,hz⟩:=I.list hp;obtain⟨ks,rfl,rfl,hk⟩:=ZhG (λv ns h=>let ⟨a,e,_⟩:=hT v ns h;⟨a,e⟩) pT;have ei:=Zd7 rv;subst ei;rw[qd]at hl;refine HT.setT_of_list (I.ok.hd hc) pl.isList (ks:=ks) (by simp) (λx hx=>?_) (by simpa using hl) hu λh' tk hS hkp=>ZnQ I ks hk hl q _ (by simp) h' tk hS hkp;obtain⟨a,e,hq⟩:=hT _ _ (hk x hx)
 cases e
 obtain⟨xs,rv,pl,hz⟩:=I.tuple hq;exact HT.tk_of ⟨x.2,xs,rfl,show s.heap.IsTuple x.2 xs.toArray from pl,WS rv⟩
theorem Zdz (hc:X.calm=true):Y6 X (.builtin "sorted") (λxs H Q=>∃(p:Addr) (o:Obj) (vs:List V) (jM:List (List Int)) (T:V->List Int->Prop),xs=[.ref p]/\H p=some (.frz o (.own 0))/\BG X.w o vs/\(∀v ns,T v ns->∃a,v=.ref a/\ZH X.K H a (ns.map V.int))/\Paired T vs jM/\
  (2<=jM.length->∀ns∈jM,ns≠[])/\∀l vs',Paired T vs' (YG jM)->H l=none->Q (.ref l) (Zl H l (.lst vs'))):=by
 intro jI s σ H xs us Q I r h;obtain⟨p,o,vs,jM,T,rfl,hp,hS,hT,pT,hne,q⟩:=h;obtain⟨u,rfl,ru⟩:=Xw r
 cases ru
 obtain⟨ho,_⟩:=(show Ym X.prog X.w H s.heap p (.frz o (.own 0))from I.hok p _ hp);obtain⟨es,ep,t,g3,g2,gf,gg,gz,gv⟩:=hS;have hel:(es.toList.map (·.2)).length=es.size:=by simp
 have hvl:vs.length=es.size:=by rw[gv.length,hel]
 refine HT.sortedT (I.ok.hd hc) ho g2 g3 gf gg (by omega) (ZbR I hT gv pT) hne λix L h' tk d e p1 p2 kp hL he=>?_;have hb:∀i∈ix,i<es.size:=λi hi=>qD.mp (p1.mem_iff.mp hi);have pv:Zu (ix.map λi=>vs.getD i V.non) (ix.map λi=>(es.toList.map (·.2)).getD i zm):=TS.Paired.pick _ _ gv _ λi m=>by rw[hvl];exact hb i m
 have pt:Paired T (ix.map λi=>vs.getD i V.non) (ix.map λi=>jM.getD i []):=TS.Paired.pick _ _ pT _ λi m=>by rw[hvl];exact hb i m
 rw[p2]at pt;refine⟨.ref L,_,jF (s:={ s with heap:=h',toks:=tk }) (I.laid (a:=L) (o:=.lst (ix.map λi=>vs.getD i V.non)) (t':=tk) kp hL ⟨?_,_,e,pv,he⟩),rfl,q _ _ pt (I.hok.fresh hL)⟩;have:=p1.length_eq;rw[qT]at this;rw[qd,this,sizeLine_eq];omega
end
section
variable {X:Cx}{G:Gh}
noncomputable def WX:List (List Int)->List (List Int)
 | []=>[]
 | x::l=>if x∈l then WX l else x::WX l
theorem JQ {x:List Int}:∀{l:List (List Int)},x∈WX l↔x∈l
 | []=>.rfl
 | y::l=>by
  unfold WX;split
  ·rename_i h
   rw[JQ,qq];exact⟨.inr,λz=>z.elim (λe=>e▸h) id⟩
  ·rw[qq,qq,JQ]
theorem BY:∀l:List (List Int),(WX l).Nodup
 | []=>.nil
 | y::l=>by
  unfold WX;split
  ·exact BY l
  ·rename_i h
   exact zU.mpr ⟨λz=>h (JQ.mp z),BY l⟩
noncomputable def Bi (jM:List (List Int)):Prop:=jM.length<=306/\∀ns∈jM,ns≠[]
instance (jM:List (List Int)):Decidable (Bi jM):=by unfold Bi;infer_instance
noncomputable def Js (ds:List D):M D:=match WG ds with | some jM=>if Bi jM then Zy (.lst ((YG (WX jM)).map Y9))else ZE | none=>ZE
noncomputable def JR (f:Zb->M D):Zb->M D:=fun ρ=>Zp (f ρ) λd=>match d with
 | .lst ds=>Js ds
 | _=>ZE
theorem ZhH {Hf H:Hp}(e:Zz G Hf H)(v:V)(ns:List Int)(h:Zi G Hf (Y9 ns) v):∃a,v=.ref a/\ZH X.K H a (ns.map V.int):=by
 obtain⟨a,us,rfl,na,ha,ra⟩:=jc.mp h;rw[jn ra]at ha;exact⟨a,rfl,ZH.of (e _ _ na ha)⟩
theorem Zl8 {Hf H jU H1:Hp}{jM:List (List Int)}{s1 s':Pn}{d:D}{Q:VK}(g1:Gr G Hf H jU H1)(jW:G.st s1 H1)(h:(if Bi jM then Zy (D.lst ((YG (WX jM)).map Y9))else ZE) s1=some (d,s'))
  (k:∀(v:V) (Hf' H':Hp),Gr G Hf H Hf' H'->G.st s' H'->Zi G Hf' d v->(true=true->Z2 G H Hf' d v)->Q v H') (l:Addr) (o:Obj) (vs':List V) (nss':List (List Int)) (hn:H1 l=none) (hO:BG X.w o vs') (pT:Paired (λv ns=>Zi G jU (Y9 ns) v) vs' nss') (nd:nss'.Nodup) (hm:∀x,x∈nss'↔x∈jM) :
  ∃(p:Addr) (o':Obj) (vs:List V) (jM:List (List Int)) (T:V->List Int->Prop),[V.ref l]=[.ref p]/\Zl H1 l (.frz o (.own 0)) p=some (.frz o' (.own 0))/\BG X.w o' vs/\(∀v ns,T v ns->∃a,v=.ref a/\ZH X.K (Zl H1 l (.frz o (.own 0))) a (ns.map V.int))/\Paired T vs jM/\
   (2<=jM.length->∀ns∈jM,ns≠[])/\∀l' vs',Paired T vs' (YG jM)->Zl H1 l (.frz o (.own 0)) l'=none->Q (.ref l') (Zl (Zl H1 l (.frz o (.own 0))) l' (.lst vs')):=by
 obtain⟨ok,h⟩:=Xc h;obtain⟨rfl,rfl⟩:=ZN h;have nf:=Gh.nofp jW hn;have g2:=Gr.new (o:=.frz o (.own 0)) g1.fh hn nf;have jT:=Gh.grow (o:=.frz o (.own 0)) jW hn;have es:YG nss'=YG (WX jM):=ZaN ((zT nd (BY jM)).mpr λx=>by rw[hm,JQ]);refine⟨l,o,vs',nss',λv ns=>Zi G jU (Y9 ns) v,rfl,ZQ,hO,λv ns r=>ZhH g2.fh v ns (r.ext g2.ff),pT,λ_ ns hns=>ok.2 ns ((hm ns).mp hns),λl' vs2 pt hn'=>?_⟩;rw[es]at pt;have nf':=Gh.nofp jT hn';have g3:=Gr.new (o:=.lst vs2) g2.fh hn' nf';have rl:=(ZbU pt).ext g2.ff;exact k (.ref l') _ _ ((g1.trans g2).trans g3) (Gh.grow jT hn') (jb.mpr ⟨l',_,rfl,nf',ZQ,rl.ext g3.ff⟩) λ_=>jm (g1.trans g2).hh (λa ea _=>by cases ea;exact nf') (Z2.mk g2.fh hn' nf' rl)
theorem ZeO {a:Expr}{p1 p2 pos1 pos:Pos}{r1:Bool}{f:Zb->M D}(hc:X.calm=true)(hu:X.A.units+64<cLine)(hg:Gl X "sorted")(hm:X.mg "sorted" = none)(hv:xj "sorted" = some (.builtin "sorted"))(hg2:Gl X "set")(hm2:X.mg "set" = none)(hv2:xj "set" = some (.type "set"))(ha:PD X G r1 a f)
  (hs:xh [a] X.env=(false,eval a X.env)::xh [] X.env:=by rfl)
  (hs2:xh [qbf (.Name "set" p2) [a] [] pos1] X.env=(false,eval (qbf (.Name "set" p2) [a] [] pos1) X.env)::xh [] X.env:=by rfl) (hpl:(backTo pos (xh [] X.env)).any (·.1)=false:=by rfl) (hpl1:(backTo pos1 (xh [] X.env)).any (·.1)=false:=by rfl) :
  PD X G true (.Call (.Name "sorted" p1) [.Call (.Name "set" p2) [a] [] pos1] [] pos) (JR f):=by
 obtain⟨t,pa,qa⟩:=ha.drop;refine⟨_,UX (Zdz hc) hg hm hv (YK (JS (ZgV hc (by omega)) hg2 hm2 hv2 (YK pa Xi hs) (by decide) (by decide) hs hpl1) Xi hs2) (by decide) (by decide) hs2 hpl,fun σ Hf H ρ s d s' Q e1 e2 e3 e4 k=>?_⟩;obtain⟨d0,s1,a1,a2⟩:=ZC e4;refine qa σ Hf H ρ s d0 s1 _ e1 e2 e3 a1 λv jU H1 g1 jW r1=>?_
 match d0,a2,r1 with
 | .lst ds,a2,r1=>
  have a2:Js ds s1=some (d,s'):=a2;unfold Js at a2
  cases he:WG ds with
  | none=>rw[he]at a2;cases a2
  | some jM=>
   rw[he]at a2;have a2:(if Bi jM then Zy (D.lst ((YG (WX jM)).map Y9))else ZE) s1=some (d,s'):=a2;obtain⟨p,vs,rfl,np,hp,rp⟩:=jb.mp r1;rw[ZbS he]at rp;exact⟨p,vs,jM,λv ns=>Zi G jU (Y9 ns) v,rfl,ZA.of (g1.fh _ _ np hp),ZhH g1.fh,ZbT rp,(Xc a2).1.1,λl o vs' nss' hn hO pT nd hm=>Zl8 g1 jW a2 k l o vs' nss' hn hO pT nd hm⟩
end
end TF
namespace TF
open L2
section
variable {X:Cx}{G:Gh}
end
noncomputable def ZkF:D->Bool
 | .non=>true
 | .bl _=>true
 | .int _=>true
 | .str _=>true
 | _=>false
theorem jH {G:Gh}{H H':Hp}{d:D}{v:V}(h:ZkF d=true)(r:Zi G H d v):Zi G H' d v:=by
 cases d with
 | non=>exact jg.mpr (jg.mp r)
 | bl b=>exact je.mpr (je.mp r)
 | int i=>exact ja.mpr (ja.mp r)
 | str i=>exact jh.mpr (jh.mp r)
 | _=>cases h
theorem Z2.ext {G:Gh}{H Hf Hf':Hp}{d:D}{v:V}(e:Zz G Hf Hf')(r:∀a,v=.ref a->VZ d->¬G.fp a)(h:Z2 G H Hf d v):Z2 G H Hf' d v:=λa ea m=>by
 refine⟨(h a ea m).1,λds ed=>?_⟩;obtain⟨vs,Hm,e1,e2,e3,e4⟩:=(h a ea m).2 ds ed;exact⟨vs,Hm,e a _ (r a ea m) e1,e2,e3.trans e,e4⟩
section
variable {X:Cx}{G:Gh}{ob own own':List Nat}{fr:Bool}
noncomputable def Bj (i j:Nat)(f1 f2:Zb->M D):Zb->M Out:=fun ρ=>Zp (f1 ρ) λa=>Zp (f2 ρ) λb=>if (Uy a&&ZkF b)=true then Zy (.nx ((ρ.set j (some b)).set i (some a)))else ZE
theorem ZiQ {i j:Nat}{x y:Str}{a b:Expr}{f1 f2:Zb->M D}{fr2:Bool}{px py pt pos:Pos}{kt k2 pt2}(hc:X.calm=true)(hN:X.N.Nodup)(hi:X.N[i]?=some x)(hj:X.N[j]?=some y)(hij:i≠j)(oj:j∉own)
  (hx:X.env.scope.names.lookup x=some .local) (hy:X.env.scope.names.lookup y=some .local) (ha:PD X G true a f1) (hb:PD X G fr2 b f2)
  (hw:swappedStores [.Tuple [.Name x px,.Name y py] kt pt] (.Tuple [a,b] k2 pt2) X.env=pure (some [x,y]))
  (hs1:xh [a,b] X.env=(false,eval a X.env)::xh [b] X.env:=by rfl) (hs2:xh [b] X.env=(false,eval b X.env)::xh [] X.env:=by rfl)
  (hs:swapsWithSole [.Tuple [.Name x px,.Name y py] kt pt] (.Tuple [a,b] k2 pt2) pos.line X.env=pure false:=by rfl) (ho:∀k,k∈own'↔k=i∨k∈own:=by intro k;simp;try omega) :
  YH X G ob own own' fr (.Assign [.Tuple [.Name x px,.Name y py] kt pt] (.Tuple [a,b] k2 pt2) pos) (Bj i j (fun ρ=>f1 (ZG own ρ)) (fun ρ=>f2 (ZG own ρ))):=by
 obtain⟨t1,p1,q1⟩:=ha;obtain⟨t2,p2,q2⟩:=hb;refine⟨_,Zm2 hc hN hi hj hij hx hy (YK p1 (YK p2 Xi hs2) hs1) hw hs,λkn jR H0 σ H ρ s out s' E ⟨Hf,j0⟩ st e po=>?_⟩;obtain⟨d1,s1,a1,e⟩:=ZC e;obtain⟨d2,s2,a2,e⟩:=ZC e;obtain⟨c,e⟩:=Xc e;obtain⟨rfl,rfl⟩:=ZN e;obtain⟨c1,c2⟩:=qas.mp c;refine q1 σ Hf H _ s d1 s1 _ j0.gr.fh j0.envA st a1 λv jU H1 g1 jW r1 fz=>?_;have j1:=j0.grow g1;refine q2 σ jU H1 _ s1 d2 _ _ j1.gr.fh j1.envA jW a2 λw jZ H2 g2 jT r2 _=>?_;have j2:=j1.grow g2;refine⟨v,w,rfl,?_⟩;rw[List.set_comm _ _ hij];exact po _ H2 ((j0.setF oj (jH c2 r2)).setOwn (j2.setF oj r2) ho st (g1.hh.trans g2.hh) (g1.ff.trans g2.ff) (r1.ext g2.ff) (Z2.ext g2.ff r1.nofp (fz rfl)) c1) jT
theorem jE {i j:Nat}{f1 f2:Zb->M D}{ρ:Zb}{s:Pn}{Q:Out->Pn->Prop}{s1 s2:Pn}{a b:D}(h1:f1 ρ s=some (a,s1))(h2:f2 ρ s1=some (b,s2))(c:(Uy a&&ZkF b)=true)(h:Q (.nx ((ρ.set j (some b)).set i (some a))) s2):∃o s',Bj i j f1 f2 ρ s=some (o,s')/\Q o s':=by
 refine⟨_,_,?_,h⟩;unfold Bj Zp;simp only[h1,h2];rw[if_pos c];rfl
end
section
variable {X:Cx}{G:Gh}
theorem va (i:Nat){x:Str}{pos:Pos}(hN:X.N[i]?=some x:=by rfl)(hv:BJ X.env.scope x:=by first | exact qS rfl | exact qbb (qS rfl) | exact qbb (qbb rfl))(hd:(x==("__debug__" : Str))=false:=by decide)(hcd:(x==("__classdict__" : Str))=false:=by decide):PD X G false (.Name x pos) (Za i):=Zgl i (pv i hN hv hd hcd)
theorem bk (XN:List Str)(NS:List (Str×NameKind))(N':List Str)(src:List (Option Nat)){scope:Scope}(a:X.N=XN:=by rfl)(b:X.env.scope.names=NS:=by rfl)(c:∀y∈scope.names,y.2≠.cell:=by decide +kernel)(d:scope.kind=.function:=by rfl)(e:∀y∈scope.names,y.2=.local->scope.names.lookup y.1=some .local:=by decide +kernel)(f:src.length=N'.length:=by rfl)(g:∀y∈scope.names,y.2=.free->NS.lookup y.1=some .cell∨NS.lookup y.1=some .free:=by decide +kernel)
  (h:(src.zip N').all (λp=>match p.1 with | some j=>decide (XN[j]?=some p.2)&&(decide (NS.lookup p.2=some .cell)||decide (NS.lookup p.2=some .free))&&decide (scope.names.lookup p.2=some .free) | none=>true)=true:=by decide +kernel):BlkS X XN NS N' src scope:=⟨a,b,c,d,e,f,g,h⟩
theorem YW {N P:List Str}{sc:Scope}(a:sc.kind=.function:=by rfl)(b:sc.isCoroutine=false:=by rfl)(c:sc.isGenerator=false:=by rfl)(d:N.Nodup:=by decide +kernel)(e:N.take P.length=P:=by rfl)(f:∀x∈P,sc.names.lookup x=some .local∨sc.names.lookup x=some .cell:=by decide +kernel)(g:∀y∈sc.names,y.2≠.free:=by decide +kernel):FnScope N P sc:=⟨a,b,c,d,e,f,g⟩
end
section
variable {X:Cx}{G:Gh}{elt tg iter:Expr}{ifs:List Expr}{scope:Scope}{pos pos' spos:Pos}{XN:List Str}{NS:List (Str×NameKind)}{N':List Str}{src:List (Option Nat)}{fi:Zb->M (List D)}{τ:D->Zb->Option Zb}{ft:Zb->M Bool}{fe:Zb->M D}{r1:Bool}{i:Nat}{x:Str}
theorem X2 {cl:_}{jI:_}{C:_}{s:_}{H:_}{fp:_}{x:Str}{pos:Pos}{ok:Nat->Prop}(nd:N'.Nodup:=by decide +kernel)(hi:N'[i]?=some x:=by rfl)(hx:W6 (Yz X jI N' scope cl C s H fp).env.scope x:=by exact qS rfl)(oi:ok i:=by rfl)(hf:(Yz X jI N' scope cl C s H fp).fn x=true∨(Yz X jI N' scope cl C s H fp).env.scope.names.lookup x=some .local:=by first | exact .inl rfl | exact .inr rfl | assumption):W8 (Yz X jI N' scope cl C s H fp) G (.Name x pos) ok (Zv i):=Xr nd hi hx oi hf
theorem WL (B:BlkS X XN NS N' src scope)(hi:XC X G tg iter fi)
  (hg:∀{cl jI C s H fp},W8 (Yz X jI N' scope cl C s H fp) G tg (λi=>src[i]?=some none) τ) (ht:∀{cl jI C s H fp},Vm (Yz X jI N' scope cl C s H fp) ifs (UI G ft)) (he:∀{cl jI C s H fp},PD (Yz X jI N' scope cl C s H fp) G r1 elt fe)
  (hc:X.calm=true:=by rfl) (hs:∀x,foldedSetIterable iter X.env x=pure x:=by intro _;rfl):PD X G true (.ListComp elt [⟨tg,iter,ifs,0⟩] scope pos) (Yj src fi τ ft fe):=ZjG hc B hi (λ_ _ _ _ _ _=>hg) (λ_ _ _ _ _ _=>ht) (λ_ _ _ _ _ _=>he) hs
end
theorem Yb {X:Cx}{G:Gh}{k:Nat}{x:Str}{n:Nat}{fr:Bool}{GG:Gh->Prop}{F:List D->M D}{p pos:Pos}{e:Expr}{es:List Expr}{fs:Zb->M (List D)}(c:ZT X.prog X.w X.K X.mg X.base k x n fr GG F)(hG:GG G)(hr:Room k X.A)
  (ha:WO X G (e::es) fs) (hg:Gl X x:=by rfl) (hal:∀ρ s ds s',fs ρ s=some (ds,s')->ds.length=(e::es).length:=by first | exact YX VT | exact YX (YX VT) | exact YX (YX (YX VT)) | exact YX (YX (YX (YX VT))) | exact YX (YX (YX (YX (YX VT)))) | exact YX (YX (YX (YX (YX (YX VT)))))) (jO:(e::es).length=n:=by rfl)
  (hdb:(x==("__debug__" : Str))=false:=by decide) (he:xh (e::es) X.env=(false,eval e X.env)::xh es X.env:=by rfl) (hpl:(backTo pos (xh es X.env)).any (·.1)=false:=by rfl) :
  PD X G fr (.Call (.Name x p) (e::es) [] pos) (Zr F fs):=ZjH c hG hr hg ha hal jO hdb he hpl
section
variable {X:Cx}{G:Gh}{ob own own':List Nat}{fr:Bool}
theorem ZF {st:Stmt}{sts:List Stmt}{g1 g2:Zb->M Out}(h:YH X G ob own [] fr st g1)(h2:X0 X G ob [] own' fr sts g2):X0 X G ob own own' fr (st::sts) (Zf g1 g2):=ZU h h2
theorem Z7 (hs:∀k,k∈own'->k∈([]:List Nat):=by decide):X0 X G ob [] own' fr [] Zk:=Yc hs
theorem Va {c:Expr}{a b:List Stmt}{pos:Pos}{fc:Zb->M Bool}{g1 g2:Zb->M Out}(hc:XU X G c fc)(ha:X0 X G ob own [] fr a g1)(hb:X0 X G ob own [] fr b g2):YH X G ob own [] fr (.If c a b pos) (Yu fc g1 g2):=Zet hc ha hb
theorem X3 {f:Zb->M (List D)}{p pos:Pos}{e:Expr}(hm:X.mg "len" = none)(ha:WO X G [e] f)(hg:Gl X "len":=by rfl)(h1:xh [e] X.env=(false,eval e X.env)::xh [] X.env:=by rfl)(h2:(backTo pos (xh [] X.env)).any (·.1)=false:=by rfl):PD X G true (.Call (.Name "len" p) [e] [] pos) (Zs Ya f):=Xq Zgq hg hm boot_len ha (he:=h1)
end
end TF
namespace K14
open L2 TF TQ
open TP
open TP2
open TP3
noncomputable def ZR (i:Nat):Stmt:=PySem.Challenge.pw_tiefold_k14_great_webs.main.body.getD i (.Pass ⟨0,0,0,0⟩)
noncomputable abbrev Zdd:Stmt:=ZR 1
noncomputable abbrev ZgW:Stmt:=ZR 3
noncomputable abbrev Zbj:Stmt:=ZR 4
noncomputable abbrev Zde:Stmt:=ZR 5
noncomputable abbrev Zaq:Stmt:=ZR 6
noncomputable abbrev Zbz:Stmt:=ZR 7
noncomputable abbrev ZaQ:Stmt:=ZR 8
noncomputable abbrev ZkG:Stmt:=ZR 10
noncomputable abbrev Zae:Stmt:=ZR 11
noncomputable abbrev JH:Stmt:=ZR 12
noncomputable abbrev Zar:Stmt:=ZR 13
noncomputable abbrev Zaf:Stmt:=ZR 14
noncomputable abbrev ZbZ:Stmt:=ZR 15
noncomputable abbrev Zcg:Stmt:=ZR 17
noncomputable abbrev Zch:Stmt:=ZR 18
noncomputable abbrev Zci:Stmt:=ZR 20
noncomputable abbrev ZaR:Stmt:=ZR 21
noncomputable abbrev ZaE:Stmt:=ZR 22
noncomputable abbrev ZaS:Stmt:=ZR 23
noncomputable abbrev Za4:Stmt:=ZR 24
noncomputable abbrev Zai:Stmt:=ZR 25
noncomputable abbrev ZaF:Stmt:=ZR 26
noncomputable abbrev ZaJ:Stmt:=ZR 27
noncomputable abbrev Zas:Stmt:=ZR 28
noncomputable abbrev Zaw:Stmt:=ZR 29
noncomputable abbrev ZbA:Stmt:=ZR 30
noncomputable abbrev s_law:Stmt:=ZR 31
structure Txt (mg:Str->Option Value):Prop where
 b_bool:mg "bool" = none
 b_dict:mg "dict" = none
 b_int:mg "int" = none
 b_isinstance:mg "isinstance" = none
 b_len:mg "len" = none
 b_list:mg "list" = none
 b_max:mg "max" = none
 b_min:mg "min" = none
 b_range:mg "range" = none
 b_set:mg "set" = none
 b_sorted:mg "sorted" = none
 b_sum:mg "sum" = none
 b_tuple:mg "tuple" = none
set_option maxHeartbeats 4000000
variable {P:xB}{w:World}{K:qm}{mg:Str->Option Value}{base:Heap}{j9:Addr}{jP:xA}
theorem ZaT:FnScope ["web"] ["web"] (ZK Zaq):=YW
theorem Zdf (F:Fun K "marked_ties" "marked_ties" Zaq j9 jP)(T:Txt mg) :
  FnOk P w K mg base ZV 1 j9 jP ["web"] (Yr 1 true Z4 Uh):=
 have jL:=ZaT.nd
 Y4 (own:=[]) F ZaT λcdv A outer s H E hr G hG=>
 (ZF (Yw (Wx (Zgu rfl hr.units) rfl T.b_dict TF.boot_dict (Zg (WL (bk ["web"] (ZK Zaq).names ["tie"] [none]) (Us (ZX Z0 (va 0) ZP)) X2 WY (Xe (Zg (va 0) (Zg WJ Zm)))) Zm)))
 Z7)
theorem Zcj:FnScope ["row","pairs","i","j"] ["row"] (ZK Zdd):=YW
theorem ZfX (F:Fun K "pairs_of" "pairs_of" Zdd j9 jP)(T:Txt mg) :
  FnOk P w K mg base ZV 1 j9 jP ["row"] (Yr 1 true Z4 JN):=
 have jL:=Zcj.nd
 Y4 (own:=[]) F Zcj λcdv A outer s H E hr G hG=>
 (ZU (own2:=[1]) (Uq (Yi jL rfl (qS rfl) (Xj Zm)))
 (ZU (own2:=[1]) (Xn (own:=[1]) zg rfl (Vb rfl T.b_range (X3 T.b_len (Zg (va 0) Zm))) (Xr jL rfl (qS rfl) (by decide))
 (ZU (own2:=[1]) (Xn (own:=[1]) zg rfl (Zb8 rfl T.b_range (YB XF (va 2) ZP) (X3 T.b_len (Zg (va 0) Zm))) (Xr jL rfl (qS rfl) (by decide))
 (ZU (own2:=[1]) (Ur (own:=[1]) (i:=1) (by decide) (Xe (Zg (ZX Z0 (va 0) (va 2)) (Zg (ZX Z0 (va 0) (va 3)) Zm))) (λ_ h=>VQ (pv 1) h))
 (Yc (own:=[1]))))
 (Yc (own:=[1]))))
 (ZU (own2:=[1]) (ZcP (i:=1) (by decide) (pv 1))
 (Yc (own:=[1])))))
theorem ZbB:FnScope ["row","tied","pairs"] ["row","tied"] (ZK ZaQ):=YW
theorem ZeP (F:Fun K "web_where" "web_where" ZaQ j9 jP)(T:Txt mg)(kB:ZT P w K mg base 1 "pairs_of" 1 true Z4 JN) :
  FnOk P w K mg base ZV 5 j9 jP ["row","tied"] (Yr 2 false (Jx P w K mg 4 2 Tl base) JK):=
 have jL:=ZbB.nd
 Y4 (own:=[]) F ZbB λcdv A outer s H E hr G hG=>
 (ZF (Y5 (Yi jL rfl (qS rfl) (Yb (kB.mono) trivial hr (Zg (BW rfl rfl T.b_range rfl T.b_list TF.boot_list (X3 T.b_len (Zg (va 0) Zm))) Zm))))
 (ZF (Yw (PD.weak (Xe (Zg (X3 T.b_len (Zg (va 0) Zm)) (Zg (Wx (UQ) rfl T.b_tuple TF.boot_tuple (Zg (WL (bk ["row","tied","pairs"] (ZK ZaQ).names ["pair","tied","row"] [none,some 1,some 0]) (X5 (va 2)) X2 (Bn (VW (ZjK hG (hr.mono (by decide)) (pv 1) (Zg (ZX Z0 (va 2) (ZX Z0 (va 0) ZP)) (Zg (ZX Z0 (va 2) (ZX Z0 (va 0) ZP)) Zm)) (YX (YX VT))))) (va 0)) Zm)) Zm)))))
 Z7))
theorem Zck:FnScope ["ties","a","b"] ["ties","a","b"] (ZK Zde):=YW
theorem ZfY (F:Fun K "are_tied" "are_tied" Zde j9 jP)(T:Txt mg) :
  FnOk P w K mg base ZV 1 j9 jP ["ties","a","b"] (Yr 3 false Z4 WT):=
 have jL:=Zck.nd
 Y4 (own:=[]) F Zck λcdv A outer s H E hr G hG=>
 (ZF (Yw (PD.weak (U9 (Jd hr.units) (Xe (Zg (Xq (Za8 rfl) rfl T.b_min TF.boot_min (Zg (va 1) (Zg (va 2) Zm))) (Zg (Xq (ZcR rfl) rfl T.b_max TF.boot_max (Zg (va 1) (Zg (va 2) Zm))) Zm))) (va 0))))
 Z7)
theorem Zea:FnScope ["web","ties"] ["web"] (ZK Zbz):=YW
theorem ZiR (F:Fun K "turned" "turned" Zbz j9 jP)(T:Txt mg){L:List (Addr×Str)}(lo:Wl L)(jY:ZT P w K mg base 1 "marked_ties" 1 true Z4 Uh)(kr:Jy P w K mg 5 "web_where" 2 false (Jx P w K mg 4 2 Tl) JK)(kg:∀base,ZT P w K mg base 1 "are_tied" 3 false Z4 WT){tc tP:Addr}(hcode:jP.code=.ref tc)(hCd:y4 base tc tP)(hBm:JE mg base)(hL:(tP,(qaT "turned.<locals>.<lambda>"))∈L) :
  FnOk P w K mg base ZV 6 j9 jP ["web"] (Yr 1 false (XJ L) UY):=
 have jL:=Zea.nd
 fnDC (own:=[]) F Zea λA outer s H E hr G hG=>
 have hT:XJ L G:=hG;have TG9:=hT _ _ hL;have M9:Mk0 (Vj ZV P w K mg base ["web","ties"] "turned" (ZK Zbz) j9 jP.code A outer s H E).nox tc tP:=⟨hcode,hCd,hBm⟩
 (ZF (Y5 (Yi jL rfl (qbb rfl) (Yb (jY.mono) trivial hr (Zg (va 0) Zm))))
 (ZF (Yw (Zgx (kl:=3) (frb:=true) (N:=["a","b","ties"]) (ps:=["a","b"]) (cix:=[1]) (T:=Tl) (t:=0) (q:="turned.<locals>.<lambda>") M9 TG9 (kr.mono) (λ_=>rfl) hr rfl (BW rfl rfl T.b_range rfl T.b_list TF.boot_list (ZX Z0 (va 0) ZP)) rfl (⟨rfl,rfl,rfl,by decide +kernel,rfl,by decide +kernel,by decide +kernel⟩:CloScope ["a","b","ties"] ["a","b"] _) (⟨rfl,rfl,rfl,by decide +kernel,by decide +kernel⟩:CapS _ ["web","ties"] (ZK Zbz).names ["a","b","ties"] ["a","b"] [1] _) rfl (λ_ _ _ _ us hl=>match us,hl with | [_,_],_=>rfl) (λbase f c cl G A outer s H E hr=>(Znl (Yb ((kg base).mono) trivial hr (Zg (va 2) (Zg (va 0) (Zg (va 1) Zm))))))))
 Z7))
theorem ZhI:FnScope ["web","place"] ["web","place"] (ZK ZgW):=YW
theorem Zl9 (F:Fun K "near" "near" ZgW j9 jP)(T:Txt mg)(ky:ZT P w K mg base 1 "are_tied" 3 false Z4 WT) :
  FnOk P w K mg base ZV 2 j9 jP ["web","place"] (Yr 2 true Z4 Je):=
 have jL:=ZhI.nd
 Y4 (own:=[]) F ZhI λcdv A outer s H E hr G hG=>
 (ZF (Yw (WL (bk ["web","place"] (ZK ZgW).names ["other","web","place"] [none,some 0,some 1]) (ZcQ rfl T.b_range (ZX Z0 (va 0) ZP)) X2 (Bn (VW (Yb (ky.mono) trivial hr (Zg (ZX Z0 (va 1) ZP) (Zg (va 2) (Zg (va 0) Zm)))))) (va 0)))
 Z7)
theorem Zcl:FnScope ["web","marked"] ["web"] (ZK Zbj):=YW
theorem ZfZ (F:Fun K "all_near" "all_near" Zbj j9 jP)(T:Txt mg)(jY:ZT P w K mg base 1 "marked_ties" 1 true Z4 Uh)(kG:ZT P w K mg base 2 "near" 2 true Z4 Je) :
  FnOk P w K mg base ZV 3 j9 jP ["web"] (Yr 1 true Z4 Zbi):=
 have jL:=Zcl.nd
 Y4 (own:=[]) F Zcl λcdv A outer s H E hr G hG=>
 (ZF (Y5 (Yi jL rfl (qbb rfl) (Xe (Zg (ZX Z0 (va 0) ZP) (Zg (Yb (jY.mono) trivial hr (Zg (va 0) Zm)) Zm)))))
 (ZF (Yw (WL (bk ["web","marked"] (ZK Zbj).names ["place","marked"] [none,some 1]) (ZcQ rfl T.b_range (ZX Z0 (va 0) ZP)) X2 WY (Yb (kG.mono) trivial hr (Zg (va 1) (Zg (va 0) Zm)))))
 Z7))
theorem Zax:FnScope ["aparts","weights","place","places","others"] ["aparts","weights","place","places"] (ZK Zaf):=YW
theorem Zb0 (F:Fun K "heaviest_with" "heaviest_with" Zaf j9 jP)(T:Txt mg){Fs:List D->M D}{lv:Nat}(hlv:0<=lv)(jQ:ZT P w K mg base lv "heaviest_among" 3 false Z4 Fs) :
  FnOk P w K mg base ZV (lv+1) j9 jP ["aparts","weights","place","places"] (Yr 4 false Z4 (BT Fs)):=
 have jL:=Zax.nd
 Y4 (own:=[]) F Zax λcdv A outer s H E hr G hG=>
 (ZF (Y5 (B1 jL rfl (qS rfl) rfl (bk ["aparts","weights","place","places","others"] (ZK Zaf).names ["other","place","aparts"] [none,some 2,some 0]) (X5 (va 3)) (λ_ _ _ _ _ _=>X2) (λ_ _ _ _ _ _=>(Bn (Wc.pt (Zes (Xd (Jc hr.units) (va 0) (va 1)) (ZcN (Xd (ZbQ hr.units) (va 0) (ZX Z0 (va 2) (va 1)))))))) (λ_ _ _ _ _ _=>(va 0))))
 (ZF (Yw (PD.weak (YB XF (Xj (Zg (va 2) Zm)) (Yb (jQ) trivial hr (Zg (va 0) (Zg (va 1) (Zg (va 4) Zm)))))))
 Z7))
theorem ZaU:FnScope ["aparts","place","places"] ["aparts","place","places"] (ZK Zar):=YW
theorem Zdg (F:Fun K "apart_among" "apart_among" Zar j9 jP)(T:Txt mg) :
  FnOk P w K mg base ZV 1 j9 jP ["aparts","place","places"] (Yr 3 true Z4 Zap):=
 have jL:=ZaU.nd
 Y4 (own:=[]) F ZaU λcdv A outer s H E hr G hG=>
 (ZF (Yw (WL (bk ["aparts","place","places"] (ZK Zar).names ["other","aparts","place"] [none,some 0,some 1]) (X5 (va 2)) X2 (Bn (Xd (Jd hr.units) (va 0) (ZX Z0 (va 1) (va 2)))) (va 0)))
 Z7)
theorem Zdh:FnScope ["weights","places"] ["weights","places"] (ZK ZbZ):=YW
theorem ZgX (F:Fun K "weighed" "weighed" ZbZ j9 jP)(T:Txt mg) :
  FnOk P w K mg base ZV 1 j9 jP ["weights","places"] (Yr 2 false Z4 JV):=
 have jL:=Zdh.nd
 Y4 (own:=[]) F Zdh λcdv A outer s H E hr G hG=>
 (ZF (Yw (PD.weak (Xq (ZiL rfl) rfl T.b_sum TF.boot_sum (Zg (WL (bk ["weights","places"] (ZK ZbZ).names ["place","weights"] [none,some 0]) (X5 (va 1)) X2 WY (ZX Z0 (va 1) (va 0))) Zm))))
 Z7)
theorem Zam:FnScope ["aparts","weights","places","rows","i","counts","branching","with_it","without_it"] ["aparts","weights","places"] (ZK JH):=YW
theorem ZbC (F:Fun K "heaviest_among" "heaviest_among" JH j9 jP)(T:Txt mg){Fs:List D->M D}{lv:Nat}(hlv:1<=lv)(kh:ZT P w K mg base 1 "apart_among" 3 true Z4 Zap)(jQ:ZT P w K mg base lv "heaviest_among" 3 false Z4 Fs)(j7:ZT P w K mg base (lv+1) "heaviest_with" 4 false Z4 (BT Fs))(km:ZT P w K mg base 1 "weighed" 2 false Z4 JV) :
  FnOk P w K mg base ZV (lv+2) j9 jP ["aparts","weights","places"] (Yr 3 false Z4 (runB 9 3 (Zac Fs))):=
 have jL:=Zam.nd
 Y4 (own:=[]) F Zam λcdv A outer s H E hr G hG=>
 (ZF (Va (Xd (Uz hr.units) (va 2) (Xj Zm))
 (ZF (Yw (PD.weak (Xj Zm)))
 Z7)
 Yc)
 (ZF (Y5 (B1 jL rfl (qS rfl) rfl (bk ["aparts","weights","places","rows","i","counts","branching","with_it","without_it"] (ZK JH).names ["place","aparts","places"] [none,some 0,some 2]) (X5 (va 2)) (λ_ _ _ _ _ _=>X2) (λ_ _ _ _ _ _=>WY) (λ_ _ _ _ _ _=>(Yb (kh.mono (h:=zi (by decide) (qbv hlv))) trivial hr (Zg (va 1) (Zg (va 0) (Zg (va 2) Zm)))))))
 (ZF (Xn (own:=[]) zg rfl (Vb rfl T.b_range (X3 T.b_len (Zg (va 2) Zm))) (Xr jL rfl (qS rfl) (by decide))
 (ZF (Va (Xd (Zjy) (Yb (km.mono (h:=zi (by decide) (qbv hlv))) trivial hr (Zg (va 1) (Zg (ZX Z0 (va 3) (va 4)) Zm))) (ZX Z0 (va 1) (ZX Z0 (va 2) (va 4))))
 (ZF (Yw (Yb (j7) trivial hr (Zg (va 0) (Zg (va 1) (Zg (ZX Z0 (va 2) (va 4)) (Zg (va 2) Zm))))))
 Z7)
 Yc)
 Z7))
 (ZF (Y5 (B1 jL rfl (qS rfl) rfl (bk ["aparts","weights","places","rows","i","counts","branching","with_it","without_it"] (ZK JH).names ["row"] [none]) (X5 (va 3)) (λ_ _ _ _ _ _=>X2) (λ_ _ _ _ _ _=>WY) (λ_ _ _ _ _ _=>(X3 T.b_len (Zg (va 0) Zm)))))
 (ZF (Y5 (Yi jL rfl (qbb rfl) (ZX Z0 (va 2) (Zkb (va 5) (Xq (Zbd rfl) rfl T.b_max TF.boot_max (Zg (va 5) Zm))))))
 (ZF (Y5 (Yi jL rfl (qS rfl) (Yb (j7) trivial hr (Zg (va 0) (Zg (va 1) (Zg (va 6) (Zg (va 2) Zm)))))))
 (ZF (Y5 (Yi jL rfl (qS rfl) (Yb (jQ.mono (h:=qbV _)) trivial hr (Zg (va 0) (Zg (va 1) (Zg (WL (bk ["aparts","weights","places","rows","i","counts","branching","with_it","without_it"] (ZK JH).names ["other","branching"] [none,some 6]) (X5 (va 2)) X2 (Bn (Xd (Jc hr.units) (va 0) (va 1))) (va 0)) Zm))))))
 (ZF (Yw (Zoo (Xd (Zjz) (Yb (km.mono (h:=zi (by decide) (qbv hlv))) trivial hr (Zg (va 1) (Zg (va 7) Zm))) (Yb (km.mono (h:=zi (by decide) (qbv hlv))) trivial hr (Zg (va 1) (Zg (va 8) Zm)))) (va 7) (va 8)))
 Z7))))))))
theorem Zay:FnScope ["web","weights","aparts"] ["web","weights"] (ZK Zae):=YW
theorem Zb1 (F:Fun K "heaviest_knot" "heaviest_knot" Zae j9 jP)(T:Txt mg){L:List (Addr×Str)}(lo:Wl L)(kz:ZT P w K mg base 3 "all_near" 1 true Z4 Zbi)(jQ:ZT P w K mg base 53 "heaviest_among" 3 false Z4 (Ug 26))(kC:ZT P w K mg base 6 "turned" 1 false (XJ L) UY) :
  FnOk P w K mg base ZV 54 j9 jP ["web","weights"] (Yr 2 true (XJ L) JI):=
 have jL:=Zay.nd
 Y4 (own:=[]) F Zay λcdv A outer s H E hr G hG=>
 have hT:XJ L G:=hG
 (ZF (Y5 (B1 jL rfl (qS rfl) rfl (bk ["web","weights","aparts"] (ZK Zae).names ["row"] [none]) (X5 (Yb (kz.mono) trivial hr (Zg (Yb (kC.mono) hT hr (Zg (va 0) Zm)) Zm))) (λ_ _ _ _ _ _=>X2) (λ_ _ _ _ _ _=>WY) (λ_ _ _ _ _ _=>(Wx (Zgv rfl hr.units) rfl T.b_dict TF.boot_dict (Zg (WL (bk ["row"] [((qbY ".0"),PySem.NameKind.local),((qbY "row"),PySem.NameKind.local),((qbY "dict"),PySem.NameKind.globalImplicit)] ["other"] [none]) (X5 (va 0)) X2 WY (Xe (Zg (va 0) (Zg WJ Zm)))) Zm)))))
 (ZF (Yw (Wx (UQ) rfl T.b_tuple TF.boot_tuple (Zg (Xq (Zbt) rfl T.b_sorted TF.boot_sorted (Zg (Yb (jQ.mono) trivial hr (Zg (va 2) (Zg (va 1) (Zg (BW rfl rfl T.b_range rfl T.b_list TF.boot_list (ZX Z0 (va 0) ZP)) Zm)))) Zm)) Zm)))
 Z7))
theorem ZhJ:FnScope ["web","knot"] ["web"] (ZK ZkG):=YW
theorem Zma (F:Fun K "most" "most" ZkG j9 jP)(T:Txt mg){L:List (Addr×Str)}(lo:Wl L)(kc:ZT P w K mg base 54 "heaviest_knot" 2 true (XJ L) JI) :
  FnOk P w K mg base ZV 55 j9 jP ["web"] (Yr 1 true (XJ L) Jj):=
 have jL:=ZhJ.nd
 Y4 (own:=[]) F ZhJ λcdv A outer s H E hr G hG=>
 have hT:XJ L G:=hG
 (ZF (Y5 (Yi jL rfl (qS rfl) (Yb (kc.mono) hT hr (Zg (va 0) (Zg (YB Zkv (Xe (Zg ZP Zm)) (ZX Z0 (va 0) ZP)) Zm)))))
 (ZF (Yw (Xe (Zg (X3 T.b_len (Zg (va 1) Zm)) (Zg (va 1) Zm))))
 Z7))
theorem ZbD:FnScope ["_law_cell","_law_at","_law_x"] ["_law_cell","_law_at"] (ZK Zcg):=YW
theorem ZeQ (F:Fun K "_law_fill" "_law_fill" Zcg j9 jP)(T:Txt mg) :
  FnOk P w K mg base ZV 1 j9 jP ["_law_cell","_law_at"] (Yr 2 false Z4 Uj):=
 have jL:=ZbD.nd
 Y4 (own:=[]) F ZbD λcdv A outer s H E hr G hG=>
 (ZF (Va (Xd (Zjz) (va 0) (YB Zlx ZP ZP))
 (ZF (Yw (va 0))
 Z7)
 Yc)
 (ZF (Y5 (Yi jL rfl (qS rfl) (YB ZcA (YB XF (YB XF (YB VX (YB ZcA (va 0) ZP) ZP) (YB VX (va 1) ZP)) ZP) ZP)))
 (ZF (Y5 (Yi jL rfl (qS rfl) (YB ZcA (YB XF (YB XF (YB VX (va 2) (va 2)) (YB VX ZP (va 2))) (va 1)) ZP)))
 (ZF (Yw (PD.weak (YB XF (YB VX (va 2) ZP) (YB ZcA (YB XF (YB VX (va 2) (va 2)) (YB VX ZP (va 1))) ZP))))
 Z7))))
theorem Za5:FnScope ["_law_web_here","_law_pairs","_law_pair","_law_found","_law_place","_law_more","_law_knot"] ["_law_web_here"] (ZK ZaE):=YW
theorem ZdA (F:Fun K "_law_knots" "_law_knots" ZaE j9 jP)(T:Txt mg) :
  FnOk P w K mg base ZV 1 j9 jP ["_law_web_here"] (Yr 1 false Z4 JJ):=
 have jL:=Za5.nd
 Y4 (own:=[]) F Za5 λcdv A outer s H E hr G hG=>
 (ZU (own2:=[1]) (Uq (Yi jL rfl (qbb rfl) Zkc))
 (ZU (own2:=[1]) (Xn (own:=[1]) zg rfl (XC.a (own:=[1]) (Us (ZX Z0 (va 0) ZP))) (Xr jL rfl (qS rfl) (by decide))
 (ZU (own2:=[1]) (ZgE (own:=[1]) (i:=1) (L2.hu_of hr) (by decide) (pv 1) (va 2) WJ)
 (Yc (own:=[1]))))
 (ZU (own2:=[1]) (Uo (own:=[1]) (Yi jL rfl (qS rfl) (Xj (Zg (Xe Zm) Zm))))
 (ZF (YH.frz (own:=[1]) (own2:=[]) (Xn (own:=[]) zg rfl (Vb rfl T.b_range (ZX Z0 (va 0) ZP)) (Xr jL rfl (qbb rfl) (by decide))
 (ZU (own2:=[5]) (Uq (Yi jL rfl (qS rfl) (Xj Zm)))
 (ZU (own2:=[5]) (Xn (own:=[5]) zg rfl (XC.a (own:=[5]) (X5 (va 3))) (Xr jL rfl (qS rfl) (by decide))
 (ZU (own2:=[5]) (Zet (own':=[5]) (Xd (ZbQ hr.units) WJ (WL (bk ["_law_web_here","_law_pairs","_law_pair","_law_found","_law_place","_law_more","_law_knot"] (ZK ZaE).names ["_law_other","_law_place","_law_pairs"] [none,some 4,some 1]) (Us (va 6)) X2 WY (U9 (Jd hr.units) (Xe (Zg (va 0) (Zg (va 1) Zm))) (va 2))))
 (ZU (own2:=[5]) (Ur (own:=[5]) (i:=5) (by decide) (YB XF (va 6) (Xe (Zg (va 4) Zm))) (λ_ h=>VQ (pv 5) h))
 (Yc (own:=[5])))
 Yc)
 (Yc (own:=[5]))))
 (ZF (YH.frz (own:=[5]) (own2:=[]) (Y5 (Yi jL rfl (qS rfl) (YB XF (va 3) (va 5)))))
 Z7)))))
 (ZF (Yw (va 3))
 Z7)))))
theorem ZbE:FnScope ["_law_web_here"] ["_law_web_here"] (ZK ZaS):=YW
theorem ZeR (F:Fun K "_law_most" "_law_most" ZaS j9 jP)(T:Txt mg)(ko:ZT P w K mg base 1 "_law_knots" 1 false Z4 JJ) :
  FnOk P w K mg base ZV 2 j9 jP ["_law_web_here"] (Yr 1 true Z4 UT):=
 have jL:=ZbE.nd
 Y4 (own:=[]) F ZbE λcdv A outer s H E hr G hG=>
 (ZF (Yw (Xq (Zbd rfl) rfl T.b_max TF.boot_max (Zg (WL (bk ["_law_web_here"] (ZK ZaS).names ["_law_knot"] [none]) (X5 (Yb (ko.mono) trivial hr (Zg (va 0) Zm))) X2 WY (X3 T.b_len (Zg (va 0) Zm))) Zm)))
 Z7)
theorem ZbF:FnScope ["_law_web_here","_law_a","_law_b"] ["_law_web_here","_law_a","_law_b"] (ZK Zci):=YW
theorem ZeS (F:Fun K "_law_tied" "_law_tied" Zci j9 jP)(T:Txt mg) :
  FnOk P w K mg base ZV 1 j9 jP ["_law_web_here","_law_a","_law_b"] (Yr 3 false Z4 Vr):=
 have jL:=ZbF.nd
 Y4 (own:=[]) F ZbF λcdv A outer s H E hr G hG=>
 (ZF (Yw (PD.weak (U9 (Jd hr.units) (Xe (Zg (Xq (Za8 rfl) rfl T.b_min TF.boot_min (Zg (va 1) (Zg (va 2) Zm))) (Zg (Xq (ZcR rfl) rfl T.b_max TF.boot_max (Zg (va 1) (Zg (va 2) Zm))) Zm))) (ZX Z0 (va 0) ZP))))
 Z7)
theorem ZaK:FnScope ["_law_web_here","_law_places","_law_k","_law_other"] ["_law_web_here","_law_places"] (ZK ZaR):=YW
theorem Zcs (F:Fun K "_law_is_knot" "_law_is_knot" ZaR j9 jP)(T:Txt mg)(j8:ZT P w K mg base 1 "_law_tied" 3 false Z4 Vr) :
  FnOk P w K mg base ZV 2 j9 jP ["_law_web_here","_law_places"] (Yr 2 true Z4 BU):=
 have jL:=ZaK.nd
 Y4 (own:=[]) F ZaK λcdv A outer s H E hr G hG=>
 (ZF (Xn (own:=[]) zg rfl (Vb rfl T.b_range (X3 T.b_len (Zg (va 1) Zm))) (Xr jL rfl (qS rfl) (by decide))
 (ZF (Xn (own:=[]) zg rfl (XC.n (Us (ZjU (va 1) ZjR (ZjS (va 2))))) (Xr jL rfl (qS rfl) (by decide))
 (ZF (Va (U0 (VW (Yb (j8.mono) trivial hr (Zg (va 0) (Zg (va 3) (Zg (ZX Z0 (va 1) (va 2)) Zm))))))
 (ZF (Yw WJ)
 Z7)
 Yc)
 Z7))
 Z7))
 (ZF (Yw WJ)
 Z7))
theorem Zad:FnScope ["_law_web_here","_law_found","_law_one"] ["_law_web_here","_law_found"] (ZK Zai):=YW
theorem ZaV (F:Fun K "_law_places_right" "_law_places_right" Zai j9 jP)(T:Txt mg)(kf:ZT P w K mg base 2 "_law_is_knot" 2 true Z4 BU) :
  FnOk P w K mg base ZV 3 j9 jP ["_law_web_here","_law_found"] (Yr 2 false Z4 JG):=
 have jL:=Zad.nd
 Y4 (own:=[]) F Zad λcdv A outer s H E hr G hG=>
 (ZF (Va (Wc.pt (Ja (U0 (VW (Xq (B6) rfl T.b_isinstance TF.boot_isinstance (Zg (va 1) (Zg (Zhm rfl T.b_tuple TF.boot_tuple) Zm))))) (Zcy (Xd (Jc hr.units) (Ziz rfl rfl T.b_len TF.boot_len rfl T.b_set TF.boot_set (va 1)) (X3 T.b_len (Zg (va 1) Zm))))))
 (ZF (Yw (PD.weak WJ))
 Z7)
 Yc)
 (ZF (Xn (own:=[]) zg rfl (XC.n (Us (va 1))) (Xr jL rfl (qS rfl) (by decide))
 (ZF (Va (Wc.pt (Ja (U0 (VW (Xq (B6) rfl T.b_isinstance TF.boot_isinstance (Zg (va 2) (Zg (Zhm rfl T.b_int TF.boot_int) Zm))))) (Ja (VW (Xq (B6) rfl T.b_isinstance TF.boot_isinstance (Zg (va 2) (Zg (Zhm rfl T.b_bool TF.boot_bool) Zm)))) (Zcy (U0 (Zis ZP (Zir (Zjy) (va 2) (ZjW (Zgp hr.units0) (ZX Z0 (va 0) ZP)))))))))
 (ZF (Yw (PD.weak WJ))
 Z7)
 Yc)
 Z7))
 (ZF (Yw (Znk (U9 (Uz hr.units) (Wx (Zb9) rfl T.b_list TF.boot_list (Zg (va 1) Zm)) (Xq ZeE rfl T.b_sorted TF.boot_sorted (Zg (va 1) Zm))) (Znj (Yb (kf.mono) trivial hr (Zg (va 0) (Zg (va 1) Zm))))))
 Z7)))
noncomputable def ZeT:Zb->M Out:=(Zf (Bj 1 2 (fun ρ=>(ZZ Zd) (ZG [] ρ)) (fun ρ=>(dC (.int 0)) (ZG [] ρ)))
 (Zf (ZO 3 (fun ρ=>(Ze Yk (dC (.int 11)) (Zr YS (Zc (Za 0) (Zc (dC (.int 14)) Zd)))) (ZG [1] ρ)))
 (Zf (Ji 1000000 (asB (Ze Wt (Za 2) (Za 3)))
 (Zf (ZO 4 (fun ρ=>(Zs VE (Zc (Ze UJ (Za 3) (Za 2)) (Zc (Ze Yk (dC (.int 1)) (Zr YS (Zc (Za 0) (Zc (dC (.int 5)) Zd)))) Zd))) (ZG [1] ρ)))
 (Zf (Xz 1 (fun ρ=>(UU (Za 2) (Ze Yk (Za 2) (Za 4))) (ZG [1] ρ)))
 (Zf (ZO 2 (fun ρ=>(Ze Yk (Za 2) (Za 4)) (ZG [1] ρ)))
 Zk))))
 (Zf (ZO 5 (fun ρ=>(Zr YS (Zc (Za 0) (Zc (dC (.int 2)) Zd))) (ZG [1] ρ)))
 (Zf (Xt 6 (fun ρ=>(ZZ Zd) (ZG [1] ρ)))
 (Zf (Z9 (YL (Zs Ya (Zc (Za 1) Zd))) (Zv 7)
 (Zf (Z9 (YL (Ze Yk (Za 7) (dC (.int 1)))) (Zv 8)
 (Zf (Z9 (fun ρ=>(ZY (Ze Zn (Za 1) (Za 7))) (ZG [6] ρ)) (Zv 9)
 (Zf (Z9 (fun ρ=>(ZY (Ze Zn (Za 1) (Za 8))) (ZG [6] ρ)) (Zv 10)
 (Zf (Yu (XZ (asB (Ze Wt (Za 10) (Za 9))) (asB (Ze Yy (Zs VF (Zc (Ze Yy (Za 8) (Za 7)) Zd)) (Za 5))))
 (Zf (Xz 6 (fun ρ=>(ZS (Zc (Za 10) (Zc (Za 9) Zd))) (ZG [6] ρ)))
 Zk)
 Zk)
 Zk))
 Zk))
 Zk))
 Zk))
 (Zf (ZO 11 (fun ρ=>(Ze Zn (ZZ (Zc (Zs Ya (Zc (Za 1) Zd)) (Zc (Zs V0 (Zc (Yj [none] (ZY (Za 1)) (Zv 0) Yt (Zs Ya (Zc (Za 0) Zd))) Zd)) Zd))) (Za 5)) (ZG [6] ρ)))
 (Zf (ZL (ZS (Zc (ZS (Zc (Za 2) (Zc (Zs WE (Zc (Zs UZ (Zc (Za 6) Zd)) Zd)) Zd))) (Zc (Za 11) Zd))))
 Zk))))))))
noncomputable def ZaG:List D->M D:=runB 12 1 ZeT
theorem Za6:FnScope ["_law_pen","_law_groups","_law_n","_law_size","_law_more","_law_within","_law_ties","_law_k","_law_other","_law_b","_law_a","_law_known"] ["_law_pen"] (ZK ZaF):=YW
theorem ZdB (F:Fun K "_law_great" "_law_great" ZaF j9 jP)(T:Txt mg){L:List (Addr×Str)}(lo:Wl L)(jN:ZT P w K mg base 2 "_law_next" 2 true (Y2 (Xg K) L) YS) :
  FnOk P w K mg base ZV 3 j9 jP ["_law_pen"] (Yr 1 true (Y2 (Xg K) L) ZaG):=
 have jL:=Za6.nd
 Y4 (own:=[]) F Za6 λcdv A outer s H E hr G hG=>
 have hT:XJ L G:=jr lo hG
 (ZU (own2:=[1]) (ZiQ (own:=[]) (own':=[1]) rfl jL rfl rfl (by decide) (by decide) rfl rfl (Xj Zm) ZP (by with_unfolding_all rfl))
 (ZU (own2:=[1]) (Uo (own:=[1]) (Yi jL rfl (qS rfl) (YB XF ZP (Yb (jN.mono) hG hr (Zg (va 0) (Zg ZP Zm))))))
 (ZU (own2:=[1]) (ZdZ (own:=[1]) zg (Xd (Zgp hr.units0) (va 2) (va 3))
 (ZU (own2:=[1]) (Uo (own:=[1]) (Yi jL rfl (qS rfl) (Xq (Za8 rfl) rfl T.b_min TF.boot_min (Zg (YB Zlw (va 3) (va 2)) (Zg (YB XF ZP (Yb (jN.mono) hG hr (Zg (va 0) (Zg ZP Zm)))) Zm)))))
 (ZU (own2:=[1]) (Zj6 (own:=[1]) (i:=1) (by decide) (pv 1) (Zdx rfl rfl T.b_range rfl T.b_list TF.boot_list (va 2) (YB XF (va 2) (va 4))))
 (ZU (own2:=[1]) (Uo (own:=[1]) (Yi jL rfl (qS rfl) (YB XF (va 2) (va 4))))
 (Yc (own:=[1]))))))
 (ZU (own2:=[1]) (Uo (own:=[1]) (Yi jL rfl (qS rfl) (Yb (jN.mono) hG hr (Zg (va 0) (Zg ZP Zm)))))
 (ZU (own2:=[6,1]) (Zfk (own:=[1]) (own':=[6,1]) (Yi jL rfl (qS rfl) (Xj Zm)))
 (ZU (own2:=[6]) (YH.frz (own:=[6,1]) (own2:=[6]) (Xn (own:=[6]) zg rfl (Vb rfl T.b_range (X3 T.b_len (Zg (va 1) Zm))) (Xr jL rfl (qS rfl) (by decide))
 (ZU (own2:=[6]) (Xn (own:=[6]) zg rfl (Vb rfl T.b_range (YB XF (va 7) ZP)) (Xr jL rfl (qS rfl) (by decide))
 (ZU (own2:=[6]) (Xn (own:=[6]) zg rfl (XC.a (own:=[6]) (X5 (ZX Z0 (va 1) (va 7)))) (Xr jL rfl (qS rfl) (by decide))
 (ZU (own2:=[6]) (Xn (own:=[6]) zg rfl (XC.a (own:=[6]) (X5 (ZX Z0 (va 1) (va 8)))) (Xr jL rfl (qS rfl) (by decide))
 (ZU (own2:=[6]) (Zet (own':=[6]) (Wc.pt (Zes (Xd (Zgp hr.units0) (va 10) (va 9)) (ZcN (Xd (Uz hr.units) (Wx (ZcS) rfl T.b_int TF.boot_int (Zg (U9 (Uz hr.units) (va 8) (va 7)) Zm)) (va 5)))))
 (ZU (own2:=[6]) (Ur (own:=[6]) (i:=6) (by decide) (Xe (Zg (va 10) (Zg (va 9) Zm))) (λ_ h=>VQ (pv 6) h))
 (Yc (own:=[6])))
 Yc)
 (Yc (own:=[6]))))
 (Yc (own:=[6]))))
 (Yc (own:=[6]))))
 (Yc (own:=[6])))))
 (ZU (own2:=[6]) (Uo (own:=[6]) (Yi jL rfl (qS rfl) (ZX Z0 (Xj (Zg (X3 T.b_len (Zg (va 1) Zm)) (Zg (Xq (Zbd rfl) rfl T.b_max TF.boot_max (Zg (WL (bk ["_law_pen","_law_groups","_law_n","_law_size","_law_more","_law_within","_law_ties","_law_k","_law_other","_law_b","_law_a","_law_known"] (ZK ZaF).names ["_law_one"] [none]) (X5 (va 1)) X2 WY (X3 T.b_len (Zg (va 0) Zm))) Zm)) Zm))) (va 5))))
 (ZU (own2:=[6]) (Yw (Xe (Zg (Xe (Zg (va 2) (Zg (Wx (UQ) rfl T.b_tuple TF.boot_tuple (Zg (Xq ZaO rfl T.b_sorted TF.boot_sorted (Zg (va 6) Zm)) Zm)) Zm))) (Zg (va 11) Zm))))
 (Yc (own:=[6]))))))))))
noncomputable def ZdC:Zb->M Out:=(Zf (Z9 (YL (Ze Zn (Za 0) (dC (.int 0)))) (Zv 2)
 (Zf (Yu (asB (Ze WF (dC (.bl false)) (Yj [none,some 0,some 2] (ZY (Za 1)) (Zv 0) Yt (Zr Vr (Zc (Za 1) (Zc (Za 0) (Zc (Za 2) Zd)))))))
 (Zf (ZO 1 (Ze Yk (Za 1) (ZZ (Zc (Za 2) Zd))))
 Zk)
 Zk)
 Zk))
 (Zf (ZL (Za 1))
 Zk))
noncomputable def Zat:List D->M D:=runB 3 2 ZdC
theorem ZaW:FnScope ["_law_told","_law_knot","_law_place"] ["_law_told","_law_knot"] (ZK Zas):=YW
theorem Zdi (F:Fun K "_law_greedy" "_law_greedy" Zas j9 jP)(T:Txt mg)(j8:ZT P w K mg base 1 "_law_tied" 3 false Z4 Vr) :
  FnOk P w K mg base ZV 2 j9 jP ["_law_told","_law_knot"] (Yr 2 false Z4 Zat):=
 have jL:=ZaW.nd
 Y4 (own:=[]) F ZaW λcdv A outer s H E hr G hG=>
 (ZF (Xn (own:=[]) zg rfl (Vb rfl T.b_range (ZX Z0 (va 0) ZP)) (Xr jL rfl (qbb rfl) (by decide))
 (ZF (Va (Xd (ZbQ hr.units) WJ (WL (bk ["_law_told","_law_knot","_law_place"] (ZK Zas).names ["_law_other","_law_told","_law_place"] [none,some 0,some 2]) (X5 (va 1)) X2 WY (Yb (j8.mono) trivial hr (Zg (va 1) (Zg (va 0) (Zg (va 2) Zm))))))
 (ZF (Y5 (Yi jL rfl (qS rfl) (YB XF (va 1) (Xj (Zg (va 2) Zm)))))
 Z7)
 Yc)
 Z7))
 (ZF (Yw (va 1))
 Z7))
noncomputable def ZdD:Zb->M Out:=(Zf (Xt 2 (Zs Zhl (Zc (Za 1) Zd)))
 (Zf (Xt 3 (fun ρ=>(ZZ Zd) (ZG [2] ρ)))
 (Zf (Ji 1000000 (asB (Ze Y8 (Za 2) (ZZ Zd)))
 (Zf (Bc 3 2 (chk true (Zr YS (Zc (Za 0) (Zc (Zs Ya (Zc (Za 2) Zd)) Zd)))))
 Zk))
 (Zf (ZL (Za 3))
 Zk))))
noncomputable def Zau:List D->M D:=runB 4 2 ZdD
theorem ZaX:FnScope ["_law_pen","_law_some","_law_left","_law_found"] ["_law_pen","_law_some"] (ZK Za4):=YW
theorem Zdj (F:Fun K "_law_turned" "_law_turned" Za4 j9 jP)(T:Txt mg){L:List (Addr×Str)}(lo:Wl L)(jN:ZT P w K mg base 2 "_law_next" 2 true (Y2 (Xg K) L) YS) :
  FnOk P w K mg base ZV 3 j9 jP ["_law_pen","_law_some"] (Yr 2 true (Y2 (Xg K) L) Zau):=
 have jL:=ZaX.nd
 Y4 (own:=[]) F ZaX λcdv A outer s H E hr G hG=>
 have hT:XJ L G:=jr lo hG
 (ZU (own2:=[2]) (Uq (Yi jL rfl (qS rfl) (Wx (Zb9) rfl T.b_list TF.boot_list (Zg (va 1) Zm))))
 (ZU (own2:=[3,2]) (Zfk (own:=[2]) (own':=[3,2]) (Yi jL rfl (qS rfl) (Xj Zm)))
 (ZU (own2:=[3,2]) (ZdZ (own:=[3,2]) zg (Xd (Jc hr.units) (va 2) (Xj Zm))
 (ZU (own2:=[3,2]) (ZgP (own:=[3,2]) (i:=3) (j:=2) (by decide) (by decide) (by decide) (pv 3) (pv 2) (Yb (jN.mono) hG hr (Zg (va 0) (Zg (X3 T.b_len (Zg (va 2) Zm)) Zm))))
 (Yc (own:=[3,2]))))
 (ZU (own2:=[3,2]) (ZcP (i:=3) (by decide) (pv 3))
 (Yc (own:=[3,2]))))))
noncomputable def Zct:Zb->M Out:=(Zf (ZO 2 (Zr Zau (Zc (Za 0) (Zc (Ww (Ze Zn (Za 1) (dC (.int 0)))) Zd))))
 (Zf (Xt 3 (ZZ Zd))
 (Zf (Z9 (fun ρ=>(XY (Ze Zn (Za 1) (dC (.int 1)))) (ZG [3] ρ)) (VD 4 5)
 (Zf (ZO 6 (fun ρ=>(Zs Uu (Zc (ZZ (Zc (Ze Zn (Za 2) (Za 4)) (Zc (Ze Zn (Za 2) (Za 5)) Zd))) Zd)) (ZG [3] ρ)))
 (Zf (Xz 3 (fun ρ=>(ZS (Zc (Ze Zn (Za 6) (dC (.int 0))) (Zc (Ze Zn (Za 6) (dC (.int 1))) Zd))) (ZG [3] ρ)))
 Zk)))
 (Zf (ZL (ZS (Zc (Ze Zn (Za 1) (dC (.int 0))) (Zc (Zs WE (Zc (Zs UZ (Zc (Za 3) Zd)) Zd)) Zd))))
 Zk))))
noncomputable def Zag:List D->M D:=runB 7 2 Zct
theorem Zaz:FnScope ["_law_pen","_law_told","_law_order","_law_ties","_law_a","_law_b","_law_ends"] ["_law_pen","_law_told"] (ZK ZaJ):=YW
theorem Zb2 (F:Fun K "_law_shuffled" "_law_shuffled" ZaJ j9 jP)(T:Txt mg){L:List (Addr×Str)}(lo:Wl L)(ki:ZT P w K mg base 3 "_law_turned" 2 true (Y2 (Xg K) L) Zau) :
  FnOk P w K mg base ZV 4 j9 jP ["_law_pen","_law_told"] (Yr 2 true (Y2 (Xg K) L) Zag):=
 have jL:=Zaz.nd
 Y4 (own:=[]) F Zaz λcdv A outer s H E hr G hG=>
 have hT:XJ L G:=jr lo hG
 (ZF (Y5 (Yi jL rfl (qS rfl) (Yb (ki.mono) hG hr (Zg (va 0) (Zg (BW rfl rfl T.b_range rfl T.b_list TF.boot_list (ZX Z0 (va 1) ZP)) Zm)))))
 (ZU (own2:=[3]) (Uq (Yi jL rfl (qS rfl) (Xj Zm)))
 (ZU (own2:=[3]) (Xn (own:=[3]) zg rfl (XC.a (own:=[3]) (Us (ZX Z0 (va 1) ZP))) (Zbo rfl jL rfl rfl (qS rfl) (qS rfl) (by decide) (by decide) (hp:=VS (Ve jL rfl (qS rfl)) (VS (Ve jL rfl (qS rfl)) Zcv)))
 (ZU (own2:=[3]) (Uo (own:=[3]) (Yi jL rfl (qS rfl) (Xq (Zbt) rfl T.b_sorted TF.boot_sorted (Zg (Xj (Zg (ZX Z0 (va 2) (va 4)) (Zg (ZX Z0 (va 2) (va 5)) Zm))) Zm))))
 (ZU (own2:=[3]) (Ur (own:=[3]) (i:=3) (by decide) (Xe (Zg (ZX Z0 (va 6) ZP) (Zg (ZX Z0 (va 6) ZP) Zm))) (λ_ h=>VQ (pv 3) h))
 (Yc (own:=[3])))))
 (ZU (own2:=[3]) (Yw (Xe (Zg (ZX Z0 (va 1) ZP) (Zg (Wx (UQ) rfl T.b_tuple TF.boot_tuple (Zg (Xq ZaO rfl T.b_sorted TF.boot_sorted (Zg (va 3) Zm)) Zm)) Zm))))
 (Yc (own:=[3]))))))
noncomputable def Zb3:Zb->M Out:=(Zf (UL (VD 1 2) (Zr ZaG (Zc (Za 0) Zd)))
 (Zf (ZO 3 (ZZ Zd))
 (Zf (Z9 (YL (Ze Zn (Za 1) (dC (.int 0)))) (Zv 4)
 (Zf (Yu (asB (Ze Yy (Za 3) (ZZ Zd)))
 (Zf (ZO 5 (Zr Zat (Zc (Za 1) (Zc (ZZ (Zc (Za 4) Zd)) Zd))))
 (Zf (ZO 3 (Ze Zn (ZZ (Zc (ZZ Zd) (Zc (Za 5) Zd))) (Zs VF (Zc (Ze Yy (Zs Ya (Zc (Za 5) Zd)) (Za 2)) Zd))))
 Zk))
 Zk)
 Zk))
 (Zf (Xt 6 (ZZ Zd))
 (Zf (Z9 (fun ρ=>(XY (Ze Zn (Za 1) (dC (.int 1)))) (ZG [6] ρ)) (VD 7 8)
 (Zf (Yu (WP (XZ (asB (Ze Y0 (Za 7) (Za 3))) (asB (Ze Y0 (Za 8) (Za 3)))) (asB (Ze dGt (Zr YS (Zc (Za 0) (Zc (dC (.int 4)) Zd))) (dC (.int 0)))))
 (Zf (Xz 6 (fun ρ=>(ZS (Zc (Za 7) (Zc (Za 8) Zd))) (ZG [6] ρ)))
 Zk)
 Zk)
 Zk))
 (Zf (ZL (ZS (Zc (Zr Zag (Zc (Za 0) (Zc (ZS (Zc (Ze Zn (Za 1) (dC (.int 0))) (Zc (Zs WE (Zc (Za 6) Zd)) Zd))) Zd))) (Zc (Za 2) Zd))))
 Zk))))))
noncomputable def UP:List D->M D:=runB 9 1 Zb3
theorem Zan:FnScope ["_law_pen","_law_told","_law_known","_law_knot","_law_place","_law_some","_law_ties","_law_a","_law_b"] ["_law_pen"] (ZK Zaw):=YW
theorem ZbG (F:Fun K "_law_known_web" "_law_known_web" Zaw j9 jP)(T:Txt mg){L:List (Addr×Str)}(lo:Wl L)(kq:ZT P w K mg base 3 "_law_great" 1 true (Y2 (Xg K) L) ZaG)(kj:ZT P w K mg base 2 "_law_greedy" 2 false Z4 Zat)(jN:ZT P w K mg base 2 "_law_next" 2 true (Y2 (Xg K) L) YS)(kd:ZT P w K mg base 4 "_law_shuffled" 2 true (Y2 (Xg K) L) Zag) :
  FnOk P w K mg base ZV 5 j9 jP ["_law_pen"] (Yr 1 true (Y2 (Xg K) L) UP):=
 have jL:=Zan.nd
 Y4 (own:=[]) F Zan λcdv A outer s H E hr G hG=>
 have hT:XJ L G:=jr lo hG
 (ZF (Zfx (Yb (kq.mono) hG hr (Zg (va 0) Zm)) (Zbo rfl jL rfl rfl (qS rfl) (qS rfl) (by decide) (by decide) (hp:=VS (Ve jL rfl (qS rfl)) (VS (Ve jL rfl (qS rfl)) Zcv))))
 (ZF (Y5 (Yi jL rfl (qS rfl) (Xj Zm)))
 (ZF (Xn (own:=[]) zg rfl (Vb rfl T.b_range (ZX Z0 (va 1) ZP)) (Xr jL rfl (qS rfl) (by decide))
 (ZF (Va (Xd (Uz hr.units) (va 3) (Xj Zm))
 (ZF (Y5 (Yi jL rfl (qS rfl) (Yb (kj.mono) trivial hr (Zg (va 1) (Zg (Xj (Zg (va 4) Zm)) Zm)))))
 (ZF (Y5 (Yi jL rfl (qS rfl) (ZX Z0 (Xj (Zg (Xj Zm) (Zg (va 5) Zm))) (Wx (ZcS) rfl T.b_int TF.boot_int (Zg (U9 (Uz hr.units) (X3 T.b_len (Zg (va 5) Zm)) (va 2)) Zm)))))
 Z7))
 Yc)
 Z7))
 (ZU (own2:=[6]) (Uq (Yi jL rfl (qS rfl) (Xj Zm)))
 (ZU (own2:=[6]) (Xn (own:=[6]) zg rfl (XC.a (own:=[6]) (Us (ZX Z0 (va 1) ZP))) (Zbo rfl jL rfl rfl (qS rfl) (qS rfl) (by decide) (by decide) (hp:=VS (Ve jL rfl (qS rfl)) (VS (Ve jL rfl (qS rfl)) Zcv)))
 (ZU (own2:=[6]) (Zet (own':=[6]) (Wc.pt (Ja (Wc.pt (Zes (Xd (Jd hr.units) (va 7) (va 3)) (ZcN (Xd (Jd hr.units) (va 8) (va 3))))) (Zcy (Xd (Znn) (Yb (jN.mono) hG hr (Zg (va 0) (Zg ZP Zm))) ZP))))
 (ZU (own2:=[6]) (Ur (own:=[6]) (i:=6) (by decide) (Xe (Zg (va 7) (Zg (va 8) Zm))) (λ_ h=>VQ (pv 6) h))
 (Yc (own:=[6])))
 Yc)
 (Yc (own:=[6]))))
 (ZU (own2:=[6]) (Yw (Xe (Zg (Yb (kd.mono) hG hr (Zg (va 0) (Zg (Xe (Zg (ZX Z0 (va 1) ZP) (Zg (Wx (UQ) rfl T.b_tuple TF.boot_tuple (Zg (va 6) Zm)) Zm))) Zm))) (Zg (va 2) Zm))))
 (Yc (own:=[6]))))))))
noncomputable def ZeU:Zb->M Out:=(Zf (ZO 1 (Ze Yk (dC (.int 10)) (Zr YS (Zc (Za 0) (Zc (dC (.int 15)) Zd)))))
 (Zf (Xt 2 (ZZ Zd))
 (Zf (Z9 (U1 (dC (.int 1)) (Za 1)) (Zv 3)
 (Zf (Z9 (YL (dC (.int 4))) (Zv 4)
 (Zf (Xz 2 (fun ρ=>(ZS (Zc (Zr YS (Zc (Za 0) (Zc (Za 3) Zd))) (Zc (Za 3) Zd))) (ZG [2] ρ)))
 Zk))
 Zk))
 (Zf (ZL (ZS (Zc (Za 1) (Zc (Zs WE (Zc (JR (Za 2)) Zd)) Zd))))
 Zk))))
noncomputable def UR:List D->M D:=runB 5 1 ZeU
theorem Za7:FnScope ["_law_pen","_law_n","_law_ties","_law_b","_law_k"] ["_law_pen"] (ZK ZbA):=YW
theorem ZdE (F:Fun K "_law_loose" "_law_loose" ZbA j9 jP)(T:Txt mg){L:List (Addr×Str)}(lo:Wl L)(jN:ZT P w K mg base 2 "_law_next" 2 true (Y2 (Xg K) L) YS) :
  FnOk P w K mg base ZV 3 j9 jP ["_law_pen"] (Yr 1 true (Y2 (Xg K) L) UR):=
 have jL:=Za7.nd
 Y4 (own:=[]) F Za7 λcdv A outer s H E hr G hG=>
 have hT:XJ L G:=jr lo hG
 (ZF (Y5 (Yi jL rfl (qS rfl) (YB XF ZP (Yb (jN.mono) hG hr (Zg (va 0) (Zg ZP Zm))))))
 (ZU (own2:=[2]) (Uq (Yi jL rfl (qS rfl) (Xj Zm)))
 (ZU (own2:=[2]) (Xn (own:=[2]) zg rfl (Zb8 rfl T.b_range ZP (va 1)) (Xr jL rfl (qS rfl) (by decide))
 (ZU (own2:=[2]) (Xn (own:=[2]) zg rfl (Vb rfl T.b_range ZP) (Xr jL rfl (qS rfl) (by decide))
 (ZU (own2:=[2]) (Ur (own:=[2]) (i:=2) (by decide) (Xe (Zg (Yb (jN.mono) hG hr (Zg (va 0) (Zg (va 3) Zm))) (Zg (va 3) Zm))) (λ_ h=>VQ (pv 2) h))
 (Yc (own:=[2]))))
 (Yc (own:=[2]))))
 (ZU (own2:=[2]) (Yw (Xe (Zg (va 1) (Zg (Wx (UQ) rfl T.b_tuple TF.boot_tuple (Zg (ZeO rfl hr.units rfl T.b_sorted TF.boot_sorted rfl T.b_set TF.boot_set (va 2)) Zm)) Zm))))
 (Yc (own:=[2]))))))
noncomputable def ZkH:Zb->M Out:=(Zf (Z9 (YL (dC (.int 3))) (Zv 2)
 (Zf (Yu (asB (Ze Yy (Za 2) (dC (.int 0))))
 (Zf (ZO 3 (Zr UR (Zc (Za 1) Zd)))
 (Zf (ZO 4 (Zr UT (Zc (Za 3) Zd)))
 Zk))
 (Zf (UL (VD 3 4) (Zr UP (Zc (Za 1) Zd)))
 Zk))
 (Zf (ZO 5 (Zr Jj (Zc (Za 3) Zd)))
 (Zf (Yu (WP (Vn (asB (Zs BD (Zc (Za 5) (Zc (dC (.ty "tuple")) Zd))))) (WP (asB (Ze Y8 (Ze Zn (Za 5) (dC (.int 0))) (Za 4))) (asB (Ze Y8 (Zs Ya (Zc (Ze Zn (Za 5) (dC (.int 1))) Zd)) (Za 4)))))
 (Zf (ZL (dC (.bl false)))
 Zk)
 Zk)
 (Zf (Yu (Vn (asB (Zr JG (Zc (Za 3) (Zc (Ze Zn (Za 5) (dC (.int 1))) Zd)))))
 (Zf (ZL (dC (.bl false)))
 Zk)
 Zk)
 Zk)))))
 (Zf (ZL (dC (.bl true)))
 Zk))
theorem ZgY:FnScope ["script","_law_pen","_law_k","_law_told","_law_known","_law_found"] ["script"] (ZK s_law):=YW
theorem Zmb {cdv:Value}{A:xC}{outer:List Env}{s:Shared}{H:Hp}{E:XK}{L:List (Addr×Str)}(lo:Wl L)(T:Txt mg)(hr:Room 55 (A.deeper (envOfC "law" (ZK s_law) s.heap.objs.size j9 cdv)))(jV:ZT P w K mg base 5 "_law_known_web" 1 true (Y2 (Xg K) L) UP)(ka:ZT P w K mg base 3 "_law_loose" 1 true (Y2 (Xg K) L) UR)(kb:ZT P w K mg base 2 "_law_most" 1 true Z4 UT)(jS:ZT P w K mg base 3 "_law_places_right" 2 false Z4 JG)(kD:ZT P w K mg base 55 "most" 1 true (XJ L) Jj)(G:Gh)(hG:(Y2 (Xg K) L) G) :
  X0 (Vj ZV P w K mg base ["script","_law_pen","_law_k","_law_told","_law_known","_law_found"] "law" (ZK s_law) j9 cdv A outer s H E).nox G [] [] [] false ((Wf s_law).drop 1) ZkH:=
 have jL:=ZgY.nd;have hT:XJ L G:=jr lo hG
 (ZF (Xn (own:=[]) zg rfl (Vb rfl T.b_range ZP) (Xr jL rfl (qS rfl) (by decide))
 (ZF (Va (Xd (Uz hr.units) (va 2) ZP)
 (ZF (Y5 (Yi jL rfl (qS rfl) (Yb (ka.mono) hG hr (Zg (va 1) Zm))))
 (ZF (Y5 (Yi jL rfl (qS rfl) (Yb (kb.mono) trivial hr (Zg (va 3) Zm))))
 Z7))
 (ZF (Zfx (Yb (jV.mono) hG hr (Zg (va 1) Zm)) (Zbo rfl jL rfl rfl (qS rfl) (qS rfl) (by decide) (by decide) (hp:=VS (Ve jL rfl (qS rfl)) (VS (Ve jL rfl (qS rfl)) Zcv))))
 Z7))
 (ZF (Y5 (Yi jL rfl (qS rfl) (Yb (kD.mono) hT hr (Zg (va 3) Zm))))
 (ZF (Va (Wc.pt (Ja (U0 (VW (Xq (B6) rfl T.b_isinstance TF.boot_isinstance (Zg (va 5) (Zg (Zhm rfl T.b_tuple TF.boot_tuple) Zm))))) (Ja (Xd (Jc hr.units) (ZX Z0 (va 5) ZP) (va 4)) (Zcy (Xd (Jc hr.units) (X3 T.b_len (Zg (ZX Z0 (va 5) ZP) Zm)) (va 4))))))
 (ZF (Yw (PD.weak WJ))
 Z7)
 Yc)
 (ZF (Va (U0 (VW (Yb (jS.mono) trivial hr (Zg (va 3) (Zg (ZX Z0 (va 5) ZP) Zm)))))
 (ZF (Yw (PD.weak WJ))
 Z7)
 Yc)
 Z7)))))
 (ZF (Yw (PD.weak WJ))
 Z7))
theorem ZbH:FnScope ["_law_pen","_law_many","_law_at","_law_cell","_law_found"] ["_law_pen","_law_many"] (ZK Zch):=⟨rfl,rfl,rfl,by decide +kernel,rfl,by decide +kernel,by decide +kernel⟩
theorem ZgZ {ds:List D}{s s':Pn}{d:D}(h:YS ds s=some (d,s')):∃m a hd ns,ds=[.pen,.int m]/\s=([a,hd],ns)/\0<m/\m<1073741824/\0<=a/\d=.int ((Xx m a hd ns).2 % m)/\s'=([(Xx m a hd ns).1,(Xx m a hd ns).2 / m],ns):=by
 unfold YS at h;split at h
 ·split at h
  ·rename_i m a hd ns c
   cases h
   exact⟨m,a,hd,ns,rfl,rfl,c.1,c.2.1,c.2.2,rfl,rfl⟩
  ·cases h
 ·cases h
theorem ZeV {P:xB}{w:World}{K:qm}{mg:Str->Option Value}{base:Heap}{j9:Addr}{jP:xA}(F:Fun K "_law_next" "_law_next" Zch j9 jP)(T:Txt mg)
  (kx:ZT P w K mg base 1 "_law_fill" 2 false Z4 Uj) (ZkW:∀c a s,0<=a->Uj [.int c,.int a] s=some (.int (W0 c a),s)) :
  FnOk P w K mg base ZV 2 j9 jP ["_law_pen","_law_many"] (Yr 2 true (Xg K) YS):=by
 have nd:=ZbH.nd;refine F.ok ZbH (λvs H Q E h=>?_) λcdv A outer s0 H vs Q E hr h=>?_
 ·obtain⟨G,Hf,ds,pn,d,pn',_,e,_⟩:=h
  exact e
 ·obtain⟨G,Hf,ds,pn,d,pn',hG,el,e1,r,st',eF,k'⟩:=h
  obtain⟨p,sa,tr,rfl⟩:=hG;obtain⟨m,a,hd,ns,rfl,rfl,m0,m1,a0,rfl,rfl⟩:=ZgZ eF;obtain⟨v1,v2,rfl,r1,r2⟩:=jo r
  cases (jp.mp r1)
  cases (ja.mp r2)
  obtain⟨a',h',ea,hp,ne,sq,t1,t2⟩:=st';simp only[qbK,and_true]at ea;obtain⟨rfl,rfl⟩:=ea
  -- behind: the pen's two numbers
  have fin:∀(H1:Hp) (x0 y0 x y:Int),BQ K p sa tr ([x0,y0],ns) H1->BQ K p sa tr ([x,y],ns) (Zl H1 p (.lst [.ref sa,.int x,.int y])):=λH1 x0 y0 x y ⟨_,_,_,_,_,sq,t1,t2⟩=>by
   refine⟨x,y,rfl,ZQ,ne,?_,λht=>?_,t2⟩
   ·rcases sq with(q | ⟨o,q⟩) | q
    ·exact .inl (.inl (by rw[Zx ne];exact q))
    ·exact .inl (.inr ⟨o,by rw[Zx ne];exact q⟩)
    ·exact .inr q
   ·obtain⟨o,q⟩:=t1 ht
    exact⟨o,by rw[Zx ne];exact q⟩
  have st0:BQ K p sa tr ([a,hd],ns) H:=⟨a,hd,rfl,hp,ne,sq,t1,t2⟩;have grH:∀(jU H1:Hp) o,Zz (V8 K p sa tr) jU H1->Gr (V8 K p sa tr) jU H1 jU (Zl H1 p o):=λjU H1 o e1=>
   ⟨λb u n q=>by rw[Zx (show b≠p from n)];exact q,.refl _ _,λb u n q=>by rw[Zx (show b≠p from n)];exact e1 b u n q,λb n h1 h2=>h1⟩
  refine⟨_,Vt (Zhe (Zcw Zjd (WI WC (pv 0) Xh (λ_ _=>rfl)) (pv 1) (Be _))
   (Vt (Ux (i:=2) nd rfl (qS rfl) (WI WC (pv 0) Xh (λ_ _=>rfl)))
   (Vt (Ux (i:=3) nd rfl (qS rfl) Xh)
   (Vt (Zhe (Zcw Zjd (pv 2) (UX BV rfl T.b_len TF.boot_len (YK (WI WC (pv 0) Xh (λ_ _=>rfl)) Xi)) (Be _))
    (J7 (Ux (i:=3) nd rfl (qS rfl) (WI WC (WI WC (pv 0) Xh (λ_ _=>rfl)) (pv 2) (λ_ _=>rfl))))
    (J7 (Zhe (Zcw Zms (UX BV rfl T.b_len TF.boot_len (YK (WI WC (pv 0) Xh (λ_ _=>rfl)) Xi)) Xh (Be _))
     (J7 (Ux (i:=3) nd rfl (qS rfl) (VC Zgf (VC Zen (WI WC (WI WC (pv 0) Xh (λ_ _=>rfl)) (VC Zen (VC Zgg (pv 2) Xh) (UX BV rfl T.b_len TF.boot_len (YK (WI WC (pv 0) Xh (λ_ _=>rfl)) Xi))) (λ_ _=>rfl)) Xh) (VC Zgg (pv 2) Xh))))
     Zel)))
   (Vt (Zem (VC Zgf (pv 2) Xh) (Zgc (pv 0) Xh ZcM))
   (J7 (Zem (PD.canon (ZjH (G:=V8 K p sa tr) kx trivial hr rfl (Zg (Zgl 3 (pv 3)) (Zg (Zgl 2 (pv 2)) Zm)) (YX (YX VT)))) (Zgc (pv 0) Xh ZcM)))))))
   Zel)
   (Vt (Ux (i:=4) nd rfl (qS rfl) (VC Zen (WI WC (pv 0) Xh (λ_ _=>rfl)) (pv 1)))
   (Vt (Zem (VC Zlf (WI WC (pv 0) Xh (λ_ _=>rfl)) (pv 1)) (Zgc (pv 0) Xh ZcM))
   (J7 (Zgb (pv 4))))),?_⟩
  -- pen[2]<many
  refine⟨_,rfl,p,[.ref sa,.int a,.int hd],2,.int hd,rfl,rfl,ZA.of hp,rfl,_,rfl,hd,m,rfl,rfl,_,rfl,?_⟩
  -- the last three rows,from any state of the pen
  have last:∀(x y:Int) (o2 o3 o4:Option V) (jU H1:Hp),Gr (V8 K p sa tr) Hf H jU H1->BQ K p sa tr ([x,y],ns) H1->x=(Xx m a hd ns).1->y=(Xx m a hd ns).2->
    Ju (V3 (Wk (rI (λ_ j=>0<j) λi j=>.int (i % j)) (Wk (BA K) (Yx 0) (tC (.int 2))) (Yx 1)) (Jo 4))
     (Ju (V3 (Wk (rI CDiv λi j=>.int (i / j)) (Wk (BA K) (Yx 0) (tC (.int 2))) (Yx 1)) (Bz (Yx 0) (tC (.int 2)) Bl)) (tRet (Yx 4))) { nx:=λ_ H'=>Q .non H',rt:=Q } [some (.ref p),some (.int m),o2,o3,o4] H1:=by
   intro x y o2 o3 o4 jU H1 g1 jW ex ey;obtain⟨x1,y1,exy,hp1,_⟩:=id jW;simp only[qbK,and_true]at exy;obtain⟨rfl,rfl⟩:=exy;refine⟨_,rfl,p,[.ref sa,.int x,.int y],2,.int y,rfl,rfl,ZA.of hp1,rfl,_,rfl,y,m,rfl,rfl,m0,?_⟩;refine⟨_,rfl,p,[.ref sa,.int x,.int y],2,.int y,rfl,rfl,ZA.of hp1,rfl,_,rfl,y,m,rfl,rfl,⟨m0,m1⟩,_,rfl,p,[.ref sa,.int x,.int y],2,2,rfl,rfl,hp1,rfl,?_⟩;refine⟨_,rfl,?_⟩;have jT:=fin H1 x y x (y / m) jW;subst ex ey;exact k' _ jU _ (g1.trans (grH _ _ _ g1.fh)) jT (ja.mpr rfl) λ_=>.scal λz=>z
  by_cases hlt:hd<m
  ·rw[decide_eq_true hlt]
   refine V5 ?_;refine⟨_,rfl,p,[.ref sa,.int a,.int hd],1,.int a,rfl,rfl,ZA.of hp,rfl,?_⟩
   -- the rest behind the cell
   have rest:∀c:Int,c=Br ns a->
     Ju (V3 (Wk (W7 λi j=>.int (i+j)) (Yx 2) (tC (.int 1))) (Bz (Yx 0) (tC (.int 1)) Bl)) (V3 (tOf (V8 K p sa tr) false (Zr Uj (Zc (Za 3) (Zc (Za 2) Zd)))) (Bz (Yx 0) (tC (.int 2)) Bl)) ({ nx:=(Ju (V3 (Wk (rI (λ_ j=>0<j) λi j=>.int (i % j)) (Wk (BA K) (Yx 0) (tC (.int 2))) (Yx 1)) (Jo 4)) (Ju (V3 (Wk (rI CDiv λi j=>.int (i / j)) (Wk (BA K) (Yx 0) (tC (.int 2))) (Yx 1)) (Bz (Yx 0) (tC (.int 2)) Bl)) (tRet (Yx 4))) { nx:=λ_ H'=>Q .non H',rt:=Q }),rt:=Q }:Ends) [some (.ref p),some (.int m),some (.int a),some (.int c),none] H:=by
    intro c ec;refine⟨_,rfl,a,1,rfl,rfl,_,rfl,p,[.ref sa,.int a,.int hd],1,1,rfl,rfl,hp,rfl,?_⟩;have g1:=grH Hf H (.lst [.ref sa,.int (a+1),.int hd]) e1;refine⟨Hf,[none,none,some (.int a),some (.int c)],([a+1,hd],ns),.int (W0 c a),([a+1,hd],ns),g1.fh,λi d e=>?_,fin H a hd (a+1) hd st0,?_,λv Hf' H' g st r _=>?_⟩
    ·match i,e with
     | 0,e=>cases e
     | 1,e=>cases e
     | 2,e=>cases e;exact⟨_,rfl,ja.mpr rfl⟩
     | 3,e=>cases e;exact⟨_,rfl,ja.mpr rfl⟩
     | i+4,e=>simp at e
    ·exact ZkW c a _ a0
    ·rw[ja.mp r]
     obtain⟨x1,y1,exy,hp1,_⟩:=id st;simp only[qbK,and_true]at exy;obtain⟨rfl,rfl⟩:=exy;refine⟨_,rfl,p,[.ref sa,.int (a+1),.int hd],2,2,rfl,rfl,hp1,rfl,?_⟩;refine last (a+1) (W0 c a) _ _ _ Hf' _ ((g1.trans g).trans (grH _ _ _ g.fh)) (fin H' _ _ _ _ st) ?_ ?_
     ·unfold Xx;rw[if_pos hlt]
     ·unfold Xx;rw[if_pos hlt,ec]
   refine⟨_,rfl,_,rfl,p,[.ref sa,.int a,.int hd],0,.ref sa,rfl,rfl,ZA.of hp,rfl,sa,ns.map V.int,rfl,.inl sq,a,_,rfl,rfl,_,rfl,?_⟩;have lm:((ns.map V.int).length:Int)=(ns.length:Int):=by simp
   by_cases h2:a<ns.length
   ·rw[lm,decide_eq_true h2]
    refine V5 ?_;have hi:a.toNat<ns.length:=by omega
    have gi:(ns.map V.int)[a.toNat]?=some (.int (ns.getD a.toNat 0)):=by simp[qbF,hi]
    have ai:XB (ns.map V.int) a=some (.int (ns.getD a.toNat 0)):=by
     have q:=Vf gi
     rwa[qbP a0]at q
    refine⟨_,rfl,p,[.ref sa,.int a,.int hd],0,.ref sa,rfl,rfl,ZA.of hp,rfl,_,rfl,sa,ns.map V.int,a,_,rfl,rfl,sq,ai,?_⟩;exact rest _ (by unfold Br;rw[if_pos h2])
   ·rw[lm,decide_eq_false h2]
    refine V4 ?_;refine⟨_,rfl,p,[.ref sa,.int a,.int hd],0,.ref sa,rfl,rfl,ZA.of hp,rfl,sa,ns.map V.int,rfl,.inl sq,_,0,rfl,rfl,_,rfl,?_⟩;by_cases h3:(0:Int)<ns.length
    ·rw[lm,decide_eq_true h3]
     refine V5 ?_;have j0:=qak (a*7) (show(ns.length:Int)≠0 by omega);have j1:=qaK (a*7) h3;have hi:(a*7 % (ns.length:Int)).toNat<ns.length:=by omega
     have gi:(ns.map V.int)[(a*7 % (ns.length:Int)).toNat]?=some (.int (ns.getD (a*7 % (ns.length:Int)).toNat 0)):=by simp[qbF,hi]
     have ai:XB (ns.map V.int) (a*7 % (ns.length:Int))=some (.int (ns.getD (a*7 % (ns.length:Int)).toNat 0)):=by
      have q:=Vf gi
      rwa[qbP j0]at q
     refine⟨_,rfl,p,[.ref sa,.int a,.int hd],0,.ref sa,rfl,rfl,ZA.of hp,rfl,_,rfl,a,7,rfl,rfl,.inr ⟨by decide,by decide⟩,_,rfl,p,[.ref sa,.int a,.int hd],0,.ref sa,rfl,rfl,ZA.of hp,rfl,sa,ns.map V.int,rfl,.inl sq,a*7,_,rfl,rfl,(by rw[lm];exact h3),sa,ns.map V.int,_,_,rfl,rfl,sq,(by rw[lm];exact ai),_,1000003,rfl,rfl,(by show(0:Int)<1000003;decide),_,rfl,a,1000003,rfl,rfl,.inr ⟨by decide,by decide⟩,_,_,rfl,rfl,?_⟩;exact rest _ (by unfold Br;rw[if_neg h2,if_pos (by omega)])
    ·rw[lm,decide_eq_false h3]
     refine V4 ?_;exact rest 0 (by unfold Br;rw[if_neg h2,if_neg (by omega)])
  ·rw[decide_eq_false hlt]
   refine V4 ?_;exact last a hd none none none Hf H (.refl e1) st0 (by unfold Xx;rw[if_neg hlt]) (by unfold Xx;rw[if_neg hlt])
end K14
namespace TF
open L2
theorem ux0 {α:Type}(us:List α)(e:us.length=0):us=[]:=by cases us with | nil=>rfl | cons=>cases e
theorem ux1 {α:Type}(us:List α)(e:us.length=1):∃a,us=[a]:=by
 cases us with | nil=>cases e | cons a r=>cases ux0 r (qcm e);exact⟨a,rfl⟩
theorem ux2 {α:Type}(us:List α)(e:us.length=2):∃a b,us=[a,b]:=by
 cases us with | nil=>cases e | cons a r=>obtain⟨b,rfl⟩:=ux1 r (qcm e);exact⟨a,b,rfl⟩
theorem ux3 {α:Type}(us:List α)(e:us.length=3):∃a b c,us=[a,b,c]:=by
 cases us with | nil=>cases e | cons a r=>obtain⟨b,c,rfl⟩:=ux2 r (qcm e);exact⟨a,b,c,rfl⟩
theorem ux4 {α:Type}(us:List α)(e:us.length=4):∃a b c d,us=[a,b,c,d]:=by
 cases us with | nil=>cases e | cons a r=>obtain⟨b,c,d,rfl⟩:=ux3 r (qcm e);exact⟨a,b,c,d,rfl⟩
noncomputable def IsC (K:qm)(x:Str)(st:Stmt)(c:Addr):Prop:=∃(f:Addr) (fd:xA),qcn K mainGlobals x=some (some (.ref f))/\Fun K x x st f fd/\fd.code=.ref c
noncomputable def fnO (x:Str)(st:Stmt)(pm:Value)(c:Addr):Obj:=⟨.type "function",none,.func (yQ x x (WD st) (Wf st) (ZK st) .none .none .none pm none (.ref c) .none),#[]⟩
noncomputable def cdO (x:Str)(t:Nat)(ln ac:Int)(a:Addr)(tx k:Nat)(v:Bool):Obj:=
 ⟨.type "code",none,.fields #[.str x t,.str x (t+1),.str "/claim/cut.py" (t+2),.int ln 0,.int ac 0,.int 0 0,.int 0 0,.int 3 0,.ref a,.bool true,.int tx 0,.ref (a+1),.none,
  (match v with | true=>.ref (a+2) | false=>.none),(match v with | true=>.ref (a+3) | false=>.none),.ref (match v with | true=>a+4 | false=>a+2),.int k 0,.int ln 0,.str "/claim/cut.py" (k+1)],#[]⟩
structure DRow where
 x:Str
 i:Nat
 t:Nat
 ln:Int
 ac:Int
 a:Addr
 k:Nat
 v:Bool
 pm:Str
 pt:Nat
noncomputable def DRow.c (r:DRow):Addr:=match r.v with | true=>r.a+5 | false=>r.a+3
noncomputable def dE (P:Params)(x:Str)(t:Nat)(v:Value):DictEntry:=⟨PyData.keyHash P x,.str x t,v⟩
noncomputable abbrev nE (x:Str)(t:Nat)(a:Addr):Str×Nat×Addr:=(x,t,a)
noncomputable abbrev dR (x:Str)(i t:Nat)(ln ac:Int)(a:Addr)(k:Nat)(v:Bool)(pm:Str)(pt:Nat):DRow:=⟨x,i,t,ln,ac,a,k,v,pm,pt⟩
noncomputable def dRs (P:Params)(l:List (Str×Nat×Addr)):List DictEntry:=l.map λe=>dE P e.1 e.2.1 (.ref e.2.2)
noncomputable def ZoA (ZR:Nat->Stmt)(tx:Nat)(m:List DictEntry)(n:Nat)(rs:List DRow):qm:=
 (mainNs,⟨.type "dict",none,.dict m.toArray n,#[]⟩)::rs.flatMap λr=>[(r.c,cdO r.x r.t r.ln r.ac r.a tx r.k r.v),(r.c+1,fnO r.x (ZR r.i) (.str r.pm r.pt) r.c)]
theorem ZoB {K:qm}{x:Str}{st:Stmt}{pm:Value}{c f:Addr}(a:qcn K mainGlobals x=some (some (.ref f)))(l:K.lookup f=some (fnO x st pm c))(cd:qbh K (.ref c) x=true):IsC K x st c:=
 ⟨f,_,a,Zni l cd (by unfold yK;dsimp only;rw[l];rfl),rfl⟩
noncomputable def ZnR:Stmt->Pos
 | .FunctionDef _ _ _ _ _ _ _ _ _ p=>p
 | _=>⟨0,0,0,0⟩
noncomputable abbrev Zg0 (st:Stmt):DefRec:=⟨"law",WD st,Wf st,ZK st,ZnR st⟩
theorem head_of {l:PySem.W.OpenLaw}{q:xB}{K:Params->qm}{as:List Addr}{e:∀P,as=(K P).map (·.1)}{N:Nat}{st:Stmt}(said:l.wellSaid=true)
  (left:PySem.W.LeftO l.prog q [] (λs=>PySem.W.xlAt q [] s&&PySem.W.recOk l.row.records s) (qaG K as e).obs (qaG K as e).val N)
  (hdef:PySem.W.defOf q l.row.name=some (Zg0 st,[])) (hp:l.row.prog.theDef l.row.name=some (WD st,Wf st,ZK st))
  (hk:PySem.W.kwWritten? (WD st).kwonlyargs (WD st).kw_defaults=some [])
  (ok:(PySem.W.chainsOk q&&PySem.W.opensWell l.row.prog&&(PySem.W.frees l.row.toRowW&&l.row.within.isEmpty))=true) (hb:l.row.prog.bare) (hw:l.row.toRowW.promised) (hwr:(!l.row.writes||l.row.records.isEmpty)=true)
  (call:qc0 q [] (PySem.W.XL q []) (qaG K as e).says l.row.toRowW (Zg0 st) [] λf vs=>qcR f vs):l.Holds:=
 PySem.W.holds_law said λsd=>PySem.W.holds_open left (qaG K as e).of (qaG K as e).keeps (λs z=>PySem.W.xl_of s (qas.mp z).1) PySem.W.XL.keeps hdef hp hk (λs z=>PySem.W.recFacts_of (qas.mp z).2) hwr sd ok hb hw call
noncomputable def AtR (K:qm)(mg:Str->Option Value)(ZR:Nat->Stmt)(r:DRow):Prop:=∃(f:Addr) (fd:xA),Fun K r.x r.x (ZR r.i) f fd/\mg r.x=some (.ref f)/\fd.code=.ref r.c
noncomputable def ZmJ (K:qm)(ZR:Nat->Stmt)(r:DRow):Prop:=qcn K mainGlobals r.x=some (some (.ref (r.c+1)))/\K.lookup (r.c+1)=some (fnO r.x (ZR r.i) (.str r.pm r.pt) r.c)/\qbh K (.ref r.c) r.x=true
noncomputable def ZeW (K:qm)(ZR:Nat->Stmt):List DRow->Prop
 | []=>True
 | r::l=>ZmJ K ZR r/\ZeW K ZR l
theorem Zf0 {K:qm}{ZR:Nat->Stmt}:∀{l:List DRow} {j:Nat} {r:DRow},ZeW K ZR l->l[j]?=some r->ZmJ K ZR r
 | _::_,0,_,h,e=>by cases e;exact h.1
 | _::l,j+1,_,h,e=>Zf0 (l:=l) h.2 e
theorem ZnS {K:qm}{h:Heap}{mg:Str->Option Value}{ZR:Nat->Stmt}{l:List DRow}(ok:ZeW K ZR l)(X:K.In h)(G:h.Ns mainGlobals mg)(j:Nat){r:DRow}(e:l[j]?=some r:=by rfl):AtR K mg ZR r:=by
 obtain⟨a,b,c⟩:=Zf0 ok e;obtain⟨f,fd,a,F,d⟩:=ZoB a b c;exact⟨f,fd,F,PySem.W.mg_of X G a,d⟩
theorem bdc {K:qm}{x:Str}{st:Stmt}{f:Addr}{fd:xA}(ps:List Str)(F:Fun K x x st f fd)
  (h:∀(kV doc pm:Value) (an:Option Addr) (cdv ct:Value) (us:List Value),us.length=ps.length->bindArgs (yQ x x (WD st) (Wf st) (ZK st) .none kV doc pm an cdv ct) ⟨us,[]⟩=pure (ps.zip us):=by
   intro _ _ _ _ _ _ us hl
   first
    | (obtain⟨_,rfl⟩:=TF.ux1 us hl;rfl)
    | (obtain⟨_,_,rfl⟩:=TF.ux2 us hl;rfl)
    | (obtain⟨_,_,_,rfl⟩:=TF.ux3 us hl;rfl)
    | (obtain⟨_,_,_,_,rfl⟩:=TF.ux4 us hl;rfl)
    | (obtain⟨_,_,_,_,_,rfl⟩:=TF.ux5 us hl;rfl)
    | (obtain⟨_,_,_,_,_,_,rfl⟩:=TF.ux6 us hl;rfl)
    | (obtain⟨_,_,_,_,_,_,_,rfl⟩:=TF.ux7 us hl;rfl)
    | (obtain rfl:=TF.ux0 us hl;rfl)):Wi K fd ps []:=F.binds h
theorem mkc {P:xB}{w:World}{K:qm}{mg:Str->Option Value}(base:Heap){x:Str}{st:Stmt}{f:Addr}{fd:xA}{k n:Nat}{ps:List Str}{fr:Bool}{GG:Gh->Prop}{F9:List D->M D}(F:Fun K x x st f fd)(m:mg x=some (.ref f))(ok:FnOk P w K mg base ZV k f fd ps (Yr n fr GG F9))
  (h:∀(kV doc pm:Value) (an:Option Addr) (cdv ct:Value) (us:List Value),us.length=ps.length->bindArgs (yQ x x (WD st) (Wf st) (ZK st) .none kV doc pm an cdv ct) ⟨us,[]⟩=pure (ps.zip us):=by
   intro _ _ _ _ _ _ us hl
   first
    | (obtain⟨_,rfl⟩:=TF.ux1 us hl;rfl)
    | (obtain⟨_,_,rfl⟩:=TF.ux2 us hl;rfl)
    | (obtain⟨_,_,_,rfl⟩:=TF.ux3 us hl;rfl)
    | (obtain⟨_,_,_,_,rfl⟩:=TF.ux4 us hl;rfl)
    | (obtain⟨_,_,_,_,_,rfl⟩:=TF.ux5 us hl;rfl)
    | (obtain⟨_,_,_,_,_,_,rfl⟩:=TF.ux6 us hl;rfl)
    | (obtain⟨_,_,_,_,_,_,_,rfl⟩:=TF.ux7 us hl;rfl)
    | (obtain rfl:=TF.ux0 us hl;rfl)):ZT P w K mg base k x n fr GG F9:=⟨f,fd,ps,ok,m,F.kp,F.binds h⟩
end TF
namespace TP2
open L2 TF TP
noncomputable abbrev nD (i:Nat):D:=.int (i:Int)
noncomputable def ZW (k:List Nat):D:=.tup (k.map nD)
noncomputable def Wd (jJ:Qa)(i:Nat)(k:List Nat):Bool:=k.all λo=>decide ((o,i)∈jJ)
noncomputable def kn (jJ:Qa):Nat->List (List Nat)
 | 0=>[[]]
 | i+1=>kn jJ i++((kn jJ i).filter (Wd jJ i)).map (· ++ [i])
theorem Jk {jJ:Qa}:∀{i:Nat} {k:List Nat},k∈kn jJ i->(∀o∈k,o<i)/\k.length<=i
 | 0,k,h=>by
  have:k=[]:=by simpa[kn]using h
  subst this;simp
 | i+1,k,h=>by
  rw[kn]at h;rcases qR.mp h with h | h
  ·have:=Jk h
   exact⟨λo ho=>zQ (this.1 o ho),by omega⟩
  ·obtain⟨q,hq,rfl⟩:=qu.mp h
   have:=Jk (qO.mp hq).1;refine⟨λo ho=>?_,by simp;omega⟩;rcases qR.mp ho with ho | ho
   ·exact zQ (this.1 o ho)
   ·rw[qz.mp ho];omega
theorem ZhK (jJ:Qa):∀i,∃r,kn jJ i=[]::r
 | 0=>⟨[],rfl⟩
 | i+1=>by
  obtain⟨r,e⟩:=ZhK jJ i;refine⟨r++((kn jJ i).filter (Wd jJ i)).map (· ++ [i]),?_⟩;rw[kn]
  conv=>lhs;lhs;rw[e]
  rfl
theorem ZkI (p:Nat×Nat)(jJ:Qa):Y0 (Zq p) (.dt (YI [] jJ))=some (.bl (decide (p∈jJ))):=by
 have e:V7 (Zq p) (.dt (YI [] jJ))=some (decide (p∈jJ)):=by
  show(XI [.int (p.1:Int),.int (p.2:Int)]).map (λk=>(Z8 (YI [] jJ) k).isSome)=_;show some ((Z8 (YI [] jJ) (XR p)).isSome)=_;rw[Zfu];simp[Z8]
 unfold Y0;rw[e];rfl
theorem Zmc (k:List Nat)(i:Nat)(h:k.length<=1000):Yk (ZW k) (.tup [nD i])=some (ZW (k ++ [i])):=by
 unfold ZW;show(if (k.map nD).length + [nD i].length<=xg then some (D.tup (k.map nD ++ [nD i]))else none)=_;rw[if_pos (by rw[qd,YA];simp;omega),zE];rfl
noncomputable def Y1 (n:Nat)(jJ:Qa)(p:Nat):List Nat:=(qk n).filter λo=>tied jJ p o
noncomputable def ZnT (n:Nat)(jJ:Qa):D:=.lst ((qk n).map λp=>.lst ((Y1 n jJ p).map nD))
theorem ZnU (a b:Nat):ZB (nD a) (nD b)=decide (a=b):=by
 show((a:Int)==(b:Int))=_;rw[qal,beq_iff_eq,decide_eq_true_eq];constructor <;> intro h <;> omega
theorem ZkJ (o:Nat)(l:List Nat):XV (nD o) (l.map nD)=decide (o∈l):=by
 unfold XV
 induction l with
 | nil=>simp
 | cons t ts ih=>
  rw[zc,qaF,ih,ZnU];by_cases h:t=o
  ·subst h;simp
  ·have:¬o=t:=λz=>h z.symm
   simp[h,this]
theorem Zbk (l:List Nat):Yl (l.map nD)=true:=by
 induction l with
 | nil=>simp[Yl]
 | cons a l ih=>simp[Yl,Zo,ih]
theorem ZeX (l:List Nat):Xf (l.map nD)=0:=by
 induction l with
 | nil=>simp[Xf]
 | cons a l ih=>simp[Xf,Z1,ih]
theorem ZkK (o:Nat)(l:List Nat):Y0 (nD o) (.lst (l.map nD))=some (.bl (decide (o∈l))):=by
 have h:XO (nD o) (l.map nD)=true:=by simp[XO,Zo,Zbk,Z1,ZeX]
 simp only[Y0,V7,h,if_true,Option.map,ZkJ]
noncomputable def XE (l:List Nat):Nat:=l.foldl max 0
theorem ZeY (l:List Nat):∀a,a<=l.foldl max a/\∀x∈l,x<=l.foldl max a:=by
 induction l with
 | nil=>intro a;simp
 | cons b l ih=>
  intro a;obtain⟨h1,h2⟩:=ih (max a b);refine⟨?_,λx hx=>?_⟩
  ·show a<=l.foldl max (max a b);omega
  ·show x<=l.foldl max (max a b)
   rcases qq.mp hx with rfl | hx
   ·omega
   ·exact h2 x hx
theorem ZeZ (l:List Nat)(b:Nat)(h:∀x∈l,x<=b):∀a,a<=b->l.foldl max a<=b:=by
 induction l with
 | nil=>intro a ha;exact ha
 | cons c l ih=>
  intro a ha;exact ih (λx hx=>h x (by simp[hx])) (max a c) (by have:=h c (by simp);omega)
theorem Zf1 (l:List Nat):∀a:Nat,Xp (a:Int) (l.map λ(i:Nat)=>(i:Int))=((l.foldl max a:Nat):Int):=by
 induction l with
 | nil=>intro a;rfl
 | cons b l ih=>
  intro a;show Xp (max (a:Int) (b:Int)) (l.map λ(i:Nat)=>(i:Int))=_;rw[show max (a:Int) (b:Int)=((max a b:Nat):Int) by omega,ih];rfl
theorem ZaY (l:List Nat):ZM (l.map nD)=some (l.map λ(i:Nat)=>(i:Int)):=by
 have:=JL (l.map λ(i:Nat)=>(i:Int));rw[qN]at this;exact this
theorem ZiS (l:List Nat)(h:∃r,l=0::r):V0 [.lst (l.map nD)]=some (nD (XE l)):=by
 obtain⟨r,rfl⟩:=h;show(match ZM ((0::r).map nD)with | some (n::r)=>some (D.int (Xp n r)) | _=>none)=_;rw[ZaY];show some (D.int (Xp ((0:Nat):Int) (r.map λ(i:Nat)=>(i:Int))))=_;rw[Zf1];rfl
noncomputable def UF (jJ:Qa)(n:Nat):List Nat:=(kn jJ n).map qaM
theorem ZiT (jJ:Qa)(n:Nat):∃r,UF jJ n=0::r:=by
 obtain⟨r,e⟩:=ZhK jJ n;exact⟨r.map qaM,by unfold UF;rw[e];rfl⟩
theorem Zf2:∀{a b:List Nat},a.Pairwise (· < ·)->b.Pairwise (· < ·)->(∀x,x∈a↔x∈b)->a=b
 | [],[],_,_,_=>rfl
 | [],y::b,_,_,h=>absurd ((h y).mpr (by simp)) (by simp)
 | x::a,[],_,_,h=>absurd ((h x).mp (by simp)) (by simp)
 | x::a,y::b,ha,hb,h=>by
  have ha':=yf.mp ha;have hb':=yf.mp hb;have e:x=y:=by
   have h1:=(h x).mp (by simp);have h2:=(h y).mpr (by simp);rcases qq.mp h1 with h1 | h1
   ·exact h1
   ·rcases qq.mp h2 with h2 | h2
    ·exact h2.symm
    ·have:=ha'.1 y h2
     have:=hb'.1 x h1;omega
  subst e;rw[Zf2 ha'.2 hb'.2 λz=>?_];constructor
  ·intro hz
   rcases qq.mp ((h z).mp (qQ _ hz))with e | e
   ·exact absurd (ha'.1 z hz) (by omega)
   ·exact e
  ·intro hz
   rcases qq.mp ((h z).mpr (qQ _ hz))with e | e
   ·exact absurd (hb'.1 z hz) (by omega)
   ·exact e
theorem Zeb {α:Type}(q:α->Bool):∀l:List α,l.length=(l.filter q).length+(l.filter λx=>!q x).length
 | []=>rfl
 | a::l=>by
  have:=Zeb q l
  cases h:q a with
  | true=>simp[yz,h];omega
  | false=>simp[yz,h];omega
noncomputable def RT (jJ:Qa)(a b:Nat):Prop:=a<b/\(a,b)∈jJ
theorem Jl {jJ:Qa}:∀{n:Nat} {k:List Nat},k∈kn jJ n↔k.Pairwise (RT jJ)/\∀o∈k,o<n
 | 0,k=>by
  constructor
  ·intro h
   have:k=[]:=by simpa[kn]using h
   subst this;exact⟨.nil,by simp⟩
  ·rintro⟨_,h⟩
   cases k with
   | nil=>simp[kn]
   | cons a k=>exact absurd (h a (by simp)) (by omega)
 | n+1,k=>by
  rw[kn,qR];constructor
  ·rintro(h | h)
   ·have:=Jl.mp h
    exact⟨this.1,λo ho=>zQ (this.2 o ho)⟩
   ·obtain⟨q,hq,rfl⟩:=qu.mp h
    obtain⟨hq1,hq2⟩:=qO.mp hq;have:=Jl.mp hq1;unfold Wd at hq2;rw[yh]at hq2;refine⟨qW.mpr ⟨this.1,by simp,λa ha b hb=>?_⟩,λo ho=>?_⟩
    ·rw[qz.mp hb]
     exact⟨this.2 a ha,by simpa using hq2 a ha⟩
    ·rcases qR.mp ho with ho | ho
     ·exact zQ (this.2 o ho)
     ·rw[qz.mp ho];omega
  ·rintro⟨h1,h2⟩
   by_cases hn:n∈k
   ·right
    obtain⟨a,b,rfl⟩:=List.append_of_mem hn;have hp:=qW.mp h1;have hb:b=[]:=by
     cases b with
     | nil=>rfl
     | cons y b=>
      have r1:=(yf.mp hp.2.1).1 y (by simp);have:=h2 y (by simp);have:=r1.1;omega
    subst hb;have ha:∀o∈a,RT jJ o n:=λo ho=>hp.2.2 o ho n (by simp);refine qu.mpr ⟨a,qO.mpr ⟨Jl.mpr ⟨hp.1,λo ho=>(ha o ho).1⟩,?_⟩,rfl⟩;unfold Wd;rw[yh];exact λo ho=>by simpa using(ha o ho).2
   ·left
    refine Jl.mpr ⟨h1,λo ho=>?_⟩;have:=h2 o ho;have:o≠n:=λz=>hn (z▸ho);omega
theorem Zdk (jJ:Qa):∀n,(kn jJ n).Nodup
 | 0=>by simp[kn]
 | n+1=>by
  rw[kn];refine qW.mpr ⟨Zdk jJ n,?_,λa ha b hb e=>?_⟩
  ·refine zp.mpr (((Zdk jJ n).sublist zu).imp λh e=>h ?_)
   exact List.append_cancel_right e
  ·obtain⟨q,_,rfl⟩:=qu.mp hb
   have:=(Jk ha).1 n (by rw[e];simp);omega
theorem Zmd {jJ:Qa}{n:Nat}{k:List Nat}(h:k∈kn jJ n):k.Pairwise (· < ·):=(Jl.mp h).1.imp λh=>h.1
theorem ZkL {R:Nat->Nat->Prop}{k:List Nat}(hr:k.Pairwise (· < ·))(h:k.Pairwise R){a b:Nat}(ha:a∈k)(hb:b∈k)(hab:a<b):R a b:=by
 obtain⟨i,hi,rfl⟩:=qc9 ha;obtain⟨j,hj,rfl⟩:=qc9 hb;have p1:=zx.mp hr;have p2:=zx.mp h;rcases qbt i j with z | z | z
 ·exact p2 i j hi hj z
 ·subst z;exact absurd hab (yI _)
 ·have:=p1 j i hj hi z;omega
end TP2
namespace TP3
open L2 TF TP TS
open TP2
noncomputable def YN (k:List Nat):List Int:=k.map λ(x:Nat)=>(x:Int)
theorem VY {n:Nat}{jJ:Qa}{k:List Nat}:k∈kn jJ n↔k.Pairwise (· < ·)/\(∀o∈k,o<n)/\∀a∈k,∀b∈k,a≠b->tied jJ a b=true:=by
 rw[Jl];constructor
 ·rintro⟨h1,h2⟩
  have hr:k.Pairwise (· < ·):=h1.imp λh=>h.1;refine⟨hr,h2,λa ha b hb hab=>?_⟩;by_cases hlt:a<b
  ·rw[ZcD hlt];simpa using(ZkL hr h1 ha hb hlt).2
  ·have hlt:b<a:=by omega
   rw[B8,ZcD hlt];simpa using(ZkL hr h1 hb ha hlt).2
 ·rintro⟨hr,h2,h3⟩
  refine⟨?_,h2⟩;refine yA (λ{a b} ha hb hab=>?_) hr;refine⟨hab,?_⟩;have:=h3 a ha b hb (by omega);rw[ZcD hab]at this;simpa using this
theorem Zbl (n:Nat):(qk n).Pairwise (· < ·):=qcE
theorem Zbm {k:List Nat}(h:k.Pairwise (· < ·)):k.Nodup:=h.imp λh=>by omega
section
variable {m n:Nat}{f:Nat->Nat}{tm tn:Qa}
theorem Vs {α:Type}[BEq α][LawfulBEq α]:∀{a b:List α},a.Nodup->(∀x∈a,x∈b)->a.length<=b.length
 | [],_,_,_=>by simp
 | x::a,b,nd,h=>by
  have nd':=zU.mp nd;have hx:=h x (by simp);have ih:=Vs (a:=a) (b:=b.erase x) nd'.2 λy hy=>(qcW (λ(z:y=x)=>nd'.1 (by rw[<-z];exact hy))).mpr (h y (by simp[hy]));have:=qcl hx;have:0<b.length:=qcF hx;simp only[qL];omega
theorem Zme {l:List Nat}(h:∃r,l=0::r):XE l∈l:=by
 have key:∀(l:List Nat) (a:Nat),l.foldl max a=a∨l.foldl max a∈l:=by
  intro l
  induction l with
  | nil=>intro a;exact .inl rfl
  | cons b l ih=>
   intro a;show l.foldl max (max a b)=a∨l.foldl max (max a b)∈b::l;rcases ih (max a b)with e | e
   ·rcases qbM a b with h | h
    ·right;rw[e,qbE h];simp
    ·left;rw[e,qcy h]
   ·right;exact qQ _ e
 obtain⟨r,rfl⟩:=h;rcases key (0::r) 0 with e | e
 ·unfold XE;rw[e];simp
 ·exact e
theorem Zg1 {l:List Nat}{x:Nat}(h:x∈l):x<=XE l:=(ZeY l 0).2 x h
end
theorem ZbI (jJ:Qa)(a b:Nat)(s:Pn):WT [.dt (YI [] jJ),.int a,.int b] s=some (.bl (tied jJ a b),s):=by
 simp[WT,ZcW,runB,Zf,ZL,Zk,Ze,Zs,Zc,Zd,ZS,Za,Zp,Zy,YV,VE,Bo,two_le,ZcY,ZkI,tied]
theorem ZcG {as:List Nat}{j:Nat}(hj:j<as.length):XB (as.map nD) (j:Int)=some (nD (as.getD j 0)):=by
 refine Vf ?_;rw[qH,qP,qG hj];rfl
theorem Zb4 (ps:List Nat):Ya [.lst (ps.map nD)]=some (nD ps.length):=by
 show some (D.int ((ps.map nD).length:Nat))=_;rw[qd]
theorem Zmf {d:D}(h:Zo d=true)(hd:Z1 d<=60):Y8 d d=some (.bl false):=by
 unfold Y8 Wq;rw[if_pos (by simp[h,hd]),Zbp d h];rfl
theorem Zmg {d:D}(h:Zo d=true)(hd:Z1 d<=60):Yy d d=some (.bl true):=by
 unfold Yy Wq;rw[if_pos (by simp[h,hd]),Zbp d h]
theorem Zf3:∀{ds:List D},(∀d∈ds,Zo d=true)->Yl ds=true
 | [],_=>by simp[Yl]
 | d::ds,h=>by
  simp only[Yl,zl];exact⟨h d (by simp),Zf3 λd hd=>h d (by simp[hd])⟩
section
variable (ap:Nat->Nat->Bool)
noncomputable def Xa (ps:List Nat)(p:Nat):Nat:=(ps.filter λo=>ap p o).length
noncomputable def YT (ps:List Nat)(p:Nat):List Nat:=ps.filter λo=>!decide (o=p) && !ap p o
noncomputable def Yd (ps:List Nat):Nat:=ps.getD ((ps.map (Xa ap ps)).idxOf (XE (ps.map (Xa ap ps)))) 0
structure KnA (ps K:List Nat):Prop where
 nd:K.Nodup
 sub:∀x∈K,x∈ps
 two:∀x∈K,∀y∈K,x≠y->ap x y=false
end
section
variable {ap:Nat->Nat->Bool}
theorem Ze0 {l:List Nat}(h:l≠[]):XE l∈l:=by
 have:=Zme (l:=0::l) ⟨l,rfl⟩;have e:XE (0::l)=XE l:=rfl;rw[e]at this;rcases qq.mp this with z | z
 ·cases l with
  | nil=>exact absurd rfl h
  | cons a r=>
   have h1:=Zg1 (l:=a::r) (x:=a) (by simp);have h2:a=0:=by omega
   rw[z,h2];simp
 ·exact z
theorem Zmh {ps:List Nat}(f:Nat->Nat){v:Nat}(h:v∈ps.map f):ps.getD ((ps.map f).idxOf v) 0∈ps/\f (ps.getD ((ps.map f).idxOf v) 0)=v:=by
 have hl:=qbe.mpr h;have e:=List.getElem_idxOf hl;rw[List.getElem_map]at e;have hl':(ps.map f).idxOf v<ps.length:=by simpa using hl
 rw[qP,qG hl'];exact⟨qbD hl',e⟩
theorem BZ {ps:List Nat}(h:ps≠[]):Yd ap ps∈ps:=(Zmh (Xa ap ps) (Ze0 (by simpa using h))).1
theorem Ul {ps:List Nat}{p:Nat}:∀x∈YT ap ps p,x∈ps/\x≠p/\ap p x=false:=λx hx=>by
 obtain⟨h1,h2⟩:=qO.mp hx;simp only[zl,yV,decide_eq_false_iff_not]at h2;exact⟨h1,h2.1,h2.2⟩
theorem Zec {ps:List Nat}{p:Nat}(h:p∈ps)(f:Nat->Bool)(hf:f p=false):(ps.filter f).length<ps.length:=by
 induction ps with
 | nil=>simp at h
 | cons a r ih=>
  have hr:=qam f r;rcases qq.mp h with e | h
  ·subst e
   rw[qbr (by simpa using hf)];simp only[qL];omega
  ·have:=ih h
   by_cases fa:f a=true
   ·rw[qcv fa];simp only[qL];omega
   ·rw[qbr fa];simp only[qL];omega
theorem Zf4 {ps:List Nat}{p:Nat}(h:p∈ps):(YT ap ps p).length<ps.length:=Zec h _ (by simp)
theorem Zdl {ps:List Nat}{p:Nat}(h:p∈ps):(ps.filter λo=>!decide (o=p)).length<ps.length:=Zec h _ (by simp)
theorem jG {ps K:List Nat}{p:Nat}(sy:∀a b,ap a b=ap b a)(hp:p∈ps)(h:KnA ap (YT ap ps p) K):KnA ap ps (p::K) where
 nd:=zU.mpr ⟨λz=>(Ul p (h.sub p z)).2.1 rfl,h.nd⟩
 sub:=λx hx=>by
  rcases qq.mp hx with e | hx
  ·rw[e];exact hp
  ·exact(Ul x (h.sub x hx)).1
 two:=λx hx y hy ne=>by
  rcases qq.mp hx with e | hx
  ·rcases qq.mp hy with e' | hy
   ·exact absurd (e.trans e'.symm) ne
   ·rw[e];exact(Ul y (h.sub y hy)).2.2
  ·rcases qq.mp hy with e' | hy
   ·rw[e',sy];exact(Ul x (h.sub x hx)).2.2
   ·exact h.two x hx y hy ne
theorem KnA.mono {ps qs K:List Nat}(h:KnA ap ps K)(s:∀x∈ps,x∈qs):KnA ap qs K:=⟨h.nd,λx hx=>s x (h.sub x hx),h.two⟩
theorem KnA.rest {ps K:List Nat}{p:Nat}(h:KnA ap ps K):KnA ap (YT ap ps p) (K.filter λo=>!decide (o=p) && !ap p o) where
 nd:=h.nd.sublist zu
 sub:=λx hx=>by
  obtain⟨h1,h2⟩:=qO.mp hx;exact qO.mpr ⟨h.sub x h1,h2⟩
 two:=λx hx y hy=>h.two x (qO.mp hx).1 y (qO.mp hy).1
theorem ZiU (ir:∀a,ap a a=false){K:List Nat}{p:Nat}{ps:List Nat}(h:KnA ap ps K)(hm:p∈K∨Xa ap ps p<=1):K.length<=(K.filter λo=>!decide (o=p) && !ap p o).length+1:=by
 have e:=Zeb (λo=>!decide (o=p) && !ap p o) K;have hd:(K.filter λo=>!(!decide (o=p) && !ap p o)).length<=1:=by
  have nd:(K.filter λo=>!(!decide (o=p) && !ap p o)).Nodup:=h.nd.sublist zu;by_cases hp:p∈K
  ·have:=Vs (b:=[p]) nd λx hx=>by
    obtain⟨h1,h2⟩:=qO.mp hx;by_cases z:x=p
    ·simp[z]
    ·have:=h.two p hp x h1 (zH z)
     simp[z,this]at h2
   simpa using this
  ·have hc:=hm.resolve_left hp
   have:=Vs (b:=ps.filter λo=>ap p o) nd λx hx=>by
    obtain⟨h1,h2⟩:=qO.mp hx;have z:x≠p:=λz=>hp (z▸h1);simp[z]at h2;exact qO.mpr ⟨h.sub x h1,h2⟩
   unfold Xa at hc;omega
 omega
end
noncomputable def Xm (l:List Nat):List (Zt×V):=l.map λ(o:Nat)=>(yt (o:Int),V.bl true)
theorem Ze1 {x:Nat}:∀l:List Nat,Z8 (Xm l) (yt (x:Int))=if x∈l then some (.bl true)else none
 | []=>rfl
 | q::qs=>by
  by_cases e:q=x
  ·subst e
   show Z8 ((yt (q:Int),V.bl true)::Xm qs) _=_;rw[Wz rfl];simp
  ·have hn:¬((yt (q:Int):Zt)=yt (x:Int)):=λz=>by
    have:=qdh z;omega
   show Z8 ((yt (q:Int),V.bl true)::Xm qs) _=_;rw[WA hn,Ze1 qs];have:x≠q:=λz=>e z.symm;simp[this]
theorem ZkM:∀(l:List Nat) (acc:List (Zt×V)),l.Nodup->(∀x∈l,Z8 acc (yt (x:Int))=none)->WK acc (l.map λo=>D.tup [nD o,.bl true])=some (acc++Xm l)
 | [],acc,_,_=>by simp[WK,Xm]
 | p::ps,acc,nd,h=>by
  have nd':=zU.mp nd;show WK (Yp acc (yt (p:Int)) (.bl true)) (ps.map λo=>D.tup [nD o,.bl true])=_;rw[ZkM ps _ nd'.2 λx hx=>?_,Zjn _ (h p (by simp))]
  ·show some ((acc ++ [_])++Xm ps)=some (acc++(_::Xm ps))
   simp
  ·rw[Zfe,if_neg (λz=>nd'.1 (by
    have:=qdh z;have:x=p:=by omega
    exact this▸hx))]
   exact h x (by simp[hx])
theorem ZnV (l:List Nat)(x:Nat):Y0 (nD x) (.dk (Xm l))=some (.bl (decide (x∈l))):=by
 show((some (yt (x:Int):Zt)).map λk=>(Z8 (Xm l) k).isSome).map D.bl=_;simp only[ye];rw[Ze1];by_cases h:x∈l <;> simp[h]
theorem ZiV (l:List Nat)(x:Nat):WF (nD x) (.dk (Xm l))=some (.bl (!decide (x∈l))):=by
 show((some (yt (x:Int):Zt)).map λk=>(Z8 (Xm l) k).isSome).map (λb=>D.bl (!b))=_;simp only[ye];rw[Ze1];by_cases h:x∈l <;> simp[h]
noncomputable def Y3 (n:Nat)(A:Nat->List Nat):D:=.lst ((qk n).map λp=>.dk (Xm (A p)))
theorem ZkN {n p:Nat}{A:Nat->List Nat}(h:p<n):Zn (Y3 n A) (nD p)=some (.dk (Xm (A p))):=by
 show XB _ (p:Int)=_;refine Vf ?_;rw[qH,yX h];rfl
section
variable {n:Nat}{A:Nat->List Nat}{ap:Nat->Nat->Bool}
theorem Ze2 (a b:Nat):Y8 (nD a) (nD b)=some (.bl (!decide (a=b))):=by
 rw[nei];congr 3;rw[qal,beq_iff_eq,decide_eq_true_eq];constructor <;> intro h <;> omega
theorem Zmi {ds es:List D}(h:ds.length+es.length<=100000):Yk (.lst ds) (.lst es)=some (.lst (ds++es)):=by
 show(if ds.length+es.length<=xg then some (D.lst (ds++es))else none)=_;rw[if_pos (by rw[YA];omega)]
theorem ZnW (ds:List D)(hp:Yl ds=true)(hd:Xf ds<=10):Yy (.lst ds) (.lst [])=some (.bl (decide (ds=[]))):=by
 have hok:Wq (.lst ds) (.lst [])=true:=by
  unfold Wq;simp[Zo,Z1,Yl,Xf,hp];omega
 unfold Yy;rw[if_pos hok]
 cases ds with
 | nil=>rfl
 | cons a r=>rfl
theorem Zf5 {l:List Nat}(h:l≠[]):V0 [.lst (l.map nD)]=some (nD (XE l)):=by
 cases l with
 | nil=>exact absurd rfl h
 | cons m r=>
  have e:ZM ((m::r).map nD)=some ((m:Int)::r.map λ(i:Nat)=>(i:Int)):=ZaY (m::r);show(match ZM ((m::r).map nD)with | some (n::r)=>some (D.int (Xp n r)) | _=>none)=_;rw[e];show some (D.int (Xp (m:Int) (r.map λ(i:Nat)=>(i:Int))))=_;rw[Zf1 r m];have e2:XE (m::r)=r.foldl max m:=by
   show r.foldl max (max 0 m)=_;rw[qbE (zC m)]
  rw[e2]
theorem Zg2 {l:List Nat}{v:Nat}(h:v∈l):ZeF (.lst (l.map nD)) (nD v)=some (nD (l.idxOf v)):=by
 show((ZM (l.map nD)).bind λns=>if (v:Int)∈ns then some (D.int (ns.idxOf (v:Int):Nat))else none)=_;rw[ZaY];show(if (v:Int)∈l.map (λ(i:Nat)=>(i:Int))then some (D.int ((l.map λ(i:Nat)=>(i:Int)).idxOf (v:Int):Nat))else none)=_;rw[if_pos (qu.mpr ⟨v,h,rfl⟩)];have:(l.map λ(i:Nat)=>(i:Int)).idxOf (v:Int)=l.idxOf v:=by
  clear h
  induction l with
  | nil=>rfl
  | cons a r ih=>
   rw[zc,List.idxOf_cons,List.idxOf_cons,ih];have:((a:Int)==(v:Int))=(a==v):=by
    rw[qal,beq_iff_eq,beq_iff_eq];constructor <;> intro h <;> omega
   rw[this]
 rw[this]
end
noncomputable def Ye (n:Nat)(jJ:Qa):Qa:=(YU n).filter λp=>!decide (p∈jJ)
theorem ZiW (n:Nat)(jJ:Qa):Yn n (Ye n jJ):=Yn.filter _
theorem Vu {jJ:Qa}{a b:Nat}:tied jJ a b=true↔(min a b,max a b)∈jJ:=by unfold tied;exact decide_eq_true_iff
theorem Za1 {n:Nat}{jJ:Qa}{a b:Nat}:tied (Ye n jJ) a b=true↔a<n/\b<n/\a≠b/\tied jJ a b=false:=by
 rw[Vu];unfold Ye;rw[qO,VU];have e:tied jJ a b=decide ((min a b,max a b)∈jJ):=rfl;rw[e];simp only[yV,decide_eq_false_iff_not];constructor
 ·rintro⟨⟨h1,h2⟩,h3⟩
  exact⟨by omega,by omega,by omega,h3⟩
 ·rintro⟨h1,h2,h3,h4⟩
  exact⟨⟨by omega,by omega⟩,h4⟩
theorem ZdF {n:Nat}{jJ:Qa}(p o:Nat):tied (Ye n jJ) p o=decide (o∈Y1 n (Ye n jJ) p):=by
 unfold Y1;rw[qal,decide_eq_true_iff,qO,qD];exact⟨λh=>⟨(Za1.mp h).2.1,h⟩,λh=>h.2⟩
theorem ZkO {n:Nat}{jJ:Qa}(a:Nat):tied (Ye n jJ) a a=false:=by
 cases h:tied (Ye n jJ) a a with
 | false=>rfl
 | true=>exact absurd rfl (Za1.mp h).2.2.1
noncomputable def UA (n:Nat)(b:List Nat):List Nat:=(qk n).filter λx=>decide (x∈b)
theorem B0 {n:Nat}{b:List Nat}(nd:b.Nodup)(h:∀x∈b,x<n):(UA n b).Perm b:=by
 refine(zT (zN.sublist zu) nd).mpr λa=>?_;rw[qO,qD,decide_eq_true_iff];exact⟨λz=>z.2,λz=>⟨h a z,z⟩⟩
theorem ZaZ (n:Nat)(b:List Nat):(UA n b).Pairwise (· < ·):=(Zbl n).sublist zu
noncomputable def WH (a k:List Nat):List Nat:=if a.length<k.length then k else a
noncomputable def By (n:Nat)(jJ:Qa):List Nat:=(kn jJ n).foldl WH []
theorem Zcm:∀(l:List (List Nat)) (a:List Nat),(l.foldl WH a=a∨l.foldl WH a∈l)/\a.length<=(l.foldl WH a).length/\∀k∈l,k.length<=(l.foldl WH a).length
 | [],a=>⟨.inl rfl,qp _,λk h=>by cases h⟩
 | x::r,a=>by
  obtain⟨h1,h2,h3⟩:=Zcm r (WH a x);have h4:a.length<=(WH a x).length/\x.length<=(WH a x).length/\(WH a x=a∨WH a x=x):=by
   unfold WH;split
   ·exact⟨by omega,qp _,.inr rfl⟩
   ·exact⟨qp _,by omega,.inl rfl⟩
  rw[qah];refine⟨?_,by omega,λk hk=>?_⟩
  ·rcases h1 with h | h
   ·rcases h4.2.2 with z | z
    ·exact .inl (h.trans z)
    ·exact .inr (by rw[h,z];simp)
   ·exact .inr (by simp[h])
  ·rcases qq.mp hk with rfl | hk
   ·omega
   ·exact h3 k hk
theorem ZiX {n:Nat}{b:List Nat}(nd:b.Nodup)(h:∀x∈b,x<n)(hl:b.length<64):Uu [.lst (b.map nD)]=some (.lst ((UA n b).map nD)):=by
 have e:ZM (b.map nD)=some (YN b):=by
  have:b.map nD=(YN b).map D.int:=by unfold YN;rw[qN];rfl
  rw[this,JL]
 show(match ZM (b.map nD)with | some ns=>if ns.length<64 then some (D.lst ((Y7 ns).map .int))else none | none=>none)=_;rw[e];show(if (YN b).length<64 then some (D.lst ((Y7 (YN b)).map .int))else none)=_;rw[if_pos (by unfold YN;simp;omega)];have q:YN (UA n b)=Y7 (YN b):=JO ((B0 nd h).map _) (zp.mpr ((ZaZ n b).imp λh=>by omega));rw[<-q];unfold YN;rw[qN];rfl
theorem B4 {n:Nat}{jJ:Qa}(hw:Yn n jJ)(hn:n<=24):By n jJ∈kn jJ n/\∀K∈kn jJ n,K.length<=(By n jJ).length:=by
 obtain⟨h1,_,h3⟩:=Zcm (kn jJ n) [];refine⟨?_,h3⟩;rcases h1 with h | h
 ·show(kn jJ n).foldl WH []∈_
  rw[h];exact VY.mpr ⟨zY,(λo h=>by cases h),λa h=>by cases h⟩
 ·exact h
theorem ZnX {l:List Nat}{b:Nat}(h:∀x∈l,x<=b):XE l<=b:=ZeZ l b h 0 (zC _)
theorem Zmj {n:Nat}{jJ:Qa}(hw:Yn n jJ)(hn:n<=24):XE (UF jJ n)=(By n jJ).length:=by
 obtain⟨h1,h2⟩:=B4 hw hn;refine qcz (ZnX λx hx=>?_) (Zg1 (qu.mpr ⟨_,h1,rfl⟩));obtain⟨K,hK,rfl⟩:=qu.mp hx;exact h2 K hK
theorem ZnY (p:Nat×Nat)(jJ:Qa):Y0 (Zq p) (.du (YI [] jJ))=some (.bl (decide (p∈jJ))):=ZkI p jJ
theorem ZhL {jJ : List (Nat × Nat)} : ∀ {i n : Nat}, i <= n -> (kn jJ i).length <= (kn jJ n).length := λ{i n} h => by
  induction n with
  | zero => have : i = 0 := by omega
            rw[this]; exact qp _
  | succ n ih =>
    by_cases e : i = n + 1
    · rw[e]; exact qp _
    · have := ih (by omega)
      rw[kn, qI]; omega
theorem Zmk {i:Nat}{fx fv:Zb->M D}{ρ:Zb}{s:Pn}{x v:D}{kvs:List (List Zt×V)}{key:List Zt}{w:V}(h1:fv ρ s=some (v,s))(h2:fx ρ s=some (x,s))(h3:(ρ[i]?).bind id=some (.du kvs))(h4:keyT x=some key)(h5:Wo v=some w)(hl:kvs.length<xg) :
  Bw i fx fv ρ s=some (.nx (ρ.set i (some (.du (Yp kvs key w)))),s):=by
 unfold Bw Zp;rw[h1];simp only;rw[h2];simp only;rw[h3];simp only;rw[h4,h5];simp only;rw[if_pos hl];rfl
theorem Zml (jJ:Qa):∀acc:List (List Zt×V),(YI acc jJ).length<=acc.length+jJ.length:=by
 induction jJ with
 | nil=>intro acc;exact qp _
 | cons t r ih=>
  intro acc;have h:=ih (Yp acc (XR t) (.bl true));have h2:=Ui acc (XR t) (.bl true);show(YI (Yp acc (XR t) (.bl true)) r).length<=_;simp only[qL];omega
theorem ZkP (jJ:Qa)(t:Nat×Nat):YI [] (jJ ++ [t])=Yp (YI [] jJ) (XR t) (.bl true):=by
 unfold YI;rw[qca];rfl
theorem ZbJ (l:List Bool):WF (.bl false) (.lst (l.map D.bl))=some (.bl (l.all id)):=by
 have hp:Yl (l.map D.bl)=true:=Zf3 λd hd=>by obtain⟨a,_,rfl⟩:=qu.mp hd;rfl
 have hd:Xf (l.map D.bl)<=0:=Zhr _ λd hd=>by obtain⟨a,_,rfl⟩:=qu.mp hd;simp[Z1]
 have ok:XO (.bl false) (l.map D.bl)=true:=by
  unfold XO;simp[Zo,hp,Z1];omega
 have hi:XV (.bl false) (l.map D.bl)=!l.all id:=by
  clear hp hd ok;unfold XV
  induction l with
  | nil=>rfl
  | cons b r ih=>
   rw[zc,qaF,ih]
   cases b <;> simp[ZB]
 show((if XO (.bl false) (l.map D.bl)=true then some (XV (.bl false) (l.map D.bl))else none).map λb=>D.bl (!b))=_;rw[if_pos ok,hi];simp
theorem Ze3 (n:Nat)(jJ:Qa)(hn:n<=1000)(hk:(kn jJ n).length<=1000000)(hl:jJ.length<=100000)(s:Pn):JJ [ZD n jJ] s=some (.lst ((kn jJ n).map ZW),s):=by
 apply js;refine Ok.runB rfl ?_;refine Ok.seq (.sown (.eq (a:=.du []) rfl ⟨rfl,?_⟩));refine Ok.seq (.sfor (λi ρ s'=>s=s'/\∃o2,ρ=[some (ZD n jJ),some (.du (YI [] (jJ.take i))),o2,none,none,none,none]) (.eq (a:=jJ.map Zq) (s':=s) (U5 (Zw (d:=ZD n jJ) (e:=.int 1) rfl rfl web1)) ⟨⟨rfl,none,rfl⟩,λi d ρ s' hd hI=>?_,fun ρ' s' hI=>?_⟩))
 ·obtain⟨rfl,o2,rfl⟩:=hI
  rw[qH]at hd;obtain⟨t,ht,rfl⟩:=yn.mp hd;refine⟨_,rfl,?_⟩;have jO:=Zml (jJ.take i) [];have htl:(jJ.take i).length<=jJ.length:=(zF _ _).length_le;refine Ok.seq (.eq (Zmk (x:=Zq t) (v:=.bl true) (kvs:=YI [] (jJ.take i)) (key:=XR t) (w:=.bl true) rfl rfl rfl rfl rfl (by rw[YA];simp at jO;omega)) (.next ⟨_,rfl,rfl,some (Zq t),?_⟩));have et:jJ.take (i+1)=jJ.take i ++ [t]:=by rw[qbU,ht];rfl
  rw[et,ZkP];rfl
 obtain⟨rfl,o2,rfl⟩:=hI;rw[qd,yy];refine Ok.seq (.sset (.eq (a:=.lst [.tup []]) (ZeB (Vg rfl (by decide))) ?_));refine Ok.seq (.sfor (λi ρ s'=>s=s'/\∃o4 o5 o6,ρ=[some (ZD n jJ),some (.du (YI [] jJ)),o2,some (.lst ((kn jJ i).map ZW)),o4,o5,o6]) (.eq (Wy (Zw (d:=ZD n jJ) (e:=.int 0) rfl rfl WN) (by omega)) ⟨⟨rfl,none,none,none,rfl⟩,λi d ρ s' hd hI=>?_,fun ρ' s' hI=>?_⟩))
 ·obtain⟨rfl,o4,o5,o6,rfl⟩:=hI
  obtain⟨hi,rfl⟩:=US hd;refine⟨_,rfl,?_⟩;have hkl:(kn jJ i).length<=1000000:=zi (ZhL (by omega)) hk;refine Ok.seq (.sown (.eq (a:=.lst []) (Xv rfl (zC _)) ⟨rfl,?_⟩));refine Ok.seq (.sfor (λj ρ s'=>s=s'/\∃o6,ρ=[some (ZD n jJ),some (.du (YI [] jJ)),o2,some (.lst ((kn jJ i).map ZW)),some (nD i),some (.lst (((((kn jJ i).take j).filter (Wd jJ i)).map (· ++ [i])).map ZW)),o6]) (.eq (a:=(kn jJ i).map ZW) (s':=s) (X6 rfl) ⟨⟨rfl,o6,by simp⟩,λj d ρ s' hd hJ=>?_,fun ρ' s' hJ=>?_⟩))
  ·obtain⟨rfl,o6,rfl⟩:=hJ
   rw[qH]at hd;obtain⟨k,hk2,rfl⟩:=yn.mp hd;have hkm:=Jk (zv hk2);refine⟨_,rfl,?_⟩;generalize hC:D.lst (((((kn jJ i).take j).filter (Wd jJ i)).map (· ++ [i])).map ZW)=C;have hc:=XW (src:=[none,some 4,some 1]) (fi:=XY (Za 6)) (τ:=Zv 0) (ft:=Yt) (fe:=Ze Y0 (ZS (Zc (Za 0) (Zc (Za 1) Zd))) (Za 2)) (ρ:=[some (ZD n jJ),some (.du (YI [] jJ)),o2,some (.lst ((kn jJ i).map ZW)),some (nD i),some C,some (ZW k)]) (s:=s) (ds:=k.map nD) (λd=>[some d,some (nD i),some (.du (YI [] jJ))]) (λ_=>true) (λd=>.bl (decide ((YD d,i)∈jJ))) (U5 rfl) (by rw[qd,YA];omega) (λd hd=>by
    obtain⟨o,ho,rfl⟩:=qu.mp hd;exact⟨rfl,rfl,λ_=>Zw (d:=Zq (o,i)) (Vw rfl rfl) rfl (ZnY (o,i) jJ)⟩)
   rw[Vc]at hc;have e0:(k.map nD).map (λd=>D.bl (decide ((YD d,i)∈jJ)))=(k.map λo=>decide ((o,i)∈jJ)).map D.bl:=by rw[qN,qN];rfl
   rw[e0]at hc;have ha:WF (.bl false) (.lst ((k.map λo=>decide ((o,i)∈jJ)).map D.bl))=some (.bl (Wd jJ i k)):=by
    rw[ZbJ,qde];rfl
   have et:(kn jJ i).take (j+1)=(kn jJ i).take j ++ [k]:=by rw[qbU,hk2];rfl
   refine Ok.seq (.sif (.eq (YC (Zw (d:=.bl false) rfl hc ha)) ?_));subst hC
   cases ok:Wd jJ i k with
   | true=>
    have hf:(((kn jJ i).take j).filter (Wd jJ i)).length<=(kn jJ i).length:=zi (qam _ _) (zF _ _).length_le;refine .seq (.sapp (ds:=((((kn jJ i).take j).filter (Wd jJ i)).map (· ++ [i])).map ZW) rfl (by rw[qd,qd,YA];omega) (.eq (Zw (d:=ZW k) (e:=.tup [nD i]) rfl (ZlR rfl) (Zmc k i (by omega))) ?_));refine .next (.next ⟨_,rfl,rfl,some (ZW k),?_⟩);have e:((((kn jJ i).take (j+1)).filter (Wd jJ i)).map (· ++ [i])).map ZW=((((kn jJ i).take j).filter (Wd jJ i)).map (· ++ [i])).map ZW ++ [ZW (k ++ [i])]:=by
     rw[et,qag,qcv ok,List.filter_nil];simp only[zE,zc,qa9]
    rw[e];rfl
   | false=>
    refine .next (.next ⟨_,rfl,rfl,some (ZW k),?_⟩);rw[et,qag,qbr (by simp[ok]),List.filter_nil,zj];rfl
  ·obtain⟨rfl,o6',rfl⟩:=hJ
   rw[qd,yy];have hl2:(kn jJ (i+1)).length<=1000000:=zi (ZhL (by omega)) hk;rw[kn,qI,qd]at hl2;refine Ok.seq (.sset (.eq (Zw (d:=.lst ((kn jJ i).map ZW)) (e:=.lst ((((kn jJ i).filter (Wd jJ i)).map (· ++ [i])).map ZW)) (c:=.lst ((kn jJ (i+1)).map ZW)) rfl rfl ?_) (.next ⟨_,rfl,rfl,_,_,_,rfl⟩)));show(if ((kn jJ i).map ZW).length+((((kn jJ i).filter (Wd jJ i)).map (· ++ [i])).map ZW).length<=xg then some (D.lst (_++_))else none)=_;rw[if_pos (by rw[qd,qd,qd,YA];omega),kn,zE]
 ·obtain⟨rfl,o4,o5,o6,rfl⟩:=hI
  rw[Wm];exact Ok.seq (.sret (.eq (a:=.lst ((kn jJ n).map ZW)) rfl ⟨rfl,rfl⟩))
theorem Zf6 (n:Nat)(jJ:Qa)(hn:n<=1000)(hk:(kn jJ n).length<=1000000)(hl:jJ.length<=100000)(s:Pn):UT [ZD n jJ] s=some (nD (XE (UF jJ n)),s):=by
 have hc:=XW (src:=[none]) (fi:=ZY (Zr JJ (Zc (Za 0) Zd))) (τ:=Zv 0) (ft:=Yt) (fe:=Zs Ya (Zc (Za 0) Zd)) (ρ:=[some (ZD n jJ)]) (s:=s) (ds:=(kn jJ n).map ZW) (λd=>[some d]) (λ_=>true) (λd=>match d with | .tup ds=>nD ds.length | _=>.non) (X6 (YM (Zj rfl rfl) (Ze3 n jJ hn hk hl s))) (by rw[qd,YA];omega) (λd hd=>by
  obtain⟨x,hx,rfl⟩:=qu.mp hd;exact⟨rfl,rfl,λ_=>Z5 (Zj rfl rfl) rfl⟩)
 rw[Vc,qN]at hc;have e:(kn jJ n).map ((λd=>match d with | .tup ds=>nD ds.length | _=>.non)∘ZW)=(UF jJ n).map nD:=by
  unfold UF;rw[qN];refine zy λx _=>?_;show nD (x.map nD).length=nD x.length;rw[qd]
 rw[e]at hc;refine Wg rfl (XG (Wh (Z5 (Zj hc rfl) ?_)));exact ZiS (UF jJ n) (ZiT jJ n)
theorem ZiY (ps:List Nat)(k:Nat)(hk:k<=ps.length):V9 (ps.map nD) none (some (k:Int))=(ps.take k).map nD:=by
 unfold V9;have e1:HT.sIx (ps.map nD).length 0 none=0:=rfl;have e2:HT.sIx (ps.map nD).length (ps.map nD).length (some (k:Int))=k:=by
  unfold HT.sIx;simp only[qd];rw[if_neg (by omega)];omega
 rw[e1,e2,qbj,qch,List.map_take]
theorem Zdm (n:Nat)(jJ:Qa){k:List Nat}(hk:k.Pairwise λa b=>tied jJ a b=true)(hl:k.length<=1000)(s:Pn):BU [ZD n jJ,ZW k] s=some (.bl true,s):=by
 apply js;refine Ok.runB rfl ?_;refine Ok.seq (.sfor (λi ρ s'=>s'=s/\∃o2 o3,ρ=[some (ZD n jJ),some (ZW k),o2,o3]) (.eq (a:=Z3 0 k.length) (s':=s) (Wy (Z5 (c:=nD k.length) (Zj rfl rfl) (by show some (D.int _)=_;rw[qd])) (by omega)) ⟨⟨rfl,none,none,rfl⟩,λi d ρ s' hd hI=>?_,fun ρ' s' hI=>?_⟩))
 ·obtain⟨rfl,o2,o3,rfl⟩:=hI
  obtain⟨hi,rfl⟩:=US hd;refine⟨_,rfl,?_⟩;refine Ok.seq (.sfor (λj ρ s2=>s2=s'/\∃o3,ρ=[some (ZD n jJ),some (ZW k),some (nD i),o3]) (.eq (a:=(k.take i).map nD) (s':=s') (U5 (by rw[<-ZiY k i (by omega)];rfl)) ⟨⟨rfl,o3,rfl⟩,λj d ρ s2 hd hJ=>?_,fun ρ' s2 hJ=>?_⟩))
  ·obtain⟨rfl,o3,rfl⟩:=hJ
   rw[qH]at hd;obtain⟨a,ha,rfl⟩:=yn.mp hd;refine⟨_,rfl,?_⟩;have hj:j<i:=by
    have:=(qw.mp ha).1;rw[qZ]at this;omega
   rw[zM hj]at ha;obtain⟨hjl,eja⟩:=qw.mp ha;have ht:=zx.mp hk j i hjl hi hj;rw[eja]at ht;have hg:k.getD i 0=k[i]:=by rw[qP,qG hi];rfl
   have hq:=Zcd n jJ a (k.getD i 0) s2;rw[hg,ht]at hq;have hix:Zn (ZW k) (nD i)=some (nD (k.getD i 0)):=ZcG hi;rw[hg]at hix;refine Ok.seq (.sif (.eq (a:=false) (U3 (b:=true) (YC (YM (Zj rfl (Zj rfl (Zj (Zw (d:=ZW k) (e:=nD i) rfl rfl hix) rfl))) hq))) (.next ?_)));exact .next ⟨_,rfl,rfl,some (nD a),rfl⟩
  ·obtain⟨rfl,o3',rfl⟩:=hJ
   exact .next ⟨_,rfl,rfl,some (nD i),o3',rfl⟩
 ·obtain⟨rfl,o2,o3,rfl⟩:=hI
  exact Ok.seq (.sret (.eq (a:=.bl true) rfl ⟨rfl,rfl⟩))
theorem ZkQ {n:Nat}{jJ:Qa}{k:List Nat}(h:k∈kn jJ n):k.Pairwise λa b=>tied jJ a b=true:=
 yA (λ{a b} ha hb hab=>(VY.mp h).2.2 a ha b hb (by omega)) (VY.mp h).1
theorem Zf7 {k:List Nat}(h:k.Nodup):Xs (YN k)=k.length:=by
 obtain⟨h1,h2⟩:=ZeG (YN k);have nd:(YN k).Nodup:=zp.mpr (h.imp λh e=>h (by omega));have:=((zT h1 nd).mpr h2).length_eq;unfold Xs;rw[this];unfold YN;simp
theorem Zed (k:List Nat):ZM (k.map nD)=some (YN k):=by
 have:k.map nD=(YN k).map D.int:=by unfold YN;rw[qN];rfl
 rw[this,JL]
theorem ZiZ {f:Zb->M D}{ρ:Zb}{s s':Pn}{k:List Nat}(h:f ρ s=some (ZW k,s'))(hl:k.length<=1000):ZcF f ρ s=some (nD (Xs (YN k)),s'):=by
 unfold ZcF Zp;rw[h];show(match ZM (k.map nD)with | some ns=>if ns.length<=1000 then Zy (D.int (Xs ns:Nat))else ZE | none=>ZE) s'=_;rw[Zed];show(if (YN k).length<=1000 then Zy (D.int (Xs (YN k):Nat))else ZE) s'=_;rw[if_pos (by unfold YN;simpa using hl)];rfl
theorem Zg3 {k:List Nat}(hr:k.Pairwise (· < ·))(hl:k.length<64):Zc1 [ZW k]=some (.lst (k.map nD)):=by
 show(match ZM (k.map nD)with | some ns=>if ns.length<64 then some (D.lst ((Y7 ns).map .int))else none | none=>none)=_;rw[Zed];show(if (YN k).length<64 then some (D.lst ((Y7 (YN k)).map .int))else none)=_;rw[if_pos (by unfold YN;simpa using hl)];have q:YN k=Y7 (YN k):=JO (.refl _) (zp.mpr (hr.imp λh=>by omega));rw[<-q];unfold YN;rw[qN];rfl
theorem B5 (k:List Nat):Zo (.lst (k.map nD))=true/\Z1 (.lst (k.map nD))<=60:=by
 constructor
 ·simp only[Zo];exact Zbk k
 ·simp only[Z1];rw[ZeX];omega
theorem Zcu {n:Nat}{jJ:Qa}(hn:n<=50){k:List Nat}(hk:k∈kn jJ n)(s:Pn):JG [ZD n jJ,ZW k] s=some (.bl true,s):=by
 obtain⟨h1,h2,h3⟩:=VY.mp hk;have hl:=(Jk hk).2;apply js;refine Ok.runB rfl ?_;have jO:Ya [ZW k]=some (nD k.length):=by show some (D.int _)=_;rw[qd]
 refine Ok.seq (.sif (.eq (a:=false) (Bv (U3 (b:=true) (YC (Z5 (Zj rfl (Zj rfl rfl)) rfl))) (YC (Zw (d:=nD (Xs (YN k))) (e:=nD k.length) (ZiZ rfl (by omega)) (Z5 (Zj rfl rfl) jO) (by rw[Zf7 (Zbm h1),Ze2];simp)))) (.next ?_)));refine Ok.seq (.sfor (λi ρ s'=>s'=s/\∃o2,ρ=[some (ZD n jJ),some (ZW k),o2]) (.eq (a:=k.map nD) (s':=s) (U5 rfl) ⟨⟨rfl,none,rfl⟩,λi d ρ s' hd hI=>?_,fun ρ' s' hI=>?_⟩))
 ·obtain⟨rfl,o2,rfl⟩:=hI
  obtain⟨x,hx,rfl⟩:=qu.mp (zv hd);refine⟨_,rfl,?_⟩;have hxn:=h2 x hx;have e1:UN (.int 0) (nD x)=some (.bl true):=by show some (D.bl (decide _))=_;rw[decide_eq_true (by omega)]
  have e2:Wt (nD x) (nD n)=some (.bl true):=by show some (D.bl (decide _))=_;rw[decide_eq_true (by omega)]
  have hch:Bh (dC (.int 0)) (Bu UN (Za 2) (Bt Wt (Ze Zn (Za 0) (dC (.int 0))))) [some (ZD n jJ),some (ZW k),some (nD x)] s'=some (true,s'):=Zit rfl (ZjZ (k:=true) (b:=true) rfl e1 λ_=>ZjY (Zw (d:=ZD n jJ) (e:=.int 0) rfl rfl WN) e2);refine Ok.seq (.sif (.eq (a:=false) (Bv (U3 (b:=true) (YC (Z5 (Zj rfl (Zj rfl rfl)) rfl))) (Bv (YC (Z5 (Zj rfl (Zj rfl rfl)) rfl)) (U3 (b:=true) hch))) (.next ?_)));exact .next ⟨_,rfl,rfl,some (nD x),rfl⟩
 ·obtain⟨rfl,o2,rfl⟩:=hI
  refine Ok.seq (.sret (.eq (a:=.bl true) (Znv (Zw (d:=.lst (k.map nD)) (e:=.lst (k.map nD)) (Z5 (Zj rfl rfl) rfl) (Z5 (Zj rfl rfl) (Zg3 h1 (by omega))) (Zmg (B5 k).1 (B5 k).2)) (YM (Zj rfl (Zj rfl rfl)) (Zdm n jJ (ZkQ hk) (by omega) s'))) ⟨rfl,rfl⟩))
section
variable (jJ:Qa)
end
section
variable {jJ:Qa}{many:Nat}
end
theorem ZkR (a b:Nat):Wt (nD a) (nD b)=some (.bl (decide (a<b))):=by
 show some (D.bl (decide ((a:Int)<(b:Int))))=_;congr 2;exact decide_eq_decide.mpr (by omega)
theorem Zee {τ:D->Zb->Option Zb}{body:Zb->M Out}{s:Pn}(I:Zb->Prop)(g:Nat->Option D):∀(l:List Nat) (ρ:Zb),I ρ->
  (∀x∈l,∀ρ,I ρ->∃ρ1,τ (nD x) ρ=some ρ1/\match g x with | some d=>body ρ1 s=some (.rt d,s) | none=>∃ρ2,body ρ1 s=some (.nx ρ2,s)/\I ρ2)->
  match l.findSome? g with | some d=>X9 τ body (l.map nD) ρ s=some (.rt d,s) | none=>∃ρ2,X9 τ body (l.map nD) ρ s=some (.nx ρ2,s)/\I ρ2
 | [],ρ,h0,_=>⟨ρ,rfl,h0⟩
 | x::l,ρ,h0,h=>by
  obtain⟨ρ1,e1,e2⟩:=h x (by simp) ρ h0;rw[qda]
  cases hg:g x with
  | some d=>
   rw[hg]at e2;exact ZeA e1 e2
  | none=>
   rw[hg]at e2;obtain⟨ρ2,e3,h2⟩:=e2;have ih:=Zee I g l ρ2 h2 λy hy=>h y (by simp[hy]);simp only
   cases hl:l.findSome? g with
   | some d=>rw[hl]at ih;exact ZaC e1 e3 ih
   | none=>
    rw[hl]at ih;obtain⟨ρ3,e4,h3⟩:=ih;exact⟨ρ3,ZaC e1 e3 e4,h3⟩
noncomputable def XM (p:Nat×Nat):List Int:=[(p.1:Int),(p.2:Int)]
theorem Zf8 {p q:Nat×Nat}(h:p.1<q.1∨p.1=q.1/\p.2<q.2):Xl (XM p) (XM q)=true:=by
 unfold Xl XM;rw[yV];rcases h with h | ⟨h1,h2⟩
 ·simp only[Yq]
  have e1:¬((q.1:Int)<(p.1:Int)):=by omega
  have e2:¬((q.1:Int)=(p.1:Int)):=by omega
  simp[e1,e2]
 ·simp only[Yq]
  have e1:¬((q.1:Int)<(p.1:Int)):=by omega
  have e2:¬((q.2:Int)<(p.2:Int)):=by omega
  have e3:¬((q.2:Int)=(p.2:Int)):=by omega
  simp[e1,e2,e3]
theorem Zef (n:Nat):∀i,(XQ n i).Pairwise λp q=>Xl (XM p) (XM q)=true
 | 0=>by unfold XQ;simp
 | i+1=>by
  rw[B7];refine qW.mpr ⟨Zef n i,zp.mpr ((Zbl _).imp λ{a b} h=>Zf8 (p:=(i,i+1+a)) (q:=(i,i+1+b)) (.inr ⟨rfl,by show i+1+a<i+1+b;omega⟩)),λp hp q hq=>?_⟩;obtain⟨k,_,rfl⟩:=qu.mp hq;have:=(Zbs hp).1;exact Zf8 (.inl this)
theorem ZkS {n:Nat}{jJ:Qa}(hw:Yn n jJ):(jJ.map XM).Pairwise λx y=>Xl x y=true:=zp.mpr ((Zef n n).sublist hw)
theorem Zi0 {p q:Nat×Nat}(h:XM p=XM q):p=q:=by
 have h1:=(qc3 h).1;have h2:=(qc3 (qc3 h).2).1;exact qcQ (by omega) (by omega)
theorem Zeg {n:Nat}{jJ L:Qa}(hw:Yn n jJ)(hp:L.Perm jJ):YG (L.map XM)=jJ.map XM:=(Zbf (hp.symm.map _) (ZkS hw)).symm
noncomputable abbrev om (n:Nat)(jJ:Qa):Nat:=(By n jJ).length
section
variable {n:Nat}{jJ:Qa}
theorem ZoC (hw:Yn n jJ)(hn:n<=24){K:List Nat}(h:K∈kn jJ n):K.length<=om n jJ:=(B4 hw hn).2 K h
end
end TP3
namespace TQ
open L2 TF TP TS
open TP2
open TP3
noncomputable def Wj (n:Nat)(t:Qa)(K:List Nat):Prop:=K.Nodup/\(∀x∈K,x<n)/\∀a∈K,∀b∈K,a≠b->tied t a b=true
theorem ZoD {n m:Nat}{t:Qa}(hw:Yn n t)(hn:n<=24)(up:∀K,Wj n t K->K.length<=m){K:List Nat}(hk:Wj n t K)(hl:K.length=m):om n t=m:=by
 apply qcz
 ·obtain⟨h1,h2,h3⟩:=VY.mp (B4 hw hn).1
  exact up _ ⟨Zbm h1,h2,h3⟩
 ·have pm:=B0 hk.1 hk.2.1
  have:=ZoC hw hn (K:=UA n K) (VY.mpr ⟨ZaZ n K,λo ho=>hk.2.1 o (pm.mem_iff.mp ho),λa ha b hb=>hk.2.2 a (pm.mem_iff.mp ha) b (pm.mem_iff.mp hb)⟩);rw[pm.length_eq,hl]at this;exact this
noncomputable def Yf (n:Nat)(g:Nat->Nat)(w:Bool):Qa:=(YU n).filter λp=>(g p.1==g p.2)==w
theorem Ze4 (n:Nat)(g:Nat->Nat)(w:Bool):Yn n (Yf n g w):=Yn.filter _
theorem JY {n:Nat}{g:Nat->Nat}{w:Bool}{a b:Nat}:tied (Yf n g w) a b=true↔a≠b/\a<n/\b<n/\(g a==g b)=w:=by
 rw[Vu];unfold Yf;rw[qO,VU];simp only[beq_iff_eq];rcases qbt a b with h | h | h
 ·rw[show min a b=a by omega,show max a b=b by omega]
  constructor
  ·rintro⟨⟨_,q⟩,r⟩;exact⟨by omega,by omega,q,r⟩
  ·rintro⟨_,_,q,r⟩;exact⟨⟨h,q⟩,r⟩
 ·subst h
  constructor
  ·rintro⟨⟨q,_⟩,_⟩;omega
  ·rintro⟨q,_⟩;exact absurd rfl q
 ·rw[show min a b=b by omega,show max a b=a by omega,show(g b==g a)=(g a==g b)from BEq.comm]
  constructor
  ·rintro⟨⟨_,q⟩,r⟩;exact⟨by omega,q,by omega,r⟩
  ·rintro⟨_,q,_,r⟩;exact⟨⟨h,q⟩,r⟩
noncomputable def YQ (n:Nat)(g:Nat->Nat)(j:Nat):List Nat:=(qk n).filter λx=>g x==j
theorem U8 {n:Nat}{g:Nat->Nat}{j x:Nat}:x∈YQ n g j↔x<n/\g x=j:=by unfold YQ;rw[qO,qD,beq_iff_eq]
theorem Zb5 (n:Nat)(g:Nat->Nat)(j:Nat):(YQ n g j).Nodup:=zN.sublist zu
structure Gps (n m:Nat)(g:Nat->Nat):Prop where
 lt:∀x<n,g x<m
 ne:∀j<m,∃x<n,g x=j
 mono:∀x y,x<=y->y<n->g x<=g y
noncomputable def VB (n m:Nat)(g:Nat->Nat)(w:Bool):Nat:=if w then XE ((qk m).map λj=>(YQ n g j).length)else m
theorem Zg4 {n m:Nat}{g:Nat->Nat}{w:Bool}(G:Gps n m g){K:List Nat}(h:Wj n (Yf n g w) K):K.length<=VB n m g w:=by
 obtain⟨h1,h2,h3⟩:=h;unfold VB
 cases w with
 | false=>
  rw[if_neg (by decide)];have:=Vs (a:=K.map g) (b:=qk m) (zp.mpr (yA (λ{a b} ha hb hab e=>by
   have:=(JY.mp (h3 a ha b hb hab)).2.2.2;rw[e]at this;simp at this) h1)) λx hx=>by
    obtain⟨a,ha,rfl⟩:=qu.mp hx;exact qD.mpr (G.lt a (h2 a ha))
  rwa[qd,qT]at this
 | true=>
  rw[if_pos rfl]
  cases K with
  | nil=>simp
  | cons x r=>
   have hx:=h2 x (by simp);have e:∀y∈x::r,g y=g x:=λy hy=>by
    by_cases e:y=x
    ·rw[e]
    ·have:=(JY.mp (h3 y hy x (by simp) e)).2.2.2
     simpa using this
   refine zi (Vs (b:=YQ n g (g x)) h1 λy hy=>U8.mpr ⟨h2 y hy,e y hy⟩) (Zg1 ?_);exact qu.mpr ⟨g x,qD.mpr (G.lt x hx),rfl⟩
noncomputable def ZmK (n:Nat)(t:Qa)(K:List Nat):Prop:=∀p<n,p∉K->∃o∈K,tied t o p=false
theorem ZkT {n m:Nat}{g:Nat->Nat}{w:Bool}(G:Gps n m g){K:List Nat}(h:Wj n (Yf n g w) K)(hf:ZmK n (Yf n g w) K){x:Nat}(hx:x∈K)
  (hm:w=true->(YQ n g (g x)).length=XE ((qk m).map λj=>(YQ n g j).length)):K.length=VB n m g w:=by
 refine qcz (Zg4 G h) ?_;obtain⟨h1,h2,h3⟩:=h;unfold VB
 cases w with
 | false=>
  rw[if_neg (by decide)];have:=Vs (a:=qk m) (b:=K.map g) zN λj hj=>by
   obtain⟨p,hp,e⟩:=G.ne j (qD.mp hj);by_cases hk:p∈K
   ·exact qu.mpr ⟨p,hk,e⟩
   ·obtain⟨o,ho,et⟩:=hf p hp hk
    refine qu.mpr ⟨o,ho,?_⟩;have:¬tied (Yf n g false) o p=true:=by rw[et];decide
    rw[JY]at this;rw[<-e];have hop:o≠p:=λz=>hk (z▸ho);by_cases q:g o=g p
    ·exact q
    ·exact absurd ⟨hop,h2 o ho,hp,by simpa using q⟩ this
  rwa[qd,qT]at this
 | true=>
  rw[if_pos rfl,<-hm rfl];have e:∀y∈K,g y=g x:=λy hy=>by
   by_cases e:y=x
   ·rw[e]
   ·have:=(JY.mp (h3 y hy x hx e)).2.2.2
    simpa using this
  refine Vs (Zb5 n g (g x)) λp hp=>?_;obtain⟨hp,ep⟩:=U8.mp hp;refine qaw λhk=>?_;obtain⟨o,ho,et⟩:=hf p hp hk;have:tied (Yf n g true) o p=true:=JY.mpr ⟨λz=>hk (z▸ho),h2 o ho,hp,by rw[e o ho,ep];simp⟩;rw[et]at this;cases this
theorem Zeh {n m:Nat}{g:Nat->Nat}{w:Bool}(G:Gps n m g)(hm:0<m):∃x<n,w=true->(YQ n g (g x)).length=XE ((qk m).map λj=>(YQ n g j).length):=by
 have hne:(qk m).map (λj=>(YQ n g j).length)≠[]:=λz=>by
  have:=congrArg qaM z;rw[qd,qT]at this;simp at this;omega
 obtain⟨j,hj,e⟩:=qu.mp (Ze0 hne);obtain⟨x,hx,ex⟩:=G.ne j (qD.mp hj);exact⟨x,hx,λ_=>by rw[ex,e]⟩
theorem Zi1 {n m:Nat}{g:Nat->Nat}{w:Bool}(G:Gps n m g)(hm:0<m):0<VB n m g w:=by
 obtain⟨x,hx,_⟩:=Zeh (w:=w) G hm;exact Zg4 (K:=[x]) G ⟨by simp,by simpa using hx,λa ha b hb hab=>absurd ((qz.mp ha).trans (qz.mp hb).symm) hab⟩
noncomputable def grow (t:Qa)(K:List Nat)(p:Nat):List Nat:=if K.all (λo=>tied t o p)then K ++ [p]else K
theorem Zei {n:Nat}{t:Qa}(hw:Yn n t):∀(ps:List Nat) {K:List Nat},Wj n t K->(∀p∈ps,p<n)->Wj n t (ps.foldl (grow t) K)/\(∀x∈K,x∈ps.foldl (grow t) K)/\∀p∈ps,p∉ps.foldl (grow t) K->∃o∈ps.foldl (grow t) K,tied t o p=false
 | [],K,h,_=>⟨h,λ_ z=>z,λp hp=>by cases hp⟩
 | p::ps,K,h,hp=>by
  have irr:tied t p p=false:=by
   cases e:tied t p p with
   | false=>rfl
   | true=>
    have:=(hw.mem (Vu.mp e)).1;simp only at this;omega
  have h1:Wj n t (grow t K p)/\(∀x∈K,x∈grow t K p)/\(p∈grow t K p∨∃o∈K,tied t o p=false):=by
   unfold grow;by_cases ha:K.all (λo=>tied t o p)=true
   ·rw[if_pos ha]
    have ha':=yh.mp ha;have hn:p∉K:=λz=>by rw[ha' p z]at irr;cases irr
    refine⟨⟨qaP.mpr ⟨h.1,by simp,λa ha b hb e=>hn (by rw[<-qz.mp hb,<-e];exact ha)⟩,λx hx=>?_,λa ha b hb hab=>?_⟩,λx hx=>yB _ hx,.inl (by simp)⟩
    ·rcases qR.mp hx with z | z
     ·exact h.2.1 x z
     ·rw[qz.mp z];exact hp p (by simp)
    ·rcases qR.mp ha with z | z <;> rcases qR.mp hb with y | y
     ·exact h.2.2 a z b y hab
     ·rw[qz.mp y];exact ha' a z
     ·rw[qz.mp z,B8];exact ha' b y
     ·exact absurd ((qz.mp z).trans (qz.mp y).symm) hab
   ·rw[if_neg ha]
    refine⟨h,λx hx=>hx,.inr ?_⟩;obtain⟨o,ho,e⟩:=List.all_eq_false.mp (qb9.mpr ha);exact⟨o,ho,by simpa using e⟩
  obtain⟨a1,a2,a3⟩:=Zei hw ps h1.1 λq hq=>hp q (by simp[hq]);rw[qah];refine⟨a1,λx hx=>a2 x (h1.2.1 x hx),λq hq hn=>?_⟩;rcases qq.mp hq with rfl | hq
  ·rcases h1.2.2 with z | ⟨o,ho,e⟩
   ·exact absurd (a2 q z) hn
   ·exact⟨o,a2 o (h1.2.1 o ho),e⟩
  ·exact a3 q hq hn
theorem ZkU {n:Nat}{t:Qa}{x:Nat}(hx:x<n):Wj n t [x]:=⟨by simp,by simpa using hx,λa ha b hb hab=>absurd ((qz.mp ha).trans (qz.mp hb).symm) hab⟩
noncomputable def VP (f:Nat->Nat)(p:Nat×Nat):Nat×Nat:=(min (f p.1) (f p.2),max (f p.1) (f p.2))
noncomputable def Ue (n:Nat)(f:Nat->Nat)(t:Qa):Qa:=(YU n).filter λq=>decide (q∈t.map (VP f))
theorem Zg5 (n:Nat)(f:Nat->Nat)(t:Qa):Yn n (Ue n f t):=Yn.filter _
section
variable {n:Nat}{f:Nat->Nat}{t:Qa}(hw:Yn n t)(hf:∀x<n,f x<n)(hi:∀x y,x<n->y<n->f x=f y->x=y)
include hw hf hi
theorem ZhM:(t.map (VP f)).Perm (Ue n f t):=by
 refine(zT ?_ ((B3 n).sublist zu)).mpr λq=>?_
 ·refine zp.mpr (yA (λ{p q} hp hq hne e=>hne ?_) ((B3 n).sublist hw))
  have p1:=hw.mem hp;have q1:=hw.mem hq;obtain⟨a,b⟩:=p;obtain⟨c,d⟩:=q;simp only[VP,qb5]at e p1 q1;obtain⟨e1,e2⟩:=e;have:(f a=f c/\f b=f d)∨(f a=f d/\f b=f c):=by omega
  rcases this with⟨z1,z2⟩ | ⟨z1,z2⟩
  ·rw[hi a c (by omega) (by omega) z1,hi b d (by omega) (by omega) z2]
  ·have:=hi a d (by omega) (by omega) z1
   have:=hi b c (by omega) (by omega) z2;omega
 ·rw[qO,decide_eq_true_eq]
  refine⟨λh=>⟨?_,h⟩,λh=>h.2⟩;obtain⟨p,hp,rfl⟩:=qu.mp h;have p1:=hw.mem hp;rw[VU];unfold VP;have h1:=hf p.1 (by omega);have h2:=hf p.2 p1.2;have:f p.1≠f p.2:=λz=>by have:=hi _ _ (by omega) p1.2 z;omega
  simp only;omega
theorem ZhN {a b:Nat}(ha:a<n)(hb:b<n):tied (Ue n f t) (f a) (f b)=tied t a b:=by
 rw[qal,Vu,Vu,<-(ZhM hw hf hi).mem_iff,qu];constructor
 ·rintro⟨⟨c,d⟩,hp,e⟩
  have p1:=hw.mem hp;simp only[VP,qb5]at e p1;obtain⟨e1,e2⟩:=e;have:(f a=f c/\f b=f d)∨(f a=f d/\f b=f c):=by omega
  rcases this with⟨z1,z2⟩ | ⟨z1,z2⟩
  ·rw[hi a c ha (by omega) z1,hi b d hb (by omega) z2,show min c d=c by omega,show max c d=d by omega];exact hp
  ·rw[hi a d ha (by omega) z1,hi b c hb (by omega) z2,show min d c=c by omega,show max d c=d by omega];exact hp
 ·intro h
  refine⟨_,h,?_⟩;unfold VP;rcases qbM a b with z | z
  ·rw[show min a b=a by omega,show max a b=b by omega]
  ·rw[show min a b=b by omega,show max a b=a by omega]
   simp only[qb5];omega
theorem ZoE {m:Nat}(hn:n<=24)(hs:∀y<n,∃x<n,f x=y)(up:∀K,Wj n t K->K.length<=m){K:List Nat}(hk:Wj n t K)(hl:K.length=m):om n (Ue n f t)=m:=by
 have hinj:(∀{l:List Nat},(∀x∈l,x<n)->l.Nodup->(l.map f).Nodup):=λ{l} h1 h2=>zp.mpr (yA (λ{a b} ha hb hab e=>hab (hi a b (h1 a ha) (h1 b hb) e)) h2);refine ZoD (Zg5 n f t) hn (λL hL=>?_) (K:=K.map f) ⟨hinj hk.2.1 hk.1,λy hy=>?_,λa ha b hb hab=>?_⟩ (by rw[qd,hl])
 ·obtain⟨L',h1,rfl⟩:∃L':List Nat,(∀x∈L',x<n)/\L'.map f=L:=by
   have:=hL.2.1;clear hL
   induction L with
   | nil=>exact⟨[],by simp,rfl⟩
   | cons y r ih=>
    obtain⟨r',h1,rfl⟩:=ih λx hx=>this x (by simp[hx]);obtain⟨x,hx,rfl⟩:=hs y (this y (by simp));exact⟨x::r',λz hz=>(qq.mp hz).elim (λe=>e▸hx) (h1 z),rfl⟩
  rw[qd];refine up _ ⟨(zp.mp hL.1).imp λh e=>h (by rw[e]),h1,λa ha b hb hab=>?_⟩;rw[<-ZhN hw hf hi (h1 a ha) (h1 b hb)];exact hL.2.2 _ (qu.mpr ⟨a,ha,rfl⟩) _ (qu.mpr ⟨b,hb,rfl⟩) λz=>hab (hi a b (h1 a ha) (h1 b hb) z)
 ·obtain⟨x,hx,rfl⟩:=qu.mp hy
  exact hf x (hk.2.1 x hx)
 ·obtain⟨a,ha',rfl⟩:=qu.mp ha
  obtain⟨b,hb',rfl⟩:=qu.mp hb;rw[ZhN hw hf hi (hk.2.1 a ha') (hk.2.1 b hb')];exact hk.2.2 a ha' b hb' λz=>hab (by rw[z])
end
noncomputable def V1:List Nat->List (List Nat)
 | []=>[[]]
 | a::l=>V1 l++(V1 l).map (a :: ·)
theorem Zf9:∀l:List Nat,(V1 l).length=2 ^ l.length
 | []=>rfl
 | a::l=>by
  rw[V1,qI,qd,Zf9 l,qL,Nat.pow_succ];omega
theorem Zdn:∀{l k:List Nat},k.Sublist l->k∈V1 l
 | [],k,h=>by rw[List.sublist_nil.mp h];simp[V1]
 | a::l,k,h=>by
  rw[V1,qR]
  cases h with
  | cons _ h=>exact .inl (Zdn h)
  | cons_cons _ h=>exact .inr (qu.mpr ⟨_,Zdn h,rfl⟩)
theorem ZkV {t:Qa}{q:Nat}(h:∀i,((qk i).filter λa=>decide ((a,i)∈t)).length<=q):∀i,(kn t i).length<=1+i*2 ^ q
 | 0=>by simp[kn]
 | i+1=>by
  have ih:=ZkV h i;rw[kn,qI,qd];have h1:((kn t i).filter (Wd t i)).length<=2 ^ q:=by
   refine zi (Vs (b:=V1 ((qk i).filter λa=>decide ((a,i)∈t))) ((Zdk t i).sublist zu) λk hk=>Zdn ?_) ?_
   ·obtain⟨hk,ok⟩:=qO.mp hk
    have e:k=(qk i).filter λa=>decide (a∈k):=Zf2 (Zmd hk) ((Zbl i).sublist zu) λx=>by
     rw[qO,qD,decide_eq_true_eq];exact⟨λz=>⟨(Jk hk).1 x z,z⟩,λz=>z.2⟩
    rw[e];have:∀x∈k,(x,i)∈t:=λx hx=>of_decide_eq_true (yh.mp ok x hx);clear e;generalize qk i=l
    induction l with
    | nil=>simp
    | cons a l ih=>
     rw[yz,yz];by_cases ha:a∈k
     ·rw[if_pos (by simpa using ha),if_pos (by simpa using this a ha)];exact ih.cons_cons a
     ·rw[if_neg (by simpa using ha)]
      split
      ·exact ih.cons a
      ·exact ih
   ·rw[Zf9];exact qcX (by omega) (h i)
  rw[Nat.add_mul,Nat.one_mul];omega
end TQ
namespace TP
open TF L2
theorem ZkW:∀c a s,0<=a->Uj [.int c,.int a] s=some (.int (W0 c a),s):=by
 intro c a s ha;have hx0:=qak (c % 2147483647*48271+a*69621+11) (show(2147483629:Int)≠0 by decide);have hx1:=qaK (c % 2147483647*48271+a*69621+11) (show(0:Int)<2147483629 by decide);by_cases hc:10 ^ 18<=c
 ·have e:W0 c a=c:=by unfold W0;rw[if_pos hc]
  rw[e];have:(1000000000000000000:Int)<=c:=by simpa using hc
  simp[Uj,runB,ZaL,Zf,Yu,asB,Ze,Vp,dI,Za,dC,Zp,Zy,YV,dPow,ZL,Zk,this]
 ·have e:¬(1000000000000000000:Int)<=c:=λz=>hc (by simpa using z)
  generalize hx:(c % 2147483647*48271+a*69621+11) % 2147483629=x at hx0 hx1;have hy0:=qak (x*x+48271*x+a) (show(2147483587:Int)≠0 by decide);have hy1:=qaK (x*x+48271*x+a) (show(0:Int)<2147483587 by decide);generalize hy:(x*x+48271*x+a) % 2147483587=y at hy0 hy1;have ef:W0 c a=y*2147483579+(y*y+69621*a) % 2147483579:=by
   unfold W0;rw[if_neg hc];dsimp only;rw[hx,hy]
  rw[ef];have m1:∀z:Int,0<=z->z<2147483648->∀w,UC z w=true:=λz h1 h2 w=>by
   unfold UC;simp;left;omega
  have m2:∀z w:Int,0<=z->z<2147483648->UC w z=true:=λz w h1 h2=>by
   unfold UC;simp;right;omega
  simp[Uj,runB,ZaL,Zf,Yu,asB,Ze,Vp,dI,Za,dC,Zp,Zy,YV,dPow,ZL,Zk,ZO,V6,VJ,Yk,e,hx,hy,m1 x hx0 (by omega),m1 y hy0 (by omega),m2 48271 _ (by decide) (by decide),m2 69621 _ (by decide) (by decide),m1 48271 (by decide) (by decide),m1 69621 (by decide) (by decide),m2 2147483579 _ (by decide) (by decide)]
end TP
namespace TQ
open L2 TF TS
open TP
open TP2
open TP3
noncomputable def gTu:Zb->M Out:=(Zf (Xt 2 (Zs Zhl (Zc (Za 1) Zd)))
 (Zf (Xt 3 (fun ρ=>(ZZ Zd) (ZG [2] ρ)))
 (Zf (Ji 1000000 (asB (Ze Y8 (Za 2) (ZZ Zd)))
 (Zf (Bc 3 2 (chk true (Zr YS (Zc (Za 0) (Zc (Zs Ya (Zc (Za 2) Zd)) Zd)))))
 Zk))
 (Zf (ZL (Za 3))
 Zk))))
noncomputable def FTu:List D->M D:=runB 4 2 gTu
theorem Ok.chk {f:Zb->M D}{ρ:Zb}{s:Pn}{fr:Bool}{Q:D->Pn->Prop}(h:Ok (f ρ) s λd s1=>(X8 d||(fr&&BN d))=true/\Q d s1):Ok (TF.chk fr f ρ) s Q:=.bind (h.mono λd s1 q=>.ite q.1 (.ret q.2))
theorem jD {i j:Nat}{f:Zb->M D}{ρ:Zb}{s:Pn}{Q:Out->Pn->Prop}{xs ys:List D}(hi:(ρ[i]?).bind id=some (.lst xs))(hj:(ρ[j]?).bind id=some (.lst ys))(hx:xs.length<xg)(hy:ys.length<=1000)
  (h:Ok (f ρ) s λd s1=>∃(r:Nat) (y:D),d=nD r/\ys[r]?=some y/\Q (.nx ((ρ.set j (some (.lst (ys.eraseIdx r)))).set i (some (.lst (xs ++ [y]))))) s1):Ok (Bc i j f ρ) s Q:=by
 refine .bind (h.mono λd s1 q=>?_);obtain⟨r,y,rfl,e,q⟩:=q;simp only[hi,hj];refine .ite ⟨by omega,hx,hy⟩ ?_;rw[qaq,e];exact .ret q
theorem ZnZ (a:Nat)(l:List Nat):Y8 (.lst ((a::l).map nD)) (.lst [])=some (.bl true):=by
 obtain⟨h1,h2⟩:=B5 (a::l);unfold Y8 Wq;rw[if_pos (by simp only[h1,qcZ,zl,decide_eq_true_eq];exact⟨⟨rfl,h2⟩,by decide⟩)];rfl
theorem Zmm:Y8 (.lst []) (.lst [])=some (.bl false):=Zmf rfl (by decide)
theorem Zi2 {ps:List Nat}(hp:ps.length<=24){s:Pn}(ok:YO s):Ok (FTu [.pen,.lst (ps.map nD)]) s λd s'=>YO s'/\∃qs:List Nat,d=.lst (qs.map nD)/\qs.Perm ps:=by
 refine Ok.runB rfl ?_;refine Ok.seq (.sown (.eq (a:=.lst (ps.map nD)) (Z5 (Zj rfl rfl) rfl) ⟨rfl,?_⟩));refine Ok.seq (.sown (.eq (a:=.lst []) (Xv rfl (by decide)) ⟨rfl,?_⟩));refine Ok.seq (jz (λm ρ s'=>YO s'/\∃left done:List Nat,left.length=m/\m<=24/\(done++left).Perm ps/\ρ=[some .pen,some (.lst (ps.map nD)),some (.lst (left.map nD)),some (.lst (done.map nD))]) ps.length (by omega) ⟨ok,ps,[],rfl,hp,.refl _,rfl⟩ λm ρ s' hI=>?_);obtain⟨ok1,left,done,hm,h24,hpm,rfl⟩:=hI;have hdl:done.length<=24:=by
  have:=hpm.length_eq;rw[qI]at this;omega
 cases left with
 | nil=>
  refine .eq (a:=false) (YC (Zw (d:=.lst []) (e:=.lst []) rfl (Xv rfl (by decide)) Zmm)) ?_;rw[if_neg (by decide)];rw[zj]at hpm;exact .seq (.sret (.eq (a:=.lst (done.map nD)) rfl ⟨ok1,done,rfl,hpm⟩))
 | cons a l=>
  refine .eq (a:=true) (YC (Zw (d:=.lst ((a::l).map nD)) (e:=.lst []) rfl (Xv rfl (by decide)) (ZnZ a l))) ?_;rw[if_pos rfl];refine .seq (jD (xs:=done.map nD) (ys:=(a::l).map nD) rfl rfl (by rw[qd,YA];omega) (by rw[qd];omega) (Ok.chk (.draw (m:=(a::l).length) ok1 (Zj rfl (Zj (Z5 (Zj rfl rfl) (Zb4 (a::l))) rfl)) (by simp) (by omega) λr s2 hr ok2=>⟨rfl,r,nD ((a::l)[r]),rfl,?_,?_⟩)))
  ·rw[qH,qG hr];rfl
  ·refine .next ⟨m-1,by simp at hm;omega,ok2,(a::l).eraseIdx r,done ++ [(a::l)[r]],?_,by omega,?_,?_⟩
   ·rw[qa3 hr];omega
   ·refine qaL.trans ?_ hpm
    rw[qM];exact qaW _ (HT.erase_perm (a::l) hr)
   ·rw[<-ZdY,zE];rfl
theorem Zi3 {n:Nat}{jJ L:Qa}(hw:Yn n jJ)(hm:∀p,p∈L↔p∈jJ)(hl:L.length<=306)(s:Pn):Js (L.map Zq) s=some (.lst (jJ.map Zq),s):=by
 have e:L.map Zq=(L.map XM).map Y9:=by rw[qN];rfl
 have nd:(jJ.map XM).Nodup:=zp.mpr (((B3 n).sublist hw).imp λh e=>h (Zi0 e));have pm:(WX (L.map XM)).Perm (jJ.map XM):=(zT (BY _) nd).mpr λx=>by
  rw[JQ,qu,qu];constructor
  ·rintro⟨p,hp,rfl⟩;exact⟨p,(hm p).mp hp,rfl⟩
  ·rintro⟨p,hp,rfl⟩;exact⟨p,(hm p).mpr hp,rfl⟩
 unfold Js;rw[e,Zbg];dsimp only;rw[if_pos ⟨by rw[qd];exact hl,λns hns=>by
  obtain⟨p,_,rfl⟩:=qu.mp hns;exact λz=>by cases z⟩,ZaN pm,Zeg hw (.refl _),qN]
 rfl
theorem Zn0 {T:Nat->List D->M D}{i t:Nat}{fs:Zb->M (List D)}{ρ:Zb}{s s1:Pn}{ds cds:List D}{r:Option (D×Pn)}(h1:(ρ[i]?).bind id=some (.clo t cds))(h2:fs ρ s=some (ds,s1))(h3:T t (ds++cds) s1=r):BE T i fs ρ s=r:=by
 unfold BE Zp Za YV;rw[h1];simp only[h2];exact h3
theorem Zn1 {F:List D->M D}{t:Nat}{cix:List Nat}{f:Zb->M D}{ρ:Zb}{s s1 s2:Pn}{d c:D}{cds:List D}(h1:f ρ s=some (d,s1))(h2:Jq ρ cix=some cds)(n1:YE d=true)(n2:Xo cds=true)(h3:F [d,.clo t cds] s1=some (c,s2))(n3:YE c=true):dFnC F t cix f ρ s=some (c,s2):=by
 unfold dFnC Zp YV;rw[h1,h2];simp only;rw[if_pos (by rw[n1,n2];rfl),h3];simp only;rw[if_pos n3];rfl
theorem Zb6:∀{ds:List D},(∀d∈ds,YE d=true)->Xo ds=true
 | [],_=>rfl
 | d::ds,h=>by
  show(YE d&&Xo ds)=true;rw[h d zG,Zb6 λx (hx:x∈ds)=>h x (qQ _ hx)];rfl
theorem Zmn {n:Nat}{f:Zb->M D}{ds:List D}{s:Pn}{r:Option (D×Pn)}(hl:ds.length=n)(h:f (ds.map some) s=r):VL n f ds s=r:=by
 unfold VL;rw[if_pos hl];exact h
theorem Zi4 (n:Nat)(jJ:Qa):YE (ZD n jJ)=true:=by
 have:Xo (jJ.map Zq)=true:=Zb6 λd hd=>by obtain⟨p,_,rfl⟩:=qu.mp hd;rfl
 simp only[ZD,YE,Xo,this];rfl
theorem Ze5 (lo:Int)(n:Nat):Xo (Z3 lo n)=true:=Zb6 λd hd=>by
 unfold Z3 at hd;obtain⟨i,_,rfl⟩:=qu.mp hd;rfl
theorem Ze6 {row:D}{ds cds:List D}{t:Nat}(h:Jz row ds)(hn:ds.length<=1000)(b:Nat×Nat->Bool)(s:Pn)(hb:∀p∈YU ds.length,Tl t ([ds.getD p.1 .non,ds.getD p.2 .non]++cds) s=some (.bl (b p),s)):JK [row,.clo t cds] s=some (ZD ds.length ((YU ds.length).filter b),s):=by
 have hln:∀r,Zs Ya (Zc (Za 0) Zd) (some row::r) s=some (nD ds.length,s):=λr=>Z5 (Zj rfl rfl) h.len;refine Wg rfl (XH (WW (YM (Zj (ZaA (hln _) hn) rfl) (Zfv s hn))) (XG (Wh ?_)));have hap:=ZjQ ds.length hn;have hc:=XW (src:=[none,some 1,some 0]) (fi:=ZY (Za 2)) (τ:=Zv 0) (ft:=asB (BE Tl 1 (Zc (Ze Zn (Za 2) (Ze Zn (Za 0) (dC (.int 0)))) (Zc (Ze Zn (Za 2) (Ze Zn (Za 0) (dC (.int 1)))) Zd)))) (fe:=Za 0) (ρ:=[some row,some (.clo t cds),some (.lst ((YU ds.length).map Zq))]) (s:=s) (ds:=(YU ds.length).map Zq) (λd=>[some d,some (.clo t cds),some row]) (λd=>b (nat2 d)) (λd=>d) (X6 rfl) (by rw[qd,YA];omega) λd hd=>by
  obtain⟨p,hpm,rfl⟩:=qu.mp hd;have hpp:=VU.mp hpm;refine⟨rfl,YC (Zn0 (t:=t) (cds:=cds) rfl (Zj (Zw (d:=row) (e:=nD p.1) rfl (Zw (d:=Zq p) (e:=.int 0) rfl rfl (UD _ _)) (h.ix (by omega))) (Zj (Zw (d:=row) (e:=nD p.2) rfl (Zw (d:=Zq p) (e:=.int 1) rfl rfl (VG _ _ _)) (h.ix (by omega))) rfl)) (hb p hpm)),λ_=>rfl⟩
 rw[Zey (YU ds.length) _ b λp=>by rw[Zip]]at hc;exact Vg (Zj (hln _) (Zj (Z5 (Zj hc rfl) rfl) rfl)) two_le
theorem range_getD {n i:Nat}(h:i<n):(Z3 0 n).getD i .non=nD i:=by
 rw[Vv];simp[qbF,h]
theorem Zg6 (n:Nat)(jJ:Qa)(s:Pn)(hn:n<=1000)(hl:jJ.length<=100000):UY [ZD n jJ] s=some (ZD n ((YU n).filter λp=>!decide (p∈jJ)),s):=by
 refine Wg rfl (XH (WW (YM (Zj rfl rfl) (ZdX n jJ s hl))) (XG (Wh ?_)));refine Zn1 (d:=.lst (Z3 0 n)) (cds:=[.dt (YI [] jJ)]) (ZaA (Zw (d:=ZD n jJ) (e:=.int 0) rfl rfl WN) hn) rfl (by simp only[YE];exact Ze5 _ _) rfl ?_ (Zi4 _ _);have:=Ze6 (row:=.lst (Z3 0 n)) (ds:=Z3 0 n) (cds:=[.dt (YI [] jJ)]) (t:=0) (.inl rfl) (by rw[Wm];exact hn) (λp=>!decide (p∈jJ)) s (λp hp=>by
  rw[Wm]at hp;have hpp:=VU.mp hp;rw[range_getD (by omega),range_getD (by omega)];show Zbw [nD p.1,nD p.2,.dt (YI [] jJ)] s=_;refine Zmn rfl ?_;refine ZlQ (a:=decide (p∈jJ)) (YM (Zj rfl (Zj rfl (Zj rfl rfl))) ?_);rw[ZbI,ZcD hpp.1])
 rw[Wm]at this;exact this
theorem JZ {J:Type}{τ:D->Zb->Option Zb}{body:Zb->M Out}{R:J->List D->Zb}{s:Pn}{N:Nat}(g:D->List D):∀(ds:List D) (j:J) (acc:List D),acc.length+(ds.flatMap g).length<=N->
  (∀d∈ds,∀j acc,acc.length+(g d).length<=N->∃ρ1,τ d (R j acc)=some ρ1/\∃j',body ρ1 s=some (.nx (R j' (acc++g d)),s))->∃j',X9 τ body ds (R j acc) s=some (.nx (R j' (acc++ds.flatMap g)),s)
 | [],j,acc,_,_=>⟨j,by rw[List.flatMap_nil,zj];rfl⟩
 | d::ds,j,acc,hl,h=>by
  rw[qcb,qI]at hl;obtain⟨ρ1,e1,j1,e2⟩:=h d (by simp) j acc (by omega);obtain⟨j2,e3⟩:=JZ g ds j1 (acc++g d) (by rw[qI];omega) λd' hd'=>h d' (by simp[hd']);refine⟨j2,ZaC e1 e2 ?_⟩;rw[e3,qcb,qM]
theorem ZdG {f g:Zb->M D}{ρ:Zb}{s:Pn}{a n:Nat}(h:f ρ s=some (nD a,s))(h2:g ρ s=some (nD n,s))(hn:n<=1000)(ha:a<=1000):UU f g ρ s=some (.lst (Z3 (a:Int) (n-a)),s):=by
 unfold UU Zp;simp only[h,h2];rw[if_pos (by omega)];show some _=some _;congr 4;omega
noncomputable def ZkX (N:Int):Zb->M Out:=(Zf (Bj 1 2 (fun ρ=>(ZZ Zd) (ZG [] ρ)) (fun ρ=>(dC (.int 0)) (ZG [] ρ)))
 (Zf (ZO 3 (fun ρ=>(Ze Yk (dC (.int 11)) (Zr YS (Zc (Za 0) (Zc (dC (.int N)) Zd)))) (ZG [1] ρ)))
 (Zf (Ji 1000000 (asB (Ze Wt (Za 2) (Za 3)))
 (Zf (ZO 4 (fun ρ=>(Zs VE (Zc (Ze UJ (Za 3) (Za 2)) (Zc (Ze Yk (dC (.int 1)) (Zr YS (Zc (Za 0) (Zc (dC (.int 5)) Zd)))) Zd))) (ZG [1] ρ)))
 (Zf (Xz 1 (fun ρ=>(UU (Za 2) (Ze Yk (Za 2) (Za 4))) (ZG [1] ρ)))
 (Zf (ZO 2 (fun ρ=>(Ze Yk (Za 2) (Za 4)) (ZG [1] ρ)))
 Zk))))
 (Zf (ZO 5 (fun ρ=>(Zr YS (Zc (Za 0) (Zc (dC (.int 2)) Zd))) (ZG [1] ρ)))
 (Zf (Xt 6 (fun ρ=>(ZZ Zd) (ZG [1] ρ)))
 (Zf (Z9 (YL (Zs Ya (Zc (Za 1) Zd))) (Zv 7)
 (Zf (Z9 (YL (Ze Yk (Za 7) (dC (.int 1)))) (Zv 8)
 (Zf (Z9 (fun ρ=>(ZY (Ze Zn (Za 1) (Za 7))) (ZG [6] ρ)) (Zv 9)
 (Zf (Z9 (fun ρ=>(ZY (Ze Zn (Za 1) (Za 8))) (ZG [6] ρ)) (Zv 10)
 (Zf (Yu (XZ (asB (Ze Wt (Za 10) (Za 9))) (asB (Ze Yy (Zs VF (Zc (Ze Yy (Za 8) (Za 7)) Zd)) (Za 5))))
 (Zf (Xz 6 (fun ρ=>(ZS (Zc (Za 10) (Zc (Za 9) Zd))) (ZG [6] ρ)))
 Zk)
 Zk)
 Zk))
 Zk))
 Zk))
 Zk))
 (Zf (ZO 11 (fun ρ=>(Ze Zn (ZZ (Zc (Zs Ya (Zc (Za 1) Zd)) (Zc (Zs V0 (Zc (Yj [none] (ZY (Za 1)) (Zv 0) Yt (Zs Ya (Zc (Za 0) Zd))) Zd)) Zd))) (Za 5)) (ZG [6] ρ)))
 (Zf (ZL (ZS (Zc (ZS (Zc (Za 2) (Zc (Zs WE (Zc (Zs UZ (Zc (Za 6) Zd)) Zd)) Zd))) (Zc (Za 11) Zd))))
 Zk))))))))
theorem J6 {α β:Type}{f:α->List β}(key:β->α):∀{l:List α},l.Nodup->(∀a∈l,(f a).Nodup)->(∀a∈l,∀x∈f a,key x=a)->(l.flatMap f).Nodup
 | [],_,_,_=>by simp
 | a::l,nd,h,hk=>by
  rw[qcb,qaP];have nd':=zU.mp nd;refine⟨h a (by simp),J6 key nd'.2 (λb hb=>h b (by simp[hb])) λb hb=>hk b (by simp[hb]),λx hx y hy e=>nd'.1 ?_⟩;obtain⟨b,hb,hy⟩:=y6.mp hy;rw[<-hk a (by simp) x hx,e,hk b (by simp[hb]) y hy];exact hb
section
variable (n m:Nat)(g:Nat->Nat)(w:Bool)
noncomputable def pA (k o b a:Nat):Qa:=if a<b/\((o==k)==w)=true then [(a,b)]else []
noncomputable def pB (k o b:Nat):Qa:=(YQ n g o).flatMap (pA w k o b)
noncomputable def pO (k o:Nat):Qa:=(YQ n g k).flatMap (pB n g w k o)
noncomputable def pK (k:Nat):Qa:=(qk (k+1)).flatMap (pO n g w k)
noncomputable def BH:Qa:=(qk m).flatMap (pK n g w)
end
section
variable {n m:Nat}{g:Nat->Nat}{w:Bool}
theorem Zg7 {k o b a:Nat}{p:Nat×Nat}:p∈pA w k o b a↔p=(a,b)/\a<b/\((o==k)==w)=true:=by
 unfold pA;split
 ·rename_i h;rw[qz];exact⟨λe=>⟨e,h⟩,λe=>e.1⟩
 ·rename_i h;exact⟨λe=>(zX e).elim,λe=>absurd e.2 h⟩
theorem Zg8 {k o b:Nat}{p:Nat×Nat}:p∈pB n g w k o b↔p.2=b/\p.1<n/\g p.1=o/\p.1<b/\((o==k)==w)=true:=by
 unfold pB;rw[y6];constructor
 ·rintro⟨a,ha,hp⟩
  obtain⟨rfl,h1,h2⟩:=Zg7.mp hp;obtain⟨h3,h4⟩:=U8.mp ha;exact⟨rfl,h3,h4,h1,h2⟩
 ·rintro⟨h1,h2,h3,h4,h5⟩
  exact⟨p.1,U8.mpr ⟨h2,h3⟩,Zg7.mpr ⟨by rw[<-h1],h4,h5⟩⟩
theorem Zg9 {k o:Nat}{p:Nat×Nat}:p∈pO n g w k o↔p.2<n/\g p.2=k/\g p.1=o/\p.1<p.2/\((o==k)==w)=true:=by
 unfold pO;rw[y6];constructor
 ·rintro⟨b,hb,hp⟩
  obtain⟨rfl,h1,h2,h3,h4⟩:=Zg8.mp hp;obtain⟨h5,h6⟩:=U8.mp hb;exact⟨h5,h6,h2,h3,h4⟩
 ·rintro⟨h1,h2,h3,h4,h5⟩
  exact⟨p.2,U8.mpr ⟨h1,h2⟩,Zg8.mpr ⟨rfl,by omega,h3,h4,h5⟩⟩
theorem Zha {k:Nat}{p:Nat×Nat}:p∈pK n g w k↔g p.1<=k/\p.2<n/\g p.2=k/\p.1<p.2/\((g p.1==k)==w)=true:=by
 unfold pK;rw[y6];constructor
 ·rintro⟨o,ho,hp⟩
  obtain⟨h1,h2,rfl,h4,h5⟩:=Zg9.mp hp;exact⟨by have:=qD.mp ho;omega,h1,h2,h4,h5⟩
 ·rintro⟨h1,h2,h3,h4,h5⟩
  exact⟨g p.1,qD.mpr (by omega),Zg9.mpr ⟨h2,h3,rfl,h4,h5⟩⟩
theorem Zi5 (G:Gps n m g):(BH n m g w).Perm (Yf n g w):=by
 refine(zT ?_ ((B3 n).sublist zu)).mpr λp=>?_
 ·refine J6 (λp=>g p.2) zN (λk _=>?_) λk _ p hp=>(Zha.mp hp).2.2.1
  refine J6 (λp=>g p.1) zN (λo _=>?_) λo _ p hp=>(Zg9.mp hp).2.2.1;refine J6 (λp=>p.2) (Zb5 n g k) (λb _=>?_) λb _ p hp=>(Zg8.mp hp).1;refine J6 (λp=>p.1) (Zb5 n g o) (λa _=>?_) λa _ p hp=>by rw[(Zg7.mp hp).1]
  unfold pA;split
  ·simp
  ·simp
 ·unfold BH
  rw[y6,qO,VU];constructor
  ·rintro⟨k,_,hp⟩
   obtain⟨h1,h2,h3,h4,h5⟩:=Zha.mp hp;exact⟨⟨h4,h2⟩,by rw[h3];exact h5⟩
  ·rintro⟨⟨h1,h2⟩,h3⟩
   exact⟨g p.2,qD.mpr (G.lt _ h2),Zha.mpr ⟨G.mono _ _ (by omega) h2,h2,rfl,h1,h3⟩⟩
end
theorem V2 (f:Nat->Qa)(l:List Nat):(l.map nD).flatMap (λd=>(f (YD d)).map Zq)=(l.flatMap f).map Zq:=by
 rw[List.flatMap_map,List.map_flatMap];rfl
noncomputable abbrev Wa (GL:D)(n sz:Nat)(o4:Option D)(wN:Nat)(acc:List D)(o7 o8 o9 o10:Option D):Zb:=[some .pen,some GL,some (nD n),some (nD sz),o4,some (nD wN),some (.lst acc),o7,o8,o9,o10,none]
noncomputable def bodA:Zb->M Out:=(Zf (Yu (XZ (asB (Ze Wt (Za 10) (Za 9))) (asB (Ze Yy (Zs VF (Zc (Ze Yy (Za 8) (Za 7)) Zd)) (Za 5))))
 (Zf (Xz 6 (fun ρ=>(ZS (Zc (Za 10) (Zc (Za 9) Zd))) (ZG [6] ρ)))
 Zk)
 Zk)
 Zk)
noncomputable def bodB:Zb->M Out:=(Zf (Z9 (fun ρ=>(ZY (Ze Zn (Za 1) (Za 8))) (ZG [6] ρ)) (Zv 10) bodA) Zk)
noncomputable def bodO:Zb->M Out:=(Zf (Z9 (fun ρ=>(ZY (Ze Zn (Za 1) (Za 7))) (ZG [6] ρ)) (Zv 9) bodB) Zk)
noncomputable def bodK:Zb->M Out:=(Zf (Z9 (YL (Ze Yk (Za 7) (dC (.int 1)))) (Zv 8) bodO) Zk)
section
variable {GL:D}{n m sz:Nat}{g:Nat->Nat}{w:Bool}{o4:Option D}{s:Pn}{N:Nat}
theorem Zmo {k o b a:Nat}{acc:List D}(hN:N<=xg)(hl:acc.length+(pA w k o b a).length<=N):bodA (Wa GL n sz o4 w.toNat acc (some (nD k)) (some (nD o)) (some (nD b)) (some (nD a))) s=some (.nx (Wa GL n sz o4 w.toNat (acc++(pA w k o b a).map Zq) (some (nD k)) (some (nD o)) (some (nD b)) (some (nD a))),s):=by
 have hi:VF [.bl (o==k)]=some (nD (o==k).toNat):=by cases (o==k) <;> rfl
 have h1:Yy (nD o) (nD k)=some (.bl (o==k)):=by rw[eqi];congr 2;rw[qal];simp;omega
 have h2:Yy (nD (o==k).toNat) (nD w.toNat)=some (.bl ((o==k)==w)):=by rw[eqi];cases (o==k) <;> cases w <;> rfl
 have ht:XZ (asB (Ze Wt (Za 10) (Za 9))) (asB (Ze Yy (Zs VF (Zc (Ze Yy (Za 8) (Za 7)) Zd)) (Za 5))) (Wa GL n sz o4 w.toNat acc (some (nD k)) (some (nD o)) (some (nD b)) (some (nD a))) s=some (decide (a<b)&&((o==k)==w),s):=
  Zez (YC (Zw rfl rfl (ZkR a b))) λ_=>YC (Zw (Z5 (Zj (Zw rfl rfl h1) rfl) hi) rfl h2)
 unfold pA at hl⊢;unfold bodA;by_cases hc:a<b/\((o==k)==w)=true
 ·rw[if_pos hc]at hl⊢
  have hcb:(decide (a<b)&&((o==k)==w))=true:=by simpa using hc
  rw[hcb]at ht;refine js (Ok.seq (.sif (.eq ht ?_)));rw[if_pos rfl];exact .seq (.sapp (ds:=acc) rfl (by simp at hl;omega) (.eq (a:=Zq (a,b)) (Vw rfl rfl) (.next (.next ⟨rfl,rfl⟩))))
 ·rw[if_neg hc]at hl⊢
  have hcb:(decide (a<b)&&((o==k)==w))=false:=by rw[qb9];simpa using hc
  rw[hcb]at ht;refine js (Ok.seq (.sif (.eq ht ?_)));rw[if_neg (by decide),qa9,zj];exact .next (.next ⟨rfl,rfl⟩)
theorem ZoF {k o b:Nat}{acc:List D}(hG:∀j,j<=k->Zn GL (nD j)=some (.lst ((YQ n g j).map nD)))(ho:o<=k)(hN:N<=xg)(hl:acc.length+(pB n g w k o b).length<=N)(o10:Option D) :
  ∃o10',bodB (Wa GL n sz o4 w.toNat acc (some (nD k)) (some (nD o)) (some (nD b)) o10) s=some (.nx (Wa GL n sz o4 w.toNat (acc++(pB n g w k o b).map Zq) (some (nD k)) (some (nD o)) (some (nD b)) o10'),s):=by
 obtain⟨j,e⟩:=JZ (J:=Option D) (τ:=Zv 10) (body:=bodA) (R:=λj acc=>Wa GL n sz o4 w.toNat acc (some (nD k)) (some (nD o)) (some (nD b)) j) (s:=s) (N:=N) (λd=>(pA w k o b (YD d)).map Zq) ((YQ n g o).map nD) o10 acc (by rw[V2,qd];exact hl) λd hd j acc hacc=>by
  obtain⟨a,_,rfl⟩:=qu.mp hd;exact⟨_,rfl,_,Zmo hN (by rw[qd]at hacc;exact hacc)⟩
 rw[V2]at e;exact⟨j,XH (U4 (X6 (Zw rfl rfl (hG o ho))) e) rfl⟩
theorem ZoG {k o:Nat}{acc:List D}(hG:∀j,j<=k->Zn GL (nD j)=some (.lst ((YQ n g j).map nD)))(ho:o<=k)(hN:N<=xg)(hl:acc.length+(pO n g w k o).length<=N)(o9 o10:Option D) :
  ∃q:Option D×Option D,bodO (Wa GL n sz o4 w.toNat acc (some (nD k)) (some (nD o)) o9 o10) s=some (.nx (Wa GL n sz o4 w.toNat (acc++(pO n g w k o).map Zq) (some (nD k)) (some (nD o)) q.1 q.2),s):=by
 obtain⟨j,e⟩:=JZ (J:=Option D×Option D) (τ:=Zv 9) (body:=bodB) (R:=λj acc=>Wa GL n sz o4 w.toNat acc (some (nD k)) (some (nD o)) j.1 j.2) (s:=s) (N:=N) (λd=>(pB n g w k o (YD d)).map Zq) ((YQ n g k).map nD) (o9,o10) acc (by rw[V2,qd];exact hl) λd hd j acc hacc=>by
  obtain⟨b,_,rfl⟩:=qu.mp hd;obtain⟨q,e⟩:=ZoF (b:=b) hG ho hN (by rw[qd]at hacc;exact hacc) j.2;exact⟨_,rfl,(some (nD b),q),e⟩
 rw[V2]at e;exact⟨j,XH (U4 (X6 (Zw rfl rfl (hG k (qp _)))) e) rfl⟩
theorem ZoH {k:Nat}{acc:List D}(hG:∀j,j<=k->Zn GL (nD j)=some (.lst ((YQ n g j).map nD)))(hk:k<1000)(hN:N<=xg)(hl:acc.length+(pK n g w k).length<=N)(o8 o9 o10:Option D) :
  ∃q:Option D×Option D×Option D,bodK (Wa GL n sz o4 w.toNat acc (some (nD k)) o8 o9 o10) s=some (.nx (Wa GL n sz o4 w.toNat (acc++(pK n g w k).map Zq) (some (nD k)) q.1 q.2.1 q.2.2),s):=by
 obtain⟨j,e⟩:=JZ (J:=Option D×Option D×Option D) (τ:=Zv 8) (body:=bodO) (R:=λj acc=>Wa GL n sz o4 w.toNat acc (some (nD k)) j.1 j.2.1 j.2.2) (s:=s) (N:=N) (λd=>(pO n g w k (YD d)).map Zq) ((qk (k+1)).map nD) (o8,o9,o10) acc (by rw[V2,qd];exact hl) λd hd j acc hacc=>by
  obtain⟨o,ho,rfl⟩:=qu.mp hd;obtain⟨q,e⟩:=ZoG (o:=o) hG (by have:=qD.mp ho;omega) hN (by rw[qd]at hacc;exact hacc) j.2.1 j.2.2;exact⟨_,rfl,(some (nD o),q),e⟩
 rw[V2]at e;refine⟨j,XH (U4 ?_ e) rfl⟩;rw[<-Vv];exact Wy (Zw (d:=nD k) (e:=.int 1) rfl rfl rfl) (by omega)
theorem ZoI {acc:List D}(hG:∀j<m,Zn GL (nD j)=some (.lst ((YQ n g j).map nD)))(hm:m<=1000)(jO:Ya [GL]=some (nD m))(hN:N<=xg)(hl:acc.length+(BH n m g w).length<=N)(o7 o8 o9 o10:Option D) :
  ∃q:Option D×Option D×Option D×Option D,Z9 (YL (Zs Ya (Zc (Za 1) Zd))) (Zv 7) bodK (Wa GL n sz o4 w.toNat acc o7 o8 o9 o10) s=some (.nx (Wa GL n sz o4 w.toNat (acc++(BH n m g w).map Zq) q.1 q.2.1 q.2.2.1 q.2.2.2),s):=by
 obtain⟨j,e⟩:=JZ (J:=Option D×Option D×Option D×Option D) (τ:=Zv 7) (body:=bodK) (R:=λj acc=>Wa GL n sz o4 w.toNat acc j.1 j.2.1 j.2.2.1 j.2.2.2) (s:=s) (N:=N) (λd=>(pK n g w (YD d)).map Zq) ((qk m).map nD) (o7,o8,o9,o10) acc (by rw[V2,qd];exact hl) λd hd j acc hacc=>by
  obtain⟨k,hk,rfl⟩:=qu.mp hd;have hk:=qD.mp hk;obtain⟨q,e⟩:=ZoH (k:=k) (λj hj=>hG j (by omega)) (by omega) hN (by rw[qd]at hacc;exact hacc) j.2.1 j.2.2.1 j.2.2.2;exact⟨_,rfl,(some (nD k),q),e⟩
 rw[V2]at e;refine⟨j,U4 ?_ e⟩;rw[<-Vv];exact Wy (Z5 (Zj rfl rfl) jO) (by omega)
end
theorem minD (a b:Nat):VE [nD a,nD b]=some (nD (min a b)):=by
 show some (D.int (if (b:Int)<a then (b:Int)else a))=_;rw[TP.min_eq]
theorem Zdo {n:Nat}{jJ L:Qa}(hw:Yn n jJ)(hp:L.Perm jJ)(hl:L.length<=100000):UZ [.lst (L.map Zq)]=some (.lst (jJ.map Zq)):=by
 have e:L.map Zq=(L.map XM).map Y9:=by rw[qN];rfl
 show(match WG (L.map Zq)with | some jM=>if Uv jM then some (D.lst ((YG jM).map Y9))else none | none=>none)=_;rw[e,Zbg];show(if Uv (L.map XM)then some (D.lst ((YG (L.map XM)).map Y9))else none)=_;rw[if_pos ⟨by rw[qd];exact hl,λ_ ns hns=>by
  obtain⟨p,_,rfl⟩:=qu.mp hns;exact λz=>by cases z⟩,Zeg hw hp,qN]
 rfl
noncomputable def X4 (n m:Nat)(g:Nat->Nat):List D:=(qk m).map λj=>D.lst ((YQ n g j).map nD)
theorem gps0 (g:Nat->Nat):Gps 0 0 g:=⟨λx h=>by omega,λj h=>by omega,λx y _ h=>by omega⟩
noncomputable def W2 (n m:Nat)(g:Nat->Nat):Nat->Nat:=λx=>if x<n then g x else m
theorem ZkY {n m k:Nat}{g:Nat->Nat}(G:Gps n m g)(hk:0<k):Gps (n+k) (m+1) (W2 n m g) where
 lt:=λx h=>by
  unfold W2;split
  ·have:=G.lt x (by omega);omega
  ·omega
 ne:=λj h=>by
  by_cases e:j=m
  ·exact⟨n,by omega,by unfold W2;rw[if_neg (by omega),e]⟩
  ·obtain⟨x,hx,ex⟩:=G.ne j (by omega)
   exact⟨x,by omega,by unfold W2;rw[if_pos hx,ex]⟩
 mono:=λx y h hy=>by
  unfold W2;split
  ·split
   ·exact G.mono x y h (by omega)
   ·have:=G.lt x (by omega);omega
  ·split
   ·omega
   ·omega
theorem ZkZ {n m k:Nat}{g:Nat->Nat}(G:Gps n m g):X4 (n+k) (m+1) (W2 n m g)=X4 n m g ++ [.lst (Z3 (n:Int) k)]:=by
 have hr:qk (n+k)=qk n++(qk k).map (n + ·):=List.range_add;unfold X4;rw[qbJ,zE];congr 1
 ·refine zy λj hj=>?_
  have hj:=qD.mp hj;congr 2;unfold YQ;rw[hr,qag,(qaO (l:=(qk k).map (n + ·))).mpr,zj]
  ·refine List.filter_congr λx hx=>?_
   unfold W2;rw[if_pos (qD.mp hx)]
  ·intro x hx
   obtain⟨i,_,rfl⟩:=qu.mp hx;unfold W2;rw[if_neg (by omega)];simp;omega
 ·rw[zc,qa9]
  congr 2;unfold YQ;rw[hr,qag,(qaO (l:=qk n)).mpr,yR,qbO.mpr,qN]
  ·unfold Z3
   refine zy λi _=>?_;show D.int ((n+i:Nat):Int)=_;rw[qa7]
  ·intro x hx
   obtain⟨i,_,rfl⟩:=qu.mp hx;unfold W2;rw[if_neg (by omega)];simp
  ·intro x hx
   unfold W2;rw[if_pos (qD.mp hx)];have:=G.lt x (qD.mp hx);simp;omega
theorem Zk0 {s:Pn}(ok:YO s){N:Nat}(h0:0<N)(hN:N<=14):Ok (runB 12 1 (ZkX (N:Int)) [.pen]) s λd s'=>YO s'/\∃n m g w,0<m/\n<11+N/\Gps n m g/\d=.tup [ZD n (Yf n g w),nD (VB n m g w)]:=by
 refine Ok.runB rfl ?_;refine Ok.seq (jE (a:=.lst []) (b:=.int 0) (Xv rfl (by decide)) rfl rfl ?_);refine Ok.seq (.sset (.op (.eq (a:=.int 11) rfl (.draw (m:=N) ok (Zj rfl (Zj rfl rfl)) h0 (by omega) λr s1 hr ok1=>⟨nD (11+r),by show some (D.int _)=some (D.int _);rw[qa7];rfl,?_⟩))));have hsz:11+r<=24:=by omega
 generalize hszz:11+r=sz at hsz;refine Ok.seq (jz (λq ρ s'=>YO s'/\∃n m g o4,n<=sz/\q=sz-n/\m<=n/\(0<n->0<m)/\Gps n m g/\ρ=[some .pen,some (.lst (X4 n m g)),some (nD n),some (nD sz),o4,none,none,none,none,none,none,none]) sz (by omega) ⟨ok1,0,0,λ_=>0,none,by omega,by omega,by omega,by omega,gps0 _,rfl⟩ λq ρ s' hI=>?_);obtain⟨ok2,n,m,g,o4,hn,rfl,hm,hmp,G,rfl⟩:=hI;refine .eq (YC (Zw rfl rfl (ZkR n sz))) ?_;by_cases hlt:n<sz
 ·rw[if_pos (by simpa using hlt)]
  have hsub:UJ (nD sz) (nD n)=some (nD (sz-n)):=by show some (D.int _)=_;congr 2;omega
  refine .seq (.sset (.call (.cons (.eq (a:=nD (sz-n)) (Zw rfl rfl hsub) (.cons (.op (.eq (a:=.int 1) rfl (.draw (m:=5) ok2 (Zj rfl (Zj rfl rfl)) (by omega) (by omega) λv s3 hv ok3=>⟨nD (1+v),by show some (D.int _)=some (D.int _);rw[qa7];rfl,.nil ⟨_,minD _ _,?_⟩⟩))))))));generalize hkk:min (sz-n) (1+v)=k;have hk0:0<k:=by omega
  have hk1:n+k<=sz:=by omega
  have hadd:Yk (nD n) (nD k)=some (nD (n+k)):=by show some (D.int _)=some (D.int _);rw[qa7]
  have hrng:∀ρ:Zb,(ρ[2]?).bind id=some (nD n)->(ρ[4]?).bind id=some (nD k)->UU (Za 2) (Ze Yk (Za 2) (Za 4)) ρ s3=some (.lst (Z3 (n:Int) k),s3):=fun ρ h2 h4=>by
   have e2:Za 2 ρ s3=some (nD n,s3):=by unfold Za YV;rw[h2]
   have e4:Za 4 ρ s3=some (nD k,s3):=by unfold Za YV;rw[h4]
   have e:=Zw e2 e4 hadd;rw[ZdG e2 e (by omega) (by omega),show n+k-n=k by omega]
  refine Ok.seq (.sapp (ds:=X4 n m g) rfl (by unfold X4;rw[qd,qT,YA];omega) (.eq (hrng _ rfl rfl) ?_));refine Ok.seq (.sset (.eq (Zw rfl rfl hadd) (.next ⟨sz-(n+k),by omega,ok3,n+k,m+1,W2 n m g,some (nD k),hk1,rfl,by omega,by omega,ZkY G hk0,?_⟩)));rw[ZkZ G];rfl
 ·rw[if_neg (by simpa using hlt)]
  have hns:n=sz:=by omega
  subst hns;refine Ok.seq (.sset (.draw (m:=2) ok2 (Zj rfl (Zj rfl rfl)) (by omega) (by omega) λwN s3 hwN ok3=>?_));obtain⟨w,rfl⟩:∃w:Bool,wN=w.toNat:=by
   have:wN=0∨wN=1:=by omega
   rcases this with rfl | rfl
   ·exact⟨false,rfl⟩
   ·exact⟨true,rfl⟩
  refine Ok.seq (.sown (.eq (a:=.lst []) (Xv rfl (by decide)) ⟨rfl,?_⟩));have hG:∀j<m,Zn (.lst (X4 n m g)) (nD j)=some (.lst ((YQ n g j).map nD)):=λj hj=>by
   refine Vf ?_;unfold X4;rw[qH,qG (by simpa using hj)];simp
  have jO:Ya [.lst (X4 n m g)]=some (nD m):=by
   show some (D.int _)=_;unfold X4;rw[qd,qT]
  have hpm:=Zi5 (w:=w) G;have hpl:(BH n m g w).length<=576:=by rw[hpm.length_eq];exact(Ze4 n g w).len (by omega)
  obtain⟨q,eq⟩:=ZoI (GL:=.lst (X4 n m g)) (n:=n) (sz:=n) (o4:=o4) (s:=s3) (w:=w) (N:=576) (acc:=[]) hG (by omega) jO (by rw[YA];omega) (by simpa using hpl) none none none none;rw[yR]at eq;refine Ok.seq (.eq eq ?_);have hc:=XW (src:=[none]) (fi:=ZY (Za 1)) (τ:=Zv 0) (ft:=Yt) (fe:=Zs Ya (Zc (Za 0) Zd)) (ρ:=[some .pen,some (.lst (X4 n m g)),some (nD n),some (nD n),o4,some (nD w.toNat),none,q.1,q.2.1,q.2.2.1,q.2.2.2,none]) (s:=s3) (ds:=X4 n m g) (λd=>[some d]) (λ_=>true) (λd=>match d with | .lst ds=>nD ds.length | _=>.non) (X6 rfl) (by unfold X4;rw[qd,qT,YA];omega) (λd hd=>by
   obtain⟨j,_,rfl⟩:=qu.mp hd;exact⟨rfl,rfl,λ_=>Z5 (Zj rfl rfl) rfl⟩)
  have el:((X4 n m g).filter λ_=>true).map (λd=>match d with | .lst ds=>nD ds.length | _=>.non)=((qk m).map λj=>(YQ n g j).length).map nD:=by
   rw[Vc];unfold X4;rw[qN,qN];refine zy λj _=>?_;show nD ((YQ n g j).map nD).length=nD (YQ n g j).length;rw[qd]
  rw[el]at hc;have hne:(qk m).map (λj=>(YQ n g j).length)≠[]:=λz=>by
   have:=congrArg qaM z;rw[qd,qT]at this;simp at this;omega
  have hkn:Zn (.lst [nD m,nD (XE ((qk m).map λj=>(YQ n g j).length))]) (nD w.toNat)=some (nD (VB n m g w)):=by
   cases w
   ·exact UD _ _
   ·exact VG _ _ _
  refine Ok.seq (.sset (.eq (Zw (ZeC (Z5 (Zj rfl rfl) jO) (Z5 (Zj hc rfl) (Zf5 hne))) rfl hkn) ?_));refine Ok.seq (.sret (.eq (a:=.tup [ZD n (Yf n g w),nD (VB n m g w)]) (Vw (Vw rfl (Z5 (c:=.tup ((Yf n g w).map Zq)) (Zj (Z5 (Zj rfl rfl) (Zdo (Ze4 n g w) hpm (by omega))) rfl) rfl)) rfl) ⟨ok3,n,m,g,w,by omega,by omega,G,rfl⟩))
noncomputable def ZhO:Zb->M Out:=(Zf (Z9 (YL (Ze Zn (Za 0) (dC (.int 0)))) (Zv 2)
 (Zf (Yu (asB (Ze WF (dC (.bl false)) (Yj [none,some 0,some 2] (ZY (Za 1)) (Zv 0) Yt (Zr Vr (Zc (Za 1) (Zc (Za 0) (Zc (Za 2) Zd)))))))
 (Zf (ZO 1 (Ze Yk (Za 1) (ZZ (Zc (Za 2) Zd))))
 Zk)
 Zk)
 Zk))
 (Zf (ZL (Za 1))
 Zk))
theorem Zi6 {n:Nat}{t:Qa}(hn:n<=24){K:List Nat}(hK:K.length<=100)(s:Pn):runB 3 2 ZhO [ZD n t,.lst (K.map nD)] s=some (.lst (((qk n).foldl (grow t) K).map nD),s):=by
 refine js (Ok.runB rfl ?_);refine Ok.seq (.sfor (λi ρ s'=>s'=s/\((qk i).foldl (grow t) K).length<=100+i/\i<=n/\∃o2,ρ=[some (ZD n t),some (.lst (((qk i).foldl (grow t) K).map nD)),o2]) (.eq (Wy (n:=n) (Zw (d:=ZD n t) (e:=.int 0) rfl rfl WN) (by omega)) ⟨⟨rfl,by simpa using hK,by omega,none,rfl⟩,λi d ρ s' hd hI=>?_,fun ρ' s' hI=>?_⟩))
 ·obtain⟨rfl,jO,_,o2,rfl⟩:=hI
  obtain⟨hi,rfl⟩:=US hd;refine⟨_,rfl,?_⟩;have er:(qk (i+1)).foldl (grow t) K=grow t ((qk i).foldl (grow t) K) i:=by rw[qbJ,qca];rfl
  rw[er];generalize (qk i).foldl (grow t) K=K1 at jO;have hc:=XW (src:=[none,some 0,some 2]) (fi:=ZY (Za 1)) (τ:=Zv 0) (ft:=Yt) (fe:=Zr Vr (Zc (Za 1) (Zc (Za 0) (Zc (Za 2) Zd)))) (ρ:=[some (ZD n t),some (.lst (K1.map nD)),some (nD i)]) (s:=s') (ds:=K1.map nD) (λd=>[some d,some (ZD n t),some (nD i)]) (λ_=>true) (λd=>.bl (tied t (YD d) i)) (X6 rfl) (by rw[qd,YA];omega) λd hd=>by
   obtain⟨o,_,rfl⟩:=qu.mp hd;exact⟨rfl,rfl,λ_=>YM (Zj rfl (Zj rfl (Zj rfl rfl))) (Zcd n t o i s')⟩
  have e0:(K1.map nD).map (λd=>D.bl (tied t (YD d) i))=(K1.map λo=>tied t o i).map D.bl:=by rw[qN,qN];rfl
  rw[Vc,e0]at hc;have hb:WF (.bl false) (.lst ((K1.map λo=>tied t o i).map D.bl))=some (.bl (K1.all λo=>tied t o i)):=by rw[ZbJ,qde];rfl
  refine Ok.seq (.sif (.eq (YC (Zw (d:=.bl false) rfl hc hb)) ?_));unfold grow
  cases ha:K1.all λo=>tied t o i with
  | true=>
   rw[if_pos rfl,if_pos rfl];refine .seq (.sset (.eq (a:=.lst ((K1 ++ [i]).map nD)) (Zw (d:=.lst (K1.map nD)) (e:=.lst [nD i]) rfl (ZeB rfl) ?_) (.next (.next ⟨_,rfl,rfl,by rw[qI];simp;omega,by omega,_,rfl⟩))));show(if (K1.map nD).length+1<=xg then some (D.lst (K1.map nD ++ [nD i]))else none)=_;rw[if_pos (by rw[qd,YA];omega),zE];rfl
  | false=>
   rw[if_neg (by decide),if_neg (by decide)];exact .next (.next ⟨_,rfl,rfl,by omega,by omega,_,rfl⟩)
 ·obtain⟨rfl,_,_,o2,rfl⟩:=hI
  rw[Wm];exact Ok.seq (.sret (.eq rfl ⟨rfl,rfl⟩))
noncomputable def ZmL:Zb->M Out:=(Zf (ZO 2 (Zr FTu (Zc (Za 0) (Zc (Ww (Ze Zn (Za 1) (dC (.int 0)))) Zd))))
 (Zf (Xt 3 (ZZ Zd))
 (Zf (Z9 (fun ρ=>(XY (Ze Zn (Za 1) (dC (.int 1)))) (ZG [3] ρ)) (VD 4 5)
 (Zf (ZO 6 (fun ρ=>(Zs Uu (Zc (ZZ (Zc (Ze Zn (Za 2) (Za 4)) (Zc (Ze Zn (Za 2) (Za 5)) Zd))) Zd)) (ZG [3] ρ)))
 (Zf (Xz 3 (fun ρ=>(ZS (Zc (Ze Zn (Za 6) (dC (.int 0))) (Zc (Ze Zn (Za 6) (dC (.int 1))) Zd))) (ZG [3] ρ)))
 Zk)))
 (Zf (ZL (ZS (Zc (Ze Zn (Za 1) (dC (.int 0))) (Zc (Zs WE (Zc (Zs UZ (Zc (Za 3) Zd)) Zd)) Zd))))
 Zk))))
theorem ZoJ (a b:Nat):Uu [.lst [nD a,nD b]]=some (.lst [nD (min a b),nD (max a b)]):=by
 have e:[((min a b:Nat):Int),((max a b:Nat):Int)]=Y7 [(a:Int),(b:Int)]:=by
  refine JO ?_ ?_
  ·rcases qbM a b with h | h
   ·rw[Nat.min_eq_left h,qbE h]
   ·rw[Nat.min_eq_right h,qcy h];exact .swap _ _ _
  ·simp;omega
 show(if [(a:Int),(b:Int)].length<64 then some (D.lst ((Y7 [(a:Int),(b:Int)]).map .int))else none)=_;rw[if_pos (by simp),<-e];rfl
theorem Zmp {n:Nat}{t:Qa}(hw:Yn n t)(hn:n<=24){s:Pn}(ok:YO s):Ok (runB 7 2 ZmL [.pen,ZD n t]) s λd s'=>YO s'/\∃f:Nat->Nat,(∀x<n,f x<n)/\(∀x y,x<n->y<n->f x=f y->x=y)/\(∀y<n,∃x<n,f x=y)/\d=ZD n (Ue n f t):=by
 refine Ok.runB rfl ?_;have hlr:Ww (Ze Zn (Za 1) (dC (.int 0))) [some .pen,some (ZD n t),none,none,none,none,none] s=some (.lst ((qk n).map nD),s):=by
  rw[ZaA (n:=n) (Zw (d:=ZD n t) (e:=.int 0) rfl rfl WN) (by omega),Vv]
 refine Ok.seq (.sset (.fn (Zj rfl (Zj hlr rfl)) ((Zi2 (ps:=qk n) (by rw[qT];omega) ok).mono λd s1 q=>?_)));obtain⟨ok1,ps,rfl,pm⟩:=q;have nd:ps.Nodup:=pm.nodup_iff.mpr zN;have hpl:ps.length=n:=by rw[pm.length_eq,qT]
 have gd:∀x (h:x<n),ps.getD x 0=ps[x]'(by omega):=λx h=>by rw[qP,qG (by omega)];rfl
 have hf:∀x<n,ps.getD x 0<n:=λx hx=>by
  rw[gd x hx];exact qD.mp (pm.mem_iff.mp (qbD _))
 have hi:∀x y,x<n->y<n->ps.getD x 0=ps.getD y 0->x=y:=λx y hx hy e=>by
  rw[gd x hx,gd y hy]at e;rcases qbt x y with h | h | h
  ·exact absurd e (zx.mp nd x y (by omega) (by omega) h)
  ·exact h
  ·exact absurd e.symm (zx.mp nd y x (by omega) (by omega) h)
 have hs:∀y<n,∃x<n,ps.getD x 0=y:=λy hy=>by
  obtain⟨x,hx,e⟩:=qcV.mp (pm.mem_iff.mpr (qD.mpr hy));exact⟨x,by omega,by rw[gd x (by omega),e]⟩
 have htl:=hw.len hn;refine Ok.seq (.sown (.eq (a:=.lst []) (Xv rfl (by decide)) ⟨rfl,?_⟩));refine Ok.seq (.sfor (λi ρ s'=>s'=s1/\∃o4 o5 o6,ρ=[some .pen,some (ZD n t),some (.lst (ps.map nD)),some (.lst (((t.take i).map (VP λx=>ps.getD x 0)).map Zq)),o4,o5,o6]) (.eq (a:=t.map Zq) (s':=s1) (U5 (Zw (d:=ZD n t) (e:=.int 1) rfl rfl web1)) ⟨⟨rfl,none,none,none,rfl⟩,λi d ρ s' hd hI=>?_,fun ρ' s' hI=>?_⟩))
 ·obtain⟨rfl,o4,o5,o6,rfl⟩:=hI
  rw[qH]at hd;obtain⟨p,hp,rfl⟩:=yn.mp hd;have hpp:=hw.mem (zv hp);refine⟨_,rfl,?_⟩;have hix:∀x,x<n->Zn (.lst (ps.map nD)) (nD x)=some (nD (ps.getD x 0)):=λx hx=>ZcG (by omega);refine Ok.seq (.sset (.eq (Z5 (Zj (ZeC (Zw rfl rfl (hix p.1 (by omega))) (Zw rfl rfl (hix p.2 hpp.2))) rfl) (ZoJ _ _)) ?_));have htk:(t.take i).length<=576:=zi (zF _ _).length_le htl;refine Ok.seq (.sapp (ds:=((t.take i).map (VP λx=>ps.getD x 0)).map Zq) rfl (by rw[qd,qd,YA];omega) (.eq (a:=Zq (VP (λx=>ps.getD x 0) p)) (Vw (Zw (e:=.int 0) rfl rfl (UD _ _)) (Zw (e:=.int 1) rfl rfl (VG _ _ _))) (.next ⟨_,rfl,rfl,some (nD p.1),some (nD p.2),some (.lst [nD (min (ps.getD p.1 0) (ps.getD p.2 0)),nD (max (ps.getD p.1 0) (ps.getD p.2 0))]),?_⟩)));have et:t.take (i+1)=t.take i ++ [p]:=by rw[qbU,hp];rfl
  rw[et,zE,zE];rfl
 ·obtain⟨rfl,o4,o5,o6,rfl⟩:=hI
  rw[qd,yy];have pmv:=ZhM hw hf hi;exact Ok.seq (.sret (.eq (a:=ZD n (Ue n (λx=>ps.getD x 0) t)) (Vw (Zw (d:=ZD n t) (e:=.int 0) rfl rfl WN) (Z5 (c:=.tup ((Ue n (λx=>ps.getD x 0) t).map Zq)) (Zj (Z5 (Zj rfl rfl) (Zdo (Zg5 n _ t) pmv (by rw[qd];omega))) rfl) rfl)) ⟨ok1,_,hf,hi,hs,rfl⟩))
noncomputable def Zn2 (N:Int):Zb->M Out:=(Zf (UL (VD 1 2) (Zr (runB 12 1 (ZkX N)) (Zc (Za 0) Zd)))
 (Zf (ZO 3 (ZZ Zd))
 (Zf (Z9 (YL (Ze Zn (Za 1) (dC (.int 0)))) (Zv 4)
 (Zf (Yu (asB (Ze Yy (Za 3) (ZZ Zd)))
 (Zf (ZO 5 (Zr (runB 3 2 ZhO) (Zc (Za 1) (Zc (ZZ (Zc (Za 4) Zd)) Zd))))
 (Zf (ZO 3 (Ze Zn (ZZ (Zc (ZZ Zd) (Zc (Za 5) Zd))) (Zs VF (Zc (Ze Yy (Zs Ya (Zc (Za 5) Zd)) (Za 2)) Zd))))
 Zk))
 Zk)
 Zk))
 (Zf (Xt 6 (ZZ Zd))
 (Zf (Z9 (fun ρ=>(XY (Ze Zn (Za 1) (dC (.int 1)))) (ZG [6] ρ)) (VD 7 8)
 (Zf (Yu (WP (XZ (asB (Ze Y0 (Za 7) (Za 3))) (asB (Ze Y0 (Za 8) (Za 3)))) (asB (Ze dGt (Zr YS (Zc (Za 0) (Zc (dC (.int 4)) Zd))) (dC (.int 0)))))
 (Zf (Xz 6 (fun ρ=>(ZS (Zc (Za 7) (Zc (Za 8) Zd))) (ZG [6] ρ)))
 Zk)
 Zk)
 Zk))
 (Zf (ZL (ZS (Zc (Zr (runB 7 2 ZmL) (Zc (Za 0) (Zc (ZS (Zc (Ze Zn (Za 1) (dC (.int 0))) (Zc (Zs WE (Zc (Za 6) Zd)) Zd))) Zd))) (Zc (Za 2) Zd))))
 Zk))))))
theorem Zmq (k:List Nat):Yy (.lst (k.map nD)) (.lst [])=some (.bl (decide (k=[]))):=by
 obtain⟨h1,h2⟩:=B5 k;unfold Yy Wq;rw[if_pos (by simp only[h1,qcZ,zl,decide_eq_true_eq];exact⟨⟨rfl,h2⟩,by decide⟩)]
 cases k with
 | nil=>rfl
 | cons a l=>rfl
theorem ZhP (x:Nat)(k:List Nat):Y0 (nD x) (.lst (k.map nD))=some (.bl (decide (x∈k))):=ZkK x k
theorem Zk1 {s:Pn}(ok:YO s){N:Nat}(h0:0<N)(hN:N<=14):Ok (runB 9 1 (Zn2 (N:Int)) [.pen]) s λd s'=>YO s'/\∃n jJ,n<11+N/\Yn n jJ/\d=.tup [ZD n jJ,nD (om n jJ)]:=by
 refine Ok.runB rfl ?_;refine Ok.seq (.sunp (.fn (Zj rfl rfl) ((Zk0 ok h0 hN).mono λd s1 q=>?_)));obtain⟨ok1,n,m,g,w,hm,hnN,G,rfl⟩:=q;have hn:n<=24:=by omega
 have hw:=Ze4 n g w;have htl:=hw.len hn;refine⟨_,rfl,?_⟩;refine Ok.seq (.sset (.eq (a:=.lst []) (Xv rfl (by decide)) ?_));have hgr:∀x<n,Wj n (Yf n g w) ((qk n).foldl (grow (Yf n g w)) [x])/\x∈(qk n).foldl (grow (Yf n g w)) [x]/\ZmK n (Yf n g w) ((qk n).foldl (grow (Yf n g w)) [x]):=λx hx=>by
  obtain⟨a1,a2,a3⟩:=Zei hw (qk n) (ZkU (t:=Yf n g w) hx) λp hp=>qD.mp hp;exact⟨a1,a2 x (by simp),λp hp=>a3 p (qD.mpr hp)⟩
 generalize hkk:VB n m g w=kk;have hkp:0<kk:=by rw[<-hkk];exact Zi1 G hm
 refine Ok.seq (.sfor (λi ρ s'=>s'=s1/\∃kt o4 o5,ρ=[some .pen,some (ZD n (Yf n g w)),some (nD kk),some (.lst (kt.map nD)),o4,o5,none,none,none]/\((kt=[]/\∀x<i,((qk n).foldl (grow (Yf n g w)) [x]).length≠kk)∨(Wj n (Yf n g w) kt/\kt.length=kk))) (.eq (Wy (n:=n) (Zw (d:=ZD n (Yf n g w)) (e:=.int 0) rfl rfl WN) (by omega)) ⟨⟨rfl,[],none,none,rfl,.inl ⟨rfl,λx hx=>by omega⟩⟩,λi d ρ s' hd hI=>?_,fun ρ' s' hI=>?_⟩))
 ·obtain⟨rfl,kt,o4,o5,rfl,hk⟩:=hI
  obtain⟨hi,rfl⟩:=US hd;refine⟨_,rfl,?_⟩;refine Ok.seq (.sif (.eq (YC (Zw (d:=.lst (kt.map nD)) (e:=.lst []) rfl (Xv rfl (by decide)) (Zmq kt))) ?_));by_cases hnil:kt=[]
  ·rw[if_pos (by simpa using hnil)]
   have hk0:∀x<i,((qk n).foldl (grow (Yf n g w)) [x]).length≠kk:=by
    rcases hk with h | h
    ·exact h.2
    ·rw[hnil]at h;have:=h.2;simp at this;omega
   obtain⟨b1,b2,b3⟩:=hgr i hi;refine .seq (.sset (.eq (YM (Zj rfl (Zj (ZeB rfl) rfl)) (Zi6 (K:=[i]) hn (by simp) s')) ?_));generalize hR:(qk n).foldl (grow (Yf n g w)) [i]=R at b1 b2 b3;have hi1:VF [.bl (R.length==kk)]=some (nD (R.length==kk).toNat):=by cases (R.length==kk) <;> rfl
   have he:Yy (nD R.length) (nD kk)=some (.bl (R.length==kk)):=by rw[eqi];congr 2;rw[qal];simp;omega
   have hix:Zn (.lst [.lst [],.lst (R.map nD)]) (nD (R.length==kk).toNat)=some (.lst ((if R.length=kk then R else []).map nD)):=by
    by_cases e:R.length=kk
    ·rw[show(R.length==kk)=true by simpa using e,if_pos e];exact VG _ _ _
    ·rw[show(R.length==kk)=false by simpa using e,if_neg e];exact UD _ _
   refine Ok.seq (.sset (.eq (Zw (ZeC (Xv rfl (by decide)) rfl) (Z5 (Zj (Zw (Z5 (Zj rfl rfl) (Zb4 R)) rfl he) rfl) hi1) hix) (.next (.next ⟨_,rfl,rfl,_,_,_,rfl,?_⟩))));by_cases e:R.length=kk
   ·rw[if_pos e];exact .inr ⟨b1,e⟩
   ·rw[if_neg e]
    refine .inl ⟨rfl,λx hx=>?_⟩;by_cases hxi:x=i
    ·rw[hxi,hR];exact e
    ·exact hk0 x (by omega)
  ·rw[if_neg (by simpa using hnil)]
   refine .next (.next ⟨_,rfl,rfl,kt,_,_,rfl,?_⟩);rcases hk with h | h
   ·exact absurd h.1 hnil
   ·exact .inr h
 ·obtain⟨rfl,kt,o4,o5,rfl,hk⟩:=hI
  rw[Wm]at hk;have hkt:Wj n (Yf n g w) kt/\kt.length=kk:=by
   rcases hk with h | h
   ·obtain⟨x,hx,ex⟩:=Zeh (w:=w) G hm
    obtain⟨b1,b2,b3⟩:=hgr x hx;exact absurd (by rw[<-hkk];exact ZkT G b1 b3 b2 ex) (h.2 x hx)
   ·exact h
  clear hk;refine Ok.seq (.sown (.eq (a:=.lst []) (Xv rfl (by decide)) ⟨rfl,?_⟩));refine Ok.seq (.sfor (λi ρ s2=>YO s2/\∃(T:Qa) (o7 o8:Option D),T.Sublist ((Yf n g w).take i)/\(∀p∈(Yf n g w).take i,p.1∈kt->p.2∈kt->p∈T)/\ρ=[some .pen,some (ZD n (Yf n g w)),some (nD kk),some (.lst (kt.map nD)),o4,o5,some (.lst (T.map Zq)),o7,o8]) (.eq (a:=(Yf n g w).map Zq) (s':=s') (U5 (Zw (d:=ZD n (Yf n g w)) (e:=.int 1) rfl rfl web1)) ⟨⟨ok1,[],none,none,by simp,λp hp=>by simp at hp,rfl⟩,λi d ρ s2 hd hI=>?_,fun ρ' s2 hI=>?_⟩))
  ·obtain⟨ok2,T,o7,o8,hT,hin,rfl⟩:=hI
   rw[qH]at hd;obtain⟨p,hp,rfl⟩:=yn.mp hd;refine⟨_,rfl,?_⟩;have et:(Yf n g w).take (i+1)=(Yf n g w).take i ++ [p]:=by rw[qbU,hp];rfl
   have hTl:T.length<=576:=zi hT.length_le (zi (zF _ _).length_le htl);refine Ok.seq (.sif (.bor (.eq (a:=decide (p.1∈kt)&&decide (p.2∈kt)) (Zez (YC (Zw rfl rfl (ZhP p.1 kt))) λ_=>YC (Zw rfl rfl (ZhP p.2 kt))) ?_)));have yes:∀s3,YO s3->Ok (Zf (Xz 6 (fun ρ=>(ZS (Zc (Za 7) (Zc (Za 8) Zd))) (ZG [6] ρ))) Zk [some .pen,some (ZD n (Yf n g w)),some (nD kk),some (.lst (kt.map nD)),o4,o5,some (.lst (T.map Zq)),some (nD p.1),some (nD p.2)]) s3 λo s4=>o=.nx [some .pen,some (ZD n (Yf n g w)),some (nD kk),some (.lst (kt.map nD)),o4,o5,some (.lst ((T ++ [p]).map Zq)),some (nD p.1),some (nD p.2)]/\s4=s3:=λs3 _=>by
    refine .seq (.sapp (ds:=T.map Zq) rfl (by rw[qd,YA];omega) (.eq (a:=Zq p) (Vw rfl rfl) (.next ⟨?_,rfl⟩)));rw[zE];rfl
   have fin1:(T ++ [p]).Sublist ((Yf n g w).take (i+1))/\∀q∈(Yf n g w).take (i+1),q.1∈kt->q.2∈kt->q∈T ++ [p]:=by
    rw[et];refine⟨hT.append (.refl _),λq hq h1 h2=>?_⟩;rcases qR.mp hq with z | z
    ·exact yB _ (hin q z h1 h2)
    ·exact zf _ z
   by_cases hb:p.1∈kt/\p.2∈kt
   ·rw[if_pos (by simpa using hb),if_pos rfl]
    exact(yes s2 ok2).mono λo s3 q=>by
     obtain⟨rfl,rfl⟩:=q;exact .next ⟨_,rfl,ok2,T ++ [p],_,_,fin1.1,fin1.2,rfl⟩
   ·rw[if_neg (by simpa using hb)]
    refine .asB (.op (.draw (m:=4) ok2 (Zj rfl (Zj rfl rfl)) (by omega) (by omega) λr s3 hr ok3=>.eq (a:=.int 0) rfl ⟨_,rfl,_,rfl,?_⟩))
    cases hd:decide ((r:Int) > 0)with
    | true=>
     rw[if_pos rfl];exact(yes s3 ok3).mono λo s4 q=>by
      obtain⟨rfl,rfl⟩:=q;exact .next ⟨_,rfl,ok3,T ++ [p],_,_,fin1.1,fin1.2,rfl⟩
    | false=>
     rw[if_neg (by decide)];refine .next (.next ⟨_,rfl,ok3,T,_,_,?_,λq hq h1 h2=>?_,rfl⟩)
     ·rw[et];exact hT.trans (List.sublist_append_left _ _)
     ·rw[et]at hq
      rcases qR.mp hq with z | z
      ·exact hin q z h1 h2
      ·rw[qz.mp z]at h1 h2
       exact absurd ⟨h1,h2⟩ hb
  ·obtain⟨ok2,T,o7,o8,hT,hin,rfl⟩:=hI
   rw[qd,yy]at hT hin;have hwT:Yn n T:=hT.trans hw;have hkT:Wj n T kt:=⟨hkt.1.1,hkt.1.2.1,λa ha b hb hab=>by
    have h1:=Vu.mp (hkt.1.2.2 a ha b hb hab);refine Vu.mpr (hin _ h1 ?_ ?_)
    ·simp only
     rcases qbM a b with z | z
     ·rw[Nat.min_eq_left z];exact ha
     ·rw[Nat.min_eq_right z];exact hb
    ·simp only
     rcases qbM a b with z | z
     ·rw[qbE z];exact hb
     ·rw[qcy z];exact ha⟩
   refine Ok.seq (.sret (.tup (.cons (.fn (Zj rfl (Zj (d:=ZD n T) (Vw (Zw (d:=ZD n (Yf n g w)) (e:=.int 0) rfl rfl WN) (Z5 (Zj rfl rfl) rfl)) rfl)) ((Zmp hwT hn ok2).mono λd s3 q=>?_)))));obtain⟨ok3,f,hf,hi,hs,rfl⟩:=q;refine .cons (.eq (a:=nD kk) rfl (.nil ⟨two_le,ok3,n,Ue n f T,hnN,Zg5 n f T,?_⟩));rw[ZoE hwT hf hi hn hs (m:=kk) (λK hK=>?_) hkT hkt.2];rw[<-hkk];exact Zg4 G ⟨hK.1,hK.2.1,λa ha b hb hab=>Vu.mpr (hT.subset (Vu.mp (hK.2.2 a ha b hb hab)))⟩
noncomputable def Zn3 (q:Int):Zb->M Out:=(Zf (ZO 1 (Ze Yk (dC (.int 10)) (Zr YS (Zc (Za 0) (Zc (dC (.int 15)) Zd)))))
 (Zf (Xt 2 (ZZ Zd))
 (Zf (Z9 (U1 (dC (.int 1)) (Za 1)) (Zv 3)
 (Zf (Z9 (YL (dC (.int q))) (Zv 4)
 (Zf (Xz 2 (fun ρ=>(ZS (Zc (Zr YS (Zc (Za 0) (Zc (Za 3) Zd))) (Zc (Za 3) Zd))) (ZG [2] ρ)))
 Zk))
 Zk))
 (Zf (ZL (ZS (Zc (Za 1) (Zc (Zs WE (Zc (JR (Za 2)) Zd)) Zd))))
 Zk))))
theorem Zk2 {s:Pn}(ok:YO s){q:Nat}(hq:q<=4):Ok (runB 5 1 (Zn3 (q:Int)) [.pen]) s λd s'=>YO s'/\∃n jJ,d=ZD n jJ/\n<=24/\Yn n jJ/\(kn jJ n).length<=1000:=by
 refine Ok.runB rfl ?_;refine Ok.seq (.sset (.op (.eq (a:=.int 10) rfl (.draw (m:=15) ok (Zj rfl (Zj rfl rfl)) (by omega) (by omega) λr s1 hr ok1=>⟨nD (10+r),by show some (D.int _)=some (D.int _);rw[qa7];rfl,?_⟩))));have hn:10+r<=24:=by omega
 generalize 10+r=n at hn;refine Ok.seq (.sown (.eq (a:=.lst []) (Xv rfl (by decide)) ⟨rfl,?_⟩));refine Ok.seq (.sfor (λi ρ s'=>YO s'/\∃(L:Qa) (o3 o4:Option D),L.length<=i*q/\(∀p∈L,p.1<p.2/\p.2<n/\p.2<1+i)/\(∀c,(L.filter λp=>p.2==c).length<=q)/\ρ=[some .pen,some (nD n),some (.lst (L.map Zq)),o3,o4]) (.eq (ZdV (a:=1) (n:=n) rfl rfl (by omega) (by omega)) ⟨⟨ok1,[],none,none,by simp,λp hp=>by simp at hp,λc=>by simp,rfl⟩,λi d ρ s' hd hI=>?_,fun ρ' s' hI=>?_⟩))
 ·obtain⟨ok2,L,o3,o4,hL,hp,hc,rfl⟩:=hI
  obtain⟨hi,rfl⟩:=B2 hd;refine⟨_,rfl,?_⟩;refine Ok.seq (.sfor (λj ρ s'=>YO s'/\∃(L:Qa) (o4:Option D),L.length<=i*q+j/\(∀p∈L,p.1<p.2/\p.2<n/\p.2<1+(i+1))/\(∀c,c≠1+i->(L.filter λp=>p.2==c).length<=q)/\(L.filter λp=>p.2==1+i).length<=j/\ρ=[some .pen,some (nD n),some (.lst (L.map Zq)),some (nD (1+i)),o4]) (.eq (Wy (n:=q) rfl (by omega)) ⟨⟨ok2,L,o4,by omega,λp h=>⟨(hp p h).1,(hp p h).2.1,by have:=(hp p h).2.2;omega⟩,λc _=>hc c,?_,rfl⟩,λj d ρ s' hd hI=>?_,fun ρ' s' hI=>?_⟩))
  ·rw[qaO.mpr λp h=>by have:=(hp p h).2.2;simp;omega];simp
  ·obtain⟨ok3,L,o4,hL,hp,hc,hcj,rfl⟩:=hI
   obtain⟨hj,rfl⟩:=US hd;refine⟨_,rfl,?_⟩;have hiq:i*q<=24*4:=qaV (by omega) hq;refine Ok.seq (.sapp (ds:=L.map Zq) rfl (by rw[qd,YA];omega) (.tup (.cons (.draw (m:=1+i) ok3 (Zj rfl (Zj rfl rfl)) (by omega) (by omega) λa s4 ha ok4=>.cons (.eq (a:=nD (1+i)) rfl (.nil ⟨two_le,.next ⟨_,rfl,ok4,L ++ [(a,1+i)],some (.int (j:Int)),by rw[qI];simp;omega,λp h=>?_,λc hcc=>?_,?_,?_⟩⟩))))))
   ·rcases qR.mp h with z | z
    ·exact hp p z
    ·rw[qz.mp z];simp only;omega
   ·rw[qag,(qaO (l:=[(a,1+i)])).mpr (by simp;omega),zj];exact hc c hcc
   ·rw[qag,qI]
    have:=qam (λp:Nat×Nat=>p.2==1+i) [(a,1+i)];simp only[qaU]at this;omega
   ·rw[zE];rfl
  ·obtain⟨ok3,L,o4,hL,hp,hc,hcj,rfl⟩:=hI
   rw[Wm]at hL hcj;refine .next ⟨_,rfl,ok3,L,_,_,by rw[Nat.add_mul];omega,hp,λc=>?_,rfl⟩;by_cases e:c=1+i
   ·rw[e];exact hcj
   ·exact hc c e
 ·obtain⟨ok2,L,o3,o4,hL,hp,hc,rfl⟩:=hI
  rw[Wm]at hL;have hnq:(n-1)*q<=23*4:=qaV (by omega) hq;have hw:Yn n ((YU n).filter λp=>decide (p∈L)):=Yn.filter _;have hmem:∀p,p∈L↔p∈(YU n).filter λp=>decide (p∈L):=λp=>by
   rw[qO,VU,decide_eq_true_eq];exact⟨λh=>⟨⟨(hp p h).1,(hp p h).2.1⟩,h⟩,λh=>h.2⟩
  have hss:JR (Za 2) [some .pen,some (nD n),some (.lst (L.map Zq)),o3,o4] s'=some (.lst (((YU n).filter λp=>decide (p∈L)).map Zq),s'):=by
   unfold JR Zp;show Js (L.map Zq) s'=_;exact Zi3 hw hmem (by omega) s'
  refine Ok.seq (.sret (.eq (a:=ZD n ((YU n).filter λp=>decide (p∈L))) (Vw rfl (Z5 (Zj hss rfl) rfl)) ⟨ok2,n,_,rfl,hn,hw,?_⟩));have h1:=ZkV (t:=(YU n).filter λp=>decide (p∈L)) (q:=q) (λi=>by
   have h2:=Vs (a:=((qk i).filter λa=>decide ((a,i)∈(YU n).filter λp=>decide (p∈L))).map λa=>(a,i)) (b:=L.filter λp=>p.2==i) (zp.mpr ((zN.sublist zu).imp λh e=>h (congrArg Prod.fst e))) λp h=>by
    obtain⟨a,ha,rfl⟩:=qu.mp h;exact qO.mpr ⟨(hmem _).mpr (of_decide_eq_true (qO.mp ha).2),by simp⟩
   rw[qd]at h2;exact zi h2 (hc i)) n
  have h3:n*2 ^ q<=24*2 ^ 4:=qaV hn (qcX (by omega) hq);omega
noncomputable abbrev Uf (n:Nat)(jJ:Qa):D:=.tup [nD n,.dt (YI [] jJ)]
theorem mk0 {n:Nat}{jJ:Qa}:Zn (Uf n jJ) (.int 0)=some (nD n):=UD _ _
theorem mk1 {n:Nat}{jJ:Qa}:Zn (Uf n jJ) (.int 1)=some (.dt (YI [] jJ)):=VG _ _ _
theorem Zk3 (n:Nat)(jJ:Qa)(p:Nat)(s:Pn)(hn:n<=100000):Je [Uf n jJ,.int p] s=some (.lst ((Y1 n jJ p).map nD),s):=by
 refine Wg rfl (XG (Wh ?_));unfold Y1;show _=some (D.lst (((qk n).filter λo=>tied jJ p o).map λ(i:Nat)=>D.int (i:Int)),s);rw[<-Zfs];refine XW (ds:=Z3 0 n) (λd=>[some d,some (Uf n jJ),some (.int p)]) (λd=>tied jJ p (YD d)) (λd=>d) (Wy (Zw (d:=Uf n jJ) (e:=.int 0) rfl rfl mk0) hn) (Zhq hn) ?_;intro d hd;obtain⟨i,hi,rfl⟩:=ZcZ hd;exact⟨rfl,YC (YM (Zj (Zw (d:=Uf n jJ) (e:=.int 1) rfl rfl mk1) (Zj rfl (Zj rfl rfl))) (ZbI jJ p i s)),λ_=>rfl⟩
noncomputable def gN:Zb->M Out:=(Zf (ZO 1 (ZS (Zc (Ze Zn (Za 0) (dC (.int 0))) (Zc (Zr Uh (Zc (Za 0) Zd)) Zd))))
 (Zf (ZL (Yj [none,some 1] (YL (Ze Zn (Za 0) (dC (.int 0)))) (Zv 0) Yt (Zr Je (Zc (Za 1) (Zc (Za 0) Zd)))))
 Zk))
theorem Ze7 (n:Nat)(jJ:Qa)(hn:n<=1000)(hl:jJ.length<=100000)(s:Pn):runB 2 1 gN [ZD n jJ] s=some (ZnT n jJ,s):=by
 refine Wg rfl (XH (WW (Vg (Zj (Zw (d:=ZD n jJ) (e:=.int 0) rfl rfl WN) (Zj (YM (Zj rfl rfl) (ZdX n jJ s hl)) rfl)) two_le)) (XG (Wh ?_)));have hc:=XW (src:=[none,some 1]) (fi:=YL (Ze Zn (Za 0) (dC (.int 0)))) (τ:=Zv 0) (ft:=Yt) (fe:=Zr Je (Zc (Za 1) (Zc (Za 0) Zd))) (ρ:=[some (ZD n jJ),some (Uf n jJ)]) (s:=s) (ds:=Z3 0 n) (λd=>[some d,some (Uf n jJ)]) (λ_=>true) (λd=>.lst ((Y1 n jJ (YD d)).map nD)) (Wy (Zw (d:=ZD n jJ) (e:=.int 0) rfl rfl WN) (by omega)) (Zhq (by omega)) λd hd=>by
  obtain⟨i,hi,rfl⟩:=ZcZ hd;exact⟨rfl,rfl,λ_=>YM (Zj rfl (Zj rfl rfl)) (Zk3 n jJ i s (by omega))⟩
 rw[Vc,Vv,qN]at hc;exact hc
section
variable (ap:Nat->Nat->Bool)
noncomputable def one? (ps:List Nat):Option Nat:=ps.find? λp=>decide (Xa ap ps p<=1)
noncomputable def Yh:Nat->List Nat->List Nat
 | 0,_=>[]
 | m+1,ps=>if ps=[]then []else match one? ap ps with
  | some p=>p::Yh m (YT ap ps p)
  | none=>if (Yh m (ps.filter λo=>!decide (o=Yd ap ps))).length<=(Yd ap ps::Yh m (YT ap ps (Yd ap ps))).length then Yd ap ps::Yh m (YT ap ps (Yd ap ps))
   else Yh m (ps.filter λo=>!decide (o=Yd ap ps))
end
section
variable {ap:Nat->Nat->Bool}
theorem ZbK {ps:List Nat}{p:Nat}(h:one? ap ps=some p):p∈ps/\Xa ap ps p<=1:=⟨List.mem_of_find?_eq_some h,by have:=List.find?_some h;simpa using this⟩
theorem ZbL (sy:∀a b,ap a b=ap b a):∀(m:Nat) (ps:List Nat),KnA ap ps (Yh ap m ps)
 | 0,ps=>⟨qbR,λx hx=>by simp[Yh]at hx,λx hx=>by simp[Yh]at hx⟩
 | m+1,ps=>by
  unfold Yh;by_cases h0:ps=[]
  ·rw[if_pos h0];exact⟨qbR,λx hx=>by simp at hx,λx hx=>by simp at hx⟩
  ·rw[if_neg h0]
   have w:=λp (hp:p∈ps)=>jG sy hp (ZbL sy m (YT ap ps p));split
   ·rename_i p hp
    exact w _ (ZbK hp).1
   ·split
    ·exact w _ (BZ h0)
    ·exact(ZbL sy m _).mono λx hx=>(qO.mp hx).1
theorem Zdp (sy:∀a b,ap a b=ap b a)(ir:∀a,ap a a=false):∀(m:Nat) (ps K:List Nat),ps.length<m->KnA ap ps K->K.length<=(Yh ap m ps).length
 | 0,ps,K,h,_=>by omega
 | m+1,ps,K,hl,h=>by
  unfold Yh;by_cases h0:ps=[]
  ·rw[if_pos h0]
   cases K with
   | nil=>simp
   | cons a r=>have:=h.sub a (by simp);rw[h0]at this;simp at this
  ·rw[if_neg h0]
   have w:∀p,p∈ps->(p∈K∨Xa ap ps p<=1)->K.length<=(p::Yh ap m (YT ap ps p)).length:=λp hp hm=>by
    have h1:=ZiU ir h hm;have h2:=Zdp sy ir m (YT ap ps p) _ (by have:=Zf4 (ap:=ap) hp;omega) (h.rest (p:=p));simp only[qL];omega
   split
   ·rename_i p hp
    exact w _ (ZbK hp).1 (.inr (ZbK hp).2)
   ·have hb:=BZ (ap:=ap) h0
    by_cases hk:Yd ap ps∈K
    ·have:=w _ hb (.inl hk)
     split
     ·exact this
     ·omega
    ·have h3:=Zdp sy ir m (ps.filter λo=>!decide (o=Yd ap ps)) K (by have:=Zdl hb;omega) ⟨h.nd,λx hx=>qO.mpr ⟨h.sub x hx,by
      have:x≠Yd ap ps:=λz=>hk (z▸hx);simpa using this⟩,h.two⟩
     split
     ·omega
     ·exact h3
theorem ZcH (m:Nat):∀(ps:List Nat),(Yh ap m ps).length<=m:=by
 induction m with
 | zero=>intro ps;simp[Yh]
 | succ m ih=>
  intro ps;unfold Yh;split
  ·simp
  ·split
   ·rename_i p hp
    have:=ih (YT ap ps p);simp only[qL];omega
   ·split
    ·have:=ih (YT ap ps (Yd ap ps));simp only[qL];omega
    ·have:=ih (ps.filter λo=>!decide (o=Yd ap ps));omega
end
noncomputable abbrev YZ (n:Nat):D:=.tup (qy n (nD 1))
theorem ZhQ {n p:Nat}(h:p<n):Zn (YZ n) (nD p)=some (nD 1):=by
 show XB _ (p:Int)=_;refine Vf ?_;rw[yW,if_pos h]
theorem ZhR:∀k:Nat,(qy k (1:Int)).sum=(k:Int)
 | 0=>rfl
 | k+1=>by rw[yo,List.sum_cons,ZhR k];omega
theorem Zk4 (k:Nat):dSum [.lst (qy k (nD 1))]=some (nD k):=by
 have h1:ZM (qy k (nD 1))=some (qy k 1):=by
  rw[show qy k (nD 1)=(qy k (1:Int)).map D.int by rw[List.map_replicate];rfl];exact JL _
 show(match ZM (qy k (nD 1))with | some ns=>if W1 ns=true then some (D.int ns.sum)else none | none=>none)=_;rw[h1];have h2:W1 (qy k 1)=true:=yh.mpr λx hx=>by rw[(List.mem_replicate.mp hx).2];rfl
 show(if W1 (qy k 1)=true then some (D.int (qy k (1:Int)).sum)else none)=_;rw[if_pos h2,ZhR]
noncomputable def Zga:Zb->M Out:=(Zf (ZL (Zs dSum (Zc (Yj [none,some 0] (ZY (Za 1)) (Zv 0) Yt (Ze Zn (Za 1) (Za 0))) Zd)))
 Zk)
theorem ZaH {n:Nat}{ps:List Nat}(hp:∀p∈ps,p<n)(hl:ps.length<=1000)(s:Pn):runB 2 2 Zga [YZ n,.lst (ps.map nD)] s=some (nD ps.length,s):=by
 have hc:=XW (src:=[none,some 0]) (fi:=ZY (Za 1)) (τ:=Zv 0) (ft:=Yt) (fe:=Ze Zn (Za 1) (Za 0)) (ρ:=[some (YZ n),some (.lst (ps.map nD))]) (s:=s) (ds:=ps.map nD) (λd=>[some d,some (YZ n)]) (λ_=>true) (λ_=>nD 1) (X6 rfl) (by rw[qd,YA];omega) (λd hd=>by
  obtain⟨x,hx,rfl⟩:=qu.mp hd;exact⟨rfl,rfl,λ_=>Zw (d:=YZ n) (e:=nD x) rfl rfl (ZhQ (hp x hx))⟩)
 rw[Vc,List.map_const',qd]at hc;exact Wg rfl (XG (Wh (Z5 (Zj hc rfl) (Zk4 _))))
noncomputable def Zn4:Zb->M Out:=(Zf (ZL (Yj [none,some 0,some 1] (ZY (Za 2)) (Zv 0) (asB (Ze Y0 (Za 0) (Ze Zn (Za 1) (Za 2)))) (Za 0)))
 Zk)
noncomputable def Zhb:List D->M D:=runB 3 3 Zn4
noncomputable def Vd:List D->M D:=runB 2 2 Zga
noncomputable def gHW (Fs:List D->M D):Zb->M Out:=(Zf (ZO 4 (Yj [none,some 2,some 0] (ZY (Za 3)) (Zv 0) (XZ (asB (Ze Y8 (Za 0) (Za 1))) (asB (Ze WF (Za 0) (Ze Zn (Za 2) (Za 1))))) (Za 0)))
 (Zf (ZL (Ze Yk (ZZ (Zc (Za 2) Zd)) (Zr Fs (Zc (Za 0) (Zc (Za 1) (Zc (Za 4) Zd))))))
 Zk))
noncomputable def FHW (Fs:List D->M D):List D->M D:=runB 5 4 (gHW Fs)
noncomputable def ZmM (Fs:List D->M D):Zb->M Out:=(Zf (Yu (asB (Ze UN (Zr Vd (Zc (Za 1) (Zc (Ze Zn (Za 3) (Za 4)) Zd))) (Ze Zn (Za 1) (Ze Zn (Za 2) (Za 4)))))
 (Zf (ZL (Zr (FHW Fs) (Zc (Za 0) (Zc (Za 1) (Zc (Ze Zn (Za 2) (Za 4)) (Zc (Za 2) Zd))))))
 Zk)
 Zk)
 Zk)
noncomputable def gHA (Fs:List D->M D):Zb->M Out:=(Zf (Yu (asB (Ze Yy (Za 2) (ZZ Zd)))
 (Zf (ZL (ZZ Zd))
 Zk)
 Zk)
 (Zf (ZO 3 (Yj [none,some 0,some 2] (ZY (Za 2)) (Zv 0) Yt (Zr Zhb (Zc (Za 1) (Zc (Za 0) (Zc (Za 2) Zd))))))
 (Zf (Z9 (YL (Zs Ya (Zc (Za 2) Zd))) (Zv 4) (ZmM Fs))
 (Zf (ZO 5 (Yj [none] (ZY (Za 3)) (Zv 0) Yt (Zs Ya (Zc (Za 0) Zd))))
 (Zf (ZO 6 (Ze Zn (Za 2) (Ze ZeF (Za 5) (Zs V0 (Zc (Za 5) Zd)))))
 (Zf (ZO 7 (Zr (FHW Fs) (Zc (Za 0) (Zc (Za 1) (Zc (Za 6) (Zc (Za 2) Zd))))))
 (Zf (ZO 8 (Zr Fs (Zc (Za 0) (Zc (Za 1) (Zc (Yj [none,some 6] (ZY (Za 2)) (Zv 0) (asB (Ze Y8 (Za 0) (Za 1))) (Za 0)) Zd)))))
 (Zf (ZL (BM (asB (Ze Vp (Zr Vd (Zc (Za 1) (Zc (Za 7) Zd))) (Zr Vd (Zc (Za 1) (Zc (Za 8) Zd))))) (Za 7) (Za 8)))
 Zk))))))))
noncomputable def UO:Nat->List D->M D
 | 0=>λ_=>ZE
 | n+1=>runB 9 3 (gHA (UO n))
theorem geN (a b:Nat):Vp (nD a) (nD b)=some (.bl (decide (b<=a))):=by
 show some (D.bl (decide ((b:Int)<=(a:Int))))=_;rw[show decide ((b:Int)<=(a:Int))=decide (b<=a)from decide_eq_decide.mpr (by omega)]
theorem Zhc (P:Nat->Bool)(h:Nat->D)(ps:List Nat):(qk ps.length).findSome? (λi=>if P (ps.getD i 0)=true then some (h (ps.getD i 0))else none)=(ps.find? P).map h:=by
 have e:(qk ps.length).map (λi=>ps.getD i 0)=ps:=by
  apply qap;intro i;rw[qH];by_cases hi:i<ps.length
  ·rw[yX hi]
   show some (ps.getD i 0)=_;rw[qP,qG hi];rfl
  ·rw[yc (by simp;omega),yc (by omega)];rfl
 have k:∀l:List Nat,l.findSome? (λx=>if P x=true then some (h x)else none)=(l.find? P).map h:=λl=>by
  induction l with
  | nil=>rfl
  | cons x l ih=>
   rw[qda,qai]
   cases hx:P x with
   | true=>rfl
   | false=>exact ih
 rw[<-k ps]
 conv=>rhs;rw[<-e]
 rw[List.findSome?_map];rfl
section
variable {n:Nat}{A:Nat->List Nat}{ap:Nat->Nat->Bool}
theorem Zk5 (hA:∀p o,ap p o=decide (o∈A p)){p:Nat}(hp:p<n)(ps:List Nat)(hl:ps.length<=1000)(s:Pn):Zhb [Y3 n A,nD p,.lst (ps.map nD)] s=some (.lst ((ps.filter λo=>ap p o).map nD),s):=by
 have hc:=XW (src:=[none,some 0,some 1]) (fi:=ZY (Za 2)) (τ:=Zv 0) (ft:=asB (Ze Y0 (Za 0) (Ze Zn (Za 1) (Za 2)))) (fe:=Za 0) (ρ:=[some (Y3 n A),some (nD p),some (.lst (ps.map nD))]) (s:=s) (ds:=ps.map nD) (λd=>[some d,some (Y3 n A),some (nD p)]) (λd=>ap p (YD d)) (λd=>d) (X6 rfl) (by rw[qd,YA];omega) (λd hd=>by
  obtain⟨x,hx,rfl⟩:=qu.mp hd;exact⟨rfl,YC (Zw (d:=nD x) (e:=.dk (Xm (A p))) rfl (Zw (d:=Y3 n A) (e:=nD p) rfl rfl (ZkN hp)) (by rw[ZnV,<-hA];rfl)),λ_=>rfl⟩)
 rw[qa5,qN]at hc;exact Wg rfl (XG (Wh hc))
theorem ZoK (hA:∀p o,ap p o=decide (o∈A p)){Fs:List D->M D}{p:Nat}(hp:p<n){ps r:List Nat}(hl:ps.length<=1000)(hr:r.length<=1000){s:Pn}(hF:Fs [Y3 n A,YZ n,.lst ((YT ap ps p).map nD)] s=some (.lst (r.map nD),s)):FHW Fs [Y3 n A,YZ n,nD p,.lst (ps.map nD)] s=some (.lst ((p::r).map nD),s):=by
 have hc:=XW (src:=[none,some 2,some 0]) (fi:=ZY (Za 3)) (τ:=Zv 0) (ft:=XZ (asB (Ze Y8 (Za 0) (Za 1))) (asB (Ze WF (Za 0) (Ze Zn (Za 2) (Za 1))))) (fe:=Za 0) (ρ:=[some (Y3 n A),some (YZ n),some (nD p),some (.lst (ps.map nD)),none]) (s:=s) (ds:=ps.map nD) (λd=>[some d,some (nD p),some (Y3 n A)]) (λd=>!decide (YD d=p) && !ap p (YD d)) (λd=>d) (X6 rfl) (by rw[qd,YA];omega) (λd hd=>by
  obtain⟨x,hx,rfl⟩:=qu.mp hd;refine⟨rfl,Zez (YC (Zw (d:=nD x) (e:=nD p) rfl rfl (Ze2 x p))) λ_=>YC (Zw (d:=nD x) (e:=.dk (Xm (A p))) rfl (Zw (d:=Y3 n A) (e:=nD p) rfl rfl (ZkN hp)) (by rw[ZiV,<-hA];rfl)),λ_=>rfl⟩)
 rw[qa5,qN]at hc;have e:(ps.filter ((λd=>!decide (YD d=p) && !ap p (YD d))∘nD)).map ((λd=>d)∘nD)=(YT ap ps p).map nD:=rfl;rw[e]at hc;refine Wg rfl (XH (WW hc) (XG (Wh (Zw (d:=.lst [nD p]) (e:=.lst (r.map nD)) (Xv (Zj rfl rfl) (by show 1<=xg;decide)) (YM (Zj rfl (Zj rfl (Zj rfl rfl))) hF) ?_))));rw[Zmi (by rw[qd];simp;omega)];rfl
theorem ZcI:∀(m:Nat) (ps:List Nat),∀x∈Yh ap m ps,x∈ps
 | 0,ps,x,hx=>by simp[Yh]at hx
 | m+1,ps,x,hx=>by
  unfold Yh at hx;by_cases h0:ps=[]
  ·rw[if_pos h0]at hx;cases hx
  ·rw[if_neg h0]at hx
   have w:=λp (hp:p∈ps) (h:x∈p::Yh ap m (YT ap ps p))=>show x∈ps from by
    rcases qq.mp h with e | h
    ·rw[e];exact hp
    ·exact(Ul x (ZcI m _ x h)).1
   split at hx
   ·rename_i p hp
    exact w _ (ZbK hp).1 hx
   ·split at hx
    ·exact w _ (BZ h0) hx
    ·exact(qO.mp (ZcI m _ x hx)).1
theorem Za0 (hA:∀p o,ap p o=decide (o∈A p))(s:Pn):∀(m:Nat) (ps:List Nat),ps.length<m->m<=100->(∀p∈ps,p<n)->UO m [Y3 n A,YZ n,.lst (ps.map nD)] s=some (.lst ((Yh ap m ps).map nD),s)
 | 0,_,h,_,_=>by omega
 | m+1,ps,hl,hm,hn=>by
  have hpl:Yl (ps.map nD)=true:=Zbk ps;have hdp:Xf (ps.map nD)<=10:=by rw[ZeX];omega
  have heq:=ZnW (ps.map nD) hpl hdp;by_cases h0:ps=[]
  ·subst h0
   refine Wg rfl (XG (ZmA (YC (Zw (d:=.lst []) (e:=.lst []) rfl (Xv rfl (zC _)) heq)) (XG (Wh (d:=.lst []) (Xv rfl (zC _))))))
  ·have hf:decide (ps.map nD=[])=false:=by simpa using h0
   rw[hf]at heq;have hcs:ps.map (Xa ap ps)≠[]:=by simpa using h0
   have hc:=XW (src:=[none,some 0,some 2]) (fi:=ZY (Za 2)) (τ:=Zv 0) (ft:=Yt) (fe:=Zr Zhb (Zc (Za 1) (Zc (Za 0) (Zc (Za 2) Zd)))) (ρ:=[some (Y3 n A),some (YZ n),some (.lst (ps.map nD)),none,none,none,none,none,none]) (s:=s) (ds:=ps.map nD) (λd=>[some d,some (Y3 n A),some (.lst (ps.map nD))]) (λ_=>true) (λd=>.lst ((ps.filter λo=>ap (YD d) o).map nD)) (X6 rfl) (by rw[qd,YA];omega) (λd hd=>by
    obtain⟨x,hx,rfl⟩:=qu.mp hd;exact⟨rfl,rfl,λ_=>YM (Zj rfl (Zj rfl (Zj rfl rfl))) (Zk5 hA (hn x hx) ps (by omega) s)⟩)
   rw[Vc,qN]at hc;generalize hR:ps.map ((λd=>D.lst ((ps.filter λo=>ap (YD d) o).map nD))∘nD)=R at hc;have kw:∀p,p∈ps->FHW (UO m) [Y3 n A,YZ n,nD p,.lst (ps.map nD)] s=some (.lst ((p::Yh ap m (YT ap ps p)).map nD),s):=λp hp=>by
    have hlt:=Zf4 (ap:=ap) hp;have hb:=ZcH (ap:=ap) m (YT ap ps p);exact ZoK hA (hn p hp) (by omega) (by omega) (Za0 hA s m (YT ap ps p) (by omega) (by omega) λx hx=>hn x (Ul x hx).1)
   have hrow:∀i,i<ps.length->Zn (.lst R) (nD i)=some (.lst ((ps.filter λo=>ap (ps.getD i 0) o).map nD)):=λi hi=>by
    refine Vf ?_;rw[<-hR,qH,qP,qG hi];rfl
   have hpl2:∀i,i<ps.length->Zn (.lst (ps.map nD)) (nD i)=some (nD (ps.getD i 0)):=λi hi=>ZcG hi;have hgm:∀i,i<ps.length->ps.getD i 0∈ps:=λi hi=>by
    rw[qP,qG hi];exact qbD hi
   have hfind:=Zee (τ:=Zv 4) (body:=ZmM (UO m)) (s:=s) (fun ρ=>∃o4,ρ=[some (Y3 n A),some (YZ n),some (.lst (ps.map nD)),some (.lst R),o4,none,none,none,none]) (λi=>if decide (Xa ap ps (ps.getD i 0)<=1)=true then some (.lst ((ps.getD i 0::Yh ap m (YT ap ps (ps.getD i 0))).map nD))else none) (qk ps.length) [some (Y3 n A),some (YZ n),some (.lst (ps.map nD)),some (.lst R),none,none,none,none,none] ⟨none,rfl⟩ (λi hi ρ hρ=>by
    obtain⟨o4,rfl⟩:=hρ;have hi:=qD.mp hi;refine⟨_,rfl,?_⟩;have hcond:asB (Ze UN (Zr Vd (Zc (Za 1) (Zc (Ze Zn (Za 3) (Za 4)) Zd))) (Ze Zn (Za 1) (Ze Zn (Za 2) (Za 4)))) [some (Y3 n A),some (YZ n),some (.lst (ps.map nD)),some (.lst R),some (nD i),none,none,none,none] s=some (decide (Xa ap ps (ps.getD i 0)<=1),s):=by
     refine YC (Zw (YM (Zj rfl (Zj (Zw (d:=.lst R) (e:=nD i) rfl rfl (hrow i hi)) rfl)) (ZaH (λp hp=>hn p (qO.mp hp).1) (by have:=qam (λo=>ap (ps.getD i 0) o) ps;omega) s)) (Zw (d:=YZ n) rfl (Zw (d:=.lst (ps.map nD)) (e:=nD i) rfl rfl (hpl2 i hi)) (ZhQ (hn _ (hgm i hi)))) ?_);show some (D.bl (decide (((ps.filter λo=>ap (ps.getD i 0) o).length:Int)<=(1:Int))))=_;congr 2;exact decide_eq_decide.mpr (by unfold Xa;omega)
    by_cases hq:Xa ap ps (ps.getD i 0)<=1
    ·rw[decide_eq_true hq]at hcond⊢
     rw[if_pos rfl];exact XG (ZmA hcond (XG (Wh (YM (Zj rfl (Zj rfl (Zj (Zw (d:=.lst (ps.map nD)) (e:=nD i) rfl rfl (hpl2 i hi)) (Zj rfl rfl)))) (kw _ (hgm i hi))))))
    ·rw[decide_eq_false hq]at hcond⊢
     rw[if_neg yw];exact⟨_,XH (ZmB hcond rfl) rfl,some (nD i),rfl⟩)
   rw[Zhc (λp=>decide (Xa ap ps p<=1)) (λp=>.lst ((p::Yh ap m (YT ap ps p)).map nD)) ps]at hfind;have hit:YL (Zs Ya (Zc (Za 2) Zd)) [some (Y3 n A),some (YZ n),some (.lst (ps.map nD)),some (.lst R),none,none,none,none,none] s=some ((qk ps.length).map nD,s):=by
    have:=Wy (f:=Zs Ya (Zc (Za 2) Zd)) (ρ:=[some (Y3 n A),some (YZ n),some (.lst (ps.map nD)),some (.lst R),none,none,none,none,none]) (s:=s) (n:=ps.length) (Z5 (Zj rfl rfl) (Zb4 ps)) (by omega);rw[Vv]at this;exact this
   unfold Yh;rw[if_neg h0];refine Wg rfl (XH (ZmB (YC (Zw (d:=.lst (ps.map nD)) (e:=.lst []) rfl (Xv rfl (zC _)) heq)) rfl) (XH (WW hc) ?_));show Zf _ _ [some (Y3 n A),some (YZ n),some (.lst (ps.map nD)),some (.lst R),none,none,none,none,none] s=_
   cases ho:one? ap ps with
   | some p=>
    have ho':ps.find? (λp=>decide (Xa ap ps p<=1))=some p:=ho;rw[ho']at hfind;exact XG (U4 hit hfind)
   | none=>
    have ho':ps.find? (λp=>decide (Xa ap ps p<=1))=none:=ho;rw[ho']at hfind;obtain⟨ρ2,hf2,o4,rfl⟩:=hfind;refine XH (U4 hit hf2) ?_;have hmax:=Zf5 hcs;have hp1:=BZ (ap:=ap) h0;have hix:Zn (.lst (ps.map nD)) (nD ((ps.map (Xa ap ps)).idxOf (XE (ps.map (Xa ap ps)))))=some (nD (Yd ap ps)):=ZcG (by
     have:=qbe.mpr (Ze0 hcs);simpa using this)
    have hcc:=XW (src:=[none]) (fi:=ZY (Za 3)) (τ:=Zv 0) (ft:=Yt) (fe:=Zs Ya (Zc (Za 0) Zd)) (ρ:=[some (Y3 n A),some (YZ n),some (.lst (ps.map nD)),some (.lst R),o4,none,none,none,none]) (s:=s) (ds:=R) (λd=>[some d]) (λ_=>true) (λd=>match d with | .lst l=>nD l.length | _=>.non) (X6 rfl) (by rw[<-hR,qd,YA];omega) (λd hd=>by
     rw[<-hR]at hd;obtain⟨x,hx,rfl⟩:=qu.mp hd;exact⟨rfl,rfl,λ_=>Z5 (Zj rfl rfl) rfl⟩)
    rw[Vc,<-hR,qN]at hcc;have e5:ps.map ((λd=>match d with | .lst l=>nD l.length | _=>D.non)∘((λd=>D.lst ((ps.filter λo=>ap (YD d) o).map nD))∘nD))=(ps.map (Xa ap ps)).map nD:=by
     rw[qN];refine zy λx _=>?_;show nD ((ps.filter λo=>ap x o).map nD).length=nD (Xa ap ps x);rw[qd];rfl
    rw[e5,hR]at hcc;have hwo:=Zdl hp1;have ih2:=Za0 hA s m (ps.filter λo=>!decide (o=Yd ap ps)) (by omega) (by omega) λx hx=>hn x (qO.mp hx).1;have hc2:=XW (src:=[none,some 6]) (fi:=ZY (Za 2)) (τ:=Zv 0) (ft:=asB (Ze Y8 (Za 0) (Za 1))) (fe:=Za 0) (ρ:=[some (Y3 n A),some (YZ n),some (.lst (ps.map nD)),some (.lst R),o4,some (.lst ((ps.map (Xa ap ps)).map nD)),some (nD (Yd ap ps)),some (.lst ((Yd ap ps::Yh ap m (YT ap ps (Yd ap ps))).map nD)),none]) (s:=s) (ds:=ps.map nD) (λd=>[some d,some (nD (Yd ap ps))]) (λd=>!decide (YD d=Yd ap ps)) (λd=>d) (X6 rfl) (by rw[qd,YA];omega) (λd hd=>by
     obtain⟨x,hx,rfl⟩:=qu.mp hd;exact⟨rfl,YC (Zw (d:=nD x) (e:=nD (Yd ap ps)) rfl rfl (Ze2 _ _)),λ_=>rfl⟩)
    have e2:((ps.map nD).filter λd=>!decide (YD d=Yd ap ps)).map (λd=>d)=(ps.filter λo=>!decide (o=Yd ap ps)).map nD:=by rw[qa5,qN];rfl
    rw[e2]at hc2;have bl1:=ZcH (ap:=ap) m (YT ap ps (Yd ap ps));have bl2:=ZcH (ap:=ap) m (ps.filter λo=>!decide (o=Yd ap ps));have w1:=ZaH (n:=n) (ps:=Yd ap ps::Yh ap m (YT ap ps (Yd ap ps))) (λp hp=>by
     rcases qq.mp hp with e | hp
     ·rw[e];exact hn _ hp1
     ·exact hn p (Ul p (ZcI m _ p hp)).1) (by simp only[qL];omega) s
    have w2:=ZaH (n:=n) (ps:=Yh ap m (ps.filter λo=>!decide (o=Yd ap ps))) (λp hp=>hn p (qO.mp (ZcI m _ p hp)).1) (by omega) s;refine XH (WW hcc) (XH (WW (Zw (d:=.lst (ps.map nD)) rfl (Zw (d:=.lst ((ps.map (Xa ap ps)).map nD)) rfl (Z5 (Zj rfl rfl) hmax) (Zg2 (Ze0 hcs))) hix)) (XH (WW (YM (Zj rfl (Zj rfl (Zj rfl (Zj rfl rfl)))) (kw _ hp1))) (XH (WW (YM (Zj rfl (Zj rfl (Zj hc2 rfl))) ih2)) (XG (Wh ?_)))));have hge:=geN (Yd ap ps::Yh ap m (YT ap ps (Yd ap ps))).length (Yh ap m (ps.filter λo=>!decide (o=Yd ap ps))).length;have ht:=YC (Zw (g:=Vp) (ρ:=[some (Y3 n A),some (YZ n),some (.lst (ps.map nD)),some (.lst R),o4,some (.lst ((ps.map (Xa ap ps)).map nD)),some (nD (Yd ap ps)),some (.lst ((Yd ap ps::Yh ap m (YT ap ps (Yd ap ps))).map nD)),some (.lst ((Yh ap m (ps.filter λo=>!decide (o=Yd ap ps))).map nD))]) (s:=s) (YM (F:=Vd) (fs:=Zc (Za 1) (Zc (Za 7) Zd)) (Zj rfl (Zj rfl rfl)) w1) (YM (F:=Vd) (fs:=Zc (Za 1) (Zc (Za 8) Zd)) (Zj rfl (Zj rfl rfl)) w2) hge);generalize hX:Yd ap ps::Yh ap m (YT ap ps (Yd ap ps))=X at ht⊢;generalize hY:Yh ap m (ps.filter λo=>!decide (o=Yd ap ps))=Y at ht⊢;have hfin:∀ρ:Zb,(ρ[7]?).bind id=some (.lst (X.map nD))->(ρ[8]?).bind id=some (.lst (Y.map nD))->asB (Ze Vp (Zr Vd (Zc (Za 1) (Zc (Za 7) Zd))) (Zr Vd (Zc (Za 1) (Zc (Za 8) Zd)))) ρ s=some (decide (Y.length<=X.length),s)->BM (asB (Ze Vp (Zr Vd (Zc (Za 1) (Zc (Za 7) Zd))) (Zr Vd (Zc (Za 1) (Zc (Za 8) Zd))))) (Za 7) (Za 8) ρ s=some (.lst ((if Y.length<=X.length then X else Y).map nD),s):=fun ρ h7 h8 ht=>by
     unfold BM Zp;rw[ht];by_cases hq:Y.length<=X.length
     ·simp only[hq,decide_true,if_true]
      unfold Za YV;rw[h7]
     ·simp only[hq,decide_false,if_false,qX]
      unfold Za YV;rw[h8]
    exact hfin _ rfl rfl ht
end
noncomputable def X7 (n:Nat)(jJ:Qa):List Nat:=UA n (Yh (tied (Ye n jJ)) 26 (qk n))
noncomputable def gHK:Zb->M Out:=(Zf (ZO 2 (Yj [none] (ZY (Zr (runB 2 1 gN) (Zc (Zr UY (Zc (Za 0) Zd)) Zd))) (Zv 0) Yt (Zs Zew (Zc (Yj [none] (ZY (Za 0)) (Zv 0) Yt (ZS (Zc (Za 0) (Zc (dC (.bl true)) Zd)))) Zd))))
 (Zf (ZL (Zs WE (Zc (Zs Uu (Zc (Zr (UO 26) (Zc (Za 2) (Zc (Za 1) (Zc (Ww (Ze Zn (Za 0) (dC (.int 0)))) Zd)))) Zd)) Zd)))
 Zk))
theorem Zcn {n:Nat}{jJ:Qa}(hw:Yn n jJ)(hn:n<=24):X7 n jJ∈kn jJ n/\∀K∈kn jJ n,K.length<=(X7 n jJ).length:=by
 have sy:∀a b,tied (Ye n jJ) a b=tied (Ye n jJ) b a:=B8 _;have hk:=ZbL sy 26 (qk n);have hlt:∀x∈Yh (tied (Ye n jJ)) 26 (qk n),x<n:=λx hx=>qD.mp (hk.sub x hx);have hp:=B0 hk.nd hlt;constructor
 ·refine VY.mpr ⟨ZaZ _ _,λo ho=>hlt o (hp.mem_iff.mp ho),λa ha b hb ne=>?_⟩
  have ha':=hp.mem_iff.mp ha;have hb':=hp.mem_iff.mp hb;have:=hk.two a ha' b hb' ne
  cases h:tied jJ a b with
  | true=>rfl
  | false=>
   have:=Za1.mpr ⟨hlt a ha',hlt b hb',ne,h⟩;simp_all
 ·intro K hK
  obtain⟨h1,h2,h3⟩:=VY.mp hK;have:=Zdp sy ZkO 26 (qk n) K (by rw[qT];omega) ⟨Zbm h1,λx hx=>qD.mpr (h2 x hx),λx hx y hy ne=>by
   cases h:tied (Ye n jJ) x y with
   | false=>rfl
   | true=>
    have h4:=(Za1.mp h).2.2.2;rw[h3 x hx y hy ne]at h4;cases h4⟩
  have e:=hp.length_eq;show K.length<=(UA n _).length;omega
theorem Zk6 (n:Nat)(jJ:Qa)(hn:n<=24)(hl:jJ.length<=100000)(s:Pn):runB 3 2 gHK [ZD n jJ,YZ n] s=some (ZW (X7 n jJ),s):=by
 have sy:∀a b,tied (Ye n jJ) a b=tied (Ye n jJ) b a:=B8 _;have hk:=ZbL sy 26 (qk n);have hlt:∀x∈Yh (tied (Ye n jJ)) 26 (qk n),x<n:=λx hx=>qD.mp (hk.sub x hx);have hp:=B0 hk.nd hlt;have htl:=(ZiW n jJ).len hn;have hc:=XW (src:=[none]) (fi:=ZY (Zr (runB 2 1 gN) (Zc (Zr UY (Zc (Za 0) Zd)) Zd))) (τ:=Zv 0) (ft:=Yt) (fe:=Zs Zew (Zc (Yj [none] (ZY (Za 0)) (Zv 0) Yt (ZS (Zc (Za 0) (Zc (dC (.bl true)) Zd)))) Zd)) (ρ:=[some (ZD n jJ),some (YZ n),none]) (s:=s) (ds:=(qk n).map λp=>D.lst ((Y1 n (Ye n jJ) p).map nD)) (λd=>[some d]) (λ_=>true) (λd=>match d with | .lst ds=>.dk (Xm (ds.map YD)) | _=>.non)
  (X6 (YM (Zj (YM (Zj rfl rfl) (Zg6 n jJ s (by omega) hl)) rfl) (Ze7 n (Ye n jJ) (by omega) (by omega) s))) (by rw[qd,qT,YA];omega) (λd hd=>by
  obtain⟨p,hp,rfl⟩:=qu.mp hd;refine⟨rfl,rfl,λ_=>?_⟩;have hnl:(Y1 n (Ye n jJ) p).length<=n:=by
   have:=qam (λo=>tied (Ye n jJ) p o) (qk n);rw[qT]at this;exact this
  have hc2:=XW (src:=[none]) (fi:=ZY (Za 0)) (τ:=Zv 0) (ft:=Yt) (fe:=ZS (Zc (Za 0) (Zc (dC (.bl true)) Zd))) (ρ:=[some (D.lst ((Y1 n (Ye n jJ) p).map nD))]) (s:=s) (ds:=(Y1 n (Ye n jJ) p).map nD) (λd=>[some d]) (λ_=>true) (λd=>D.tup [d,.bl true]) (X6 rfl) (by rw[qd,YA];omega) (λd hd=>⟨rfl,rfl,λ_=>Vg (Zj rfl (Zj rfl rfl)) two_le⟩);rw[Vc,qN]at hc2;refine Z5 (Zj hc2 rfl) ?_;show(if ((Y1 n (Ye n jJ) p).map ((λd=>D.tup [d,.bl true])∘nD)).length<=xg then (WK [] _).map D.dk else none)=_;rw[if_pos (by rw[qd,YA];omega)];have e:=ZkM (Y1 n (Ye n jJ) p) [] (zN.sublist zu) λ_ _=>rfl;show(WK [] ((Y1 n (Ye n jJ) p).map λo=>D.tup [nD o,.bl true])).map D.dk=_;rw[e];show some (D.dk (Xm (Y1 n (Ye n jJ) p)))=some (D.dk (Xm (((Y1 n (Ye n jJ) p).map nD).map YD)));rw[qN];have:(Y1 n (Ye n jJ) p).map (YD∘nD)=Y1 n (Ye n jJ) p:=List.map_id _;rw[this])
 rw[Vc,qN]at hc;have e1:(qk n).map ((λd=>match d with | .lst ds=>D.dk (Xm (ds.map YD)) | _=>.non)∘λp=>D.lst ((Y1 n (Ye n jJ) p).map nD))=(qk n).map λp=>.dk (Xm (Y1 n (Ye n jJ) p)):=by
  refine zy λp _=>?_;show D.dk (Xm (((Y1 n (Ye n jJ) p).map nD).map YD))=_;rw[qN];have:(Y1 n (Ye n jJ) p).map (YD∘nD)=Y1 n (Ye n jJ) p:=List.map_id _;rw[this]
 rw[e1]at hc;have hb:=Za0 (n:=n) (A:=Y1 n (Ye n jJ)) (ap:=tied (Ye n jJ)) ZdF s 26 (qk n) (by rw[qT];omega) (by omega) λp hp=>qD.mp hp;have hlr:Ww (Ze Zn (Za 0) (dC (.int 0))) [some (ZD n jJ),some (YZ n),some (Y3 n (Y1 n (Ye n jJ)))] s=some (.lst ((qk n).map nD),s):=by
  unfold Ww Zp;rw[Zw (d:=ZD n jJ) (e:=.int 0) rfl rfl WN];show(if -(2 ^ 62)<=(n:Int)/\(n:Int)<=2 ^ 24 then Zy (D.lst (Z3 0 (n:Int).toNat))else ZE) s=_;rw[if_pos ⟨by omega,by omega⟩,qaq,Vv];rfl
 have hbl:=ZcH (ap:=tied (Ye n jJ)) 26 (qk n);have hs:=ZiX hk.nd hlt (by omega);exact Wg rfl (XH (WW hc) (XG (Wh (Z5 (c:=ZW (X7 n jJ)) (Zj (Z5 (Zj (YM (Zj rfl (Zj rfl (Zj hlr rfl))) hb) rfl) hs) rfl) rfl))))
theorem Zi7 (n:Nat)(hn:n<=1000):Zhz (.tup [nD 1]) (nD n)=some (YZ n):=by
 show(if (n:Int)=1 then some (D.tup [nD 1])else if (n:Int)=0/\[nD 1]≠[]then some (.tup [])else Jr (.tup [nD 1]) (.int (n:Int)))=_;by_cases h1:n=1
 ·subst h1;rw[if_pos (by omega)];rfl
 ·rw[if_neg (by omega)]
  by_cases h0:n=0
  ·subst h0;rw[if_pos ⟨by omega,by simp⟩];rfl
  ·rw[if_neg (by omega)]
   show(if [nD 1]≠[]/\2<=(n:Int)/\(n:Int)<2 ^ 62/\[nD 1].length*(n:Int).toNat<=xg then some (D.tup (qy (n:Int).toNat [nD 1]).flatten)else none)=_;rw[if_pos ⟨by simp,by omega,by omega,by simp only[qaU,qaq,YA];omega⟩,qaq,List.flatten_replicate_singleton]
theorem Zej {n:Nat}{jJ:Qa}(hw:Yn n jJ)(hn:n<=24):(By n jJ).length=(X7 n jJ).length:=by
 obtain⟨a1,a2⟩:=B4 hw hn;obtain⟨b1,b2⟩:=Zcn hw hn;have:=a2 _ b1;have:=b2 _ a1;omega
theorem ZmN:∀m,Ug m=UO m
 | 0=>rfl
 | m+1=>by
  show runB 9 3 (Zac (Ug m))=runB 9 3 (gHA (UO m));rw[ZmN m];rfl
theorem ZoL:JI=runB 3 2 gHK:=by
 unfold JI ZaI;rw[ZmN];rfl
theorem Zk7 (n:Nat)(jJ:Qa)(hn:n<=24)(hl:jJ.length<=100000)(s:Pn):Jj [ZD n jJ] s=some (.tup [nD (X7 n jJ).length,ZW (X7 n jJ)],s):=by
 have h:=Zk6 n jJ hn hl s;rw[<-ZoL]at h;exact Wg rfl (XH (WW (YM (Zj rfl (Zj (Zw (Vg (ds:=[nD 1]) (Zj rfl rfl) (by show 1<=xg;decide)) (Zw (d:=ZD n jJ) (e:=.int 0) rfl rfl WN) (Zi7 n (by omega))) rfl)) h)) (XG (Wh (Vg (ds:=[nD (X7 n jJ).length,ZW (X7 n jJ)]) (Zj (Z5 (Zj rfl rfl) (by show some (D.int _)=_;rw[qd])) (Zj rfl rfl)) two_le))))
theorem Zk8 {n:Nat}{jJ:Qa}(hw:Yn n jJ)(hn:n<=24)(s:Pn):Jj [ZD n jJ] s=some (.tup [nD (om n jJ),ZW (X7 n jJ)],s):=by
 have hl:=hw.len hn;have h:=Zk7 n jJ hn (by omega) s;rw[<-Zej hw hn]at h;exact h
end TQ
namespace K14
open L2 TF TQ TS
open TP
open TP2
open TP3
theorem ZoM {s:Pn}(ok:YO s):Ok (UP [.pen]) s λd s'=>YO s'/\∃n jJ,n<11+14/\Yn n jJ/\d=.tup [ZD n jJ,nD (om n jJ)]:=Zk1 (N:=14) ok (by omega) (by omega)
theorem ZoN {s:Pn}(ok:YO s):Ok (UR [.pen]) s λd s'=>YO s'/\∃n jJ,d=ZD n jJ/\n<=24/\Yn n jJ/\(kn jJ n).length<=1000:=Zk2 (q:=4) ok (by omega)
theorem Zk9 (ns:List Int)(h:ns.length<=63):∃s',ZkH (none::some .pen::qy 4 none) ([0,0],ns)=some (.rt (.bl true),s'):=by
 have ok0:YO ([0,0],ns):=⟨0,0,rfl,by omega,by omega⟩;suffices hh:Ok (ZkH (none::some .pen::qy 4 none)) ([0,0],ns) λo s'=>o=.rt (.bl true) by
  obtain⟨o,s',e,rfl⟩:=hh;exact⟨s',e⟩
 refine Ok.seq (.sfor (λi ρ s'=>YO s'/\∃o2 o3 o4 o5,ρ=[none,some .pen,o2,o3,o4,o5]) (.eq (Wy (n:=3) rfl (by omega)) ⟨⟨ok0,none,none,none,none,rfl⟩,λi d ρ s' hd hI=>?_,fun ρ' s' hI=>?_⟩))
 ·obtain⟨ok1,o2,o3,o4,o5,rfl⟩:=hI
  obtain⟨hi,rfl⟩:=US hd;refine⟨_,rfl,?_⟩;have first:Ok (Yu (asB (Ze Yy (Za 2) (dC (.int 0)))) (Zf (ZO 3 (Zr UR (Zc (Za 1) Zd))) (Zf (ZO 4 (Zr UT (Zc (Za 3) Zd))) Zk)) (Zf (UL (VD 3 4) (Zr UP (Zc (Za 1) Zd))) Zk) [none,some .pen,some (nD i),o3,o4,o5]) s' λo s2=>YO s2/\∃n jJ,n<=24/\Yn n jJ/\o=.nx [none,some .pen,some (nD i),some (ZD n jJ),some (nD (om n jJ)),o5]:=by
   refine .sif (.eq (a:=decide ((i:Int)=0)) (YC (Zw (d:=.int (i:Int)) (e:=.int 0) rfl rfl (eqi _ _))) ?_);by_cases h0:i=0
   ·rw[if_pos (by simpa using h0)]
    refine .seq (.sset (.fn (Zj rfl rfl) ((ZoN ok1).mono λd s2 q=>?_)));obtain⟨ok2,n,jJ,rfl,hn,hw,hk⟩:=q;have htl:=hw.len hn;refine Ok.seq (.sset (.eq (YM (Zj rfl rfl) (Zf6 n jJ (by omega) (by omega) (by omega) s2)) (.next ⟨ok2,n,jJ,hn,hw,?_⟩)));rw[Zmj hw hn];rfl
   ·rw[if_neg (by simpa using h0)]
    refine .seq (.sunp (.fn (Zj rfl rfl) ((ZoM ok1).mono λd s2 q=>?_)));obtain⟨ok2,n,jJ,hn,hw,rfl⟩:=q;exact⟨_,rfl,.next ⟨ok2,n,jJ,by omega,hw,rfl⟩⟩
  refine Ok.seq (first.mono λo s2 q=>?_)
  obtain⟨ok2,n,jJ,hn,hw,rfl⟩:=q;have hnn:∀a:Nat,Y8 (nD a) (nD a)=some (.bl false):=λa=>by rw[Ze2];simp
  have e0:Zn (.tup [nD (om n jJ),ZW (X7 n jJ)]) (.int 0)=some (nD (om n jJ)):=UD _ _;have e1:Zn (.tup [nD (om n jJ),ZW (X7 n jJ)]) (.int 1)=some (ZW (X7 n jJ)):=VG _ _ _;have jO:Ya [ZW (X7 n jJ)]=some (nD (om n jJ)):=by
   rw[show om n jJ=(X7 n jJ).length from Zej hw hn];show some (D.int _)=_;rw[qd]
  refine Ok.seq (.sset (.eq (YM (Zj rfl rfl) (Zk8 hw hn s2)) ?_));refine Ok.seq (.sif (.eq (a:=false) (Bv (U3 (b:=true) (YC (Z5 (Zj rfl (Zj rfl rfl)) rfl))) (Bv (YC (Zw (Zw (e:=.int 0) rfl rfl e0) rfl (hnn _))) (YC (Zw (Z5 (Zj (Zw (e:=.int 1) rfl rfl e1) rfl) jO) rfl (hnn _))))) (.next ?_)));refine Ok.seq (.sif (.eq (a:=false) (U3 (b:=true) (YC (YM (Zj rfl (Zj (Zw (e:=.int 1) rfl rfl e1) rfl)) (Zcu (by omega) (Zcn hw hn).1 s2)))) (.next ?_)));exact .next ⟨_,rfl,ok2,_,_,_,_,rfl⟩
 ·obtain⟨ok1,o2,o3,o4,o5,rfl⟩:=hI
  exact Ok.seq (.sret (.eq (a:=.bl true) rfl rfl))
end K14
namespace K14
open L2 TF TQ
open TP
open TP2
open TP3
theorem Zn5 {P:xB}{w:World}{K:qm}{mg:Str->Option Value}{base:Heap}{j9:Addr}{jP:xA}{L:List (Addr×Str)}(lo:Wl L)(F:Fun K "law" "law" s_law j9 jP)(T:Txt mg)(jV:ZT P w K mg base 5 "_law_known_web" 1 true (Y2 (Xg K) L) UP)(ka:ZT P w K mg base 3 "_law_loose" 1 true (Y2 (Xg K) L) UR)(kb:ZT P w K mg base 2 "_law_most" 1 true Z4 UT)(jS:ZT P w K mg base 3 "_law_places_right" 2 false Z4 JG)(kD:ZT P w K mg base 55 "most" 1 true (XJ L) Jj) :
  FnOk P w K mg base ZV 56 j9 jP ["script"] (ZgF K L):=by
 have nd:=ZgY.nd;refine F.ok ZgY (λvs H Q E h=>?_) λcdv A outer s0 H vs Q E hr h=>?_
 ·obtain⟨a,ns,rfl,_⟩:=h
  rfl
 ·obtain⟨a,ns,rfl,sq,hl,hTb,hQ⟩:=h
  obtain⟨s',hs'⟩:=Zk9 ns hl;refine⟨_,Vt (Ux (i:=1) nd rfl (qS rfl) (ZlJ (YK (pv 0) (YK Xh (YK Xh Xi))))) (Zj0 (GG:=Y2 (Xg K) L) λG hG=>Zmb lo T hr jV ka kb jS kD G hG),?_⟩;refine⟨_,rfl,(by show 3<=xg;decide),λp hp hk=>?_⟩;exact Zkf (n:=4) (N:=["script","_law_pen","_law_k","_law_told","_law_known","_law_found"]) sq hTb hp hk hQ hs'
noncomputable def ZmO:List DRow:=[dR "pairs_of" 1 189 2 1 15 196 true "tiefold.things" 187,
 dR "near" 3 201 9 2 22 204 false "tiefold.webs" 199,
 dR "all_near" 4 207 11 1 27 210 false "tiefold.webs" 199,
 dR "are_tied" 5 213 14 3 32 219 true "tiefold.webs" 199,
 dR "marked_ties" 6 222 16 1 39 225 false "tiefold.webs" 199,
 dR "turned" 7 228 18 1 44 233 true "tiefold.webs" 199,
 dR "web_where" 8 236 21 2 51 239 false "tiefold.webs" 199,
 dR "most" 10 244 25 1 56 249 true "tiefold.most" 242,
 dR "heaviest_knot" 11 252 28 2 63 255 false "tiefold.most" 242,
 dR "heaviest_among" 12 258 31 3 68 261 false "tiefold.most" 242,
 dR "apart_among" 13 264 43 3 73 267 false "tiefold.most" 242,
 dR "heaviest_with" 14 270 45 4 78 273 false "tiefold.most" 242,
 dR "weighed" 15 276 48 2 83 279 false "tiefold.most" 242,
 dR "_law_fill" 17 284 51 2 88 290 true "law_tiefold_k14_great_webs" 282,
 dR "_law_next" 18 293 57 2 95 301 true "law_tiefold_k14_great_webs" 282,
 dR "_law_tied" 20 310 85 3 107 316 true "law_tiefold_k14_great_webs" 282,
 dR "_law_is_knot" 21 319 87 2 114 326 true "law_tiefold_k14_great_webs" 282,
 dR "_law_knots" 22 329 93 1 121 332 false "law_tiefold_k14_great_webs" 282,
 dR "_law_most" 23 335 105 1 126 338 false "law_tiefold_k14_great_webs" 282,
 dR "_law_turned" 24 341 107 2 131 348 true "law_tiefold_k14_great_webs" 282,
 dR "_law_places_right" 25 351 113 2 138 357 true "law_tiefold_k14_great_webs" 282,
 dR "_law_great" 26 360 120 1 145 363 false "law_tiefold_k14_great_webs" 282,
 dR "_law_shuffled" 27 366 137 2 150 376 true "law_tiefold_k14_great_webs" 282,
 dR "_law_greedy" 28 379 144 2 157 382 false "law_tiefold_k14_great_webs" 282,
 dR "_law_known_web" 29 385 149 1 162 397 true "law_tiefold_k14_great_webs" 282,
 dR "_law_loose" 30 400 161 1 169 408 true "law_tiefold_k14_great_webs" 282,
 dR "law" 31 411 168 1 176 420 true "law_tiefold_k14_great_webs" 282]
noncomputable def KF (P:Params):qm:=ZoA ZR 181 ([dE P "__name__" 165 (.str "law_tiefold_k14_great_webs" 282)] ++ [dE P "__doc__" 166 (.none)] ++ [dE P "__package__" 167 (.none)] ++ [dE P "__loader__" 168 (.builtin "__main__.__loader__#opaque")] ++ [dE P "__spec__" 169 (.none)]++dRs P [nE "__annotations__" 170 6,nE "__builtins__" 171 4] ++ [dE P "__file__" 173 (.str "/claim/cut.py" 172)] ++ [dE P "__cached__" 174 (.none)]++dRs P [nE "pairs_of" 198 21,nE "near" 206 26,nE "all_near" 212 31,nE "are_tied" 221 38,nE "marked_ties" 227 43,nE "turned" 235 50,nE "web_where" 241 55,nE "most" 251 62,nE "heaviest_knot" 257 67,nE "heaviest_among" 263 72,nE "apart_among" 269 77,nE "heaviest_with" 275 82,nE "weighed" 281 87,nE "_law_fill" 292 94,nE "_law_next" 303 101,nE "_law_web" 309 106,nE "_law_tied" 318 113,nE "_law_is_knot" 328 120,nE "_law_knots" 334 125,nE "_law_most" 340 130,nE "_law_turned" 350 137,nE "_law_places_right" 359 144,nE "_law_great" 365 149,nE "_law_shuffled" 378 156,nE "_law_greedy" 384 161,nE "_law_known_web" 399 168,nE "_law_loose" 410 175,nE "law" 422 182]) 37 ZmO
noncomputable def asF:List Addr:=[3,20,21,25,26,30,31,37,38,42,43,49,50,54,55,61,62,66,67,71,72,76,77,81,82,86,87,93,94,100,101,112,113,119,120,124,125,129,130,136,137,143,144,148,149,155,156,160,161,167,168,174,175,181,182]
theorem eF:∀P,asF=(KF P).map (·.1):=λ_=>by kernel_rfl
theorem okF (P:Params):ZeW (KF P) ZR ZmO:=by
 repeat refine⟨⟨by kernel_rfl,by kernel_rfl,by kernel_rfl⟩,?_⟩
 exact trivial
noncomputable abbrev LF:List (Addr×Str):=[(45,(qaT "turned.<locals>.<lambda>"))]
theorem Zn6 {P:xB}{w:World}{h:Heap}{mg:Str->Option Value}{fa:Addr}(X:(KF w.params).In h)(G:h.Ns mainGlobals mg)(hfa:mg "law" = some (.ref fa)) :
  ∃fd:xA,(∀(s:Shared) (v:Value),BindsTo s fd ⟨[v],[]⟩ [("script",v)])/\∀base:Heap,(KF w.params).In base->base.Ns mainGlobals mg->y4 base 49 45->JE mg base->FnOk P w (KF w.params) mg base ZV 56 fa fd ["script"] (ZgF (KF w.params) LF):=by
 have lo:Wl LF:=TF.lok_nd (by decide);have zn:∀x,qcn (KF w.params) mainGlobals x=some none->mg x=none:=λ_ z=>PySem.W.mg_none_of X G z;have T:Txt mg:=⟨zn _ (by kernel_rfl),zn _ (by kernel_rfl),zn _ (by kernel_rfl),zn _ (by kernel_rfl),zn _ (by kernel_rfl),zn _ (by kernel_rfl),zn _ (by kernel_rfl),zn _ (by kernel_rfl),zn _ (by kernel_rfl),zn _ (by kernel_rfl),zn _ (by kernel_rfl),zn _ (by kernel_rfl),zn _ (by kernel_rfl)⟩;have mk:=@mkc P w (KF w.params) mg;have at_:=λj {r} e=>@ZnS _ h mg _ _ (okF w.params) X G j r e;obtain⟨f1,_,F1,m1,_⟩:=at_ 13 rfl;obtain⟨f2,_,F2,m2,_⟩:=at_ 14 rfl;obtain⟨f3,_,F3,m3,_⟩:=at_ 21 rfl;obtain⟨f4,_,F4,m4,_⟩:=at_ 15 rfl;obtain⟨f5,_,F5,m5,_⟩:=at_ 23 rfl;obtain⟨f6,_,F6,m6,_⟩:=at_ 19 rfl;obtain⟨f7,_,F7,m7,_⟩:=at_ 22 rfl;obtain⟨f8,_,F8,m8,_⟩:=at_ 24 rfl;obtain⟨f9,_,F9,m9,_⟩:=at_ 25 rfl;obtain⟨f10,_,F10,m10,_⟩:=at_ 17 rfl;obtain⟨f11,_,F11,m11,_⟩:=at_ 18 rfl;obtain⟨f12,_,F12,m12,_⟩:=at_ 16 rfl;obtain⟨f13,_,F13,m13,_⟩:=at_ 20 rfl;obtain⟨f14,_,F14,m14,_⟩:=at_ 4 rfl;obtain⟨f15,_,F15,m15,_⟩:=at_ 3 rfl;obtain⟨f16,_,F16,m16,_⟩:=at_ 1 rfl;obtain⟨f17,_,F17,m17,_⟩:=at_ 2 rfl;obtain⟨f18,_,F18,m18,_⟩:=at_ 10 rfl;obtain⟨f19,_,F19,m19,_⟩:=at_ 12 rfl;obtain⟨f20,_,F20,m20,_⟩:=at_ 11 rfl;obtain⟨f21,_,F21,m21,_⟩:=at_ 9 rfl;obtain⟨f22,_,F22,m22,_⟩:=at_ 0 rfl;obtain⟨f23,_,F23,m23,_⟩:=at_ 6 rfl;obtain⟨f24,_,F24,m24,e24⟩:=at_ 5 rfl;obtain⟨f25,_,F25,m25,_⟩:=at_ 8 rfl;obtain⟨f26,_,F26,m26,_⟩:=at_ 7 rfl;obtain⟨f27,_,F27,m27,_⟩:=at_ 26 rfl
 cases hfa.symm.trans m27
 have kg:=λb=>mk b F15 m15 (ZfY F15 T );have kA:=λb=>mk b F22 m22 (ZfX F22 T );have kE:Jy P w (KF w.params) mg 5 "web_where" 2 false (Jx P w (KF w.params) mg 4 2 Tl) JK:=⟨f23,_,_,λb=>ZeP F23 T (kA b),m23,F23.kp,bdc ["row","tied"] F23⟩;obtain⟨oc,od,kV,doc,pm,an,cdv,ct,osl,rfl,lk,hcd⟩:=F27.ex;refine⟨yQ "law" "law" (WD s_law) (Wf s_law) (ZK s_law) .none kV doc pm an cdv ct,λs v=>.of_eq rfl,λbase _ _ hC24 hBm=>?_⟩;have kx:=mk base F1 m1 (ZeQ F1 T );have kF:=mk base F2 m2 (ZeV F2 T kx ZkW);have jN:ZT P w (KF w.params) mg base 2 "_law_next" 2 true (Y2 (Xg (KF w.params)) LF) YS:=Zj1 kF Zkg;have kq:=mk base F3 m3 (ZdB F3 T lo jN);have j8:=mk base F4 m4 (ZeS F4 T );have kj:=mk base F5 m5 (Zdi F5 T j8);have ki:=mk base F6 m6 (Zdj F6 T lo jN);have kd:=mk base F7 m7 (Zb2 F7 T lo ki);have jV:=mk base F8 m8 (ZbG F8 T lo kq kj jN kd);have ka:=mk base F9 m9 (ZdE F9 T lo jN);have ko:=mk base F10 m10 (ZdA F10 T );have kb:=mk base F11 m11 (ZeR F11 T ko);have kf:=mk base F12 m12 (Zcs F12 T j8);have jS:=mk base F13 m13 (ZaV F13 T kf);have jY:=mk base F14 m14 (Zdf F14 T );have ky:=kg base;have kG:=mk base F16 m16 (Zl9 F16 T ky);have kz:=mk base F17 m17 (ZfZ F17 T jY kG);have kh:=mk base F18 m18 (Zdg F18 T );have km:=mk base F19 m19 (ZgX F19 T );have rr:∀j:Nat,ZT P w (KF w.params) mg base (1+2*j) "heaviest_among" 3 false Z4 (Ug j):=by
  intro j
  induction j with
  | zero=>exact ZT.none m21 F21.kp (bdc ["aparts","weights","places"] F21)
  | succ j ih=>
   have j7:=mk base F20 m20 (Zb0 F20 T (by omega) ih);have z:ZT P w (KF w.params) mg base (1+2*j+2) "heaviest_among" 3 false Z4 (Ug (j+1)):=mk base F21 m21 (ZbC F21 T (by omega) kh ih j7 km);exact z.mono (h:=by omega)
 have jQ:=(rr 26).mono (k:=53);have kB:=kA base;have kr:=kE;have kC:=mk base F24 m24 (ZiR F24 T lo jY kr kg (tP:=45) e24 hC24 hBm (by simp));have kc:=mk base F25 m25 (Zb1 F25 T lo kz jQ kC);have kD:=mk base F26 m26 (Zma F26 T lo kc);exact Zn5 lo F27 T jV ka kb jS kD
noncomputable def tb:List (Str×Addr×Addr):=[("turned",49,45)]
theorem Zn7:∀P q,(P,q)∈LF->∃x c,(x,c,P)∈tb:=by
 intro P q h;simp only[qq,qb5,zX,or_false]at h;rcases h with⟨rfl,_⟩
 ·exact⟨"turned",49,by simp[tb]⟩
noncomputable def qF:xB:=PySem.W.view PySem.Challenge.pw_tiefold_k14_great_webs [1,3,4,5,6,7,8,10,11,12,13,14,15,17,18,19,20,21,22,23,24,25,26,27,28,29,30,31]
theorem walk {loose:List Str}{XP:(Str->Option Value)->Heap->Prop}{YP:World->Heap->Prop}(hY:∀(w:World) (h:Heap),YP w h->(KF w.params).In h) :
  qc0 qF loose XP YP PySem.Challenge.rw_tiefold_k14_great_webs.row.toRowW (Zg0 s_law) [] (λf vs=>qcR f vs):=
 Zj3 (K:=KF) (tb:=tb) (n:=63) (k:=56) (x:="script") (CX:=λ_=>ZV) (sp:=λw=>ZgF (KF w.params) LF) rfl (by decide) rfl ⟨rfl,by decide,by decide,rfl⟩ hY
  (qcY.mpr ⟨qay.mp (by kernel_rfl),(λ_ h=>nomatch h)⟩)
  (λw=>qcY.mpr ⟨by kernel_rfl,(λ_ h=>nomatch h)⟩) (λw=>by kernel_rfl)
  (λw mg fa h h1 h2 h3=>let ⟨fd,hb,hF⟩:=Zn6 h1 h2 h3;⟨fd,hb,λbase g1 g2 g3 g4=>hF base g1 g2 (g3 ("turned",49,45) (by simp[tb])) g4⟩)
  (λ_ _ a ns hl hS hTb=>⟨a,ns,rfl,hS,hl,ZgG (tb:=tb) Zn7 hTb,λ_=>rfl⟩) λ_ _ _ _ _ z=>z
theorem left:PySem.W.LeftO PySem.Challenge.rw_tiefold_k14_great_webs.prog qF [] (λs=>PySem.W.xlAt qF [] s&&PySem.W.recOk PySem.Challenge.rw_tiefold_k14_great_webs.row.records s) (qaG KF asF eF).obs (qaG KF asF eF).val 1830:=λw=>by kernel_rfl
theorem said:PySem.Challenge.rw_tiefold_k14_great_webs.wellSaid=true:=by kernel_rfl
end K14
open PySem.W
set_option maxRecDepth 100000 in
set_option maxHeartbeats 0 in
theorem PySem.Challenge.cw_tiefold_k14_great_webs_holds : PySem.Challenge.rw_tiefold_k14_great_webs.Holds := by
 refine TF.head_of (q:=K14.qF) (K:=K14.KF) (st:=K14.s_law) K14.said K14.left (by kernel_rfl) (by kernel_rfl) (by kernel_rfl) (by decide +kernel) ⟨rfl,rfl,rfl,rfl,rfl,by decide +kernel⟩ ?hw rfl (K14.walk λw h Y=>kIn_of Y)
 case hw=>w_witness2
