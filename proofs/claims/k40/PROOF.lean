import PyProof.Rows.All
import Wide.All
import OpenK.AllK
import Wide.FinOn
import Lean
import PyProof.EqAt
import PyProof.EqKinds
import PyProof.TupleCall
import KE.KLam
import PyProof.ZipIter
import PyProof.WalksEnum
import PyProof.WalkInts
import PyProof.SeqI3
import PyProof.Rows.SeqMore
import PyProof.Rows.SortWalk
import PyProof.Draws
import PyProof.EnumMake
import PyProof.DictIter
import KE.KSortTup
import PyProof.Rows.SeqMore2
import PyProof.Rows.RuleIs
import PyProof.Rows.SetFrom
import PyProof.WalksMore
import PyProof.MinMaxWalk
import OpenK.KMore
import PyProof.Rows.SortRuns
import PyProof.Rows.SortRunsK
import KE.KDictSum
import PySem.Challenge.RW_tiefold_k40_the_heaviest
-- CHANGE: your row's module here,as the last of these rows
open List renaming length_map->qd,range->qk,mem_map->qp,mem_cons->qu,getElem?_eq_getElem->qw,getD_eq_getElem?_getD->qz,getElem?_eq_some_iff->qA,map_map->qC,length_append->qE,mem_range->qG,getElem?_map->qI,mem_singleton->qJ,size_toArray->qL,mem_append->qM,mem_filter->qN,length_cons->qO,length_range->qQ,append_assoc->qR,mem_cons_of_mem->qT,pairwise_append->qW,map_cons->qX,length_take->qZ,getElem?_set_ne->zc,pairwise_map->ze,mem_append_right->zi,take_append_drop->zj,map_congr_left->zl,filter_sublist->zm,append_nil->zr,mem_of_getElem?->zt,lookup_cons->zw,map_append->zx,getElem?_append_left->zC,filterMap_cons->zD,getElem?_set_self->zE,mem_cons_self->zG,nodup_cons->zH,mem_iff_getElem?->zI,pairwise_iff_getElem->zM,getElem?_take_of_lt->zP,take_sublist->zS,replicate->zT,getElem?_append_right->zU,getElem?_drop->zW,length_drop->zX,nodup_range->zY,getElem?_eq_none->yb,pairwise_cons->ye,pairwise_singleton->yf,not_mem_nil->yg,perm_ext_iff_of_nodup->yi,drop_of_length_le->yk,getElem?_zip_eq_some->yp,extract_eq_take_drop->yq,perm_append_comm->yt,length_filter_le->yu,all_eq_true->yw,take_length->yy,filter_cons->yz,length_eq_zero_iff->yE,toList_toArray->yG,toArray->yT,nodup_append->yV,getElem?_range->yX,getElem_mem->y4,range_succ_eq_map->y8,length_nil->qag,find?_cons->qah,sum_cons->qam,ext_getElem?->qan,mem_append_left->qao,drop_eq_getElem_cons->qap,mem_of_mem_take->qar,mem_map_of_mem->qay,getElem?_replicate->qaA,filter_cons_of_neg->qaB,mem_filterMap->qaD,of_mem_zip->qaE,flatten_cons->qaI,mem_reverse->qaQ,mem_of_mem_drop->qaR,mem_erase_of_ne->qaT,any_cons->qaV,filter_map->qaY,range_succ->qaZ,nil_append->qa0,Perm->qa6,idxOf_lt_length_iff->qa7,filter_append->qa8,drop_zero->qbc,take_zero->qbd,filter_cons_of_pos->qbg,flatMap_cons->qbj,length->qbk,take_of_length_le->qbn,cons_append->qbq,mem_flatMap->qbr,flatMap_map->qbs,length_singleton->qbu,getD->qbv,map_nil->qby,foldl_cons->qbA,take_append_of_le_length->qbE,nodup_nil->qbG,take_succ->qbI,length_eraseIdx_of_lt->qbQ,foldl_append->qbV,length_erase_of_mem->qb4,map_flatMap->qb8,pairwise_mergeSort->qcc,getElem?_cons_succ->qcf,eraseIdx_cons_succ->qcg,pairwise_lt_range->qco,length_pos_of_mem->qcp,map_id->qcq,filter_eq_nil_iff->qcr,pairwise_reverse->qct,drop_eq_nil_iff->qcB,forall_mem_cons->qcD,filter_eq_self->qcJ,mergeSort_perm->qcK,take_succ_cons->qcL,getElem_of_mem->qcN,findSome?_cons->qcO,map_eq_nil_iff->qcQ,filter_flatMap->qcR,lookup->qc0
open PySem.Heap renaming get?_push_of_some->qf,get?_push_size->qD,lt_size->qK,size_push->zV,get?_update_self->ya,SameBut->yh,get?_update_other->yj,ExtBut->qbm,get?_none_of_le->qcy,get?_update_ne->qcM
open Array renaming getElem?_eq_getElem->qj,length_toList->qy,getElem?_toList->qB,getD_eq_getD_getElem?->qV,toList_append->za,mem_toList_iff->zd,toList_push->zf,mem_of_getElem?->zp,getElem?_eq_some_iff->zJ,toList_extract->yU,toList_reverse->qaq,getElem?_eq_none->qaH,getElem?_setIfInBounds->qbJ,perm_iff_toList_perm->qbP,toList->qcT
open PySem.W renaming Frag->qm,kia_one->yc,keepIn->yL,fnOf->yR,kla_fn->yY,CodeHd->yZ,envX->qad,kHook->qaC,codeIn->qba,tabObj->qbb,methodObj->qbR,nsIn->qb7,instObj->qci,cellsFrom_some->qck,lookIn->qcs,hideAll_size->qcw,hideAll_none->qcx,WalkO->qcE,hideAll_get->qcI
open Nat renaming le_refl->qq,ne_of_lt->qS,le_trans->zb,lt_of_lt_of_le->zg,zero_le->zB,lt_succ_of_lt->zF,lt_irrefl->yB,lt_succ_self->yK,zero_add->yS,lt_trans->qab,mul_le_mul->qat,le_of_lt_succ->qaM,mod_lt->qaS,add_assoc->qaX,le_succ_of_le->qbi,ne_of_gt->qbx,pow_le_pow_right->qbB,succ_pos->qbC,lt_trichotomy->qbU,le_of_lt->qbY,sub_zero->qb0,add_zero->qb1,le_add_right->qb2,max_eq_right->qb5,mod_eq_of_lt->qb9,add_sub_cancel_left->qch,le_succ->qcl,pow_succ->qcV,zero_min->qcX,add_mul->qc2
open PySem.SetTable renaming below->qH,layClean->zK,turns->yM,sizeAbove->yN,grown->yO,toList_insertAt->qax,insertAt->qaK,laid->qbo,fits->qcG,has->qcW
open Or renaming inl->qP,inr->qac
open Bool renaming false_eq_true->qU,and_eq_true->zh,not_eq_true'->yF,not_true->yW,false_ne_true->qaa,eq_iff_iff->qaG,and_eq_true_iff->qaP
open PySem.Value renaming ref->qY,none->zo,type->yI,bool->yQ,int->qbt,str->qcS,isInt->qcY
open PySem.PassesOwn renaming never->zk
open PySem.F renaming called_set->zq,args_tuple_add_2->qa3,slot_list_getattribute->qa5,entry_tuple_add->qbe,plainAttrs_list->qbf,slot_tuple_add->qbl,slot_list_index->qcd,entry_type_call->qce,typeCall_set_1->qcm,entry_set_init->qcn,plain_set_new->qcu,slot_set_iter->qcv
open PySem.Obj renaming mapSeq->zu,mapFields->yJ,putSet->qbX
open PyProof.Rows renaming slot_tuple_getitem->zv,callWith_type1->y9
open Option.some renaming inj->zy,injEq->qbT
open PySem.Builtin.Slice renaming slicePlaces->zL,sliceAdjust->yo,sliceApplied->qal,sliceFields->qbW
open PySem.SetTable.layClean renaming free->zN
open Ne renaming symm->zO
open PySem.Builtin.Tuple renaming tupleExact->zQ,tupleItemsOf->qaU,tupleIsExact->qbN
open PySem renaming mem_of_lookup->zR,call->qcA,Builtin->qcF
open PySem.NameKind renaming free->zZ,cell->qaW
open Option renaming map_some->yd,map_eq_some_iff->ym,isSome_iff_exists->qau,isSome_map->qbS
open List.Pairwise renaming nil->yn,imp_of_mem->yA
open Sum renaming inl->yr,inr->qbF
open False renaming elim->yC
open PySem.Around renaming under_plainId->yD,frames_deeper->qcz
open Int renaming le_of_lt->yH,le_refl->yP,emod_nonneg->qaj,le_trans->qaw,emod_lt_of_pos->qaF,toNat_natCast->qaL,natCast_add->qbD,toNat_of_nonneg->qcP
open True renaming intro->y6
open PySem.Builtin.List renaming listExtendWith->qae,listLengthHint->qaN,listTooLong->qa4,listSameRef->qb3
open PyProof.Rows.F renaming plain_set_update_loop->qaf,entry_set_update_loop->qa9
open ForInStep renaming yield->qai
open PySem.Paired renaming length->qak
open Iff renaming rfl->qas
open PySem.Str renaming ofString->qav,ofString->qbL
open PySem.Heap.SameBut renaming update->qaz
open PySem.SetTable.below renaming go->qaJ
open PySem.SeqAt renaming EqAt->qaO,RcNeAt->qbZ,RcAt->qcC
open PySem.Calls renaming call_function_entry->qa1,Name_function_global->qbM
open Classical renaming byContradiction->qa2
open PySem.SetTable.probe renaming go->qbh
open Prod renaming ext->qbp,fst->qc3
open List.Perm renaming append_left->qbw
open List.cons renaming injEq->qbz,inj->qcH
open PySem.Builtin.Frozenset renaming updateFrom->qbH
open PySem.Code renaming quiet_builtin->qbK
open PySem.Shared renaming TypeIs->qbO
open Nat.succ renaming inj->qb6
open PySem.Builtin.Range renaming rangeSize->qca
open PySem.Builtin.Dict renaming updateFrom->qcb
open PyProof.Rows.IsTup renaming new->qcj
open PySem.Expr renaming Call->qcU
open Sum.inl renaming inj->qcZ
open PySem.Walks renaming tuple->qc1
open PySem PySem.Spec PyProof.Rows
open PySem renaming wpAny_bind→xa,wpAny_pure→xb,wpAny_mono→xc,wpAny→xf,sizeLine→xg,starEach→xh,keywordEach→xi,bootBuiltins→xj,compareOp→xk,wpAny_newObj_type→xl,codeAny_builtin→xm,codeAny→xo,backToKw→xp,attributeBase→xq,swapsWith→xr,wpAny_seqItems→xt,wpAny_holding→xu,wpAny_newList→xw,wpAny_call→xy,model→xz,FuncData→xA,Program→xB,Around→xC
abbrev xD:=PySem.Value->PySem.Shared->Prop
set_option maxHeartbeats 8000000
abbrev Qa:=List (Nat×Nat)
abbrev Qb:=List (PySem.Addr×PySem.Obj)
set_option genSizeOfSpec false
set_option bootstrap.genMatcherCode false
local macro_rules|`(tactic|omega)=>`(tactic|first|lia|omega (config:={}))
set_option Elab.async false
set_option linter.all false
set_option maxRecDepth 100000
namespace L2
noncomputable abbrev Zu:=Sum Int Str
noncomputable def Jn:Zu->Value->Bool
 | .inl k,v=>qcY k v
 | .inr x,v=>Value.isStrOf x v
noncomputable def keyH (w:World):Zu->Int
 | .inl k=>hashInt k
 | .inr x=>hashStr w x
theorem Vy:∀{k:Zu} {v:Value},Jn k v=true->(∃i t,k=yr i/\v=qbt i t)∨(∃x t,k=qbF x/\v=qcS x t)
 | .inl i,v,h=>by
  obtain⟨t,e⟩:=Value.isInt_shape (k:=i) (v:=v) h;exact .inl ⟨i,t,rfl,e⟩
 | .inr x,v,h=>by
  obtain⟨t,e⟩:=Value.isStrOf_shape (x:=x) (v:=v) h;exact .inr ⟨x,t,rfl,e⟩
theorem ZhY (i:Int)(t:Tok):Jn (.inl i) (.int i t)=true:=by simp[Jn,qcY]
theorem ZhZ (x:Str)(t:Tok):Jn (.inr x) (.str x t)=true:=by simp[Jn,Value.isStrOf]
theorem ZmK (a b:Int):decide ((yr a:Zu)=yr b)=(a==b):=by
 by_cases e:a=b
 ·subst e;simp
 ·have h:¬(yr a:Zu)=yr b:=λq=>e (qcZ q)
  rw[decide_eq_false h];exact(beq_eq_false_iff_ne.mpr e).symm
theorem ZmL (a b:Str):decide ((qbF a:Zu)=qbF b)=decide (a=b):=by
 by_cases e:a=b
 ·subst e;simp
 ·have h:¬(qbF a:Zu)=qbF b:=λq=>e (qbF.inj q)
  rw[decide_eq_false h,decide_eq_false e]
theorem ZmM (a:Int)(b:Str):decide ((yr a:Zu)=qbF b)=false:=decide_eq_false (λq=>nomatch q)
theorem ZmN (a:Str)(b:Int):decide ((qbF a:Zu)=yr b)=false:=decide_eq_false (λq=>nomatch q)
noncomputable def Wf (prog:xB)(w:World):PySem.KeyKind prog w Zu where
 is:=Jn
 hash:=keyH w
 inj:=λv a b ha hb=>by
  rcases Vy ha with⟨i,t,rfl,rfl⟩ | ⟨x,t,rfl,rfl⟩
  ·rcases Vy hb with⟨j,u,rfl,e⟩ | ⟨y,u,rfl,e⟩
   ·injection e with e1 _;rw[e1]
   ·exact nomatch e
  ·rcases Vy hb with⟨j,u,rfl,e⟩ | ⟨y,u,rfl,e⟩
   ·exact nomatch e
   ·injection e with e1 _;rw[e1]
 byValue:=λk v h=>by
  rcases Vy h with⟨i,t,rfl,rfl⟩ | ⟨x,t,rfl,rfl⟩ <;> rfl
 pyHash:=λhv h=>by
  rcases Vy hv with⟨i,t,rfl,rfl⟩ | ⟨x,t,rfl,rfl⟩
  ·exact wpAny_pyHash_int h
  ·exact wpAny_pyHash_str h
 eqBool:=λhu hv h=>by
  rcases Vy hu with⟨i,t,rfl,rfl⟩ | ⟨x,t,rfl,rfl⟩
  ·rcases Vy hv with⟨j,u,rfl,rfl⟩ | ⟨y,u,rfl,rfl⟩
   ·rw[ZmK]at h;exact wpAny_eqBool_int h
   ·rw[ZmM]at h;exact qaO.int_str i t y u _ _ _ _ h
  ·rcases Vy hv with⟨j,u,rfl,rfl⟩ | ⟨y,u,rfl,rfl⟩
   ·rw[ZmN]at h;exact qaO.str_int x t j u _ _ _ _ h
   ·rw[ZmL]at h;exact wpAny_eqBool_str h
 «strs»:=λk x t v h=>by
  rcases Vy h with⟨i,u,rfl,e⟩ | ⟨y,u,rfl,e⟩
  ·exact nomatch e
  ·injection e with e1 _
   subst e1
   cases v <;> rfl
theorem Ze4 (prog:xB)(w:World)(i:Int)(t:Tok):(Wf prog w).is (.inl i) (.int i t)=true:=ZhY i t
theorem Ze5 (prog:xB)(w:World)(x:Str)(t:Tok):(Wf prog w).is (.inr x) (.str x t)=true:=ZhZ x t
inductive V where
 | non | bl (b:Bool) | int (i:Int) | str (x:Str) | byt (b:Array UInt8) | flt (b:UInt64) | ref (a:Addr) | ty (n:String)
 deriving DecidableEq
noncomputable def ZJ:V->Value->Prop
 | .non,u=>u=zo
 | .bl b,u=>u=yQ b
 | .int i,u=>∃t,u=qbt i t
 | .str x,u=>∃t,u=qcS x t
 | .byt b,u=>∃t,u=Value.bytes b t
 | .flt b,u=>∃t,u=Value.float b t
 | .ref a,u=>u=qY a
 | .ty n,u=>u=yI n
noncomputable abbrev ZB:List V->List Value->Prop:=Paired ZJ
theorem ZB.length {xs:List V}{us:List Value}(r:ZB xs us):xs.length=us.length:=qak r
theorem ZB.get:∀{xs:List V} {us:List Value} {i:Nat} {x:V},ZB xs us->xs[i]?=some x->∃u,us[i]?=some u/\ZJ x u
 | _,_,_,_,.nil,e=>by simp at e
 | _,_,0,_,.cons r _,e=>by simp at e;subst e;exact⟨_,rfl,r⟩
 | _,_,i+1,x,.cons _ t,e=>by
  obtain⟨u,h1,h2⟩:=ZB.get (i:=i) (x:=x) t (by simpa using e);exact⟨u,by simpa using h1,h2⟩
theorem ZB.set {x:V}{u:Value}(r:ZJ x u):∀{xs:List V} {us:List Value} (i:Nat),ZB xs us->ZB (xs.set i x) (us.set i u)
 | _,_,_,.nil=>.nil
 | _,_,0,.cons _ t=>.cons r t
 | _,_,i+1,.cons q t=>.cons q (ZB.set r i t)
theorem ZB.append:∀{xs ys:List V} {us ws:List Value},ZB xs us->ZB ys ws->ZB (xs++ys) (us++ws)
 | _,_,_,_,.nil,s=>s
 | _,_,_,_,.cons r t,s=>.cons r (ZB.append t s)
theorem ZB.take:∀{xs:List V} {us:List Value} (n:Nat),ZB xs us->ZB (xs.take n) (us.take n)
 | _,_,0,_=>.nil
 | _,_,_+1,.nil=>.nil
 | _,_,n+1,.cons r t=>.cons r (ZB.take n t)
theorem ZB.drop:∀{xs:List V} {us:List Value} (n:Nat),ZB xs us->ZB (xs.drop n) (us.drop n)
 | _,_,0,r=>r
 | _,_,_+1,.nil=>.nil
 | _,_,n+1,.cons _ t=>ZB.drop n t
noncomputable def UG:Option V->Option Value->Prop
 | some v,some u=>ZJ v u
 | none,none=>True
 | _,_=>False
noncomputable def KV {κ:Type}:List (κ×V)->List (κ×Value)->Prop:=Paired λ(p:κ×V) (q:κ×Value)=>p.1=q.1/\ZJ p.2 q.2
noncomputable def kV:Zu->V
 | .inl i=>.int i
 | .inr x=>.str x
inductive HO where
 | lst (xs:List V)
 | tup (xs:List V)
 | dK (kvs:List (Zu×V)) | dT (kvs:List (List Zu×V))
 | set (S:Int->Bool) (n:Nat)
 | ins (C dx:Addr) (fs:List (Str×V))
 | own (x:Addr)
 | xd (fs:List (Str×V))
 | met (f x:Addr)
 | rng (lo hi:Int)
 | frz (o:Obj) (u:HO)
 | tbl (ps:Array Value)
 | ext (φ:Heap->Prop)
noncomputable abbrev Hp:=Addr->Option HO
noncomputable def Zn (H:Hp)(a:Addr)(o:HO):Hp:=λb=>if b=a then some o else H b
theorem ZX {H:Hp}{a:Addr}{o:HO}:Zn H a o a=some o:=by unfold Zn;rw[if_pos rfl]
theorem Zx {H:Hp}{a b:Addr}{o:HO}(h:b≠a):Zn H a o b=H b:=by unfold Zn;rw[if_neg h]
theorem Zee {H:Hp}{a:Addr}{o u:HO}:Zn (Zn H a o) a u=Zn H a u:=by
 funext b;unfold Zn;split <;> rfl
theorem Zmp {H:Hp}{a b:Addr}{o u:HO}(h:H a=some o)(h':H b=some u)(d:o≠u):a≠b:=by
 intro e;subst e;rw[h]at h';exact d (zy h')
theorem YD {H:Hp}{a b:Addr}{o:HO}(h:H a=some o)(h':H b=none):a≠b:=by
 intro e;subst e;rw[h]at h';cases h'
section
variable (P:xB)(w:World)
noncomputable def Yx (H:Hp)(h:Heap)(a:Addr):HO->Prop
 | .lst xs=>xs.length<=xg/\∃(jH:List Value) (n:Nat),ZB xs jH/\h.get? a=some { cls:=.type "list",data:=.seq jH.toArray n }
 | .tup xs=>xs.length<=xg/\∃jH:List Value,ZB xs jH/\IsTup h a jH.toArray
 | .dK kvs=>kvs.length<=xg/\(a==sysModules)=false/\∃vs,KV kvs vs/\h.DictOf (Wf P w) a vs
 | .dT kvs=>kvs.length<=xg/\(a==sysModules)=false/\∃xs:List (List Zu×Addr×Value),
   Paired (λ(p:List Zu×V) (q:List Zu×Addr×Value)=>p.1=q.1/\H q.2.1=some (.tup (p.1.map kV))/\ZJ p.2 q.2.2) kvs xs/\
   ∃o es ep,h.get? a=some o/\o.ExactDict/\o.data=.dict es ep/\es.toList=xs.map (entryOfKey (tupleKind (Wf P w)))/\(xs.map (·.1)).Nodup
 | .set S n=>h.SetOf (intKind P w) a S n
 | .ins C dx fs=>H dx=some (.own a)/\fs.length<=1000/\dx≠a/\h.get? a=some (qci C dx)/\
   ∃mA,h.Ns1 dx mA/\(∀f,UG (fs.lookup f) (mA f))/\PySem.Within mA (fs.map (·.1))
 | .own _=>∃o,h.get? a=some o
 | .xd fs=>∃mA,h.Ns1 a mA/\∀f,UG (fs.lookup f) (mA f)
 | .rng lo hi=>∃t u v,h.get? a=some { cls:=.type "range",data:=.fields #[.int lo t,.int hi u,.int 1 v] }
 | .frz o u=>h.get? a=some o/\Yx H h a u
 | .tbl ps=>h.get? a=some { cls:=.none,data:=.fields ps }
 | .met f x=>h.get? a=some (qbR (.ref f) (.ref x))
 | .ext φ=>φ h/\(∃o,h.get? a=some o)/\∀h1 h2:Heap,φ h1->(∀o,h1.get? a=some o->h2.get? a=some o)->φ h2
noncomputable def Yo (H:Hp)(h:Heap):Prop:=∀a o,H a=some o->Yx P w H h a o
end
section
variable {P:xB}{w:World}{H H':Hp}{h h':Heap}{a:Addr}{o:HO}
theorem Yx.lt (x:Yx P w H h a o):a<h.objs.size:=by
 cases o with
 | lst xs=>obtain⟨_,_,_,_,e⟩:=x;exact qK e
 | tup xs=>obtain⟨_,_,_,p⟩:=x;exact p.lt
 | dK kvs=>obtain⟨_,_,_,_,o,_,_,e,_⟩:=x;exact qK e
 | dT kvs=>obtain⟨_,_,_,_,o,_,_,e,_⟩:=x;exact qK e
 | set S n=>obtain⟨o,_,_,_,e,_⟩:=x;exact qK e
 | ins C dx fs=>obtain⟨_,_,_,e,_⟩:=x;exact qK e
 | own y=>obtain⟨_,e⟩:=x;exact qK e
 | xd fs=>obtain⟨_,⟨_,_,_,e,_⟩,_⟩:=x;exact qK e
 | rng lo hi=>obtain⟨_,_,_,e⟩:=x;exact qK e
 | frz ob u=>obtain⟨e,_⟩:=x;exact qK e
 | tbl ps=>exact qK (show h.get? a=some _ from x)
 | met f y=>exact qK (show h.get? a=some _ from x)
 | ext φ=>obtain⟨_,⟨_,e⟩,_⟩:=x;exact qK e
theorem Paired.mapP {α β:Type}{F G:α->β->Prop}:∀{l₁:List α} {l₂:List β},Paired F l₁ l₂->(∀a b,F a b->G a b)->Paired G l₁ l₂
 | _,_,.nil,_=>.nil
 | _,_,.cons r t,f=>.cons (f _ _ r) (Paired.mapP t f)
theorem Yx.stay (x:Yx P w H h a o)(k:∀b u,(b=a∨H b=some (.own a))->h.get? b=some u->h'.get? b=some u)
  (ho:∀b,H b=some (.own a)->H' b=some (.own a)) (ht:∀b xs,H b=some (.tup xs)->H' b=some (.tup xs)):Yx P w H' h' a o:=by
 induction o with
 | lst xs=>obtain⟨z,jH,n,r,e⟩:=x;exact⟨z,jH,n,r,k _ _ (.inl rfl) e⟩
 | tup xs=>obtain⟨z,jH,r,ob,e,c⟩:=x;exact⟨z,jH,r,ob,k _ _ (.inl rfl) e,c⟩
 | dK kvs=>obtain⟨z,y,vs,r,ob,es,ep,e,c⟩:=x;exact⟨z,y,vs,r,ob,es,ep,k _ _ (.inl rfl) e,c⟩
 | dT kvs=>
  obtain⟨z,y,xs,r,ob,es,ep,e,c⟩:=x;exact⟨z,y,xs,Paired.mapP r λp q z=>⟨z.1,ht _ _ z.2.1,z.2.2⟩,ob,es,ep,k _ _ (.inl rfl) e,c⟩
 | set S n=>obtain⟨ob,es,ep,t,e,c⟩:=x;exact⟨ob,es,ep,t,k _ _ (.inl rfl) e,c⟩
 | ins C dx fs=>
  obtain⟨d,z,ne,e,mA,⟨od,es,ep,e2,c⟩,r⟩:=x;exact⟨ho _ d,z,ne,k _ _ (.inl rfl) e,mA,⟨od,es,ep,k _ _ (.inr d) e2,c⟩,r⟩
 | own y=>obtain⟨ob,e⟩:=x;exact⟨ob,k _ _ (.inl rfl) e⟩
 | xd fs=>obtain⟨mA,⟨od,es,ep,e,c⟩,r⟩:=x;exact⟨mA,⟨od,es,ep,k _ _ (.inl rfl) e,c⟩,r⟩
 | rng lo hi=>obtain⟨t,u,v,e⟩:=x;exact⟨t,u,v,k _ _ (.inl rfl) e⟩
 | frz ob u ih=>obtain⟨e,q⟩:=x;exact⟨k _ _ (.inl rfl) e,ih q⟩
 | tbl ps=>
  have e:h.get? a=some { cls:=.none,data:=.fields ps }:=x;show h'.get? a=some { cls:=.none,data:=.fields ps };exact k a _ (.inl rfl) e
 | met f y=>
  have e:h.get? a=some (qbR (.ref f) (.ref y)):=x;show h'.get? a=some (qbR (.ref f) (.ref y));exact k a _ (.inl rfl) e
 | ext φ=>obtain⟨p,⟨o,e⟩,st⟩:=x;exact⟨st _ _ p λo q=>k _ _ (.inl rfl) q,⟨o,k _ _ (.inl rfl) e⟩,st⟩
theorem Yo.lt (x:Yo P w H h)(e:H a=some o):a<h.objs.size:=(x a o e).lt
theorem Yo.fresh (x:Yo P w H h)(e:h.objs.size<=a):H a=none:=by
 cases q:H a with
 | none=>rfl
 | some u=>exact absurd (zg (x.lt q) e) (yB _)
theorem Yo.kept (x:Yo P w H h)(k:∀b u,h.get? b=some u->h'.get? b=some u):Yo P w H h':=λa o e=>
 (x a o e).stay (λb u _ q=>k b u q) (λ_ q=>q) λ_ _ q=>q
theorem Yo.laid (x:Yo P w H h)(k:∀b u,h.get? b=some u->h'.get? b=some u)(hp:h.objs.size<=a)(new:Yx P w (Zn H a o) h' a o):Yo P w (Zn H a o) h':=λb u e=>by
 have hn:=x.fresh hp;by_cases hb:b=a
 ·subst hb;rw[ZX]at e;cases e;exact new
 ·rw[Zx hb]at e
  exact(x b u e).stay (λc v _ q=>k c v q) (λc q=>by rw[Zx (YD q hn)];exact q) λc xs q=>by rw[Zx (YD q hn)];exact q
end
noncomputable def Rd (H:Hp)(a:Addr)(u:HO):Prop:=H a=some u∨∃o,H a=some (.frz o u)
theorem Rd.ok {P:xB}{w:World}{H:Hp}{h:Heap}{a:Addr}{u:HO}(r:Rd H a u)(x:Yo P w H h):Yx P w H h a u:=by
 rcases r with r | ⟨o,r⟩
 ·exact x a u r
 ·obtain⟨_,q⟩:=x a _ r
  exact q
noncomputable def BO:Option HO->Prop
 | some (.lst _)=>True
 | some (.dK _)=>True
 | some (.dT _)=>True
 | some (.set _ _)=>True
 | some (.ins _ _ _)=>True
 | some (.ext _)=>True
 | _=>False
section
variable {P:xB}{w:World}{H:Hp}{h h':Heap}{x e:Addr}{o':HO}
theorem Yo.write (ok:Yo P w H h)(mu:BO (H x))(he:e=x∨H e=some (.own x))(k:∀b u,b≠e->h.get? b=some u->h'.get? b=some u)(heo:∃u,h'.get? e=some u)
  (new:Yx P w (Zn H x o') h' x o'):Yo P w (Zn H x o') h':=λb u q=>by
 have nown:∀c y,H c=some (.own y)->c≠x:=λc y r z=>by subst z;rw[r]at mu;exact mu
 have ntup:∀c xs,H c=some (.tup xs)->c≠x:=λc xs r z=>by subst z;rw[r]at mu;exact mu
 by_cases hb:b=x
 ·subst hb;rw[ZX]at q;cases q;exact new
 ·rw[Zx hb]at q
  by_cases hbe:b=e
  ·have q':H b=some (.own x):=by
    rcases he with z | z
    ·exact absurd (hbe.trans z) hb
    ·rw[hbe];exact z
   rw[q]at q';cases q';obtain⟨v,hv⟩:=heo;exact⟨v,by rw[hbe];exact hv⟩
  ·refine(ok b u q).stay (λc v hc r=>k c v ?_ r) (λc r=>by rw[Zx (nown c b r)];exact r) λc xs r=>by rw[Zx (ntup c xs r)];exact r
   rcases hc with rfl | hc
   ·exact hbe
   ·rintro rfl
    rcases he with z | z
    ·exact nown c b hc z
    ·rw[hc]at z;cases z;exact hb rfl
end
structure Un (fs ex:List Addr)(H H':Hp)(h h':Heap):Prop where
 keep:∀b o,h.get? b=some o->H b=none->b∉fs->b∉ex->h'.get? b=some o
 slot:∀b o,h.get? b=some o->H b=none->b∈fs->b∉ex->∃sl,h'.get? b=some { o with slots:=sl }
 free:∀b o,h.get? b=some o->H b=none->b∉ex->H' b=none
 there:∀b o,h.get? b=some o->b∉ex->∃o',h'.get? b=some o'
 tups:∀b xs,H b=some (.tup xs)->H' b=some (.tup xs)
 frzs:∀b o u,H b=some (.frz o u)->H' b=some (.frz o u)
 tbls:∀b ps,H b=some (.tbl ps)->∃more,H' b=some (.tbl (ps++more))
section
variable {fs fs' ex ex':List Addr}{H H1 H2:Hp}{h h1 h2 h':Heap}{a x e:Addr}{o:HO}
theorem Un.any (u:Un fs ex H H1 h h1){b:Addr}{ob:Obj}(q:h.get? b=some ob)(n:H b=none)(hx:b∉ex):∃sl,h1.get? b=some { ob with slots:=sl }:=by
 by_cases hb:b∈fs
 ·exact u.slot b ob q n hb hx
 ·exact⟨ob.slots,u.keep b ob q n hb hx⟩
theorem Un.kept (k:∀b u,h.get? b=some u->h'.get? b=some u):Un fs ex H H h h':=
 ⟨λb ob q _ _ _=>k b ob q,λb ob q _ _ _=>⟨ob.slots,k b ob q⟩,λ_ _ _ n _=>n,λb ob q _=>⟨ob,k b ob q⟩,λ_ _ q=>q,λ_ _ _ q=>q,λ_ ps q=>⟨#[],by rw[q];simp⟩⟩
theorem Un.refl:Un fs ex H H h h:=Un.kept λ_ _ q=>q
theorem Un.laid (k:∀b u,h.get? b=some u->h'.get? b=some u)(hp:h.objs.size<=a)(hn:H a=none):Un fs ex H (Zn H a o) h h' where
 keep:=λb u q _ _ _=>k b u q
 slot:=λb u q _ _ _=>⟨u.slots,k b u q⟩
 free:=λb u q n _=>by rw[Zx (qS (zg (qK q) hp))];exact n
 there:=λb u q _=>⟨u,k b u q⟩
 tups:=λb xs q=>by rw[Zx (YD q hn)];exact q
 frzs:=λb u xs q=>by rw[Zx (YD q hn)];exact q
 tbls:=λb ps q=>⟨#[],by rw[Zx (YD q hn),q];simp⟩
theorem Un.write (mu:BO (H x))(he:e=x∨H e=some (.own x))(k:∀b u,b≠e->h.get? b=some u->h'.get? b=some u)(heo:∃u,h'.get? e=some u):Un fs ex H (Zn H x o) h h':=by
 have hx:∀b,H b=none->b≠x:=λb n z=>by subst z;rw[n]at mu;exact mu
 have hb:∀b,H b=none->b≠e:=λb n z=>by
  subst z;rcases he with r | r
  ·exact hx b n r
  ·rw[n]at r;cases r
 have hm:∀b u,H b=some u->¬BO (some u)->b≠x:=λb u q nm z=>by subst z;rw[q]at mu;exact nm mu
 refine⟨λb u q n _ _=>k b u (hb b n) q,λb u q n _ _=>⟨u.slots,k b u (hb b n) q⟩,λb u q n _=>by rw[Zx (hx b n)];exact n,λb u q _=>?_,
  λb xs q=>by rw[Zx (hm b _ q λz=>z)];exact q,λb u xs q=>by rw[Zx (hm b _ q λz=>z)];exact q,λb ps q=>⟨#[],by rw[Zx (hm b _ q λz=>z),q];simp⟩⟩
 by_cases hbe:b=e
 ·subst hbe;exact heo
 ·exact⟨u,k b u hbe q⟩
end
noncomputable def trk (h:Heap)(H:Hp):List Addr:=(qk h.objs.size).filter λa=>(H a).isSome
noncomputable def Va (h:Heap)(H:Hp):Heap:=PySem.W.hideAll h (trk h H)
theorem Zh0 (h:Heap)(H:Hp):(Va h H).objs.size=h.objs.size:=qcw _ _
theorem Zjc {h:Heap}{H:Hp}{b:Addr}{o:Obj}(e:h.get? b=some o)(n:H b=none):(Va h H).get? b=some o:=
 qcI _ e λhm=>by
  have q:(H b).isSome=true:=(qN.mp hm).2;rw[n]at q;simp at q
theorem Zk8 {h:Heap}{H:Hp}{b:Addr}{o:Obj}(e:(Va h H).get? b=some o):h.get? b=some o/\H b=none:=by
 have e':h.get? b=some o:=PySem.W.of_hideAll (trk h H) e;refine⟨e',?_⟩
 cases q:H b with
 | none=>rfl
 | some x=>
  have hm:b∈trk h H:=qN.mpr ⟨qG.mpr (qK e'),by simp[q]⟩;have z:(Va h H).get? b=none:=qcx (trk h H) hm;rw[z]at e;cases e
structure Mod (K:qm)(mg:Str->Option Value)(base:Heap):Prop where
 kin:K.In base
 glob:base.Ns mainGlobals mg
 blt:∃mb,base.Ns builtinsNs mb/\∀x:Str,x≠"__name__"->mb x=xj x
 nolimit:base.NoLimit
structure Cx where
 prog:xB
 w:World
 K:qm
 mg:Str->Option Value
 base:Heap
 A:xC
 N:List Str
 s₀:Shared
 H₀:Hp
 env:Env
 outer:List Env
 stack:List Env
 ex:List Addr
 fn:Str->Bool
 calm:Bool
 pn:Qb
 xe:xD
noncomputable def XT (l:List Env):List Addr:=l.filterMap (·.frame)
noncomputable abbrev Cx.fs (X:Cx):List Addr:=XT X.outer
noncomputable def BP (sc:Scope)(x:Str):Prop:=sc.names.lookup x=some .local∨sc.names.lookup x=some .cell∨sc.names.lookup x=some .free
noncomputable def Vf (sc:Scope)(x:Str):Prop:=sc.names.lookup x=some .local∨sc.names.lookup x=some .cell
noncomputable def Look (env:Env)(h:Heap)(m:Str->Option Value)(x:Str)(u:Value):Prop:=
 (env.kindOf x=some .local/\m x=some u)∨((env.kindOf x=some .cell∨env.kindOf x=some .free)/\∃c,env.cells.lookup x=some c/\h.IsCell c (some u))
structure Cx.Ok (X:Cx):Prop where
 mod:Mod X.K X.mg X.base
 kind:X.env.scope.kind=.function
 glob:X.env.globals=mainGlobals
 blt:X.env.builtins=builtinsNs
 above:X.s₀.heap.objs.size<=X.env.locals
 inj:∀x y c,X.env.cells.lookup x=some c->X.env.cells.lookup y=some c->x=y
 has:∀x,(X.env.kindOf x=some .cell∨X.env.kindOf x=some .free)->∃c,X.env.cells.lookup x=some c
 cab:∀x c,X.fn x=true->X.env.cells.lookup x=some c->X.s₀.heap.objs.size<=c
 hd:X.calm=true->X.A.handled=none
 frames:X.A.frames=some X.stack
 stk:X.stack=X.outer∨(X.stack=X.env::X.outer/\X.env.frame=some X.env.locals)
 exf:∀b∈X.ex,b≠X.env.locals/\∀x c,X.env.cells.lookup x=some c->c≠b
 bs:∀b o,X.base.get? b=some o->X.s₀.heap.get? b=some o/\X.H₀ b=none
 bsz:X.base.objs.size<=X.s₀.heap.objs.size
 noex:∀b o,X.base.get? b=some o->b∉X.ex
 exfs:∀b∈X.ex,b∉X.fs
 funs:X.s₀.heap.FunFrames X.base X.outer
 frf:∀b∈X.fs,X.H₀ b=none
structure Inv (X:Cx)(jC:Qb)(σ:List (Option V))(H:Hp)(s:Shared):Prop where
 ok:X.Ok
 os:s.os=X.s₀.os
 bare:AllBare s.gens
 base:Un X.fs X.ex X.H₀ H X.s₀.heap s.heap
 loc:∃m,s.heap.Ns X.env.locals m/\∀(i:Nat) (x:Str) (v:V),X.N[i]?=some x->σ[i]?=some (some v)->BP X.env.scope x->∃u,ZJ v u/\Look X.env s.heap m x u
 cell:∀x c,X.env.cells.lookup x=some c->∃v,s.heap.IsCell c v
 free:H X.env.locals=none
 freeC:∀x c,X.env.cells.lookup x=some c->H c=none
 pin:∀p∈X.pn++jC,s.heap.get? p.1=some p.2/\H p.1=none/\p.1≠X.env.locals/\p.1∉X.fs/\∀v,p.2.data≠.cell v
 hok:Yo X.prog X.w H s.heap
 len:σ.length=X.N.length
section
variable {X:Cx}{jC:Qb}{σ:List (Option V)}{H H':Hp}{s:Shared}{h':Heap}
theorem Cx.Ok.nofr (ok:X.Ok){b:Addr}{o:Obj}(e:X.base.get? b=some o):b∉X.fs:=λhb=>by
 have:=(ok.funs.mem hb).1;rw[e]at this;cases this
theorem Inv.bs (I:Inv X jC σ H s):∀b o,X.base.get? b=some o->s.heap.get? b=some o/\H b=none:=λb o e=>
 ⟨I.base.keep b o (I.ok.bs b o e).1 (I.ok.bs b o e).2 (I.ok.nofr e) (I.ok.noex b o e),I.base.free b o (I.ok.bs b o e).1 (I.ok.bs b o e).2 (I.ok.noex b o e)⟩
theorem Inv.bk (I:Inv X jC σ H s):∀b o,X.base.get? b=some o->s.heap.get? b=some o:=λb o e=>(I.bs b o e).1
theorem Inv.mod (I:Inv X jC σ H s):Mod X.K X.mg X.base:=I.ok.mod
theorem Inv.kIn (I:Inv X jC σ H s):X.K.In s.heap:=I.ok.mod.kin.keeps I.bk
theorem Inv.lt (I:Inv X jC σ H s):X.env.locals<s.heap.objs.size:=let ⟨_,hn,_⟩:=I.loc;hn.lt
theorem Inv.sz (I:Inv X jC σ H s):X.s₀.heap.objs.size<=s.heap.objs.size:=zb I.ok.above (qbY I.lt)
theorem Inv.nofs (I:Inv X jC σ H s){a:Addr}(h:s.heap.objs.size<=a):a∉X.fs:=λhb=>by
 obtain⟨_,o,ho,_⟩:=I.ok.funs.mem hb;exact absurd (zg (qK ho) (zb I.sz h)) (yB _)
theorem Inv.cne (I:Inv X jC σ H s):∀x c,X.env.cells.lookup x=some c->c≠X.env.locals:=λx c e z=>by
 obtain⟨v,o,ho,hd⟩:=I.cell x c e;obtain⟨m,⟨o',es,ep,ho',hd',_⟩,_⟩:=I.loc;rw[z,ho']at ho;cases ho;rw[hd']at hd;cases hd
theorem Inv.funs (I:Inv X jC σ H s):s.heap.FunFrames X.base X.outer:=by
 have all:∀(l:List Env),(∀b∈XT l,b∈X.fs)->X.s₀.heap.FunFrames X.base l->s.heap.FunFrames X.base l:=by
  intro l
  induction l with
  | nil=>intro _ _;trivial
  | cons env r ih=>
   intro hs hl;obtain⟨hk,⟨L,o,hf,hn,ho,hd⟩,hr⟩:=hl;have hL:L∈X.fs:=hs L (by unfold XT;rw[zD,hf];exact zG);obtain⟨sl,e⟩:=I.base.slot L o ho (I.ok.frf L hL) hL λz=>I.ok.exfs L z hL;exact⟨hk,⟨L,_,hf,hn,e,hd⟩,ih (λb hb=>hs b (by unfold XT;rw[zD,hf];exact qT _ hb)) hr⟩
 exact all X.outer (λ_ hb=>hb) I.ok.funs
theorem Inv.stack (I:Inv X jC σ H s):s.heap.FunFrames X.base X.stack:=by
 rcases I.ok.stk with e | ⟨e,hf⟩
 ·rw[e];exact I.funs
 ·rw[e]
  obtain⟨m,hn,_⟩:=I.loc;refine .cons (by rw[I.ok.kind];decide) hf hn ?_ I.funs;exact qcy (zb I.ok.bsz I.ok.above)
theorem Inv.stkSub (I:Inv X jC σ H s):∀b∈XT X.stack,b∈X.env.locals::X.fs:=λb hb=>by
 rcases I.ok.stk with e | ⟨e,hf⟩
 ·rw[e]at hb;exact qT _ hb
 ·rw[e]at hb
  unfold XT at hb;rw[zD,hf]at hb;exact hb
theorem Inv.stkFree (I:Inv X jC σ H s):∀b∈XT X.stack,H b=none:=λb hb=>by
 rcases qu.mp (I.stkSub b hb)with e | hb
 ·rw[e];exact I.free
 ·obtain⟨_,o,ho,_⟩:=I.ok.funs.mem hb
  exact I.base.free b o ho (I.ok.frf b hb) λz=>I.ok.exfs b z hb
theorem Inv.step {g':Array GenState}{t':Nat}{d':Drawn}{ch:List Addr}(I:Inv X jC σ H s)
  (hch:∀b∈ch,(b∈X.ex∨X.s₀.heap.objs.size<=b)/\b≠X.env.locals/\(∀x c,X.env.cells.lookup x=some c->c≠b)/\∀p∈X.pn++jC,p.1≠b)
  (keep:∀b o,b≠X.env.locals->b∉X.fs->b∉ch->s.heap.get? b=some o->H b=none->h'.get? b=some o)
  (slot:∀b o,b≠X.env.locals->b∈X.fs->b∉ch->s.heap.get? b=some o->H b=none->∃sl,h'.get? b=some { o with slots:=sl }) (free:∀b o,b∉ch->s.heap.get? b=some o->H b=none->H' b=none)
  (there:∀b o,b∉ch->s.heap.get? b=some o->∃o',h'.get? b=some o')
  (tups:∀b xs,H b=some (.tup xs)->H' b=some (.tup xs)) (frzs:∀b o u,H b=some (.frz o u)->H' b=some (.frz o u)) (tbls:∀b ps,H b=some (.tbl ps)->∃more,H' b=some (.tbl (ps++more)))
  (ns:∀m,s.heap.Ns X.env.locals m->h'.Ns X.env.locals m) (hok:Yo X.prog X.w H' h') (hg:AllBare g') :
  Inv X jC σ H' { s with heap:=h',gens:=g',drawn:=d',toks:=t' }:=by
 have neL:∀b o,X.s₀.heap.get? b=some o->b≠X.env.locals:=λb o e=>qS (zg (qK e) I.ok.above);have neC:∀b o,X.s₀.heap.get? b=some o->b∉X.ex->b∉ch:=λb o e hx hb=>by
  rcases (hch b hb).1 with z | z
  ·exact hx z
  ·exact absurd (zg (qK e) z) (yB _)
 have cellK:∀x c,X.env.cells.lookup x=some c->∀v,s.heap.IsCell c v->h'.IsCell c v:=λx c e v ⟨o,ho,hd⟩=>by
  have nch:c∉ch:=λz=>(hch c z).2.2.1 x c e rfl;by_cases hc:c∈X.fs
  ·obtain⟨sl,q⟩:=slot c o (I.cne x c e) hc nch ho (I.freeC x c e)
   exact⟨_,q,hd⟩
  ·exact⟨o,keep c o (I.cne x c e) hc nch ho (I.freeC x c e),hd⟩
 refine⟨I.ok,I.os,hg,⟨λb o e n hb hx=>?_,λb o e n hb hx=>?_,λb o e n hx=>?_,λb o e hx=>?_,λb xs e=>tups b xs (I.base.tups b xs e),λb o xs e=>frzs b o xs (I.base.frzs b o xs e),λb ps e=>?_⟩,?_,λx c e=>?_,?_,λx c e=>?_,λp hp=>?_,hok,I.len⟩
 ·exact keep b o (neL b o e) hb (neC b o e hx) (I.base.keep b o e n hb hx) (I.base.free b o e n hx)
 ·obtain⟨sl,e1⟩:=I.base.slot b o e n hb hx
  obtain⟨sl',e2⟩:=slot b _ (neL b o e) hb (neC b o e hx) e1 (I.base.free b o e n hx);exact⟨sl',e2⟩
 ·obtain⟨o',e1⟩:=I.base.there b o e hx
  exact free b o' (neC b o e hx) e1 (I.base.free b o e n hx)
 ·obtain⟨o',e1⟩:=I.base.there b o e hx
  exact there b o' (neC b o e hx) e1
 ·obtain⟨m1,e1⟩:=I.base.tbls b ps e
  obtain⟨m2,e2⟩:=tbls b _ e1;exact⟨m1++m2,by rw[e2,Array.append_assoc]⟩
 ·obtain⟨m,hn,hl⟩:=I.loc
  refine⟨m,ns m hn,λi x v e1 e2 e3=>?_⟩;obtain⟨u,r,l⟩:=hl i x v e1 e2 e3;refine⟨u,r,?_⟩;rcases l with l | ⟨k,c,e,z⟩
  ·exact .inl l
  ·exact .inr ⟨k,c,e,cellK x c e _ z⟩
 ·obtain⟨v,z⟩:=I.cell x c e
  exact⟨v,cellK x c e v z⟩
 ·obtain⟨m,⟨o,_,_,ho,_⟩,_⟩:=I.loc
  exact free _ o (λz=>(hch _ z).2.1 rfl) ho I.free
 ·obtain⟨v,o,ho,hd⟩:=I.cell x c e
  exact free c o (λz=>(hch c z).2.2.1 x c e rfl) ho (I.freeC x c e)
 ·obtain⟨e,n,ne,nf,d⟩:=I.pin p hp
  have nch:p.1∉ch:=λz=>(hch p.1 z).2.2.2 p hp rfl;exact⟨keep p.1 p.2 ne nf nch e n,free p.1 p.2 nch e n,ne,nf,d⟩
theorem Inv.un {t':Nat}(I:Inv X jC σ H s)(u:Un X.fs [] H H' s.heap h')(hok:Yo X.prog X.w H' h'):Inv X jC σ H' { s with heap:=h',toks:=t' }:=by
 obtain⟨m,⟨o,es,ep,ho,r⟩,_⟩:=id I.loc;obtain⟨sl,hL⟩:=u.any ho I.free (by simp);exact I.step (g':=s.gens) (d':=s.drawn) (ch:=[]) (λ_ z=>nomatch z) (λb o _ hb _ e n=>u.keep b o e n hb (by simp)) (λb o _ hb _ e n=>u.slot b o e n hb (by simp)) (λb o _ e n=>u.free b o e n (by simp)) (λb o _ e=>u.there b o e (by simp)) u.tups u.frzs u.tbls (λm' hm=>by
  obtain⟨o',es',ep',ho',r'⟩:=hm;rw[ho]at ho';cases ho';exact⟨_,es',ep',hL,r'⟩) hok I.bare
theorem Inv.call {g':Array GenState}{t':Nat}{d':Drawn}{ch:List Addr}(I:Inv X jC σ H s)(u:Un (XT X.stack) ch H H' s.heap h')(hok:Yo X.prog X.w H' h')(hg:AllBare g')
  (hch:∀b∈ch,(b∈X.ex∨X.s₀.heap.objs.size<=b)/\b≠X.env.locals/\(∀x c,X.env.cells.lookup x=some c->c≠b)/\∀p∈X.pn++jC,p.1≠b) :
  Inv X jC σ H' { s with heap:=h',gens:=g',drawn:=d',toks:=t' }:=by
 obtain⟨m,⟨o,es,ep,ho,r⟩,_⟩:=id I.loc;obtain⟨sl,hL⟩:=u.any ho I.free λz=>(hch _ z).2.1 rfl;exact I.step (ch:=ch) hch (λb o hL hb hc e n=>u.keep b o e n (λz=>(qu.mp (I.stkSub b z)).elim hL hb) hc) (λb o _ _ hc e n=>u.any e n hc) (λb o hc e n=>u.free b o e n hc) (λb o hc e=>u.there b o e hc) u.tups u.frzs u.tbls (λm' hm=>by
  obtain⟨o',es',ep',ho',r'⟩:=hm;rw[ho]at ho';cases ho';exact⟨_,es',ep',hL,r'⟩) hok hg
theorem Inv.turned {t':Nat}{it:Addr}(I:Inv X jC σ H s)(k:∀b o,b≠it->s.heap.get? b=some o->h'.get? b=some o)(hn:H it=none)(hL:it≠X.env.locals)
  (h1:it∈X.ex∨X.s₀.heap.objs.size<=it) (h2:∀x c,X.env.cells.lookup x=some c->c≠it) (h3:∀p∈X.pn++jC,p.1≠it):Inv X jC σ H { s with heap:=h',toks:=t' }:=by
 have nit:∀b u,H b=some u->b≠it:=λb u e z=>by rw[z,hn]at e;cases e
 refine I.step (g':=s.gens) (d':=s.drawn) (ch:=[it]) (λb hb=>?_) (λb o _ _ hc e _=>k b o (λz=>hc (by simp[z])) e) (λb o _ _ hc e _=>⟨o.slots,k b o (λz=>hc (by simp[z])) e⟩) (λ_ _ _ _ n=>n)
  (λb o hc e=>⟨o,k b o (λz=>hc (by simp[z])) e⟩) (λ_ _ e=>e) (λ_ _ _ e=>e) (λb ps e=>⟨#[],by rw[e];simp⟩) (λm hm=>?_) (λb u e=>?_) I.bare
 ·have e:b=it:=by simpa using hb
  subst e;exact⟨h1,hL,h2,h3⟩
 ·obtain⟨o,es,ep,ho,r⟩:=hm
  exact⟨o,es,ep,k _ o (zO hL) ho,r⟩
 ·refine(I.hok b u e).stay (λc v hc q=>k c v ?_ q) (λ_ q=>q) λ_ _ q=>q
  rcases hc with z | z
  ·rw[z];exact nit b u e
  ·exact nit c _ z
theorem Inv.tok (I:Inv X jC σ H s)(t:Nat):Inv X jC σ H { s with toks:=t }:=I.un (h':=s.heap) (t':=t) Un.refl I.hok
theorem Inv.kept {t':Nat}(I:Inv X jC σ H s)(k:∀b u,s.heap.get? b=some u->h'.get? b=some u):Inv X jC σ H { s with heap:=h',toks:=t' }:=I.un (Un.kept k) (I.hok.kept k)
theorem Inv.laid {a:Addr}{o:HO}{t':Nat}(I:Inv X jC σ H s)(k:∀b u,s.heap.get? b=some u->h'.get? b=some u)(hp:s.heap.objs.size<=a)(new:Yx X.prog X.w (Zn H a o) h' a o) :
  Inv X jC σ (Zn H a o) { s with heap:=h',toks:=t' }:=I.un (Un.laid k hp (I.hok.fresh hp)) (I.hok.laid k hp new)
theorem Inv.write {x e:Addr}{o:HO}{t':Nat}(I:Inv X jC σ H s)(mu:BO (H x))(he:e=x∨H e=some (.own x))(k:∀b u,b≠e->s.heap.get? b=some u->h'.get? b=some u)(heo:∃u,h'.get? e=some u)
  (new:Yx X.prog X.w (Zn H x o) h' x o):Inv X jC σ (Zn H x o) { s with heap:=h',toks:=t' }:=I.un (Un.write mu he k heo) (I.hok.write mu he k heo new)
theorem Inv.pins_of {pins':Qb}(I:Inv X jC σ H s)(h:∀p∈pins',s.heap.get? p.1=some p.2/\H p.1=none/\p.1≠X.env.locals/\p.1∉X.fs/\∀v,p.2.data≠.cell v):Inv X pins' σ H s:=
 ⟨I.ok,I.os,I.bare,I.base,I.loc,I.cell,I.free,I.freeC,λp hp=>(qM.mp hp).elim (λz=>I.pin p (qao _ z)) (h p),I.hok,I.len⟩
theorem Ze6 {N:List Str}(hN:N.Nodup){i j:Nat}{x:Str}(a:N[i]?=some x)(b:N[j]?=some x):i=j:=by
 obtain⟨h1,e1⟩:=qA.mp a;obtain⟨h2,e2⟩:=qA.mp b;exact(List.getElem_inj hN).mp (e1.trans e2.symm)
theorem Zh1 {M:Model}{A:xC}{E:xD}{i:Nat}{x:Str}{v:V}{u:Value}{Q:Unit->Shared->Prop}(I:Inv X jC σ H s)(hN:X.N.Nodup)(hi:X.N[i]?=some x)(hx:Vf X.env.scope x)(r:ZJ v u)
  (h:∀s',Inv X jC (σ.set i (some v)) H s'->(∃a,yh a s.heap s'.heap/\(a=X.env.locals∨X.env.cells.lookup x=some a))->Q () s') (hf:X.fn x=true∨X.env.scope.names.lookup x=some .local:=by first | exact .inl rfl | exact .inr rfl | assumption):xf M A (storeName X.env x u) Q E s:=by
 obtain⟨m,hn,hl⟩:=id I.loc;have hcls:(X.env.scope.kind == .class||(X.env.scope.kind == .module&&X.env.locals != X.env.globals))=false:=by rw[I.ok.kind];rfl
 have hiσ:i < σ.length:=by rw[I.len];exact(qA.mp hi).1
 have cne:=I.cne;have tracked:∀{a:Addr} {h':Heap},(∃o,s.heap.get? a=some o/\H a=none)->yh a s.heap h'->Yo X.prog X.w H h':=λ{a h'} ha hs b ob e=>by
  obtain⟨_,_,hfree⟩:=ha;refine(I.hok b ob e).stay (λc w' hc q=>(hs.2 c ?_).trans q) (λ_ q=>q) λ_ _ q=>q;rintro rfl;rcases hc with rfl | hc
  ·rw[hfree]at e;cases e
  ·rw[hfree]at hc;cases hc
 rcases hx with hk | hk
 ·refine wpAny_storeName_local hk hn (λh' hn' hs=>?_) hcls
  obtain⟨oL,_,_,hoL,_⟩:=id hn;refine h _ ⟨I.ok,I.os,I.bare,⟨λb o e n hb hx=>?_,λb o e n hb hx=>?_,I.base.free,λb o e hx=>?_,I.base.tups,I.base.frzs,I.base.tbls⟩,⟨_,hn',λj y v' e1 e2 e3=>?_⟩,λy c e=>?_,I.free,I.freeC,λp hp=>?_,tracked ⟨oL,hoL,I.free⟩ hs,by simpa using I.len⟩ ⟨_,hs,.inl rfl⟩
  ·exact(hs.2 b (qS (zg (qK e) I.ok.above))).trans (I.base.keep b o e n hb hx)
  ·obtain⟨sl,e1⟩:=I.base.slot b o e n hb hx
   exact⟨sl,(hs.2 b (qS (zg (qK e) I.ok.above))).trans e1⟩
  ·obtain⟨o',e1⟩:=I.base.there b o e hx
   exact⟨o',(hs.2 b (qS (zg (qK e) I.ok.above))).trans e1⟩
  ·by_cases hj:j=i
   ·subst hj
    rw[hi]at e1;cases e1;rw[zE hiσ]at e2
    cases e2
    exact⟨u,r,.inl ⟨hk,by simp⟩⟩
   ·rw[zc (zO hj)]at e2
    obtain⟨u',r',q⟩:=hl j y v' e1 e2 e3;refine⟨u',r',?_⟩;rcases q with⟨k,e⟩ | ⟨k,c,e,z⟩
    ·refine .inl ⟨k,?_⟩
     have:y≠x:=λe=>hj (Ze6 hN e1 (e▸hi));simp[this,e]
    ·exact .inr ⟨k,c,e,z.sameBut hs (cne y c e)⟩
  ·obtain⟨w',z⟩:=I.cell y c e
   exact⟨w',z.sameBut hs (cne y c e)⟩
  ·obtain⟨e,n,ne,nf,d⟩:=I.pin p hp
   exact⟨(hs.2 p.1 ne).trans e,n,ne,nf,d⟩
 ·have hfn:X.fn x=true:=by
   rcases hf with z | z
   ·exact z
   ·rw[z]at hk;cases hk
  obtain⟨c,hc⟩:=I.ok.has x (.inl hk);obtain⟨w',z⟩:=I.cell x c hc;refine wpAny_storeName_cell I.ok.kind hk hc z (λh' hc' hs=>?_);obtain⟨oc,hoc,hocd⟩:=id z;refine h { s with heap:=h' } ⟨I.ok,I.os,I.bare,⟨λb o e n hb hx=>?_,λb o e n hb hx=>?_,I.base.free,λb o e hx=>?_,I.base.tups,I.base.frzs,I.base.tbls⟩,⟨m,hn.sameBut hs (zO (cne x c hc)),λj y v' e1 e2 e3=>?_⟩,λy c' e=>?_,I.free,I.freeC,λp hp=>?_,tracked ⟨oc,hoc,I.freeC x c hc⟩ hs,by simpa using I.len⟩ ⟨c,hs,.inr hc⟩
  ·exact(hs.2 b (qS (zg (qK e) (I.ok.cab x c hfn hc)))).trans (I.base.keep b o e n hb hx)
  ·obtain⟨sl,e1⟩:=I.base.slot b o e n hb hx
   exact⟨sl,(hs.2 b (qS (zg (qK e) (I.ok.cab x c hfn hc)))).trans e1⟩
  ·obtain⟨o',e1⟩:=I.base.there b o e hx
   exact⟨o',(hs.2 b (qS (zg (qK e) (I.ok.cab x c hfn hc)))).trans e1⟩
  ·by_cases hj:j=i
   ·subst hj
    rw[hi]at e1;cases e1;rw[zE hiσ]at e2
    cases e2
    exact⟨u,r,.inr ⟨.inl hk,c,hc,hc'⟩⟩
   ·rw[zc (zO hj)]at e2
    obtain⟨u',r',q⟩:=hl j y v' e1 e2 e3;refine⟨u',r',?_⟩;rcases q with q | ⟨k,c',e,z'⟩
    ·exact .inl q
    ·refine .inr ⟨k,c',e,z'.sameBut hs ?_⟩
     rintro rfl;exact hj (Ze6 hN e1 (I.ok.inj _ _ _ e hc▸hi))
  ·by_cases hcc:c'=c
   ·subst hcc;exact⟨_,hc'⟩
   ·obtain⟨w2,z2⟩:=I.cell y c' e
    exact⟨w2,z2.sameBut hs hcc⟩
  ·obtain⟨e,n,ne,nf,d⟩:=I.pin p hp
   refine⟨(hs.2 p.1 ?_).trans e,n,ne,nf,d⟩;intro q;rw[q,hoc]at e;have q':oc=p.2:=zy e;exact d w' (by rw[<-q'];exact hocd)
theorem Zbe {M:Model}{A:xC}{E:xD}{i:Nat}{x:Str}{v:V}{u:Value}{Q:Unit->Shared->Prop}(I:Inv X jC σ H s)(hN:X.N.Nodup)(hi:X.N[i]?=some x)(hx:Vf X.env.scope x)(r:ZJ v u)
  (h:∀s',Inv X jC (σ.set i (some v)) H s'->Q () s') (hf:X.fn x=true∨X.env.scope.names.lookup x=some .local:=by first | exact .inl rfl | exact .inr rfl | assumption):xf M A (storeName X.env x u) Q E s:=
 Zh1 I hN hi hx r (λs' I' _=>h s' I') hf
theorem Inv.call' {s':Shared}{ch:List Addr}(I:Inv X jC σ H s)(ho:s'.os=s.os)(u:Un (XT X.stack) ch H H' s.heap s'.heap)(hok:Yo X.prog X.w H' s'.heap)(hg:AllBare s'.gens)
  (hch:∀b∈ch,(b∈X.ex∨X.s₀.heap.objs.size<=b)/\b≠X.env.locals/\(∀x c,X.env.cells.lookup x=some c->c≠b)/\∀p∈X.pn++jC,p.1≠b):Inv X jC σ H' s':=by
 obtain⟨h',g',d',t',o'⟩:=s';have e:o'=s.os:=ho;subst e;exact I.call (g':=g') (t':=t') (d':=d') u hok hg hch
end
noncomputable abbrev XK:=Value->Option Addr->Hp->Prop
noncomputable abbrev St:=List (Option V)
noncomputable abbrev VK:=V->Hp->Prop
noncomputable abbrev TE:=St->Hp->VK->Prop
noncomputable abbrev TT:=St->Hp->(Bool->Hp->Prop)->Prop
noncomputable abbrev TA:=St->Hp->(List V->Hp->Prop)->Prop
structure Ends where
 nx:St->Hp->Prop
 rt:VK
 bk:St->Hp->Prop:=λ_ _=>False
 ct:St->Hp->Prop:=λ_ _=>False
noncomputable abbrev TS:=Ends->St->Hp->Prop
noncomputable def EP (X:Cx)(jC:Qb)(σ:St)(Q:VK)(u:Value)(s':Shared):Prop:=∃v H',Inv X jC σ H' s'/\ZJ v u/\Q v H'
noncomputable def TP (X:Cx)(jC:Qb)(σ:St)(Q:Bool->Hp->Prop)(b:Bool)(s':Shared):Prop:=∃H',Inv X jC σ H' s'/\Q b H'
noncomputable def AP (X:Cx)(jC:Qb)(σ:St)(Q:List V->Hp->Prop)(us:List Value)(s':Shared):Prop:=∃vs H',Inv X jC σ H' s'/\ZB vs us/\Q vs H'
noncomputable def SP (X:Cx)(jC:Qb)(D:Ends)(f:Flow)(s':Shared):Prop:=
 match f with
 | .next=>∃σ' H',Inv X jC σ' H' s'/\D.nx σ' H'
 | .brk=>∃σ' H',Inv X jC σ' H' s'/\D.bk σ' H'
 | .cont=>∃σ' H',Inv X jC σ' H' s'/\D.ct σ' H'
 | .ret u=>∃v σ' H',Inv X jC σ' H' s'/\ZJ v u/\D.rt v H'
noncomputable def PE (X:Cx)(e:Expr)(t:TE):Prop:=
 ∀(jC:Qb) (s:Shared) (σ:St) (H:Hp) (Q:VK),Inv X jC σ H s->t σ H Q->xf (xz X.prog X.w) X.A (eval e X.env) (EP X jC σ Q) X.xe s
noncomputable def PT (X:Cx)(e:Expr)(t:TT):Prop:=
 ∀(jC:Qb) (s:Shared) (σ:St) (H:Hp) (Q:Bool->Hp->Prop),Inv X jC σ H s->t σ H Q->xf (xz X.prog X.w) X.A (isTrue e X.env (eval e X.env)) (TP X jC σ Q) X.xe s
noncomputable def PW (X:Cx)(e:Expr)(t:TT):Prop:=
 ∀(whole:Sem Value) (jC:Qb) (s:Shared) (σ:St) (H:Hp) (Q:Bool->Hp->Prop),Inv X jC σ H s->t σ H Q->xf (xz X.prog X.w) X.A (isTrue e X.env whole) (TP X jC σ Q) X.xe s
theorem PW.pt {X:Cx}{e:Expr}{t:TT}(h:PW X e t):PT X e t:=h _
noncomputable def PA (X:Cx)(es:List Expr)(t:TA):Prop:=
 ∀(pos:Pos) (jC:Qb) (s:Shared) (σ:St) (H:Hp) (Q:List V->Hp->Prop),Inv X jC σ H s->t σ H Q->xf (xz X.prog X.w) X.A (spliced (backTo pos (xh es X.env))) (AP X jC σ Q) X.xe s
noncomputable def PS (X:Cx)(st:Stmt)(t:TS):Prop:=
 ∀(jC:Qb) (s:Shared) (σ:St) (H:Hp) (D:Ends),Inv X jC σ H s->t D σ H->xf (xz X.prog X.w) X.A (exec st X.env) (SP X jC D) X.xe s
noncomputable def Wj (X:Cx)(st:List Stmt)(t:TS):Prop:=
 ∀(jC:Qb) (s:Shared) (σ:St) (H:Hp) (D:Ends),Inv X jC σ H s->t D σ H->xf (xz X.prog X.w) X.A (execs st X.env) (SP X jC D) X.xe s
theorem ZK {α:Type}{t:Sem α}{Q Q':α->Shared->Prop}{M:Model}{A:xC}{E:xD}{s:Shared}(h:xf M A t Q E s)(hQ:∀a s,Q a s->Q' a s):xf M A t Q' E s:=xc h hQ λ_ _ x=>x
section
variable {X:Cx}
noncomputable def YB (i:Nat):TE:=fun σ H Q=>∃v,σ[i]?=some (some v)/\Q v H
noncomputable def tC (v:V):TE:=λ_ H Q=>Q v H
theorem ZmO {i:Nat}{x:Str}{pos:Pos}(hN:X.N[i]?=some x)(hv:BP X.env.scope x)(hd:(x==("__debug__" : Str))=false:=by decide)(hcd:(x==("__classdict__" : Str))=false:=by decide):PE X (.Name x pos) (YB i):=by
 intro jC s σ H Q I h;obtain⟨v,e,h⟩:=h;obtain⟨m,hn,hl⟩:=I.loc;obtain⟨u,r,l⟩:=hl i x v hN e hv;have fin:EP X jC σ Q u s:=⟨v,H,I,r,h⟩;rcases l with⟨hk,hm⟩ | ⟨hk,c,hc,hcell⟩
 ·exact wpAny_Name (wpAny_loadName_local I.ok.kind hk hn hm fin) hd
 ·rcases hk with hk | hk
  ·exact wpAny_Name (wpAny_loadName_cell I.ok.kind hk hc hcell fin) hd
  ·exact wpAny_Name (wpAny_loadName_free I.ok.kind hk hc hcell fin hcd) hd
theorem Xh {i j pos}:PE X (.Constant (.int i) j pos) (tC (.int i)):=λ_ _ _ H _ I h=>wpAny_Constant_int ⟨.int i,H,I.tok _,⟨_,rfl⟩,h⟩
theorem Zn1 {b j pos}:PE X (.Constant (.bool b) j pos) (tC (.bl b)):=λ_ _ _ H _ I h=>Constant_bool ⟨.bl b,H,I,rfl,h⟩
noncomputable def Gl (X:Cx)(x:Str):Prop:=X.env.kindOf x=some .globalImplicit
theorem Zhi {E:xD}{jC:Qb}{s:Shared}{σ:St}{H:Hp}{x:Str}{u:Value}{pos:Pos}{Q:xD}(I:Inv X jC σ H s)(hg:Gl X x)(hm:X.mg x=some u)(h:Q u s)
  (hd:(x==("__debug__" : Str))=false:=by decide):xf (xz X.prog X.w) X.A (eval (.Name x pos) X.env) Q E s:=
 qbM I.ok.kind hg (Calls.loadGlobal_global (by rw[I.ok.glob];exact I.mod.glob.keeps I.bk) hm h) hd
theorem Jc {E:xD}{jC:Qb}{s:Shared}{σ:St}{H:Hp}{x:Str}{u:Value}{pos:Pos}{Q:xD}(I:Inv X jC σ H s)(hg:Gl X x)(hm:X.mg x=none)(hv:xj x=some u)(h:Q u s)
  (hn:x≠"__name__":=by decide) (hd:(x==("__debug__" : Str))=false:=by decide):xf (xz X.prog X.w) X.A (eval (.Name x pos) X.env) Q E s:=by
 obtain⟨mb,h1,h2⟩:=I.mod.blt;exact qbM I.ok.kind hg (Calls.loadGlobal_builtin (by rw[I.ok.glob];exact I.mod.glob.keeps I.bk) hm (by rw[I.ok.blt];exact h1.keeps I.bk) ((h2 x hn).trans hv) h) hd
theorem Zk9 {x:Str}{v:V}{u:Value}{pos:Pos}(hg:Gl X x)(hm:X.mg x=none)(hv:xj x=some u)(r:ZJ v u)(hn:x≠"__name__":=by decide)(hd:(x==("__debug__" : Str))=false:=by decide):PE X (.Name x pos) (tC v):=
 λ_ _ _ H _ I h=>Jc I hg hm hv ⟨v,H,I,r,h⟩ hn hd
variable {a b:Expr}{ta tb:TE}{pos:Pos}
noncomputable def tB (t:TE):TT:=fun σ H Q=>t σ H λx H1=>∃c,x=.bl c/\Q c H1
theorem ZmP {e:Expr}{t:TE}(h:PE X e t)(he:∀whole,isTrue e X.env whole=(do let v<-whole;standAt e.pos;holding [v] (truthy v)):=by intro _;rfl):PT X e (tB t):=by
 intro jC s σ H Q I hw;refine isTrue_plain (ZK (h jC s σ H _ I hw) λv s1 ⟨x,H1,I1,r1,q1⟩=>?_) (he _);obtain⟨d,rfl,q⟩:=q1
 cases r1
 exact wpAny_truthy_bool ⟨H1,I1,q⟩
variable {tA tB':TT}{rest:List Expr}
noncomputable def tAnd (t u:TT):TT:=fun σ H Q=>t σ H λc H1=>if c=true then u σ H1 Q else Q false H1
noncomputable def tOr (t u:TT):TT:=fun σ H Q=>t σ H λc H1=>if c=true then Q true H1 else u σ H1 Q
noncomputable def tNot (t:TT):TT:=fun σ H Q=>t σ H λc H1=>Q (!c) H1
theorem Zla (ha:PT X a tA):PW X (.BoolOp .And [a] pos) tA:=by
 intro wh jC s σ H Q I h;refine isTrue_and (ZK (ha jC s σ H Q I h) λc s1 e=>?_)
 cases c with
 | true=>exact isTrue_and_nil e
 | false=>exact e
theorem ZmQ (ha:PT X a tA):PW X (.BoolOp .Or [a] pos) tA:=by
 intro wh jC s σ H Q I h;refine isTrue_or (ZK (ha jC s σ H Q I h) λc s1 e=>?_)
 cases c with
 | false=>exact isTrue_or_nil e
 | true=>exact e
theorem ZmR (ha:PT X a tA)(hb:PW X (.BoolOp .And (b::rest) pos) tB'):PW X (.BoolOp .And (a::b::rest) pos) (tAnd tA tB'):=by
 intro wh jC s σ H Q I h;refine isTrue_and (ZK (ha jC s σ H _ I h) λc s1 ⟨H1,I1,q1⟩=>?_)
 cases c with
 | true=>exact hb wh jC s1 σ H1 Q I1 q1
 | false=>exact⟨H1,I1,q1⟩
theorem Zn2 (ha:PT X a tA)(hb:PW X (.BoolOp .Or (b::rest) pos) tB'):PW X (.BoolOp .Or (a::b::rest) pos) (tOr tA tB'):=by
 intro wh jC s σ H Q I h;refine isTrue_or (ZK (ha jC s σ H _ I h) λc s1 ⟨H1,I1,q1⟩=>?_)
 cases c with
 | true=>exact⟨H1,I1,q1⟩
 | false=>exact hb wh jC s1 σ H1 Q I1 q1
theorem ZmS (ha:PT X a tA):PT X (.UnaryOp .Not a pos) (tNot tA):=by
 intro jC s σ H Q I h;exact isTrue_not (ha jC s σ H (λc H1=>Q (!c) H1) I h)
noncomputable def Zn3 (ta tb:TE):TE:=fun σ H Q=>ta σ H λx H1=>∃c,x=.bl c/\if c=true then tb σ H1 Q else Q (.bl false) H1
noncomputable def tOrV (ta tb:TE):TE:=fun σ H Q=>ta σ H λx H1=>∃c,x=.bl c/\if c=true then Q (.bl true) H1 else tb σ H1 Q
noncomputable def Zn4 (ta:TE):TE:=fun σ H Q=>ta σ H λx H1=>∃c,x=.bl c/\Q (.bl (!c)) H1
theorem ZmT {op}{t:TE}(h:PE X a t):PE X (.BoolOp op [a] pos) t:=λjC s σ H Q I hw=>BoolOp_one (h jC s σ H Q I hw)
theorem ZmU (ha:PE X a ta)(hb:PE X (.BoolOp .And (b::rest) pos) tb):PE X (.BoolOp .And (a::b::rest) pos) (Zn3 ta tb):=by
 intro jC s σ H Q I h;refine BoolOp_and (ZK (ha jC s σ H _ I h) λv s1 ⟨x,H1,I1,r1,q1⟩=>?_);obtain⟨c,rfl,q1⟩:=q1
 cases r1
 refine wpAny_truthy_bool ?_
 cases c with
 | true=>exact hb jC s1 σ H1 Q I1 q1
 | false=>exact⟨.bl false,H1,I1,rfl,q1⟩
theorem Zn5 (ha:PE X a ta)(hb:PE X (.BoolOp .Or (b::rest) pos) tb):PE X (.BoolOp .Or (a::b::rest) pos) (tOrV ta tb):=by
 intro jC s σ H Q I h;refine BoolOp_or (ZK (ha jC s σ H _ I h) λv s1 ⟨x,H1,I1,r1,q1⟩=>?_);obtain⟨c,rfl,q1⟩:=q1
 cases r1
 refine wpAny_truthy_bool ?_
 cases c with
 | false=>exact hb jC s1 σ H1 Q I1 q1
 | true=>exact⟨.bl true,H1,I1,rfl,q1⟩
theorem ZmV (ha:PE X a ta):PE X (.UnaryOp .Not a pos) (Zn4 ta):=by
 intro jC s σ H Q I h;refine UnaryOp_ (ZK (ha jC s σ H _ I h) λv s1 ⟨x,H1,I1,r1,q1⟩=>?_);obtain⟨c,rfl,q1⟩:=q1
 cases r1
 exact not_of (wpAny_truthy_bool ⟨.bl (!c),H1,I1,rfl,q1⟩)
noncomputable def tIf (t:TT)(ta tb:TE):TE:=fun σ H Q=>t σ H λc H1=>if c=true then ta σ H1 Q else tb σ H1 Q
theorem Zjd {c:Expr}(hc:PT X c tA)(ha:PE X a ta)(hb:PE X b tb):PE X (.IfExp c a b pos) (tIf tA ta tb):=by
 intro jC s σ H Q I h;refine wpAny_IfExp (ZK (hc jC s σ H _ I h) λd s1 ⟨H1,I1,q1⟩=>?_)
 cases d with
 | true=>exact ha jC s1 σ H1 Q I1 q1
 | false=>exact hb jC s1 σ H1 Q I1 q1
end
noncomputable def ZE (K:qm)(H:Hp)(a:Addr)(xs:List V):Prop:=
 Rd H a (.lst xs)∨
  ∃(o:Obj) (jH:Array Value) (n:Nat),K.lookup a=some o/\o.cls=.type "list"/\o.dict=none/\o.data=.seq jH n/\jH.size<=xg/\ZB xs jH.toList
noncomputable def ZI (K:qm)(H:Hp)(a:Addr)(xs:List V):Prop:=
 Rd H a (.tup xs)∨
  ∃(o:Obj) (jH:Array Value) (n:Nat),K.lookup a=some o/\o.cls=.type "tuple"/\o.data=.seq jH n/\jH.size<=xg/\ZB xs jH.toList
noncomputable def absV:Value->Option V
 | .none=>some .non
 | .bool b=>some (.bl b)
 | .int i _=>some (.int i)
 | .str x _=>some (.str x)
 | .bytes b _=>some (.byt b)
 | .float b _=>some (.flt b)
 | .ref a=>some (.ref a)
 | .type n=>some (.ty n)
 | _=>none
theorem ZJ.abs {x:V}{u:Value}(r:ZJ x u):absV u=some x:=by
 cases x with
 | non=>cases r;rfl
 | bl _=>cases r;rfl
 | int _=>obtain⟨t,rfl⟩:=r;rfl
 | str _=>obtain⟨t,rfl⟩:=r;rfl
 | byt _=>obtain⟨t,rfl⟩:=r;rfl
 | flt _=>obtain⟨t,rfl⟩:=r;rfl
 | ref _=>cases r;rfl
 | ty _=>cases r;rfl
theorem ZJ.inj {x y:V}{u:Value}(r:ZJ x u)(q:ZJ y u):x=y:=zy (r.abs.symm.trans q.abs)
theorem ZB.inj:∀{xs ys:List V} {us:List Value},ZB xs us->ZB ys us->xs=ys
 | _,_,_,.nil,.nil=>rfl
 | _,_,_,.cons r t,.cons r' t'=>by rw[r.inj r',ZB.inj t t']
section
variable {X:Cx}{jC:Qb}{σ:St}{H:Hp}{s:Shared}{a:Addr}{xs ys:List V}
theorem ZE.of {K:qm}(h:H a=some (.lst xs)):ZE K H a xs:=.inl (.inl h)
theorem ZI.of {K:qm}(h:H a=some (.tup xs)):ZI K H a xs:=.inl (.inl h)
theorem Inv.list (I:Inv X jC σ H s)(h:ZE X.K H a xs):∃jH:List Value,ZB xs jH/\PlainL s.heap a jH.toArray/\xs.length<=xg:=by
 rcases h with h | ⟨o,jH,n,hk,hc,hd,hs,hz,r⟩
 ·obtain⟨z,jH,n,r,e⟩:=h.ok I.hok
  exact⟨jH,r,⟨_,n,e,rfl,rfl,rfl⟩,z⟩
 ·refine⟨jH.toList,r,⟨o,n,I.kIn a o hk,hc,hd,by simpa using hs⟩,?_⟩
  have e:=r.length;simp only[qy]at e;omega
theorem Inv.tuple (I:Inv X jC σ H s)(h:ZI X.K H a xs):∃jH:List Value,ZB xs jH/\IsTup s.heap a jH.toArray/\xs.length<=xg:=by
 rcases h with h | ⟨o,jH,n,hk,hc,hs,hz,r⟩
 ·obtain⟨z,jH,r,p⟩:=h.ok I.hok
  exact⟨jH,r,p,z⟩
 ·refine⟨jH.toList,r,⟨o,I.kIn a o hk,hc,n,by simpa using hs⟩,?_⟩
  have e:=r.length;simp only[qy]at e;omega
theorem Inv.list_inj (I:Inv X jC σ H s)(h:ZE X.K H a xs)(h':ZE X.K H a ys):xs=ys:=by
 obtain⟨jH,r,⟨o,n,e,_,_,d⟩,_⟩:=I.list h;obtain⟨its',r',⟨o',n',e',_,_,d'⟩,_⟩:=I.list h';rw[e]at e';cases e';rw[d]at d';injection d' with d1 _;have:jH=its':=by simpa using congrArg qcT d1
 subst this;exact r.inj r'
theorem Inv.tuple_inj (I:Inv X jC σ H s)(h:ZI X.K H a xs)(h':ZI X.K H a ys):xs=ys:=by
 obtain⟨jH,r,⟨o,e,_,n,d⟩,_⟩:=I.tuple h;obtain⟨its',r',⟨o',e',_,n',d'⟩,_⟩:=I.tuple h';rw[e]at e';cases e';rw[d]at d';injection d' with d1 _;have:jH=its':=by simpa using congrArg qcT d1
 subst this;exact r.inj r'
end
noncomputable abbrev Cx.wish (X:Cx)(E:xD):Cx:={ X with xe:=E }
noncomputable abbrev Cx.nox (X:Cx):Cx:=X.wish λ_ _=>False
theorem Cx.Ok.wish {X:Cx}(ok:X.Ok)(E:xD):(X.wish E).Ok:=
 ⟨ok.mod,ok.kind,ok.glob,ok.blt,ok.above,ok.inj,ok.has,ok.cab,ok.hd,ok.frames,ok.stk,ok.exf,ok.bs,ok.bsz,ok.noex,ok.exfs,ok.funs,ok.frf⟩
theorem Cx.Ok.unwish {X:Cx}{E:xD}(ok:(X.wish E).Ok):X.Ok:=
 ⟨ok.mod,ok.kind,ok.glob,ok.blt,ok.above,ok.inj,ok.has,ok.cab,ok.hd,ok.frames,ok.stk,ok.exf,ok.bs,ok.bsz,ok.noex,ok.exfs,ok.funs,ok.frf⟩
section
variable {X:Cx}{jC:Qb}{σ:St}{H:Hp}{s:Shared}{E:xD}
theorem Inv.wish (I:Inv X jC σ H s)(E:xD):Inv (X.wish E) jC σ H s:=⟨I.ok.wish E,I.os,I.bare,I.base,I.loc,I.cell,I.free,I.freeC,I.pin,I.hok,I.len⟩
theorem Inv.unwish (I:Inv (X.wish E) jC σ H s):Inv X jC σ H s:=⟨I.ok.unwish,I.os,I.bare,I.base,I.loc,I.cell,I.free,I.freeC,I.pin,I.hok,I.len⟩
theorem SP.unwish {D:Ends}{f:Flow}{s':Shared}(h:SP (X.wish E) jC D f s'):SP X jC D f s':=by
 cases f with
 | next=>obtain⟨σ',H',I,q⟩:=h;exact⟨σ',H',I.unwish,q⟩
 | brk=>obtain⟨σ',H',I,q⟩:=h;exact⟨σ',H',I.unwish,q⟩
 | cont=>obtain⟨σ',H',I,q⟩:=h;exact⟨σ',H',I.unwish,q⟩
 | ret u=>obtain⟨v,σ',H',I,r,q⟩:=h;exact⟨v,σ',H',I.unwish,r,q⟩
theorem PE.nox {e:Expr}{t:TE}(h:PE X.nox e t):PE X e t:=λjC s σ H Q I hw=>
 xc (h jC s σ H Q (I.wish _) hw) (λ_ _ ⟨v,H',I',r,q⟩=>⟨v,H',I'.unwish,r,q⟩) λ_ _ z=>yC z
theorem Wj.nox {st:List Stmt}{t:TS}(h:Wj X.nox st t):Wj X st t:=λjC s σ H D I hw=>
 xc (h jC s σ H D (I.wish _) hw) (λ_ _ q=>q.unwish) λ_ _ z=>yC z
end
section
variable {X:Cx}{st:Stmt}{rest:List Stmt}{t u:TS}{e:Expr}{te:TE}{pos:Pos}
noncomputable def Zn6:TS:=λD σ H=>D.nx σ H
noncomputable def Jw (t u:TS):TS:=λD σ H=>t { D with nx:=u D } σ H
theorem Zef:Wj X [] Zn6:=λ_ _ σ H _ I h=>wpAny_execs_nil ⟨σ,H,I,h⟩
theorem VA (h1:PS X st t)(h2:Wj X rest u):Wj X (st::rest) (Jw t u):=by
 intro jC s σ H D I h;refine wpAny_execs_cons (ZK (h1 jC s σ H { D with nx:=u D } I h) λf s1 q=>?_)
 cases f with
 | next=>
  obtain⟨σ',H',I',q⟩:=q;exact h2 jC s1 σ' H' D I' q
 | ret v=>exact q
 | brk=>exact q
 | cont=>exact q
theorem Bc (h1:PS X st t):Wj X [st] t:=by
 intro jC s σ H D I h;refine wpAny_execs_cons (ZK (h1 jC s σ H D I h) λf s1 q=>?_)
 cases f with
 | next=>exact wpAny_execs_nil q
 | ret v=>exact q
 | brk=>exact q
 | cont=>exact q
theorem Inv.quiet {jC:Qb}{σ:St}{H:Hp}{s:Shared}(I:Inv X jC σ H s):interactive X.env=false:=by simp[interactive,I.ok.kind]
noncomputable def UB (te:TE):TS:=λD σ H=>te σ H λ_ H1=>D.nx σ H1
theorem Zhj (he:PE X e te)(hs:xr e none pos.line X.env=pure false:=by rfl):PS X (.Expr e pos) (UB te):=by
 intro jC s σ H D I h;exact wpAny_Expr_any (ZK (he jC s σ H _ I h) λv s1 ⟨x,H1,I1,r1,q1⟩=>⟨σ,H1,I1,q1⟩) I.quiet hs
noncomputable def tRet (te:TE):TS:=λD σ H=>te σ H D.rt
theorem Zgd (he:PE X e te):PS X (.Return (some e) pos) (tRet te):=by
 intro jC s σ H D I h;exact wpAny_Return_some (ZK (he jC s σ H _ I h) λv s1 ⟨x,H1,I1,r1,q1⟩=>⟨x,σ,H1,I1,r1,q1⟩)
noncomputable def tIfS (c:TT)(t u:TS):TS:=λD σ H=>c σ H λb H1=>if b=true then t D σ H1 else u D σ H1
theorem Zhk {c:Expr}{a b:List Stmt}{tc:TT}(hc:PT X c tc)(ha:Wj X a t)(hb:Wj X b u):PS X (.If c a b pos) (tIfS tc t u):=by
 intro jC s σ H D I h;refine wpAny_If (ZK (hc jC s σ H _ I h) λd s1 ⟨H1,I1,q1⟩=>?_)
 cases d with
 | true=>exact ha jC s1 σ H1 D I1 q1
 | false=>exact hb jC s1 σ H1 D I1 q1
end
noncomputable abbrev TG:=V->St->Hp->(St->Hp->Prop)->Prop
noncomputable abbrev UP:=List V->St->Hp->(St->Hp->Prop)->Prop
noncomputable def PG (X:Cx)(target:Expr)(t:TG):Prop:=
 ∀(jC:Qb) (s:Shared) (σ:St) (H:Hp) (v:V) (u:Value) (Q:St->Hp->Prop),Inv X jC σ H s->ZJ v u->t v σ H Q->
  xf (xz X.prog X.w) X.A (assign target X.env u) (λ_ s'=>∃σ' H',Inv X jC σ' H' s'/\Q σ' H') X.xe s
noncomputable def UQ (X:Cx)(ts:List Expr)(t:UP):Prop:=
 ∀(jC:Qb) (s:Shared) (σ:St) (H:Hp) (vs:List V) (us:List Value) (Q:St->Hp->Prop),Inv X jC σ H s->ZB vs us->t vs σ H Q->
  xf (xz X.prog X.w) X.A (assignInOrder ((assignEach ts X.env).map (·.2)) us) (λ_ s'=>∃σ' H',Inv X jC σ' H' s'/\Q σ' H') X.xe s
noncomputable abbrev TSet:=V->V->V->Hp->(Hp->Prop)->Prop
noncomputable def PSet (X:Cx)(t:TSet):Prop:=
 ∀(jC:Qb) (s:Shared) (σ:St) (H:Hp) (o i v:V) (ov iv u:Value) (Q:Hp->Prop),Inv X jC σ H s->ZJ o ov->ZJ i iv->ZJ v u->t o i v H Q->
  xf (xz X.prog X.w) X.A (setItem ov iv u) (λ_ s'=>∃H',Inv X jC σ H' s'/\Q H') X.xe s
section
variable {X:Cx}{pos:Pos}
noncomputable def Wu (i:Nat):TG:=λv σ H Q=>Q (σ.set i (some v)) H
theorem Xx {i:Nat}{x:Str}(hN:X.N.Nodup)(hi:X.N[i]?=some x)(hx:Vf X.env.scope x)(hf:X.fn x=true∨X.env.scope.names.lookup x=some .local:=by first | exact .inl rfl | exact .inr rfl | assumption):PG X (.Name x pos) (Wu i):=by
 intro jC s σ H v u Q I r h;exact wpAny_assign_Name (Zbe I hN hi hx r (λs' I'=>⟨_,H,I',h⟩) hf)
noncomputable def gNil:UP:=λvs σ H Q=>vs=[]/\Q σ H
noncomputable def Vo (t:TG)(u:UP):UP:=λvs σ H Q=>∃v r,vs=v::r/\t v σ H fun σ' H'=>u r σ' H' Q
theorem U6:UQ X [] gNil:=by
 intro jC s σ H vs us Q I r h;obtain⟨e,h⟩:=h;subst e
 cases r
 exact assignInOrder_nil ⟨σ,H,I,h⟩
theorem XW {e:Expr}{es:List Expr}{t:TG}{u:UP}(h1:PG X e t)(h2:UQ X es u)
  (hs:(assignEach (e::es) X.env).map (·.2)=assign e X.env::(assignEach es X.env).map (·.2):=by rfl):UQ X (e::es) (Vo t u):=by
 intro jC s σ H vs us Q I r h;obtain⟨v,vr,e1,h⟩:=h;subst e1
 cases r with
 | cons r rr=>
  rw[hs];refine assignInOrder_cons (ZK (h1 jC s σ H _ _ _ I r h) λ_ s1 ⟨σ1,H1,I1,q1⟩=>?_);exact h2 jC s1 σ1 H1 _ _ Q I1 rr q1
noncomputable def gTup (K:qm)(n:Nat)(t:UP):TG:=λv σ H Q=>∃a xs,v=.ref a/\ZI K H a xs/\xs.length=n/\t xs σ H Q
theorem Zge {es:List Expr}{k:Nat}{t:UP}{n:Nat}(hc:X.calm=true)(h:UQ X es t)
  (hn:(assignEach es X.env).length=n:=by rfl) (hst:(assignEach es X.env).findIdx? (·.1)=none:=by rfl):PG X (.Tuple es k pos) (gTup X.K n t):=by
 intro jC s σ H v u Q I r hw;obtain⟨a,xs,e1,hq,hl,hw⟩:=hw;subst e1
 cases r
 obtain⟨jH,rv,ht,hz⟩:=I.tuple hq;refine assign_Tuple_tuple (I.ok.hd hc) ht (by simp[hn,<-hl,rv.length]) hst λh' hx=>?_;have I1:Inv X jC σ H { s with heap:=h' }:=I.kept (t':=s.toks) λb o e=>hx b o (qS (qK e)) e;exact h jC _ σ H xs _ Q I1 (by simpa using rv) hw
noncomputable def BG (to ti:TE)(t:TSet):TG:=λv σ H Q=>to σ H λo H1=>ti σ H1 λi H2=>t o i v H2 λH3=>Q σ H3
theorem Zgf {o i:Expr}{to ti:TE}{t:TSet}(ho:PE X o to)(hi:PE X i ti)(hs:PSet X t)
  (ha:∀v,assign (.Subscript o i pos) X.env v=(do
   let ov<-holding [v] (eval o X.env)
   let iv<-holding [v,ov] (eval i X.env)
   standAt pos
   holding [v,ov,iv] (setItem ov iv v)
   release [v,ov,iv] []):=by intro _;rfl):PG X (.Subscript o i pos) (BG to ti t):=by
 intro jC s σ H v u Q I r h;rw[ha];refine xa (xu (ZK (ho jC s σ H _ I h) λov s1 ⟨x,H1,I1,r1,q1⟩=>?_));refine xa (xu (ZK (hi jC s1 σ H1 _ I1 q1) λiv s2 ⟨y,H2,I2,r2,q2⟩=>?_));refine xa (wpAny_standAt (xa (xu (ZK (hs jC s2 σ H2 x y v ov iv u _ I2 r1 r2 r q2) λ_ s3 ⟨H3,I3,q3⟩=>?_))));exact wpAny_release ⟨σ,H3,I3,q3⟩
noncomputable def V9 (te:TE)(g:TG):TS:=λD σ H=>te σ H λx H1=>g x σ H1 D.nx
theorem Zeg {tg e:Expr}{te:TE}{g:TG}(he:PE X e te)(hg:PG X tg g)(hs:swapsWithSole [tg] e pos.line X.env=pure false:=by rfl)(hw:swappedStores [tg] e X.env=pure none:=by rfl)
  (h1:(assignEach [tg] X.env).map (·.2)=[assign tg X.env]:=by rfl):PS X (.Assign [tg] e pos) (V9 te g):=by
 intro jC s σ H D I h;refine wpAny_Assign_stores (ZK (he jC s σ H _ I h) λv s1 ⟨x,H1,I1,r1,q1⟩=>?_) hs hw;rw[h1];exact ZK (hg jC s1 σ H1 x v _ I1 r1 q1) λ_ s2 q=>q
theorem UA {i:Nat}{x:Str}{e:Expr}{te:TE}{pos':Pos}(hN:X.N.Nodup)(hi:X.N[i]?=some x)(hx:Vf X.env.scope x)(he:PE X e te)(hs:xr e (some (.Name x pos')) pos.line X.env=pure false:=by rfl)(hf:X.fn x=true∨X.env.scope.names.lookup x=some .local:=by first | exact .inl rfl | exact .inr rfl | assumption) :
  PS X (.Assign [.Name x pos'] e pos) (V9 te (Wu i)):=by
 intro jC s σ H D I h;refine wpAny_Assign_Name (ZK (he jC s σ H _ I h) λv s1 ⟨y,H1,I1,r1,q1⟩=>?_) hs;exact Zbe I1 hN hi hx r1 (λs2 I2=>⟨_,H1,I2,q1⟩) hf
noncomputable def tPar (i j:Nat)(ta:TA):TS:=λD σ H=>ta σ H λvs H1=>∃v w,vs=[v,w]/\D.nx ((σ.set i (some v)).set j (some w)) H1
theorem ZmW {i j:Nat}{x y:Str}{a b:Expr}{ta:TA}{px py pt:Pos}{kt k2 pt2}(hc:X.calm=true)(hN:X.N.Nodup)(hi:X.N[i]?=some x)(hj:X.N[j]?=some y)(hij:i≠j)
  (hx:X.env.scope.names.lookup x=some .local) (hy:X.env.scope.names.lookup y=some .local) (ha:PA X [a,b] ta)
  (hw:swappedStores [.Tuple [.Name x px,.Name y py] kt pt] (.Tuple [a,b] k2 pt2) X.env=pure (some [x,y]))
  (hs:swapsWithSole [.Tuple [.Name x px,.Name y py] kt pt] (.Tuple [a,b] k2 pt2) pos.line X.env=pure false:=by rfl) :
  PS X (.Assign [.Tuple [.Name x px,.Name y py] kt pt] (.Tuple [a,b] k2 pt2) pos) (tPar i j ta):=by
 intro jC s σ H D I h;rw[exec_Assign_arm];refine xa (wpAny_standAt ?_);rw[hs];refine xa (xb ?_);rw[if_neg (by decide)];refine xa (Tuple_ (ZK (ha _ jC s σ H _ I h) λus s1 ⟨vs,H1,I1,r1,q1⟩=>?_));obtain⟨v,w,e1,q1⟩:=q1;subst e1;obtain⟨u1,u2,rfl,rv,rw'⟩:∃u1 u2,us=[u1,u2]/\ZJ v u1/\ZJ w u2:=by
  cases r1 with
  | cons p q=>
   cases q with
   | cons p' q'=>
    cases q'
    exact⟨_,_,rfl,p,p'⟩
 refine xl ?_ (by show 2<=xg;decide);have I2:Inv X jC σ H1 { s1 with heap:=s1.heap.push { cls:=.type "tuple",data:=.seq [u1,u2].toArray } }:=I1.kept (t':=s1.toks) λb o e=>qf _ e;rw[hw];refine xa (xb ?_);show xf (xz X.prog X.w) X.A (do rule "assign.swapped-stores";let items<-unpackItems (.ref s1.heap.objs.size) 2 none;assignInOrder [λv=>bindName X.env y v,λv=>bindName X.env x v] items.reverse;pure Flow.next) _ _ _;refine xa (wpAny_rule (xa (unpackItems_tuple (items:=#[u1,u2]) (I.ok.hd hc) (qcj s1.heap _) λh' hx'=>?_)));have I3:=I2.kept (h':=h') (t':=s1.toks) λb o e=>hx' b o (qS (qK e)) e;show xf _ _ (assignInOrder [λv=>bindName X.env y v,λv=>bindName X.env x v] [u2,u1] >>= λ_=>pure Flow.next) _ _ _;refine xa (assignInOrder_cons (wpAny_bindName (Zbe I3 hN hj (.inl hy) rw' (λs2 I4=>?_) (.inr hy))));refine assignInOrder_cons (wpAny_bindName (Zbe I4 hN hi (.inl hx) rv (λs3 I5=>assignInOrder_nil (xb ?_)) (.inr hx)));rw[List.set_comm _ _ (zO hij)]at I5;exact⟨_,H1,I5,q1⟩
end
section
variable {X:Cx}{pos:Pos}
end
structure It where
 go:Nat->Hp->Prop
 yld:Nat->Hp->V->Hp->Prop
 stop:Nat->Hp->Prop
noncomputable def Ww (X:Cx)(jC:Qb)(H:Hp)(b:Addr):Prop:=
 H b=none/\b≠X.env.locals/\b∉X.fs/\(b∈X.ex∨X.s₀.heap.objs.size<=b)/\(∀x c,X.env.cells.lookup x=some c->c≠b)/\∀p∈X.pn++jC,p.1≠b
theorem Inv.fpOk {X:Cx}{jC:Qb}{σ:St}{H H':Hp}{s:Shared}{b:Addr}(I:Inv X jC σ H s)(hb:s.heap.objs.size<=b)(hn:H' b=none):Ww X jC H' b:=by
 refine⟨hn,qbx (zg I.lt hb),I.nofs hb,.inr (zb I.sz hb),λx c e z=>?_,λp hp z=>?_⟩
 ·obtain⟨v,q⟩:=I.cell x c e
  exact absurd (zg q.lt (by rw[z];exact hb)) (yB _)
 ·exact absurd (zg (qK (I.pin p hp).1) (by rw[z];exact hb)) (yB _)
structure Turn (P:xB)(w:World)(K:qm)(tg:Expr)(J:It)(fp:List Addr)(it:Addr)(tn:Nat->Heap->Prop):Prop where
 mem:it∈fp
 obj:∀i h,tn i h->∀b∈fp,∃o,h.get? b=some o/\∀v,o.data≠.cell v
 keep:∀i h h',tn i h->(∀b∈fp,∀o,h.get? b=some o->h'.get? b=some o)->tn i h'
 item:∀(X:Cx),X.prog=P->X.w=w->X.K=K->X.calm=true->∀(i:Nat) (jC:Qb) (s:Shared) (σ:St) (H:Hp) (E:xD),Inv X jC σ H s->(∀b∈fp,Ww X jC H b)->tn i s.heap->J.go i H->
  xf (xz P w) X.A (pyNext (.ref it)) (λr s1=>∃u,r=some u/\
   xf (xz P w) X.A (letOwnedTupleGo tg (.ref it) u) (λ_ s2=>∃x H',Inv X jC σ H' s2/\ZJ x u/\J.yld i H x H'/\tn (i+1) s2.heap/\∀b∈fp,H' b=none) E s1) E s
 done:∀(X:Cx),X.prog=P->X.w=w->X.K=K->X.calm=true->∀(i:Nat) (jC:Qb) (s:Shared) (σ:St) (H:Hp) (E:xD),Inv X jC σ H s->(∀b∈fp,Ww X jC H b)->tn i s.heap->J.stop i H->
  xf (xz P w) X.A (pyNext (.ref it)) (λr s1=>r=none/\Inv X jC σ H s1) E s
 self:∀(A:xC) (i:Nat) (s:Shared) (Q:xD) (E:xD),tn i s.heap->Q (.ref it) s->xf (xz P w) A (pyIter (.ref it)) Q E s
noncomputable abbrev TI:=St->Hp->(It->Hp->Prop)->Prop
noncomputable def PIE (X:Cx)(jC:Qb)(σ:St)(tg:Expr)(R:It->Hp->Prop)(itv:Value)(s2:Shared):Prop:=
 ∃(it:Addr) (fp:List Addr) (tn:Nat->Heap->Prop) (J:It) (H':Hp),itv=.ref it/\Inv X jC σ H' s2/\Turn X.prog X.w X.K tg J fp it tn/\tn 0 s2.heap/\(∀b∈fp,Ww X jC H' b)/\R J H'
noncomputable def PI (X:Cx)(tg iter:Expr)(wi:TI):Prop:=
 ∀(jC:Qb) (s:Shared) (σ:St) (H:Hp) (R:It->Hp->Prop),Inv X jC σ H s->wi σ H R->
  xf (xz X.prog X.w) X.A (eval iter X.env) (λv s1=>xf (xz X.prog X.w) X.A (pyIter v) (PIE X jC σ tg R) X.xe s1) X.xe s
theorem Zje {M : Model}{A : xC}{E : Value -> Shared -> Prop}{s : Shared}{tg : Expr}{it : Addr}{u : Value}{o : Obj}{n : String}{vs : Array Value}{Q : Unit -> Shared -> Prop}(ho : s.heap.get? it = some o)(hc : o.cls = .type n)(hd : o.data = .fields vs)
    (hn : ["enumerate", "zip", "dict_itemiterator", "dict_reverseitemiterator", "odict_iterator", "itertools.zip_longest", "itertools.pairwise"].contains n = false) (hQ : Q () s) : xf M A (letOwnedTupleGo tg (.ref it) u) Q E s := by
  unfold letOwnedTupleGo
  cases tg <;> first
    | exact xb hQ
    | (cases u <;> first
        | exact xb hQ
        | (refine xa (wpAny_load ho ?_)
           rw[hc, hd];show xf M A (if (["enumerate", "zip", "dict_itemiterator", "dict_reverseitemiterator", "odict_iterator", "itertools.zip_longest", "itertools.pairwise"].contains n && vs[0]? == some (rawInt _)) = true then _ else _) Q E s;rw[if_neg (by intro h; rw[hn, Bool.false_and] at h; cases h)];exact xb hQ))
noncomputable def Itl (K:qm)(a:Addr):It:=
 ⟨λi H=>∃xs x,ZE K H a xs/\xs[i]?=some x,λi H x H'=>H'=H/\∀xs,ZE K H a xs->xs[i]?=some x,λi H=>∃xs,ZE K H a xs/\xs.length<=i⟩
noncomputable def Itt (K:qm)(a:Addr):It:=
 ⟨λi H=>∃xs x,ZI K H a xs/\xs[i]?=some x,λi H x H'=>H'=H/\∀xs,ZI K H a xs->xs[i]?=some x,λi H=>∃xs,ZI K H a xs/\xs.length<=i⟩
noncomputable def BQ (lo:Int)(n:Nat):It:=⟨λi _=>i<n,λi H x H'=>H'=H/\x=.int (lo+i),λi _=>n<=i⟩
theorem Zh2 {P:xB}{w:World}{K:qm}{tg:Expr}(a it:Addr):Turn P w K tg (Itl K a) [it] it (λi h=>h.IsListIter it a i) where
 mem:=by simp
 obj:=λi h st b hb=>by
  have e:b=it:=by simpa using hb
  subst e;obtain⟨o,e,c,d⟩:=st;exact⟨o,e,λv z=>by rw[d]at z;cases z⟩
 keep:=λi h h' st k=>st.at λo e=>k it (by simp) o e
 item:=by
  intro X hP hw hK hc i jC s σ H E I hf st hg;subst hP hw hK;obtain⟨xs,x,hq,hx⟩:=hg;obtain⟨jH,rv,p,hz⟩:=I.list hq;obtain⟨u,hu,ru⟩:=rv.get hx;obtain⟨f0,f1,f2,f3,f4,f5⟩:=hf it (by simp);refine wpAny_pyNext_list_item st p.isList (x:=u) (by simpa using hu) λh' st' sb=>?_;have I1:Inv X jC σ H { s with heap:=h' }:=I.turned (t':=s.toks) (λb o hb e=>(sb.2 b hb).trans e) f0 f1 f3 f4 f5;obtain⟨o,e,c,d⟩:=id st';exact⟨u,rfl,Zje (s:={ s with heap:=h' }) e c d (by decide) ⟨x,H,I1,ru,⟨rfl,λys hy=>by rw[I.list_inj hy hq];exact hx⟩,st',λb hb=>(hf b hb).1⟩⟩
 done:=by
  intro X hP hw hK hc i jC s σ H E I hf st hg;subst hP hw hK;obtain⟨xs,hq,hx⟩:=hg;obtain⟨jH,rv,p,hz⟩:=I.list hq;obtain⟨f0,f1,f2,f3,f4,f5⟩:=hf it (by simp);have hl:=rv.length;exact wpAny_pyNext_list_end (I.ok.hd hc) st p.isList (by simp;omega) λh' eb=>⟨rfl,I.turned (t':=s.toks) (λb o hb e=>eb b o hb e) f0 f1 f3 f4 f5⟩
 self:=λ_ _ _ _ _ st h=>wpAny_pyIter_listiter st h
theorem Zgg {P:xB}{w:World}{K:qm}{tg:Expr}(a it:Addr):Turn P w K tg (Itt K a) [it] it (λi h=>h.IsTupleIter it a i) where
 mem:=by simp
 obj:=λi h st b hb=>by
  have e:b=it:=by simpa using hb
  subst e;obtain⟨o,e,c,d⟩:=st;exact⟨o,e,λv z=>by rw[d]at z;cases z⟩
 keep:=λi h h' st k=>st.at λo e=>k it (by simp) o e
 item:=by
  intro X hP hw hK hc i jC s σ H E I hf st hg;subst hP hw hK;obtain⟨xs,x,hq,hx⟩:=hg;obtain⟨jH,rv,p,hz⟩:=I.tuple hq;obtain⟨u,hu,ru⟩:=rv.get hx;obtain⟨f0,f1,f2,f3,f4,f5⟩:=hf it (by simp);refine wpAny_pyNext_tuple_item st (show s.heap.IsTuple a jH.toArray from p) (x:=u) (by simpa using hu) λh' st' sb=>?_;have I1:Inv X jC σ H { s with heap:=h' }:=I.turned (t':=s.toks) (λb o hb e=>(sb.2 b hb).trans e) f0 f1 f3 f4 f5;obtain⟨o,e,c,d⟩:=id st';exact⟨u,rfl,Zje (s:={ s with heap:=h' }) e c d (by decide) ⟨x,H,I1,ru,⟨rfl,λys hy=>by rw[I.tuple_inj hy hq];exact hx⟩,st',λb hb=>(hf b hb).1⟩⟩
 done:=by
  intro X hP hw hK hc i jC s σ H E I hf st hg;subst hP hw hK;obtain⟨xs,hq,hx⟩:=hg;obtain⟨jH,rv,p,hz⟩:=I.tuple hq;obtain⟨f0,f1,f2,f3,f4,f5⟩:=hf it (by simp);have hl:=rv.length;exact wpAny_pyNext_tuple_end (I.ok.hd hc) st (show s.heap.IsTuple a jH.toArray from p) (by simp;omega) λh' eb=>⟨rfl,I.turned (t':=s.toks) (λb o hb e=>eb b o hb e) f0 f1 f3 f4 f5⟩
 self:=λ_ _ _ _ _ st h=>wpAny_pyIter_tupleiter st h
theorem Zgh {P:xB}{w:World}{K:qm}{tg:Expr}(it:Addr)(lo:Int)(n:Nat):Turn P w K tg (BQ lo n) [it] it (λi h=>IsRangeIter h it (lo+(i:Nat)*1) ((n:Int)-(i:Nat)) 1) where
 mem:=by simp
 obj:=λi h st b hb=>by
  have e:b=it:=by simpa using hb
  subst e;exact⟨_,st,λv z=>by
   have z':Data.fields _=Data.cell v:=z
   cases z'⟩
 keep:=λi h h' st k=>k it (by simp) _ st
 item:=by
  intro X hP hw hK hc i jC s σ H E I hf st hg;subst hP hw hK;obtain⟨f0,f1,f2,f3,f4,f5⟩:=hf it (by simp);have W:=Walks.range (prog:=X.prog) (w:=X.w) (I.ok.hd hc) it lo 1 n;refine W.item i s _ _ hg st λv h' tk hv st' kk=>?_;obtain⟨t,rfl⟩:=hv;have I1:Inv X jC σ H { s with heap:=h',toks:=tk }:=I.turned (λb o hb e=>kk b o (by simpa using hb) e) f0 f1 f3 f4 f5;refine⟨_,rfl,Zje (s:={ s with heap:=h',toks:=tk }) (n:="range_iterator") st' rfl rfl (by decide) ⟨.int (lo+i),H,I1,⟨t,?_⟩,⟨rfl,rfl⟩,st',λb hb=>(hf b hb).1⟩⟩;rw[Int.mul_one]
 done:=by
  intro X hP hw hK hc i jC s σ H E I hf st hg;subst hP hw hK;obtain⟨f0,f1,f2,f3,f4,f5⟩:=hf it (by simp);exact wpAny_pyNext_range_end (I.ok.hd hc) st (by have:n<=i:=hg;omega) λh' eb=>⟨rfl,I.turned (t':=s.toks) (λb o hb e=>eb b o hb e) f0 f1 f3 f4 f5⟩
 self:=λ_ _ _ _ _ st h=>wpAny_pyIter_rangeiter st h
section
variable {X:Cx}{tg:Expr}
noncomputable def Zn7 (K:qm)(tl:TE):TI:=fun σ H R=>tl σ H λx H1=>∃a,x=.ref a/\(∃xs,ZE K H1 a xs)/\R (Itl K a) H1
noncomputable def iTup (K:qm)(tl:TE):TI:=fun σ H R=>tl σ H λx H1=>∃a,x=.ref a/\(∃xs,ZI K H1 a xs)/\R (Itt K a) H1
theorem Zlb {l:Expr}{tl:TE}(hl:PE X l tl):PI X tg l (Zn7 X.K tl):=by
 intro jC s σ H R I h;refine ZK (hl jC s σ H _ I h) λv s1 ⟨x,H1,I1,r1,q1⟩=>?_;obtain⟨a,e,⟨xs,hq⟩,q⟩:=q1;subst e
 cases r1
 obtain⟨jH,rv,p,hz⟩:=I1.list hq;refine wpAny_pyIter_list p.isList ?_;refine⟨s1.heap.objs.size,[s1.heap.objs.size],_,_,H1,rfl,I1.kept (t':=s1.toks) λb o e=>qf _ e,Zh2 a _,⟨_,qD _ rfl,rfl,rfl⟩,λb hb=>?_,q⟩;have e:b=s1.heap.objs.size:=by simpa using hb
 subst e;exact I1.fpOk (qq _) (I1.hok.fresh (qq _))
theorem ZmX {l:Expr}{tl:TE}(hl:PE X l tl):PI X tg l (iTup X.K tl):=by
 intro jC s σ H R I h;refine ZK (hl jC s σ H _ I h) λv s1 ⟨x,H1,I1,r1,q1⟩=>?_;obtain⟨a,e,⟨xs,hq⟩,q⟩:=q1;subst e
 cases r1
 obtain⟨jH,rv,p,hz⟩:=I1.tuple hq;refine wpAny_pyIter_tuple (show s1.heap.IsTuple a jH.toArray from p) ?_;refine⟨s1.heap.objs.size,[s1.heap.objs.size],_,_,H1,rfl,I1.kept (t':=s1.toks) λb o e=>qf _ e,Zgg a _,⟨_,qD _ rfl,rfl,rfl⟩,λb hb=>?_,q⟩;have e:b=s1.heap.objs.size:=by simpa using hb
 subst e;exact I1.fpOk (qq _) (I1.hok.fresh (qq _))
theorem Ze7 {jC:Qb}{σ:St}{H:Hp}{s:Shared}{R:It->Hp->Prop}{E:xD}{lo hi:Int}{t u v:Tok}{tk:Nat}(I:Inv X jC σ H s)(h1:-(2 ^ 62)<=lo)(h2:lo<2 ^ 62)(h3:-(2 ^ 62)<=hi)(h4:hi<2 ^ 62)
  (q:R (BQ lo (hi-lo).toNat) H):xf (xz X.prog X.w) X.A (pyIter (.ref s.heap.objs.size)) (PIE X jC σ tg R) E { s with heap:=s.heap.push { cls:=.type "range",data:=.fields #[.int lo t,.int hi u,.int 1 v] },toks:=tk }:=by
 refine wpAny_pyIter_range (IsRange.new ..) (small_one h1 h2 h3 h4) ?_;have I1:Inv X jC σ H { s with heap:=s.heap.push { cls:=.type "range",data:=.fields #[.int lo t,.int hi u,.int 1 v] },toks:=tk }:=I.kept λb o e=>qf _ e;refine⟨(s.heap.push { cls:=.type "range",data:=.fields #[.int lo t,.int hi u,.int 1 v] }).objs.size,[(s.heap.push { cls:=.type "range",data:=.fields #[.int lo t,.int hi u,.int 1 v] }).objs.size],_,_,H,rfl,
  I1.kept (t':=tk) λb o e=>qf _ e,Zgh _ lo (hi-lo).toNat,?_,λb hb=>?_,q⟩
 ·have e1:lo+((0:Nat):Int)*1=lo:=by simp
  have e2:(((hi-lo).toNat:Nat):Int)-((0:Nat):Int)=qca lo hi 1:=by rw[rangeSize_one];split <;> omega
  show IsRangeIter _ _ (lo+((0:Nat):Int)*1) ((((hi-lo).toNat:Nat):Int)-((0:Nat):Int)) 1;rw[e1,e2];exact qD _ rfl
 ·have e:b=(s.heap.push { cls:=.type "range",data:=.fields #[.int lo t,.int hi u,.int 1 v] }).objs.size:=by simpa using hb
  subst e;exact I1.fpOk (qq _) (I1.hok.fresh (qq _))
noncomputable def Zn8 (ta:TA):TI:=fun σ H R=>ta σ H λvs H1=>∃j:Int,vs=[.int j]/\-(2 ^ 62)<=j/\j<2 ^ 62/\R (BQ 0 j.toNat) H1
noncomputable def Zn9 (ta:TA):TI:=fun σ H R=>ta σ H λvs H1=>∃i j:Int,vs=[.int i,.int j]/\(-(2 ^ 62)<=i/\i<2 ^ 62/\-(2 ^ 62)<=j/\j<2 ^ 62)/\R (BQ i (j-i).toNat) H1
theorem ZdG {a:Expr}{ta:TA}{p pos:Pos}(hg:Gl X "range")(hm:X.mg "range" = none)(ha:PA X [a] ta)(hs:xh [a] X.env=[(false,eval a X.env)]:=by rfl):PI X tg (.Call (.Name "range" p) [a] [] pos) (Zn8 ta):=by
 intro jC s σ H R I h;refine Call_ (Jc I hg hm boot_range (y9 (ZK (ha pos jC s σ H _ I h) λus s1 ⟨vs,H1,I1,r1,q1⟩=>?_) hs rfl));obtain⟨j,e,q1,q2,q⟩:=q1;subst e
 cases r1 with
 | cons r rr=>
  cases rr
  obtain⟨t,rfl⟩:=r;exact call_range_1 (Ze7 I1 (by omega) (by omega) q1 q2 (by simpa using q))
theorem Zh3 {a b:Expr}{ta:TA}{p pos:Pos}(hg:Gl X "range")(hm:X.mg "range" = none)(ha:PA X [a,b] ta)(hs:xh [a,b] X.env=[(false,eval a X.env),(false,eval b X.env)]:=by rfl)(hs2:xh [b] X.env=[(false,eval b X.env)]:=by rfl) :
  PI X tg (.Call (.Name "range" p) [a,b] [] pos) (Zn9 ta):=by
 intro jC s σ H R I h;refine Call_ (Jc I hg hm boot_range (y9 (ZK (ha pos jC s σ H _ I h) λus s1 ⟨vs,H1,I1,r1,q1⟩=>?_) (by rw[hs,hs2]) (by rw[hs2];rfl)));obtain⟨i,j,e,⟨q1,q2,q3,q4⟩,q⟩:=q1;subst e
 cases r1 with
 | cons r rr=>
  cases rr with
  | cons r' rr=>
   cases rr
   obtain⟨t,rfl⟩:=r;obtain⟨t',rfl⟩:=r';exact call_range_2 (Ze7 I1 q1 q2 q3 q4 q)
noncomputable def tFor (wi:TI)(g:TG)(tb:TS):TS:=λD σ H=>wi σ H λJ H1=>∃W:Nat->Nat->St->Hp->Prop,(∃m,W 0 m σ H1)/\∀i m σ H,W i m σ H->
 (J.stop i H/\D.nx σ H)∨(J.go i H/\∃N:St->Hp->Prop,(∀σ' H',N σ' H'->∃m',m'<m/\W (i+1) m' σ' H')/\∀x H',J.yld i H x H'->g x σ H' fun σ2 H2=>tb { D with nx:=N,ct:=N,bk:=D.nx } σ2 H2)
noncomputable def Bi (fp:List Addr)(h:Heap):Qb:=fp.filterMap λb=>(h.get? b).map λo=>(b,o)
theorem UY {fp:List Addr}{h:Heap}{b:Addr}{o:Obj}(hb:b∈fp)(e:h.get? b=some o):(b,o)∈Bi fp h:=qaD.mpr ⟨b,hb,by rw[e];rfl⟩
theorem Zh4 {fp:List Addr}{h:Heap}{p:Addr×Obj}(hp:p∈Bi fp h):p.1∈fp/\h.get? p.1=some p.2:=by
 obtain⟨b,hb,e⟩:=qaD.mp hp
 cases q:h.get? b with
 | none=>rw[q]at e;cases e
 | some o=>
  rw[q]at e;have e':(b,o)=p:=zy e;subst e';exact⟨hb,q⟩
theorem Inv.pinned {jC:Qb}{σ:St}{H:Hp}{s:Shared}{fp:List Addr}(I:Inv X jC σ H s)(hf:∀b∈fp,Ww X jC H b)(ho:∀b∈fp,∃o,s.heap.get? b=some o/\∀v,o.data≠.cell v):Inv X (jC++Bi fp s.heap) σ H s:=
 I.pins_of λp hp=>(qM.mp hp).elim (λz=>I.pin p (zi _ z)) λz=>by
  obtain⟨hb,e⟩:=Zh4 z;obtain⟨f0,f1,f2,_⟩:=hf p.1 hb;obtain⟨o,e',d⟩:=ho p.1 hb;rw[e]at e';cases e';exact⟨e,f0,f1,f2,d⟩
theorem Inv.unpinned {jC pl:Qb}{σ:St}{H:Hp}{s:Shared}(I:Inv X (jC++pl) σ H s):Inv X jC σ H s:=I.pins_of λp hp=>I.pin p (zi _ (qao _ hp))
theorem ZmY {iter:Expr}{body:List Stmt}{wi:TI}{g:TG}{tb:TS}{pos:Pos}(hp:PassesOwn (xz X.prog X.w) X.A X.env X.xe)(hc:X.calm=true)(hi:PI X tg iter wi)(hg:PG X tg g)(hb:Wj X body tb)
  (hs:∀x,foldedSetIterable iter X.env x=pure x:=by intro _;rfl):PS X (.For tg iter body [] pos) (tFor wi g tb):=by
 intro jC s σ H D I h;refine wpAny_For (ZK (hi jC s σ H _ I h) λv s1 h1=>ZK h1 λitv s2 h2=>?_) hs;obtain⟨it,fp,tn,J,H2,e,I2,T,jP,f2,W,⟨m0,w0⟩,turn⟩:=h2;subst e
 -- what stays true of the iterator's objects through the loop
 have stat:∀{H':Hp},(∀b∈fp,H' b=none)->∀b∈fp,Ww X jC H' b:=λhn b hb=>⟨hn b hb,(f2 b hb).2⟩;refine codeAny_forLoop_any (λn s'=>∃i σ' H',Inv X jC σ' H' s'/\tn i s'.heap/\(∀b∈fp,H' b=none)/\W i n σ' H') ?_ m0 ⟨0,σ,H2,I2,jP,λb hb=>(f2 b hb).1,w0⟩;rintro n s3 ⟨i,σ3,H3,I3,st3,fr3,w3⟩;rcases turn i n σ3 H3 w3 with⟨stop,qn⟩ | ⟨go,N,hN,step⟩
 ·refine wpAny_passesOwn hp (ZK (T.done X rfl rfl rfl hc i jC s3 σ3 H3 X.xe I3 (stat fr3) st3 stop) λr s4 ⟨hr,I4⟩=>?_)
  subst hr;exact wpAny_execs_nil ⟨σ3,H3,I4,qn⟩
 ·refine wpAny_passesOwn hp (ZK (T.item X rfl rfl rfl hc i jC s3 σ3 H3 X.xe I3 (stat fr3) st3 go) λr s4 ⟨u,hr,h4⟩=>?_)
  subst hr;refine wpAny_passesOwn hp (ZK h4 λ_ s5 ⟨x,H5,I5,r5,y5,st5,fr5⟩=>?_);have I5':=I5.pinned (stat fr5) (T.obj _ _ st5);refine wpAny_passesOwn hp (ZK (hg _ s5 σ3 H5 x u _ I5' r5 (step x H5 y5)) λ_ s6 ⟨σ6,H6,I6,q6⟩=>?_);refine wpAny_passesOwn hp (ZK (hb _ s6 σ6 H6 _ I6 q6) λf s7 q7=>?_);have again:∀{σ7:St} {H7:Hp},Inv X (jC++Bi fp s5.heap) σ7 H7 s7->N σ7 H7->∃m,m<n/\∃i σ' H',Inv X jC σ' H' s7/\tn i s7.heap/\(∀b∈fp,H' b=none)/\W i m σ' H':=λ{σ7 H7} I7 n7=>by
   obtain⟨m',hm,w7⟩:=hN σ7 H7 n7;refine⟨m',hm,i+1,σ7,H7,I7.unpinned,T.keep _ _ _ st5 λb hb o e=>(I7.pin (b,o) (zi _ (zi _ (UY hb e)))).1,λb hb=>?_,w7⟩;obtain⟨o,e,d⟩:=T.obj _ _ st5 b hb;exact(I7.pin (b,o) (zi _ (zi _ (UY hb e)))).2.1
  cases f with
  | next=>obtain⟨σ7,H7,I7,n7⟩:=q7;exact again I7 n7
  | cont=>obtain⟨σ7,H7,I7,n7⟩:=q7;exact again I7 n7
  | brk=>obtain⟨σ7,H7,I7,q7⟩:=q7;exact⟨σ7,H7,I7.unpinned,q7⟩
  | ret v=>obtain⟨x7,σ7,H7,I7,r7,q7⟩:=q7;exact⟨x7,σ7,H7,I7.unpinned,r7,q7⟩
end
noncomputable abbrev R2:=V->V->Hp->VK->Prop
noncomputable def Yp (X:Cx)(f:Value->Value->Sem Value)(r:R2):Prop:=
 ∀(jC:Qb) (s:Shared) (σ:St) (H:Hp) (x y:V) (v u:Value) (Q:VK),Inv X jC σ H s->ZJ x v->ZJ y u->r x y H Q->
  xf (xz X.prog X.w) X.A (f v u) (EP X jC σ Q) X.xe s
noncomputable def Y2 (X:Cx)(f:Value)(r:List V->Hp->VK->Prop):Prop:=
 ∀(jC:Qb) (s:Shared) (σ:St) (H:Hp) (xs:List V) (us:List Value) (Q:VK),Inv X jC σ H s->ZB xs us->r xs H Q->
  xf (xz X.prog X.w) X.A (call f us) (EP X jC σ Q) X.xe s
noncomputable def Wk (r:R2)(ta tb:TE):TE:=fun σ H Q=>ta σ H λx H1=>tb σ H1 λy H2=>r x y H2 Q
noncomputable def rI (C:Int->Int->Prop)(g:Int->Int->V):R2:=λx y H Q=>∃i j,x=.int i/\y=.int j/\C i j/\Q (g i j) H
noncomputable def Vg (g:Int->Int->V):R2:=λx y H Q=>∃i j,x=.int i/\y=.int j/\Q (g i j) H
section
variable {X:Cx}{a b c:Expr}{ta tb tc:TE}{pos:Pos}
theorem binT (ha:PE X a ta)(hb:PE X b tb){jC:Qb}{s:Shared}{σ:St}{H:Hp}{R:V->V->Hp->Prop}(I:Inv X jC σ H s)
  (h:ta σ H λx H1=>tb σ H1 λy H2=>R x y H2) {Q:xD} {f:Value->Value->Sem Value}
  (hf:∀v u s2 x y H2,Inv X jC σ H2 s2->ZJ x v->ZJ y u->R x y H2->xf (xz X.prog X.w) X.A (f v u) Q X.xe s2) :
  xf (xz X.prog X.w) X.A (eval a X.env) (λv s₁=>xf (xz X.prog X.w) X.A (eval b X.env) (λu s₂=>xf (xz X.prog X.w) X.A (f v u) Q X.xe s₂) X.xe s₁) X.xe s:=by
 refine ZK (ha jC s σ H _ I h) λv s1 ⟨x,H1,I1,r1,q1⟩=>?_;refine ZK (hb jC s1 σ H1 _ I1 q1) λu s2 ⟨y,H2,I2,r2,q2⟩=>?_;exact hf v u s2 x y H2 I2 r1 r2 q2
theorem VO {op:Operator}{r:R2}(ho:Yp X (binaryOp op) r)(ha:PE X a ta)(hb:PE X b tb):PE X (.BinOp a op b pos) (Wk r ta tb):=by
 intro jC s σ H Q I h;exact wpAny_BinOp (binT ha hb I h λv u s2 x y H2 I2 rx ry q=>ho jC s2 σ H2 x y v u Q I2 rx ry q)
theorem opI {f:Value->Value->Sem Value}{C:Int->Int->Prop}{g:Int->Int->Int}
  (rule:∀(i j:Int) (t u:Tok) (s:Shared) (Q:xD) (E:xD),C i j->Q (.int (g i j) s.toks) { s with toks:=s.toks+1 }->xf (xz X.prog X.w) X.A (f (.int i t) (.int j u)) Q E s) :
  Yp X f (rI C λi j=>.int (g i j)):=by
 intro jC s σ H x y v u Q I rx ry h;obtain⟨i,j,rfl,rfl,hc,q⟩:=h;obtain⟨t,rfl⟩:=rx;obtain⟨t',rfl⟩:=ry;exact rule i j t t' s _ _ hc ⟨.int (g i j),H,I.tok _,⟨_,rfl⟩,q⟩
theorem opI0 {f:Value->Value->Sem Value}{g:Int->Int->Int}
  (rule:∀(i j:Int) (t u:Tok) (s:Shared) (Q:xD) (E:xD),Q (.int (g i j) s.toks) { s with toks:=s.toks+1 }->xf (xz X.prog X.w) X.A (f (.int i t) (.int j u)) Q E s) :
  Yp X f (Vg λi j=>.int (g i j)):=by
 intro jC s σ H x y v u Q I rx ry h;obtain⟨i,j,rfl,rfl,q⟩:=h;obtain⟨t,rfl⟩:=rx;obtain⟨t',rfl⟩:=ry;exact rule i j t t' s _ _ ⟨.int (g i j),H,I.tok _,⟨_,rfl⟩,q⟩
theorem opB0 {f:Value->Value->Sem Value}{g:Int->Int->Bool}
  (rule:∀(i j:Int) (t u:Tok) (s:Shared) (Q:xD) (E:xD),Q (.bool (g i j)) s->xf (xz X.prog X.w) X.A (f (.int i t) (.int j u)) Q E s) :
  Yp X f (Vg λi j=>.bl (g i j)):=by
 intro jC s σ H x y v u Q I rx ry h;obtain⟨i,j,rfl,rfl,q⟩:=h;obtain⟨t,rfl⟩:=rx;obtain⟨t',rfl⟩:=ry;exact rule i j t t' s _ _ ⟨.bl (g i j),H,I,rfl,q⟩
noncomputable def CDiv (i j:Int):Prop:=0<j/\j<1073741824
noncomputable def CPow (i j:Int):Prop:=0<=j/\j<=1000000/\i.natAbs<2 ^ 64
noncomputable def CMul (i j:Int):Prop:=(-(2 ^ 64)<i/\i<2 ^ 64)∨(-(2 ^ 64)<j/\j<2 ^ 64)
theorem CMul.ok {i j:Int}(h:CMul i j):IntMulOk i j:=by
 rcases h with⟨h1,h2⟩ | ⟨h1,h2⟩
 ·exact .of_left (intBits_le_64 h1 h2)
 ·exact .of_right (intBits_le_64 h1 h2)
theorem Zgi:Yp X (binaryOp .Add) (Vg λi j=>.int (i+j)):=opI0 λ_ _ _ _ _ _ _ q=>add_int q
theorem ZmZ:Yp X (binaryOp .Sub) (Vg λi j=>.int (i-j)):=opI0 λ_ _ _ _ _ _ _ q=>sub_int q
theorem Zgj:Yp X (binaryOp .Mult) (rI CMul λi j=>.int (i*j)):=opI λ_ _ _ _ _ _ _ hc q=>mul_int q hc.ok
theorem Zlc:Yp X (binaryOp .FloorDiv) (rI CDiv λi j=>.int (i / j)):=opI λi j _ _ _ _ _ hc q=>by
 have h1:(0:Int)<j:=hc.1;have h2:j<1073741824:=hc.2;exact floordiv_int (by omega) (by rw[Int.fdiv_eq_ediv_of_nonneg i (by omega)];exact q) (.inl (PyProof.noPylong_small (by omega)))
theorem Zeh:Yp X (binaryOp .Mod) (rI (λ_ j=>0<j) λi j=>.int (i % j)):=opI λi j _ _ _ _ _ hc q=>by
 have h1:(0:Int)<j:=hc;exact mod_int' (by omega) (by rw[Int.fmod_eq_emod_of_nonneg i (by omega)];exact q)
theorem Zm0:Yp X (binaryOp .Pow) (rI CPow λi j=>.int (i ^ j.toNat)):=opI λ_ _ _ _ _ _ _ hc q=>pow_int_small hc.1 hc.2.1 hc.2.2 q
end
section
variable {X:Cx}{a b c:Expr}{ta tb tc:TE}{pos:Pos}
theorem Zjf:Yp X (xk .Lt) (Vg λi j=>.bl (decide (i<j))):=opB0 λ_ _ _ _ _ _ _ q=>lt_int q
theorem Zoa:Yp X (xk .LtE) (Vg λi j=>.bl (decide (i<=j))):=opB0 λ_ _ _ _ _ _ _ q=>le_int q
theorem Zob:Yp X (xk .Gt) (Vg λi j=>.bl (decide (j<i))):=opB0 λ_ _ _ _ _ _ _ q=>gt_int q
theorem Zoc:Yp X (xk .GtE) (Vg λi j=>.bl (decide (j<=i))):=opB0 λ_ _ _ _ _ _ _ q=>ge_int q
theorem Yp.or {f:Value->Value->Sem Value}{r r':R2}(h:Yp X f r)(h':Yp X f r'):Yp X f (λx y H Q=>r x y H Q∨r' x y H Q):=by
 intro jC s σ H x y v u Q I rx ry q;rcases q with q | q
 ·exact h jC s σ H x y v u Q I rx ry q
 ·exact h' jC s σ H x y v u Q I rx ry q
theorem Bj (b:Expr){op:CmpOp}(h:op≠.In:=by decide)(h2:op≠.NotIn:=by decide):behindInMarks op b=false:=by
 have e1:(op==CmpOp.In)=false:=by cases op <;> first | rfl | exact absurd rfl h
 have e2:(op==CmpOp.NotIn)=false:=by cases op <;> first | rfl | exact absurd rfl h2
 cases b <;> simp[behindInMarks,e1,e2]
theorem Zld {op:CmpOp}{r:R2}(ho:Yp X (xk op) r)(ha:PE X a ta)(hb:PE X b tb)(hm:behindInMarks op b=false):PE X (.Compare a [op] [b] pos) (Wk r ta tb):=by
 intro jC s σ H Q I h;exact wpAny_Compare1 (binT ha hb I h λv u s2 x y H2 I2 rx ry q=>ho jC s2 σ H2 x y v u Q I2 rx ry q) hm
noncomputable def Zod (t:TE):TT:=fun σ H Q=>t σ H λx H'=>∃k,x=.bl k/\Q k H'
theorem Zcn {op:CmpOp}{r:R2}(ho:Yp X (xk op) r)(ha:PE X a ta)(hb:PE X b tb)(hm:behindInMarks op b=false):PT X (.Compare a [op] [b] pos) (Zod (Wk r ta tb)):=by
 intro jC s σ H Q I h;refine wpAny_isTrue_Compare1 (ZK (ha jC s σ H _ I h) λv s1 ⟨x,H1,I1,r1,q1⟩=>ZK (hb jC s1 σ H1 _ I1 q1) λu s2 ⟨y,H2,I2,r2,q2⟩=>
  ZK (ho jC s2 σ H2 x y v u _ I2 r1 r2 q2) λc s3 ⟨z,H3,I3,r3,k,e,q3⟩=>?_) hm
 subst e
 cases r3
 exact wpAny_truthy_bool ⟨H3,I3,q3⟩
theorem Bk:(xg:Nat)<2 ^ 63:=by rw[sizeLine_eq];decide
theorem Xu {x:V}{us:List Value}(r:ZB [x] us):∃u,us=[u]/\ZJ x u:=by
 cases r with
 | cons r1 r2=>cases r2;exact⟨_,rfl,r1⟩
theorem Zjg {x y:V}{us:List Value}(r:ZB [x,y] us):∃u w',us=[u,w']/\ZJ x u/\ZJ y w':=by
 cases r with
 | cons r1 r2=>
  cases r2 with
  | cons r3 r4=>cases r4;exact⟨_,_,rfl,r1,r3⟩
theorem Zh5 (hc:X.calm=true):Y2 X (.builtin "max") (λxs H Q=>∃i j,xs=[.int i,.int j]/\Q (.int (if j > i then j else i)) H):=by
 intro jC s σ H xs us Q I r h;obtain⟨i,j,rfl,q⟩:=h;obtain⟨u,w',rfl,⟨t,rfl⟩,⟨t',rfl⟩⟩:=Zjg r;refine max_two_ints (I.ok.hd hc) λh' tk k=>⟨_,H,I.kept k,?_,q⟩;by_cases hj:j > i
 ·rw[if_pos hj,if_pos hj];exact⟨_,rfl⟩
 ·rw[if_neg hj,if_neg hj];exact⟨_,rfl⟩
theorem Zh6 (hc:X.calm=true):Y2 X (.builtin "min") (λxs H Q=>∃i j,xs=[.int i,.int j]/\Q (.int (if j<i then j else i)) H):=by
 intro jC s σ H xs us Q I r h;obtain⟨i,j,rfl,q⟩:=h;obtain⟨u,w',rfl,⟨t,rfl⟩,⟨t',rfl⟩⟩:=Zjg r;refine min_two_ints (I.ok.hd hc) λh' tk k=>⟨_,H,I.kept k,?_,q⟩;by_cases hj:j<i
 ·rw[if_pos hj,if_pos hj];exact⟨_,rfl⟩
 ·rw[if_neg hj,if_neg hj];exact⟨_,rfl⟩
theorem Zh7:Y2 X (.type "int") (λxs H Q=>(∃i,xs=[.int i]/\Q (.int i) H)∨∃k,xs=[.bl k]/\Q (.int (if k then 1 else 0)) H):=by
 intro jC s σ H xs us Q I r h;rcases h with⟨i,rfl,q⟩ | ⟨k,rfl,q⟩
 ·obtain⟨u,rfl,t,rfl⟩:=Xu r
  exact call_int_int ⟨.int i,H,I,⟨_,rfl⟩,q⟩
 ·obtain⟨u,rfl,r1⟩:=Xu r
  cases r1
  exact call_int_bool ⟨.int (if k then 1 else 0),H,I.tok _,⟨_,rfl⟩,q⟩
end
structure ObjM (h:Heap)(x dx C:Addr)(mA:Str->Option Value):Prop where
 obj:h.get? x=some (qci C dx)
 ns:h.Ns1 dx mA
 ne:dx≠x
theorem Zh8 {h:Heap}{dx:Addr}{mA:Str->Option Value}(n:h.Ns1 dx mA):∃od,h.get? dx=some od/\∀name,qcs name od=some (mA name):=by
 obtain⟨o,es,ep,ho,hd,hk,_,hm⟩:=n;refine⟨o,ho,λname=>?_⟩;have e:=hm name;unfold nsFind findBy at e;rw[<-Array.find?_toList]at e;unfold qcs;rw[hd];dsimp only;split
 ·rename_i y q
  rw[q]at e;exact congrArg some e
 ·rename_i q
  rw[q]at e;have a:es.toList.any (·.refKey)=false:=by
   rw[List.any_eq_false];intro y hy;obtain⟨z,t,hkey⟩:=hk y (zd.mp hy);simp[DictEntry.refKey,hkey]
  have a':¬es.toList.any (·.refKey)=true:=by rw[a];exact qaa
  rw[if_neg a'];exact congrArg some e
theorem ObjM.look {h:Heap}{x dx C:Addr}{mA:Str->Option Value}(I:ObjM h x dx C mA):∃od,PySem.W.InstAt h x (qci C dx) C (some od)/\∀name,qcs name od=some (mA name):=
 let ⟨od,ho,hl⟩:=Zh8 I.ns
 ⟨od,⟨I.obj,rfl,rfl,ho⟩,hl⟩
section
variable {prog:xB}{w:World}{A:xC}{E:xD}{s:Shared}{K:qm}{x dx C f:Addr}{mA:Str->Option Value}{name:Str}{v:Value}
end
section
variable {P:xB}{w:World}{H H':Hp}{h h':Heap}{a C dx:Addr}{fs fs':List (Str×V)}
theorem Zle (hok:Yo P w H h)(e:H a=some (.ins C dx fs)):∃mA,ObjM h a dx C mA/\(∀f,UG (fs.lookup f) (mA f))/\PySem.Within mA (fs.map (·.1))/\fs.length<=1000/\H dx=some (.own a):=by
 obtain⟨d,z,ne,ob,mA,n,r,q⟩:=(show Yx P w H h a (.ins C dx fs)from hok a _ e);exact⟨mA,⟨ob,n,ne⟩,r,q,z,d⟩
end
structure Cls (K:qm)(C:Addr):Prop where
 pg:PySem.W.plainGet K C Str.empty=true
 hd:PySem.W.hasDictIn K C=true
 po:PySem.W.plainOver K C=true
 sa:PySem.W.findIn K (.ref C) "__setattr__" = some (some (.builtin "object.__setattr__"))
theorem Cls.get {K:qm}{C:Addr}(c:Cls K C)(f:Str):PySem.W.plainGet K C f=true:=c.pg
section
variable {X:Cx}{jC:Qb}{σ:St}{H:Hp}{s:Shared}{a C dx:Addr}{fs:List (Str×V)}{f:Str}{v:V}{A:xC}{E:xD}
end
section
variable {X:Cx}{o e value:Expr}{f:Str}{pos pos' tpos:Pos}{ta tv:TE}
end
section
variable {X:Cx}{jC:Qb}{σ:St}{H:Hp}{s:Shared}{A:xC}{E:xD}{Q:xD}{c:Value}{b:Bool}
inductive TyOf (K:qm)(H:Hp):V->Value->Prop where
 | non:TyOf K H .non (.type "NoneType")
 | bl (x:Bool):TyOf K H (.bl x) (.type "bool")
 | int (i:Int):TyOf K H (.int i) (.type "int")
 | str (x:Str):TyOf K H (.str x) (.type "str")
 | flt (x:UInt64):TyOf K H (.flt x) (.type "float")
 | lst {a:Addr} {xs:List V} (e:H a=some (.lst xs)):TyOf K H (.ref a) (.type "list")
 | frz {a:Addr} {o:Obj} {xs:List V} (e:H a=some (.frz o (.lst xs))):TyOf K H (.ref a) (.type "list")
 | tup {a:Addr} {xs:List V} (e:H a=some (.tup xs)):TyOf K H (.ref a) (.type "tuple")
 | dK {a:Addr} {kvs:List (Zu×V)} (e:H a=some (.dK kvs)):TyOf K H (.ref a) (.type "dict")
 | dT {a:Addr} {kvs:List (List Zu×V)} (e:H a=some (.dT kvs)):TyOf K H (.ref a) (.type "dict")
 | ins {a C dx:Addr} {fs:List (Str×V)} (e:H a=some (.ins C dx fs)) (cl:Cls K C) (ha:PySem.W.findIn K (.ref C) "__class__" = some (some (.builtin "object.__class__")))
   (hn:PySem.W.specialIn K (.builtin "object.__class__") "__get__" = some (some (.builtin "getset_descriptor.__get__"))) (htk:PySem.W.takesIn K (.builtin "object.__class__")=some true)
   (hm:PySem.W.mroIn K C (.type "object")=some true):TyOf K H (.ref a) (.ref C)
theorem Zh9 {x:V}{u t:Value}(I:Inv X jC σ H s)(rx:ZJ x u)(ty:TyOf X.K H x t)(e:PySem.W.kitOne X.K t c=some b)(h:∀tk,Q (.bool b) { s with toks:=tk }) :
  xf (xz X.prog X.w) A (call (.builtin "isinstance") [u,c]) Q E s:=by
 cases ty with
 | non=>cases (show u=zo from rx);exact yc PySem.W.kitx_none I.kIn y6 e (λz=>nomatch z) h
 | bl y=>cases (show u=yQ y from rx);exact yc PySem.W.kitx_bool I.kIn y6 e (λz=>nomatch z) h
 | int i=>obtain⟨t,q⟩:=(show ∃t,u=qbt i t from rx);cases q;exact yc PySem.W.kitx_int I.kIn y6 e (λz=>nomatch z) h
 | str y=>obtain⟨t,q⟩:=(show ∃t,u=qcS y t from rx);cases q;exact yc PySem.W.kitx_str I.kIn y6 e (λz=>nomatch z) h
 | flt y=>obtain⟨t,q⟩:=(show ∃t,u=Value.float y t from rx);cases q;exact yc PySem.W.kitx_float I.kIn y6 e (λz=>nomatch z) h
 | @lst a xs ea=>
  cases (show u=qY a from rx)
  obtain⟨_,_,n,_,h1⟩:=(show Yx X.prog X.w H s.heap a (.lst xs)from I.hok a _ ea);exact yc PySem.W.kitx_list I.kIn ⟨_,h1,rfl⟩ e (λz=>nomatch z) h
 | @frz a ob xs ea=>
  cases (show u=qY a from rx)
  obtain⟨_,_,_,n,_,h1⟩:=(show Yx X.prog X.w H s.heap a (.frz ob (.lst xs))from I.hok a _ ea);exact yc PySem.W.kitx_list I.kIn ⟨_,h1,rfl⟩ e (λz=>nomatch z) h
 | @tup a xs ea=>
  cases (show u=qY a from rx)
  obtain⟨_,_,_,p⟩:=(show Yx X.prog X.w H s.heap a (.tup xs)from I.hok a _ ea);obtain⟨o,h1,h2,_⟩:=p;exact yc PySem.W.kitx_tuple I.kIn ⟨o,h1,h2⟩ e (λz=>nomatch z) h
 | @dK a kvs ea=>
  cases (show u=qY a from rx)
  obtain⟨_,_,vs,_,p⟩:=(show Yx X.prog X.w H s.heap a (.dK kvs)from I.hok a _ ea);obtain⟨o,es,ep,h1,h2,_⟩:=p;exact yc PySem.W.kitx_dict I.kIn ⟨o,h1,h2.1⟩ e (λz=>nomatch z) h
 | @dT a kvs ea=>
  cases (show u=qY a from rx)
  obtain⟨_,_,xs,_,o,es,ep,h1,h2,_⟩:=(show Yx X.prog X.w H s.heap a (.dT kvs)from I.hok a _ ea);exact yc PySem.W.kitx_dict I.kIn ⟨o,h1,h2.1⟩ e (λz=>nomatch z) h
 | @ins a C dx fs ea cl ha hn htk hm=>
  cases (show u=qY a from rx)
  obtain⟨mA,O,_⟩:=Zle I.hok ea;obtain⟨od,J,_⟩:=O.look;exact yc (PySem.W.kitx_own (cl.get _) cl.hd ha hn htk hm) I.kIn J e (λz=>nomatch z) h
end
structure Room (k:Nat)(A:xC):Prop where
 hd:A.handled=none
 dp:A.depth+3*k+5<recursionLimit
 un:A.units+16*k+200<cLine
 gd:A.guards=some []
theorem Room.mono {j k:Nat}{A:xC}(r:Room k A)(h:j<=k):Room j A:=⟨r.hd,by have:=r.dp;omega,by have:=r.un;omega,r.gd⟩
theorem Room.deeper {k:Nat}{A:xC}(r:Room (k+1) A)(env:Env):Room k (A.deeper env):=
 ⟨r.hd,by have:=r.dp;show A.depth+1+3*k+5<_;omega,by have:=r.un;show A.units+3+16*k+200<_;omega,r.gd⟩
theorem Room.depth {k:Nat}{A:xC}(r:Room k A):A.depth<recursionLimit:=by have:=r.dp;omega
theorem Room.units {k:Nat}{A:xC}(r:Room k A):A.units+64<cLine:=by have:=r.un;omega
theorem Room.units0 {k:Nat}{A:xC}(r:Room k A):A.units<cLine:=by have:=r.un;omega
noncomputable def UH:TA:=λ_ H Q=>Q [] H
noncomputable def UC (ta:TE)(tr:TA):TA:=fun σ H Q=>ta σ H λx H1=>tr σ H1 λxs H2=>Q (x::xs) H2
section
variable {X:Cx}{e:Expr}{es:List Expr}{te:TE}{t:TA}{pos:Pos}
theorem Xy:PA X [] UH:=λ_ _ _ _ H Q I h=>Calls.spliced_nil ⟨[],H,I,.nil,h⟩
theorem Xb (ha:PE X e te)(hr:PA X es t)(hs:xh (e::es) X.env=(false,eval e X.env)::xh es X.env:=by rfl):PA X (e::es) (UC te t):=by
 intro pos jC s σ H Q I h;rw[hs];show xf _ _ (spliced ((false,eval e X.env)::backTo pos (xh es X.env))) _ _ s;refine Calls.spliced_cons (ZK (ha jC s σ H _ I h) λu s1 ⟨x,H1,I1,r1,q1⟩=>?_);exact ZK (hr pos jC s1 σ H1 _ I1 q1) λus s2 ⟨xs,H2,I2,r2,q2⟩=>⟨x::xs,H2,I2,.cons r1 r2,q2⟩
noncomputable def tTup (t:TA):TE:=fun σ H Q=>t σ H λxs H1=>xs.length<=xg/\∀p,H1 p=none->Q (.ref p) (Zn H1 p (.tup xs))
noncomputable def tLst (t:TA):TE:=fun σ H Q=>t σ H λxs H1=>xs.length<=xg/\∀p,H1 p=none->Q (.ref p) (Zn H1 p (.lst xs))
theorem Zm1 {x1}(h:PA X es t):PE X (.Tuple es x1 pos) (tTup t):=by
 intro jC s σ H Q I hq;refine wpAny_Tuple_spliced (ZK (h pos jC s σ H _ I hq) λus s1 ⟨xs,H1,I1,r,z,q⟩=>⟨by rw[<-r.length];exact z,?_⟩);have hf:H1 s1.heap.objs.size=none:=I1.hok.fresh (qq _);refine⟨.ref s1.heap.objs.size,Zn H1 s1.heap.objs.size (.tup xs),I1.laid (t':=s1.toks) (λb u e=>qf _ e) (qq _) ?_,rfl,q _ hf⟩;exact⟨z,us,r,⟨_,qD _ rfl,rfl,_,rfl⟩⟩
theorem Zm2 (h:PA X es t):PE X (.List es pos) (tLst t):=by
 intro jC s σ H Q I hq;refine wpAny_List_spliced (ZK (h pos jC s σ H _ I hq) λus s1 ⟨xs,H1,I1,r,z,q⟩=>⟨by rw[<-r.length];exact z,?_⟩);have hf:H1 s1.heap.objs.size=none:=I1.hok.fresh (qq _);refine⟨.ref s1.heap.objs.size,Zn H1 s1.heap.objs.size (.lst xs),I1.laid (t':=s1.toks) (λb u e=>qf _ e) (qq _) ?_,rfl,q _ hf⟩;exact⟨z,us,0,r,qD _ rfl⟩
end
noncomputable abbrev Sp:=List V->Hp->VK->XK->Prop
noncomputable abbrev XU:=List Env->Hp->Shared->XK->xD
structure Env0 (P:xB)(w:World)(K:qm)(mg:Str->Option Value)(base:Heap)(A:xC)(outer:List Env)(s:Shared)(H:Hp):Prop where
 frames:A.frames=some outer
 mod:Mod K mg base
 bs:∀b o,base.get? b=some o->s.heap.get? b=some o/\H b=none
 bsz:base.objs.size<=s.heap.objs.size
 funs:s.heap.FunFrames base outer
 frf:∀b∈XT outer,H b=none
 hok:Yo P w H s.heap
 bare:AllBare s.gens
noncomputable def CE (outer:List Env)(P:xB)(w:World)(H:Hp)(s:Shared)(Q:VK)(u:Value)(s':Shared):Prop:=
 ∃v H',s'.os=s.os/\AllBare s'.gens/\Un (XT outer) [] H H' s.heap s'.heap/\Yo P w H' s'.heap/\ZJ v u/\Q v H'
noncomputable def CR (CX:XU)(outer:List Env)(P:xB)(w:World)(H:Hp)(s:Shared)(Q:VK)(E:XK)(r:Result)(s':Shared):Prop:=
 match r with
 | .ok (.ret u)=>CE outer P w H s Q u s'
 | .ok _=>False
 | .error e=>CX outer H s E e s'
structure FnOk (P:xB)(w:World)(K:qm)(mg:Str->Option Value)(base:Heap)(CX:XU)(k:Nat)(f:Addr)(fd:xA)(ps:List Str)(sp:Sp):Prop where
 len:∀vs H Q E,sp vs H Q E->vs.length=ps.length
 run:∀(A:xC) (outer:List Env) (s:Shared) (H:Hp) (args:Args) (us:List Value) (vs:List V) (Q:VK) (E:XK),Room k A->Env0 P w K mg base A outer s H->BindsTo s fd args (ps.zip us)->ZB vs us->sp vs H Q E->
  xo (xz P w) A (.call (.ref f) args) (CR CX outer P w H s Q E) s
theorem FnOk.mono {P:xB}{w:World}{K:qm}{mg:Str->Option Value}{base:Heap}{CX:XU}{j k:Nat}{f:Addr}{fd:xA}{ps:List Str}{sp:Sp}(F:FnOk P w K mg base CX j f fd ps sp)(h:j<=k) :
  FnOk P w K mg base CX k f fd ps sp:=⟨F.len,λA outer s H args us vs Q E hr=>F.run A outer s H args us vs Q E (hr.mono h)⟩
theorem FnOk.imp {P:xB}{w:World}{K:qm}{mg:Str->Option Value}{base:Heap}{CX:XU}{k:Nat}{f:Addr}{fd:xA}{ps:List Str}{sp sp':Sp}(F:FnOk P w K mg base CX k f fd ps sp)
  (h:∀vs H Q E,sp' vs H Q E->sp vs H Q E):FnOk P w K mg base CX k f fd ps sp':=
 ⟨λvs H Q E q=>F.len vs H Q E (h _ _ _ _ q),λA outer s H args us vs Q E hr he hb hv hs=>F.run A outer s H args us vs Q E hr he hb hv (h _ _ _ _ hs)⟩
section
variable {X:Cx}{jC:Qb}{σ:St}{H:Hp}{s s':Shared}
theorem Inv.env0 (I:Inv X jC σ H s):Env0 X.prog X.w X.K X.mg X.base X.A X.stack s H:=
 ⟨I.ok.frames,I.ok.mod,I.bs,zb I.ok.bsz I.sz,I.stack,I.stkFree,I.hok,I.bare⟩
theorem Inv.after {Q:VK}{u:Value}(I:Inv X jC σ H s)(h:CE X.stack X.prog X.w H s Q u s'):EP X jC σ Q u s':=by
 obtain⟨v,H',os,bare,un,hok,r,q⟩:=h;obtain⟨hh,g,d,t,os'⟩:=s';obtain rfl:os'=s.os:=os;exact⟨v,H',I.call (h':=hh) (g':=g) (d':=d) (t':=t) (ch:=[]) un hok bare (λb z=>absurd z (by simp)),r,q⟩
end
noncomputable def Zoe (sp:Sp)(dvs:List V)(E:XK)(t:TA):TE:=fun σ H Q=>t σ H λvs H1=>sp (vs++dvs) H1 Q E
noncomputable def Wi (K:qm)(fd:xA)(ps:List Str)(ds:List Value):Prop:=
 ∀(s:Shared) (us:List Value),K.In s.heap->(us++ds).length=ps.length->BindsTo s fd ⟨us,[]⟩ (ps.zip (us++ds))
theorem Wi.all {K:qm}{fd:xA}{ps:List Str}(h:∀us:List Value,us.length=ps.length->bindArgs fd ⟨us,[]⟩=pure (ps.zip us)):Wi K fd ps []:=λs us _ hl=>by
 rw[zr]at hl⊢;exact .of_eq (h us hl)
noncomputable def Zei (CX:XU)(X:Cx)(E:XK):Prop:=∀(jC:Qb) (σ:St) (H:Hp) (s:Shared) (e:Value) (s':Shared),Inv X jC σ H s->CX X.stack H s E e s'->X.xe e s'
section
variable {X:Cx}{CX:XU}{k:Nat}{f C:Addr}{fd:xA}{ps:List Str}{sp:Sp}{dvs:List V}{ds:List Value}{E:XK}{x m:Str}{p pos apos:Pos}{e o:Expr}{es:List Expr}{ta:TE}{t:TA}
theorem Zjh {jC:Qb}{σ:St}{H:Hp}{s:Shared}{Q:VK}{us:List Value}{vs:List V}(F:FnOk X.prog X.w X.K X.mg X.base CX k f fd ps sp)(hr:Room k X.A)(hb:Wi X.K fd ps ds)(hd:ZB dvs ds)(hx:Zei CX X E)
  (I:Inv X jC σ H s) (r:ZB vs us) (h:sp (vs++dvs) H Q E):xf (xz X.prog X.w) X.A (call (.ref f) us) (EP X jC σ Q) X.xe s:=by
 have r2:ZB (vs++dvs) (us++ds):=r.append hd;have hl:(us++ds).length=ps.length:=by rw[<-r2.length];exact F.len _ _ _ _ h
 refine xy (codeAny_mono (F.run X.A X.stack s H ⟨us,[]⟩ (us++ds) (vs++dvs) Q E hr I.env0 (hb s us I.kIn hl) r2 h) λr s' hq=>?_)
 cases r with
 | error e=>exact hx jC σ H s e s' I hq
 | ok fl=>
  cases fl with
  | ret u=>exact I.after hq
  | next=>exact yC hq
  | brk=>exact yC hq
  | cont=>exact yC hq
theorem Zlf (F:FnOk X.prog X.w X.K X.mg X.base CX k f fd ps sp)(hr:Room k X.A)(hg:Gl X x)(hm:X.mg x=some (.ref f))(hk:yL X.K (.ref f)=true)(hb:Wi X.K fd ps ds)(hd:ZB dvs ds)(hx:Zei CX X E)
  (ha:PA X (e::es) t) (hdb:(x==("__debug__" : Str))=false:=by decide) (he:xh (e::es) X.env=(false,eval e X.env)::xh es X.env:=by rfl) (hpl:(backTo pos (xh es X.env)).any (·.1)=false:=by rfl) :
  PE X (.Call (.Name x p) (e::es) [] pos) (Zoe sp dvs E t):=by
 intro jC s σ H Q I h;refine wpAny_Call_Name_kw (Zhi I hg hm ?_ hdb);refine PySem.W.callWith_K (h₀:=X.base) I.ok.mod.kin hk (ZK (ha pos jC s σ H _ I h) λus s1 ⟨vs,H1,I1,r,q⟩=>⟨I1.kIn,?_⟩) he hpl;exact Zjh F hr hb hd hx I1 r q
end
section
variable {X:Cx}{CX:XU}{k:Nat}{f C:Addr}{fd:xA}{ps ks:List Str}{sp:Sp}{E:XK}{x m:Str}{p pos apos kpos:Pos}{e o:Expr}{es:List Expr}{kws:List Keyword}{te ta:TE}{t tk:TA}{nm:Option Str}
variable {g:List Value->List Value->List Value}{gV:List V->List V->List V}
end
structure FnScope (N P:List Str)(sc:Scope):Prop where
 kind:sc.kind=.function
 co:sc.isCoroutine=false
 gen:sc.isGenerator=false
 nd:N.Nodup
 pre:N.take P.length=P
 par:∀x∈P,sc.names.lookup x=some .local∨sc.names.lookup x=some .cell
 nofree:∀y∈sc.names,y.2≠.free
theorem ZdH {kindOf:Str->Option NameKind}{x:Str}:∀{binds:List (Str×Value)} {m:Str->Option Value},(∀v,(x,v)∉binds)->bindL kindOf binds m x=m x
 | [],_,_=>rfl
 | (n,v)::r,m,h=>by
  unfold bindL;rw[ZdH λw hw=>h w (qT _ hw)];split
  ·have:x≠n:=by rintro rfl;exact h v zG
   simp[this]
  ·rfl
theorem ZdI {kindOf:Str->Option NameKind}{x:Str}:∀{binds:List (Str×Value)} {m:Str->Option Value},(∀v,(x,v)∉binds)->bindC kindOf binds m x=m x
 | [],_,_=>rfl
 | (n,v)::r,m,h=>by
  unfold bindC;rw[ZdI λw hw=>h w (qT _ hw)];split
  ·rfl
  ·have:x≠n:=by rintro rfl;exact h v zG
   simp[this]
theorem ZdJ {kindOf:Str->Option NameKind}{x:Str}{v:Value}:∀{P:List Str} {vs:List Value} {i:Nat} {m:Str->Option Value},P.Nodup->P[i]?=some x->vs[i]?=some v->kindOf x=some .local->
  bindL kindOf (P.zip vs) m x=some v
 | [],_,_,_,_,h,_,_=>by simp at h
 | _::_,[],_,_,_,_,h,_=>by simp at h
 | p::P,w::vs,0,m,nd,h1,h2,hk=>by
  simp at h1 h2;subst h1;subst h2;show bindL kindOf ((p,w)::P.zip vs) m p=_;unfold bindL;rw[ZdH λv hv=>(zH.mp nd).1 (qaE hv).1,if_pos hk];simp
 | p::P,w::vs,i+1,m,nd,h1,h2,hk=>by
  show bindL kindOf ((p,w)::P.zip vs) m x=_;unfold bindL;exact ZdJ (i:=i) (zH.mp nd).2 (by simpa using h1) (by simpa using h2) hk
theorem ZdK {kindOf:Str->Option NameKind}{x:Str}{v:Value}:∀{P:List Str} {vs:List Value} {i:Nat} {m:Str->Option Value},P.Nodup->P[i]?=some x->vs[i]?=some v->kindOf x≠some .local->
  bindC kindOf (P.zip vs) m x=some v
 | [],_,_,_,_,h,_,_=>by simp at h
 | _::_,[],_,_,_,_,h,_=>by simp at h
 | p::P,w::vs,0,m,nd,h1,h2,hk=>by
  simp at h1 h2;subst h1;subst h2;show bindC kindOf ((p,w)::P.zip vs) m p=_;unfold bindC;rw[ZdI λv hv=>(zH.mp nd).1 (qaE hv).1,if_neg hk];simp
 | p::P,w::vs,i+1,m,nd,h1,h2,hk=>by
  show bindC kindOf ((p,w)::P.zip vs) m x=_;unfold bindC;exact ZdK (i:=i) (zH.mp nd).2 (by simpa using h1) (by simpa using h2) hk
noncomputable def start (N:List Str)(vs:List V):St:=vs.map some++zT (N.length-vs.length) none
noncomputable def Vr (CX:XU)(P:xB)(w:World)(K:qm)(mg:Str->Option Value)(base:Heap)(N:List Str)(qual:Str)(scope:Scope)(f:Addr)(cd:Value)(A:xC)(outer:List Env)(s:Shared)(H:Hp)(E:XK):Cx where
 prog:=P
 w:=w
 K:=K
 mg:=mg
 base:=base
 A:=A.deeper (envOfC qual scope s.heap.objs.size f cd)
 N:=N
 s₀:=s
 H₀:=H
 env:=envOfC qual scope s.heap.objs.size f cd
 outer:=outer
 stack:=envOfC qual scope s.heap.objs.size f cd::outer
 ex:=[]
 calm:=true
 fn:=λ_=>true
 pn:=[]
 xe:=λe s'=>xf (xz P w) (A.deeper (envOfC qual scope s.heap.objs.size f cd)) (leaving (envOfC qual scope s.heap.objs.size f cd) e) (λ_ s''=>CX outer H s E e s'') (λe' s''=>CX outer H s E e' s'') s'
theorem Ze8 {sc:Scope}{n:Nat}{x:Str}(h:sc.names.lookup x=some .cell):∃c,(cellsFrom n sc.names []).lookup x=some c:=by
 have q:=qck sc.names n [] (.inl h);exact qau.mp q
theorem Zia {CX:XU}{P:xB}{w:World}{K:qm}{mg:Str->Option Value}{base:Heap}{N ps:List Str}{qual:Str}{scope:Scope}{f:Addr}{cd:Value}{A:xC}{outer:List Env}{s s1:Shared}{H:Hp}{E:XK}{us:List Value}{vs:List V}
  (S:FnScope N ps scope) (hd:A.handled=none) (e0:Env0 P w K mg base A outer s H) (hl:vs.length=ps.length) (r:ZB vs us)
  (x:InCallC s s.heap.objs.size (bindL (envOfC qual scope s.heap.objs.size f cd).kindOf (ps.zip us) λ_=>none) (cellsFrom (s.heap.objs.size+1) scope.names []) (bindC (envOfC qual scope s.heap.objs.size f cd).kindOf (ps.zip us) λ_=>none) s1) :
  Inv (Vr CX P w K mg base N qual scope f cd A outer s H E) [] (start N vs) H s1:=by
 have hpl:ps.length<=N.length:=by have:=congrArg qbk S.pre;rw[qZ]at this;omega
 obtain⟨h1,tk,rfl,hk⟩:=x.done;have noA:∀b:Addr,b∉(Vr CX P w K mg base N qual scope f cd A outer s H E).ex:=λb z=>absurd (show b∈([]:List Addr)from z) (by simp);refine⟨⟨e0.mod,S.kind,rfl,rfl,qq _,λy z c h1 h2=>?_,λy hy=>?_,λy c _ h=>?_,λ_=>hd,qcz e0.frames,.inr ⟨rfl,rfl⟩,λb z=>absurd z (noA b),e0.bs,e0.bsz,λb _ _=>noA b,λb z=>absurd z (noA b),e0.funs,e0.frf⟩,
  rfl,e0.bare,Un.kept hk,⟨_,x.toInCall.ns,λi y v h1 h2 h3=>?_⟩,λy c h=>⟨_,x.cell y c h⟩,e0.hok.fresh (qq _),λy c h=>?_,λp hp=>absurd (show p∈([]:Qb)from hp) (by simp),e0.hok.kept hk,?_⟩
 ·exact name_of_addr x.apart (zR h1) (zR h2)
 ·have hy:scope.names.lookup y=some .cell∨scope.names.lookup y=some .free:=hy
  rcases hy with hy | hy
  ·exact Ze8 hy
  ·exact absurd rfl (S.nofree _ (zR hy))
 ·exact qbY (x.above y c (zR h))
 ·have hi:i<vs.length:=by
   unfold start at h2;by_cases hi:i<vs.length
   ·exact hi
   ·rw[zU (by simpa using hi)]at h2
    rw[qaA]at h2;split at h2 <;> cases h2
  have ha:vs[i]?=some v:=by
   unfold start at h2;rw[zC (by simpa using hi),qI]at h2
   cases e:vs[i]? with
   | none=>rw[e]at h2;cases h2
   | some a=>rw[e]at h2;cases h2;rfl
  obtain⟨u,hu,rv⟩:=r.get ha;have hp:ps[i]?=some y:=by
   rw[<-S.pre,zP (by omega)];exact h1
  have ndP:ps.Nodup:=by rw[<-S.pre];exact S.nd.sublist (zS _ _)
  refine⟨u,rv,?_⟩;rcases S.par y (zt hp)with k | k
  ·exact .inl ⟨k,ZdJ ndP hp hu k⟩
  ·obtain⟨c,e⟩:=Ze8 (n:=s.heap.objs.size+1) k
   refine .inr ⟨.inl k,c,e,?_⟩;have q:=x.cell y c e;rw[ZdK ndP hp hu (by show scope.names.lookup y≠_;rw[k];decide)]at q;exact q
 ·exact e0.hok.fresh (qbY (x.above y c (zR h)))
 ·unfold start
  show _=N.length;rw[qE,qd,List.length_replicate];omega
theorem Zmq {CX:XU}{P:xB}{w:World}{K:qm}{mg:Str->Option Value}{base:Heap}{k:Nat}{f:Addr}{name qual:Str}{params:Arguments}{body:List Stmt}{scope:Scope}{dV kV doc pm cdv ct oc:Value}{an od:Option Addr}
  {osl:Array (Option Value)} {N ps:List Str} {sp:Sp} (lk:K.lookup f=some ⟨oc,od,.func (yR name qual params body scope dV kV doc pm an cdv ct),osl⟩) (hcd:qba K cdv qual=true) (S:FnScope N ps scope)
  (len:∀vs H Q E,sp vs H Q E->vs.length=ps.length)
  (hbody:∀(A:xC) (outer:List Env) (s:Shared) (H:Hp) (vs:List V) (Q:VK) (E:XK),Room k (A.deeper (envOfC qual scope s.heap.objs.size f cdv))->sp vs H Q E->
   ∃t,Wj (Vr CX P w K mg base N qual scope f cdv A outer s H E) body t/\t { nx:=λ_ H'=>Q .non H',rt:=Q } (start N vs) H) :
  FnOk P w K mg base CX (k+1) f (yR name qual params body scope dV kV doc pm an cdv ct) ps sp:=by
 refine⟨len,λA outer s H args us vs Q E hr e0 hb r hsp=>?_⟩;have hl:=len _ _ _ _ hsp;have KX:K.In s.heap:=e0.mod.kin.keeps λb o e=>(e0.bs b o e).1;have lim:s.heap.NoLimit:=e0.mod.nolimit.keeps λb o e=>(e0.bs b o e).1;have hkind:∀y∈ps.zip us,scope.names.lookup y.1=some .local∨(scope.names.lookup y.1=some .cell/\((cellsFrom (s.heap.objs.size+1) scope.names []).lookup y.1).isSome=true):=λ⟨n,v⟩ hy=>by
  rcases S.par n (qaE hy).1 with q | q
  ·exact .inl q
  ·exact .inr ⟨q,qck _ _ _ (.inl q)⟩
 refine codeAny_call_function hr.depth (KX _ _ lk) rfl S.co S.gen rfl (PySem.W.codeRec_of KX hcd) (hb _ _ _ _ ?_);refine wpAny_newFunctionEnv_cells S.kind hkind λenv he s1 x=>?_;subst he;refine⟨lim.keeps x.toInCall.keep,codeAny_func ?_⟩;obtain⟨t,ht,hq⟩:=hbody A outer s H vs Q E (hr.deeper _) hsp;have I:Inv (Vr CX P w K mg base N qual scope f cdv A outer s H E) [] (start N vs) H s1:=Zia S hr.hd e0 hl r x;refine xc (ht [] s1 (start N vs) H _ I hq) (λfl s' hs=>?_) λe s' hs=>hs;have fin:∀{σ':St} {H':Hp} {v:V} {u:Value},Inv (Vr CX P w K mg base N qual scope f cdv A outer s H E) [] σ' H' s'->ZJ v u->Q v H'->CE outer P w H s Q u s':=
  λ{σ' H' v u} J rv q=>⟨v,H',J.os,J.bare,J.base,J.hok,rv,q⟩
 cases fl with
 | ret u=>
  obtain⟨v,σ',H',J,rv,q⟩:=hs;exact fin J rv q
 | next=>
  obtain⟨σ',H',J,q⟩:=hs;exact fin (v:=V.non) (u:=zo) J rfl q
 | brk=>
  obtain⟨_,_,_,q⟩:=hs;exact yC q
 | cont=>
  obtain⟨_,_,_,q⟩:=hs;exact yC q
section
variable {X:Cx}{x:Str}{p pos:Pos}{e:Expr}{es:List Expr}{t:TA}{id T:String}{r:List V->Hp->VK->Prop}
noncomputable def tCB (r:List V->Hp->VK->Prop)(t:TA):TE:=fun σ H Q=>t σ H λvs H1=>r vs H1 Q
theorem U2 (hc:Y2 X (.builtin id) r)(hg:Gl X x)(hm:X.mg x=none)(hv:xj x=some (.builtin id))(ha:PA X (e::es) t)(hn:x≠"__name__":=by decide)(hdb:(x==("__debug__" : Str))=false:=by decide)
  (he:xh (e::es) X.env=(false,eval e X.env)::xh es X.env:=by rfl) (hpl:(backTo pos (xh es X.env)).any (·.1)=false:=by rfl):PE X (.Call (.Name x p) (e::es) [] pos) (tCB r t):=by
 intro jC s σ H Q I h;refine wpAny_Call_Name_kw (Jc I hg hm hv ?_ hn hdb);exact PyProof.Rows.callWith_builtin1 (ZK (ha pos jC s σ H _ I h) λus s1 ⟨vs,H1,I1,r1,q1⟩=>hc jC s1 σ H1 vs us Q I1 r1 q1) he hpl
theorem ZaP (hc:Y2 X (.type T) r)(hg:Gl X x)(hm:X.mg x=none)(hv:xj x=some (.type T))(ha:PA X (e::es) t)(hn:x≠"__name__":=by decide)(hdb:(x==("__debug__" : Str))=false:=by decide)
  (he:xh (e::es) X.env=(false,eval e X.env)::xh es X.env:=by rfl) (hpl:(backTo pos (xh es X.env)).any (·.1)=false:=by rfl):PE X (.Call (.Name x p) (e::es) [] pos) (tCB r t):=by
 intro jC s σ H Q I h;refine wpAny_Call_Name_kw (Jc I hg hm hv ?_ hn hdb);exact y9 (ZK (ha pos jC s σ H _ I h) λus s1 ⟨vs,H1,I1,r1,q1⟩=>hc jC s1 σ H1 vs us Q I1 r1 q1) he hpl
end
end L2
namespace HT
noncomputable def lexLt:List Int->List Int->Bool
 | [],[]=>false
 | [],_::_=>true
 | _::_,[]=>false
 | x::xs,y::ys=>if x=y then lexLt xs ys else decide (x<y)
theorem Zgk (x y:Int)(xs ys:List Int):lexLt (x::xs) (y::ys)=if x=y then lexLt xs ys else decide (x<y):=rfl
theorem Zdu:lexLt [] []=false:=rfl
theorem ZcC (y:Int)(ys:List Int):lexLt [] (y::ys)=true:=rfl
theorem ZcD (x:Int)(xs:List Int):lexLt (x::xs) []=false:=rfl
theorem Zji (A:xC)(s:Shared)(a:Int)(t:Tok)(c:Int)(u:Tok):∃e,qaO A s (.int a t) (.int c u) e/\(e=true↔a=c):=
 ⟨(a==c),qaO.int_int a t c u,by simp⟩
theorem Zjj (A:xC)(s:Shared)(a:Int)(t:Tok)(c:Int)(u:Tok)(prog:xB)(w:World)(E:xD)(Q:xD)(h:Q (.bool (decide (a<c))) s) :
  xf (xz prog w) A (richCompare .Lt (.int a t) (.int c u)) Q E s:=
 (PyProof.Rows.lt_int h:xf (xz prog w) A (xk .Lt (.int a t) (.int c u)) Q E s)
section
open PySem.SeqAt
open PySem.AutoSeq1 (wpAny_loadPart')
open PySem.MeetsSeq PySem.MeetsSeq2 PySem.MeetsSeq3
theorem Zdv (l b:Addr)(items items2:Array Value)(n n2:Nat)(dd dd2:Option Addr)(sl sl2:Array (Option Value))(ns ms:List Int)(hi:IntsAre items.toList ns)(hj:IntsAre items2.toList ms) :
  Meets (Builtin.«tuple.__lt__» ⟨[.ref l,.ref b],[]⟩)
   (λ_ R s=>s.heap.get? l=some { cls:=.type "tuple",dict:=dd,data:=.seq items n,slots:=sl }/\s.heap.get? b=some { cls:=.type "tuple",dict:=dd2,data:=.seq items2 n2,slots:=sl2 }/\
    R (.ok (.ret (.bool (lexLt ns ms)))) s):=
 .of_wp λprog w A R s h=>by
  obtain⟨hp,g,d,tk,os⟩:=s;obtain⟨hl,hb,h⟩:=h;have f2:=AutoSeq1.sub_tuple_tuple;have z1:items.size=ns.length:=by rw[<-hi.length];simp
  have z2:items2.size=ms.length:=by rw[<-hj.length];simp
  wp_walk using wpAny_loadPart' hl,wpAny_loadPart' hb,wpAny_forIn_list _ (λrest b s'=>b.1=none/\s'=⟨hp,g,d,tk,os⟩/\∃(vs ws:List Value) (ns' ms':List Int),rest=vs.zip ws/\
   IntsAre vs ns'/\IntsAre ws ms'/\ns'.length+items2.size=ms'.length+items.size/\R (.ok (.ret (.bool (lexLt ns' ms')))) ⟨hp,g,d,tk,os⟩) _
  case turn=>
   rintro⟨y,x⟩ rest b s' ⟨hb',rfl,vs,ws,ns',ms',hz,hvi,hwi,jN,hR⟩
   cases hvi with
   | nil=>rw[List.zip_nil_left]at hz;cases hz
   | cons a t hvi'=>
    cases hwi with
    | nil=>rw[List.zip_nil_right]at hz;cases hz
    | cons c u hwi'=>
     rw[List.zip_cons_cons]at hz;injection hz with hyx hrest;injection hyx with hy hx;subst hy hx;rw[Zgk]at hR;simp only[qO]at jN;obtain⟨e,he,hiff⟩:=Zji A.in1 ⟨hp,g,d,tk,os⟩ a t c u;refine xa (he prog w _ _ ?_)
     cases e with
     | true=>
      rw[if_pos (hiff.mp rfl)]at hR
      wp_walk
      exact⟨rfl,rfl,_,_,_,_,hrest,hvi',hwi',by omega,hR⟩
     | false=>
      rw[if_neg (λq=>absurd (hiff.mpr q) qaa)]at hR;have hri:=Zjj A.in1 ⟨hp,g,d,tk,os⟩ a t c u prog w
      wp_walk using hri
      exact⟨_,rfl,by simpa using hR⟩
  case fin=>
   rintro⟨b1,b2⟩ s' ⟨hb',rfl,vs,ws,ns',ms',hz,hvi,hwi,jN,hR⟩;simp only at hb';subst hb';have hv:lexLt ns' ms'=decide (items.size<items2.size):=by
    cases hvi with
    | nil=>
     cases hwi with
     | nil=>
      simp only[qag]at jN;rw[Zdu];exact(decide_eq_false (by omega)).symm
     | cons c u hw=>
      simp only[qag,qO]at jN;rw[ZcC];exact(decide_eq_true (by omega)).symm
    | cons a t hv=>
     cases hwi with
     | nil=>
      simp only[qag,qO]at jN;rw[ZcD];exact(decide_eq_false (by omega)).symm
     | cons c u hw=>
      rw[List.zip_cons_cons]at hz
      cases hz
   rw[hv]at hR
   wp_walk
   exact⟨_,rfl,by simpa[Builtin.Tuple.tupleCompareSizes]using hR⟩
  case h=>
   exact⟨rfl,rfl,items.toList,items2.toList,ns,ms,rfl,hi,hj,by omega,h⟩
end
section
variable {prog:xB}{w:World}{A:xC}{E:xD}{s:Shared}
theorem lt_tupInts {l b:Addr}{items items2:Array Value}{ns ms:List Int}{Q:xD}(hl:IsTup s.heap l items)(hb:IsTup s.heap b items2)(hi:IntsAre items.toList ns)(hj:IntsAre items2.toList ms)
  (hu:A.units<cLine) (h:Q (.bool (lexLt ns ms)) s):xf (xz prog w) A (xk .Lt (.ref l) (.ref b)) Q E s:=by
 obtain⟨⟨cls,dd,data,sl⟩,ho,hc,n,hd⟩:=id hl;obtain⟨⟨cls2,dd2,data2,sl2⟩,ho2,hc2,n2,hd2⟩:=id hb;simp only at hc hd hc2 hd2;subst hc hd hc2 hd2;exact richCompare_meets_room (op:=.Lt) ⟨_,ho,rfl⟩ ⟨_,ho2,rfl⟩ PySem.F.slot_tuple_lt PySem.F.entry_tuple_lt (PySem.F.args_tuple_lt_2 _ _) (Zdv l b items items2 n n2 dd dd2 sl sl2 ns ms hi hj)
  ⟨ho,ho2,show yQ (lexLt ns ms)≠Value.notImplemented/\Q (.bool (lexLt ns ms)) s from⟨(λx=>nomatch x),h⟩⟩ hu
theorem cat_tup {t b:Addr}{vs ws:List Value}{Q:xD}(ht:IsTup s.heap t vs.toArray)(hb:IsTup s.heap b ws.toArray)(hv:vs≠[])
  (h1:ws=[]->Q (.ref t) s) (h2:ws≠[]->Q (.ref s.heap.objs.size) { s with heap:=s.heap.push { cls:=.type "tuple",data:=.seq (vs++ws).toArray } })
  (hsz:vs.length+ws.length<=xg):xf (xz prog w) A (binaryOp .Add (.ref t) (.ref b)) Q E s:=by
 obtain⟨⟨cls,dd,data,sl⟩,ho,hc,n,hd⟩:=id ht;obtain⟨⟨cls2,dd2,data2,sl2⟩,ho2,hc2,n2,hd2⟩:=id hb;simp only at hc hd hc2 hd2;subst hc hd hc2 hd2;have e:vs.toArray++ws.toArray=(vs++ws).toArray:=by simp
 by_cases hw:ws=[]
 ·exact concat_meets ⟨_,ho,rfl⟩ ⟨_,ho2,rfl⟩ noFill_tuple_add seq_tuple_add qbl qbe (qa3 _ _)
   (tuple_addW1 t b vs.toArray ws.toArray n n2 dd dd2 sl sl2 (by simpa using hv) (by simp[hw])) ⟨ho,ho2,h1 hw⟩
 ·refine concat_meets ⟨_,ho,rfl⟩ ⟨_,ho2,rfl⟩ noFill_tuple_add seq_tuple_add qbl qbe (qa3 _ _)
   (tuple_addW2 t b vs.toArray ws.toArray n n2 dd dd2 sl sl2 (by simpa using hv) (by simpa using hw) (by rw[qL,qL];exact hsz)) ⟨ho,ho2,?_⟩
  rw[e];exact h2 hw
noncomputable def sIx (n d:Nat):Option Int->Nat
 | none=>d
 | some v=>if v<0 then (v+(n:Int)).toNat else min v.toNat n
theorem Zm3 (n d:Nat)(hd:d<=n)(o:Option Int):sIx n d o<=n:=by
 cases o with
 | none=>exact hd
 | some v=>
  show(if v<0 then (v+(n:Int)).toNat else min v.toNat n)<=n;by_cases hv:v<0
  ·rw[if_pos hv];omega
  ·rw[if_neg hv];exact Nat.min_le_right _ _
theorem Zhl (v:Int)(n d:Nat):(if v<0 then max (v+(n:Int)) 0 else min v (n:Int))=((sIx n d (some v):Nat):Int):=by
 show(if v<0 then max (v+(n:Int)) 0 else min v (n:Int))=(((if v<0 then (v+(n:Int)).toNat else min v.toNat n):Nat):Int);by_cases hv:v<0
 ·simp only[if_pos hv];omega
 ·simp only[if_neg hv];omega
theorem Zgl (lo hi:Option Int)(n:Nat):yo lo hi 1 (n:Int)=(((sIx n 0 lo:Nat):Int),((sIx n n hi:Nat):Int)):=by
 have h1:¬((1:Int)<0):=by omega
 unfold yo;simp only[h1,if_false];refine qbp ?_ ?_
 ·cases lo with
  | none=>rfl
  | some v=>exact Zhl v n 0
 ·cases hi with
  | none=>rfl
  | some v=>exact Zhl v n n
theorem ZcE (i j:Nat):zL (i:Int) (j:Int) 1=j-i:=by
 unfold zL;have h1:(1:Int) > 0:=by omega
 simp only[h1,if_true,Int.ediv_one];split <;> omega
theorem ZcF {v:Value}{o:Option Int}{Q:Option Int->Shared->Prop}(p:IsPart v o)(h:Q o s):xf (xz prog w) A (Builtin.Slice.slicePartIndex v) Q E s:=by
 cases p with
 | none=>exact slicePart_none h
 | int i t=>exact slicePart_int h
theorem Zaq {sl:Addr}{vl vu:Value}{lo hi:Option Int}{n:Nat}{Q:Int×Int×Nat->Shared->Prop}(hs:s.heap.IsSliceOf sl vl vu .none)(pl:IsPart vl lo)(pu:IsPart vu hi)
  (h:Q (((sIx n 0 lo:Nat):Int),1,sIx n n hi-sIx n 0 lo) s):xf (xz prog w) A (qal (.ref sl) (pure (n:Int))) Q E s:=by
 obtain⟨os,hos,hcs,hds⟩:=id hs;unfold qal qbW;refine xa (xa (wpAny_field hos hds (x:=vl) rfl (xa (wpAny_field hos hds (x:=vu) rfl (xa (wpAny_field hos hds (x:=.none) rfl (xb ?_)))))));refine xa (slicePart_none ?_);show xf _ _ (if ((1:Int)==0)=true then _ else _) _ _ s;rw[if_neg (by decide)];refine xa (ZcF pl (xa (ZcF pu (xa (xb ?_)))));show xf _ _ (match yo lo hi 1 (n:Int)with | (lo,hi)=>pure (lo,(1:Int),zL lo hi 1)) _ _ s;rw[Zgl lo hi n];show xf _ _ (pure (((sIx n 0 lo:Nat):Int),(1:Int),zL ((sIx n 0 lo:Nat):Int) ((sIx n n hi:Nat):Int) 1)) _ _ s;rw[ZcE];exact xb h
theorem Zjk (xs:Array Value)(i k:Nat):((qk k).filterMap λ(m:Nat)=>xs[((i:Int)+(m:Int)*1).toNat]?).toArray=((xs.toList.drop i).take k).toArray:=by
 have e:(λ(m:Nat)=>xs[((i:Int)+(m:Int)*1).toNat]?)=λm=>xs[i+m]?:=by
  funext m;have:((i:Int)+(m:Int)*1).toNat=i+m:=by omega
  rw[this]
 rw[e];have:=pick_run xs i k;rw[List.filterMap_map]at this;have e2:((λx=>xs[x]?)∘λx=>i+x)=λm=>xs[i+m]?:=rfl;rw[e2]at this;rw[this]
theorem getItem_tuple_cut {t sl:Addr}{items:Array Value}{vl vu:Value}{lo hi:Option Int}{Q:xD}(ht:IsTup s.heap t items)(hs:s.heap.IsSliceOf sl vl vu .none)(pl:IsPart vl lo)(pu:IsPart vu hi)
  (hw:¬(sIx items.size 0 lo=0/\sIx items.size items.size hi=items.size))
  (h:Q (.ref s.heap.objs.size) { s with heap:=s.heap.push { cls:=.type "tuple",data:=.seq ((items.toList.drop (sIx items.size 0 lo)).take (sIx items.size items.size hi-sIx items.size 0 lo)).toArray } })
  (hsz:items.size<=xg):xf (xz prog w) A (getItem (.ref t) (.ref sl)) Q E s:=by
 have htake:sizeOk (.seq ((items.toList.drop (sIx items.size 0 lo)).take (sIx items.size items.size hi-sIx items.size 0 lo)).toArray):=by
  show((items.toList.drop (sIx items.size 0 lo)).take (sIx items.size items.size hi-sIx items.size 0 lo)).toArray.size<=xg;rw[qL,qZ,zX,qy];omega
 have hj:sIx items.size items.size hi<=items.size:=Zm3 _ _ (qq _) hi;obtain⟨os,hos,hcs,hds⟩:=id hs;have hTs:s.TypeIs (.ref sl) "slice":=⟨os,hos,hcs⟩;unfold getItem
 try with_reducible refine xu ?_
 first | refine xa (xb ?_) | skip
 refine xa (wpAny_sequenceKey ht.typeIs (by decide) ?_);refine xa (wpAny_callSpecial?_slot (name:=qav "__getitem__") ht.typeIs zv
  (wpAny_call_entry zv ht.typeIs entry_tuple_getitem ?_ (args_tuple_getitem _ _)))
 show xf _ _ (qaU (.ref t) >>= _) _ _ s;refine xa (tupleItemsOf_ ht ?_);refine xa (wpAny_typeOf hTs ?_);rw[if_pos (by decide)];refine xa (Zaq hs pl pu ?_);have hno:¬((((sIx items.size 0 lo:Nat):Int)==0&&(1:Int)==1&&(sIx items.size items.size hi-sIx items.size 0 lo)==items.size)=true):=by
  intro q;rw[zh,zh]at q;have q1:((sIx items.size 0 lo:Nat):Int)=0:=eq_of_beq q.1.1;have q2:sIx items.size items.size hi-sIx items.size 0 lo=items.size:=eq_of_beq q.2;exact hw ⟨by omega,by omega⟩
 show xf _ _ (if (((sIx items.size 0 lo:Nat):Int)==0&&(1:Int)==1&&(sIx items.size items.size hi-sIx items.size 0 lo)==items.size)=true then _ else _) _ _ s;rw[if_neg hno,Zjk]
 first
  | exact xa (m:=zQ _) (xl (xb ⟨_,rfl,xb h⟩) htake)
  | exact xa (m:=zQ _) (xl (xa (xb (xb ⟨_,rfl,xb h⟩))) htake)
  | exact xa (xa (m:=zQ _) (xl (xb (xb ⟨_,rfl,xb h⟩)) htake))
  | exact xa (xa (m:=zQ _) (xl (xb ⟨_,rfl,xb h⟩) htake))
end
end HT
namespace L2
noncomputable abbrev TO:=St->Hp->(Option Int->Hp->Prop)->Prop
noncomputable def PO (X:Cx)(e:Option Expr)(t:TO):Prop:=
 ∀(jC:Qb) (s:Shared) (σ:St) (H:Hp) (Q:Option Int->Hp->Prop),Inv X jC σ H s->t σ H Q->
  xf (xz X.prog X.w) X.A (evalPart e X.env) (λu s'=>∃o H',Inv X jC σ H' s'/\IsPart u o/\Q o H') X.xe s
noncomputable def Zlg:TO:=λ_ H Q=>Q none H
noncomputable def Zof (t:TE):TO:=fun σ H Q=>t σ H λx H1=>∃i,x=.int i/\Q (some i) H1
theorem Wo {ns:List Int}:∀{us:List Value},ZB (ns.map V.int) us->IntsAre us ns:=by
 induction ns with
 | nil=>intro us r;rw[qby]at r;cases r;exact .nil
 | cons n ns ih=>
  intro us r;rw[qX]at r
  cases r with
  | cons r1 r2=>
   obtain⟨t,e⟩:=r1;subst e;exact .cons n t (ih r2)
section
variable {X:Cx}{e:Expr}{te:TE}{lo hi:Option Expr}{tl th:TO}{pos p2:Pos}
theorem Zlh:PO X none Zlg:=by
 intro jC s σ H Q I h;rw[evalPart_none];exact xb ⟨none,H,I,.none,h⟩
theorem Zli (h:PE X e te):PO X (some e) (Zof te):=by
 intro jC s σ H Q I hw;rw[evalPart_some];refine ZK (h jC s σ H _ I hw) λu s1 ⟨x,H1,I1,r1,q1⟩=>?_;obtain⟨i,rfl,q⟩:=q1;obtain⟨t,rfl⟩:=r1;exact⟨some i,H1,I1,.int i t,q⟩
noncomputable def Ug (X:Cx)(r:V->Option Int->Option Int->Hp->VK->Prop):Prop:=
 ∀(jC:Qb) (s:Shared) (σ:St) (H:Hp) (x:V) (v vl vu:Value) (lo hi:Option Int) (sl:Addr) (Q:VK),Inv X jC σ H s->ZJ x v->s.heap.IsSliceOf sl vl vu .none->IsPart vl lo->IsPart vu hi->r x lo hi H Q->
  ∃T id,typeLookup (.type T) "__getitem__" = pure (some (.builtin id))/\s.TypeIs v T/\xf (xz X.prog X.w) X.A (getItem v (.ref sl)) (EP X jC σ Q) X.xe s
theorem Ug.or {r r':V->Option Int->Option Int->Hp->VK->Prop}(h:Ug X r)(h':Ug X r'):Ug X (λx lo hi H Q=>r x lo hi H Q∨r' x lo hi H Q):=by
 intro jC s σ H x v vl vu lo hi sl Q I rx hs pl pu q;rcases q with q | q
 ·exact h jC s σ H x v vl vu lo hi sl Q I rx hs pl pu q
 ·exact h' jC s σ H x v vl vu lo hi sl Q I rx hs pl pu q
noncomputable def tSl (r:V->Option Int->Option Int->Hp->VK->Prop)(te:TE)(tl th:TO):TE:=fun σ H Q=>te σ H λx H1=>tl σ H1 λl H2=>th σ H2 λu H3=>r x l u H3 Q
theorem Zjl {r:V->Option Int->Option Int->Hp->VK->Prop}(hr:Ug X r)(he:PE X e te)(hl:PO X lo tl)(hu:PO X hi th):PE X (.Subscript e (.Slice lo hi none p2) pos) (tSl r te tl th):=by
 intro jC s σ H Q I h;refine Subscript_ (ZK (he jC s σ H _ I h) λv s1 ⟨x,H1,I1,r1,q1⟩=>?_);refine wpAny_Slice (ZK (hl jC s1 σ H1 _ I1 q1) λvl s2 ⟨l,H2,I2,pl,q2⟩=>ZK (hu jC s2 σ H2 _ I2 q2) λvu s3 ⟨u,H3,I3,pu,q3⟩=>?_);rw[evalPart_none];refine xb ?_;have I4:Inv X jC σ H3 { s3 with heap:=s3.heap.push { cls:=.type "slice",data:=.fields #[vl,vu,.none] } }:=I3.kept (t':=s3.toks) λb ob q=>qf _ q;obtain⟨T,id,hT,ht,hg⟩:=hr jC { s3 with heap:=s3.heap.push { cls:=.type "slice",data:=.fields #[vl,vu,.none] } } σ H3 x v vl vu l u s3.heap.objs.size Q I4 r1 (Heap.IsSliceOf.new ..) pl pu q3;show xf (xz X.prog X.w) X.A (subscriptTail e (.Slice lo hi none p2) v (.ref s3.heap.objs.size)) (EP X jC σ Q) X.xe { s3 with heap:=s3.heap.push { cls:=.type "slice",data:=.fields #[vl,vu,.none] } };exact tail_any (ops:=[.ref s3.heap.objs.size,v]) ht hT hg (by with_unfolding_all rfl)
noncomputable def Vs (xs:List V)(lo hi:Option Int):List V:=(xs.drop (HT.sIx xs.length 0 lo)).take (HT.sIx xs.length xs.length hi-HT.sIx xs.length 0 lo)
theorem ZbX (xs:List V)(lo hi:Option Int):(Vs xs lo hi).length<=xs.length:=by
 unfold Vs;rw[qZ,zX];omega
noncomputable def rSlT (K:qm):V->Option Int->Option Int->Hp->VK->Prop:=λx lo hi H Q=>∃a xs,x=.ref a/\ZI K H a xs/\
 ¬(HT.sIx xs.length 0 lo=0/\HT.sIx xs.length xs.length hi=xs.length)/\∀p,H p=none->Q (.ref p) (Zn H p (.tup (Vs xs lo hi)))
theorem Zm4:Ug X (rSlT X.K):=by
 intro jC s σ H x v vl vu lo hi sl Q I rx hs pl pu h;obtain⟨a,xs,rfl,hx,hw,q⟩:=h
 cases rx
 obtain⟨jH,r,ht,hz⟩:=I.tuple hx;have jN:jH.toArray.size=xs.length:=by rw[qL];exact r.length.symm
 refine⟨"tuple",_,zv.lookup,ht.typeIs,?_⟩;refine HT.getItem_tuple_cut ht hs pl pu (by rw[jN];exact hw) ?_ (by rw[jN];exact hz);rw[jN];refine⟨.ref s.heap.objs.size,_,I.laid (t':=s.toks) (o:=.tup (Vs xs lo hi)) (λb ob q=>qf _ q) (qq _) ?_,rfl,q _ (I.hok.fresh (qq _))⟩;exact⟨zb (ZbX xs lo hi) hz,_,(r.drop (HT.sIx xs.length 0 lo)).take (HT.sIx xs.length xs.length hi-HT.sIx xs.length 0 lo),qcj _ _⟩
noncomputable def rLtT (K:qm):R2:=λx y H Q=>∃a b ns ms,x=.ref a/\y=.ref b/\ZI K H a (ns.map V.int)/\ZI K H b (ms.map V.int)/\Q (.bl (HT.lexLt ns ms)) H
theorem Zm5 (hu:X.A.units<cLine):Yp X (xk .Lt) (rLtT X.K):=by
 intro jC s σ H x y v u Q I rx ry h;obtain⟨a,b,ns,ms,rfl,rfl,ha,hb,q⟩:=h
 cases rx
 cases ry
 obtain⟨jH,r1,p1,_⟩:=I.tuple ha;obtain⟨jU,r2,p2,_⟩:=I.tuple hb;have i1:IntsAre jH.toArray.toList ns:=Wo r1;have i2:IntsAre jU.toArray.toList ms:=Wo r2;exact HT.lt_tupInts p1 p2 i1 i2 hu ⟨.bl (HT.lexLt ns ms),H,I,rfl,q⟩
noncomputable def Zog (K:qm):R2:=λx y H Q=>∃a b xs ys,x=.ref a/\y=.ref b/\ZI K H a xs/\ZI K H b ys/\xs≠[]/\xs.length+ys.length<=xg/\
 (ys=[]->Q (.ref a) H)/\(ys≠[]->∀p,H p=none->Q (.ref p) (Zn H p (.tup (xs++ys))))
theorem ZB.nil_iff {xs:List V}{us:List Value}(r:ZB xs us):us=[]↔xs=[]:=by
 cases r with
 | nil=>simp
 | cons _ _=>simp
theorem Zlj:Yp X (binaryOp .Add) (Zog X.K):=by
 intro jC s σ H x y v u Q I rx ry h;obtain⟨a,b,xs,ys,rfl,rfl,ha,hb,hx,hz,q1,q2⟩:=h
 cases rx
 cases ry
 obtain⟨jH,r1,p1,_⟩:=I.tuple ha;obtain⟨jU,r2,p2,_⟩:=I.tuple hb;refine HT.cat_tup p1 p2 (λz=>hx (r1.nil_iff.mp z)) (λz=>⟨.ref a,H,I,rfl,q1 (r2.nil_iff.mp z)⟩) (λz=>?_) (by rw[<-r1.length,<-r2.length];exact hz);refine⟨.ref s.heap.objs.size,_,I.laid (t':=s.toks) (o:=.tup (xs++ys)) (λb ob q=>qf _ q) (qq _) ?_,rfl,q2 (λw=>z (r2.nil_iff.mpr w)) _ (I.hok.fresh (qq _))⟩;exact⟨by rw[qE];exact hz,_,r1.append r2,qcj _ _⟩
end
noncomputable def Uh (n:Nat)(i:Int):Option Nat:=if 0<=i then (if i<n then some i.toNat else none)else if -(n:Int)<=i then some (i+n).toNat else none
noncomputable def XV {α:Type}(xs:List α)(i:Int):Option α:=(Uh xs.length i).bind λj=>xs[j]?
theorem Zhm {n:Nat}{i:Int}{j:Nat}(h:Uh n i=some j):seqIndex? i n=some j/\j<n/\-(n:Int)<=i/\i<n:=by
 unfold Uh at h;by_cases h0:0<=i
 ·rw[if_pos h0]at h
  by_cases h1:i<n
  ·rw[if_pos h1]at h
   have e:i.toNat=j:=zy h;exact⟨by rw[seqIndex_of h0 h1,e],by omega,by omega,h1⟩
  ·rw[if_neg h1]at h;cases h
 ·rw[if_neg h0]at h
  by_cases h1:-(n:Int)<=i
  ·rw[if_pos h1]at h
   have e:(i+n).toNat=j:=zy h;exact⟨by rw[seqIndex_neg (by omega) h1,e],by omega,h1,by omega⟩
  ·rw[if_neg h1]at h;cases h
theorem Zhn {α:Type}{xs:List α}{i:Int}{v:α}(h:XV xs i=some v):∃j,seqIndex? i xs.length=some j/\xs[j]?=some v/\j<xs.length/\-(xs.length:Int)<=i/\i<xs.length:=by
 unfold XV at h
 cases e:Uh xs.length i with
 | none=>rw[e]at h;cases h
 | some j=>
  rw[e]at h;obtain⟨h1,h2,h3,h4⟩:=Zhm e;exact⟨j,h1,h,h2,h3,h4⟩
theorem W0 {α:Type}{xs:List α}{j:Nat}{v:α}(h:xs[j]?=some v):XV xs (j:Int)=some v:=by
 have hj:j<xs.length:=(qA.mp h).1;have e:Uh xs.length (j:Int)=some j:=by
  unfold Uh;rw[if_pos (by omega),if_pos (by omega)];simp
 unfold XV;rw[e];exact h
noncomputable def Zho (b:Expr):Prop:=∀o i,subscripted b false o i=operate [o,i] (getItem o i)
noncomputable def Ui (X:Cx)(r:R2):Prop:=
 ∀(value slice:Expr) (jC:Qb) (s:Shared) (σ:St) (H:Hp) (x y:V) (v u:Value) (Q:VK),Inv X jC σ H s->ZJ x v->ZJ y u->r x y H Q->
  subscripted slice false v u=operate [v,u] (getItem v u)->xf (xz X.prog X.w) X.A (subscriptTail value slice v u) (EP X jC σ Q) X.xe s
noncomputable def MtR (X:Cx)(id:String)(r:V->List V->Hp->VK->Prop):Prop:=
 ∀(jC:Qb) (s:Shared) (σ:St) (H:Hp) (x:V) (xs:List V) (v:Value) (us:List Value) (Q:VK),Inv X jC σ H s->ZJ x v->ZB xs us->r x xs H Q->
  xf (xz X.prog X.w) X.A (call (.builtin id) (v::us)) (EP X jC σ Q) X.xe s
section
variable {X:Cx}{a b:Expr}{ta tb:TE}{pos:Pos}
theorem Ui.or {r r':R2}(h:Ui X r)(h':Ui X r'):Ui X (λx y H Q=>r x y H Q∨r' x y H Q):=by
 intro value slice jC s σ H x y v u Q I rx ry q hs;rcases q with q | q
 ·exact h value slice jC s σ H x y v u Q I rx ry q hs
 ·exact h' value slice jC s σ H x y v u Q I rx ry q hs
theorem WP {r:R2}(hr:Ui X r)(ha:PE X a ta)(hb:PE X b tb)(hs:Zho b):PE X (.Subscript a b pos) (Wk r ta tb):=by
 intro jC s σ H Q I h;exact Subscript_ (binT ha hb I h λv u s2 x y H2 I2 rx ry q=>hr a b jC s2 σ H2 x y v u Q I2 rx ry q (hs _ _))
noncomputable def BH (K:qm):R2:=λx y H Q=>∃p xs i v,x=.ref p/\y=.int i/\ZE K H p xs/\XV xs i=some v/\Q v H
noncomputable def rIxT (K:qm):R2:=λx y H Q=>∃p xs i v,x=.ref p/\y=.int i/\ZI K H p xs/\XV xs i=some v/\Q v H
theorem WK:Ui X (BH X.K):=by
 intro value slice jC s σ H x y v u Q I rx ry h hs;obtain⟨p,xs,i,z,rfl,rfl,hq,he,q⟩:=h
 cases rx
 obtain⟨t,rfl⟩:=ry;obtain⟨jH,r,pl,hz⟩:=I.list hq;obtain⟨j,h1,h2,h3,h4,h5⟩:=Zhn he;obtain⟨w,ew,rw'⟩:=r.get h2;have hl:=r.length;have hn:=Bk;have fin:EP X jC σ Q w s:=⟨z,H,I,rw',q⟩;by_cases h0:0<=i
 ·have hj:i.toNat=j:=by
   rw[seqIndex_of h0 h5]at h1;exact zy h1
  exact item_listR pl.isList h0 (by omega) (by rw[hj];simpa using ew) fin hs
 ·have hj:(i+(jH.toArray.size:Int)).toNat=j:=by
   rw[seqIndex_neg (by omega) h4]at h1;rw[qL,<-hl];exact zy h1
  exact subscriptTail_builtinR (x:=w) pl.isList.typeIs slot_list_getitem.lookup
   (wpAny_getItem_list_neg (Q:=λr s'=>r=w/\EP X jC σ Q r s') pl.isList (by omega) (by rw[qL] <;> omega) (by omega) (by rw[hj];simpa using ew) ⟨rfl,fin⟩) hs
theorem Zm6:Ui X (rIxT X.K):=by
 intro value slice jC s σ H x y v u Q I rx ry h hs;obtain⟨p,xs,i,z,rfl,rfl,hq,he,q⟩:=h
 cases rx
 obtain⟨t,rfl⟩:=ry;obtain⟨jH,r,pl,hz⟩:=I.tuple hq;obtain⟨j,h1,h2,h3,h4,h5⟩:=Zhn he;obtain⟨w,ew,rw'⟩:=r.get h2;have hl:=r.length;have hn:=Bk;have fin:EP X jC σ Q w s:=⟨z,H,I,rw',q⟩;exact subscriptTail_builtinR (x:=w) pl.typeIs slot_tuple_getitem.lookup
  (getItem_tuple (j:=j) (Q:=λr s'=>r=w/\EP X jC σ Q r s') pl (by omega) (by omega) (by rw[qL,<-hl];exact h1) (by simpa using ew) ⟨rfl,fin⟩) hs
theorem Zgm (jH:List Value)(n j:Nat)(u:Value):zu (·.setIfInBounds j u) { cls:=.type "list",data:=.seq jH.toArray n } = { cls:=.type "list",data:=.seq (jH.set j u).toArray n }:=by
 simp[zu]
theorem Inv.lst {jC:Qb}{σ:St}{H:Hp}{s:Shared}{p:Addr}{xs:List V}(I:Inv X jC σ H s)(h:H p=some (.lst xs)) :
  ∃(jH:List Value) (n:Nat),ZB xs jH/\s.heap.get? p=some { cls:=.type "list",data:=.seq jH.toArray n }/\xs.length<=xg:=by
 obtain⟨z,jH,n,r,e⟩:=I.hok p _ h;exact⟨jH,n,r,e,z⟩
theorem Inv.lstUpd {jC:Qb}{σ:St}{H:Hp}{s:Shared}{p:Addr}{xs ys:List V}{jH its':List Value}{n n':Nat}{f:Obj->Obj}(I:Inv X jC σ H s)(h:H p=some (.lst xs))
  (ho:s.heap.get? p=some { cls:=.type "list",data:=.seq jH.toArray n }) (hf:f { cls:=.type "list",data:=.seq jH.toArray n } = { cls:=.type "list",data:=.seq its'.toArray n' }) (r:ZB ys its') (hz:ys.length<=xg) (t:Nat) :
  Inv X jC σ (Zn H p (.lst ys)) { s with heap:=s.heap.update p f,toks:=t }:=by
 have e:(s.heap.update p f).get? p=some { cls:=.type "list",data:=.seq its'.toArray n' }:=by
  rw[ya f ho (by rw[hf] <;> rfl),hf]
 refine I.write (x:=p) (e:=p) (by rw[h];trivial) (.inl rfl) (λb u hb q=>(yj _ _ (zO hb)).trans q) ⟨_,e⟩ ?_;exact⟨hz,its',n',r,e⟩
noncomputable def Bp:V->V->V->Hp->(Hp->Prop)->Prop:=λo i v H Q=>∃p xs k j,o=.ref p/\i=.int k/\H p=some (.lst xs)/\Uh xs.length k=some j/\Q (Zn H p (.lst (xs.set j v)))
theorem ZcG:PSet X Bp:=by
 intro jC s σ H o i v ov iv u Q I ro ri rv h;obtain⟨p,xs,k,j,rfl,rfl,hp,hj,q⟩:=h
 cases ro
 obtain⟨t,rfl⟩:=ri;obtain⟨jH,n,r,ho,hz⟩:=I.lst hp;obtain⟨h1,h2,h3,h4⟩:=Zhm hj;have hl:=r.length;have hn:=Bk;have I':Inv X jC σ (Zn H p (.lst (xs.set j v))) { s with heap:=s.heap.update p (zu (·.setIfInBounds j u)) }:=
  I.lstUpd hp ho (Zgm jH n j u) (r.set rv j) (by rw[List.length_set];exact hz) s.toks
 by_cases h0:0<=k
 ·have hk:k.toNat=j:=by
   rw[seqIndex_of h0 h4]at h1;exact zy h1
  exact PySem.W.ki_setAt ho h0 (by omega) (by rw[qL,<-hl];exact h4) (by rw[hk];exact⟨_,I',q⟩)
 ·have hk:(k+(jH.toArray.size:Int)).toNat=j:=by
   rw[seqIndex_neg (by omega) h3]at h1;rw[qL,<-hl];exact zy h1
  exact PySem.W.ki_setBack ho (by omega) (by rw[qL,<-hl];exact h3) (by omega) (by rw[hk];exact⟨_,I',q⟩)
theorem Zej (lo hi:Option Int)(n:Nat):(sliceBounds lo hi none n).1=((HT.sIx n 0 lo:Nat):Int)/\(sliceBounds lo hi none n).2.1=((HT.sIx n n hi:Nat):Int)/\(sliceBounds lo hi none n).2.2=1:=by
 refine⟨?_,?_,rfl⟩
 ·cases lo with
  | none=>simp[sliceBounds,HT.sIx]
  | some i=>
   simp only[sliceBounds,HT.sIx,Option.getD_none,show(1:Int) > 0 by decide,if_true];by_cases h:i<0
   ·simp only[h,if_true] <;> omega
   ·simp only[h,if_false] <;> omega
 ·cases hi with
  | none=>simp[sliceBounds,HT.sIx]
  | some i=>
   simp only[sliceBounds,HT.sIx,Option.getD_none,show(1:Int) > 0 by decide,if_true];by_cases h:i<0
   ·simp only[h,if_true] <;> omega
   ·simp only[h,if_false] <;> omega
theorem Zdw (jH:List Value)(lo hi:Option Int):slicePick jH.toArray lo hi none=((jH.drop (HT.sIx jH.length 0 lo)).take (HT.sIx jH.length jH.length hi-HT.sIx jH.length 0 lo)).toArray:=by
 obtain⟨h1,h2,h3⟩:=Zej lo hi jH.toArray.size;unfold slicePick;rw[h1,h2,h3];simp only[sliceRange_one,pick_run,qL] <;> rfl
noncomputable def rSlL (K:qm):V->Option Int->Option Int->Hp->VK->Prop:=λx lo hi H Q=>∃a xs,x=.ref a/\ZE K H a xs/\∀p,H p=none->Q (.ref p) (Zn H p (.lst (Vs xs lo hi)))
theorem Zlk:Ug X (rSlL X.K):=by
 intro jC s σ H x v vl vu lo hi sl Q I rx hs pl pu h;obtain⟨a,xs,rfl,hx,q⟩:=h
 cases rx
 obtain⟨jH,r,ht,hz⟩:=I.list hx;have jN:=r.length;refine⟨"list",_,slot_list_getitem.lookup,ht.isList.typeIs,?_⟩;refine wpAny_getItem_list_slice ht.isList hs pl pu .none (by simp) ?_ (by rw[qL] <;> omega);rw[Zdw,<-jN];refine⟨.ref s.heap.objs.size,_,I.laid (t':=s.toks) (o:=.lst (Vs xs lo hi)) (λb ob q=>qf _ q) (qq _) ?_,rfl,q _ (I.hok.fresh (qq _))⟩;exact⟨zb (ZbX xs lo hi) hz,_,0,(r.drop (HT.sIx xs.length 0 lo)).take (HT.sIx xs.length xs.length hi-HT.sIx xs.length 0 lo),qD _ rfl⟩
theorem B1:Y2 X (.builtin "len") (λxs H Q=>∃p ys,xs=[.ref p]/\(ZE X.K H p ys∨ZI X.K H p ys)/\Q (.int ys.length) H):=by
 intro jC s σ H xs us Q I r h;obtain⟨p,ys,rfl,hq,q⟩:=h;obtain⟨u,rfl,rx⟩:=Xu r
 cases rx
 have hn:=Bk;rcases hq with hq | hq
 ·obtain⟨jH,r',pl,hz⟩:=I.list hq
  have jN:=r'.length;exact Calls.call_len_list pl.isList (by simp only[qL] <;> omega) ⟨.int ys.length,H,I.tok _,⟨s.toks+1,by rw[qL,jN]⟩,q⟩
 ·obtain⟨jH,r',pl,hz⟩:=I.tuple hq
  have jN:=r'.length;exact len_tuple pl (by simp only[qL] <;> omega) ⟨.int ys.length,H,I.tok _,⟨s.toks+1,by rw[qL,jN]⟩,q⟩
theorem Zek:Y2 X (.type "list") (λxs H Q=>∃p ys,xs=[.ref p]/\(ZE X.K H p ys∨ZI X.K H p ys)/\∀l,H l=none->Q (.ref l) (Zn H l (.lst ys))):=by
 intro jC s σ H xs us Q I r h;obtain⟨p,ys,rfl,hq,q⟩:=h;obtain⟨u,rfl,rx⟩:=Xu r
 cases rx
 have fin:∀(jH:List Value),ZB ys jH->ys.length<=xg->∀(h':Heap) (c':Nat),(∀b o',s.heap.get? b=some o'->h'.get? b=some o')->
   h'.get? s.heap.objs.size=some { cls:=.type "list",dict:=none,data:=.seq jH.toArray c',slots:=#[] }->EP X jC σ Q (.ref s.heap.objs.size) { s with heap:=h' }:=λjH r' hz h' c' kp e=>
  ⟨.ref s.heap.objs.size,_,I.laid (t':=s.toks) kp (qq _) (show Yx X.prog X.w _ h' _ (.lst ys)from⟨hz,jH,c',r',e⟩),rfl,q _ (I.hok.fresh (qq _))⟩
 rcases hq with hq | hq
 ·obtain⟨jH,r',pl,hz⟩:=I.list hq
  have jN:=r'.length;obtain⟨o,ho,hc,n,hd⟩:=pl.isList;exact call_list_seq p (.inl rfl) ho hc hd (λh' c' kp e=>fin jH r' hz h' c' kp e) (by simp only[qL] <;> omega)
 ·obtain⟨jH,r',pl,hz⟩:=I.tuple hq
  have jN:=r'.length;obtain⟨o,ho,hc,n,hd⟩:=pl;exact call_list_seq p (.inr rfl) ho hc hd (λh' c' kp e=>fin jH r' hz h' c' kp e) (by simp only[qL] <;> omega)
theorem Zdx:Y2 X (.type "tuple") (λxs H Q=>∃p ys,xs=[.ref p]/\((ZE X.K H p ys/\∀l,H l=none->Q (.ref l) (Zn H l (.tup ys)))∨(ZI X.K H p ys/\Q (.ref p) H))):=by
 intro jC s σ H xs us Q I r h;obtain⟨p,ys,rfl,h⟩:=h;obtain⟨u,rfl,rx⟩:=Xu r
 cases rx
 rcases h with⟨hq,q⟩ | ⟨hq,q⟩
 ·obtain⟨jH,r',pl,hz⟩:=I.list hq
  have jN:=r'.length;refine call_tuple_list pl.isList (λh' kp=>?_) (by simp only[qL] <;> omega);have I1:Inv X jC σ H { s with heap:=h' }:=I.kept (t':=s.toks) kp;have I2:Inv X jC σ (Zn H h'.objs.size (.tup ys)) { s with heap:=h'.push { cls:=.type "tuple",data:=.seq jH.toArray } }:=
   I1.laid (t':=s.toks) (λb o e=>qf _ e) (qq _) (show Yx X.prog X.w _ _ _ (.tup ys)from⟨hz,jH,r',qcj _ _⟩)
  exact⟨.ref h'.objs.size,_,I2,rfl,q _ (I1.hok.fresh (qq _))⟩
 ·obtain⟨jH,r',pl,hz⟩:=I.tuple hq
  exact call_tuple_same pl ⟨.ref p,H,I,rfl,q⟩
noncomputable def tyV (K:qm)(T:String)(x:V)(H:Hp):Prop:=match x with
 | .str _=>T = "str"
 | .int _=>T = "int"
 | .ref p=>(T = "list"/\∃xs,ZE K H p xs)∨(T = "tuple"/\∃o,K.lookup p=some o/\o.cls=.type "tuple"/\o.dict=none)∨
   (T = "dict"/\((∃kvs,H p=some (.dK kvs))∨∃kvs,H p=some (.dT kvs)))∨(T = "set"/\∃S n,H p=some (.set S n))
 | _=>False
theorem Zm7 {jC:Qb}{σ:St}{H:Hp}{s:Shared}{T:String}{x:V}{v:Value}(I:Inv X jC σ H s)(r:ZJ x v)(ty:tyV X.K T x H) :
  s.TypeIs v T/\∀a,v=.ref a->∃ob,s.heap.get? a=some ob/\ob.dict=none:=by
 cases x with
 | str z=>
  obtain⟨t,rfl⟩:=r
  cases (show T = "str" from ty)
  exact⟨typeIs_str s z t,λ_ e=>nomatch e⟩
 | int i=>
  obtain⟨t,rfl⟩:=r
  cases (show T = "int" from ty)
  exact⟨typeIs_int s i t,λ_ e=>nomatch e⟩
 | ref p=>
  cases r
  rcases ty with⟨rfl,xs,hq⟩ | ⟨rfl,o,hk,hc,hd⟩ | ⟨rfl,hk⟩ | ⟨rfl,S,n,hk⟩
  ·obtain⟨jH,_,pl,_⟩:=I.list hq
   refine⟨pl.isList.typeIs,λa e=>?_⟩
   cases e
   obtain⟨o,n,e,c,hd,_⟩:=pl;exact⟨o,e,hd⟩
  ·refine⟨⟨o,I.kIn p o hk,hc⟩,λa e=>?_⟩
   cases e
   exact⟨o,I.kIn _ o hk,hd⟩
  ·have z:∃o,s.heap.get? p=some o/\o.ExactDict:=by
    rcases hk with⟨kvs,hk⟩ | ⟨kvs,hk⟩
    ·obtain⟨_,_,_,_,o,_,_,e,ex,_⟩:=I.hok p _ hk
     exact⟨o,e,ex⟩
    ·obtain⟨_,_,_,_,o,_,_,e,ex,_⟩:=I.hok p _ hk
     exact⟨o,e,ex⟩
   obtain⟨o,e,ex⟩:=z;refine⟨⟨o,e,ex.1⟩,λa e2=>?_⟩
   cases e2
   exact⟨o,e,ex.2.1⟩
  ·obtain⟨o,_,_,_,e,ex,_⟩:=I.hok p _ hk
   refine⟨⟨o,e,ex.1⟩,λa e2=>?_⟩
   cases e2
   exact⟨o,e,ex.2.1⟩
 | _=>exact yC ty
noncomputable def UR (K:qm)(T:String)(r:V->List V->Hp->VK->Prop)(to:TE)(t:TA):TE:=fun σ H Q=>to σ H λx H1=>tyV K T x H1/\t σ H1 λxs H2=>r x xs H2 Q
variable {o e:Expr}{es:List Expr}{to:TE}{t:TA}{name:Str}{apos cpos:Pos}{T id:String}{r:V->List V->Hp->VK->Prop}
theorem Zjm (pa:PlainAttrs T)(slot:Slot T name id)(hty:typeOf (.builtin id)=pure (.type "method_descriptor"))(hm:MtR X id r)(ho:PE X o to)(ha:PA X (e::es) t)
  (hbase:xq o name X.env (eval o X.env)=eval o X.env:=by rfl)
  (hfew:((backTo cpos (xh (e::es) X.env)).all (λx=>!x.1)&&(xp cpos (xi [] X.env)).all (λx=>x.1.isSome)
   && decide ((e::es).length+([]:List Keyword).length+(if ([]:List Keyword).isEmpty then 0 else 1)<30))=true:=by rfl)
  (hline:(apos.endLine==cpos.line)=true:=by rfl) (hs:xh (e::es) X.env=(false,eval e X.env)::xh es X.env:=by rfl) (hplain:(backTo cpos (xh es X.env)).any (·.1)=false:=by rfl) :
  PE X (.Call (.Attribute o name apos) (e::es) [] cpos) (UR X.K T r to t):=by
 intro jC s σ H Q I h;refine wpAny_Call_method_late hbase hfew hline rfl (ZK (ho jC s σ H _ I h) λv s1 ⟨x,H1,I1,r1,ty,q1⟩=>?_);obtain⟨h1,h2⟩:=Zm7 I1 r1 ty;refine⟨T,id,pa,slot,hty,h1,h2,?_⟩;have hA:=ha cpos jC s1 σ H1 _ I1 q1;rw[hs]at hA⊢;refine Calls.callWith_builtin (by show(false||(backTo cpos (xh es X.env)).any (·.1))=false;rw[hplain] <;> rfl) (Calls.evalArgs_plain ?_);exact ZK hA λus s2 ⟨vs,H2,I2,r2,q2⟩=>hm jC s2 σ H2 x vs v us Q I2 r1 r2 q2
end
noncomputable def MtM (X:Cx)(id:String)(r:V->List V->Hp->VK->Prop):Prop:=
 ∀(jC:Qb) (s:Shared) (σ:St) (H:Hp) (x:V) (xs:List V) (v:Value) (us:List Value) (Q:VK),Inv X jC σ H s->ZJ x v->ZB xs us->r x xs H Q->
  xf (xz X.prog X.w) X.A (call (.builtin id) (v::us)) (EP X jC σ Q) X.xe s
theorem ZB.one:∀{x:V} {us:List Value},ZB [x] us->∃u,us=[u]/\ZJ x u
 | _,_,.cons r .nil=>⟨_,rfl,r⟩
theorem ZB.two:∀{x y:V} {us:List Value},ZB [x,y] us->∃u v,us=[u,v]/\ZJ x u/\ZJ y v
 | _,_,_,.cons r (.cons q .nil)=>⟨_,_,rfl,r,q⟩
section
variable {X:Cx}{jC:Qb}{σ:St}{H:Hp}{s:Shared}{l b:Addr}{xs ys zs:List V}
theorem Inv.lset {jH its':List Value}{n:Nat}{f:Array Value->Array Value}{t':Nat}(I:Inv X jC σ H s)(hH:H l=some (.lst xs))
  (e:s.heap.get? l=some { cls:=.type "list",data:=.seq jH.toArray n }) (hf:f jH.toArray=its'.toArray) (hv:ZB ys its') (hz:ys.length<=xg) :
  Inv X jC σ (Zn H l (.lst ys)) { s with heap:=s.heap.update l (zu f),toks:=t' }:=by
 have q:=PySem.IsL.update e f;rw[hf]at q;refine I.write (x:=l) (e:=l) (by rw[hH];exact trivial) (.inl rfl) (λb' u hb hu=>(yj s.heap (zu f) (zO hb)).trans hu) ⟨_,q⟩ ?_;exact⟨hz,its',_,hv,q⟩
theorem Inv.lnew {jH:List Value}{t':Nat}(I:Inv X jC σ H s)(hv:ZB ys jH)(hz:ys.length<=xg) :
  Inv X jC σ (Zn H s.heap.objs.size (.lst ys)) { s with heap:=s.heap.push { cls:=.type "list",data:=.seq jH.toArray },toks:=t' }:=
 I.laid (λ_ _ q=>qf _ q) (qq _) ⟨hz,jH,0,hv,qD _ rfl⟩
theorem Inv.fresh (I:Inv X jC σ H s):H s.heap.objs.size=none:=I.hok.fresh (qq _)
theorem Inv.lstM (I:Inv X jC σ H s)(hH:H l=some (.lst xs)):xs.length<=xg/\∃(jH:List Value) (n:Nat),ZB xs jH/\xs.length=jH.length/\s.heap.get? l=some { cls:=.type "list",data:=.seq jH.toArray n }:=by
 obtain⟨z,jH,n,r,e⟩:=I.hok l _ hH;exact⟨z,jH,n,r,r.length,e⟩
theorem Zjn {n:Nat}(h:n<=xg):qa4 n=false:=by
 unfold qa4;exact decide_eq_false (by omega)
end
section
variable {X:Cx}
noncomputable def Zco:V->List V->Hp->VK->Prop:=λx vs H Q=>∃l xs y,x=.ref l/\vs=[y]/\H l=some (.lst xs)/\xs.length<xg/\Q .non (Zn H l (.lst (xs ++ [y])))
theorem ZdL:MtM X "list.append" Zco:=by
 intro jC s σ H x vs v us Q I rx rv h;obtain⟨l,xs,y,rfl,rfl,hH,hz,q⟩:=h
 cases rx
 obtain⟨u,rfl,ru⟩:=rv.one;obtain⟨z,jH,n,r,hl,e⟩:=I.lstM hH;refine call_meets F.slot_list_append ⟨_,e,rfl⟩ F.entry_list_append (F.args_list_append_2 _ _) (PySem.list_append l jH.toArray n u (by rw[qL];omega)) ⟨e,?_⟩;refine⟨.non,_,I.lset (its':=jH ++ [u]) hH e (by simp) (r.append (.cons ru .nil)) ?_,rfl,q⟩;rw[qE,qbu];omega
noncomputable def Zcp:V->List V->Hp->VK->Prop:=λx vs H Q=>∃l b xs zs,x=.ref l/\vs=[.ref b]/\H l=some (.lst xs)/\H b=some (.lst zs)/\xs.length+zs.length<=xg/\Q .non (Zn H l (.lst (xs++zs)))
theorem Zib:MtM X "list.extend" Zcp:=by
 intro jC s σ H x vs v us Q I rx rv h;obtain⟨l,b,xs,zs,rfl,rfl,hH,hB,hz,q⟩:=h
 cases rx
 obtain⟨u,rfl,ru⟩:=rv.one
 cases ru
 obtain⟨z,jH,n,r,hl,e⟩:=I.lstM hH;obtain⟨z2,jU,n2,r2,hl2,e2⟩:=I.lstM hB;have hsz:jH.toArray.size+jU.toArray.size<=xg:=by rw[qL,qL];omega
 have hlong:¬(!jH.toArray.isEmpty&&qa4 (jH.toArray.size+jU.toArray.size))=true:=by
  rw[Zjn hsz,Bool.and_false];exact qaa
 refine call_meets F.slot_list_extend ⟨_,e,rfl⟩ F.entry_list_extend (F.args_list_extend_2 _ _)
  (AutoSeq1.list_extend_list_list_0 l jH.toArray n b jU.toArray n2 hlong (by rw[qL];omega) (by omega)) ⟨e,e2,?_⟩
 refine⟨.non,_,I.lset (its':=jH++jU) hH e (by simp) (r.append r2) ?_,rfl,q⟩;rw[qE];omega
noncomputable def rCat:R2:=λx y H Q=>∃l b xs zs,x=.ref l/\y=.ref b/\H l=some (.lst xs)/\H b=some (.lst zs)/\xs.length+zs.length<=xg/\∀p,H p=none->Q (.ref p) (Zn H p (.lst (xs++zs)))
theorem Zm8:Yp X (binaryOp .Add) rCat:=by
 intro jC s σ H x y v u Q I rx ry h;obtain⟨l,b,xs,zs,rfl,rfl,hH,hB,hz,q⟩:=h
 cases rx
 cases ry
 obtain⟨z,jH,n,r,hl,e⟩:=I.lstM hH;obtain⟨z2,jU,n2,r2,hl2,e2⟩:=I.lstM hB;refine PySem.P.add_list e e2 ?_ (by rw[qL,qL];omega);have ea:jH.toArray++jU.toArray=(jH++jU).toArray:=by simp
 rw[ea];exact⟨.ref _,_,I.lnew (t':=s.toks) (r.append r2) (by rw[qE];omega),rfl,q _ I.fresh⟩
end
section
variable {prog:xB}{w:World}{A:xC}{E:xD}{s:Shared}
end
section
variable {X:Cx}
end
section
variable {κ:Type}[DecidableEq κ]
noncomputable def Yb (kvs:List (κ×V))(k:κ):Option V:=(kvs.find? λkv=>decide (kv.1=k)).map (·.2)
noncomputable def Ys (kvs:List (κ×V))(k:κ)(v:V):List (κ×V):=
 if (kvs.any λkv=>decide (kv.1=k))=true then kvs.map (λkv=>if kv.1=k then (kv.1,v)else kv)else kvs ++ [(k,v)]
theorem WH {p:κ×V}{r:List (κ×V)}{k:κ}(e:p.1=k):Yb (p::r) k=some p.2:=by simp[Yb,qah,e]
theorem WI {p:κ×V}{r:List (κ×V)}{k:κ}(e:¬p.1=k):Yb (p::r) k=Yb r k:=by simp[Yb,qah,e]
theorem J9 (k:κ):∀kvs:List (κ×V),(kvs.any λkv=>decide (kv.1=k))=(Yb kvs k).isSome
 | []=>rfl
 | p::r=>by
  rw[qaV];by_cases e:p.1=k
  ·simp only[WH e,decide_eq_true e,Bool.true_or,Option.isSome_some]
  ·rw[WI e,decide_eq_false e,Bool.false_or];exact J9 k r
theorem Ze9 (k j:κ)(y:V):∀kvs:List (κ×V),Yb (kvs.map λkv=>if kv.1=k then (kv.1,y)else kv) j=(Yb kvs j).map λx=>if j=k then y else x
 | []=>rfl
 | p::r=>by
  have ih:=Ze9 k j y r;rw[qX];by_cases h:p.1=k
  ·rw[if_pos h]
   by_cases e:p.1=j
   ·rw[WH (p:=(p.1,y)) e,WH e,yd,if_pos (e.symm.trans h)]
   ·rw[WI (p:=(p.1,y)) e,WI e,ih]
  ·rw[if_neg h]
   by_cases e:p.1=j
   ·rw[WH (p:=p) e,WH e,yd,if_neg (λz=>h (e.trans z))]
   ·rw[WI (p:=p) e,WI e,ih]
theorem ZdM (k j:κ)(y:V):∀kvs:List (κ×V),Yb kvs k=none->Yb (kvs ++ [(k,y)]) j=if j=k then some y else Yb kvs j
 | [],_=>by
  by_cases e:k=j
  ·rw[if_pos e.symm];exact WH (p:=(k,y)) e
  ·rw[if_neg (λz=>e z.symm)];exact WI (p:=(k,y)) e
 | p::r,hn=>by
  rw[qbq];have hk:¬p.1=k:=λz=>by rw[WH z]at hn;cases hn
  rw[WI hk]at hn;have ih:=ZdM k j y r hn;by_cases e:p.1=j
  ·rw[WH e,WH e,if_neg (λz=>hk (e.trans z))]
  ·rw[WI e,WI e,ih]
theorem Zfa (kvs:List (κ×V))(k j:κ)(y:V):Yb (Ys kvs k y) j=if j=k then some y else Yb kvs j:=by
 unfold Ys;by_cases a:(kvs.any λkv=>decide (kv.1=k))=true
 ·rw[if_pos a,Ze9]
  rw[J9]at a;by_cases e:j=k
  ·obtain⟨x,hx⟩:=qau.mp a
   rw[if_pos e,e,hx,yd,if_pos rfl]
  ·rw[if_neg e]
   cases Yb kvs j with
   | none=>rfl
   | some x=>rw[yd,if_neg e]
 ·rw[if_neg a]
  refine ZdM k j y kvs ?_;rw[J9]at a
  cases q:Yb kvs k with
  | none=>rfl
  | some x=>rw[q]at a;exact(a rfl).elim
theorem Uq (kvs:List (κ×V))(k:κ)(v:V):(Ys kvs k v).length<=kvs.length+1:=by
 unfold Ys;split
 ·rw[qd];omega
 ·rw[qE,qO,qag];omega
theorem Zjo {kvs:List (κ×V)}{k:κ}(v:V)(h:Yb kvs k=none):Ys kvs k v=kvs ++ [(k,v)]:=by
 unfold Ys;rw[J9,h];exact if_neg (by decide)
theorem UG.isSome_eq {o:Option V}{u:Option Value}(r:UG o u):o.isSome=u.isSome:=by
 cases o with
 | none=>cases u with
  | none=>rfl
  | some _=>exact(show False from r).elim
 | some _=>cases u with
  | none=>exact(show False from r).elim
  | some _=>rfl
theorem KV.val {kvs:List (κ×V)}{vs:List (κ×Value)}(r:KV kvs vs)(k:κ):UG (Yb kvs k) (valueAt vs k):=by
 unfold KV at r
 induction r with
 | nil=>exact y6
 | @cons p q ps qs h t ih=>
  obtain⟨h1,h2⟩:=h;by_cases e:p.1=k
  ·have e':q.1=k:=h1.symm.trans e
   have b:valueAt (q::qs) k=some q.2:=by simp[valueAt,qah,e']
   rw[WH e,b];exact h2
  ·have e':¬q.1=k:=λz=>e (h1.trans z)
   have b:valueAt (q::qs) k=valueAt qs k:=by simp[valueAt,qah,e']
   rw[WI e,b];exact ih
theorem KV.any {kvs:List (κ×V)}{vs:List (κ×Value)}(r:KV kvs vs)(k:κ):(kvs.any λkv=>decide (kv.1=k))=vs.any λkv=>decide (kv.1=k):=by
 unfold KV at r
 induction r with
 | nil=>rfl
 | cons h t ih=>rw[qaV,qaV,ih,h.1]
theorem KV.repl {kvs:List (κ×V)}{vs:List (κ×Value)}(r:KV kvs vs)(k:κ){y:V}{u:Value}(ry:ZJ y u) :
  KV (kvs.map λkv=>if kv.1=k then (kv.1,y)else kv) (vs.map λkv=>if kv.1=k then (kv.1,u)else kv):=by
 unfold KV at r⊢
 induction r with
 | nil=>exact .nil
 | @cons p q ps qs h t ih=>
  rw[qX,qX];refine .cons ?_ ih;obtain⟨h1,h2⟩:=h;by_cases e:p.1=k
  ·rw[if_pos e,if_pos (h1.symm.trans e)];exact⟨h1,ry⟩
  ·rw[if_neg e,if_neg (λz=>e (h1.trans z))];exact⟨h1,h2⟩
theorem KV.put {kvs:List (κ×V)}{vs:List (κ×Value)}(r:KV kvs vs)(k:κ){y:V}{u:Value}(ry:ZJ y u):KV (Ys kvs k y) (stored vs k u):=by
 unfold Ys stored;rw[r.any k];by_cases e:(vs.any λkv=>decide (kv.1=k))=true
 ·rw[if_pos e,if_pos e];exact r.repl k ry
 ·rw[if_neg e,if_neg e];exact Paired.snoc r ⟨rfl,ry⟩
theorem KV.length {kvs:List (κ×V)}{vs:List (κ×Value)}(r:KV kvs vs):kvs.length=vs.length:=qak r
end
theorem Bq {P:xB}{w:World}{k:Zu}{u:Value}(r:ZJ (kV k) u):(Wf P w).is k u=true:=by
 cases k with
 | inl i=>obtain⟨t,e⟩:=(show ∃t,u=qbt i t from r);subst e;exact Ze4 P w i t
 | inr x=>obtain⟨t,e⟩:=(show ∃t,u=qcS x t from r);subst e;exact Ze5 P w x t
theorem ZdN {P:xB}{w:World}:∀{ks:List Zu} {us:List Value},ZB (ks.map kV) us->ItemsAre (Wf P w) ks us
 | [],_,r=>by rw[qby]at r;cases r;exact .nil
 | k::ks,_,r=>by
  rw[qX]at r
  cases r with
  | cons h t=>exact .cons (Bq h) (ZdN t)
noncomputable abbrev KT (H:Hp):List (List Zu×V)->List (List Zu×Addr×Value)->Prop:=Paired λp q=>p.1=q.1/\H q.2.1=some (.tup (p.1.map kV))/\ZJ p.2 q.2.2
theorem KT.val {H:Hp}{kvs:List (List Zu×V)}{xs:List (List Zu×Addr×Value)}(r:KT H kvs xs)(k:List Zu):UG (Yb kvs k) ((atKey xs k).map (·.2)):=by
 induction r with
 | nil=>exact y6
 | @cons p q ps qs h t ih=>
  obtain⟨h1,_,h2⟩:=h;by_cases e:p.1=k
  ·have e':q.1=k:=h1.symm.trans e
   have b:atKey (q::qs) k=some q.2:=by simp[atKey,qah,e']
   rw[WH e,b];exact h2
  ·have e':¬q.1=k:=λz=>e (h1.trans z)
   have b:atKey (q::qs) k=atKey qs k:=by simp[atKey,qah,e']
   rw[WI e,b];exact ih
theorem KT.repl {H:Hp}{kvs:List (List Zu×V)}{xs:List (List Zu×Addr×Value)}(r:KT H kvs xs)(k:List Zu){y:V}{u:Value}(ry:ZJ y u) :
  KT H (kvs.map λkv=>if kv.1=k then (kv.1,y)else kv) (xs.map (putAt k u)):=by
 induction r with
 | nil=>exact .nil
 | @cons p q ps qs h t ih=>
  rw[qX,qX];refine .cons ?_ ih;obtain⟨h1,h2,h3⟩:=h;unfold putAt;by_cases e:p.1=k
  ·rw[if_pos e,if_pos (h1.symm.trans e)];exact⟨h1,h2,ry⟩
  ·rw[if_neg e,if_neg (λz=>e (h1.trans z))];exact⟨h1,h2,h3⟩
theorem KT.put {H:Hp}{kvs:List (List Zu×V)}{xs:List (List Zu×Addr×Value)}(r:KT H kvs xs)(k:List Zu){b:Addr}{y:V}{u:Value}(hb:H b=some (.tup (k.map kV)))(ry:ZJ y u) :
  KT H (Ys kvs k y) (storedH xs k b u):=by
 have e:(kvs.any λkv=>decide (kv.1=k))=(atKey xs k).isSome:=by
  rw[J9,(r.val k).isSome_eq,qbS]
 unfold Ys storedH;rw[e];by_cases q:(atKey xs k).isSome=true
 ·rw[if_pos q,if_pos q];exact r.repl k ry
 ·rw[if_neg q,if_neg q];exact Paired.snoc r ⟨rfl,hb,ry⟩
theorem KT.keeps {H H':Hp}{kvs:List (List Zu×V)}{xs:List (List Zu×Addr×Value)}(r:KT H kvs xs)(ht:∀b ys,H b=some (.tup ys)->H' b=some (.tup ys)):KT H' kvs xs:=
 Paired.mapP r λ_ _ z=>⟨z.1,ht _ _ z.2.1,z.2.2⟩
section
variable {P:xB}{w:World}{H:Hp}{h:Heap}{a:Addr}
theorem Zmr {u:HO}(ok:Yo P w H h)(e:Rd H a u):Yx P w H h a u:=e.ok ok
theorem Zjp {kvs:List (Zu×V)}(ok:Yo P w H h)(e:Rd H a (.dK kvs)):kvs.length<=xg/\(a==sysModules)=false/\∃vs,KV kvs vs/\h.DictOf (Wf P w) a vs:=
 show Yx P w H h a (.dK kvs)from Zmr ok e
theorem Zms {kvs:List (Zu×V)}(ok:Yo P w H h)(e:H a=some (.dK kvs)):kvs.length<=xg/\(a==sysModules)=false/\∃vs,KV kvs vs/\h.DictOf (Wf P w) a vs:=Zjp ok (.inl e)
theorem Bl {ks:List Zu}(ok:Yo P w H h)(e:H a=some (.tup (ks.map kV))):(tupleKind (Wf P w)).is h ks a:=by
 obtain⟨_,jH,r,o,h1,h2,n,h3⟩:=(show Yx P w H h a (.tup (ks.map kV))from ok a _ e);exact⟨o,jH.toArray,n,h1,h2,h3,by simpa using ZdN r⟩
theorem Zjq {kvs:List (List Zu×V)}(ok:Yo P w H h)(e:Rd H a (.dT kvs)):kvs.length<=xg/\(a==sysModules)=false/\
  ∃xs,KT H kvs xs/\h.DictOfH (tupleKind (Wf P w)) a xs:=by
 obtain⟨z,y,xs,r,o,es,ep,h1,h2,h3,h4,h5⟩:=(show Yx P w H h a (.dT kvs)from Zmr ok e);refine⟨z,y,xs,r,o,es,ep,h1,h2,h3,h4,λx hx=>?_,h5⟩;have all:∀{l:List (List Zu×V)} {m:List (List Zu×Addr×Value)},KT H l m->∀x∈m,(tupleKind (Wf P w)).is h x.1 x.2.1:=by
  intro l m q
  induction q with
  | nil=>intro x hx;exact nomatch hx
  | @cons p q ps qs hq t ih=>
   intro x hx;rcases qu.mp hx with e | hx
   ·subst e
    exact Bl ok (by rw[<-hq.1];exact hq.2.1)
   ·exact ih x hx
 exact all r x hx
theorem Zmt {kvs:List (List Zu×V)}(ok:Yo P w H h)(e:H a=some (.dT kvs)):kvs.length<=xg/\(a==sysModules)=false/\
  ∃xs,KT H kvs xs/\h.DictOfH (tupleKind (Wf P w)) a xs:=Zjq ok (.inl e)
end
noncomputable def Vb (H:Hp)(a:Addr)(y:V)(r:Option V):Prop:=
 (∃kvs k,Rd H a (.dK kvs)/\y=kV k/\r=Yb kvs k)∨∃kvs k b,Rd H a (.dT kvs)/\y=.ref b/\H b=some (.tup (k.map kV))/\r=Yb kvs k
noncomputable def WR (H:Hp)(a:Addr)(y v:V)(H':Hp):Prop:=
 (∃kvs k,H a=some (.dK kvs)/\y=kV k/\kvs.length<xg/\H'=Zn H a (.dK (Ys kvs k v)))∨
 ∃kvs k b,H a=some (.dT kvs)/\y=.ref b/\H b=some (.tup (k.map kV))/\kvs.length<xg/\H'=Zn H a (.dT (Ys kvs k v))
theorem Vb.k {H:Hp}{a:Addr}{kvs:List (Zu×V)}{k:Zu}(e:H a=some (.dK kvs)):Vb H a (kV k) (Yb kvs k):=.inl ⟨kvs,k,.inl e,rfl,rfl⟩
theorem Vb.t {H:Hp}{a b:Addr}{kvs:List (List Zu×V)}{k:List Zu}(e:H a=some (.dT kvs))(eb:H b=some (.tup (k.map kV))):Vb H a (.ref b) (Yb kvs k):=.inr ⟨kvs,k,b,.inl e,rfl,eb,rfl⟩
theorem WR.k {H:Hp}{a:Addr}{kvs:List (Zu×V)}{k:Zu}{v:V}(e:H a=some (.dK kvs))(hl:kvs.length<xg):WR H a (kV k) v (Zn H a (.dK (Ys kvs k v))):=.inl ⟨kvs,k,e,rfl,hl,rfl⟩
theorem WR.t {H:Hp}{a b:Addr}{kvs:List (List Zu×V)}{k:List Zu}{v:V}(e:H a=some (.dT kvs))(eb:H b=some (.tup (k.map kV)))(hl:kvs.length<xg) :
  WR H a (.ref b) v (Zn H a (.dT (Ys kvs k v))):=.inr ⟨kvs,k,b,e,rfl,eb,hl,rfl⟩
section
variable {X:Cx}{jC:Qb}{σ:St}{H:Hp}{s:Shared}{a:Addr}{y v:V}{u r:Value}{o:Option V}{A:xC}{E:xD}
theorem Inv.big (I:Inv X jC σ H s):sysModules<s.heap.objs.size:=by
 have h:mainGlobals<s.heap.objs.size:=(I.mod.glob.keeps I.bk).lt;exact qab (by decide) h
theorem d_in {Q:xD}(hu:A.units+1<cLine)(I:Inv X jC σ H s)(g:Vb H a y o)(ry:ZJ y u)(h:∀s',Inv X jC σ H s'->Q (.bool o.isSome) s') :
  xf (xz X.prog X.w) A (xk .In u (.ref a)) Q E s:=by
 rcases g with⟨kvs,k,e,ey,l⟩ | ⟨kvs,k,b,e,ey,eb,l⟩
 ·subst ey
  obtain⟨z,hd,vs,rel,dd⟩:=Zjp I.hok e;refine wpAny_in_of (Bq ry) hd dd.mapOf ?_;rw[<-(rel.val k).isSome_eq,<-l];exact h _ (I.tok _)
 ·subst ey
  cases (show u=qY b from ry)
  obtain⟨z,hd,xs,rel,dd⟩:=Zjq I.hok e;refine wpAny_in_heap (tupleKind_room_in1 hu) (Bl I.hok eb) hd dd ?_;have q:=(rel.val k).isSome_eq;rw[qbS]at q;rw[<-q,<-l];exact h _ (I.tok _)
theorem Zll {Q:xD}(hu:A.units+1<cLine)(I:Inv X jC σ H s)(g:Vb H a y o)(ry:ZJ y u)(h:∀s',Inv X jC σ H s'->Q (.bool (!o.isSome)) s') :
  xf (xz X.prog X.w) A (xk .NotIn u (.ref a)) Q E s:=by
 rcases g with⟨kvs,k,e,ey,l⟩ | ⟨kvs,k,b,e,ey,eb,l⟩
 ·subst ey
  obtain⟨z,hd,vs,rel,dd⟩:=Zjp I.hok e;refine wpAny_notIn_of (Bq ry) hd dd.mapOf ?_;rw[<-(rel.val k).isSome_eq,<-l];exact h _ (I.tok _)
 ·subst ey
  cases (show u=qY b from ry)
  obtain⟨z,hd,xs,rel,dd⟩:=Zjq I.hok e;refine wpAny_notIn_heap (tupleKind_room_in1 hu) (Bl I.hok eb) hd dd ?_;have q:=(rel.val k).isSome_eq;rw[qbS]at q;rw[<-q,<-l];exact h _ (I.tok _)
theorem Zcq {h':Heap}{t':Nat}{ob:HO}(I:Inv X jC σ H s)(mu:BO (H a))(hs:yh a s.heap h')(he:∃q,h'.get? a=some q)(new:Yx X.prog X.w (Zn H a ob) h' a ob) :
  Inv X jC σ (Zn H a ob) { s with heap:=h',toks:=t' }:=
 I.write (x:=a) (e:=a) mu (.inl rfl) (λb q hb z=>(hs.2 b hb).trans z) he new
theorem Zjr {P:xB}{w:World}{H':Hp}{h':Heap}{kvs:List (Zu×V)}{vs:List (Zu×Value)}(z:kvs.length<=xg)(hd:(a==sysModules)=false)(rel:KV kvs vs)(dd:h'.DictOf (Wf P w) a vs) :
  Yx P w H' h' a (.dK kvs):=⟨z,hd,vs,rel,dd⟩
theorem Zic {H':Hp}{Q:Unit->Shared->Prop}(hu:A.units+1<cLine)(I:Inv X jC σ H s)(g:WR H a y v H')(ry:ZJ y u)(rv:ZJ v r)(h:∀s',Inv X jC σ H' s'->Q () s') :
  xf (xz X.prog X.w) A (setItem (.ref a) u r) Q E s:=by
 rcases g with⟨kvs,k,e,ey,l,eH⟩ | ⟨kvs,k,b,e,ey,eb,l,eH⟩
 ·subst ey eH
  obtain⟨z,hd,vs,rel,dd⟩:=Zms I.hok e;have hz:vs.length<=xg:=by rw[<-rel.length];exact z
  have hl:(Ys kvs k v).length<=xg:=by have:=Uq kvs k v;omega
  refine wpAny_setItem_pairs (hsz:=hz) (Bq ry) dd λh' dd' hs=>h _ ?_;have he:∃q,h'.get? a=some q:=let ⟨q,_,_,hq,_⟩:=dd';⟨q,hq⟩;exact Zcq I (by rw[e];exact y6) hs he (Zjr hl hd (rel.put k rv) dd')
 ·subst ey eH
  cases (show u=qY b from ry)
  obtain⟨z,hd,xs,rel,dd⟩:=Zmt I.hok e;have hz:xs.length<=xg:=by rw[<-qak rel];exact z
  have hl:(Ys kvs k v).length<=xg:=by have:=Uq kvs k v;omega
  refine wpAny_setItem_heap (hsz:=hz) (tupleKind_room_in1 hu) (Bl I.hok eb) dd λh' dd' hs=>h _ ?_;obtain⟨q,es,ep,hq,h2,h3,h4,_,h5⟩:=dd';refine Zcq I (by rw[e];exact y6) hs ⟨q,hq⟩ ⟨hl,hd,_,(rel.put k eb rv).keeps λc ys ec=>?_,q,es,ep,hq,h2,h3,h4,h5⟩;rw[Zx (Zmp ec e (λz=>nomatch z))];exact ec
end
section
variable {X:Cx}{jC:Qb}{σ:St}{H:Hp}{s:Shared}{a:Addr}{kvs:List (Zu×V)}{k:Zu}{u:Value}{A:xC}{E:xD}
end
noncomputable def Zoh (td ty tv:TE):TS:=λD σ H=>tv σ H λv H1=>td σ H1 λx H2=>ty σ H2 λy H3=>∃a H4,x=.ref a/\WR H3 a y v H4/\D.nx σ H4
section
variable {X:Cx}{o i e value:Expr}{pos pos' tpos:Pos}{td ty tv:TE}
theorem Zlm (hu:X.A.units+1<cLine)(ho:PE X o td)(hi:PE X i ty)(hv:PE X value tv)(hs:xr value (some (.Subscript o i pos')) pos.line X.env=pure false) :
  PS X (.Assign [.Subscript o i pos'] value pos) (Zoh td ty tv):=by
 intro jC s σ H D I h;refine wpAny_Assign_Subscript (ZK (hv jC s σ H _ I h) λr s1 ⟨v,H1,I1,rv,q1⟩=>ZK (ho jC s1 σ H1 _ I1 q1) λu s2 ⟨x,H2,I2,rx,q2⟩=>ZK (hi jC s2 σ H2 _ I2 q2) λiv s3 ⟨y,H3,I3,ry,a,H4,ex,g,q3⟩=>?_) hs;subst ex;obtain rfl:u=qY a:=rx;exact Zic hu I3 g ry rv λs4 I4=>⟨σ,H4,I4,q3⟩
end
theorem Zjs {P:xB}{w:World}{H:Hp}(h:Heap)(hb:sysModules<h.objs.size):Yx P w H (h.push { cls:=.type "dict",data:=.dict #[] }) h.objs.size (.dK []):=
 ⟨zB _,beq_eq_false_iff_ne.mpr (zO (qS hb)),[],.nil,Heap.DictOf.new h⟩
theorem Zfb {P:xB}{w:World}{H:Hp}(h:Heap)(hb:sysModules<h.objs.size):Yx P w H (h.push { cls:=.type "dict",data:=.dict #[] }) h.objs.size (.dT []):=
 ⟨zB _,beq_eq_false_iff_ne.mpr (zO (qS hb)),[],.nil,_,#[],0,qD _ rfl,⟨rfl,rfl,rfl⟩,rfl,rfl,qbG⟩
noncomputable def Zm9:TE:=λ_ H Q=>∀p,H p=none->Q (.ref p) (Zn H p (.dT []))
section
variable {X:Cx}{pos:Pos}
theorem Zjt:PE X (.Dict [] [] pos) Zm9:=λjC s σ H Q I h=>
 wpAny_Dict_empty ⟨.ref s.heap.objs.size,_,I.laid (a:=s.heap.objs.size) (o:=.dT []) (t':=s.toks) (λ_ _ q=>qf _ q) (qq _) (Zfb s.heap I.big),rfl,h _ (I.hok.fresh (qq _))⟩
end
section
variable {X:Cx}{jC:Qb}{σ:St}{H:Hp}{s:Shared}{a:Addr}{y d:V}{u r:Value}{o:Option V}{A:xC}{E:xD}
end
section
variable {X:Cx}{o e f:Expr}{apos cpos:Pos}{td ty tx:TE}
end
section
variable {X:Cx}{jC:Qb}{σ:St}{H:Hp}{s:Shared}{a:Addr}{kvs:List (Zu×V)}{A:xC}{E:xD}
end
section
variable {X:Cx}{jC:Qb}{σ:St}{H:Hp}{s:Shared}{a:Addr}{y:V}{u:Value}{A:xC}{E:xD}
end
end L2
namespace Att
open PySem.W PySem.Calls
theorem Zcd {P:Params}{h:Heap}:∀(ns:List Int) (vs:List Value),WellAll P h vs (ns.map WData.int)->IntsAre vs ns:=by
 intro ns
 induction ns with
 | nil=>
  intro vs w;rw[qby]at w
  cases w
  exact .nil
 | cons n ns ih=>
  intro vs w;rw[qX]at w
  cases w with
  | cons a b=>
   cases a
   exact .cons _ _ (ih _ b)
theorem Zid {l:OpenLaw}{n:Nat}(hn:l.most=some n){P:Params}{h:Heap}{args:List WData}{vals:List Value}
  (hpre:l.row.toRowW.claim.pre args=true) (hwl:WellAll P h vals args) :
  ∃a vs ns,vals=[qY a]/\args=[WData.list (ns.map WData.int)]/\h.get? a=some { cls:=.type "list",data:=.seq vs.toArray }/\IntsAre vs ns/\ns.length<=n:=by
 have hsh:WShape.hasAll [] args [.list .int]=true:=(pre_splitW hpre).1;have hc:l.pre.holds [] { args:=args }=true:=(pre_splitW hpre).2;obtain⟨d,r,rfl,h1,h2⟩:=hasAllW_cons hsh;obtain rfl:=hasAllW_nil h2;obtain⟨xs,rfl,h3⟩:=hasW_list h1;obtain⟨ns,rfl⟩:=items_int h3;have jN:ns.length<=n:=by
  unfold OpenLaw.pre at hc;have h4:(WTm.not (.lt (.lit (.int (n:Int))) (.len (.arg 0)))).holds [] { args:=[.list (ns.map .int)] }=true:=by
   have h4:=(holds_andW hc).1;rw[hn]at h4;exact h4
  have h5:=condW_of h4 (w_not (w_lt w_lit (w_len_list (w_arg rfl))));rw[qd]at h5;refine Nat.le_of_not_lt λq=>?_;have q':(n:Int)<((ns.length:Nat):Int):=by omega
  first
   | (rw[decide_eq_true q']at h5;exact absurd h5 (by decide))
   | (simp at h5;omega)
 cases hwl with
 | cons w1 w2=>
  cases w2
  cases w1 with
  | list ho hall=>exact⟨_,_,ns,rfl,rfl,ho,Zcd ns _ hall,jN⟩
theorem Zie (l:OpenLaw)(args:List WData):l.row.toRowW.claim.post args (.bool true) args=true:=
 postW_of (r:=l.row.toRowW) (X:=(true==true))
  (show WShape.has [] (.bool true) .bool=true by first | rfl | decide | simp[WShape.has,WShape.arms,WShape.armsAll])
  (show(WTm.eq .res (.lit (.bool true))).value [] { args:=args,res:=some (.bool true),after:=args }=some (.bool (true==true))from w_eq_bool (w_res rfl) w_lit) rfl
theorem attach_call {l:OpenLaw}{n:Nat}{q:xB}{loose:List Str}{XP:(Str->Option Value)->Heap->Prop}{YP:World->Heap->Prop}{d:DefRec}
  (hn:l.most=some n) (hdf:d.params.defaults=[])
  (call:∀(w:World) (s₀ s₁:Shared) (mg mb:Str->Option Value) (fa:Addr) (o:Obj) (pm cd doc:Value) (a:Addr) (vs:List Value) (ns:List Int),
   Ground q loose [] XP w s₀ mg mb s₁.heap->YP w s₁.heap->
   s₁.heap.get? fa=some o->o.data=.func (docDef d.name d.params d.body d.scope pm cd doc)->s₁.heap.CodeRec cd d.name->mg d.name=some (.ref fa)->
   s₁.heap.get? a=some { cls:=.type "list",data:=.seq vs.toArray }->IntsAre vs ns->ns.length<=n->s₁.gens = #[]->
   xo (xz l.prog w) callerA (.call (.ref fa) ⟨[.ref a],[]⟩) (λr s'=>r=.ok (.ret (.bool true))/\OldK s₁.heap s'.heap/\s'.os=s₁.os/\AllBare s'.gens) s₁) :
  WalkO q loose XP YP l.row.toRowW d [] (λf vs=>qcA f vs):=by
 intro w s₀ s₁ mg mb G Y fa o pm cd doc dV kV ho hd hcd hD hmg hg args vals as hpre hlay hrd hwl hlo;obtain rfl:dV=.none:=Dflts.none hD hdf;obtain rfl:kV=.none:=Dflts.noKw hD;obtain⟨a,vs,ns,rfl,rfl,hobj,hints,jN⟩:=Zid hn hpre hwl;refine enter_call (codeAny_mono (call w s₀ s₁ mg mb fa o pm cd doc a vs ns G Y ho (fd_plain hd) hcd hmg hobj hints jN hg) λr s' hq=>?_);obtain⟨rfl,h2,h3,h4⟩:=hq;exact⟨.inl ⟨.bool true,.bool true,[],rfl,λ_=>rfl,.bool true,Zie l _,λ_=>⟨yn,λ_ hm=>(nomatch hm)⟩⟩,h2,h3,h4⟩
section
variable {prog:xB}{w:World}{A:xC}{E:xD}{s:Shared}{K:Frag}
end
end Att
namespace L2
theorem ZdO:∀{vs:List Value} {ns:List Int},IntsAre vs ns->ZB (ns.map V.int) vs
 | _,_,.nil=>.nil
 | _,_,.cons n t h=>.cons ⟨t,rfl⟩ (ZdO h)
noncomputable def WL (s:Stmt):Arguments:=match s with
 | .FunctionDef _ a _ _ _ _ _ _ _ _=>a
 | _=>{ posonlyargs:=[],args:=[],vararg:=none,kwonlyargs:=[],kw_defaults:=[],kwarg:=none,defaults:=[] }
noncomputable def Wg (s:Stmt):List Stmt:=match s with
 | .FunctionDef _ _ b _ _ _ _ _ _ _=>b
 | _=>[]
noncomputable def ZH (s:Stmt):Scope:=match s with
 | .FunctionDef _ _ _ _ _ _ sc _ _ _=>sc
 | _=>{ kind:=.function,names:=[],isGenerator:=false,isCoroutine:=false }
noncomputable abbrev ZW:XU:=λ_ _ _ _ _ _=>False
noncomputable abbrev E0:XK:=λ_ _ _=>False
theorem Zmu {X:Cx}:Zei ZW X E0:=λ_ _ _ _ _ _ _ h=>h.elim
structure Fun (K:qm)(x qual:Str)(st:Stmt)(f:Addr)(fd:xA):Prop where
 ex:∃(oc:Value) (od:Option Addr) (kV doc pm:Value) (an:Option Addr) (cdv ct:Value) (osl:Array (Option Value)),
  fd=yR x qual (WL st) (Wg st) (ZH st) .none kV doc pm an cdv ct/\K.lookup f=some ⟨oc,od,.func fd,osl⟩/\qba K cdv qual=true
 kp:yL K (.ref f)=true
section
variable {P:xB}{w:World}{K:qm}{mg:Str->Option Value}{base:Heap}
theorem Fun.ok {x qual:Str}{st:Stmt}{f:Addr}{fd:xA}{N ps:List Str}{k:Nat}{sp:Sp}(F:Fun K x qual st f fd)(S:FnScope N ps (ZH st))(len:∀vs H Q E,sp vs H Q E->vs.length=ps.length)
  (hbody:∀(cdv:Value) (A:xC) (outer:List Env) (s:Shared) (H:Hp) (vs:List V) (Q:VK) (E:XK),Room k (A.deeper (envOfC qual (ZH st) s.heap.objs.size f cdv))->sp vs H Q E->
   ∃t,Wj (Vr ZW P w K mg base N qual (ZH st) f cdv A outer s H E).nox (Wg st) t/\t { nx:=λ_ H'=>Q .non H',rt:=Q } (start N vs) H):FnOk P w K mg base ZW (k+1) f fd ps sp:=by
 obtain⟨oc,od,kV,doc,pm,an,cdv,ct,osl,rfl,lk,hcd⟩:=F.ex;refine Zmq lk hcd S len λA outer s H vs Q E hr hsp=>?_;obtain⟨t,h,q⟩:=hbody cdv A outer s H vs Q E hr hsp;exact⟨t,h.nox,q⟩
theorem Fun.binds {x qual:Str}{st:Stmt}{f:Addr}{fd:xA}{ps:List Str}(F:Fun K x qual st f fd)
  (h:∀(kV doc pm:Value) (an:Option Addr) (cdv ct:Value) (us:List Value),us.length=ps.length->bindArgs (yR x qual (WL st) (Wg st) (ZH st) .none kV doc pm an cdv ct) ⟨us,[]⟩=pure (ps.zip us)):Wi K fd ps []:=by
 obtain⟨oc,od,kV,doc,pm,an,cdv,ct,osl,rfl,lk,hcd⟩:=F.ex;exact .all (h kV doc pm an cdv ct)
theorem Zna {x qual:Str}{st:Stmt}{f:Addr}{oc:Value}{od an:Option Addr}{osl:Array (Option Value)}{kV doc pm cdv ct:Value}(l:K.lookup f=some ⟨oc,od,.func (yR x qual (WL st) (Wg st) (ZH st) .none kV doc pm an cdv ct),osl⟩)
  (c:qba K cdv qual=true) (k:yL K (.ref f)=true):Fun K x qual st f (yR x qual (WL st) (Wg st) (ZH st) .none kV doc pm an cdv ct):=⟨⟨oc,od,kV,doc,pm,an,cdv,ct,osl,rfl,l,c⟩,k⟩
end
theorem hu_of {A:xC}{k:Nat}(hr:Room k A):A.units+1<cLine:=Nat.lt_of_le_of_lt (Nat.add_le_add_left (by decide:1<=64) _) hr.units
section
variable {X:Cx}
theorem pv (i:Nat){x:Str}{pos:Pos}(hN:X.N[i]?=some x:=by rfl)(hv:BP X.env.scope x:=by first | exact qP rfl | exact qac (qP rfl) | exact qac (qac rfl))(hd:(x==("__debug__" : Str))=false:=by decide)
  (hcd:(x==("__classdict__" : Str))=false:=by decide):PE X (.Name x pos) (YB i):=ZmO hN hv hd hcd
end
theorem Ua {A B:Prop}(h:B):if false=true then A else B:=by
 rw[if_neg qaa];exact h
theorem Ub {A B:Prop}(h:A):if true=true then A else B:=by
 rw[if_pos rfl];exact h
section
variable {X:Cx}
end
section
variable {κ:Type}[DecidableEq κ]
end
theorem Zfc {prog:xB}{w:World}{A:xC}{R:Result->Shared->Prop}{s:Shared}{elt target iter:Expr}{ifs:List Expr}{scope:Scope}{pos:Pos}{it acc:Value}{env:Env}(I:Nat->Shared->Prop)
  (turn:∀n s,I n s->xf (xz prog w) A (pyNext it) (λr s₁=>match r with
   | none=>R (.ok .next) s₁
   | some v=>xf (xz prog w) A (letOwnedTupleGo target it v) (λ_ s₁'=>xf (xz prog w) A (assign target env v) (λ_ s₂=>
     xf (xz prog w) A (forIn ifs true λc r=>if r=true then do let ok<-isTrue c env (eval c env);pure (qai ok)else pure (qai r)) (λok s₃=>
      if ok=true then xf (xz prog w) A (eval elt env) (λx s₄=>
       xf (xz prog w) A (call (.builtin "list.append") [acc,x]) (λ_ s₅=>∃m,m<n/\I m s₅) (notedBy (xz prog w) A env λe s'=>R (.error e) s') s₄) (notedBy (xz prog w) A env λe s'=>R (.error e) s') s₃
      else ∃m,m<n/\I m s₃) (notedBy (xz prog w) A env λe s'=>R (.error e) s') s₂) (notedBy (xz prog w) A env λe s'=>R (.error e) s') s₁') (notedBy (xz prog w) A env λe s'=>R (.error e) s') s₁) (notedBy (xz prog w) A env λe s'=>R (.error e) s') s)
  (n:Nat) (h:I n s) :
  xo (xz prog w) A (.compLoop (.ListComp elt [⟨target,iter,ifs,0⟩] scope pos) 0 it acc env) R s:=by
 refine codeAny_loop rfl I (λn s hI=>?_) n h;show xf _ A ((compTurn (.ListComp elt [⟨target,iter,ifs,0⟩] scope pos) 0 it acc env).onRaise (λx=>do noteFrame x env;theTreesLotGoes x)) _ _ s;refine wpAny_noted ?_;rw[compTurn_list];refine xa (wpAny_standAt (xa (xc (turn n s hI) (λr s₁ h₁=>?_) λ_ _ h'=>h')))
 cases r with
 | none=>exact xb h₁
 | some v=>
  refine xa (xc h₁ (λ_ s₁' h₁'=>?_) λ_ _ h'=>h');refine xa (xc h₁' (λ_ s₂ h₂=>xa (xc h₂ (λok s₃ h₃=>?_) λ_ _ h'=>h')) λ_ _ h'=>h')
  cases ok with
  | false=>exact xb ⟨rfl,h₃⟩
  | true=>
   exact xa (xa (xc h₃ (λx s₄ h₄=>xa (xc h₄ (λ_ s₅ h₅=>xb (xb ⟨rfl,h₅⟩)) λ_ _ h'=>h')) λ_ _ h'=>h'))
noncomputable def YC (X:Cx)(jC:Qb)(N':List Str)(scope:Scope)(cl:List (Str×Addr))(C:Addr)(s:Shared)(H:Hp)(fp:List Addr):Cx where
 prog:=X.prog
 w:=X.w
 K:=X.K
 mg:=X.mg
 base:=X.base
 A:=X.A
 N:=N'
 s₀:=s
 H₀:=H
 env:=compEnvC scope cl C X.env
 outer:=X.stack
 stack:=X.stack
 ex:=fp
 fn:=λ_=>false
 calm:=X.calm
 pn:=X.pn++jC
 xe:=λ_ _=>False
noncomputable def Vt (X:Cx)(ifs:List Expr)(t:TT):Prop:=
 ∀(jC:Qb) (s:Shared) (σ:St) (H:Hp) (Q:Bool->Hp->Prop),Inv X jC σ H s->t σ H Q->
  xf (xz X.prog X.w) X.A (forIn ifs true λc r=>if r=true then do let ok<-isTrue c X.env (eval c X.env);pure (qai ok)else pure (qai r)) (TP X jC σ Q) X.xe s
noncomputable def Zoi:TT:=λ_ H Q=>Q true H
theorem Zju {X:Cx}:Vt X [] Zoi:=λ_ _ _ H _ I h=>xb ⟨H,I,h⟩
theorem Zjv {X:Cx}{c:Expr}{t:TT}(h:PT X c t):Vt X [c] t:=λjC s σ H Q I hq=>wpAny_tests_one (h jC s σ H Q I hq)
structure BlkOk (X:Cx)(N':List Str)(src:List (Option Nat))(scope:Scope)(cl:List (Str×Addr)):Prop where
 clos:closureFor scope X.env=pure cl
 nocell:∀y∈scope.names,y.2≠.cell
 kind:scope.kind=.function
 names:∀y∈scope.names,y.2=.local->scope.names.lookup y.1=some .local
 len:src.length=N'.length
 cells:∀x c,cl.lookup x=some c->X.env.cells.lookup x=some c
 has:∀x,((relabel scope X.env).names.lookup x=some .cell∨(relabel scope X.env).names.lookup x=some .free)->∃c,cl.lookup x=some c
 from_:∀(i j:Nat) x,src[i]?=some (some j)->N'[i]?=some x->X.N[j]?=some x/\(X.env.kindOf x=some .cell∨X.env.kindOf x=some .free)/\((relabel scope X.env).names.lookup x=some .cell∨(relabel scope X.env).names.lookup x=some .free)
noncomputable def Vp (src:List (Option Nat))(σ:St):St:=src.map λo=>o.bind λj=>(σ[j]?).bind id
theorem Zln {X:Cx}{jC:Qb}{σ:St}{H:Hp}{s s1:Shared}{N':List Str}{src:List (Option Nat)}{scope:Scope}{cl:List (Str×Addr)}{C:Addr}{fp:List Addr}{m:Str->Option Value}
  (B:BlkOk X N' src scope cl) (I:Inv X jC σ H s) (hf:∀b∈fp,Ww X jC H b) (hC:s.heap.objs.size<=C) (hCf:∀b∈fp,b≠C)
  (hs:s1.os=s.os) (hg:s1.gens=s.gens) (hk:∀b o,s.heap.get? b=some o->s1.heap.get? b=some o) (hn:s1.heap.Ns C m):Inv (YC X jC N' scope cl C s H fp) [] (Vp src σ) H s1:=by
 have noC:∀b o,s.heap.get? b=some o->b≠C:=λb o e=>qS (zg (qK e) hC);refine⟨⟨I.ok.mod,B.kind,I.ok.glob,I.ok.blt,hC,λx y c h1 h2=>I.ok.inj x y c (B.cells _ _ h1) (B.cells _ _ h2),λx hx=>B.has x hx,λx c hf _=>(by cases hf),I.ok.hd,I.ok.frames,.inl rfl,λb hb=>?_,I.bs,zb I.ok.bsz I.sz,λb o e hb=>?_,λb hb z=>?_,I.stack,I.stkFree⟩,
  hs,by rw[hg];exact I.bare,Un.kept hk,⟨m,hn,λi x v h1 h2 h3=>?_⟩,λx c e=>?_,I.hok.fresh hC,λx c e=>I.freeC x c (B.cells _ _ e),λp hp=>?_,I.hok.kept hk,?_⟩
 ·obtain⟨f0,f1,f2,f3,f4,f5⟩:=hf b hb
  exact⟨hCf b hb,λx c e=>f4 x c (B.cells _ _ e)⟩
 ·obtain⟨f0,f1,f2,f3,f4,f5⟩:=hf b hb
  rcases f3 with z | z
  ·exact I.ok.noex b o e z
  ·exact absurd (zg (qK (I.ok.bs b o e).1) z) (yB _)
 ·obtain⟨f0,f1,f2,f3,f4,f5⟩:=hf b hb
  rcases qu.mp (I.stkSub b z)with e | e
  ·exact f1 e
  ·exact f2 e
 ·have h2':(Vp src σ)[i]?=some (some v):=h2
  unfold Vp at h2';rw[qI]at h2'
  cases e:src[i]? with
  | none=>rw[e]at h2';cases h2'
  | some o=>
   rw[e]at h2'
   cases o with
   | none=>simp at h2'
   | some j=>
    obtain⟨q1,q2,q3⟩:=B.from_ i j x e h1;have hj:σ[j]?=some (some v):=by
     simp only[yd,Option.bind_some,qbT]at h2'
     cases e2:σ[j]? with
     | none=>rw[e2]at h2';cases h2'
     | some o2=>rw[e2]at h2';simp at h2';rw[h2']
    obtain⟨mm,Wm,hl⟩:=I.loc;have vis:BP X.env.scope x:=by
     rcases q2 with z | z
     ·exact .inr (.inl z)
     ·exact .inr (.inr z)
    obtain⟨u,r,l⟩:=hl j x v q1 hj vis;refine⟨u,r,?_⟩;rcases l with⟨k,_⟩ | ⟨_,c,ec,z⟩
    ·rcases q2 with z | z <;> rw[z]at k <;> cases k
    ·obtain⟨c',ec'⟩:=B.has x q3
     have ee:c'=c:=by
      have:=B.cells _ _ ec';rw[ec]at this;exact(zy this).symm
     subst ee;obtain⟨o,ho,hd⟩:=z;exact .inr ⟨q3,c',ec',o,hk _ _ ho,hd⟩
 ·obtain⟨v,o,ho,hd⟩:=I.cell x c (B.cells _ _ e)
  exact⟨v,o,hk _ _ ho,hd⟩
 ·have hp':p∈X.pn++jC:=by simpa[YC]using hp
  obtain⟨e,n,ne,nf,d⟩:=I.pin p hp';refine⟨hk _ _ e,n,noC _ _ e,λz=>?_,d⟩;rcases qu.mp (I.stkSub p.1 z)with q | q
  ·exact ne q
  ·exact nf q
 ·show(Vp src σ).length=N'.length
  unfold Vp;rw[qd,B.len]
noncomputable def Zjw (src:List (Option Nat))(wi:TI)(g:TG)(tt:TT)(te:TE):TE:=fun σ H Q=>wi σ H λJ H1=>∀p,H1 p=none->
 ∃W:Nat->Nat->St->Hp->Prop,(∃m,W 0 m (Vp src σ) (Zn H1 p (.lst [])))/\∀i m σ2 H2,W i m σ2 H2->
  (J.stop i H2/\Q (.ref p) H2)∨(J.go i H2/\∀x H3,J.yld i H2 x H3->g x σ2 H3 fun σ4 H4=>tt σ4 H4 λok H5=>
   if ok=true then te σ4 H5 λy H6=>∃xs,H6 p=some (.lst xs)/\xs.length<xg/\∃m',m'<m/\W (i+1) m' σ4 (Zn H6 p (.lst (xs ++ [y])))
   else ∃m',m'<m/\W (i+1) m' σ4 H5)
theorem ZdP {X:Cx}{elt tg iter:Expr}{ifs:List Expr}{scope:Scope}{pos:Pos}{N':List Str}{src:List (Option Nat)}{cl:List (Str×Addr)}{g:TG}{tt:TT}{te:TE}
  {jC:Qb} {σ:St} {H2:Hp} {s₂:Shared} {it:Addr} {fp:List Addr} {tn:Nat->Heap->Prop} {J:It} {Qp:Addr->Hp->Prop} {RR:Value->Addr->Result->Shared->Prop} {E:xD}
  (hc:X.calm=true) (B:BlkOk X N' src scope cl)
  (hg:∀jC C s H fp,PG (YC X jC N' scope cl C s H fp) tg g) (ht:∀jC C s H fp,Vt (YC X jC N' scope cl C s H fp) ifs tt) (he:∀jC C s H fp,PE (YC X jC N' scope cl C s H fp) elt te)
  (I2:Inv X jC σ H2 s₂) (T:Turn X.prog X.w X.K tg J fp it tn) (jP:tn 0 s₂.heap) (f2:∀b∈fp,Ww X jC H2 b)
  (q2:∀p,H2 p=none->∃W:Nat->Nat->St->Hp->Prop,(∃m,W 0 m (Vp src σ) (Zn H2 p (.lst [])))/\∀i m σ2 H2,W i m σ2 H2->
   (J.stop i H2/\Qp p H2)∨(J.go i H2/\∀x H3,J.yld i H2 x H3->g x σ2 H3 fun σ4 H4=>tt σ4 H4 λok H5=>
    if ok=true then te σ4 H5 λy H6=>∃xs,H6 p=some (.lst xs)/\xs.length<xg/\∃m',m'<m/\W (i+1) m' σ4 (Zn H6 p (.lst (xs ++ [y])))
    else ∃m',m'<m/\W (i+1) m' σ4 H5))
  (hfin:∀p C s6 H5 mm,Inv X jC σ H5 s6->s6.heap.Ns C mm->Ww X jC H5 C->Qp p H5->RR (.ref p) C (.ok .next) s6) :
  xf (xz X.prog X.w) X.A (newList []) (λacc s₃=>xf (xz X.prog X.w) X.A (newFunctionEnv scope X.env.globals cl [] X.env.qual none .none (some X.env)) (λcenv s₄=>
   xo (xz X.prog X.w) X.A (.compStart (.ListComp elt [⟨tg,iter,ifs,0⟩] scope pos) 0 (.ref it) acc { cenv with scope:=relabel scope X.env }) (RR acc cenv.locals) s₄) E s₃) E s₂:=by
 have fpold:∀b∈fp,b<s₂.heap.objs.size:=λb hb=>by
  obtain⟨o,e,_⟩:=T.obj _ _ jP b hb;exact qK e
 have q2:=q2 s₂.heap.objs.size (I2.hok.fresh (qq _));obtain⟨W,⟨m0,w0⟩,turn⟩:=q2
 -- the new list
 refine xl ?_;have I3:Inv X jC σ (Zn H2 s₂.heap.objs.size (.lst [])) { s₂ with heap:=s₂.heap.push { cls:=.type "list",dict:=none,data:=.seq ([]:List Value).toArray } }:=
  I2.lnew (t':=s₂.toks) (ys:=[]) .nil (zB _)
 have st3:tn 0 (s₂.heap.push { cls:=.type "list",dict:=none,data:=.seq ([]:List Value).toArray }):=T.keep _ _ _ jP λb _ o e=>qf _ e;have f3:∀b∈fp,Ww X jC (Zn H2 s₂.heap.objs.size (.lst [])) b:=λb hb=>by
  obtain⟨f0,f1⟩:=f2 b hb;exact⟨by rw[Zx (qS (fpold b hb))];exact f0,f1⟩
 generalize hs3:({ s₂ with heap:=s₂.heap.push { cls:=.type "list",dict:=none,data:=.seq ([]:List Value).toArray } }:Shared)=s₃ at I3;have st3':tn 0 s₃.heap:=by rw[<-hs3];exact st3
 have lt3:s₂.heap.objs.size<s₃.heap.objs.size:=by rw[<-hs3];show _<(Heap.push _ _).objs.size;rw[zV];exact yK _
 refine wpAny_newFunctionEnv B.nocell (by intro y hy;simp at hy) (λh₁ hns₁ hsb₁=>?_) B.kind;have kp1:∀b o,s₃.heap.get? b=some o->h₁.get? b=some o:=λb o e=>hsb₁.extBut b o (qS (qK e)) (qf _ e);have I4:=Zln (s1:={ s₃ with heap:=h₁,toks:=s₃.toks+([]:List (Str×Value)).length }) (C:=s₃.heap.objs.size) B I3 f3 (qq _) (λb hb=>qS (qab (fpold b hb) lt3)) rfl rfl kp1 hns₁;have st4:tn 0 h₁:=T.keep _ _ _ st3' λb _ o e=>kp1 b o e;show xo (xz X.prog X.w) X.A (.compStart (.ListComp elt [⟨tg,iter,ifs,0⟩] scope pos) 0 (.ref it) (.ref s₂.heap.objs.size) (compEnvC scope cl s₃.heap.objs.size X.env)) (RR (.ref s₂.heap.objs.size) s₃.heap.objs.size) _;generalize hs4:({ s₃ with heap:=h₁,toks:=s₃.toks+([]:List (Str×Value)).length }:Shared)=s₄ at I4;have st4':tn 0 s₄.heap:=by rw[<-hs4];exact st4
 have blkX:∀{b:Addr} {H':Hp},b∈fp->H' b=none->Ww (YC X jC N' scope cl s₃.heap.objs.size s₃ (Zn H2 s₂.heap.objs.size (.lst [])) fp) [] H' b:=λ{b H'} hb hn=>by
  obtain⟨f0,f1,f2',f3',f4',f5'⟩:=f3 b hb;refine⟨hn,qS (qab (fpold b hb) lt3),λz=>?_,.inl hb,λx c e=>f4' x c (B.cells _ _ e),λp hp=>?_⟩
  ·rcases qu.mp (I3.stkSub b z)with e | e
   ·exact f1 e
   ·exact f2' e
  ·exact f5' p (by simpa[YC]using hp)
 have loop:xo (xz X.prog X.w) X.A (.compLoop (.ListComp elt [⟨tg,iter,ifs,0⟩] scope pos) 0 (.ref it) (.ref s₂.heap.objs.size) (compEnvC scope cl s₃.heap.objs.size X.env)) (RR (.ref s₂.heap.objs.size) s₃.heap.objs.size) s₄:=by
  refine Zfc (λn s'=>∃i σ' H',Inv (YC X jC N' scope cl s₃.heap.objs.size s₃ (Zn H2 s₂.heap.objs.size (.lst [])) fp) [] σ' H' s'/\tn i s'.heap/\(∀b∈fp,H' b=none)/\W i n σ' H') ?_ m0 ⟨0,_,_,I4,st4',λb hb=>(f3 b hb).1,w0⟩;rintro n s5 ⟨i,σ5,H5,I5,st5,fr5,w5⟩;rcases turn i n σ5 H5 w5 with⟨stop,qn⟩ | ⟨go,step⟩
  ·refine xc (T.done (YC X jC N' scope cl s₃.heap.objs.size s₃ (Zn H2 s₂.heap.objs.size (.lst [])) fp) rfl rfl rfl hc i [] s5 σ5 H5 (λ_ _=>False) I5 (λb hb=>blkX hb (fr5 b hb)) st5 stop) (λr s6 ⟨hr,I6⟩=>?_) λ_ _ f=>f.elim
   subst hr;obtain⟨mm,Wm,_⟩:=id I6.loc;have nC:H5 s₃.heap.objs.size=none:=I6.free;have J1:Inv X jC σ H5 s6:=by
    refine I3.call' (ch:=fp) I6.os I6.base I6.hok I6.bare λb hb=>?_;obtain⟨f0,f1,f2',f3',f4',f5'⟩:=f3 b hb;exact⟨f3',f1,f4',f5'⟩
   exact hfin _ _ s6 H5 mm J1 Wm (I3.fpOk (qq _) nC) qn
  ·refine xc (T.item (YC X jC N' scope cl s₃.heap.objs.size s₃ (Zn H2 s₂.heap.objs.size (.lst [])) fp) rfl rfl rfl hc i [] s5 σ5 H5 (λ_ _=>False) I5 (λb hb=>blkX hb (fr5 b hb)) st5 go) (λr s6 ⟨u,hr,h6⟩=>?_) λ_ _ f=>f.elim
   subst hr;refine xc h6 (λ_ s7 ⟨x,H7,I7,r7,y7,st7,fr7⟩=>?_) λ_ _ f=>f.elim;have I7':=I7.pinned (λb hb=>blkX hb (fr7 b hb)) (T.obj _ _ st7);refine xc (hg _ _ _ _ _ _ s7 σ5 H7 x u _ I7' r7 (step x H7 y7)) (λ_ s8 ⟨σ8,H8,I8,q8⟩=>?_) λ_ _ f=>f.elim;refine xc (ht _ _ _ _ _ _ s8 σ8 H8 _ I8 q8) (λok s9 ⟨H9,I9,q9⟩=>?_) λ_ _ f=>f.elim;have again:∀{σ7:St} {H7:Hp} {sz:Shared},Inv (YC X jC N' scope cl s₃.heap.objs.size s₃ (Zn H2 s₂.heap.objs.size (.lst [])) fp) ([]++Bi fp s7.heap) σ7 H7 sz->(∃m',m'<n/\W (i+1) m' σ7 H7)->
     ∃m,m<n/\∃i σ' H',Inv (YC X jC N' scope cl s₃.heap.objs.size s₃ (Zn H2 s₂.heap.objs.size (.lst [])) fp) [] σ' H' sz/\tn i sz.heap/\(∀b∈fp,H' b=none)/\W i m σ' H':=λ{σ7 H7 sz} Iz ⟨m',hm,wz⟩=>by
    refine⟨m',hm,i+1,σ7,H7,Iz.unpinned,T.keep _ _ _ st7 λb hb o e=>(Iz.pin (b,o) (zi _ (zi _ (UY hb e)))).1,λb hb=>?_,wz⟩;obtain⟨o,e,d⟩:=T.obj _ _ st7 b hb;exact(Iz.pin (b,o) (zi _ (zi _ (UY hb e)))).2.1
   cases ok with
   | false=>
    show ∃m,m<n/\_;exact again I9 (by simpa using q9)
   | true=>
    have q9':te σ8 H9 λy H6=>∃xs,H6 s₂.heap.objs.size=some (.lst xs)/\xs.length<xg/\∃m',m'<n/\W (i+1) m' σ8 (Zn H6 s₂.heap.objs.size (.lst (xs ++ [y]))):=by simpa using q9
    show xf _ _ _ _ _ _;refine xc (he _ _ _ _ _ _ s9 σ8 H9 _ I9 q9') (λy sA ⟨yv,HA,IA,rA,xs,eA,zA,mA⟩=>?_) λ_ _ f=>f.elim;refine xc (ZdL (X:=YC X jC N' scope cl s₃.heap.objs.size s₃ (Zn H2 s₂.heap.objs.size (.lst [])) fp) _ sA σ8 HA (.ref s₂.heap.objs.size) [yv] (.ref s₂.heap.objs.size) [y] (λ_ HB=>HB=Zn HA s₂.heap.objs.size (.lst (xs ++ [yv]))) IA rfl (.cons rA .nil) ⟨_,xs,yv,rfl,rfl,eA,zA,rfl⟩) (λ_ sB ⟨_,HB,IB,_,eB⟩=>?_) λ_ _ f=>f.elim;subst eB;exact again IB mA
 exact codeAny_compStart_list loop (T.self _ 0 _ _ _ st4' loop)
theorem Zlo {X:Cx}{elt tg iter:Expr}{ifs:List Expr}{scope:Scope}{pos:Pos}{N':List Str}{src:List (Option Nat)}{cl:List (Str×Addr)}{wi:TI}{g:TG}{tt:TT}{te:TE}
  (hc:X.calm=true) (B:BlkOk X N' src scope cl) (hi:PI X tg iter wi)
  (hg:∀jC C s H fp,PG (YC X jC N' scope cl C s H fp) tg g) (ht:∀jC C s H fp,Vt (YC X jC N' scope cl C s H fp) ifs tt) (he:∀jC C s H fp,PE (YC X jC N' scope cl C s H fp) elt te)
  (hs:∀x,foldedSetIterable iter X.env x=pure x:=by intro _;rfl):PE X (.ListComp elt [⟨tg,iter,ifs,0⟩] scope pos) (Zjw src wi g tt te):=by
 intro jC s σ H Q I h;rw[eval_ListComp];refine wpAny_comprehension_free (use:=none) rfl hs B.clos B.kind B.names (xc (hi jC s σ H _ I h) (λxv s₁ h₁=>xc h₁ (λit s₂ h₂=>?_) λ_ _ e=>e) λ_ _ e=>e);obtain⟨it,fp,tn,J,H2,e,I2,T,jP,f2,q2⟩:=h₂;subst e;refine ZdP (RR:=λacc C=>compPost (xz X.prog X.w) X.A X.xe none (EP X jC σ Q) acc C) (Qp:=λp H=>Q (.ref p) H) hc B hg ht he I2 T jP f2 q2 ?_;intro p C s6 H5 mm J1 Wm fC qn;refine⟨mm,Wm,λh' sb=>?_⟩;obtain⟨c0,c1,c2,c3,c4,c5⟩:=fC;exact⟨.ref p,H5,J1.turned (t':=s6.toks) (it:=C) (λb o hb e=>(sb.2 b hb).trans e) c0 c1 c3 c4 c5,rfl,qn⟩
theorem Zlp {X:Cx}{elt tg iter:Expr}{ifs:List Expr}{scope:Scope}{pos pos' spos:Pos}{N':List Str}{src:List (Option Nat)}{cl:List (Str×Addr)}{wi:TI}{g:TG}{tt:TT}{te:TE}{i:Nat}{x:Str}
  (hN:X.N.Nodup) (hi':X.N[i]?=some x) (hx:Vf X.env.scope x)
  (hc:X.calm=true) (B:BlkOk X N' src scope cl) (hi:PI X tg iter wi)
  (hg:∀jC C s H fp,PG (YC X jC N' scope cl C s H fp) tg g) (ht:∀jC C s H fp,Vt (YC X jC N' scope cl C s H fp) ifs tt) (he:∀jC C s H fp,PE (YC X jC N' scope cl C s H fp) elt te)
  (hsw:xr (.ListComp elt [⟨tg,iter,ifs,0⟩] scope pos) (some (.Name x pos')) spos.line X.env=pure true:=by rfl)
  (hs:∀x,foldedSetIterable iter X.env x=pure x:=by intro _;rfl)
  (hf:X.fn x=true∨X.env.scope.names.lookup x=some .local:=by first | exact .inl rfl | exact .inr rfl | assumption) :
  PS X (.Assign [.Name x pos'] (.ListComp elt [⟨tg,iter,ifs,0⟩] scope pos) spos) (λD σ H=>Zjw src wi g tt te σ H λy H1=>D.nx (σ.set i (some y)) H1):=by
 intro jC s σ H D I h;rw[exec_Assign_Name_used _ _ _ _ hsw];refine xa (wpAny_standAt (xa ?_));show xf _ _ (do let _<-comprehension (.ListComp elt [⟨tg,iter,ifs,0⟩] scope pos) scope X.env _ (newList []) false (eval iter X.env) (some (assign (.Name x pos') X.env))) _ _ s;refine xa (xc (wpAny_comprehension_free (use:=some (assign (.Name x pos') X.env)) (Q:=λ_ s'=>SP X jC D .next s') rfl hs B.clos B.kind B.names
  (xc (hi jC s σ H _ I h) (λxv s₁ h₁=>xc h₁ (λit s₂ h₂=>?_) λ_ _ e=>e) λ_ _ e=>e)) (λ_ s' hq=>xb (xb hq)) λ_ _ e=>e)
 obtain⟨it,fp,tn,J,H2,e,I2,T,jP,f2,q2⟩:=h₂;subst e;refine ZdP (RR:=λacc C=>compPost (xz X.prog X.w) X.A X.xe (some (assign (.Name x pos') X.env)) (λ_ s'=>SP X jC D .next s') acc C) (Qp:=λp H=>D.nx (σ.set i (some (.ref p))) H) hc B hg ht he I2 T jP f2 q2 ?_;intro p C s6 H5 mm J1 Wm fC qn;obtain⟨oC,es,ep,hoC,hdC,hrC⟩:=id Wm;have fC':∀b∈[C],Ww X jC H5 b:=by
  intro b hb;have e:b=C:=by simpa using hb
  rw[e];exact fC
 have oC':∀b∈[C],∃o,s6.heap.get? b=some o/\∀v,o.data≠.cell v:=by
  intro b hb;have e:b=C:=by simpa using hb
  rw[e];exact⟨oC,hoC,λv z=>by rw[hdC]at z;cases z⟩
 have J2:=J1.pinned (fp:=[C]) fC' oC';show xf _ _ (assign (.Name x pos') X.env (.ref p)) _ _ _;refine xc (Xx (X:=X) (pos:=pos') hN hi' hx hf _ s6 σ H5 (.ref p) (.ref p) (fun σ' H'=>σ'=σ.set i (some (.ref p))/\H'=H5) J2 rfl ⟨rfl,rfl⟩) (λ_ s7 ⟨σ7,H7,I7,e7,e7'⟩=>?_) λ_ _ e=>e;subst e7 e7';have pC:=I7.pin (C,oC) (zi _ (zi _ (UY (by simp) hoC)));refine⟨mm,⟨oC,es,ep,pC.1,hdC,hrC⟩,λh' sb=>?_⟩;obtain⟨c0,c1,c2,c3,c4,c5⟩:=fC;exact⟨_,_,(I7.unpinned).turned (t':=s7.toks) (it:=C) (λb o hb e=>(sb.2 b hb).trans e) c0 c1 c3 c4 c5,qn⟩
end L2
namespace TF
open L2
inductive D where
 | non | bl (b:Bool) | int (i:Int) | str (x:Str) | tup (xs:List D) | lst (xs:List D)
 | dk (kvs:List (Zu×V)) | dt (kvs:List (List Zu×V)) | du (kvs:List (List Zu×V)) | df (kvs:List (Zu×V)) | pen | ty (n:String) | clo (t:Nat) (caps:List D)
noncomputable abbrev St:=L2.St
noncomputable abbrev Pn:=List Int×List Int
noncomputable abbrev M (α:Type):=Pn->Option (α×Pn)
noncomputable abbrev Zb:=List (Option D)
noncomputable def Zy {α:Type}(a:α):M α:=λs=>some (a,s)
noncomputable def Zo {α β:Type}(m:M α)(k:α->M β):M β:=λs=>match m s with | none=>none | some p=>k p.1 p.2
noncomputable def ZG {α:Type}:M α:=λ_=>none
noncomputable def Y5 {α:Type}(o:Option α):M α:=λs=>match o with | none=>none | some a=>some (a,s)
theorem ZF {α β:Type}{m:M α}{k:α->M β}{s s':Pn}{b:β}(h:Zo m k s=some (b,s')):∃a s1,m s=some (a,s1)/\k a s1=some (b,s'):=by
 unfold Zo at h
 cases e:m s with
 | none=>rw[e]at h;cases h
 | some p=>rw[e]at h;exact⟨p.1,p.2,rfl,h⟩
theorem ZQ {α:Type}{a b:α}{s s':Pn}(h:Zy a s=some (b,s')):b=a/\s'=s:=by
 unfold Zy at h
 cases h
 exact⟨rfl,rfl⟩
theorem WZ {α:Type}{o:Option α}{b:α}{s s':Pn}(h:Y5 o s=some (b,s')):o=some b/\s'=s:=by
 unfold Y5 at h
 cases e:o with
 | none=>rw[e]at h;cases h
 | some a=>rw[e]at h;cases h;exact⟨rfl,rfl⟩
structure Gh where
 fp:Addr->Prop
 rd:Addr->Prop
 pen:V
 st:Pn->Hp->Prop
 mono:∀s H H',st s H->(∀b o,rd b->H b=some o->H' b=some o)->(∀b φ,H b=some (.ext φ)->H' b=some (.ext φ))->st s H'
 sub:∀b,fp b->rd b
 dom:∀s H b,st s H->rd b->∃o,H b=some o
 ntp:∀s H b vs,st s H->fp b->H b≠some (.tup vs)
 clo:Nat->V->List V->Prop:=λ_ _ _=>False
mutual
noncomputable def Zj (G:Gh)(H:Hp):D->V->Prop
 | .non,v=>v=.non
 | .bl b,v=>v=.bl b
 | .int i,v=>v=.int i
 | .str x,v=>v=.str x
 | .tup ds,v=>∃a vs,v=.ref a/\¬G.fp a/\H a=some (.tup vs)/\Zi G H ds vs
 | .lst ds,v=>∃a vs,v=.ref a/\¬G.fp a/\H a=some (.lst vs)/\Zi G H ds vs
 | .dk kvs,v=>∃a,v=.ref a/\¬G.fp a/\H a=some (.dK kvs)
 | .dt kvs,v=>∃a o,v=.ref a/\¬G.fp a/\H a=some (.frz o (.dT kvs))
 | .du kvs,v=>∃a,v=.ref a/\¬G.fp a/\H a=some (.dT kvs)
 | .df kvs,v=>∃a o,v=.ref a/\¬G.fp a/\H a=some (.frz o (.dK kvs))
 | .pen,v=>v=G.pen
 | .ty n,v=>v=.ty n
 | .clo t ds,v=>∃vs,G.clo t v vs/\Zi G H ds vs
noncomputable def Zi (G:Gh)(H:Hp):List D->List V->Prop
 | [],vs=>vs=[]
 | d::ds,vs=>∃v r,vs=v::r/\Zj G H d v/\Zi G H ds r
end
noncomputable def ZA (G:Gh)(H H':Hp):Prop:=∀b o,¬G.fp b->H b=some o->H' b=some o
theorem ZA.refl (G:Gh)(H:Hp):ZA G H H:=λ_ _ _ e=>e
theorem ZA.trans {G:Gh}{H H1 H2:Hp}(a:ZA G H H1)(b:ZA G H1 H2):ZA G H H2:=λc o n e=>b c o n (a c o n e)
mutual
theorem Zj.ext {G:Gh}{H H':Hp}(e:ZA G H H'):∀{d:D} {v:V},Zj G H d v->Zj G H' d v
 | .non,_,h=>h
 | .bl _,_,h=>h
 | .int _,_,h=>h
 | .str _,_,h=>h
 | .tup ds,v,h=>by
  unfold Zj at h⊢;obtain⟨a,vs,e1,n,e2,r⟩:=h;exact⟨a,vs,e1,n,e _ _ n e2,Zi.ext e r⟩
 | .lst ds,v,h=>by
  unfold Zj at h⊢;obtain⟨a,vs,e1,n,e2,r⟩:=h;exact⟨a,vs,e1,n,e _ _ n e2,Zi.ext e r⟩
 | .dk kvs,v,h=>by
  unfold Zj at h⊢;obtain⟨a,e1,n,e2⟩:=h;exact⟨a,e1,n,e _ _ n e2⟩
 | .dt kvs,v,h=>by
  unfold Zj at h⊢;obtain⟨a,o,e1,n,e2⟩:=h;exact⟨a,o,e1,n,e _ _ n e2⟩
 | .df kvs,v,h=>by
  unfold Zj at h⊢;obtain⟨a,o,e1,n,e2⟩:=h;exact⟨a,o,e1,n,e _ _ n e2⟩
 | .du kvs,v,h=>by
  unfold Zj at h⊢;obtain⟨a,e1,n,e2⟩:=h;exact⟨a,e1,n,e _ _ n e2⟩
 | .pen,_,h=>h
 | .ty _,_,h=>h
 | .clo t ds,v,h=>by
  unfold Zj at h⊢;obtain⟨vs,c,r⟩:=h;exact⟨vs,c,Zi.ext e r⟩
theorem Zi.ext {G:Gh}{H H':Hp}(e:ZA G H H'):∀{ds:List D} {vs:List V},Zi G H ds vs->Zi G H' ds vs
 | [],_,h=>h
 | d::ds,vs,h=>by
  unfold Zi at h⊢;obtain⟨v,r,e1,r1,r2⟩:=h;exact⟨v,r,e1,Zj.ext e r1,Zi.ext e r2⟩
end
section
variable {G:Gh}{H:Hp}
theorem jc {ds:List D}{v:V}:Zj G H (.tup ds) v↔∃a vs,v=.ref a/\¬G.fp a/\H a=some (.tup vs)/\Zi G H ds vs:=by unfold Zj;exact qas
theorem jb {ds:List D}{v:V}:Zj G H (.lst ds) v↔∃a vs,v=.ref a/\¬G.fp a/\H a=some (.lst vs)/\Zi G H ds vs:=by unfold Zj;exact qas
theorem jj {kvs:List (Zu×V)}{v:V}:Zj G H (.dk kvs) v↔∃a,v=.ref a/\¬G.fp a/\H a=some (.dK kvs):=by unfold Zj;exact qas
theorem jl {kvs:List (List Zu×V)}{v:V}:Zj G H (.dt kvs) v↔∃a o,v=.ref a/\¬G.fp a/\H a=some (.frz o (.dT kvs)):=by unfold Zj;exact qas
theorem jm {kvs:List (List Zu×V)}{v:V}:Zj G H (.du kvs) v↔∃a,v=.ref a/\¬G.fp a/\H a=some (.dT kvs):=by unfold Zj;exact qas
theorem jt {kvs:List (Zu×V)}{v:V}:Zj G H (.df kvs) v↔∃a o,v=.ref a/\¬G.fp a/\H a=some (.frz o (.dK kvs)):=by unfold Zj;exact qas
theorem ja {i:Int}{v:V}:Zj G H (.int i) v↔v=.int i:=by unfold Zj;exact qas
theorem je {b:Bool}{v:V}:Zj G H (.bl b) v↔v=.bl b:=by unfold Zj;exact qas
theorem ji {b:Str}{v:V}:Zj G H (.str b) v↔v=.str b:=by unfold Zj;exact qas
theorem jh {v:V}:Zj G H .non v↔v=.non:=by unfold Zj;exact qas
theorem jp {v:V}:Zj G H .pen v↔v=G.pen:=by unfold Zj;exact qas
theorem jq {n:String}{v:V}:Zj G H (.ty n) v↔v=.ty n:=by unfold Zj;exact qas
theorem jw {t:Nat}{ds:List D}{v:V}:Zj G H (.clo t ds) v↔∃vs,G.clo t v vs/\Zi G H ds vs:=by unfold Zj;exact qas
theorem Zi.nil_iff {vs:List V}:Zi G H [] vs↔vs=[]:=by unfold Zi;exact qas
theorem jd {d:D}{ds:List D}{vs:List V}:Zi G H (d::ds) vs↔∃v r,vs=v::r/\Zj G H d v/\Zi G H ds r:=by
 constructor
 ·intro h;unfold Zi at h;exact h
 ·intro h;unfold Zi;exact h
theorem Zi.length:∀{ds:List D} {vs:List V},Zi G H ds vs->ds.length=vs.length
 | [],vs,h=>by rw[Zi.nil_iff.mp h];rfl
 | d::ds,vs,h=>by
  obtain⟨v,r,rfl,_,h2⟩:=jd.mp h;simp[Zi.length h2]
theorem Zi.get:∀{ds:List D} {vs:List V} {i:Nat} {d:D},Zi G H ds vs->ds[i]?=some d->∃v,vs[i]?=some v/\Zj G H d v
 | [],_,_,_,_,e=>by simp at e
 | d::ds,vs,0,d',h,e=>by
  obtain⟨v,r,rfl,h1,_⟩:=jd.mp h;simp at e;subst e;exact⟨v,rfl,h1⟩
 | d::ds,vs,i+1,d',h,e=>by
  obtain⟨v,r,rfl,_,h2⟩:=jd.mp h;obtain⟨u,e1,e2⟩:=Zi.get h2 (i:=i) (d:=d') (by simpa using e);exact⟨u,by simpa using e1,e2⟩
theorem Zi.append:∀{ds es:List D} {vs us:List V},Zi G H ds vs->Zi G H es us->Zi G H (ds++es) (vs++us)
 | [],es,vs,us,h,h'=>by rw[Zi.nil_iff.mp h];exact h'
 | d::ds,es,vs,us,h,h'=>by
  obtain⟨v,r,rfl,h1,h2⟩:=jd.mp h;exact jd.mpr ⟨v,r++us,rfl,h1,Zi.append h2 h'⟩
theorem Zi.one {d:D}{v:V}(h:Zj G H d v):Zi G H [d] [v]:=jd.mpr ⟨v,[],rfl,h,Zi.nil_iff.mpr rfl⟩
theorem Zi.cons {d:D}{v:V}{ds:List D}{vs:List V}(h:Zj G H d v)(h2:Zi G H ds vs):Zi G H (d::ds) (v::vs):=jd.mpr ⟨v,vs,rfl,h,h2⟩
theorem Zi.take:∀{ds:List D} {vs:List V} (n:Nat),Zi G H ds vs->Zi G H (ds.take n) (vs.take n)
 | _,_,0,_=>Zi.nil_iff.mpr (by simp)
 | [],vs,n+1,h=>by rw[Zi.nil_iff.mp h];exact Zi.nil_iff.mpr (by simp)
 | d::ds,vs,n+1,h=>by
  obtain⟨u,r,rfl,h1,h2⟩:=jd.mp h;exact Zi.cons h1 (Zi.take n h2)
theorem Zi.drop:∀{ds:List D} {vs:List V} (n:Nat),Zi G H ds vs->Zi G H (ds.drop n) (vs.drop n)
 | _,_,0,h=>h
 | [],vs,n+1,h=>by rw[Zi.nil_iff.mp h];exact Zi.nil_iff.mpr (by simp)
 | d::ds,vs,n+1,h=>by
  obtain⟨u,r,rfl,h1,h2⟩:=jd.mp h;exact Zi.drop n h2
end
noncomputable def Nt (o:Option HO):Prop:=∃u,o=some u/\∀vs,u≠.tup vs
theorem Nt.no {o:Option HO}(h:Nt o)(e:o=none):False:=by
 obtain⟨u,q,_⟩:=h;rw[e]at q;cases q
structure Gr (G:Gh)(Hf H Hf' H':Hp):Prop where
 hh:ZA G H H'
 ff:ZA G Hf Hf'
 fh:ZA G Hf' H'
 nw:∀b,¬G.fp b->Hf b=none->Nt (H b)->Hf' b=none
theorem Gr.refl {G:Gh}{Hf H:Hp}(e:ZA G Hf H):Gr G Hf H Hf H:=⟨.refl _ _,.refl _ _,e,λ_ _ h _=>h⟩
theorem Gr.trans {G:Gh}{Hf H jQ H1 jZ H2:Hp}(a:Gr G Hf H jQ H1)(b:Gr G jQ H1 jZ H2):Gr G Hf H jZ H2:=
 ⟨a.hh.trans b.hh,a.ff.trans b.ff,b.fh,λc n h1 h2=>b.nw c n (a.nw c n h1 h2) (let ⟨u,e,nt⟩:=h2;⟨u,a.hh c u n e,nt⟩)⟩
theorem Gr.new {G:Gh}{Hf H:Hp}{p:Addr}{o:HO}(e:ZA G Hf H)(hp:H p=none)(nf:¬G.fp p):Gr G Hf H (Zn Hf p o) (Zn H p o) where
 hh:=λb u n q=>by rw[Zx (YD q hp)];exact q
 ff:=λb u n q=>by rw[Zx (YD (e b u n q) hp)];exact q
 fh:=λb u n q=>by
  by_cases hb:b=p
  ·subst hb;rw[ZX]at q⊢;exact q
  ·rw[Zx hb]at q⊢;exact e b u n q
 nw:=λb n h1 h2=>by
  by_cases hb:b=p
  ·subst hb;exact(h2.no hp).elim
  ·rw[Zx hb];exact h1
theorem Gh.nofp {G:Gh}{s:Pn}{H:Hp}{p:Addr}(h:G.st s H)(hp:H p=none):¬G.fp p:=λf=>by
 obtain⟨o,e⟩:=G.dom s H p h (G.sub p f);rw[hp]at e;cases e
theorem jz {G:Gh}{s:Pn}{H:Hp}{p:Addr}(h:G.st s H)(hp:H p=none):¬G.rd p:=λf=>by
 obtain⟨o,e⟩:=G.dom s H p h f;rw[hp]at e;cases e
theorem Gh.grow {G:Gh}{s:Pn}{H:Hp}{p:Addr}{o:HO}(h:G.st s H)(hp:H p=none):G.st s (Zn H p o):=G.mono s H _ h (λb u _ q=>by
 rw[Zx (YD q hp)];exact q) λb φ q=>by
 rw[Zx (YD q hp)];exact q
noncomputable def Jo:D->Prop
 | .lst _=>True
 | .dk _=>True
 | .dt _=>True
 | .du _=>True
 | _=>False
noncomputable def Yj (G:Gh)(H Hf':Hp)(d:D)(v:V):Prop:=∀a,v=.ref a->Jo d->H a=none/\∀ds,d=.lst ds->∃vs Hm,Hf' a=some (.lst vs)/\Hm a=none/\ZA G Hm Hf'/\Zi G Hm ds vs
theorem jn {G:Gh}{H H' Hf':Hp}{d:D}{v:V}(e:ZA G H H')(r:∀a,v=.ref a->Jo d->¬G.fp a)(h:Yj G H' Hf' d v):Yj G H Hf' d v:=λa ea m=>by
 refine⟨?_,(h a ea m).2⟩
 cases q:H a with
 | none=>rfl
 | some o=>
  have:=e a o (r a ea m) q;rw[(h a ea m).1]at this;cases this
theorem Zj.nofp {G:Gh}{H:Hp}{d:D}{v:V}(r:Zj G H d v):∀a,v=.ref a->Jo d->¬G.fp a:=λa e m=>by
 cases d with
 | lst ds=>obtain⟨b,vs,e1,n,_⟩:=jb.mp r;rw[e]at e1;cases e1;exact n
 | dk ds=>obtain⟨b,e1,n,_⟩:=jj.mp r;rw[e]at e1;cases e1;exact n
 | dt ds=>obtain⟨b,_,e1,n,_⟩:=jl.mp r;rw[e]at e1;cases e1;exact n
 | du ds=>obtain⟨b,e1,n,_⟩:=jm.mp r;rw[e]at e1;cases e1;exact n
 | _=>exact m.elim
noncomputable def YK (G:Gh)(H:Hp)(σ:St)(ρ:Zb):Prop:=∀(i:Nat) (d:D),ρ[i]?=some (some d)->∃v,σ[i]?=some (some v)/\Zj G H d v
theorem YK.ext {G:Gh}{H H':Hp}{σ:St}{ρ:Zb}(h:YK G H σ ρ)(e:ZA G H H'):YK G H' σ ρ:=λi d q=>let ⟨v,a,b⟩:=h i d q;⟨v,a,b.ext e⟩
noncomputable def PD (X:Cx)(G:Gh)(fr:Bool)(e:Expr)(f:Zb->M D):Prop:=
 ∃t,PE X e t/\∀(σ:St) (Hf H:Hp) (ρ:Zb) (s:Pn) (d:D) (s':Pn) (Q:VK),ZA G Hf H->YK G Hf σ ρ->G.st s H->f ρ s=some (d,s')->
  (∀v Hf' H',Gr G Hf H Hf' H'->G.st s' H'->Zj G Hf' d v->(fr=true->Yj G H Hf' d v)->Q v H')->t σ H Q
noncomputable def X2 (X:Cx)(G:Gh)(e:Expr)(f:Zb->M Bool):Prop:=
 ∃t,PT X e t/\∀(σ:St) (Hf H:Hp) (ρ:Zb) (s:Pn) (b:Bool) (s':Pn) (Q:Bool->Hp->Prop),ZA G Hf H->YK G Hf σ ρ->G.st s H->f ρ s=some (b,s')->
  (∀Hf' H',Gr G Hf H Hf' H'->G.st s' H'->Q b H')->t σ H Q
noncomputable def WB (X:Cx)(G:Gh)(es:List Expr)(f:Zb->M (List D)):Prop:=
 ∃t,PA X es t/\∀(σ:St) (Hf H:Hp) (ρ:Zb) (s:Pn) (ds:List D) (s':Pn) (Q:List V->Hp->Prop),ZA G Hf H->YK G Hf σ ρ->G.st s H->f ρ s=some (ds,s')->
  (∀vs Hf' H',Gr G Hf H Hf' H'->G.st s' H'->Zi G Hf' ds vs->Q vs H')->t σ H Q
section
variable {X:Cx}{G:Gh}
theorem PD.weak {e:Expr}{f:Zb->M D}{fr:Bool}(h:PD X G fr e f):PD X G false e f:=by
 obtain⟨t,p,q⟩:=h;exact⟨t,p,fun σ Hf H ρ s d s' Q e1 e2 e3 e4 k=>q σ Hf H ρ s d s' Q e1 e2 e3 e4 λv Hf' H' g1 g2 g3 _=>k v Hf' H' g1 g2 g3 (λz=>by cases z)⟩
noncomputable def Za (i:Nat):Zb->M D:=fun ρ=>Y5 ((ρ[i]?).bind id)
noncomputable def dC (d:D):Zb->M D:=λ_=>Zy d
theorem Zgn (i:Nat){x:Str}{pos:Pos}(h:PE X (.Name x pos) (YB i)):PD X G false (.Name x pos) (Za i):=by
 refine⟨_,h,fun σ Hf H ρ s d s' Q e1 e2 e3 e4 k=>?_⟩;obtain⟨e,rfl⟩:=WZ e4;have e':ρ[i]?=some (some d):=by
  cases q:ρ[i]? with
  | none=>rw[q]at e;cases e
  | some o=>rw[q]at e;simp at e;rw[e]
 obtain⟨v,h1,h2⟩:=e2 i d e';exact⟨v,h1,k v Hf H (.refl e1) e3 h2 (λz=>by cases z)⟩
theorem Yj.scal {H Hf':Hp}{d:D}{v:V}(h:Jo d->False):Yj G H Hf' d v:=λ_ _ m=>(h m).elim
theorem ZD {i:Int}{j pos}:PD X G true (.Constant (.int i) j pos) (dC (.int i)):=by
 refine⟨_,Xh,fun σ Hf H ρ s d s' Q e1 e2 e3 e4 k=>?_⟩;obtain⟨rfl,rfl⟩:=ZQ e4;exact k _ Hf H (.refl e1) e3 (ja.mpr rfl) λ_=>.scal λz=>z
theorem XZ {b:Bool}{j pos}:PD X G true (.Constant (.bool b) j pos) (dC (.bl b)):=by
 refine⟨_,Zn1,fun σ Hf H ρ s d s' Q e1 e2 e3 e4 k=>?_⟩;obtain⟨rfl,rfl⟩:=ZQ e4;exact k _ Hf H (.refl e1) e3 (je.mpr rfl) λ_=>.scal λz=>z
noncomputable def Zf:Zb->M (List D):=λ_=>Zy []
noncomputable def Zc (f:Zb->M D)(g:Zb->M (List D)):Zb->M (List D):=fun ρ=>Zo (f ρ) λd=>Zo (g ρ) λds=>Zy (d::ds)
theorem Zk:WB X G [] Zf:=by
 refine⟨_,Xy,fun σ Hf H ρ s d s' Q e1 e2 e3 e4 k=>?_⟩;obtain⟨rfl,rfl⟩:=ZQ e4;exact k _ Hf H (.refl e1) e3 (Zi.nil_iff.mpr rfl)
theorem Zd {e:Expr}{es:List Expr}{f:Zb->M D}{g:Zb->M (List D)}{fr:Bool}(h:PD X G fr e f)(hr:WB X G es g)(hs:xh (e::es) X.env=(false,eval e X.env)::xh es X.env:=by rfl):WB X G (e::es) (Zc f g):=by
 obtain⟨t,p,q⟩:=h;obtain⟨u,p2,q2⟩:=hr;refine⟨_,Xb p p2 hs,fun σ Hf H ρ s ds s' Q e1 e2 e3 e4 k=>?_⟩;obtain⟨d,s1,a1,a2⟩:=ZF e4;obtain⟨r,s2,a3,a4⟩:=ZF a2;obtain⟨rfl,rfl⟩:=ZQ a4;refine q σ Hf H ρ s d s1 _ e1 e2 e3 a1 λv jQ H1 g1 jT r1 _=>?_;refine q2 σ jQ H1 ρ s1 r _ _ g1.fh (e2.ext g1.ff) jT a3 λvs jZ H2 g2 jP r2=>?_;exact k _ jZ H2 (g1.trans g2) jP (Zi.cons (r1.ext g2.ff) r2)
noncomputable def ZV (f:Zb->M (List D)):Zb->M D:=fun ρ=>Zo (f ρ) λds=>if ds.length<=xg then Zy (.tup ds)else ZG
noncomputable def Xc (f:Zb->M (List D)):Zb->M D:=fun ρ=>Zo (f ρ) λds=>if ds.length<=xg then Zy (.lst ds)else ZG
theorem Xf {α:Type}{c:Prop}[Decidable c]{a:M α}{s s':Pn}{b:α}(h:(if c then a else ZG) s=some (b,s')):c/\a s=some (b,s'):=by
 split at h
 ·rename_i hc;exact⟨hc,h⟩
 ·cases h
theorem Yj.mk {Hf H:Hp}{p:Addr}{vs:List V}{ds:List D}(e:ZA G Hf H)(hp:H p=none)(nf:¬G.fp p)(r:Zi G Hf ds vs):Yj G H (Zn Hf p (.lst vs)) (.lst ds) (.ref p):=λa ea _=>by
 cases ea
 refine⟨hp,λds' ed=>?_⟩
 cases ed
 have hf:Hf p=none:=by
  cases q:Hf p with
  | none=>rfl
  | some o=>rw[e p o nf q]at hp;cases hp
 exact⟨vs,Hf,ZX,hf,λb o n q=>by rw[Zx (YD q hf)];exact q,r⟩
theorem YS {es:List Expr}{f:Zb->M (List D)}{x1:Nat}{pos:Pos}(h:WB X G es f):PD X G true (.Tuple es x1 pos) (ZV f):=by
 obtain⟨t,p,q⟩:=h;refine⟨_,Zm1 p,fun σ Hf H ρ s d s' Q e1 e2 e3 e4 k=>?_⟩;obtain⟨ds,s1,a1,a2⟩:=ZF e4;obtain⟨hl,a3⟩:=Xf a2;obtain⟨rfl,rfl⟩:=ZQ a3;refine q σ Hf H ρ s ds s' _ e1 e2 e3 a1 λvs jQ H1 g1 jT r1=>⟨by rw[<-r1.length];exact hl,λp hp=>?_⟩;have nf:=Gh.nofp jT hp;have g2:=Gr.new (o:=.tup vs) g1.fh hp nf;exact k (.ref p) _ _ (g1.trans g2) (Gh.grow jT hp) (jc.mpr ⟨p,vs,rfl,nf,ZX,r1.ext g2.ff⟩) λ_=>.scal λz=>z
theorem WN {es:List Expr}{f:Zb->M (List D)}{pos:Pos}(h:WB X G es f):PD X G true (.List es pos) (Xc f):=by
 obtain⟨t,p,q⟩:=h;refine⟨_,Zm2 p,fun σ Hf H ρ s d s' Q e1 e2 e3 e4 k=>?_⟩;obtain⟨ds,s1,a1,a2⟩:=ZF e4;obtain⟨hl,a3⟩:=Xf a2;obtain⟨rfl,rfl⟩:=ZQ a3;refine q σ Hf H ρ s ds s' _ e1 e2 e3 a1 λvs jQ H1 g1 jT r1=>⟨by rw[<-r1.length];exact hl,λp hp=>?_⟩;have nf:=Gh.nofp jT hp;have g2:=Gr.new (o:=.lst vs) g1.fh hp nf;refine k (.ref p) _ _ (g1.trans g2) (Gh.grow jT hp) (jb.mpr ⟨p,vs,rfl,nf,ZX,r1.ext g2.ff⟩) λ_=>jn g1.hh (λa ea _=>by cases ea;exact nf) (Yj.mk g1.fh hp nf r1)
noncomputable def Xq (X:Cx)(G:Gh)(f:Value->Value->Sem Value)(g:D->D->Option D):Prop:=
 ∃r,Yp X f r/\∀(Hf H:Hp) (s:Pn) (x y:V) (d e c:D) (Q:VK),ZA G Hf H->G.st s H->Zj G Hf d x->Zj G Hf e y->g d e=some c->
  (∀v Hf' H',Gr G Hf H Hf' H'->G.st s H'->Zj G Hf' c v->Yj G H Hf' c v->Q v H')->r x y H Q
noncomputable def Ze (g:D->D->Option D)(a b:Zb->M D):Zb->M D:=fun ρ=>Zo (a ρ) λd=>Zo (b ρ) λe=>Y5 (g d e)
theorem op2D {fa fb:Zb->M D}{g:D->D->Option D}{ta tb:TE}{r:R2}
  (qa:∀(σ:St) (Hf H:Hp) (ρ:Zb) (s:Pn) (d:D) (s':Pn) (Q:VK),ZA G Hf H->YK G Hf σ ρ->G.st s H->fa ρ s=some (d,s')->(∀v Hf' H',Gr G Hf H Hf' H'->G.st s' H'->Zj G Hf' d v->Q v H')->ta σ H Q)
  (qb:∀(σ:St) (Hf H:Hp) (ρ:Zb) (s:Pn) (d:D) (s':Pn) (Q:VK),ZA G Hf H->YK G Hf σ ρ->G.st s H->fb ρ s=some (d,s')->(∀v Hf' H',Gr G Hf H Hf' H'->G.st s' H'->Zj G Hf' d v->Q v H')->tb σ H Q)
  (qo:∀(Hf H:Hp) (s:Pn) (x y:V) (d e c:D) (Q:VK),ZA G Hf H->G.st s H->Zj G Hf d x->Zj G Hf e y->g d e=some c->(∀v Hf' H',Gr G Hf H Hf' H'->G.st s H'->Zj G Hf' c v->Yj G H Hf' c v->Q v H')->r x y H Q)
  (σ:St) (Hf H:Hp) (ρ:Zb) (s:Pn) (d:D) (s':Pn) (Q:VK) (e1:ZA G Hf H) (e2:YK G Hf σ ρ) (e3:G.st s H) (e4:Ze g fa fb ρ s=some (d,s'))
  (k:∀v Hf' H',Gr G Hf H Hf' H'->G.st s' H'->Zj G Hf' d v->Yj G H Hf' d v->Q v H'):Wk r ta tb σ H Q:=by
 obtain⟨da,s1,a1,a2⟩:=ZF e4;obtain⟨db,s2,a3,a4⟩:=ZF a2;obtain⟨a5,rfl⟩:=WZ a4;refine qa σ Hf H ρ s da s1 _ e1 e2 e3 a1 λx jQ H1 g1 jT r1=>?_;refine qb σ jQ H1 ρ s1 db _ _ g1.fh (e2.ext g1.ff) jT a3 λy jZ H2 g2 jP r2=>?_;refine qo jZ H2 _ x y da db d Q g2.fh jP (r1.ext g2.ff) r2 a5 λv Hf3 H3 g3 st3 r3 fz=>?_;exact k v Hf3 H3 ((g1.trans g2).trans g3) st3 r3 (jn (g1.hh.trans g2.hh) r3.nofp fz)
theorem PD.drop {e:Expr}{f:Zb->M D}{fr:Bool}(h:PD X G fr e f):∃t,PE X e t/\∀(σ:St) (Hf H:Hp) (ρ:Zb) (s:Pn) (d:D) (s':Pn) (Q:VK),ZA G Hf H->YK G Hf σ ρ->G.st s H->f ρ s=some (d,s')->
  (∀v Hf' H',Gr G Hf H Hf' H'->G.st s' H'->Zj G Hf' d v->Q v H')->t σ H Q:=by
 obtain⟨t,p,q⟩:=h;exact⟨t,p,fun σ Hf H ρ s d s' Q a b c d' k=>q σ Hf H ρ s d s' Q a b c d' λv Hf' H' g1 g2 g3 _=>k v Hf' H' g1 g2 g3⟩
theorem Z5 {a b:Expr}{op:Operator}{pos:Pos}{fa fb:Zb->M D}{g:D->D->Option D}{r1 r2:Bool}(ho:Xq X G (binaryOp op) g)(ha:PD X G r1 a fa)(hb:PD X G r2 b fb):PD X G true (.BinOp a op b pos) (Ze g fa fb):=by
 obtain⟨r,po,qo⟩:=ho;obtain⟨ta,pa,qa⟩:=ha.drop;obtain⟨tb,pb,qb⟩:=hb.drop;exact⟨_,VO po pa pb,fun σ Hf H ρ s d s' Q e1 e2 e3 e4 k=>op2D qa qb qo σ Hf H ρ s d s' Q e1 e2 e3 e4 λv Hf' H' g1 g2 g3 fz=>k v Hf' H' g1 g2 g3 λ_=>fz⟩
theorem V4 {a b:Expr}{op:CmpOp}{pos:Pos}{fa fb:Zb->M D}{g:D->D->Option D}{r1 r2:Bool}(ho:Xq X G (xk op) g)(ha:PD X G r1 a fa)(hb:PD X G r2 b fb)
  (hm:behindInMarks op b=false:=by first | exact Bj _ | with_unfolding_all rfl):PD X G true (.Compare a [op] [b] pos) (Ze g fa fb):=by
 obtain⟨r,po,qo⟩:=ho;obtain⟨ta,pa,qa⟩:=ha.drop;obtain⟨tb,pb,qb⟩:=hb.drop;exact⟨_,Zld po pa pb hm,fun σ Hf H ρ s d s' Q e1 e2 e3 e4 k=>op2D qa qb qo σ Hf H ρ s d s' Q e1 e2 e3 e4 λv Hf' H' g1 g2 g3 fz=>k v Hf' H' g1 g2 g3 λ_=>fz⟩
noncomputable def ZO (f:Zb->M D):Zb->M Bool:=fun ρ=>Zo (f ρ) λd=>match d with | .bl b=>Zy b | _=>ZG
theorem Zfd {f:Zb->M D}{ρ:Zb}{s s':Pn}{b:Bool}(h:ZO f ρ s=some (b,s')):f ρ s=some (.bl b,s'):=by
 obtain⟨d,s1,a1,a2⟩:=ZF h
 cases d with
 | bl c=>obtain⟨rfl,rfl⟩:=ZQ a2;exact a1
 | _=>cases a2
theorem Xs {a b:Expr}{op:CmpOp}{pos:Pos}{fa fb:Zb->M D}{g:D->D->Option D}{r1 r2:Bool}(ho:Xq X G (xk op) g)(ha:PD X G r1 a fa)(hb:PD X G r2 b fb)
  (hm:behindInMarks op b=false:=by first | exact Bj _ | with_unfolding_all rfl):X2 X G (.Compare a [op] [b] pos) (ZO (Ze g fa fb)):=by
 obtain⟨r,po,qo⟩:=ho;obtain⟨ta,pa,qa⟩:=ha.drop;obtain⟨tb,pb,qb⟩:=hb.drop;refine⟨_,Zcn po pa pb hm,fun σ Hf H ρ s c s' Q e1 e2 e3 e4 k=>?_⟩;exact op2D qa qb qo σ Hf H ρ s (.bl c) s' _ e1 e2 e3 (Zfd e4) λv Hf' H' g1 g2 g3 fz=>⟨c,je.mp g3,k Hf' H' g1 g2⟩
theorem Wr {e:Expr}{f:Zb->M D}{fr:Bool}(h:PD X G fr e f)(he:∀whole,isTrue e X.env whole=(do let v<-whole;standAt e.pos;holding [v] (truthy v)):=by intro _;rfl):X2 X G e (ZO f):=by
 obtain⟨t,p,q⟩:=h;refine⟨_,ZmP p he,fun σ Hf H ρ s c s' Q e1 e2 e3 e4 k=>?_⟩;exact q σ Hf H ρ s (.bl c) s' _ e1 e2 e3 (Zfd e4) λv Hf' H' g1 g2 g3 fz=>⟨c,je.mp g3,k Hf' H' g1 g2⟩
noncomputable def Wx (f:Zb->M Bool):Zb->M Bool:=fun ρ=>Zo (f ρ) λb=>Zy (!b)
theorem VB {a:Expr}{pos:Pos}{f:Zb->M Bool}(h:X2 X G a f):X2 X G (.UnaryOp .Not a pos) (Wx f):=by
 obtain⟨t,p,q⟩:=h;refine⟨_,ZmS p,fun σ Hf H ρ s c s' Q e1 e2 e3 e4 k=>?_⟩;obtain⟨b,s1,a1,a2⟩:=ZF e4;obtain⟨rfl,rfl⟩:=ZQ a2;exact q σ Hf H ρ s b s' _ e1 e2 e3 a1 λHf' H' g1 g2=>k Hf' H' g1 g2
noncomputable def X7 (f g:Zb->M Bool):Zb->M Bool:=fun ρ=>Zo (f ρ) λb=>if b=true then g ρ else Zy false
noncomputable def Vv (f g:Zb->M Bool):Zb->M Bool:=fun ρ=>Zo (f ρ) λb=>if b=true then Zy true else g ρ
noncomputable def Wl (X:Cx)(G:Gh)(e:Expr)(f:Zb->M Bool):Prop:=
 ∃t,PW X e t/\∀(σ:St) (Hf H:Hp) (ρ:Zb) (s:Pn) (b:Bool) (s':Pn) (Q:Bool->Hp->Prop),ZA G Hf H->YK G Hf σ ρ->G.st s H->f ρ s=some (b,s')->
  (∀Hf' H',Gr G Hf H Hf' H'->G.st s' H'->Q b H')->t σ H Q
theorem Wl.pt {e:Expr}{f:Zb->M Bool}(h:Wl X G e f):X2 X G e f:=by
 obtain⟨t,p,q⟩:=h;exact⟨t,p.pt,q⟩
theorem Zfe {a:Expr}{pos:Pos}{f:Zb->M Bool}(h:X2 X G a f):Wl X G (.BoolOp .And [a] pos) f:=by
 obtain⟨t,p,q⟩:=h;exact⟨t,Zla p,q⟩
theorem Zcr {a:Expr}{pos:Pos}{f:Zb->M Bool}(h:X2 X G a f):Wl X G (.BoolOp .Or [a] pos) f:=by
 obtain⟨t,p,q⟩:=h;exact⟨t,ZmQ p,q⟩
theorem Zel {a b:Expr}{rest:List Expr}{pos:Pos}{f g:Zb->M Bool}(h:X2 X G a f)(h2:Wl X G (.BoolOp .And (b::rest) pos) g):Wl X G (.BoolOp .And (a::b::rest) pos) (X7 f g):=by
 obtain⟨t,p,q⟩:=h;obtain⟨u,p2,q2⟩:=h2;refine⟨_,ZmR p p2,fun σ Hf H ρ s c s' Q e1 e2 e3 e4 k=>?_⟩;obtain⟨b,s1,a1,a2⟩:=ZF e4;refine q σ Hf H ρ s b s1 _ e1 e2 e3 a1 λjQ H1 g1 jT=>?_
 cases b with
 | true=>exact q2 σ jQ H1 ρ s1 c s' _ g1.fh (e2.ext g1.ff) jT a2 λjZ H2 g2 jP=>k jZ H2 (g1.trans g2) jP
 | false=>obtain⟨rfl,rfl⟩:=ZQ a2;exact k jQ H1 g1 jT
theorem Jd {a b:Expr}{rest:List Expr}{pos:Pos}{f g:Zb->M Bool}(h:X2 X G a f)(h2:Wl X G (.BoolOp .Or (b::rest) pos) g):Wl X G (.BoolOp .Or (a::b::rest) pos) (Vv f g):=by
 obtain⟨t,p,q⟩:=h;obtain⟨u,p2,q2⟩:=h2;refine⟨_,Zn2 p p2,fun σ Hf H ρ s c s' Q e1 e2 e3 e4 k=>?_⟩;obtain⟨b,s1,a1,a2⟩:=ZF e4;refine q σ Hf H ρ s b s1 _ e1 e2 e3 a1 λjQ H1 g1 jT=>?_
 cases b with
 | true=>obtain⟨rfl,rfl⟩:=ZQ a2;exact k jQ H1 g1 jT
 | false=>exact q2 σ jQ H1 ρ s1 c s' _ g1.fh (e2.ext g1.ff) jT a2 λjZ H2 g2 jP=>k jZ H2 (g1.trans g2) jP
noncomputable def UI (f g:Zb->M D):Zb->M D:=fun ρ=>Zo (f ρ) λd=>match d with | .bl true=>g ρ | .bl false=>Zy (.bl false) | _=>ZG
noncomputable def US (f g:Zb->M D):Zb->M D:=fun ρ=>Zo (f ρ) λd=>match d with | .bl true=>Zy (.bl true) | .bl false=>g ρ | _=>ZG
noncomputable def BI (f:Zb->M D):Zb->M D:=fun ρ=>Zo (f ρ) λd=>match d with | .bl b=>Zy (.bl (!b)) | _=>ZG
theorem Zjx {op}{a:Expr}{pos:Pos}{fr:Bool}{f:Zb->M D}(h:PD X G fr a f):PD X G false (.BoolOp op [a] pos) f:=by
 obtain⟨t,p,q⟩:=h.weak;exact⟨t,ZmT p,q⟩
theorem Znb {a b:Expr}{rest:List Expr}{pos:Pos}{r1 r2:Bool}{f g:Zb->M D}(h:PD X G r1 a f)(h2:PD X G r2 (.BoolOp .And (b::rest) pos) g):PD X G false (.BoolOp .And (a::b::rest) pos) (UI f g):=by
 obtain⟨t,p,q⟩:=h.drop;obtain⟨u,p2,q2⟩:=h2.drop;refine⟨_,ZmU p p2,fun σ Hf H ρ s c s' Q e1 e2 e3 e4 k=>?_⟩;obtain⟨d,s1,a1,a2⟩:=ZF e4;refine q σ Hf H ρ s d s1 _ e1 e2 e3 a1 λv jQ H1 g1 jT r1=>?_
 cases d with
 | bl b=>
  cases b with
  | true=>exact⟨true,je.mp r1,Ub (q2 σ jQ H1 ρ s1 c s' _ g1.fh (e2.ext g1.ff) jT a2 λv jZ H2 g2 jP r2=>k v jZ H2 (g1.trans g2) jP r2 (λz=>by cases z))⟩
  | false=>obtain⟨rfl,rfl⟩:=ZQ a2;exact⟨false,je.mp r1,Ua (k _ jQ H1 g1 jT (je.mpr rfl) (λz=>by cases z))⟩
 | _=>cases a2
theorem Zoj {a b:Expr}{rest:List Expr}{pos:Pos}{r1 r2:Bool}{f g:Zb->M D}(h:PD X G r1 a f)(h2:PD X G r2 (.BoolOp .Or (b::rest) pos) g):PD X G false (.BoolOp .Or (a::b::rest) pos) (US f g):=by
 obtain⟨t,p,q⟩:=h.drop;obtain⟨u,p2,q2⟩:=h2.drop;refine⟨_,Zn5 p p2,fun σ Hf H ρ s c s' Q e1 e2 e3 e4 k=>?_⟩;obtain⟨d,s1,a1,a2⟩:=ZF e4;refine q σ Hf H ρ s d s1 _ e1 e2 e3 a1 λv jQ H1 g1 jT r1=>?_
 cases d with
 | bl b=>
  cases b with
  | false=>exact⟨false,je.mp r1,Ua (q2 σ jQ H1 ρ s1 c s' _ g1.fh (e2.ext g1.ff) jT a2 λv jZ H2 g2 jP r2=>k v jZ H2 (g1.trans g2) jP r2 (λz=>by cases z))⟩
  | true=>obtain⟨rfl,rfl⟩:=ZQ a2;exact⟨true,je.mp r1,Ub (k _ jQ H1 g1 jT (je.mpr rfl) (λz=>by cases z))⟩
 | _=>cases a2
theorem Znc {a:Expr}{pos:Pos}{r1:Bool}{f:Zb->M D}(h:PD X G r1 a f):PD X G true (.UnaryOp .Not a pos) (BI f):=by
 obtain⟨t,p,q⟩:=h.drop;refine⟨_,ZmV p,fun σ Hf H ρ s c s' Q e1 e2 e3 e4 k=>?_⟩;obtain⟨d,s1,a1,a2⟩:=ZF e4;refine q σ Hf H ρ s d s1 _ e1 e2 e3 a1 λv jQ H1 g1 jT r1=>?_
 cases d with
 | bl b=>obtain⟨rfl,rfl⟩:=ZQ a2;exact⟨b,je.mp r1,k _ jQ H1 g1 jT (je.mpr rfl) λ_=>.scal λz=>z⟩
 | _=>cases a2
noncomputable def BR (c:Zb->M Bool)(f g:Zb->M D):Zb->M D:=fun ρ=>Zo (c ρ) λb=>if b=true then f ρ else g ρ
theorem Zok {c a b:Expr}{pos:Pos}{r1 r2:Bool}{fc:Zb->M Bool}{f g:Zb->M D}(hc:X2 X G c fc)(ha:PD X G r1 a f)(hb:PD X G r2 b g):PD X G false (.IfExp c a b pos) (BR fc f g):=by
 obtain⟨tc,pc,qc⟩:=hc;obtain⟨ta,pa,qa⟩:=ha.drop;obtain⟨tb,pb,qb⟩:=hb.drop;refine⟨_,Zjd pc pa pb,fun σ Hf H ρ s d s' Q e1 e2 e3 e4 k=>?_⟩;obtain⟨b,s1,a1,a2⟩:=ZF e4;refine qc σ Hf H ρ s b s1 _ e1 e2 e3 a1 λjQ H1 g1 jT=>?_
 cases b with
 | true=>exact Ub (qa σ jQ H1 ρ s1 d s' _ g1.fh (e2.ext g1.ff) jT a2 λv jZ H2 g2 jP r2=>k v jZ H2 (g1.trans g2) jP r2 (λz=>by cases z))
 | false=>exact Ua (qb σ jQ H1 ρ s1 d s' _ g1.fh (e2.ext g1.ff) jT a2 λv jZ H2 g2 jP r2=>k v jZ H2 (g1.trans g2) jP r2 (λz=>by cases z))
noncomputable def XA (X:Cx)(G:Gh)(f:Value)(g:List D->Option D):Prop:=
 ∃r,Y2 X f r/\∀(Hf H:Hp) (s:Pn) (xs:List V) (ds:List D) (c:D) (Q:VK),ZA G Hf H->G.st s H->Zi G Hf ds xs->g ds=some c->
  (∀v Hf' H',Gr G Hf H Hf' H'->G.st s H'->Zj G Hf' c v->Yj G H Hf' c v->Q v H')->r xs H Q
noncomputable def ZM (g:List D->Option D)(fs:Zb->M (List D)):Zb->M D:=fun ρ=>Zo (fs ρ) λds=>Y5 (g ds)
theorem Y9 {id:String}{x:Str}{p pos:Pos}{e:Expr}{es:List Expr}{g:List D->Option D}{fs:Zb->M (List D)}(hc:XA X G (.builtin id) g)(hg:Gl X x)(hm:X.mg x=none)(hv:xj x=some (.builtin id))(ha:WB X G (e::es) fs)
  (hn:x≠"__name__":=by decide) (hdb:(x==("__debug__" : Str))=false:=by decide)
  (he:xh (e::es) X.env=(false,eval e X.env)::xh es X.env:=by rfl) (hpl:(backTo pos (xh es X.env)).any (·.1)=false:=by rfl):PD X G true (.Call (.Name x p) (e::es) [] pos) (ZM g fs):=by
 obtain⟨r,pr,qr⟩:=hc;obtain⟨t,pa,qa⟩:=ha;refine⟨_,U2 pr hg hm hv pa hn hdb he hpl,fun σ Hf H ρ s d s' Q e1 e2 e3 e4 k=>?_⟩;obtain⟨ds,s1,a1,a2⟩:=ZF e4;obtain⟨a3,rfl⟩:=WZ a2;refine qa σ Hf H ρ s ds _ _ e1 e2 e3 a1 λvs jQ H1 g1 jT r1=>?_;exact qr jQ H1 _ vs ds d Q g1.fh jT r1 a3 λv jZ H2 g2 jP r2 fz=>k v jZ H2 (g1.trans g2) jP r2 λ_=>jn g1.hh r2.nofp fz
theorem WY {T:String}{x:Str}{p pos:Pos}{e:Expr}{es:List Expr}{g:List D->Option D}{fs:Zb->M (List D)}(hc:XA X G (.type T) g)(hg:Gl X x)(hm:X.mg x=none)(hv:xj x=some (.type T))(ha:WB X G (e::es) fs)
  (hn:x≠"__name__":=by decide) (hdb:(x==("__debug__" : Str))=false:=by decide)
  (he:xh (e::es) X.env=(false,eval e X.env)::xh es X.env:=by rfl) (hpl:(backTo pos (xh es X.env)).any (·.1)=false:=by rfl):PD X G true (.Call (.Name x p) (e::es) [] pos) (ZM g fs):=by
 obtain⟨r,pr,qr⟩:=hc;obtain⟨t,pa,qa⟩:=ha;refine⟨_,ZaP pr hg hm hv pa hn hdb he hpl,fun σ Hf H ρ s d s' Q e1 e2 e3 e4 k=>?_⟩;obtain⟨ds,s1,a1,a2⟩:=ZF e4;obtain⟨a3,rfl⟩:=WZ a2;refine qa σ Hf H ρ s ds _ _ e1 e2 e3 a1 λvs jQ H1 g1 jT r1=>?_;exact qr jQ H1 _ vs ds d Q g1.fh jT r1 a3 λv jZ H2 g2 jP r2 fz=>k v jZ H2 (g1.trans g2) jP r2 λ_=>jn g1.hh r2.nofp fz
noncomputable def IxD (X:Cx)(G:Gh)(g:D->D->Option D):Prop:=
 ∃r,Ui X r/\∀(Hf H:Hp) (s:Pn) (x y:V) (d e c:D) (Q:VK),ZA G Hf H->G.st s H->Zj G Hf d x->Zj G Hf e y->g d e=some c->
  (∀v,Zj G Hf c v->Q v H)->r x y H Q
theorem Ya {a b:Expr}{pos:Pos}{fa fb:Zb->M D}{g:D->D->Option D}{r1 r2:Bool}(ho:IxD X G g)(ha:PD X G r1 a fa)(hb:PD X G r2 b fb)(hs:Zho b:=by intro _ _;rfl):PD X G false (.Subscript a b pos) (Ze g fa fb):=by
 obtain⟨r,po,qo⟩:=ho;obtain⟨ta,pa,qa⟩:=ha.drop;obtain⟨tb,pb,qb⟩:=hb.drop;refine⟨_,WP po pa pb hs,fun σ Hf H ρ s d s' Q e1 e2 e3 e4 k=>?_⟩;obtain⟨da,s1,a1,a2⟩:=ZF e4;obtain⟨db,s2,a3,a4⟩:=ZF a2;obtain⟨a5,rfl⟩:=WZ a4;refine qa σ Hf H ρ s da s1 _ e1 e2 e3 a1 λx jQ H1 g1 jT r1=>?_;refine qb σ jQ H1 ρ s1 db _ _ g1.fh (e2.ext g1.ff) jT a3 λy jZ H2 g2 jP r2=>?_;exact qo jZ H2 _ x y da db d Q g2.fh jP (r1.ext g2.ff) r2 a5 λv r3=>k v jZ H2 (g1.trans g2) jP r3 (λz=>by cases z)
noncomputable def Yu (n:Nat)(fr:Bool)(GG:Gh->Prop)(F:List D->M D):Sp:=λvs H Q _=>∃(G:Gh) (Hf:Hp) (ds:List D) (s:Pn) (d:D) (s':Pn),GG G/\vs.length=n/\ZA G Hf H/\Zi G Hf ds vs/\G.st s H/\F ds s=some (d,s')/\
 ∀v Hf' H',Gr G Hf H Hf' H'->G.st s' H'->Zj G Hf' d v->(fr=true->Yj G H Hf' d v)->Q v H'
noncomputable def Zs (F:List D->M D)(fs:Zb->M (List D)):Zb->M D:=fun ρ=>Zo (fs ρ) F
theorem Zlq {CX:XU}{k:Nat}{f:Addr}{fd:xA}{ps:List Str}{n:Nat}{fr:Bool}{GG:Gh->Prop}{F:List D->M D}{E:XK}{x:Str}{p pos:Pos}{e:Expr}{es:List Expr}{fs:Zb->M (List D)}
  (FN:FnOk X.prog X.w X.K X.mg X.base CX k f fd ps (Yu n fr GG F)) (hG:GG G) (hr:Room k X.A) (hg:Gl X x) (hm:X.mg x=some (.ref f)) (hk:yL X.K (.ref f)=true) (hb:Wi X.K fd ps []) (hx:Zei CX X E)
  (ha:WB X G (e::es) fs) (jN:(e::es).length=n:=by rfl) (hal:∀ρ s ds s',fs ρ s=some (ds,s')->ds.length=(e::es).length)
  (hdb:(x==("__debug__" : Str))=false:=by decide) (he:xh (e::es) X.env=(false,eval e X.env)::xh es X.env:=by rfl) (hpl:(backTo pos (xh es X.env)).any (·.1)=false:=by rfl) :
  PD X G fr (.Call (.Name x p) (e::es) [] pos) (Zs F fs):=by
 obtain⟨t,pa,qa⟩:=ha;refine⟨_,Zlf FN hr hg hm hk hb .nil hx pa hdb he hpl,fun σ Hf H ρ s d s' Q e1 e2 e3 e4 k=>?_⟩;obtain⟨ds,s1,a1,a2⟩:=ZF e4;refine qa σ Hf H ρ s ds _ _ e1 e2 e3 a1 λvs jQ H1 g1 jT r1=>?_;refine⟨G,jQ,ds,s1,d,s',hG,by rw[zr,<-r1.length,hal _ _ _ _ a1];exact jN,g1.fh,by rw[zr];exact r1,jT,a2,λv jZ H2 g2 jP r2 fz=>?_⟩;exact k v jZ H2 (g1.trans g2) jP r2 λz=>jn g1.hh r2.nofp (fz z)
theorem YY {f:Zb->M D}{g:Zb->M (List D)}{n:Nat}(h:∀ρ s ds s',g ρ s=some (ds,s')->ds.length=n):∀ρ s ds s',Zc f g ρ s=some (ds,s')->ds.length=n+1:=fun ρ s ds s' q=>by
 obtain⟨d,s1,a1,a2⟩:=ZF q;obtain⟨r,s2,a3,a4⟩:=ZF a2;obtain⟨rfl,rfl⟩:=ZQ a4;simp[h _ _ _ _ a3]
theorem V0:∀ρ s ds s',Zf ρ s=some (ds,s')->ds.length=0:=fun ρ s ds s' q=>by
 obtain⟨rfl,rfl⟩:=ZQ q;rfl
end
mutual
noncomputable def X5:D->Bool
 | .tup ds=>Je ds
 | .lst _=>false
 | .dk _=>false
 | .dt _=>false
 | .du _=>false
 | .df _=>false
 | .clo _ _=>false
 | _=>true
noncomputable def Je:List D->Bool
 | []=>true
 | d::ds=>X5 d&&Je ds
end
mutual
theorem Zj.only {G:Gh}{H H':Hp}(e:∀b vs,¬G.fp b->H b=some (.tup vs)->H' b=some (.tup vs)):∀{d:D} {v:V},X5 d=true->Zj G H d v->Zj G H' d v
 | .non,_,_,h=>h
 | .bl _,_,_,h=>h
 | .int _,_,_,h=>h
 | .str _,_,_,h=>h
 | .tup ds,v,n,h=>by
  obtain⟨a,vs,e1,nf,e2,r⟩:=jc.mp h;exact jc.mpr ⟨a,vs,e1,nf,e _ _ nf e2,Zi.only e (by simpa[X5]using n) r⟩
 | .lst ds,v,n,h=>by simp[X5]at n
 | .dk kvs,v,n,h=>by simp[X5]at n
 | .dt kvs,v,n,h=>by simp[X5]at n
 | .du kvs,v,n,h=>by simp[X5]at n
 | .df kvs,v,n,h=>by simp[X5]at n
 | .pen,_,_,h=>h
 | .ty _,_,_,h=>h
 | .clo _ _,v,n,h=>by simp[X5]at n
theorem Zi.only {G:Gh}{H H':Hp}(e:∀b vs,¬G.fp b->H b=some (.tup vs)->H' b=some (.tup vs)):∀{ds:List D} {vs:List V},Je ds=true->Zi G H ds vs->Zi G H' ds vs
 | [],_,_,h=>h
 | d::ds,vs,n,h=>by
  obtain⟨v,r,e1,r1,r2⟩:=jd.mp h;have n':X5 d=true/\Je ds=true:=by simpa[Je]using n
  exact jd.mpr ⟨v,r,e1,Zj.only e n'.1 r1,Zi.only e n'.2 r2⟩
end
noncomputable def VJ (G:Gh)(Hf H:Hp)(a:Addr):D->Prop
 | .lst ds=>∃vs,H a=some (.lst vs)/\Zi G Hf ds vs
 | .dk kvs=>H a=some (.dK kvs)
 | .dt kvs=>∃o,H a=some (.frz o (.dT kvs))
 | .du kvs=>H a=some (.dT kvs)
 | _=>False
theorem VJ.there {G:Gh}{Hf H:Hp}{a:Addr}{d:D}(h:VJ G Hf H a d):∃o,H a=some o/\∀vs,o≠.tup vs:=by
 cases d with
 | lst ds=>obtain⟨vs,e,_⟩:=h;exact⟨_,e,λ_ z=>by cases z⟩
 | dk kvs=>exact⟨_,h,λ_ z=>by cases z⟩
 | dt kvs=>obtain⟨o,h⟩:=h;exact⟨_,h,λ_ z=>by cases z⟩
 | du kvs=>exact⟨_,h,λ_ z=>by cases z⟩
 | _=>exact h.elim
theorem VJ.keep {G:Gh}{Hf H Hf' H':Hp}{a:Addr}{d:D}(h:VJ G Hf H a d)(e:ZA G Hf Hf')(ha:∀o,H a=some o->H' a=some o):VJ G Hf' H' a d:=by
 cases d with
 | lst ds=>obtain⟨vs,q,r⟩:=h;exact⟨vs,ha _ q,r.ext e⟩
 | dk kvs=>exact ha _ h
 | dt kvs=>obtain⟨o,h⟩:=h;exact⟨o,ha _ h⟩
 | du kvs=>exact ha _ h
 | _=>exact h.elim
theorem VJ.rep {G:Gh}{Hf H Hf':Hp}{a:Addr}{d:D}(h:VJ G Hf H a d)(nf:¬G.fp a)(e:ZA G Hf Hf')(ha:∀o,H a=some o->Hf' a=some o):Zj G Hf' d (.ref a):=by
 cases d with
 | lst ds=>obtain⟨vs,q,r⟩:=h;exact jb.mpr ⟨a,vs,rfl,nf,ha _ q,r.ext e⟩
 | dk kvs=>exact jj.mpr ⟨a,rfl,nf,ha _ h⟩
 | dt kvs=>obtain⟨o,h⟩:=h;exact jl.mpr ⟨a,o,rfl,nf,ha _ h⟩
 | du kvs=>exact jm.mpr ⟨a,rfl,nf,ha _ h⟩
 | _=>exact h.elim
structure Jf (G:Gh)(own:List Nat)(kn jO H0:Hp)(σ:St)(Hf H:Hp)(ρ:Zb):Prop where
 len:σ.length=ρ.length
 kn:ZA G kn Hf
 gr:Gr G jO H0 Hf H
 fz:∀(i:Nat) (d:D),i∉own->ρ[i]?=some (some d)->∃v,σ[i]?=some (some v)/\Zj G Hf d v
 ow:∀(i:Nat) (d:D),i∈own->ρ[i]?=some (some d)->∃a,σ[i]?=some (some (.ref a))/\¬G.rd a/\Hf a=none/\H0 a=none/\VJ G Hf H a d
 ne:∀(i j:Nat) (a:Addr) (di dj:D),i∈own->j∈own->i≠j->ρ[i]?=some (some di)->ρ[j]?=some (some dj)->σ[i]?=some (some (.ref a))->σ[j]?=some (some (.ref a))->False
noncomputable def J (G:Gh)(own:List Nat)(kn jO H0:Hp)(σ:St)(H:Hp)(ρ:Zb):Prop:=∃Hf,Jf G own kn jO H0 σ Hf H ρ
noncomputable def Z2 (own:List Nat)(ρ:Zb):Zb:=ρ.mapIdx λi o=>if i∈own then none else o
theorem ZcH (ρ:Zb):Z2 [] ρ=ρ:=by
 unfold Z2;apply qan;intro i;simp
theorem Zjy {own:List Nat}{ρ:Zb}{i:Nat}{d:D}(h:(Z2 own ρ)[i]?=some (some d)):i∉own/\ρ[i]?=some (some d):=by
 unfold Z2 at h;rw[List.getElem?_mapIdx]at h
 cases e:ρ[i]? with
 | none=>rw[e]at h;cases h
 | some o=>
  rw[e]at h;simp only[yd,qbT]at h;split at h
  ·cases h
  ·rename_i hn;exact⟨hn,by rw[h]⟩
section
variable {X:Cx}{G:Gh}{own:List Nat}{kn jO H0 Hf H:Hp}{σ:St}{ρ:Zb}
theorem Jf.envA (j:Jf G own kn jO H0 σ Hf H ρ):YK G Hf σ (Z2 own ρ):=λi d e=>by
 obtain⟨n,q⟩:=Zjy e;exact j.fz i d n q
theorem ju {G:Gh}{a:Addr}(h:¬G.rd a):¬G.fp a:=λz=>h (G.sub a z)
theorem Jf.grow {Hf' H':Hp}(j:Jf G own kn jO H0 σ Hf H ρ)(g:Gr G Hf H Hf' H'):Jf G own kn jO H0 σ Hf' H' ρ where
 len:=j.len
 kn:=j.kn.trans g.ff
 gr:=j.gr.trans g
 fz:=λi d n e=>let ⟨v,a,b⟩:=j.fz i d n e;⟨v,a,b.ext g.ff⟩
 ow:=λi d m e=>by
  obtain⟨a,h1,h2,h3,h4,h5⟩:=j.ow i d m e;have nf:=ju h2;refine⟨a,h1,h2,?_,h4,h5.keep g.ff λo q=>g.hh a o nf q⟩;exact g.nw a nf h3 h5.there
 ne:=j.ne
noncomputable def Vu (jO H0 H:Hp):Hp:=λb=>open Classical in if jO b=none/\Nt (H0 b)then none else H b
theorem U3 {jO H0 H:Hp}:ZA G (Vu jO H0 H) H:=λb o _ e=>by
 unfold Vu at e;split at e
 ·cases e
 ·exact e
theorem Jf.wideF (j:Jf G own kn jO H0 σ Hf H ρ):ZA G Hf (Vu jO H0 H):=λb o n e=>by
 unfold Vu;split
 ·rename_i h
  rw[j.gr.nw b n h.1 h.2]at e;cases e
 ·exact j.gr.fh b o n e
theorem Jf.envB (j:Jf G own kn jO H0 σ Hf H ρ):YK G (Vu jO H0 H) σ ρ:=λi d e=>by
 by_cases m:i∈own
 ·obtain⟨a,h1,h2,h3,h4,h5⟩:=j.ow i d m e
  refine⟨_,h1,h5.rep (ju h2) j.wideF λo q=>?_⟩;unfold Vu;rw[if_neg (λz=>z.2.no h4)];exact q
 ·obtain⟨v,h1,h2⟩:=j.fz i d m e
  exact⟨v,h1,h2.ext j.wideF⟩
theorem Jf.grW {Hf' H':Hp}(j:Jf G own kn jO H0 σ Hf H ρ)(g:Gr G (Vu jO H0 H) H Hf' H'):Gr G jO H0 Hf' H' where
 hh:=j.gr.hh.trans g.hh
 ff:=λb o n e=>g.ff b o n (j.wideF b o n (j.gr.ff b o n e))
 fh:=g.fh
 nw:=λb n h1 h2=>g.nw b n (by unfold Vu;rw[if_pos ⟨h1,h2⟩]) (let ⟨u,e,nt⟩:=h2;⟨u,j.gr.hh b u n e,nt⟩)
noncomputable def okB:D->Bool
 | .lst ds=>Je ds
 | .dk _=>true
 | .dt _=>true
 | .du _=>true
 | _=>false
theorem Zlr {d:D}(h:okB d=true):Jo d:=by
 cases d <;> first | trivial | (simp[okB]at h)
theorem Jf.growB {Hf' H':Hp}(j:Jf G own kn jO H0 σ Hf H ρ)(g:Gr G (Vu jO H0 H) H Hf' H') :
  ∃Hf'',Jf G own kn jO H0 σ Hf'' H' ρ/\ZA G Hf Hf''/\(∀d v,X5 d=true->Zj G Hf' d v->Zj G Hf'' d v)/\∀d v,okB d=true->Yj G H Hf' d v->Zj G Hf' d v->Zj G Hf'' d v/\Yj G H Hf'' d v:=by
 classical
 -- the owned addresses are left out again
 let OA:Addr->Prop:=λb=>∃i d,i∈own/\ρ[i]?=some (some d)/\σ[i]?=some (some (.ref b))
 have oaH:∀b,OA b->Hf b=none/\¬G.rd b/\∃o,H b=some o/\∀vs,o≠.tup vs:=λb ⟨i,d,m,e,q⟩=>by
  obtain⟨a,h1,h2,h3,h4,h5⟩:=j.ow i d m e;rw[q]at h1;cases h1;exact⟨h3,h2,h5.there⟩
 have W:=j.grW g;refine⟨λb=>if OA b then none else Hf' b,?_⟩;have fF:ZA G Hf (λb=>if OA b then none else Hf' b):=λb o n e=>by
  have:¬OA b:=λz=>by rw[(oaH b z).1]at e;cases e
  show(if OA b then none else Hf' b)=_;rw[if_neg this];exact g.ff b o n (j.wideF b o n e)
 have Fh:ZA G (λb=>if OA b then none else Hf' b) H':=λb o n e=>by
  have e':(if OA b then none else Hf' b)=some o:=e;split at e'
  ·cases e'
  ·exact g.fh b o n e'
 have tupK:∀b vs,¬G.fp b->Hf' b=some (.tup vs)->(if OA b then none else Hf' b)=some (.tup vs):=λb vs nf e=>by
  have:¬OA b:=λz=>by
   obtain⟨_,_,o,q,nt⟩:=oaH b z;have q1:=g.hh b o nf q;have q2:=g.fh b _ nf e;rw[q1]at q2;exact nt vs (zy q2)
  rw[if_neg this];exact e
 have frK:∀a,H a=none->¬OA a:=λa e z=>by
  obtain⟨_,_,o,q,nt⟩:=oaH a z;rw[e]at q;cases q
 refine⟨⟨j.len,j.kn.trans fF,⟨W.hh,j.gr.ff.trans fF,Fh,λb n h1 h2=>?_⟩,λi d n e=>?_,λi d m e=>?_,j.ne⟩,fF,λd v n r=>Zj.only tupK n r,λd v ok fr r=>?_⟩
 ·show(if OA b then none else Hf' b)=none
  split
  ·rfl
  ·exact W.nw b n h1 h2
 ·obtain⟨v,a,b⟩:=j.fz i d n e
  exact⟨v,a,b.ext fF⟩
 ·obtain⟨a,h1,h2,h3,h4,h5⟩:=j.ow i d m e
  refine⟨a,h1,h2,?_,h4,h5.keep fF λo q=>g.hh a o (ju h2) q⟩;show(if OA a then none else Hf' a)=none;rw[if_pos ⟨i,d,m,e,h1⟩]
 ·cases d with
  | lst ds=>
   obtain⟨a,vs,e,n,q,r'⟩:=jb.mp r;have na:=frK a (fr a e trivial).1;have ea:(if OA a then none else Hf' a)=some (.lst vs):=by rw[if_neg na];exact q
   refine⟨jb.mpr ⟨a,vs,e,n,ea,Zi.only tupK ok r'⟩,λb eb m=>?_⟩;rw[e]at eb;cases eb;refine⟨(fr a e trivial).1,λds' ed=>?_⟩
   cases ed
   refine⟨vs,λb=>if b=a then none else if OA b then none else Hf' b,ea,if_pos rfl,λb o nb eb=>?_,?_⟩
   ·have eb':(if b=a then none else if OA b then none else Hf' b)=some o:=eb
    split at eb'
    ·cases eb'
    ·exact eb'
   ·refine Zi.only (λb ws nb eb=>?_) ok r'
    have hba:b≠a:=λz=>by rw[z,q]at eb;cases eb
    show(if b=a then none else if OA b then none else Hf' b)=_;rw[if_neg hba];exact tupK b ws nb eb
  | dk ds=>
   obtain⟨a,e,n,q⟩:=jj.mp r;have na:=frK a (fr a e trivial).1;refine⟨jj.mpr ⟨a,e,n,?_⟩,λb eb m=>⟨(fr b eb m).1,λds' ed=>by cases ed⟩⟩;show(if OA a then none else Hf' a)=_;rw[if_neg na];exact q
  | dt ds=>
   obtain⟨a,o,e,n,q⟩:=jl.mp r;have na:=frK a (fr a e trivial).1;refine⟨jl.mpr ⟨a,o,e,n,?_⟩,λb eb m=>⟨(fr b eb m).1,λds' ed=>by cases ed⟩⟩;show(if OA a then none else Hf' a)=_;rw[if_neg na];exact q
  | du ds=>
   obtain⟨a,e,n,q⟩:=jm.mp r;have na:=frK a (fr a e trivial).1;refine⟨jm.mpr ⟨a,e,n,?_⟩,λb eb m=>⟨(fr b eb m).1,λds' ed=>by cases ed⟩⟩;show(if OA a then none else Hf' a)=_;rw[if_neg na];exact q
  | _=>exact absurd (Zlr ok) (λz=>z)
theorem Jf.set {i:Nat}{d:D}{v:V}{own':List Nat}(j:Jf G own kn jO H0 σ Hf H ρ)(ho:∀k,k∈own'->k≠i/\k∈own)(hk:∀k,k∈own->k≠i->k∈own')(r:Zj G Hf d v):Jf G own' kn jO H0 (σ.set i (some v)) Hf H (ρ.set i (some d)) where
 len:=by simp[j.len]
 kn:=j.kn
 gr:=j.gr
 fz:=λk c n e=>by
  by_cases h:i=k
  ·subst h
   have hl:i < ρ.length:=by
    have:=(qA.mp e).1;simpa using this
   rw[zE hl]at e
   cases e
   exact⟨v,zE (by rw[j.len];exact hl),r⟩
  ·rw[zc h]at e⊢
   exact j.fz k c (λz=>n (hk k z (zO h))) e
 ow:=λk c m e=>by
  have h:i≠k:=zO (ho k m).1;rw[zc h]at e⊢;exact j.ow k c (ho k m).2 e
 ne:=λk l a dk dl mk ml n ek el sk sl=>by
  have h:i≠k:=zO (ho k mk).1;have h':i≠l:=zO (ho l ml).1;rw[zc h]at ek sk;rw[zc h']at el sl;exact j.ne k l a dk dl (ho k mk).2 (ho l ml).2 n ek el sk sl
noncomputable def Bm:D->Bool
 | .lst _=>true
 | .dk _=>true
 | .dt _=>true
 | .du _=>true
 | _=>false
theorem Zgo {d:D}(h:Bm d=true):Jo d:=by
 cases d <;> first | trivial | (simp[Bm]at h)
theorem Jf.setOwn {i:Nat}{d:D}{v:V}{Hb Hq:Hp}{s:Pn}{own':List Nat}(j0:Jf G own kn jO H0 σ Hq Hb ρ)(j:Jf G own kn jO H0 σ Hf H ρ)(ho:∀k,k∈own'↔k=i∨k∈own)(st:G.st s Hb)(hb:ZA G Hb H)(hq:ZA G Hq Hf)
  (r:Zj G Hf d v) (fr:Yj G Hb Hf d v) (ok:Bm d=true):∃Hf',Jf G own' kn jO H0 (σ.set i (some v)) Hf' H (ρ.set i (some d)):=by
 classical
 have mu:=Zgo ok;obtain⟨a,ea,nfa⟩:∃a,v=.ref a/\¬G.fp a:=by
  cases d with
  | lst ds=>obtain⟨a,vs,e,n,_⟩:=jb.mp r;exact⟨a,e,n⟩
  | dk ds=>obtain⟨a,e,n,_⟩:=jj.mp r;exact⟨a,e,n⟩
  | dt ds=>obtain⟨a,_,e,n,_⟩:=jl.mp r;exact⟨a,e,n⟩
  | du ds=>obtain⟨a,e,n,_⟩:=jm.mp r;exact⟨a,e,n⟩
  | _=>exact mu.elim
 subst ea;have fra:Hb a=none:=(fr a rfl mu).1;have hqa:Hq a=none:=by
  cases e:Hq a with
  | none=>rfl
  | some o=>rw[j0.gr.fh a o nfa e]at fra;cases fra
 have h0a:H0 a=none:=by
  cases e:H0 a with
  | none=>rfl
  | some o=>rw[j0.gr.hh a o nfa e]at fra;cases fra
 have qF:ZA G Hq (λb=>if b=a then none else Hf b):=λb o n e=>by
  have:b≠a:=λz=>by rw[z,hqa]at e;cases e
  show(if b=a then none else Hf b)=_;rw[if_neg this];exact hq b o n e
 have oldA:∀k c,k∈own->ρ[k]?=some (some c)->σ[k]?≠some (some (.ref a)):=λk c m e z=>by
  obtain⟨b,h1,_,_,_,h5⟩:=j0.ow k c m e;rw[z]at h1;cases h1;obtain⟨o,q,_⟩:=h5.there;rw[fra]at q;cases q
 refine⟨λb=>if b=a then none else Hf b,by simp[j.len],j0.kn.trans qF,⟨j.gr.hh,j0.gr.ff.trans qF,λb o n e=>?_,λb n h1 h2=>?_⟩,λk c n e=>?_,λk c m e=>?_,λk l b dk dl mk ml n ek el sk sl=>?_⟩
 ·have e':(if b=a then none else Hf b)=some o:=e
  split at e'
  ·cases e'
  ·exact j.gr.fh b o n e'
 ·show(if b=a then none else Hf b)=none
  split
  ·rfl
  ·exact j.gr.nw b n h1 h2
 ·have h:i≠k:=λz=>n ((ho k).mpr (.inl z.symm))
  rw[zc h]at e⊢;obtain⟨v,q1,q2⟩:=j0.fz k c (λz=>n ((ho k).mpr (.inr z))) e;exact⟨v,q1,q2.ext qF⟩
 ·by_cases h:i=k
  ·subst h
   have hl:i < ρ.length:=by
    have:=(qA.mp e).1;simpa using this
   rw[zE hl]at e
   cases e
   refine⟨a,zE (by rw[j.len];exact hl),jz st fra,by show(if a=a then none else Hf a)=none;rw[if_pos rfl],h0a,?_⟩
   cases d with
   | lst ds=>
    obtain⟨a',vs,e',n',q',r'⟩:=jb.mp r
    cases e'
    obtain⟨ws,Hm,f1,f2,f3,f4⟩:=(fr a rfl mu).2 ds rfl;rw[q']at f1;cases f1;refine⟨vs,j.gr.fh a _ n' q',f4.ext λb o nb eb=>?_⟩;have:b≠a:=λz=>by rw[z,f2]at eb;cases eb
    show(if b=a then none else Hf b)=_;rw[if_neg this];exact f3 b o nb eb
   | dk ds=>obtain⟨a',e',n',q'⟩:=jj.mp r;cases e';exact j.gr.fh a _ n' q'
   | dt ds=>obtain⟨a',o',e',n',q'⟩:=jl.mp r;cases e';exact⟨o',j.gr.fh a _ n' q'⟩
   | du ds=>obtain⟨a',e',n',q'⟩:=jm.mp r;cases e';exact j.gr.fh a _ n' q'
   | _=>exact mu.elim
  ·have m':k∈own:=((ho k).mp m).resolve_left (zO h)
   rw[zc h]at e⊢;obtain⟨b,h1,h2,h3,h4,h5⟩:=j0.ow k c m' e;obtain⟨b',g1,g2,g3,g4,g5⟩:=j.ow k c m' e;rw[h1]at g1;cases g1;refine⟨b,h1,h2,?_,h4,h5.keep qF λo q=>hb b o (ju h2) q⟩;show(if b=a then none else Hf b)=none;split
   ·rfl
   ·exact g3
 ·by_cases hk:i=k
  ·subst hk
   have h':i≠l:=n;have hl:i < σ.length:=by
    have:=(qA.mp sk).1;simpa using this
   rw[zE hl]at sk
   cases sk
   rw[zc h']at el sl;exact oldA l dl (((ho l).mp ml).resolve_left (zO h')) el sl
  ·by_cases hl':i=l
   ·subst hl'
    have hl:i < σ.length:=by
     have:=(qA.mp sl).1;simpa using this
    rw[zE hl]at sl
    cases sl
    rw[zc hk]at ek sk;exact oldA k dk (((ho k).mp mk).resolve_left (zO hk)) ek sk
   ·rw[zc hk]at ek sk
    rw[zc hl']at el sl;exact j.ne k l b dk dl (((ho k).mp mk).resolve_left (zO hk)) (((ho l).mp ml).resolve_left (zO hl')) n ek el sk sl
theorem Jf.freeze {own':List Nat}(j:Jf G own kn jO H0 σ Hf H ρ)(ho:∀k,k∈own'->k∈own):∃Hf',Jf G own' kn jO H0 σ Hf' H ρ:=by
 classical
 let OA:Addr->Prop:=λb=>∃i d,i∈own/\i∉own'/\ρ[i]?=some (some d)/\σ[i]?=some (some (.ref b))
 have oaH:∀b,OA b->Hf b=none/\H0 b=none:=λb ⟨i,d,m,_,e,q⟩=>by
  obtain⟨a,h1,h2,h3,h4,h5⟩:=j.ow i d m e;rw[q]at h1;cases h1;exact⟨h3,h4⟩
 have fF:ZA G Hf (λb=>if OA b then H b else Hf b):=λb o n e=>by
  have:¬OA b:=λz=>by rw[(oaH b z).1]at e;cases e
  show(if OA b then H b else Hf b)=_;rw[if_neg this];exact e
 refine⟨λb=>if OA b then H b else Hf b,j.len,j.kn.trans fF,⟨j.gr.hh,j.gr.ff.trans fF,λb o n e=>?_,λb n h1 h2=>?_⟩,λk c n e=>?_,λk c m e=>?_,λk l b dk dl mk ml=>j.ne k l b dk dl (ho k mk) (ho l ml)⟩
 ·have e':(if OA b then H b else Hf b)=some o:=e
  split at e'
  ·exact e'
  ·exact j.gr.fh b o n e'
 ·have:¬OA b:=λz=>h2.no (oaH b z).2
  show(if OA b then H b else Hf b)=none;rw[if_neg this];exact j.gr.nw b n h1 h2
 ·by_cases m:k∈own
  ·obtain⟨a,h1,h2,h3,h4,h5⟩:=j.ow k c m e
   refine⟨_,h1,h5.rep (ju h2) fF λo q=>?_⟩;show(if OA a then H a else Hf a)=_;rw[if_pos ⟨k,c,m,n,e,h1⟩];exact q
  ·obtain⟨v,h1,h2⟩:=j.fz k c m e
   exact⟨v,h1,h2.ext fF⟩
 ·obtain⟨a,h1,h2,h3,h4,h5⟩:=j.ow k c (ho k m) e
  refine⟨a,h1,h2,?_,h4,h5.keep fF λo q=>q⟩;have:¬OA a:=λ⟨i,d,mi,ni,ei,qi⟩=>j.ne i k a d c mi (ho k m) (λz=>ni (z▸m)) ei e qi h1;show(if OA a then H a else Hf a)=none;rw[if_neg this];exact h3
end
theorem Jf.setF {G:Gh}{own:List Nat}{kn jO H0 Hf H:Hp}{σ:St}{ρ:Zb}{i:Nat}{d:D}{v:V}(j:Jf G own kn jO H0 σ Hf H ρ)(hi:i∉own)(r:Zj G Hf d v):Jf G own kn jO H0 (σ.set i (some v)) Hf H (ρ.set i (some d)):=
 j.set (own':=own) (λk m=>⟨λz=>hi (by rw[<-z];exact m),m⟩) (λk m _=>m) r
noncomputable def Vh (G:Gh)(fr:Bool)(t:TE)(f:Zb->M D):Prop:=
 ∀(σ:St) (Hf H:Hp) (ρ:Zb) (s:Pn) (d:D) (s':Pn) (Q:VK),ZA G Hf H->YK G Hf σ ρ->G.st s H->f ρ s=some (d,s')->
  (∀v Hf' H',Gr G Hf H Hf' H'->G.st s' H'->Zj G Hf' d v->(fr=true->Yj G H Hf' d v)->Q v H')->t σ H Q
noncomputable def Uc (G:Gh)(own:List Nat)(fr:Bool)(t:TE)(f:Zb->M D):Prop:=
 ∀(kn jO H0:Hp) (σ:St) (Hf H:Hp) (ρ:Zb) (s:Pn) (d:D) (s':Pn) (Q:VK),Jf G own kn jO H0 σ Hf H ρ->G.st s H->f ρ s=some (d,s')->
  (∀v Hf' H',Jf G own kn jO H0 σ Hf' H' ρ->ZA G Hf Hf'->ZA G H H'->G.st s' H'->Zj G Hf' d v->(fr=true->Yj G H Hf' d v)->Q v H')->t σ H Q
section
variable {X:Cx}{G:Gh}{own:List Nat}{fr:Bool}{t:TE}{f:Zb->M D}
theorem Vh.a (h:Vh G fr t f):Uc G own fr t (fun ρ=>f (Z2 own ρ)):=λkn jO H0 σ Hf H ρ s d s' Q j st e k=>
 h σ Hf H (Z2 own ρ) s d s' Q j.gr.fh j.envA st e λv Hf' H' g st' r fz=>k v Hf' H' (j.grow g) g.ff g.hh st' r fz
theorem Vh.n (h:Vh G fr t f):Uc G [] fr t f:=λkn jO H0 σ Hf H ρ s d s' Q j st e k=>
 h.a kn jO H0 σ Hf H ρ s d s' Q j st (by show f (Z2 [] ρ) s=_;rw[ZcH];exact e) k
inductive Out where
 | nx (ρ:Zb) | rt (d:D) | bk (ρ:Zb) | ct (ρ:Zb)
noncomputable def Post (G:Gh)(ob own':List Nat)(kn jO H0:Hp)(fr:Bool)(out:Out)(s':Pn)(E:Ends):Prop:=match out with
 | .nx ρ=>∀σ H,J G own' kn jO H0 σ H ρ->G.st s' H->E.nx σ H
 | .bk ρ=>∀σ H,J G ob kn jO H0 σ H ρ->G.st s' H->E.bk σ H
 | .ct ρ=>∀σ H,J G ob kn jO H0 σ H ρ->G.st s' H->E.ct σ H
 | .rt d=>∀v Hf' H',Gr G jO H0 Hf' H'->G.st s' H'->Zj G Hf' d v->(fr=true->Yj G H0 Hf' d v)->E.rt v H'
noncomputable def BS (G:Gh)(ob own own':List Nat)(fr:Bool)(t:TS)(g:Zb->M Out):Prop:=
 ∀(kn jO H0:Hp) (σ:St) (H:Hp) (ρ:Zb) (s:Pn) (out:Out) (s':Pn) (E:Ends),J G own kn jO H0 σ H ρ->G.st s H->g ρ s=some (out,s')->Post G ob own' kn jO H0 fr out s' E->t E σ H
noncomputable def YW (X:Cx)(G:Gh)(ob own own':List Nat)(fr:Bool)(st:Stmt)(g:Zb->M Out):Prop:=∃t,PS X st t/\BS G ob own own' fr t g
noncomputable def X8 (X:Cx)(G:Gh)(ob own own':List Nat)(fr:Bool)(sts:List Stmt)(g:Zb->M Out):Prop:=∃t,Wj X sts t/\BS G ob own own' fr t g
variable {ob own' own2:List Nat}
theorem YW.frz {st:Stmt}{g:Zb->M Out}(h:YW X G ob own2 own' fr st g)(hs:∀k,k∈own2->k∈own:=by decide):YW X G ob own own' fr st g:=by
 obtain⟨t,p,q⟩:=h;exact⟨t,p,λkn jO H0 σ H ρ s out s' E ⟨Hf,j⟩ st e po=>q kn jO H0 σ H ρ s out s' E (j.freeze hs) st e po⟩
noncomputable def Zm:Zb->M Out:=fun ρ=>Zy (.nx ρ)
noncomputable def Zg (g1 g2:Zb->M Out):Zb->M Out:=fun ρ=>Zo (g1 ρ) λo=>match o with | .nx ρ'=>g2 ρ' | .rt d=>Zy (.rt d) | .bk ρ'=>Zy (.bk ρ') | .ct ρ'=>Zy (.ct ρ')
theorem Z6 (hs:∀k,k∈own'->k∈own:=by decide):X8 X G ob own own' fr [] Zm:=⟨_,Zef,λkn jO H0 σ H ρ s out s' E ⟨Hf,j⟩ st e p=>by
 obtain⟨rfl,rfl⟩:=ZQ e;exact p σ H (j.freeze hs) st⟩
theorem ZZ {st:Stmt}{sts:List Stmt}{g1 g2:Zb->M Out}(h:YW X G ob own own2 fr st g1)(h2:X8 X G ob own2 own' fr sts g2):X8 X G ob own own' fr (st::sts) (Zg g1 g2):=by
 obtain⟨t,p,q⟩:=h;obtain⟨u,p2,q2⟩:=h2;refine⟨_,VA p p2,λkn jO H0 σ H ρ s out s' E j st e po=>?_⟩;obtain⟨o,s1,a1,a2⟩:=ZF e;refine q kn jO H0 σ H ρ s o s1 _ j st a1 ?_
 cases o with
 | nx ρ1=>exact fun σ1 H1 j1 jT=>q2 kn jO H0 σ1 H1 ρ1 s1 out s' E j1 jT a2 po
 | rt d=>obtain⟨rfl,rfl⟩:=ZQ a2;exact po
 | bk ρ1=>obtain⟨rfl,rfl⟩:=ZQ a2;exact po
 | ct ρ1=>obtain⟨rfl,rfl⟩:=ZQ a2;exact po
noncomputable def ZN (f:Zb->M D):Zb->M Out:=fun ρ=>Zo (f ρ) λd=>Zy (.rt d)
theorem Yg {e:Expr}{pos:Pos}(h:PD X G fr e f):YW X G ob own own' fr (.Return (some e) pos) (ZN f):=by
 obtain⟨t,p,q⟩:=h;refine⟨_,Zgd p,λkn jO H0 σ H ρ s out s' E ⟨Hf,j⟩ st e po=>?_⟩;obtain⟨d,s1,a1,a2⟩:=ZF e;obtain⟨rfl,rfl⟩:=ZQ a2;exact q σ _ H ρ s d s' _ U3 j.envB st a1 λv Hf' H' g st' r fz=>po v Hf' H' (j.grW g) st' r λz=>jn j.gr.hh r.nofp (fz z)
theorem Zgp {i:Nat}{x:Str}{pos pos':Pos}(hi:i∈own)(h:PE X (.Name x pos') (YB i)):YW X G ob own own' true (.Return (some (.Name x pos')) pos) (ZN (Za i)):=by
 refine⟨_,Zgd h,λkn jO H0 σ H ρ s out s' E ⟨Hf,j⟩ st e po=>?_⟩;obtain⟨d,s1,a1,a2⟩:=ZF e;obtain⟨rfl,rfl⟩:=ZQ a2;obtain⟨e1,rfl⟩:=WZ a1;have e':ρ[i]?=some (some d):=by
  cases q:ρ[i]? with
  | none=>rw[q]at e1;cases e1
  | some o=>rw[q]at e1;simp at e1;rw[e1]
 obtain⟨v,h1,h2⟩:=j.envB i d e';obtain⟨a,g1,g2,g3,g4,g5⟩:=j.ow i d hi e';rw[g1]at h1;cases h1;refine⟨_,g1,po (.ref a) _ H (j.grW (.refl U3)) st h2 λ_ b eb _=>?_⟩
 cases eb
 refine⟨g4,λds ed=>?_⟩;subst ed;obtain⟨vs,q1,q2⟩:=g5;refine⟨vs,Hf,?_,g3,j.wideF,q2⟩;unfold Vu;rw[if_neg (λz=>z.2.no g4)];exact q1
noncomputable def Yl (c:Zb->M Bool)(g1 g2:Zb->M Out):Zb->M Out:=fun ρ=>Zo (c ρ) λb=>if b=true then g1 ρ else g2 ρ
theorem Jg {c:Expr}{a b:List Stmt}{pos:Pos}{fc:Zb->M Bool}{g1 g2:Zb->M Out}(hc:X2 X G c fc)(ha:X8 X G ob own own' fr a g1)(hb:X8 X G ob own own' fr b g2):YW X G ob own own' fr (.If c a b pos) (Yl fc g1 g2):=by
 obtain⟨tc,pc,qc⟩:=hc;obtain⟨ta,pa,qa⟩:=ha;obtain⟨tb,pb,qb⟩:=hb;refine⟨_,Zhk pc pa pb,λkn jO H0 σ H ρ s out s' E ⟨Hf,j⟩ st e po=>?_⟩;obtain⟨b,s1,a1,a2⟩:=ZF e;refine qc σ _ H ρ s b s1 _ U3 j.envB st a1 λHf' H' g st'=>?_;obtain⟨F,j',fF,q1,q2⟩:=j.growB g
 cases b with
 | true=>exact Ub (qa kn jO H0 σ H' ρ s1 out s' E ⟨F,j'⟩ st' a2 po)
 | false=>exact Ua (qb kn jO H0 σ H' ρ s1 out s' E ⟨F,j'⟩ st' a2 po)
noncomputable def BJ (X:Cx)(G:Gh)(fr:Bool)(i:Nat)(st:Stmt)(f:Zb->M D):Prop:=∃te,PS X st (λE σ H=>te σ H λy H1=>E.nx (σ.set i (some y)) H1)/\Vh G fr te f
theorem Yf {i:Nat}{x:Str}{e:Expr}{pos pos':Pos}(hN:X.N.Nodup)(hi:X.N[i]?=some x)(hx:Vf X.env.scope x)(he:PD X G fr e f)(hs:xr e (some (.Name x pos')) pos.line X.env=pure false:=by rfl)
  (hf:X.fn x=true∨X.env.scope.names.lookup x=some .local:=by first | exact .inl rfl | exact .inr rfl | assumption):BJ X G fr i (.Assign [.Name x pos'] e pos) f:=by
 obtain⟨t,p,q⟩:=he;exact⟨t,UA hN hi hx p hs hf,q⟩
noncomputable def ZR (i:Nat)(f:Zb->M D):Zb->M Out:=fun ρ=>Zo (f ρ) λd=>Zy (.nx (ρ.set i (some d)))
theorem Zff {i:Nat}{st:Stmt}{te:TE}(hp:PS X st (λE σ H=>te σ H λy H1=>E.nx (σ.set i (some y)) H1))(hy:Uc G own fr te f)(hi:i∉own){fr':Bool}:YW X G ob own own fr' st (ZR i f):=
 ⟨_,hp,λkn jO H0 σ H ρ s out s' E ⟨Hf,j⟩ st e po=>by
  obtain⟨d,s1,a1,a2⟩:=ZF e;obtain⟨rfl,rfl⟩:=ZQ a2;exact hy kn jO H0 σ Hf H ρ s d s' _ j st a1 λv Hf' H' j' e1 e2 st' r fz=>po _ H' ⟨Hf',j'.setF hi r⟩ st'⟩
theorem YE {i:Nat}{st:Stmt}{fr':Bool}(h:BJ X G fr i st f):YW X G ob [] [] fr' st (ZR i f):=let ⟨_,p,q⟩:=h;Zff p q.n (by simp)
theorem Ba {i:Nat}{st:Stmt}{fr':Bool}(h:BJ X G fr i st f)(hi:i∉own:=by decide):YW X G ob own own fr' st (ZR i (fun ρ=>f (Z2 own ρ))):=let ⟨_,p,q⟩:=h;Zff p q.a hi
noncomputable def WS (i:Nat)(f:Zb->M D):Zb->M Out:=fun ρ=>Zo (f ρ) λd=>if Bm d=true then Zy (.nx (ρ.set i (some d)))else ZG
theorem Zjz {i:Nat}{st:Stmt}{te:TE}(hp:PS X st (λE σ H=>te σ H λy H1=>E.nx (σ.set i (some y)) H1))(hy:Uc G own true te f)(ho:∀k,k∈own'↔k=i∨k∈own){fr':Bool}:YW X G ob own own' fr' st (WS i f):=
 ⟨_,hp,λkn jO H0 σ H ρ s out s' E ⟨Hf,j⟩ st e po=>by
  obtain⟨d,s1,a1,a2⟩:=ZF e;obtain⟨ok,a3⟩:=Xf a2;obtain⟨rfl,rfl⟩:=ZQ a3;exact hy kn jO H0 σ Hf H ρ s d s' _ j st a1 λv Hf' H' j' e1 e2 st' r fz=>po _ H' (j.setOwn j' ho st e2 e1 r (fz rfl) ok) st'⟩
theorem V1 {i:Nat}{st:Stmt}{fr':Bool}(h:BJ X G true i st f):YW X G ob [] [i] fr' st (WS i f):=let ⟨_,p,q⟩:=h;Zjz p q.n (by intro k;simp)
noncomputable def sPar (i j:Nat)(fs:Zb->M (List D)):Zb->M Out:=fun ρ=>Zo (fs ρ) λds=>match ds with | [a,b]=>if (X5 a&&X5 b)=true then Zy (.nx ((ρ.set i (some a)).set j (some b)))else ZG | _=>ZG
theorem Zls {i j:Nat}{x y:Str}{a b:Expr}{fs:Zb->M (List D)}{px py pt pos:Pos}{kt k2 pt2}(hc:X.calm=true)(hN:X.N.Nodup)(hi:X.N[i]?=some x)(hj:X.N[j]?=some y)(hij:i≠j)(oi:i∉own)(oj:j∉own)
  (hx:X.env.scope.names.lookup x=some .local) (hy:X.env.scope.names.lookup y=some .local) (ha:WB X G [a,b] fs)
  (hw:swappedStores [.Tuple [.Name x px,.Name y py] kt pt] (.Tuple [a,b] k2 pt2) X.env=pure (some [x,y]))
  (hs:swapsWithSole [.Tuple [.Name x px,.Name y py] kt pt] (.Tuple [a,b] k2 pt2) pos.line X.env=pure false:=by rfl) :
  YW X G ob own own fr (.Assign [.Tuple [.Name x px,.Name y py] kt pt] (.Tuple [a,b] k2 pt2) pos) (sPar i j fs):=by
 obtain⟨t,p,q⟩:=ha;refine⟨_,ZmW hc hN hi hj hij hx hy p hw hs,λkn jO H0 σ H ρ s out s' E ⟨Hf,j'⟩ st e po=>?_⟩;obtain⟨ds,s1,a1,a2⟩:=ZF e;refine q σ _ H ρ s ds s1 _ U3 j'.envB st a1 λvs Hf' H' g st' r=>?_
 match ds,a2,r with
 | [d1,d2],a2,r=>
  obtain⟨c,a3⟩:=Xf a2;obtain⟨rfl,rfl⟩:=ZQ a3;obtain⟨c1,c2⟩:=qaP.mp c;obtain⟨v1,r1,rfl,q1,q2⟩:=jd.mp r;obtain⟨v2,r2,rfl,q3,q4⟩:=jd.mp q2;rw[Zi.nil_iff.mp q4];obtain⟨F,jF,fF,f1,f2⟩:=j'.growB g;exact⟨v1,v2,rfl,po _ H' ⟨F,(jF.setF oi (f1 _ _ c1 q1)).setF oj (f1 _ _ c2 q3)⟩ st'⟩
 | [],a2,_=>cases a2
 | [_],a2,_=>cases a2
 | _::_::_::_,a2,_=>cases a2
inductive Sets (G:Gh)(Hf:Hp)(ok:Nat->Prop):St->Zb->St->Zb->Prop
 | nil {σ ρ}:Sets G Hf ok σ ρ σ ρ
 | cons {σ ρ σ' ρ'} {i:Nat} {d:D} {v:V}:ok i->Zj G Hf d v->Sets G Hf ok (σ.set i (some v)) (ρ.set i (some d)) σ' ρ'->Sets G Hf ok σ ρ σ' ρ'
noncomputable def WC (X:Cx)(G:Gh)(tg:Expr)(ok:Nat->Prop)(τ:D->Zb->Option Zb):Prop:=
 ∃g,PG X tg g/\∀(x:V) (σ:St) (Hf H:Hp) (d:D) (ρ ρ':Zb) (Q:St->Hp->Prop),ZA G Hf H->Zj G Hf d x->τ d ρ=some ρ'->(∀σ',Sets G Hf ok σ ρ σ' ρ'->Q σ' H)->g x σ H Q
noncomputable def Zv (i:Nat):D->Zb->Option Zb:=λd ρ=>some (ρ.set i (some d))
theorem Xa {i:Nat}{x:Str}{pos:Pos}{ok:Nat->Prop}(hN:X.N.Nodup)(hi:X.N[i]?=some x)(hx:Vf X.env.scope x)(oi:ok i)(hf:X.fn x=true∨X.env.scope.names.lookup x=some .local:=by first | exact .inl rfl | exact .inr rfl | assumption):WC X G (.Name x pos) ok (Zv i):=
 ⟨_,Xx hN hi hx hf,λx σ Hf H d ρ ρ' Q e r q k=>by
  cases q
  exact k _ (.cons oi r .nil)⟩
noncomputable def Br (i j:Nat):D->Zb->Option Zb:=λd ρ=>match d with | .tup [a,b]=>some ((ρ.set i (some a)).set j (some b)) | _=>none
theorem ZcI {i j:Nat}{x y:Str}{pos px py:Pos}{k:Nat}{ok:Nat->Prop}(hc:X.calm=true)(hN:X.N.Nodup)(hi:X.N[i]?=some x)(hj:X.N[j]?=some y)(hx:Vf X.env.scope x)(hy:Vf X.env.scope y)(oi:ok i)(oj:ok j)
  (hfx:X.fn x=true∨X.env.scope.names.lookup x=some .local:=by first | exact .inl rfl | exact .inr rfl | assumption) (hfy:X.fn y=true∨X.env.scope.names.lookup y=some .local:=by first | exact .inl rfl | exact .inr rfl | assumption)
  (hn:(assignEach [.Name x px,.Name y py] X.env).length=2:=by rfl) (hst:(assignEach [.Name x px,.Name y py] X.env).findIdx? (·.1)=none:=by rfl)
  (hp:UQ X [.Name x px,.Name y py] (Vo (Wu i) (Vo (Wu j) gNil))):WC X G (.Tuple [.Name x px,.Name y py] k pos) ok (Br i j):=
 ⟨_,Zge hc hp hn hst,λx σ Hf H d ρ ρ' Q e r q k=>by
  match d,q,r with
  | .tup [a,b],q,r=>
   cases q
   obtain⟨ad,vs,rfl,n,h,rl⟩:=jc.mp r;obtain⟨v1,r1,rfl,q1,q2⟩:=jd.mp rl;obtain⟨v2,r2,rfl,q3,q4⟩:=jd.mp q2;have:=Zi.nil_iff.mp q4;subst this;exact⟨ad,_,rfl,ZI.of (e _ _ n h),rfl,v1,_,rfl,v2,_,rfl,rfl,k _ (.cons oi q1 (.cons oj q3 .nil))⟩⟩
theorem Sets.jf {kn jO H0 Hf H:Hp}{σ σ':St}{ρ ρ':Zb}(h:Sets G Hf (λi=>i∉own) σ ρ σ' ρ'):Jf G own kn jO H0 σ Hf H ρ->Jf G own kn jO H0 σ' Hf H ρ':=by
 induction h with
 | nil=>exact λj=>j
 | cons o r _ ih=>exact λj=>ih (j.setF o r)
noncomputable def VQ (G:Gh)(J:It)(Hf':Hp)(ds:List D):Prop:=
 ∀(i:Nat) (jZ H2:Hp) (s:Pn),ZA G Hf' jZ->ZA G jZ H2->G.st s H2->
  (∀d,ds[i]?=some d->J.go i H2/\∀x H3,J.yld i H2 x H3->∃Hf3,Gr G jZ H2 Hf3 H3/\G.st s H3/\Zj G Hf3 d x)/\(i=ds.length->J.stop i H2)
noncomputable def X3 (X:Cx)(G:Gh)(tg iter:Expr)(f:Zb->M (List D)):Prop:=
 ∃wi,PI X tg iter wi/\∀(σ:St) (Hf H:Hp) (ρ:Zb) (s:Pn) (ds:List D) (s':Pn) (R:It->Hp->Prop),ZA G Hf H->YK G Hf σ ρ->G.st s H->f ρ s=some (ds,s')->
  (∀J Hf' H',Gr G Hf H Hf' H'->G.st s' H'->VQ G J Hf' ds->R J H')->wi σ H R
theorem VQ.range {lo:Int}{n:Nat}{Hf:Hp}{ds:List D}(e:ds=(qk n).map λ(i:Nat)=>D.int (lo+i)):VQ G (BQ lo n) Hf ds:=λi jZ H2 s e1 e2 st=>by
 subst e;refine⟨λd q=>?_,λq=>by show n<=i;rw[q];simp⟩;have hi:i<n:=by
  have:=(qA.mp q).1;simpa using this
 have hd:d=.int (lo+i):=by
  rw[qI,yX hi]at q;simp at q;exact q.symm
 subst hd;refine⟨hi,λx H3 y=>?_⟩;obtain⟨y1,y2⟩:=y;subst y1 y2;exact⟨jZ,.refl e2,st,ja.mpr rfl⟩
theorem VQ.list {K:qm}{a:Addr}{vs:List V}{Hf:Hp}{ds:List D}(nf:¬G.fp a)(h:Hf a=some (.lst vs))(r:Zi G Hf ds vs):VQ G (Itl K a) Hf ds:=λi jZ H2 s e1 e2 st=>by
 have h2:ZE K H2 a vs:=ZE.of (e2 _ _ nf (e1 _ _ nf h));refine⟨λd q=>?_,λq=>⟨vs,h2,by rw[q,r.length];exact qq _⟩⟩;obtain⟨v,q1,q2⟩:=r.get q;refine⟨⟨vs,v,h2,q1⟩,λx H3 ⟨y1,y2⟩=>?_⟩;subst y1;have e:=y2 vs h2;rw[q1]at e;cases e;exact⟨jZ,.refl e2,st,q2.ext e1⟩
theorem VQ.tup {K:qm}{a:Addr}{vs:List V}{Hf:Hp}{ds:List D}(nf:¬G.fp a)(h:Hf a=some (.tup vs))(r:Zi G Hf ds vs):VQ G (Itt K a) Hf ds:=λi jZ H2 s e1 e2 st=>by
 have h2:ZI K H2 a vs:=ZI.of (e2 _ _ nf (e1 _ _ nf h));refine⟨λd q=>?_,λq=>⟨vs,h2,by rw[q,r.length];exact qq _⟩⟩;obtain⟨v,q1,q2⟩:=r.get q;refine⟨⟨vs,v,h2,q1⟩,λx H3 ⟨y1,y2⟩=>?_⟩;subst y1;have e:=y2 vs h2;rw[q1]at e;cases e;exact⟨jZ,.refl e2,st,q2.ext e1⟩
noncomputable def ZY (lo:Int)(n:Nat):List D:=(qk n).map λ(i:Nat)=>D.int (lo+i)
noncomputable def YH (f:Zb->M D):Zb->M (List D):=fun ρ=>Zo (f ρ) λd=>match d with | .int j=>if -(2 ^ 62)<=j/\j<2 ^ 62 then Zy (ZY 0 j.toNat)else ZG | _=>ZG
theorem JP {tg a:Expr}{p pos:Pos}{r1:Bool}(hg:Gl X "range")(hm:X.mg "range" = none)(ha:PD X G r1 a f)(hs:xh [a] X.env=[(false,eval a X.env)]:=by rfl):X3 X G tg (.Call (.Name "range" p) [a] [] pos) (YH f):=by
 obtain⟨t,pa,qa⟩:=ha.drop;refine⟨_,ZdG hg hm (Xb pa Xy (by rw[hs];rfl)) hs,fun σ Hf H ρ s ds s' R e1 e2 e3 e4 k=>?_⟩;obtain⟨d,s1,a1,a2⟩:=ZF e4
 cases d with
 | int j=>
  obtain⟨c,a3⟩:=Xf a2;obtain⟨rfl,rfl⟩:=ZQ a3;refine qa σ Hf H ρ s _ _ _ e1 e2 e3 a1 λv jQ H1 g st r=>?_;rw[ja.mp r];exact⟨j,rfl,c.1,c.2,k _ jQ H1 g st (.range rfl)⟩
 | _=>cases a2
noncomputable def W3 (f g:Zb->M D):Zb->M (List D):=fun ρ=>Zo (f ρ) λd=>Zo (g ρ) λe=>match d,e with | .int i,.int j=>if -(2 ^ 62)<=i/\i<2 ^ 62/\-(2 ^ 62)<=j/\j<2 ^ 62 then Zy (ZY i (j-i).toNat)else ZG | _,_=>ZG
noncomputable def Yy (f:Zb->M D):Zb->M (List D):=fun ρ=>Zo (f ρ) λd=>match d with | .lst ds=>Zy ds | _=>ZG
noncomputable def XB (f:Zb->M D):Zb->M (List D):=fun ρ=>Zo (f ρ) λd=>match d with | .tup ds=>Zy ds | _=>ZG
theorem Wq {tg l:Expr}{r1:Bool}(hl:PD X G r1 l f):X3 X G tg l (Yy f):=by
 obtain⟨t,pa,qa⟩:=hl.drop;refine⟨_,Zlb pa,fun σ Hf H ρ s ds s' R e1 e2 e3 e4 k=>?_⟩;obtain⟨d,s1,a1,a2⟩:=ZF e4
 cases d with
 | lst es=>
  obtain⟨rfl,rfl⟩:=ZQ a2;refine qa σ Hf H ρ s _ _ _ e1 e2 e3 a1 λv jQ H1 g st r=>?_;obtain⟨a,vs,rfl,nf,h,rl⟩:=jb.mp r;exact⟨a,rfl,⟨vs,ZE.of (g.fh _ _ nf h)⟩,k _ jQ H1 g st (.list nf h rl)⟩
 | _=>cases a2
theorem VC {tg l:Expr}{r1:Bool}(hl:PD X G r1 l f):X3 X G tg l (XB f):=by
 obtain⟨t,pa,qa⟩:=hl.drop;refine⟨_,ZmX pa,fun σ Hf H ρ s ds s' R e1 e2 e3 e4 k=>?_⟩;obtain⟨d,s1,a1,a2⟩:=ZF e4
 cases d with
 | tup es=>
  obtain⟨rfl,rfl⟩:=ZQ a2;refine qa σ Hf H ρ s _ _ _ e1 e2 e3 a1 λv jQ H1 g st r=>?_;obtain⟨a,vs,rfl,nf,h,rl⟩:=jc.mp r;exact⟨a,rfl,⟨vs,ZI.of (g.fh _ _ nf h)⟩,k _ jQ H1 g st (.tup nf h rl)⟩
 | _=>cases a2
noncomputable def XO (τ:D->Zb->Option Zb)(body:Zb->M Out):List D->Zb->M Out
 | [],ρ=>Zy (.nx ρ)
 | d::ds,ρ=>Zo (Y5 (τ d ρ)) fun ρ1=>Zo (body ρ1) λo=>match o with | .nx ρ2=>XO τ body ds ρ2 | .ct ρ2=>XO τ body ds ρ2 | .bk ρ2=>Zy (.nx ρ2) | .rt d=>Zy (.rt d)
noncomputable def YL (fi:Zb->M (List D))(τ:D->Zb->Option Zb)(body:Zb->M Out):Zb->M Out:=fun ρ=>Zo (fi ρ) λds=>XO τ body ds ρ
noncomputable def BK (X:Cx)(G:Gh)(own:List Nat)(tg iter:Expr)(f:Zb->M (List D)):Prop:=
 ∃wi,PI X tg iter wi/\∀(kn jO H0:Hp) (σ:St) (Hf H:Hp) (ρ:Zb) (s:Pn) (ds:List D) (s':Pn) (R:It->Hp->Prop),Jf G own kn jO H0 σ Hf H ρ->G.st s H->f ρ s=some (ds,s')->
  (∀J Hf' H',Jf G own kn jO H0 σ Hf' H' ρ->ZA G Hf Hf'->G.st s' H'->VQ G J Hf' ds->R J H')->wi σ H R
theorem X3.a {tg iter:Expr}{fi:Zb->M (List D)}(h:X3 X G tg iter fi):BK X G own tg iter (fun ρ=>fi (Z2 own ρ)):=by
 obtain⟨wi,p,q⟩:=h;exact⟨wi,p,λkn jO H0 σ Hf H ρ s ds s' R j st e k=>q σ Hf H _ s ds s' R j.gr.fh j.envA st e λJ Hf' H' g st' it=>k J Hf' H' (j.grow g) g.ff st' it⟩
theorem X3.n {tg iter:Expr}{fi:Zb->M (List D)}(h:X3 X G tg iter fi):BK X G [] tg iter fi:=by
 obtain⟨wi,p,q⟩:=h.a (own:=[]);exact⟨wi,p,λkn jO H0 σ Hf H ρ s ds s' R j st e k=>q kn jO H0 σ Hf H ρ s ds s' R j st (by show fi (Z2 [] ρ) s=_;rw[ZcH];exact e) k⟩
theorem WW {tg a:Expr}{p pos:Pos}{r1:Bool}(hg:Gl X "range")(hm:X.mg "range" = none)(ha:PD X G r1 a f)(hs:xh [a] X.env=[(false,eval a X.env)]:=by rfl):BK X G own tg (.Call (.Name "range" p) [a] [] pos) (YH f):=by
 obtain⟨t,pa,qa⟩:=ha.drop;refine⟨_,ZdG hg hm (Xb pa Xy (by rw[hs];rfl)) hs,λkn jO H0 σ Hf H ρ s ds s' R j st e4 k=>?_⟩;obtain⟨d,s1,a1,a2⟩:=ZF e4
 cases d with
 | int i=>
  obtain⟨c,a3⟩:=Xf a2;obtain⟨rfl,rfl⟩:=ZQ a3;refine qa σ _ H ρ s _ _ _ U3 j.envB st a1 λv jQ H1 g st r=>?_;obtain⟨F,j',fF,q1,q2⟩:=j.growB g;rw[ja.mp r];exact⟨i,rfl,c.1,c.2,k _ F H1 j' fF st (.range rfl)⟩
 | _=>cases a2
theorem JM {tg a b:Expr}{p pos:Pos}{r1 r2:Bool}{f2:Zb->M D}(hg:Gl X "range")(hm:X.mg "range" = none)(ha:PD X G r1 a f)(hb:PD X G r2 b f2)
  (hs:xh [a,b] X.env=[(false,eval a X.env),(false,eval b X.env)]:=by rfl) (hs2:xh [b] X.env=[(false,eval b X.env)]:=by rfl):BK X G own tg (.Call (.Name "range" p) [a,b] [] pos) (W3 f f2):=by
 obtain⟨t,pa,qa⟩:=ha.drop;obtain⟨u,pb,qb⟩:=hb.drop;refine⟨_,Zh3 hg hm (Xb pa (Xb pb Xy (by rw[hs2];rfl)) (by rw[hs,hs2])) hs hs2,λkn jO H0 σ Hf H ρ s ds s' R j st e4 k=>?_⟩;obtain⟨d,s1,a1,a2⟩:=ZF e4;obtain⟨d2,s2,a3,a4⟩:=ZF a2
 match d,d2,a4,a1,a3 with
 | .int i,.int l,a4,a1,a3=>
  obtain⟨c,a5⟩:=Xf a4;obtain⟨rfl,rfl⟩:=ZQ a5;refine qa σ _ H ρ s _ _ _ U3 j.envB st a1 λv jQ H1 g st r=>?_;refine qb σ jQ H1 ρ s1 _ _ _ g.fh (j.envB.ext g.ff) st a3 λv2 jZ H2 g2 jP r2=>?_;obtain⟨F,j',fF,q1,q2⟩:=j.growB (g.trans g2);rw[ja.mp r,ja.mp r2];exact⟨i,l,rfl,c,k _ F H2 j' fF jP (.range rfl)⟩
theorem Jf.weak {kn kn' jO H0 Hf H:Hp}{σ:St}{ρ:Zb}(j:Jf G own kn' jO H0 σ Hf H ρ)(e:ZA G kn kn'):Jf G own kn jO H0 σ Hf H ρ:=⟨j.len,e.trans j.kn,j.gr,j.fz,j.ow,j.ne⟩
theorem Xg {tg iter:Expr}{body:List Stmt}{pos:Pos}{fi:Zb->M (List D)}{τ:D->Zb->Option Zb}{g:Zb->M Out}(hp:PassesOwn (xz X.prog X.w) X.A X.env X.xe)(hc:X.calm=true)(hi:BK X G own tg iter fi)(hg:WC X G tg (λi=>i∉own) τ)(hb:X8 X G own own own fr body g)
  (hs:∀x,foldedSetIterable iter X.env x=pure x:=by intro _;rfl):YW X G ob own own fr (.For tg iter body [] pos) (YL fi τ g):=by
 obtain⟨wi,pi,qi⟩:=hi;obtain⟨gt,pg,qg⟩:=hg;obtain⟨tb,pb,qb⟩:=hb;refine⟨_,ZmY hp hc pi pg pb hs,λkn jO H0 σ H ρ s out s' E ⟨Hf,j⟩ st e po=>?_⟩;obtain⟨ds,s1,a1,a2⟩:=ZF e;refine qi kn jO H0 σ Hf H ρ s ds s1 _ j st a1 λJt jQ H1 j1 e1 jT it=>?_;refine⟨λi m σ2 H2=>∃ρ2 s2,J G own jQ jO H0 σ2 H2 ρ2/\G.st s2 H2/\XO τ g (ds.drop i) ρ2 s2=some (out,s')/\i<=ds.length/\m=ds.length-i,⟨_,ρ,s1,⟨jQ,⟨j1.len,.refl _ _,j1.gr,j1.fz,j1.ow,j1.ne⟩⟩,jT,a2,zB _,rfl⟩,?_⟩;rintro i m σ2 H2 ⟨ρ2,s2,⟨jZ,j2⟩,jP,eq2,hle,rfl⟩;obtain⟨i1,i2⟩:=it i jZ H2 s2 j2.kn j2.gr.fh jP;by_cases hlt:i<ds.length
 ·have hd:ds.drop i=ds[i]::ds.drop (i+1):=qap hlt
  rw[hd]at eq2;obtain⟨ρ3,s3,b1,b2⟩:=ZF eq2;obtain⟨b1',e3⟩:=WZ b1;subst e3;obtain⟨o,s4,b3,b4⟩:=ZF b2;obtain⟨go,yl⟩:=i1 ds[i] (by simp[hlt]);refine .inr ⟨go,fun σ' H'=>∃ρ5 s5,J G own jQ jO H0 σ' H' ρ5/\G.st s5 H'/\XO τ g (ds.drop (i+1)) ρ5 s5=some (out,s'),fun σ' H' ⟨ρ5,s5,j5,st5,q5⟩=>⟨_,by omega,ρ5,s5,j5,st5,q5,hlt,rfl⟩,λx H3 y3=>?_⟩;obtain⟨Hf3,g3,st3,r3⟩:=yl x H3 y3;have j3:=j2.grow g3;refine qg x σ2 Hf3 H3 ds[i] ρ2 ρ3 _ g3.fh r3 b1' fun σ3 sets=>?_;have j4:=sets.jf j3;refine qb jQ jO H0 σ3 H3 ρ3 s3 o s4 _ ⟨Hf3,j4⟩ st3 b3 ?_
  cases o with
  | nx ρ5=>exact fun σ5 H5 j5 st5=>⟨ρ5,s4,j5,st5,b4⟩
  | ct ρ5=>exact fun σ5 H5 j5 st5=>⟨ρ5,s4,j5,st5,b4⟩
  | bk ρ5=>
   obtain⟨rfl,rfl⟩:=ZQ b4;exact fun σ5 H5 ⟨Hf5,j5⟩ st5=>po σ5 H5 ⟨Hf5,j5.weak (j.kn.trans e1)⟩ st5
  | rt d=>
   obtain⟨rfl,rfl⟩:=ZQ b4;exact po
 ·have hd:ds.drop i=[]:=qcB.mpr (by omega)
  rw[hd]at eq2;obtain⟨rfl,rfl⟩:=ZQ eq2;exact .inl ⟨i2 (by omega),po σ2 H2 ⟨jZ,j2.weak (j.kn.trans e1)⟩ jP⟩
end
noncomputable def runB (n k:Nat)(g:Zb->M Out):List D->M D:=λds=>if ds.length=k then Zo (g (ds.map some++zT (n-k) none)) λo=>match o with | .rt d=>Zy d | .nx _=>Zy .non | _=>ZG else ZG
theorem Y6 {P:xB}{w:World}{K:qm}{mg:Str->Option Value}{base:Heap}{x qual:Str}{st:Stmt}{f:Addr}{fd:xA}{N ps:List Str}{k:Nat}{own:List Nat}{fr:Bool}{GG:Gh->Prop}{g:Zb->M Out}
  (F:Fun K x qual st f fd) (S:FnScope N ps (ZH st))
  (hb:∀(cdv:Value) (A:xC) (outer:List Env) (s:Shared) (H:Hp) (E:XK),Room k (A.deeper (envOfC qual (ZH st) s.heap.objs.size f cdv))->∀G,GG G->X8 (Vr ZW P w K mg base N qual (ZH st) f cdv A outer s H E).nox G [] [] own fr (Wg st) g) :
  FnOk P w K mg base ZW (k+1) f fd ps (Yu ps.length fr GG (runB N.length ps.length g)):=by
 refine F.ok S (λvs H Q E h=>?_) λcdv A outer s H vs Q E hr h=>?_
 ·obtain⟨G,Hf,ds,pn,d,pn',_,e,_⟩:=h
  exact e
 ·obtain⟨G,Hf,ds,pn,d,pn',hG,el,e1,r,st',eF,k'⟩:=h
  obtain⟨t,p,q⟩:=hb cdv A outer s H E hr G hG;refine⟨t,p,?_⟩;obtain⟨hl,a0⟩:=Xf eF;obtain⟨o,s1,a1,a2⟩:=ZF a0;have hpl:ps.length<=N.length:=by have:=congrArg qbk S.pre;rw[qZ]at this;omega
  have j0:Jf G [] Hf Hf H (L2.start N vs) Hf H (ds.map some++zT (N.length-ps.length) none):=by
   refine⟨?_,.refl _ _,.refl e1,λi d n e=>?_,λi d m e=>?_,λi j a di dj mi mj n e=>?_⟩
   ·unfold L2.start;simp;omega
   ·have hi:i<ds.length:=by
     by_cases hi:i<ds.length
     ·exact hi
     ·rw[zU (by simpa using hi),qaA]at e
      split at e <;> cases e
    have e':ds[i]?=some d:=by
     rw[zC (by simpa using hi),qI]at e
     cases q:ds[i]? with
     | none=>rw[q]at e;cases e
     | some c=>rw[q]at e;simp at e;rw[e]
    obtain⟨v,h1,h2⟩:=r.get e';refine⟨v,?_,h2⟩;unfold L2.start;rw[zC (by simp;rw[<-r.length];exact hi),qI,h1];rfl
   ·exact absurd m (by simp)
   ·exact absurd mi (by simp)
  refine q Hf Hf H (L2.start N vs) H _ pn o s1 _ ⟨Hf,j0⟩ st' a1 ?_
  cases o with
  | rt c=>
   obtain⟨rfl,rfl⟩:=ZQ a2;exact λv Hf' H' g' jP r2 fz=>k' v Hf' H' g' jP r2 fz
  | nx ρ'=>
   obtain⟨rfl,rfl⟩:=ZQ a2;exact fun σ' H' ⟨Hf',j'⟩ jP=>k' .non Hf' H' j'.gr jP (jh.mpr rfl) λ_=>.scal λz=>z
  | bk ρ'=>cases a2
  | ct ρ'=>cases a2
noncomputable def tOf (G:Gh)(fr:Bool)(f:Zb->M D):TE:=fun σ H Q=>∃(Hf:Hp) (ρ:Zb) (s:Pn) (d:D) (s':Pn),ZA G Hf H/\YK G Hf σ ρ/\G.st s H/\f ρ s=some (d,s')/\
 ∀v Hf' H',Gr G Hf H Hf' H'->G.st s' H'->Zj G Hf' d v->(fr=true->Yj G H Hf' d v)->Q v H'
noncomputable def UJ (G:Gh)(f:Zb->M Bool):TT:=fun σ H Q=>∃(Hf:Hp) (ρ:Zb) (s:Pn) (b:Bool) (s':Pn),ZA G Hf H/\YK G Hf σ ρ/\G.st s H/\f ρ s=some (b,s')/\
 ∀Hf' H',Gr G Hf H Hf' H'->G.st s' H'->Q b H'
noncomputable def gOf (G:Gh)(ok:Nat->Prop)(τ:D->Zb->Option Zb):TG:=λx σ H Q=>∃(Hf:Hp) (d:D) (ρ ρ':Zb),ZA G Hf H/\Zj G Hf d x/\τ d ρ=some ρ'/\∀σ',Sets G Hf ok σ ρ σ' ρ'->Q σ' H
section
variable {X:Cx}{G:Gh}{own:List Nat}{fr:Bool}{f:Zb->M D}
theorem PD.canon {e:Expr}(h:PD X G fr e f):PE X e (tOf G fr f):=by
 obtain⟨t,p,q⟩:=h;exact λjC s σ H Q I ⟨Hf,ρ,pn,d,pn',a1,a2,a3,a4,k⟩=>p jC s σ H Q I (q σ Hf H ρ pn d pn' Q a1 a2 a3 a4 k)
theorem X2.canon {e:Expr}{f:Zb->M Bool}(h:X2 X G e f):PT X e (UJ G f):=by
 obtain⟨t,p,q⟩:=h;exact λjC s σ H Q I ⟨Hf,ρ,pn,d,pn',a1,a2,a3,a4,k⟩=>p jC s σ H Q I (q σ Hf H ρ pn d pn' Q a1 a2 a3 a4 k)
theorem WC.canon {tg:Expr}{ok:Nat->Prop}{τ:D->Zb->Option Zb}(h:WC X G tg ok τ):PG X tg (gOf G ok τ):=by
 obtain⟨t,p,q⟩:=h;exact λjC s σ H v u Q I r ⟨Hf,d,ρ,ρ',a1,a2,a3,k⟩=>p jC s σ H v u Q I r (q v σ Hf H d ρ ρ' Q a1 a2 a3 k)
noncomputable def Wh (src:List (Option Nat))(ρ:Zb):Zb:=src.map λo=>o.bind λj=>(ρ[j]?).bind id
theorem Zgq {Hf:Hp}{σ:St}{ρ:Zb}{src:List (Option Nat)}(h:YK G Hf σ ρ):YK G Hf (Vp src σ) (Wh src ρ):=λi d e=>by
 unfold Wh at e;rw[qI]at e
 cases q:src[i]? with
 | none=>rw[q]at e;cases e
 | some o=>
  rw[q]at e
  cases o with
  | none=>simp at e
  | some j=>
   simp only[yd,Option.bind_some,qbT]at e;have hj:ρ[j]?=some (some d):=by
    cases e2:ρ[j]? with
    | none=>rw[e2]at e;cases e
    | some o2=>rw[e2]at e;simp at e;rw[e]
   obtain⟨v,h1,h2⟩:=h j d hj;refine⟨v,?_,h2⟩;unfold Vp;rw[qI,q];simp[h1]
theorem Sets.len {Hf:Hp}{ok:Nat->Prop}{σ σ':St}{ρ ρ':Zb}(h:Sets G Hf ok σ ρ σ' ρ'):(σ.length=ρ.length->σ'.length=ρ'.length)/\σ'.length=σ.length:=by
 induction h with
 | nil=>exact⟨λe=>e,rfl⟩
 | cons _ _ _ ih=>exact⟨λe=>ih.1 (by simp[e]),ih.2.trans (by simp)⟩
theorem Sets.env {Hf:Hp}{ok:Nat->Prop}{σ σ':St}{ρ ρ':Zb}(h:Sets G Hf ok σ ρ σ' ρ'):σ.length=ρ.length->YK G Hf σ ρ->YK G Hf σ' ρ':=by
 induction h with
 | nil=>exact λ_ e=>e
 | @cons σ ρ σ' ρ' i d v o r _ ih=>
  intro hl he;refine ih (by simp[hl]) λk c e=>?_;by_cases h:i=k
  ·subst h
   have hk:i < ρ.length:=by
    have:=(qA.mp e).1;simpa using this
   rw[zE hk]at e
   cases e
   exact⟨v,zE (by rw[hl];exact hk),r⟩
  ·rw[zc h]at e⊢
   exact he k c e
theorem Sets.envOld {Hf:Hp}{ok:Nat->Prop}{σ σ':St}{ρ ρ' ρ0:Zb}(h:Sets G Hf ok σ ρ σ' ρ')(h0:∀i d,ok i->ρ0[i]?≠some (some d)):YK G Hf σ ρ0->YK G Hf σ' ρ0:=by
 induction h with
 | nil=>exact λe=>e
 | @cons σ ρ σ' ρ' i d v o r _ ih=>
  intro he;refine ih λk c e=>?_;have hne:i≠k:=λz=>h0 k c (z▸o) e;rw[zc hne];exact he k c e
noncomputable def VP (τ:D->Zb->Option Zb)(ft:Zb->M Bool)(fe:Zb->M D)(ρ:Zb):List D->M (List D)
 | []=>Zy []
 | d::ds=>Zo (Y5 (τ d ρ)) fun ρ1=>Zo (ft ρ1) λb=>if b=true then Zo (fe ρ1) λc=>Zo (VP τ ft fe ρ ds) λr=>Zy (c::r)else VP τ ft fe ρ ds
noncomputable def Z7 (src:List (Option Nat))(fi:Zb->M (List D))(τ:D->Zb->Option Zb)(ft:Zb->M Bool)(fe:Zb->M D):Zb->M D:=fun ρ=>
 Zo (fi ρ) λds=>if ds.length<=xg then Zo (VP τ ft fe (Wh src ρ) ds) λr=>Zy (.lst r)else ZG
noncomputable def Z1:Zb->M Bool:=λ_=>Zy true
theorem Zfg {src:List (Option Nat)}{wi:TI}{fi:Zb->M (List D)}{τ:D->Zb->Option Zb}{ft:Zb->M Bool}{fe:Zb->M D}{r1:Bool}
  (qi:∀(σ:St) (Hf H:Hp) (ρ:Zb) (s:Pn) (ds:List D) (s':Pn) (R:It->Hp->Prop),ZA G Hf H->YK G Hf σ ρ->G.st s H->fi ρ s=some (ds,s')->
   (∀J Hf' H',Gr G Hf H Hf' H'->G.st s' H'->VQ G J Hf' ds->R J H')->wi σ H R) :
  Vh G true (Zjw src wi (gOf G (λi=>src[i]?=some none) τ) (UJ G ft) (tOf G r1 fe)) (Z7 src fi τ ft fe):=by
 intro σ Hf H ρ s d s' Q e1 e2 e3 e4 k;obtain⟨ds,s1,a1,a2⟩:=ZF e4;obtain⟨hz,a3⟩:=Xf a2;obtain⟨r,s2,a4,a5⟩:=ZF a3;obtain⟨rfl,rfl⟩:=ZQ a5;refine qi σ Hf H ρ s ds s1 _ e1 e2 e3 a1 λJt jQ H1 g1 jT it=>?_;intro p hp;have nrp:=jz jT hp;have nfp:=ju nrp;have hf1p:jQ p=none:=by
  cases e:jQ p with
  | none=>rfl
  | some o=>rw[g1.fh p o nfp e]at hp;cases hp
 have h0:∀(i:Nat) (d:D),src[i]?=some none->(Wh src ρ)[i]?≠some (some d):=λi d e q=>by
  unfold Wh at q;rw[qI,e]at q;simp at q
 refine⟨λi m σ2 H2=>∃(jZ:Hp) (s2:Pn) (vs:List V) (acc rest:List D),i<=ds.length/\m=ds.length-i/\Gr G jQ H1 jZ H2/\YK G jZ σ2 (Wh src ρ)/\σ2.length=(Wh src ρ).length/\G.st s2 H2/\jZ p=none/\H2 p=some (.lst vs)/\Zi G jZ acc vs/\acc.length<=i/\
  VP τ ft fe (Wh src ρ) (ds.drop i) s2=some (rest,s')/\acc++rest=r,⟨_,jQ,s1,[],[],r,zB _,rfl,?_,?_,?_,Gh.grow jT hp,hf1p,ZX,Zi.nil_iff.mpr rfl,qq _,a4,rfl⟩,?_⟩
 ·refine⟨λb o n e=>?_,.refl _ _,λb o n e=>?_,λb n h1 h2=>h1⟩
  ·rw[Zx (YD e hp)];exact e
  ·rw[Zx (YD e hf1p)];exact g1.fh b o n e
 ·exact Zgq (e2.ext g1.ff)
 ·unfold Vp Wh;simp
 ·rintro i m σ2 H2 ⟨jZ,sz,vs,acc,rest,hle,rfl,g2,env2,len2,jP,hfp2,hp2,racc,hacc,eq2,hr⟩
  obtain⟨i1,i2⟩:=it i jZ H2 sz g2.ff g2.fh jP;by_cases hlt:i<ds.length
  ·have hd:ds.drop i=ds[i]::ds.drop (i+1):=qap hlt
   rw[hd]at eq2;obtain⟨ρ3,s3,b1,b2⟩:=ZF eq2;obtain⟨b1',e3'⟩:=WZ b1;subst e3';obtain⟨bo,s4,b3,b4⟩:=ZF b2;obtain⟨go,yl⟩:=i1 ds[i] (by simp[hlt]);refine .inr ⟨go,λx H3 y3=>?_⟩;obtain⟨Hf3,g3,st3,r3⟩:=yl x H3 y3;refine⟨Hf3,ds[i],Wh src ρ,ρ3,g3.fh,r3,b1',fun σ4 sets=>?_⟩;have env2':=env2.ext g3.ff;have env4:=sets.env len2 env2';have env4':=sets.envOld h0 env2';refine⟨Hf3,ρ3,s3,bo,s4,g3.fh,env4,st3,b3,λHf5 H5 g5 st5=>?_⟩;have g25:=g3.trans g5;have hfp5:Hf5 p=none:=g25.nw p nfp hfp2 ⟨_,hp2,λ_ z=>by cases z⟩;have hp5:H5 p=some (.lst vs):=g25.hh p _ nfp hp2
   cases bo with
   | false=>
    refine Ua ⟨ds.length-(i+1),by omega,Hf5,s4,vs,acc,rest,hlt,rfl,g2.trans g25,env4'.ext g5.ff,by rw[<-len2];exact sets.len.2,st5,hfp5,hp5,racc.ext g25.ff,by omega,?_,hr⟩;exact b4
   | true=>
    have b4':Zo (fe ρ3) (λc=>Zo (VP τ ft fe (Wh src ρ) (ds.drop (i+1))) λr=>Zy (c::r)) s4=some (rest,s'):=b4;obtain⟨c,s6,b5,b6⟩:=ZF b4';obtain⟨rr,s7,b7,b8⟩:=ZF b6;obtain⟨rfl,rfl⟩:=ZQ b8;refine Ub ⟨Hf5,ρ3,s4,c,s6,g5.fh,env4.ext g5.ff,st5,b5,λv Hf6 H6 g6 st6 r6 _=>?_⟩;have hfp6:Hf6 p=none:=g6.nw p nfp hfp5 ⟨_,hp5,λ_ z=>by cases z⟩;have hp6:H6 p=some (.lst vs):=g6.hh p _ nfp hp5;have hl:vs.length<xg:=by rw[<-racc.length];omega
    refine⟨vs,hp6,hl,ds.length-(i+1),by omega,Hf6,s6,vs ++ [v],acc ++ [c],rr,hlt,rfl,?_,(env4'.ext g5.ff).ext g6.ff,by rw[<-len2];exact sets.len.2,?_,hfp6,ZX,(racc.ext (g25.ff.trans g6.ff)).append (.one r6),by simp;omega,b7,by rw[<-hr];simp⟩
    ·have gg:=(g2.trans g25).trans g6
     refine⟨λb o n e=>?_,gg.ff,λb o n e=>?_,gg.nw⟩
     ·rw[Zx (YD e hp)];exact gg.hh b o n e
     ·rw[Zx (YD e hfp6)];exact gg.fh b o n e
    ·refine G.mono _ _ _ st6 (λb o rb e=>?_) λb φ e=>?_
     ·have:b≠p:=λz=>nrp (z▸rb)
      rw[Zx this];exact e
     ·have:b≠p:=λz=>by rw[z,hp6]at e;cases e
      rw[Zx this];exact e
  ·have hd:ds.drop i=[]:=qcB.mpr (by omega)
   rw[hd]at eq2;obtain⟨rfl,rfl⟩:=ZQ eq2;refine .inl ⟨i2 (by omega),?_⟩;rw[zr]at hr;subst hr;refine k (.ref p) (Zn jZ p (.lst vs)) H2 (g1.trans ⟨g2.hh,λb o n e=>?_,λb o n e=>?_,λb n h1 h2=>?_⟩) jP (jb.mpr ⟨p,vs,rfl,nfp,ZX,racc.ext λb o n e=>?_⟩) λ_ a ea _=>?_
   ·rw[Zx (YD (g2.ff b o n e) hfp2)];exact g2.ff b o n e
   ·by_cases hb:b=p
    ·subst hb;rw[ZX]at e;rw[hp2];exact e
    ·rw[Zx hb]at e;exact g2.fh b o n e
   ·have:b≠p:=λz=>h2.no (z▸hp)
    rw[Zx this];exact g2.nw b n h1 h2
   ·rw[Zx (YD e hfp2)];exact e
   ·cases ea
    refine⟨?_,λds' ed=>?_⟩
    ·cases q:H p with
     | none=>rfl
     | some o=>rw[g1.hh p o nfp q]at hp;cases hp
    ·cases ed
     exact⟨vs,jZ,ZX,hfp2,λb o n e=>by rw[Zx (YD e hfp2)];exact e,racc⟩
theorem X0:Vt X [] (UJ G Z1):=λjC s σ H Q I ⟨Hf,ρ,pn,b,pn',a1,a2,a3,a4,k⟩=>by
 obtain⟨rfl,rfl⟩:=ZQ a4;exact Zju jC s σ H Q I (k Hf H (.refl a1) a3)
theorem Bt {c:Expr}{ft:Zb->M Bool}(h:X2 X G c ft):Vt X [c] (UJ G ft):=Zjv h.canon
theorem Jf.put {kn jO H0 Hf H:Hp}{σ:St}{ρ:Zb}{i:Nat}{a:Addr}{d d':D}{o':HO}(j:Jf G own kn jO H0 σ Hf H ρ)(hi:i∈own)(e:ρ[i]?=some (some d))(sa:σ[i]?=some (some (.ref a)))
  (new:VJ G Hf (Zn H a o') a d'):Jf G own kn jO H0 σ Hf (Zn H a o') (ρ.set i (some d')):=by
 obtain⟨a',h1,h2,h3,h4,h5⟩:=j.ow i d hi e;rw[sa]at h1;cases h1;have il:i < ρ.length:=(qA.mp e).1;refine⟨by simp[j.len],j.kn,⟨λb o n q=>?_,j.gr.ff,λb o n q=>?_,j.gr.nw⟩,λk c n q=>?_,λk c m q=>?_,λk l b dk dl mk ml n ek el sk sl=>?_⟩
 ·rw[Zx (YD q h4)];exact j.gr.hh b o n q
 ·rw[Zx (YD q h3)];exact j.gr.fh b o n q
 ·have hne:i≠k:=λz=>n (z▸hi)
  rw[zc hne]at q;exact j.fz k c n q
 ·by_cases hk:i=k
  ·subst hk
   rw[zE il]at q
   cases q
   exact⟨a,sa,h2,h3,h4,new⟩
  ·rw[zc hk]at q
   obtain⟨b,g1,g2,g3,g4,g5⟩:=j.ow k c m q;have hab:b≠a:=λz=>j.ne i k a d c hi m hk e q sa (z▸g1);exact⟨b,g1,g2,g3,g4,g5.keep (.refl _ _) λo z=>by rw[Zx hab];exact z⟩
 ·have ek':∃d,ρ[k]?=some (some d):=by
   by_cases hk:i=k
   ·exact⟨d,hk▸e⟩
   ·rw[zc hk]at ek;exact⟨_,ek⟩
  have el':∃d,ρ[l]?=some (some d):=by
   by_cases hl:i=l
   ·exact⟨d,hl▸e⟩
   ·rw[zc hl]at el;exact⟨_,el⟩
  obtain⟨_,ek'⟩:=ek';obtain⟨_,el'⟩:=el';exact j.ne k l b _ _ mk ml n ek' el' sk sl
theorem Zcs {kn jO H0 Hf H:Hp}{σ:St}{ρ:Zb}{i:Nat}{ds:List D}(j:Jf G own kn jO H0 σ Hf H ρ)(hi:i∈own)(e:ρ[i]?=some (some (.lst ds))) :
  ∃a vs,σ[i]?=some (some (.ref a))/\¬G.rd a/\H a=some (.lst vs)/\Zi G Hf ds vs:=by
 obtain⟨a,h1,h2,h3,h4,vs,h5,h6⟩:=j.ow i _ hi e;exact⟨a,vs,h1,h2,h5,h6⟩
theorem Zem {ρ:Zb}{i:Nat}{d:D}(h:(ρ[i]?).bind id=some d):ρ[i]?=some (some d):=by
 cases q:ρ[i]? with
 | none=>rw[q]at h;cases h
 | some o=>rw[q]at h;simp at h;rw[h]
theorem jy {s:Pn}{H:Hp}{a:Addr}{o:HO}(st:G.st s H)(h:¬G.rd a)
  (hx:∀φ,H a≠some (.ext φ):=by intro φ z;first | (have z2:=z.symm.trans (by assumption:_=some (L2.HO.lst _));cases z2) | (have z2:=z.symm.trans (by assumption:_=some (L2.HO.dK _));cases z2) | (have z2:=z.symm.trans (by assumption:_=some (L2.HO.dT _));cases z2)):G.st s (Zn H a o):=G.mono _ _ _ st (λb u rb e=>by
 have:b≠a:=λz=>h (z▸rb);rw[Zx this];exact e) λb φ e=>by
 have:b≠a:=λz=>hx φ (z▸e);rw[Zx this];exact e
noncomputable def WT (i:Nat)(f:Zb->M D):Zb->M Out:=fun ρ=>Zo (f ρ) λd=>match (ρ[i]?).bind id with
 | some (.lst ds)=>if ds.length<xg then Zy (.nx (ρ.set i (some (.lst (ds ++ [d])))))else ZG
 | _=>ZG
theorem Zlt {i:Nat}{ob:List Nat}{te:TE}{r1:Bool}(hi:i∈own)(hy:Uc G own r1 te f) :
  BS G ob own own fr (UB (UR X.K "list" Zco (YB i) (UC te UH))) (WT i f):=λkn jO H0 σ H ρ s out s' E ⟨Hf,j⟩ st e po=>by
 obtain⟨d,s1,a1,a2⟩:=ZF e
 cases hb:(ρ[i]?).bind id with
 | none=>rw[hb]at a2;cases a2
 | some c=>
  rw[hb]at a2
  cases c with
  | lst ds=>
   have a2':(if ds.length<xg then Zy (.nx (ρ.set i (some (.lst (ds ++ [d])))))else ZG) s1=some (out,s'):=a2;obtain⟨c2,a3⟩:=Xf a2';obtain⟨rfl,rfl⟩:=ZQ a3;have ei:=Zem hb;obtain⟨a,vs,h1,h2,h3,h4⟩:=Zcs j hi ei;refine⟨_,h1,.inl ⟨rfl,vs,ZE.of h3⟩,?_⟩;refine hy kn jO H0 σ Hf H ρ s d s' _ j st a1 λv Hf' H' j' e1 e2 st' r fz=>?_;obtain⟨a',vs',h1',h2',h3',h4'⟩:=Zcs j' hi ei;rw[h1]at h1';cases h1';refine⟨a,vs',v,rfl,rfl,h3',by rw[<-h4'.length];exact c2,?_⟩;exact po σ _ ⟨Hf',j'.put hi ei h1 ⟨vs' ++ [v],ZX,h4'.append (.one r)⟩⟩ (jy st' h2)
  | _=>cases a2
theorem U1 {i:Nat}{x:Str}{e:Expr}{pos p1 p2 p3:Pos}{te:TE}(hv:PE X (.Name x p1) (YB i))(p:PE X e te)
  (hbase:xq (.Name x p1) "append" X.env (eval (.Name x p1) X.env)=eval (.Name x p1) X.env:=by rfl)
  (hfew:((backTo p3 (xh [e] X.env)).all (λx=>!x.1)&&(xp p3 (xi [] X.env)).all (λx=>x.1.isSome)
   && decide ([e].length+([]:List Keyword).length+(if ([]:List Keyword).isEmpty then 0 else 1)<30))=true:=by rfl)
  (hline:(p2.endLine==p3.line)=true:=by rfl) (hs:xh [e] X.env=(false,eval e X.env)::xh [] X.env:=by rfl)
  (hsw:xr (.Call (.Attribute (.Name x p1) "append" p2) [e] [] p3) none pos.line X.env=pure false:=by rfl) :
  PS X (.Expr (.Call (.Attribute (.Name x p1) "append" p2) [e] [] p3) pos) (UB (UR X.K "list" Zco (YB i) (UC te UH))):=
 Zhj (Zjm qbf PySem.F.slot_list_append PySem.F.type_list_append ZdL hv (Xb p Xy hs) hbase hfew hline hs rfl) hsw
section
variable {i:Nat}{x:Str}{e:Expr}{pos p1 p2 p3:Pos}{r1:Bool}{ob:List Nat}{st:Stmt}
theorem U4 (hi:i∈own)(he:PD X G r1 e f)(hp:∀te,PE X e te->PS X st (UB (UR X.K "list" Zco (YB i) (UC te UH)))):YW X G ob own own fr st (WT i (fun ρ=>f (Z2 own ρ))):=by
 obtain⟨t,p,q⟩:=he;exact⟨_,hp t p,Zlt hi (Vh.a q)⟩
end
end
section
variable {X:Cx}{G:Gh}
noncomputable def dI (C:Int->Int->Bool)(g:Int->Int->D):D->D->Option D
 | .int i,.int j=>if C i j=true then some (g i j)else none
 | _,_=>none
theorem Zen {C:Int->Int->Bool}{g:Int->Int->D}{d e c:D}(h:dI C g d e=some c):∃i j,d=.int i/\e=.int j/\C i j=true/\c=g i j:=by
 match d,e,h with
 | .int i,.int j,h=>
  have h':(if C i j=true then some (g i j)else none)=some c:=h;split at h'
  ·rename_i hc;cases h';exact⟨i,j,rfl,rfl,hc,rfl⟩
  ·cases h'
theorem ZjA {f:Value->Value->Sem Value}{C:Int->Int->Prop}{Cb:Int->Int->Bool}{g:Int->Int->Int}(h:Yp X f (rI C λi j=>.int (g i j)))(hc:∀i j,Cb i j=true->C i j):Xq X G f (dI Cb λi j=>.int (g i j)):=
 ⟨_,h,λHf H s x y d e c Q e1 st rx ry q k=>by
  obtain⟨i,j,rfl,rfl,hcb,rfl⟩:=Zen q;exact⟨i,j,ja.mp rx,ja.mp ry,hc i j hcb,k _ Hf H (.refl e1) st (ja.mpr rfl) (.scal λz=>z)⟩⟩
theorem Znd {f:Value->Value->Sem Value}{g:Int->Int->Int}(h:Yp X f (Vg λi j=>.int (g i j))):Xq X G f (dI (λ_ _=>true) λi j=>.int (g i j)):=
 ⟨_,h,λHf H s x y d e c Q e1 st rx ry q k=>by
  obtain⟨i,j,rfl,rfl,hcb,rfl⟩:=Zen q;exact⟨i,j,ja.mp rx,ja.mp ry,k _ Hf H (.refl e1) st (ja.mpr rfl) (.scal λz=>z)⟩⟩
theorem ZjB {f:Value->Value->Sem Value}{g:Int->Int->Bool}(h:Yp X f (Vg λi j=>.bl (g i j))):Xq X G f (dI (λ_ _=>true) λi j=>.bl (g i j)):=
 ⟨_,h,λHf H s x y d e c Q e1 st rx ry q k=>by
  obtain⟨i,j,rfl,rfl,hcb,rfl⟩:=Zen q;exact⟨i,j,ja.mp rx,ja.mp ry,k _ Hf H (.refl e1) st (je.mpr rfl) (.scal λz=>z)⟩⟩
noncomputable def Wy:=dI (λ_ _=>true) λi j=>.int (i-j)
noncomputable def Jp (i j:Int):Bool:=(decide (-(2 ^ 64)<i)&&decide (i<2 ^ 64))||(decide (-(2 ^ 64)<j)&&decide (j<2 ^ 64))
noncomputable def VR:=dI Jp λi j=>.int (i*j)
noncomputable def Wz:=dI (λ_ j=>decide (0<j)) λi j=>.int (i % j)
noncomputable def dPow:=dI (λi j=>decide (0<=j)&&decide (j<=1000000)&&decide (i.natAbs<2 ^ 64)) λi j=>.int (i ^ j.toNat)
theorem Zeo:Xq X G (binaryOp .Sub) Wy:=Znd ZmZ
theorem Ux:Xq X G (binaryOp .Mult) VR:=ZjA Zgj λi j h=>by
 simp only[Jp,Bool.or_eq_true,zh,decide_eq_true_eq]at h;exact h
theorem U7:Xq X G (binaryOp .Mod) Wz:=ZjA Zeh λi j h=>by simpa using h
theorem Zlu:Xq X G (binaryOp .Pow) dPow:=ZjA Zm0 λi j h=>by
 simp only[zh,decide_eq_true_eq]at h;exact⟨h.1.1,h.1.2,h.2⟩
noncomputable def UT:=dI (λ_ _=>true) λi j=>.bl (decide (i<=j))
noncomputable def Vw:=dI (λ_ _=>true) λi j=>.bl (decide (j<=i))
theorem ZjC:Xq X G (xk .LtE) UT:=ZjB Zoa
theorem ZjD:Xq X G (xk .GtE) Vw:=ZjB Zoc
noncomputable def ZL:List D->Option (List Int)
 | []=>some []
 | .int i::ds=>(ZL ds).map (i :: ·)
 | _::_=>none
theorem Wp:∀{ds:List D} {ns:List Int},ZL ds=some ns->ds=ns.map D.int
 | [],ns,h=>by simp[ZL]at h;subst h;rfl
 | .int i::ds,ns,h=>by
  cases e:ZL ds with
  | none=>simp[ZL,e]at h
  | some ms=>simp[ZL,e]at h;subst h;simp[Wp e]
 | .non::_,_,h=>by simp[ZL]at h
 | .bl _::_,_,h=>by simp[ZL]at h
 | .str _::_,_,h=>by simp[ZL]at h
 | .tup _::_,_,h=>by simp[ZL]at h
 | .lst _::_,_,h=>by simp[ZL]at h
 | .dk _::_,_,h=>by simp[ZL]at h
 | .dt _::_,_,h=>by simp[ZL]at h
 | .du _::_,_,h=>by simp[ZL]at h
 | .df _::_,_,h=>by simp[ZL]at h
 | .pen::_,_,h=>by simp[ZL]at h
 | .ty _::_,_,h=>by simp[ZL]at h
theorem JQ (ns:List Int):ZL (ns.map D.int)=some ns:=by
 induction ns with
 | nil=>rfl
 | cons n ns ih=>simp[ZL,ih]
theorem jk {H:Hp}:∀{ns:List Int} {vs:List V},Zi G H (ns.map D.int) vs->vs=ns.map V.int
 | [],vs,h=>Zi.nil_iff.mp h
 | n::ns,vs,h=>by
  obtain⟨v,r,rfl,h1,h2⟩:=jd.mp h;rw[ja.mp h1,jk h2];rfl
noncomputable def UU:D->D->Option D
 | .int i,.int j=>some (.bl (decide (i<j)))
 | .tup a,.tup b=>match ZL a,ZL b with | some ns,some ms=>some (.bl (HT.lexLt ns ms)) | _,_=>none
 | _,_=>none
theorem ZjE (hu:X.A.units<cLine):Xq X G (xk .Lt) UU:=
 ⟨_,Zjf.or (Zm5 hu),λHf H s x y d e c Q e1 st rx ry q k=>by
  match d,e,q,rx,ry with
  | .int i,.int j,q,rx,ry=>
   cases q
   exact .inl ⟨i,j,ja.mp rx,ja.mp ry,k _ Hf H (.refl e1) st (je.mpr rfl) (.scal λz=>z)⟩
  | .tup a,.tup b,q,rx,ry=>
   have q:(match ZL a,ZL b with | some ns,some ms=>some (D.bl (HT.lexLt ns ms)) | _,_=>none)=some c:=q
   cases ea:ZL a with
   | none=>rw[ea]at q;simp at q
   | some ns=>
    cases eb:ZL b with
    | none=>rw[ea,eb]at q;simp at q
    | some ms=>
     rw[ea,eb]at q
     cases q
     rw[Wp ea]at rx;rw[Wp eb]at ry;obtain⟨p,vs,rfl,np,hp,rp⟩:=jc.mp rx;obtain⟨p2,vs2,rfl,np2,hp2,rp2⟩:=jc.mp ry;rw[jk rp]at hp;rw[jk rp2]at hp2;exact .inr ⟨p,p2,ns,ms,rfl,rfl,ZI.of (e1 _ _ np hp),ZI.of (e1 _ _ np2 hp2),k _ Hf H (.refl e1) st (je.mpr rfl) (.scal λz=>z)⟩⟩
theorem Zlv:Yp X (binaryOp .Add) (λx y H Q=>∃a b ys,x=.ref a/\y=.ref b/\ZI X.K H a []/\ZI X.K H b ys/\Q (.ref b) H):=by
 intro jC s σ H x y v u Q I rx ry h;obtain⟨a,b,ys,rfl,rfl,ha,hb,q⟩:=h
 cases rx
 cases ry
 obtain⟨jH,r1,p1,_⟩:=I.tuple ha;obtain⟨jU,r2,p2,_⟩:=I.tuple hb;have e0:jH=[]:=by cases r1;rfl
 subst e0;obtain⟨⟨cls,dd,data,sl⟩,ho,hc,n,hd⟩:=id p1;obtain⟨⟨cls2,dd2,data2,sl2⟩,ho2,hc2,n2,hd2⟩:=id p2;simp only at hc hd hc2 hd2;subst hc hd hc2 hd2;exact concat_meets ⟨_,ho,rfl⟩ ⟨_,ho2,rfl⟩ noFill_tuple_add seq_tuple_add qbl qbe (qa3 _ _)
   (tuple_addW0 a b ([]:List Value).toArray jU.toArray n n2 dd dd2 sl sl2 rfl) ⟨ho,ho2,⟨.ref b,H,I,rfl,q⟩⟩
noncomputable def Z3:D->D->Option D
 | .int i,.int j=>some (.int (i+j))
 | .tup a,.tup b=>if a.length+b.length<=xg then some (.tup (a++b))else none
 | .lst a,.lst b=>if a.length+b.length<=xg then some (.lst (a++b))else none
 | _,_=>none
theorem YZ:Xq X G (binaryOp .Add) Z3:=
 ⟨_,Zgi.or (Zm8.or (Zlj.or Zlv)),λHf H s x y d e c Q e1 st rx ry q k=>by
  match d,e,q,rx,ry with
  | .int i,.int j,q,rx,ry=>
   cases q
   exact .inl ⟨i,j,ja.mp rx,ja.mp ry,k _ Hf H (.refl e1) st (ja.mpr rfl) (.scal λz=>z)⟩
  | .lst a,.lst b,q,rx,ry=>
   have q:(if a.length+b.length<=xg then some (D.lst (a++b))else none)=some c:=q;split at q
   ·rename_i hz
    cases q
    obtain⟨p,vs,rfl,np,hp,rp⟩:=jb.mp rx;obtain⟨p2,vs2,rfl,np2,hp2,rp2⟩:=jb.mp ry;refine .inr (.inl ⟨p,p2,vs,vs2,rfl,rfl,e1 _ _ np hp,e1 _ _ np2 hp2,by rw[<-rp.length,<-rp2.length];exact hz,λl hl=>?_⟩);have nf:=Gh.nofp st hl;have g2:=Gr.new (o:=.lst (vs++vs2)) e1 hl nf;have rr:=rp.append rp2;exact k (.ref l) _ _ g2 (Gh.grow st hl) (jb.mpr ⟨l,_,rfl,nf,ZX,rr.ext g2.ff⟩) (Yj.mk e1 hl nf rr)
   ·cases q
  | .tup a,.tup b,q,rx,ry=>
   have q:(if a.length+b.length<=xg then some (D.tup (a++b))else none)=some c:=q;split at q
   ·rename_i hz
    cases q
    obtain⟨p,vs,rfl,np,hp,rp⟩:=jc.mp rx;obtain⟨p2,vs2,rfl,np2,hp2,rp2⟩:=jc.mp ry;by_cases hv:vs=[]
    ·subst hv
     have ea:a=[]:=yE.mp (by rw[rp.length];rfl);subst ea;exact .inr (.inr (.inr ⟨p,p2,vs2,rfl,rfl,ZI.of (e1 _ _ np hp),ZI.of (e1 _ _ np2 hp2),k _ Hf H (.refl e1) st ry (.scal λz=>z)⟩))
    ·refine .inr (.inr (.inl ⟨p,p2,vs,vs2,rfl,rfl,ZI.of (e1 _ _ np hp),ZI.of (e1 _ _ np2 hp2),hv,by rw[<-rp.length,<-rp2.length];exact hz,λz=>?_,λ_ l hl=>?_⟩))
     ·subst z
      have eb:b=[]:=yE.mp (by rw[rp2.length];rfl);subst eb;rw[zr]at k;exact k _ Hf H (.refl e1) st rx (.scal λz=>z)
     ·have nf:=Gh.nofp st hl
      have g2:=Gr.new (o:=.tup (vs++vs2)) e1 hl nf;exact k (.ref l) _ _ g2 (Gh.grow st hl) (jc.mpr ⟨l,_,rfl,nf,ZX,(rp.append rp2).ext g2.ff⟩) (.scal λz=>z)
   ·cases q⟩
noncomputable def Zq:D->D->Option D
 | .lst ds,.int i=>XV ds i
 | .tup ds,.int i=>XV ds i
 | _,_=>none
theorem Zhp {Hf:Hp}{ds:List D}{vs:List V}{i:Int}{c:D}(r:Zi G Hf ds vs)(h:XV ds i=some c):∃v,XV vs i=some v/\Zj G Hf c v:=by
 unfold XV at h⊢;rw[<-r.length]
 cases e:Uh ds.length i with
 | none=>rw[e]at h;cases h
 | some j=>
  rw[e]at h;obtain⟨v,h1,h2⟩:=r.get (i:=j) (d:=c) h;exact⟨v,h1,h2⟩
theorem Yd:IxD X G Zq:=
 ⟨_,WK.or Zm6,λHf H s x y d e c Q e1 st rx ry q k=>by
  match d,e,q,rx,ry with
  | .lst ds,.int i,q,rx,ry=>
   obtain⟨p,vs,rfl,np,hp,rp⟩:=jb.mp rx;obtain⟨v,h1,h2⟩:=Zhp rp q;exact .inl ⟨p,vs,i,v,rfl,ja.mp ry,ZE.of (e1 _ _ np hp),h1,k v h2⟩
  | .tup ds,.int i,q,rx,ry=>
   obtain⟨p,vs,rfl,np,hp,rp⟩:=jc.mp rx;obtain⟨v,h1,h2⟩:=Zhp rp q;exact .inr ⟨p,vs,i,v,rfl,ja.mp ry,ZI.of (e1 _ _ np hp),h1,k v h2⟩⟩
theorem jg {H:Hp}{d:D}{xs:List V}(h:Zi G H [d] xs):∃v,xs=[v]/\Zj G H d v:=by
 obtain⟨v,r,rfl,h1,h2⟩:=jd.mp h;rw[Zi.nil_iff.mp h2];exact⟨v,rfl,h1⟩
theorem jo {H:Hp}{d e:D}{xs:List V}(h:Zi G H [d,e] xs):∃v w,xs=[v,w]/\Zj G H d v/\Zj G H e w:=by
 obtain⟨v,r,rfl,h1,h2⟩:=jd.mp h;obtain⟨w,rfl,h3⟩:=jg h2;exact⟨v,w,rfl,h1,h3⟩
noncomputable def Xp:List D->Option D
 | [.lst ds]=>some (.int ds.length)
 | [.tup ds]=>some (.int ds.length)
 | _=>none
theorem Zgr:XA X G (.builtin "len") Xp:=
 ⟨_,B1,λHf H s xs ds c Q e1 st r q k=>by
  match ds,q,r with
  | [.lst es],q,r=>
   cases q
   obtain⟨v,rfl,rv⟩:=jg r;obtain⟨p,vs,rfl,np,hp,rp⟩:=jb.mp rv;exact⟨p,vs,rfl,.inl (ZE.of (e1 _ _ np hp)),k _ Hf H (.refl e1) st (ja.mpr (by rw[rp.length])) (.scal λz=>z)⟩
  | [.tup es],q,r=>
   cases q
   obtain⟨v,rfl,rv⟩:=jg r;obtain⟨p,vs,rfl,np,hp,rp⟩:=jc.mp rv;exact⟨p,vs,rfl,.inr (ZI.of (e1 _ _ np hp)),k _ Hf H (.refl e1) st (ja.mpr (by rw[rp.length])) (.scal λz=>z)⟩⟩
noncomputable def Vn:List D->Option D
 | [.lst ds]=>some (.tup ds)
 | [.tup ds]=>some (.tup ds)
 | _=>none
theorem Uo:XA X G (.type "tuple") Vn:=
 ⟨_,Zdx,λHf H s xs ds c Q e1 st r q k=>by
  match ds,q,r with
  | [.lst es],q,r=>
   cases q
   obtain⟨v,rfl,rv⟩:=jg r;obtain⟨p,vs,rfl,np,hp,rp⟩:=jb.mp rv;refine⟨p,vs,rfl,.inl ⟨ZE.of (e1 _ _ np hp),λl hl=>?_⟩⟩;have nf:=Gh.nofp st hl;have g2:=Gr.new (o:=.tup vs) e1 hl nf;exact k (.ref l) _ _ g2 (Gh.grow st hl) (jc.mpr ⟨l,_,rfl,nf,ZX,rp.ext g2.ff⟩) (.scal λz=>z)
  | [.tup es],q,r=>
   cases q
   obtain⟨v,rfl,rv⟩:=jg r;obtain⟨p,vs,rfl,np,hp,rp⟩:=jc.mp rv;exact⟨p,vs,rfl,.inr ⟨ZI.of (e1 _ _ np hp),k _ Hf H (.refl e1) st rv (.scal λz=>z)⟩⟩⟩
noncomputable def Zmv:List D->Option D
 | [.lst ds]=>some (.lst ds)
 | [.tup ds]=>some (.lst ds)
 | _=>none
theorem Zfh:XA X G (.type "list") Zmv:=
 ⟨_,Zek,λHf H s xs ds c Q e1 st r q k=>by
  match ds,q,r with
  | [.lst es],q,r=>
   cases q
   obtain⟨v,rfl,rv⟩:=jg r;obtain⟨p,vs,rfl,np,hp,rp⟩:=jb.mp rv;refine⟨p,vs,rfl,.inl (ZE.of (e1 _ _ np hp)),λl hl=>?_⟩;have nf:=Gh.nofp st hl;have g2:=Gr.new (o:=.lst vs) e1 hl nf;exact k (.ref l) _ _ g2 (Gh.grow st hl) (jb.mpr ⟨l,_,rfl,nf,ZX,rp.ext g2.ff⟩) (Yj.mk e1 hl nf rp)
  | [.tup es],q,r=>
   cases q
   obtain⟨v,rfl,rv⟩:=jg r;obtain⟨p,vs,rfl,np,hp,rp⟩:=jc.mp rv;refine⟨p,vs,rfl,.inr (ZI.of (e1 _ _ np hp)),λl hl=>?_⟩;have nf:=Gh.nofp st hl;have g2:=Gr.new (o:=.lst vs) e1 hl nf;exact k (.ref l) _ _ g2 (Gh.grow st hl) (jb.mpr ⟨l,_,rfl,nf,ZX,rp.ext g2.ff⟩) (Yj.mk e1 hl nf rp)⟩
noncomputable def UD:List D->Option D
 | [.int i,.int j]=>some (.int (if j > i then j else i))
 | _=>none
noncomputable def Jq:List D->Option D
 | [.int i,.int j]=>some (.int (if j<i then j else i))
 | _=>none
theorem Za0 (hc:X.calm=true):XA X G (.builtin "max") UD:=
 ⟨_,Zh5 hc,λHf H s xs ds c Q e1 st r q k=>by
  match ds,q,r with
  | [.int i,.int j],q,r=>
   cases q
   obtain⟨v,w,rfl,rv,rw'⟩:=jo r;rw[ja.mp rv,ja.mp rw'];exact⟨i,j,rfl,k _ Hf H (.refl e1) st (ja.mpr rfl) (.scal λz=>z)⟩⟩
theorem ZcJ (hc:X.calm=true):XA X G (.builtin "min") Jq:=
 ⟨_,Zh6 hc,λHf H s xs ds c Q e1 st r q k=>by
  match ds,q,r with
  | [.int i,.int j],q,r=>
   cases q
   obtain⟨v,w,rfl,rv,rw'⟩:=jo r;rw[ja.mp rv,ja.mp rw'];exact⟨i,j,rfl,k _ Hf H (.refl e1) st (ja.mpr rfl) (.scal λz=>z)⟩⟩
noncomputable def Zhq:List D->Option D
 | [.int i]=>some (.int i)
 | [.bl b]=>some (.int (if b then 1 else 0))
 | _=>none
theorem Zgs:XA X G (.type "int") Zhq:=
 ⟨_,Zh7,λHf H s xs ds c Q e1 st r q k=>by
  match ds,q,r with
  | [.int i],q,r=>
   cases q
   obtain⟨v,rfl,rv⟩:=jg r;rw[ja.mp rv];exact .inl ⟨i,rfl,k _ Hf H (.refl e1) st (ja.mpr rfl) (.scal λz=>z)⟩
  | [.bl i],q,r=>
   cases q
   obtain⟨v,rfl,rv⟩:=jg r;rw[je.mp rv];exact .inr ⟨i,rfl,k _ Hf H (.refl e1) st (ja.mpr rfl) (.scal λz=>z)⟩⟩
theorem Bu {x:Str}{n:String}{pos:Pos}(hg:Gl X x)(hm:X.mg x=none)(hv:xj x=some (.type n))(hn:x≠"__name__":=by decide)(hd:(x==("__debug__" : Str))=false:=by decide):PD X G true (.Name x pos) (dC (.ty n)):=by
 refine⟨_,Zk9 (v:=.ty n) hg hm hv rfl hn hd,fun σ Hf H ρ s d s' Q e1 e2 e3 e4 k=>?_⟩;obtain⟨rfl,rfl⟩:=ZQ e4;exact k _ Hf H (.refl e1) e3 (jq.mpr rfl) λ_=>.scal λz=>z
noncomputable def Zep:D->Option String
 | .non=>some "NoneType"
 | .bl _=>some "bool"
 | .int _=>some "int"
 | .str _=>some "str"
 | .tup _=>some "tuple"
 | .lst _=>some "list"
 | .dk _=>some "dict"
 | .dt _=>none
 | .du _=>none
 | .df _=>none
 | _=>none
noncomputable def Bv:List String:=["int","bool","str","tuple","list","dict"]
noncomputable def Jx:List D->Option D
 | [d,.ty T]=>match Zep d with
  | some n=>if Bv.contains T then some (.bl (n==T||(n == "bool" && T == "int")))else none
  | none=>none
 | _=>none
theorem Zlw (K:qm):∀n∈["NoneType","bool","int","str","tuple","list","dict"],∀T∈Bv,PySem.W.kitOne K (.type n) (.type T)=some (n==T||(n == "bool" && T == "int")):=by
 intro n hn T hT;simp only[Bv,qu,yg,or_false]at hn hT;rcases hn with rfl | rfl | rfl | rfl | rfl | rfl | rfl <;> rcases hT with rfl | rfl | rfl | rfl | rfl | rfl <;> rfl
theorem Zif {Hf H:Hp}{d:D}{v:V}{n:String}(e1:ZA G Hf H)(r:Zj G Hf d v)(h:Zep d=some n):TyOf X.K H v (.type n)/\n∈["NoneType","bool","int","str","tuple","list","dict"]:=by
 cases d with
 | non=>cases h;rw[jh.mp r];exact⟨.non,by decide⟩
 | bl b=>cases h;rw[je.mp r];exact⟨.bl b,by decide⟩
 | int b=>cases h;rw[ja.mp r];exact⟨.int b,by decide⟩
 | str b=>cases h;rw[ji.mp r];exact⟨.str b,by decide⟩
 | tup ds=>cases h;obtain⟨p,vs,rfl,np,hp,rp⟩:=jc.mp r;exact⟨.tup (e1 _ _ np hp),by decide⟩
 | lst ds=>cases h;obtain⟨p,vs,rfl,np,hp,rp⟩:=jb.mp r;exact⟨.lst (e1 _ _ np hp),by decide⟩
 | dk ds=>cases h;obtain⟨p,rfl,np,hp⟩:=jj.mp r;exact⟨.dK (e1 _ _ np hp),by decide⟩
 | dt ds=>cases h
 | du ds=>cases h
 | df ds=>cases h
 | pen=>cases h
 | ty _=>cases h
 | clo _ _=>cases h
theorem Zig:Y2 X (.builtin "isinstance") (λxs H Q=>∃x n T,xs=[x,.ty T]/\TyOf X.K H x (.type n)/\n∈["NoneType","bool","int","str","tuple","list","dict"]/\T∈Bv/\Q (.bl (n==T||(n == "bool" && T == "int"))) H):=by
 intro jC s σ H xs us Q I r h;obtain⟨x,n,T,rfl,ty,hn,hT,q⟩:=h;obtain⟨u,w',rfl,ru,rw'⟩:=Zjg r
 cases (show w'=yI T from rw')
 exact Zh9 I ru ty (Zlw X.K n hn T hT) λtk=>⟨.bl _,H,I.tok tk,rfl,q⟩
theorem JY:XA X G (.builtin "isinstance") Jx:=
 ⟨_,Zig,λHf H s xs ds c Q e1 st r q k=>by
  match ds,q,r with
  | [d,.ty T],q,r=>
   obtain⟨v,w,rfl,rv,rw'⟩:=jo r;rw[jq.mp rw'];have q:(match Zep d with | some n=>if Bv.contains T then some (D.bl (n==T||(n == "bool" && T == "int")))else none | none=>none)=some c:=q
   cases e:Zep d with
   | none=>rw[e]at q;cases q
   | some n=>
    rw[e]at q;simp only at q;split at q
    ·rename_i hk
     cases q
     obtain⟨t1,t2⟩:=Zif (X:=X) e1 rv e;exact⟨v,n,T,rfl,t1,t2,by simpa using hk,k _ Hf H (.refl e1) st (je.mpr rfl) (.scal λz=>z)⟩
    ·cases q⟩
end
mutual
noncomputable def Zp:D->Bool
 | .non=>true
 | .bl _=>true
 | .int _=>true
 | .str _=>true
 | .tup ds=>Yq ds
 | .lst ds=>Yq ds
 | _=>false
noncomputable def Yq:List D->Bool
 | []=>true
 | d::ds=>Zp d&&Yq ds
end
mutual
noncomputable def Z0:D->Nat
 | .tup ds=>Xd ds+1
 | .lst ds=>Xd ds+1
 | _=>0
noncomputable def Xd:List D->Nat
 | []=>0
 | d::ds=>max (Z0 d) (Xd ds)
end
theorem U8:∀{ds:List D} {d:D},d∈ds->Z0 d<=Xd ds
 | e::ds,d,h=>by
  rcases qu.mp h with rfl | h
  ·simp only[Xd];omega
  ·have:=U8 h
   simp only[Xd];omega
theorem Uu:∀{ds:List D} {d:D},Yq ds=true->d∈ds->Zp d=true
 | e::ds,d,n,h=>by
  have n':Zp e=true/\Yq ds=true:=by simpa[Yq]using n
  rcases qu.mp h with rfl | h
  ·exact n'.1
  ·exact Uu n'.2 h
mutual
noncomputable def ZC:D->D->Bool
 | .non,.non=>true
 | .bl a,.bl b=>a==b
 | .bl a,.int i=>(if a then 1 else 0)==i
 | .int i,.bl b=>i==(if b then 1 else 0)
 | .int i,.int j=>i==j
 | .str x,.str y=>x==y
 | .tup a,.tup b=>Xj a b
 | .lst a,.lst b=>Xj a b
 | _,_=>false
noncomputable def Xj:List D->List D->Bool
 | [],[]=>true
 | a::as,b::bs=>ZC a b&&Xj as bs
 | _,_=>false
end
mutual
theorem ZcK:∀d:D,Zp d=true->ZC d d=true
 | .non,_=>by simp[ZC]
 | .bl _,_=>by simp[ZC]
 | .int _,_=>by simp[ZC]
 | .str _,_=>by simp[ZC]
 | .tup ds,h=>by simp only[ZC];exact ZbE ds (by simpa[Zp]using h)
 | .lst ds,h=>by simp only[ZC];exact ZbE ds (by simpa[Zp]using h)
 | .dk _,h=>by simp[Zp]at h
 | .dt _,h=>by simp[Zp]at h
 | .du _,h=>by simp[Zp]at h
 | .df _,h=>by simp[Zp]at h
 | .pen,h=>by simp[Zp]at h
 | .ty _,h=>by simp[Zp]at h
 | .clo _ _,h=>by simp[Zp]at h
theorem ZbE:∀ds:List D,Yq ds=true->Xj ds ds=true
 | [],_=>by simp[Xj]
 | d::ds,h=>by
  have n':Zp d=true/\Yq ds=true:=by simpa[Yq]using h
  simp only[Xj,ZcK d n'.1,ZbE ds n'.2,Bool.and_self]
end
theorem ZcL:∀{a b:List D},Xj a b=true->a.length=b.length
 | [],[],_=>rfl
 | a::as,b::bs,h=>by
  have:ZC a b=true/\Xj as bs=true:=by simpa[Xj]using h
  simp[ZcL this.2]
 | [],_::_,h=>by simp[Xj]at h
 | _::_,[],h=>by simp[Xj]at h
theorem Za1:∀(a b:List D),a.length=b.length->(qk a.length).all (λj=>ZC (a.getD j .non) (b.getD j .non))=Xj a b
 | [],[],_=>rfl
 | a::as,b::bs,h=>by
  have h':as.length=bs.length:=by simpa using h
  rw[qO,y8,List.all_cons,List.all_map,Xj,<-Za1 as bs h'];rfl
 | [],_::_,h=>by simp at h
 | _::_,[],h=>by simp at h
theorem Zfi:∀(a b:List D),((qk (min a.length b.length)).all (λj=>ZC (a.getD j .non) (b.getD j .non))&&a.length==b.length)=Xj a b:=λa b=>by
 by_cases h:a.length=b.length
 ·rw[<-Za1 a b h,h];simp
 ·have:Xj a b=false:=by
   cases e:Xj a b with
   | false=>rfl
   | true=>exact absurd (ZcL e) h
  rw[this];simp[h]
mutual
theorem Zj.inj {G:Gh}{H:Hp}:∀{d e:D} {v:V},Zp d=true->Zp e=true->Zj G H d v->Zj G H e v->d=e
 | .non,e,v,_,pe,h,h'=>by
  rw[jh.mp h]at h'
  cases e <;> first | rfl | (simp[Zp]at pe;done) | (simp[Zj]at h')
 | .bl b,e,v,_,pe,h,h'=>by
  rw[je.mp h]at h'
  cases e <;> first | (simp[Zp]at pe;done) | (simp[Zj]at h';rw[h']) | (simp[Zj]at h')
 | .int b,e,v,_,pe,h,h'=>by
  rw[ja.mp h]at h'
  cases e <;> first | (simp[Zp]at pe;done) | (simp[Zj]at h';rw[h']) | (simp[Zj]at h')
 | .str b,e,v,_,pe,h,h'=>by
  rw[ji.mp h]at h'
  cases e <;> first | (simp[Zp]at pe;done) | (simp[Zj]at h';rw[h']) | (simp[Zj]at h')
 | .tup ds,e,v,pd,pe,h,h'=>by
  obtain⟨a,vs,rfl,n,q,r⟩:=jc.mp h
  cases e with
  | tup es=>
   obtain⟨a',vs',e',n',q',r'⟩:=jc.mp h'
   cases e'
   rw[q]at q';cases q';rw[Zi.inj (by simpa[Zp]using pd) (by simpa[Zp]using pe) r r']
  | lst es=>
   obtain⟨a',vs',e',n',q',r'⟩:=jb.mp h'
   cases e'
   rw[q]at q';cases q'
  | _=>first | (simp[Zj]at h';done) | (simp[Zp]at pe;done)
 | .lst ds,e,v,pd,pe,h,h'=>by
  obtain⟨a,vs,rfl,n,q,r⟩:=jb.mp h
  cases e with
  | lst es=>
   obtain⟨a',vs',e',n',q',r'⟩:=jb.mp h'
   cases e'
   rw[q]at q';cases q';rw[Zi.inj (by simpa[Zp]using pd) (by simpa[Zp]using pe) r r']
  | tup es=>
   obtain⟨a',vs',e',n',q',r'⟩:=jc.mp h'
   cases e'
   rw[q]at q';cases q'
  | _=>first | (simp[Zj]at h';done) | (simp[Zp]at pe;done)
 | .dk _,_,_,pd,_,_,_=>by simp[Zp]at pd
 | .dt _,_,_,pd,_,_,_=>by simp[Zp]at pd
 | .du _,_,_,pd,_,_,_=>by simp[Zp]at pd
 | .df _,_,_,pd,_,_,_=>by simp[Zp]at pd
 | .pen,_,_,pd,_,_,_=>by simp[Zp]at pd
 | .ty _,_,_,pd,_,_,_=>by simp[Zp]at pd
 | .clo _ _,_,_,pd,_,_,_=>by simp[Zp]at pd
theorem Zi.inj {G:Gh}{H:Hp}:∀{ds es:List D} {vs:List V},Yq ds=true->Yq es=true->Zi G H ds vs->Zi G H es vs->ds=es
 | [],es,vs,_,pe,h,h'=>by
  rw[Zi.nil_iff.mp h]at h'
  cases es with
  | nil=>rfl
  | cons e es=>obtain⟨v,r,e1,_⟩:=jd.mp h';cases e1
 | d::ds,es,vs,pd,pe,h,h'=>by
  obtain⟨v,r,rfl,r1,r2⟩:=jd.mp h;have pd':Zp d=true/\Yq ds=true:=by simpa[Yq]using pd
  cases es with
  | nil=>have:=Zi.nil_iff.mp h';cases this
  | cons e es=>
   obtain⟨v',r',e1,r1',r2'⟩:=jd.mp h'
   cases e1
   have pe':Zp e=true/\Yq es=true:=by simpa[Yq]using pe
   rw[Zj.inj pd'.1 pe'.1 r1 r1',Zi.inj pd'.2 pe'.2 r2 r2']
end
section
variable {X:Cx}{G:Gh}{jC:Qb}{σ:St}{Hf H:Hp}{s:Shared}
theorem JZ (A:xC):A.in1.units=A.units+1:=rfl
theorem Zct {ds:List D}{vs:List V}{us:List Value}(r:Zi G Hf ds vs)(rv:ZB vs us){j:Nat}(h:j<us.toArray.size):∃v,Zj G Hf (ds.getD j .non) v/\ZJ v us.toArray[j]/\ds.getD j .non∈ds:=by
 have hl:j<ds.length:=by rw[r.length,rv.length];simpa using h
 have e:ds[j]?=some (ds.getD j .non):=by simp[qbv,hl]
 obtain⟨v,h1,h2⟩:=r.get e;obtain⟨u,h3,h4⟩:=rv.get h1;refine⟨v,h2,?_,?_⟩
 ·have:us.toArray[j]=u:=by
   have h':j<us.length:=by simpa using h
   have q:us[j]?=some us[j]:=by simp[h']
   rw[h3]at q;simpa using(zy q).symm
  rw[this];exact h4
 ·simp[qbv,hl]
theorem ZjF (I:Inv X jC σ H s)(e1:ZA G Hf H):∀(n:Nat) (A:xC) (d e:D) (x y:V) (u v:Value),Z0 d<=n->Z0 e<=n->A.units+n+1<cLine->Zp d=true->Zp e=true->Zj G Hf d x->Zj G Hf e y->ZJ x u->ZJ y v->
  qaO A s u v (ZC d e)/\qcC A s u v (ZC d e)/\qbZ A s u v (!ZC d e):=by
 intro n
 induction n with
 | zero=>
  intro A d e x y u v hd he hu pd pe rd re ru rv;have hu':A.units<cLine:=by omega
  cases d with
  | tup ds=>simp[Z0]at hd
  | lst ds=>simp[Z0]at hd
  | dk _=>simp[Zp]at pd
  | dt _=>simp[Zp]at pd
  | du _=>simp[Zp]at pd
  | df _=>simp[Zp]at pd
  | pen=>simp[Zp]at pd
  | ty _=>simp[Zp]at pd
  | clo _ _=>simp[Zp]at pd
  | non=>
   rw[jh.mp rd]at ru
   cases (show u=zo from ru)
   cases e with
   | tup ds=>simp[Z0]at he
   | lst ds=>simp[Z0]at he
   | dk _=>simp[Zp]at pe
   | dt _=>simp[Zp]at pe
   | du _=>simp[Zp]at pe
   | df _=>simp[Zp]at pe
   | pen=>simp[Zp]at pe
   | ty _=>simp[Zp]at pe
   | clo _ _=>simp[Zp]at pe
   | non=>rw[jh.mp re]at rv;cases (show v=zo from rv);simp only[ZC];exact⟨.same _,.none_none,.none_none⟩
   | bl b=>rw[je.mp re]at rv;cases (show v=yQ b from rv);simp only[ZC];exact⟨.none_bool b,.none_bool b,.none_bool b⟩
   | int b=>rw[ja.mp re]at rv;obtain⟨t,rfl⟩:=rv;simp only[ZC];exact⟨.none_int b t,.none_int b t,.none_int b t⟩
   | str b=>rw[ji.mp re]at rv;obtain⟨t,rfl⟩:=rv;simp only[ZC];exact⟨.none_str b t,.none_str b t,.none_str b t⟩
  | bl a=>
   rw[je.mp rd]at ru
   cases (show u=yQ a from ru)
   cases e with
   | tup ds=>simp[Z0]at he
   | lst ds=>simp[Z0]at he
   | dk _=>simp[Zp]at pe
   | dt _=>simp[Zp]at pe
   | du _=>simp[Zp]at pe
   | df _=>simp[Zp]at pe
   | pen=>simp[Zp]at pe
   | ty _=>simp[Zp]at pe
   | clo _ _=>simp[Zp]at pe
   | non=>rw[jh.mp re]at rv;cases (show v=zo from rv);simp only[ZC];exact⟨.bool_none a,.bool_none a,.bool_none a⟩
   | bl b=>rw[je.mp re]at rv;cases (show v=yQ b from rv);simp only[ZC];exact⟨.bool_bool a b,.bool_bool a b,.bool_bool a b⟩
   | int b=>rw[ja.mp re]at rv;obtain⟨t,rfl⟩:=rv;simp only[ZC];exact⟨.bool_int a b t,.bool_int a b t,.bool_int a b t⟩
   | str b=>rw[ji.mp re]at rv;obtain⟨t,rfl⟩:=rv;simp only[ZC];exact⟨.bool_str a b t,.bool_str a b t,.bool_str a b t⟩
  | int a=>
   rw[ja.mp rd]at ru;obtain⟨ta,rfl⟩:=ru
   cases e with
   | tup ds=>simp[Z0]at he
   | lst ds=>simp[Z0]at he
   | dk _=>simp[Zp]at pe
   | dt _=>simp[Zp]at pe
   | du _=>simp[Zp]at pe
   | df _=>simp[Zp]at pe
   | pen=>simp[Zp]at pe
   | ty _=>simp[Zp]at pe
   | clo _ _=>simp[Zp]at pe
   | non=>rw[jh.mp re]at rv;cases (show v=zo from rv);simp only[ZC];exact⟨.int_none a ta,.int_none a ta,.int_none a ta⟩
   | bl b=>rw[je.mp re]at rv;cases (show v=yQ b from rv);simp only[ZC];exact⟨.int_bool a ta b,.int_bool a ta b,.int_bool a ta b⟩
   | int b=>rw[ja.mp re]at rv;obtain⟨t,rfl⟩:=rv;simp only[ZC];exact⟨.int_int a ta b t,.int_int a ta b t,.int_int a ta b t⟩
   | str b=>rw[ji.mp re]at rv;obtain⟨t,rfl⟩:=rv;simp only[ZC];exact⟨.int_str a ta b t,.int_str a ta b t,.int_str a ta b t⟩
  | str a=>
   rw[ji.mp rd]at ru;obtain⟨ta,rfl⟩:=ru
   cases e with
   | tup ds=>simp[Z0]at he
   | lst ds=>simp[Z0]at he
   | dk _=>simp[Zp]at pe
   | dt _=>simp[Zp]at pe
   | du _=>simp[Zp]at pe
   | df _=>simp[Zp]at pe
   | pen=>simp[Zp]at pe
   | ty _=>simp[Zp]at pe
   | clo _ _=>simp[Zp]at pe
   | non=>rw[jh.mp re]at rv;cases (show v=zo from rv);simp only[ZC];exact⟨.str_none a ta,.str_none a ta,.str_none a ta⟩
   | bl b=>rw[je.mp re]at rv;cases (show v=yQ b from rv);simp only[ZC];exact⟨.str_bool a ta b,.str_bool a ta b,.str_bool a ta b⟩
   | int b=>rw[ja.mp re]at rv;obtain⟨t,rfl⟩:=rv;simp only[ZC];exact⟨.str_int a ta b t,.str_int a ta b t,.str_int a ta b t⟩
   | str b=>rw[ji.mp re]at rv;obtain⟨t,rfl⟩:=rv;simp only[ZC];exact⟨.str_str a ta b t,.str_str a ta b t,.str_str a ta b t⟩
 | succ n ih=>
  intro A d e x y u v hd he hu pd pe rd re ru rv;have hu':A.units<cLine:=by omega
  by_cases hs:Z0 d<=n/\Z0 e<=n
  ·exact ih A d e x y u v hs.1 hs.2 (by omega) pd pe rd re ru rv
  -- two refs
  have same:∀{l b:Addr},x=.ref l->y=.ref b->l=b->ZC d e=true:=λex ey el=>by
   subst ex ey el;have:=Zj.inj pd pe rd re;subst this;exact ZcK d pd
  cases d with
  | dk _=>simp[Zp]at pd
  | dt _=>simp[Zp]at pd
  | du _=>simp[Zp]at pd
  | df _=>simp[Zp]at pd
  | pen=>simp[Zp]at pd
  | ty _=>simp[Zp]at pd
  | clo _ _=>simp[Zp]at pd
  | tup ds=>
   obtain⟨l,vs,rfl,nl,hl,rl⟩:=jc.mp rd
   cases (show u=qY l from ru)
   obtain⟨jH,rits,pits,_⟩:=I.tuple (ZI.of (K:=X.K) (e1 _ _ nl hl));have il:s.heap.IsTuple l jH.toArray:=pits
   cases e with
   | dk _=>simp[Zp]at pe
   | dt _=>simp[Zp]at pe
   | du _=>simp[Zp]at pe
   | df _=>simp[Zp]at pe
   | pen=>simp[Zp]at pe
   | ty _=>simp[Zp]at pe
   | clo _ _=>simp[Zp]at pe
   | non=>rw[jh.mp re]at rv;cases (show v=zo from rv);simp only[ZC];exact⟨.tuple_none il hu',.tuple_none il hu',.tuple_none il hu'⟩
   | bl b=>rw[je.mp re]at rv;cases (show v=yQ b from rv);simp only[ZC];exact⟨.tuple_bool b il hu',.tuple_bool b il hu',.tuple_bool b il hu'⟩
   | int b=>rw[ja.mp re]at rv;obtain⟨t,rfl⟩:=rv;simp only[ZC];exact⟨.tuple_int b t il hu',.tuple_int b t il hu',.tuple_int b t il hu'⟩
   | str b=>rw[ji.mp re]at rv;obtain⟨t,rfl⟩:=rv;simp only[ZC];exact⟨.tuple_str b t il hu',.tuple_str b t il hu',.tuple_str b t il hu'⟩
   | lst es=>
    obtain⟨b,ws,rfl,nb,hb,rb⟩:=jb.mp re
    cases (show v=qY b from rv)
    obtain⟨jU,kd,jV,_⟩:=I.list (ZE.of (K:=X.K) (e1 _ _ nb hb));simp only[ZC];exact⟨.tuple_list il jV.isList hu',.tuple_list il jV.isList hu',.tuple_list il jV.isList hu'⟩
   | tup es=>
    obtain⟨b,ws,rfl,nb,hb,rb⟩:=jc.mp re
    cases (show v=qY b from rv)
    obtain⟨jU,kd,jV,_⟩:=I.tuple (ZI.of (K:=X.K) (e1 _ _ nb hb));have ib:s.heap.IsTuple b jU.toArray:=jV;have hit:∀j (h1:j<jH.toArray.size) (h2:j<jU.toArray.size),qaO A.in1 s jH.toArray[j] jU.toArray[j] ((λj=>ZC (ds.getD j .non) (es.getD j .non)) j):=λj h1 h2=>by
     obtain⟨v1,a1,a2,a3⟩:=Zct rl rits h1;obtain⟨v2,b1,b2,b3⟩:=Zct rb kd h2;exact(ih A.in1 _ _ v1 v2 _ _ (zb (U8 a3) (by simp[Z0]at hd;omega)) (zb (U8 b3) (by simp[Z0]at he;omega)) (by rw[JZ];omega)
      (Uu (by simpa[Zp]using pd) a3) (Uu (by simpa[Zp]using pe) b3) a1 b1 a2 b2).1
    have sz1:jH.toArray.size=ds.length:=by rw[rl.length,rits.length];simp
    have sz2:jU.toArray.size=es.length:=by rw[rb.length,kd.length];simp
    have rc:=qcC.tuples (e:=λj=>ZC (ds.getD j .non) (es.getD j .non)) il ib hu' hit;have rn:=qbZ.tuples (e:=λj=>ZC (ds.getD j .non) (es.getD j .non)) il ib hu' hit;rw[sz1,sz2,Zfi]at rc rn;simp only[ZC];refine⟨?_,rc,rn⟩;by_cases hlb:l=b
    ·have q:=same rfl rfl hlb
     simp only[ZC]at q;subst hlb;rw[q];exact .same _
    ·exact .of_refs hlb rc
  | lst ds=>
   obtain⟨l,vs,rfl,nl,hl,rl⟩:=jb.mp rd
   cases (show u=qY l from ru)
   obtain⟨jH,rits,pits,_⟩:=I.list (ZE.of (K:=X.K) (e1 _ _ nl hl));have il:=pits.isList
   cases e with
   | dk _=>simp[Zp]at pe
   | dt _=>simp[Zp]at pe
   | du _=>simp[Zp]at pe
   | df _=>simp[Zp]at pe
   | pen=>simp[Zp]at pe
   | ty _=>simp[Zp]at pe
   | clo _ _=>simp[Zp]at pe
   | non=>rw[jh.mp re]at rv;cases (show v=zo from rv);simp only[ZC];exact⟨.list_none il hu',.list_none il hu',.list_none il hu'⟩
   | bl b=>rw[je.mp re]at rv;cases (show v=yQ b from rv);simp only[ZC];exact⟨.list_bool b il hu',.list_bool b il hu',.list_bool b il hu'⟩
   | int b=>rw[ja.mp re]at rv;obtain⟨t,rfl⟩:=rv;simp only[ZC];exact⟨.list_int b t il hu',.list_int b t il hu',.list_int b t il hu'⟩
   | str b=>rw[ji.mp re]at rv;obtain⟨t,rfl⟩:=rv;simp only[ZC];exact⟨.list_str b t il hu',.list_str b t il hu',.list_str b t il hu'⟩
   | tup es=>
    obtain⟨b,ws,rfl,nb,hb,rb⟩:=jc.mp re
    cases (show v=qY b from rv)
    obtain⟨jU,kd,jV,_⟩:=I.tuple (ZI.of (K:=X.K) (e1 _ _ nb hb));have ib:s.heap.IsTuple b jU.toArray:=jV;simp only[ZC];exact⟨.list_tuple il ib hu',.list_tuple il ib hu',.list_tuple il ib hu'⟩
   | lst es=>
    obtain⟨b,ws,rfl,nb,hb,rb⟩:=jb.mp re
    cases (show v=qY b from rv)
    obtain⟨jU,kd,jV,_⟩:=I.list (ZE.of (K:=X.K) (e1 _ _ nb hb));have ib:=jV.isList;have hit:∀j (h1:j<jH.toArray.size) (h2:j<jU.toArray.size),qaO A.in1 s jH.toArray[j] jU.toArray[j] ((λj=>ZC (ds.getD j .non) (es.getD j .non)) j):=λj h1 h2=>by
     obtain⟨v1,a1,a2,a3⟩:=Zct rl rits h1;obtain⟨v2,b1,b2,b3⟩:=Zct rb kd h2;exact(ih A.in1 _ _ v1 v2 _ _ (zb (U8 a3) (by simp[Z0]at hd;omega)) (zb (U8 b3) (by simp[Z0]at he;omega)) (by rw[JZ];omega)
      (Uu (by simpa[Zp]using pd) a3) (Uu (by simpa[Zp]using pe) b3) a1 b1 a2 b2).1
    have sz1:jH.toArray.size=ds.length:=by rw[rl.length,rits.length];simp
    have sz2:jU.toArray.size=es.length:=by rw[rb.length,kd.length];simp
    have key:qcC A s (.ref l) (.ref b) (Xj ds es)/\qbZ A s (.ref l) (.ref b) (!Xj ds es):=by
     by_cases hsz:ds.length=es.length
     ·have rc:=qcC.lists (e:=λj=>ZC (ds.getD j .non) (es.getD j .non)) il ib (by rw[sz1,sz2];exact hsz) hu' hit
      have rn:=qbZ.lists (e:=λj=>ZC (ds.getD j .non) (es.getD j .non)) il ib (by rw[sz1,sz2];exact hsz) hu' hit;rw[sz1,Za1 ds es hsz]at rc rn;exact⟨rc,rn⟩
     ·have hne:(jH.toArray.size != jU.toArray.size)=true:=by rw[sz1,sz2];simpa using hsz
      have hf:Xj ds es=false:=by
       cases e:Xj ds es with
       | false=>rfl
       | true=>exact absurd (ZcL e) hsz
      rw[hf];exact⟨.lists_lengths il ib hne hu',.lists_lengths il ib hne hu'⟩
    simp only[ZC];refine⟨?_,key.1,key.2⟩;by_cases hlb:l=b
    ·have q:=same rfl rfl hlb
     simp only[ZC]at q;subst hlb;rw[q];exact .same _
    ·exact .of_refs hlb key.1
  | non=>
   rw[jh.mp rd]at ru
   cases (show u=zo from ru)
   cases e with
   | tup es=>
    obtain⟨b,ws,rfl,nb,hb,rb⟩:=jc.mp re
    cases (show v=qY b from rv)
    obtain⟨jU,kd,jV,_⟩:=I.tuple (ZI.of (K:=X.K) (e1 _ _ nb hb));have ib:s.heap.IsTuple b jU.toArray:=jV;simp only[ZC];exact⟨.none_tuple ib hu',.none_tuple ib hu',.none_tuple ib hu'⟩
   | lst es=>
    obtain⟨b,ws,rfl,nb,hb,rb⟩:=jb.mp re
    cases (show v=qY b from rv)
    obtain⟨jU,kd,jV,_⟩:=I.list (ZE.of (K:=X.K) (e1 _ _ nb hb));have ib:=jV.isList;simp only[ZC];exact⟨.none_list ib hu',.none_list ib hu',.none_list ib hu'⟩
   | _=>simp[Z0]at hs
  | bl a=>
   rw[je.mp rd]at ru
   cases (show u=yQ a from ru)
   cases e with
   | tup es=>
    obtain⟨b,ws,rfl,nb,hb,rb⟩:=jc.mp re
    cases (show v=qY b from rv)
    obtain⟨jU,kd,jV,_⟩:=I.tuple (ZI.of (K:=X.K) (e1 _ _ nb hb));have ib:s.heap.IsTuple b jU.toArray:=jV;simp only[ZC];exact⟨.bool_tuple a ib hu',.bool_tuple a ib hu',.bool_tuple a ib hu'⟩
   | lst es=>
    obtain⟨b,ws,rfl,nb,hb,rb⟩:=jb.mp re
    cases (show v=qY b from rv)
    obtain⟨jU,kd,jV,_⟩:=I.list (ZE.of (K:=X.K) (e1 _ _ nb hb));have ib:=jV.isList;simp only[ZC];exact⟨.bool_list a ib hu',.bool_list a ib hu',.bool_list a ib hu'⟩
   | _=>simp[Z0]at hs
  | int a=>
   rw[ja.mp rd]at ru;obtain⟨ta,rfl⟩:=ru
   cases e with
   | tup es=>
    obtain⟨b,ws,rfl,nb,hb,rb⟩:=jc.mp re
    cases (show v=qY b from rv)
    obtain⟨jU,kd,jV,_⟩:=I.tuple (ZI.of (K:=X.K) (e1 _ _ nb hb));have ib:s.heap.IsTuple b jU.toArray:=jV;simp only[ZC];exact⟨.int_tuple a ta ib hu',.int_tuple a ta ib hu',.int_tuple a ta ib hu'⟩
   | lst es=>
    obtain⟨b,ws,rfl,nb,hb,rb⟩:=jb.mp re
    cases (show v=qY b from rv)
    obtain⟨jU,kd,jV,_⟩:=I.list (ZE.of (K:=X.K) (e1 _ _ nb hb));have ib:=jV.isList;simp only[ZC];exact⟨.int_list a ta ib hu',.int_list a ta ib hu',.int_list a ta ib hu'⟩
   | _=>simp[Z0]at hs
  | str a=>
   rw[ji.mp rd]at ru;obtain⟨ta,rfl⟩:=ru
   cases e with
   | tup es=>
    obtain⟨b,ws,rfl,nb,hb,rb⟩:=jc.mp re
    cases (show v=qY b from rv)
    obtain⟨jU,kd,jV,_⟩:=I.tuple (ZI.of (K:=X.K) (e1 _ _ nb hb));have ib:s.heap.IsTuple b jU.toArray:=jV;simp only[ZC];exact⟨.str_tuple a ta ib hu',.str_tuple a ta ib hu',.str_tuple a ta ib hu'⟩
   | lst es=>
    obtain⟨b,ws,rfl,nb,hb,rb⟩:=jb.mp re
    cases (show v=qY b from rv)
    obtain⟨jU,kd,jV,_⟩:=I.list (ZE.of (K:=X.K) (e1 _ _ nb hb));have ib:=jV.isList;simp only[ZC];exact⟨.str_list a ta ib hu',.str_list a ta ib hu',.str_list a ta ib hu'⟩
   | _=>simp[Z0]at hs
end
section
variable {X:Cx}{G:Gh}
noncomputable def Vc (d e:D):Bool:=Zp d&&Zp e&&decide (Z0 d<=60)&&decide (Z0 e<=60)
theorem ZdQ {d e:D}(h:Vc d e=true):Zp d=true/\Zp e=true/\Z0 d<=60/\Z0 e<=60:=by
 simp only[Vc,zh,decide_eq_true_eq]at h;exact⟨h.1.1.1,h.1.1.2,h.1.2,h.2⟩
noncomputable def Yk (d e:D):Option D:=if Vc d e=true then some (.bl (ZC d e))else none
noncomputable def XQ (d e:D):Option D:=if Vc d e=true then some (.bl (!ZC d e))else none
noncomputable def rEqD (G:Gh)(neg:Bool):R2:=λx y H Q=>∃Hf d e,ZA G Hf H/\Vc d e=true/\Zj G Hf d x/\Zj G Hf e y/\Q (.bl (if neg then !ZC d e else ZC d e)) H
theorem Zne (hu:X.A.units+64<cLine):Yp X (xk .Eq) (rEqD G false):=by
 intro jC s σ H x y v u Q I rx ry h;obtain⟨Hf,d,e,e1,ok,rd,re,q⟩:=h;obtain⟨o1,o2,o3,o4⟩:=ZdQ ok;exact(ZjF I e1 60 X.A d e x y v u o3 o4 (by omega) o1 o2 rd re rx ry).2.1 _ _ _ _ ⟨.bl (ZC d e),H,I,rfl,q⟩
theorem Znf (hu:X.A.units+64<cLine):Yp X (xk .NotEq) (rEqD G true):=by
 intro jC s σ H x y v u Q I rx ry h;obtain⟨Hf,d,e,e1,ok,rd,re,q⟩:=h;obtain⟨o1,o2,o3,o4⟩:=ZdQ ok;exact(ZjF I e1 60 X.A d e x y v u o3 o4 (by omega) o1 o2 rd re rx ry).2.2 _ _ _ _ ⟨.bl (!ZC d e),H,I,rfl,q⟩
theorem W5 (hu:X.A.units+64<cLine):Xq X G (xk .Eq) Yk:=
 ⟨_,Zne (G:=G) hu,λHf H s x y d e c Q e1 st rx ry q k=>by
  unfold Yk at q;split at q
  ·rename_i ok
   cases q
   exact⟨Hf,d,e,e1,ok,rx,ry,k _ Hf H (.refl e1) st (je.mpr rfl) (.scal λz=>z)⟩
  ·cases q⟩
theorem Ji (hu:X.A.units+64<cLine):Xq X G (xk .NotEq) XQ:=
 ⟨_,Znf (G:=G) hu,λHf H s x y d e c Q e1 st rx ry q k=>by
  unfold XQ at q;split at q
  ·rename_i ok
   cases q
   exact⟨Hf,d,e,e1,ok,rx,ry,k _ Hf H (.refl e1) st (je.mpr rfl) (.scal λz=>z)⟩
  ·cases q⟩
noncomputable def X9 (x:D)(ds:List D):Bool:=Zp x&&Yq ds&&decide (Z0 x<=60)&&decide (Xd ds<=60)
noncomputable def Wa (x:D)(ds:List D):Bool:=ds.any λd=>ZC d x
theorem Zih {x:D}{ds:List D}(h:X9 x ds=true):Zp x=true/\Yq ds=true/\Z0 x<=60/\Xd ds<=60:=by
 simp only[X9,zh,decide_eq_true_eq]at h;exact⟨h.1.1.1,h.1.1.2,h.1.2,h.2⟩
open Classical in
noncomputable def UK (G:Gh)(Hf:Hp)(x:D)(u:Value):Bool:=if h:∃d v,Zp d=true/\Zj G Hf d v/\ZJ v u then ZC h.choose x else false
theorem Zhr {Hf:Hp}{x d:D}{v:V}{u:Value}(pd:Zp d=true)(r:Zj G Hf d v)(ru:ZJ v u):UK G Hf x u=ZC d x:=by
 have h:∃d v,Zp d=true/\Zj G Hf d v/\ZJ v u:=⟨d,v,pd,r,ru⟩;unfold UK;rw[dif_pos h];obtain⟨v',p',r',ru'⟩:=h.choose_spec;have ev:v'=v:=ZJ.inj ru' ru;subst ev;rw[Zj.inj p' pd r' r]
theorem Zfj {Hf:Hp}{x:D}:∀{ds:List D} {vs:List V} {us:List Value},Yq ds=true->Zi G Hf ds vs->ZB vs us->us.any (UK G Hf x)=Wa x ds
 | [],vs,us,_,r,rv=>by
  rw[Zi.nil_iff.mp r]at rv
  cases rv
  rfl
 | d::ds,vs,us,p,r,rv=>by
  obtain⟨v,rr,rfl,r1,r2⟩:=jd.mp r;have p':Zp d=true/\Yq ds=true:=by simpa[Yq]using p
  cases rv with
  | cons a b=>
   rw[qaV,Zhr p'.1 r1 a,Zfj p'.2 r2 b];rfl
theorem Zfk {Hf:Hp}:∀{ds:List D} {vs:List V} {us:List Value} {u:Value},Zi G Hf ds vs->ZB vs us->u∈us->∃d v,d∈ds/\Zj G Hf d v/\ZJ v u
 | [],vs,us,u,r,rv,m=>by
  rw[Zi.nil_iff.mp r]at rv
  cases rv
  simp at m
 | d::ds,vs,us,u,r,rv,m=>by
  obtain⟨v,rr,rfl,r1,r2⟩:=jd.mp r
  cases rv with
  | cons a b=>
   rcases qu.mp m with e | m
   ·subst e;exact⟨d,v,by simp,r1,a⟩
   ·obtain⟨d',v',m',h1,h2⟩:=Zfk r2 b m
    exact⟨d',v',by simp[m'],h1,h2⟩
noncomputable def rInD (G:Gh)(neg:Bool):R2:=λx y H Q=>∃Hf d ds,ZA G Hf H/\X9 d ds=true/\Zj G Hf d x/\(Zj G Hf (.lst ds) y∨Zj G Hf (.tup ds) y)/\Q (.bl (if neg then !Wa d ds else Wa d ds)) H
theorem Zcu {jC:Qb}{s:Shared}{σ:St}{Hf H:Hp}{d:D}{ds:List D}{x:V}{v:Value}{vs:List V}{jH:List Value}(hu:X.A.units+64<cLine)(I:Inv X jC σ H s)(e1:ZA G Hf H)(ok:X9 d ds=true)(rd:Zj G Hf d x)(rx:ZJ x v)
  (rl:Zi G Hf ds vs) (rv:ZB vs jH):(∀y,y∈jH.toArray->qaO X.A.in1 s y v (UK G Hf d y))/\jH.toArray.any (UK G Hf d)=Wa d ds:=by
 obtain⟨o1,o2,o3,o4⟩:=Zih ok;refine⟨λy hy=>?_,?_⟩
 ·obtain⟨c,w,m,h1,h2⟩:=Zfk rl rv (by simpa using hy)
  rw[Zhr (Uu o2 m) h1 h2];exact(ZjF I e1 60 X.A.in1 c d w x y v (zb (U8 m) o4) o3 (by rw[JZ];omega) (Uu o2 m) o1 h1 rd h2 rx).1
 ·rw[show jH.toArray.any (UK G Hf d)=jH.any (UK G Hf d) by simp,Zfj o2 rl rv]
theorem Zng (hu:X.A.units+64<cLine):Yp X (xk .In) (rInD G false):=by
 intro jC s σ H x y v u Q I rx ry h;obtain⟨Hf,d,ds,e1,ok,rd,hl,q⟩:=h;rcases hl with hl | hl
 ·obtain⟨p,vs,rfl,np,hp,rp⟩:=jb.mp hl
  cases (show u=qY p from ry)
  obtain⟨jH,rv,pl,hz⟩:=I.list (ZE.of (K:=X.K) (e1 _ _ np hp));obtain⟨c1,c2⟩:=Zcu hu I e1 ok rd rx rp rv;refine SeqAt.in_listAt _ pl.isList c1 ⟨.bl _,H,I,rfl,?_⟩;rw[c2];exact q
 ·obtain⟨p,vs,rfl,np,hp,rp⟩:=jc.mp hl
  cases (show u=qY p from ry)
  obtain⟨jH,rv,pl,hz⟩:=I.tuple (ZI.of (K:=X.K) (e1 _ _ np hp));obtain⟨c1,c2⟩:=Zcu hu I e1 ok rd rx rp rv;refine SeqAt.in_tupleAt _ pl c1 ⟨.bl _,H,I,rfl,?_⟩;rw[c2];exact q
theorem Zii (hu:X.A.units+64<cLine):Yp X (xk .NotIn) (rInD G true):=by
 intro jC s σ H x y v u Q I rx ry h;obtain⟨Hf,d,ds,e1,ok,rd,hl,q⟩:=h;rcases hl with hl | hl
 ·obtain⟨p,vs,rfl,np,hp,rp⟩:=jb.mp hl
  cases (show u=qY p from ry)
  obtain⟨jH,rv,pl,hz⟩:=I.list (ZE.of (K:=X.K) (e1 _ _ np hp));obtain⟨c1,c2⟩:=Zcu hu I e1 ok rd rx rp rv;refine SeqAt.notIn_listAt _ pl.isList c1 ⟨.bl _,H,I,rfl,?_⟩;rw[c2];exact q
 ·obtain⟨p,vs,rfl,np,hp,rp⟩:=jc.mp hl
  cases (show u=qY p from ry)
  obtain⟨jH,rv,pl,hz⟩:=I.tuple (ZI.of (K:=X.K) (e1 _ _ np hp));obtain⟨c1,c2⟩:=Zcu hu I e1 ok rd rx rp rv;refine SeqAt.notIn_tupleAt _ pl c1 ⟨.bl _,H,I,rfl,?_⟩;rw[c2];exact q
end
theorem Zij:typeLookup (.type "list") "keys" = pure none:=by rw[typeLookup_type,builtinLookup_eq_fast];kernel_rfl
theorem Zaj:entryFor table "dict.update.loop" = some Builtin.«dict.update.loop»:=entryFor_of_tree (by kernel_rfl)
theorem BX:plainId "dict.update.loop" = true:=by decide +kernel
theorem Za2 {prog:xB}{w:World}{A:xC}{E:xD}{s:Shared}{a:Addr}{o:Obj}{xs:Array Value}{k:Nat}{Q:Option Value->Shared->Prop}
  (hx:s.heap.get? a=some o) (hc:o.cls=.type "list") (hdat:o.data=.seq xs k) (hd:o.dict=none) (hA:A.handled=none)
  (h:∀h' tk,(∀b o,s.heap.get? b=some o->h'.get? b=some o)->Q none { s with heap:=h',toks:=tk }) :
  xf (xz prog w) A (getAttr? (.ref a) "keys") Q E s:=by
 have hmiss:=Zij;have hname:(["__module__","__name__","__qualname__","__doc__","__annotations__"]:List Str).contains ("keys" : Str)=false:=by decide +kernel
 have hsz:("keys" : Str).length+100<=xg:=by decide +kernel
 obtain⟨c,dct,dat,sl⟩:=o;simp only at hc hdat hd;subst hc hdat hd;obtain⟨hp,g,d,tk,os⟩:=s;have hT:∀tk',(⟨hp,g,d,tk',os⟩:Shared).TypeIs (.ref a) "list":=λ_=>⟨_,hx,rfl⟩;have f1:=sub_AttributeError;have f3:=qa5.lookup;have f4:=qa5.bind (.ref a);have f5:=am_list_getattr_none;unfold getAttr? getAttrBy?;refine xa ?_;refine wpAny_mkText ?_;refine xa (wpAny_attempt ?_);unfold getAttrBy
 repeat (any_goals (first | assumption | exact hT _ | ((with_reducible show xf _ _ (call (Value.builtin "list.__getattribute__") _ _) _ _ _);refine call_meets qa5 (hT _) am_entry_list_getattribute (F.args_list_getattribute_2 _ _) (meets_getattribute_miss_list a xs k sl "keys" _ hmiss hname hsz) ⟨hx,hA,λh' tk' e hx'=>?_⟩) | wp_step))
 obtain⟨t',u',he⟩:=hx'.there;have hTe:∀tk',(⟨h',g,d,tk',os⟩:Shared).TypeIs (.ref e) "AttributeError":=λ_=>⟨_,he,rfl⟩;have fin:∀tk',xf (xz prog w) A (do
   let b<-isInstance (.ref e) (.type "AttributeError")
   if b=true then pure none else throw (.ref e)) Q E ⟨h',g,d,tk',os⟩:=λtk'=>by
  refine xa (wpAny_isInstance (hTe _) f1 ?_);simp only[if_true];exact xb (h h' tk' hx'.of.keeps)
 show xf _ _ (getattributeRaised _ _ _ _ _ _ _) _ _ _;unfold getattributeRaised
 repeat (any_goals (first | assumption | exact fin _ | wp_step))
section
variable {X:Cx}{jC:Qb}{σ:St}{H:Hp}{s:Shared}{A:xC}{E:xD}{a:Addr}{y v:V}{u r:Value}
theorem Zik {H':Hp}{Q:Unit->Shared->Prop}(hu:A.units<cLine)(I:Inv X jC σ H s)(g:WR H a y v H')(ry:ZJ y u)(rv:ZJ v r)(h:∀s',Inv X jC σ H' s'->Q () s') :
  xf (xz X.prog X.w) A (dictSet a u r) Q E s:=by
 rcases g with⟨kvs,k,e,ey,l,eH⟩ | ⟨kvs,k,b,e,ey,eb,l,eH⟩
 ·subst ey eH
  obtain⟨z,hd,vs,rel,dd⟩:=Zms I.hok e;have hz:vs.length<=xg:=by rw[<-rel.length];exact z
  have hl:(Ys kvs k v).length<=xg:=by have:=Uq kvs k v;omega
  refine wpAny_dictSet_pairs (hsz:=hz) (Bq ry) dd λh' dd' hs=>h _ ?_;have he:∃q,h'.get? a=some q:=let ⟨q,_,_,hq,_⟩:=dd';⟨q,hq⟩;exact Zcq I (by rw[e];exact y6) hs he (Zjr hl hd (rel.put k rv) dd')
 ·subst ey eH
  cases (show u=qY b from ry)
  obtain⟨z,hd,xs,rel,dd⟩:=Zmt I.hok e;have hz:xs.length<=xg:=by rw[<-qak rel];exact z
  have hl:(Ys kvs k v).length<=xg:=by have:=Uq kvs k v;omega
  refine wpAny_dictSet_heap (hsz:=hz) (knd:=tupleKind (Wf X.prog X.w)) hu (Bl I.hok eb) dd λh' dd' hs=>h _ ?_;obtain⟨q,es,ep,hq,h2,h3,h4,_,h5⟩:=dd';refine Zcq I (by rw[e];exact y6) hs ⟨q,hq⟩ ⟨hl,hd,_,(rel.put k eb rv).keeps λc ys ec=>?_,q,es,ep,hq,h2,h3,h4,h5⟩;rw[Zx (Zmp ec e (λz=>nomatch z))];exact ec
end
section
variable {X:Cx}{jC:Qb}{σ:St}
inductive Puts (d:Addr):Hp->List V->Hp->Prop
 | nil {H:Hp}:Puts d H [] H
 | cons {H H1 H2:Hp} {b:Addr} {k v:V} {r:List V}:H b=some (.tup [k,v])->WR H d k v H1->Puts d H1 r H2->Puts d H (.ref b::r) H2
theorem ZjG {d l it:Addr}{vs:List V}{E:xD}{Q:Shared->Prop}{H':Hp}{A:xC}(hA:A.handled=none)(hu:A.units+1<cLine)
  (hQ:∀s',Inv X jC σ H' s'->Q s') (hfp:∀Hx:Hp,Hx it=none->Ww X jC Hx it) :
  ∀(k i:Nat) (s:Shared) (H:Hp),vs.length-i=k->i<=vs.length->Inv X jC σ H s->H it=none->s.heap.IsListIter it l i->H l=some (.lst vs)->l≠d->(∀Hx Hy y v,WR Hx d y v Hy->Hx l=some (.lst vs)->Hy l=some (.lst vs))->Puts d H (vs.drop i) H'->
   xo (xz X.prog X.w) A (.builtin "dict.update.loop" ⟨[.ref d,.ref it,rawInt i,.none],[]⟩) (wants (λr s₂=>r=.none/\Q s₂) E) s:=by
 intro k
 induction k with
 | zero=>
  intro i s H hk hi I hit st hl hne hkeep hp;have hil:i=vs.length:=by omega
  obtain⟨jH,rv,pl,hz⟩:=I.list (ZE.of (K:=X.K) hl);refine xm Zaj ?_;rw[yD BX _];show xf _ A.in1 (pyNext (.ref it) >>= _) _ _ s;obtain⟨f0,f1,f2,f3,f4,f5⟩:=hfp H hit;have jN:=rv.length;refine xa (wpAny_pyNext_list_end (A:=A.in1) hA st pl.isList (by simp;omega) λh' eb=>?_);have I2:Inv X jC σ H { s with heap:=h' }:=I.turned (t':=s.toks) (λb o hb e=>eb b o hb e) f0 f1 f3 f4 f5;have e0:vs.drop i=[]:=by rw[hil];simp
  rw[e0]at hp
  cases hp
  show xf _ _ (Builtin.Dict.addKeywords d [] >>= _) _ _ _;refine xa (xb ?_);exact xb ⟨rfl,hQ _ I2⟩
 | succ k ih=>
  intro i s H hk hi I hit st hl hne hkeep hp;have hlt:i<vs.length:=by omega
  obtain⟨jH,rv,pl,hz⟩:=I.list (ZE.of (K:=X.K) hl);have jN:=rv.length;refine xm Zaj ?_;rw[yD BX _];show xf _ A.in1 (pyNext (.ref it) >>= _) _ _ s;obtain⟨f0,f1,f2,f3,f4,f5⟩:=hfp H hit;have hd:vs.drop i=vs[i]::vs.drop (i+1):=qap hlt;rw[hd]at hp;generalize hvi:vs[i]=x at hp;generalize hrest:vs.drop (i+1)=rest at hp
  cases hp with
  | @cons _ H1 _ b k0 v0 _ hb hput hrec=>
   have gx:vs[i]?=some (.ref b):=by rw[qw hlt,hvi]
   obtain⟨u,hu1,ru⟩:=rv.get gx
   cases (show u=qY b from ru)
   refine xa (wpAny_pyNext_list_item (A:=A.in1) st pl.isList (x:=.ref b) (by simpa using hu1) λh' st' sb=>?_);have I1:Inv X jC σ H { s with heap:=h' }:=I.turned (t':=s.toks) (λc o hc e=>(sb.2 c hc).trans e) f0 f1 f3 f4 f5;obtain⟨jU,rv2,pt,_⟩:=I1.tuple (ZI.of (K:=X.K) hb);obtain⟨ku,vu,e2,rk,rvv⟩:=rv2.two;subst e2;obtain⟨o,ho,hoc,n,hod⟩:=id pt;show xf _ _ (holding [qY b] _ >>= _) _ _ _;refine xa (xu ?_);refine xa (wpAny_tryCatch ?_);unfold Builtin.Dict.pairItems;refine xa (wpAny_typeOf (T:="tuple") ⟨o,ho,hoc⟩ ?_);rw[if_pos (by decide)];refine xa (xt ho hod ?_);refine xb ?_;show xf _ _ (holding [ku,vu] (dictSet d ku vu)) _ _ _;refine xu ?_;obtain⟨oi,hoi,ci,di⟩:=id st';have Ip:=I1.pinned (fp:=[it]) (λc hc=>by
    have e:c=it:=by simpa using hc
    subst e;exact hfp H hit) (λc hc=>by
    have e:c=it:=by simpa using hc
    subst e;exact⟨oi,hoi,λw z=>by rw[di]at z;cases z⟩)
   refine Zik (by rw[JZ];exact hu) Ip hput rk rvv λs2 I2=>?_;have pit:=I2.pin (it,oi) (zi _ (zi _ (UY (by simp) hoi)));have ec:((i:Int)+1)=((i+1:Nat):Int):=by push_cast;rfl
   show xf _ _ (again (.builtin "dict.update.loop" ⟨[.ref d,.ref it,rawInt ((i:Int)+1),.none],[]⟩)) _ _ _;rw[ec];refine xb ⟨plainId_quiet BX _,?_⟩;refine ih (i+1) s2 H1 (by omega) hlt I2.unpinned pit.2.1 ⟨oi,pit.1,ci,di⟩ (hkeep _ _ _ _ hput hl) hne hkeep ?_;rw[hrest];exact hrec
theorem ZcM (hc:X.calm=true)(hu:X.A.units+64<cLine)(tk:Bool):Y2 X (.type "dict") (λxs H Q=>∃l vs,xs=[.ref l]/\H l=some (.lst vs)/\∀p,H p=none->∃H',Puts p (Zn H p (if tk then .dT []else .dK [])) vs H'/\Q (.ref p) H'):=by
 intro jC s σ H xs us Q I r h;obtain⟨l,vs,rfl,hl,q⟩:=h;obtain⟨u,rfl,ru⟩:=Xu r
 cases (show u=qY l from ru)
 obtain⟨H',puts,q'⟩:=q s.heap.objs.size (I.hok.fresh (qq _));have hA:=I.ok.hd hc;refine callType_codes (Q₁:=λobj s₁=>obj=.ref s.heap.objs.size/\s₁ = { s with heap:=s.heap.push { cls:=.type "dict",data:=.dict #[] } }) F.kt_called_dict (F.kt_typeCall_dict_1 _) F.entry_dict_init (kt_code_dict_new _ ⟨rfl,rfl⟩) ?_;rintro obj s₁ ⟨rfl,rfl⟩;have hbig:=I.big;have I1:Inv X jC σ (Zn H s.heap.objs.size (if tk then .dT []else .dK [])) { s with heap:=s.heap.push { cls:=.type "dict",data:=.dict #[] } }:=
  I.laid (t':=s.toks) (λb o e=>qf _ e) (qq _) (by
   cases tk
   ·exact Zjs s.heap hbig
   ·exact Zfb s.heap hbig)
 have hnew:(s.heap.push { cls:=.type "dict",data:=.dict #[] }).get? s.heap.objs.size=some { cls:=.type "dict",data:=.dict #[] }:=qD _ rfl;have hTd:({ s with heap:=s.heap.push { cls:=.type "dict",data:=.dict #[] } }:Shared).TypeIs (.ref s.heap.objs.size) "dict":=⟨_,hnew,rfl⟩;have hld:l≠s.heap.objs.size:=YD hl (I.hok.fresh (qq _));have hl1:(Zn H s.heap.objs.size (if tk then HO.dT []else HO.dK [])) l=some (.lst vs):=by rw[Zx hld];exact hl
 obtain⟨zz,jH,n,rits,hlo⟩:=(show Yx X.prog X.w _ _ l (.lst vs)from I1.hok l _ hl1);refine⟨hTd,F.args_dict_init_2 _ _,?_⟩;unfold Builtin.«dict.__init__»;refine xa ?_;unfold Builtin.Dict.selfAndRest;refine xa (wpAny_notOrdered_dict hTd ?_);show xf _ _ (pure (s.heap.objs.size,[qY l])) _ _ _;refine xb ?_;show xf _ _ (qcb "dict.__init__" s.heap.objs.size (.ref l) [] .none) _ _ _;unfold qcb;have hTl:({ s with heap:=s.heap.push { cls:=.type "dict",data:=.dict #[] } }:Shared).TypeIs (.ref l) "list":=⟨_,hlo,rfl⟩;refine xa (wpAny_typeOf hTl ?_);rw[if_pos (by decide)];refine xa (Za2 hlo rfl rfl rfl hA λh2 tk2 kp2=>?_);simp only[Option.isNone_none,if_true];refine xa (wpAny_rule ?_);have I2:Inv X jC σ (Zn H s.heap.objs.size (if tk then .dT []else .dK [])) { s with heap:=h2,toks:=tk2 }:=I1.kept kp2;obtain⟨its',rv',pl',hz'⟩:=I2.list (ZE.of (K:=X.K) hl1);refine xa (wpAny_pyIter_list pl'.isList ?_);refine xb ⟨plainId_quiet BX _,?_⟩;have I3:Inv X jC σ (Zn H s.heap.objs.size (if tk then .dT []else .dK [])) { s with heap:=h2.push { cls:=.type "list_iterator",data:=.fields #[.ref l,.int 0 0] },toks:=tk2 }:=I2.kept (t':=tk2) λb o e=>qf _ e;have hfresh:(Zn H s.heap.objs.size (if tk then HO.dT []else HO.dK [])) h2.objs.size=none:=I2.hok.fresh (qq _);have hst:(h2.push { cls:=.type "list_iterator",data:=.fields #[.ref l,.int 0 0] }).IsListIter h2.objs.size l 0:=⟨_,qD _ rfl,rfl,rfl⟩;refine ZjG (l:=l) (vs:=vs) (H':=H') (A:=X.A.in1) (jC:=jC) (σ:=σ) hA (by rw[JZ];omega) (λs' I'=>⟨.ref s.heap.objs.size,H',I',rfl,q'⟩) (λHx hn=>I2.fpOk (qq _) hn) vs.length 0 _ _ rfl (zB _) I3 hfresh hst hl1 hld ?_ puts;intro Hx Hy y v hput hxl;rcases hput with⟨kvs,k,e,ey,l',eH⟩ | ⟨kvs,k,b,e,ey,eb,l',eH⟩
 ·subst eH;rw[Zx hld];exact hxl
 ·subst eH;rw[Zx hld];exact hxl
end
section
variable {X:Cx}{G:Gh}
noncomputable def Vq:D->Option Zu
 | .int i=>some (.inl i)
 | .str x=>some (.inr x)
 | _=>none
noncomputable def XJ:List D->Option (List Zu)
 | []=>some []
 | d::ds=>match Vq d,XJ ds with | some k,some ks=>some (k::ks) | _,_=>none
noncomputable def Wv:D->Option V
 | .int i=>some (.int i)
 | .bl b=>some (.bl b)
 | .str x=>some (.str x)
 | .non=>some .non
 | _=>none
theorem ZbF {H:Hp}{d:D}{v:V}{k:Zu}(h:Vq d=some k)(r:Zj G H d v):v=kV k:=by
 cases d with
 | int i=>cases h;rw[ja.mp r];rfl
 | str i=>cases h;rw[ji.mp r];rfl
 | _=>cases h
theorem JR {H:Hp}:∀{ds:List D} {vs:List V} {ks:List Zu},XJ ds=some ks->Zi G H ds vs->vs=ks.map kV
 | [],vs,ks,h,r=>by cases h;exact Zi.nil_iff.mp r
 | d::ds,vs,ks,h,r=>by
  obtain⟨v,rr,rfl,r1,r2⟩:=jd.mp r;unfold XJ at h
  cases e1:Vq d with
  | none=>rw[e1]at h;cases h
  | some k=>
   cases e2:XJ ds with
   | none=>rw[e1,e2]at h;cases h
   | some ks'=>
    rw[e1,e2]at h
    cases h
    rw[ZbF e1 r1,JR e2 r2];rfl
theorem ZbG {H:Hp}{d:D}{v w:V}(h:Wv d=some w)(r:Zj G H d v):v=w:=by
 cases d with
 | int i=>cases h;exact ja.mp r
 | str i=>cases h;exact ji.mp r
 | bl i=>cases h;exact je.mp r
 | non=>cases h;exact jh.mp r
 | _=>cases h
noncomputable def Zhs:D->Option (List Zu×V)
 | .tup [.tup ks,v]=>match XJ ks,Wv v with | some k,some w=>some (k,w) | _,_=>none
 | _=>none
noncomputable def ZjH:D->Option (Zu×V)
 | .tup [k,v]=>match Vq k,Wv v with | some k,some w=>some (k,w) | _,_=>none
 | _=>none
noncomputable def W7:List (List Zu×V)->List D->Option (List (List Zu×V))
 | acc,[]=>some acc
 | acc,d::ds=>match Zhs d with | some (k,v)=>W7 (Ys acc k v) ds | none=>none
noncomputable def WQ:List (Zu×V)->List D->Option (List (Zu×V))
 | acc,[]=>some acc
 | acc,d::ds=>match ZjH d with | some (k,v)=>WQ (Ys acc k v) ds | none=>none
theorem Zgt {d:D}{k:List Zu}{v:V}(h:Zhs d=some (k,v)):∃ks w,d=.tup [.tup ks,w]/\XJ ks=some k/\Wv w=some v:=by
 match d,h with
 | .tup [.tup ks,w],h=>
  have h':(match XJ ks,Wv w with | some k,some w=>some (k,w) | _,_=>none)=some (k,v):=h
  cases e1:XJ ks with
  | none=>rw[e1]at h';cases h'
  | some k'=>
   cases e2:Wv w with
   | none=>rw[e1,e2]at h';cases h'
   | some w'=>rw[e1,e2]at h';cases h';exact⟨ks,w,rfl,e1,e2⟩
theorem Zgu {d:D}{k:Zu}{v:V}(h:ZjH d=some (k,v)):∃ks w,d=.tup [ks,w]/\Vq ks=some k/\Wv w=some v:=by
 match d,h with
 | .tup [ks,w],h=>
  have h':(match Vq ks,Wv w with | some k,some w=>some (k,w) | _,_=>none)=some (k,v):=h
  cases e1:Vq ks with
  | none=>rw[e1]at h';cases h'
  | some k'=>
   cases e2:Wv w with
   | none=>rw[e1,e2]at h';cases h'
   | some w'=>rw[e1,e2]at h';cases h';exact⟨ks,w,rfl,e1,e2⟩
theorem ZjI {Hf H:Hp}{p:Addr}(e1:ZA G Hf H)(hp:H p=none):∀{ds:List D} {vs:List V} {acc res:List (List Zu×V)},Zi G Hf ds vs->W7 acc ds=some res->acc.length+ds.length<=xg->Puts p (Zn H p (.dT acc)) vs (Zn H p (.dT res))
 | [],vs,acc,res,r,h,_=>by
  rw[Zi.nil_iff.mp r]
  cases h
  exact .nil
 | d::ds,vs,acc,res,r,h,hl=>by
  obtain⟨v,rr,rfl,r1,r2⟩:=jd.mp r;unfold W7 at h
  cases e:Zhs d with
  | none=>rw[e]at h;cases h
  | some kv=>
   obtain⟨k,w⟩:=kv;rw[e]at h;have h:W7 (Ys acc k w) ds=some res:=h;obtain⟨ks,wd,rfl,q1,q2⟩:=Zgt e;obtain⟨b,ws,rfl,nb,hb,rb⟩:=jc.mp r1;obtain⟨v1,v2,rfl,rk,rv⟩:=jo rb;obtain⟨c,cs,rfl,nc,hcx,rc⟩:=jc.mp rk;have ec:=JR q1 rc;subst ec;have ev:=ZbG q2 rv;subst ev;have hb':=e1 _ _ nb hb;have hc':=e1 _ _ nc hcx;have ll:=Uq acc k v2;have hl':acc.length+(ds.length+1)<=xg:=by simpa using hl
   refine .cons (by rw[Zx (YD hb' hp)];exact hb') (WR.t (k:=k) ZX (by rw[Zx (YD hc' hp)];exact hc') (by omega)) ?_;rw[Zee];exact ZjI e1 hp r2 h (by omega)
theorem ZjJ {Hf H:Hp}{p:Addr}(e1:ZA G Hf H)(hp:H p=none):∀{ds:List D} {vs:List V} {acc res:List (Zu×V)},Zi G Hf ds vs->WQ acc ds=some res->acc.length+ds.length<=xg->Puts p (Zn H p (.dK acc)) vs (Zn H p (.dK res))
 | [],vs,acc,res,r,h,_=>by
  rw[Zi.nil_iff.mp r]
  cases h
  exact .nil
 | d::ds,vs,acc,res,r,h,hl=>by
  obtain⟨v,rr,rfl,r1,r2⟩:=jd.mp r;unfold WQ at h
  cases e:ZjH d with
  | none=>rw[e]at h;cases h
  | some kv=>
   obtain⟨k,w⟩:=kv;rw[e]at h;have h:WQ (Ys acc k w) ds=some res:=h;obtain⟨ks,wd,rfl,q1,q2⟩:=Zgu e;obtain⟨b,ws,rfl,nb,hb,rb⟩:=jc.mp r1;obtain⟨v1,v2,rfl,rk,rv⟩:=jo rb;have ek:=ZbF q1 rk;subst ek;have ev:=ZbG q2 rv;subst ev;have hb':=e1 _ _ nb hb;have ll:=Uq acc k v2;have hl':acc.length+(ds.length+1)<=xg:=by simpa using hl
   refine .cons (by rw[Zx (YD hb' hp)];exact hb') (WR.k (k:=k) ZX (by omega)) ?_;rw[Zee];exact ZjJ e1 hp r2 h (by omega)
noncomputable def ZjK:List D->Option D
 | [.lst ds]=>if ds.length<=xg then (W7 [] ds).map .dt else none
 | _=>none
noncomputable def Zeq:List D->Option D
 | [.lst ds]=>if ds.length<=xg then (WQ [] ds).map .dk else none
 | _=>none
theorem Zgv (hc:X.calm=true)(hu:X.A.units+64<cLine):Y2 X (.type "dict") (λxs H Q=>∃l vs,xs=[.ref l]/\H l=some (.lst vs)/\∀p,H p=none->∃kvs,Puts p (Zn H p (.dT [])) vs (Zn H p (.dT kvs))/\∀o,Q (.ref p) (Zn H p (.frz o (.dT kvs)))):=by
 intro jC s σ H xs us Q I r h;obtain⟨l,vs,ex,hl,hp⟩:=h;refine ZK (ZcM hc hu true jC s σ H xs us (λv H'=>∃p kvs,v=.ref p/\H'=Zn H p (.dT kvs)/\∀o,Q (.ref p) (Zn H p (.frz o (.dT kvs)))) I r ⟨l,vs,ex,hl,λp hn=>?_⟩) λu s1 ⟨v,H1,I1,r1,p,kvs,ev,eH,q⟩=>?_
 ·obtain⟨kvs,pu,q⟩:=hp p hn
  exact⟨_,pu,p,kvs,rfl,rfl,q⟩
 ·subst ev eH
  have ok:=I1.hok p (.dT kvs) ZX;obtain⟨_,_,xs',_,o,es,ep,h1,_⟩:=(show Yx X.prog X.w _ s1.heap p (.dT kvs)from ok);have I2:=I1.write (x:=p) (e:=p) (o:=.frz o (.dT kvs)) (h':=s1.heap) (t':=s1.toks) (by rw[ZX];trivial) (.inl rfl) (λ_ _ _ e=>e) ⟨o,h1⟩ ⟨h1,ok.stay (λ_ _ _ e=>e) (λb e=>?_) λb xs e=>?_⟩
  ·rw[Zee]at I2
   exact⟨.ref p,_,I2,r1,q o⟩
  ·have:b≠p:=λz=>by rw[z,ZX]at e;cases e
   rw[Zx this];exact e
  ·have:b≠p:=λz=>by rw[z,ZX]at e;cases e
   rw[Zx this];exact e
theorem Zgw (hc:X.calm=true)(hu:X.A.units+64<cLine):XA X G (.type "dict") ZjK:=
 ⟨_,Zgv hc hu,λHf H s xs ds c Q e1 st r q k=>by
  match ds,q,r with
  | [.lst es],q,r=>
   have q:(if es.length<=xg then (W7 [] es).map D.dt else none)=some c:=q;split at q
   ·rename_i hz
    cases e:W7 [] es with
    | none=>rw[e]at q;cases q
    | some res=>
     rw[e]at q
     cases q
     obtain⟨v,rfl,rv⟩:=jg r;obtain⟨l,vs,rfl,nl,hl,rl⟩:=jb.mp rv;refine⟨l,vs,rfl,e1 _ _ nl hl,λp hp=>⟨_,ZjI e1 hp rl e (by simpa using hz),λo=>?_⟩⟩;have nf:=Gh.nofp st hp;have g2:=Gr.new (o:=.frz o (.dT res)) e1 hp nf;exact k (.ref p) _ _ g2 (Gh.grow st hp) (jl.mpr ⟨p,o,rfl,nf,ZX⟩) λa ea _=>by cases ea;exact⟨hp,λds ed=>by cases ed⟩
   ·cases q⟩
theorem Zgx (hc:X.calm=true)(hu:X.A.units+64<cLine):XA X G (.type "dict") Zeq:=
 ⟨_,ZcM hc hu false,λHf H s xs ds c Q e1 st r q k=>by
  match ds,q,r with
  | [.lst es],q,r=>
   have q:(if es.length<=xg then (WQ [] es).map D.dk else none)=some c:=q;split at q
   ·rename_i hz
    cases e:WQ [] es with
    | none=>rw[e]at q;cases q
    | some res=>
     rw[e]at q
     cases q
     obtain⟨v,rfl,rv⟩:=jg r;obtain⟨l,vs,rfl,nl,hl,rl⟩:=jb.mp rv;refine⟨l,vs,rfl,e1 _ _ nl hl,λp hp=>⟨_,ZjJ e1 hp rl e (by simpa using hz),?_⟩⟩;have nf:=Gh.nofp st hp;have g2:=Gr.new (o:=.dK res) e1 hp nf;exact k (.ref p) _ _ g2 (Gh.grow st hp) (jj.mpr ⟨p,rfl,nf,ZX⟩) λa ea _=>by cases ea;exact⟨hp,λds ed=>by cases ed⟩
   ·cases q⟩
theorem Znh (hu:X.A.units+1<cLine):Yp X (xk .In) (λx y H Q=>∃a o,y=.ref a/\Vb H a x o/\Q (.bl o.isSome) H):=by
 intro jC s σ H x y v u Q I rx ry h;obtain⟨a,o,rfl,g,q⟩:=h
 cases (show u=qY a from ry)
 exact d_in hu I g rx λs' I'=>⟨.bl _,H,I',rfl,q⟩
theorem Zil (hu:X.A.units+1<cLine):Yp X (xk .NotIn) (λx y H Q=>∃a o,y=.ref a/\Vb H a x o/\Q (.bl (!o.isSome)) H):=by
 intro jC s σ H x y v u Q I rx ry h;obtain⟨a,o,rfl,g,q⟩:=h
 cases (show u=qY a from ry)
 exact Zll hu I g rx λs' I'=>⟨.bl _,H,I',rfl,q⟩
noncomputable def UL:D->D->Option Bool
 | x,.lst ds=>if X9 x ds=true then some (Wa x ds)else none
 | x,.tup ds=>if X9 x ds=true then some (Wa x ds)else none
 | .tup ks,.dt kvs=>(XJ ks).map λk=>(Yb kvs k).isSome
 | .tup ks,.du kvs=>(XJ ks).map λk=>(Yb kvs k).isSome
 | x,.dk kvs=>(Vq x).map λk=>(Yb kvs k).isSome
 | _,_=>none
noncomputable def XF (x y:D):Option D:=(UL x y).map .bl
noncomputable def VL (x y:D):Option D:=(UL x y).map λb=>.bl (!b)
theorem ZdR {Hf H:Hp}{x y:V}{d e:D}{b:Bool}(e1:ZA G Hf H)(rx:Zj G Hf d x)(ry:Zj G Hf e y)(h:UL d e=some b) :
  (∃ds,X9 d ds=true/\(Zj G Hf (.lst ds) y∨Zj G Hf (.tup ds) y)/\b=Wa d ds)∨∃a o,y=.ref a/\Vb H a x o/\b=o.isSome:=by
 cases e with
 | lst ds=>
  have h:(if X9 d ds=true then some (Wa d ds)else none)=some b:=by cases d <;> exact h
  split at h
  ·rename_i ok;cases h;exact .inl ⟨ds,ok,.inl ry,rfl⟩
  ·cases h
 | tup ds=>
  have h:(if X9 d ds=true then some (Wa d ds)else none)=some b:=by cases d <;> exact h
  split at h
  ·rename_i ok;cases h;exact .inl ⟨ds,ok,.inr ry,rfl⟩
  ·cases h
 | dt kvs=>
  obtain⟨a,o,rfl,na,ha⟩:=jl.mp ry
  cases d with
  | tup ks=>
   have h:(XJ ks).map (λk=>(Yb kvs k).isSome)=some b:=h
   cases q:XJ ks with
   | none=>rw[q]at h;cases h
   | some k=>
    rw[q]at h;cases h;obtain⟨c,cs,rfl,nc,hcx,rc⟩:=jc.mp rx;have ec:=JR q rc;subst ec;exact .inr ⟨a,_,rfl,.inr ⟨kvs,k,c,.inr ⟨o,e1 _ _ na ha⟩,rfl,e1 _ _ nc hcx,rfl⟩,rfl⟩
  | _=>cases h
 | du kvs=>
  obtain⟨a,rfl,na,ha⟩:=jm.mp ry
  cases d with
  | tup ks=>
   have h:(XJ ks).map (λk=>(Yb kvs k).isSome)=some b:=h
   cases q:XJ ks with
   | none=>rw[q]at h;cases h
   | some k=>
    rw[q]at h;cases h;obtain⟨c,cs,rfl,nc,hcx,rc⟩:=jc.mp rx;have ec:=JR q rc;subst ec;exact .inr ⟨a,_,rfl,Vb.t (e1 _ _ na ha) (e1 _ _ nc hcx),rfl⟩
  | _=>cases h
 | dk kvs=>
  obtain⟨a,rfl,na,ha⟩:=jj.mp ry;have h:(Vq d).map (λk=>(Yb kvs k).isSome)=some b:=by cases d <;> exact h
  cases q:Vq d with
  | none=>rw[q]at h;cases h
  | some k=>
   rw[q]at h;cases h;have ek:=ZbF q rx;subst ek;exact .inr ⟨a,_,rfl,Vb.k (e1 _ _ na ha),rfl⟩
 | _=>cases d <;> cases h
theorem Zer (hu:X.A.units+64<cLine):Xq X G (xk .In) XF:=
 ⟨_,(Zng (G:=G) hu).or (Znh (by omega)),λHf H s x y d e c Q e1 st rx ry q k=>by
  unfold XF at q
  cases h:UL d e with
  | none=>rw[h]at q;cases q
  | some b=>
   rw[h]at q;cases q;have kk:=k (.bl b) Hf H (.refl e1) st (je.mpr rfl) (.scal λz=>z);rcases ZdR e1 rx ry h with⟨ds,ok,hl,rfl⟩ | ⟨a,o,ey,g,rfl⟩
   ·exact .inl ⟨Hf,d,ds,e1,ok,rx,hl,kk⟩
   ·exact .inr ⟨a,o,ey,g,kk⟩⟩
theorem ZdS (hu:X.A.units+64<cLine):Xq X G (xk .NotIn) VL:=
 ⟨_,(Zii (G:=G) hu).or (Zil (by omega)),λHf H s x y d e c Q e1 st rx ry q k=>by
  unfold VL at q
  cases h:UL d e with
  | none=>rw[h]at q;cases q
  | some b=>
   rw[h]at q;cases q;have kk:=k (.bl (!b)) Hf H (.refl e1) st (je.mpr rfl) (.scal λz=>z);rcases ZdR e1 rx ry h with⟨ds,ok,hl,rfl⟩ | ⟨a,o,ey,g,rfl⟩
   ·exact .inl ⟨Hf,d,ds,e1,ok,rx,hl,kk⟩
   ·exact .inr ⟨a,o,ey,g,kk⟩⟩
end
section
variable {X:Cx}{G:Gh}{own ob:List Nat}{fr:Bool}{f:Zb->M D}
noncomputable def Zlx (ta:TA):TE:=fun σ H Q=>ta σ H λvs H1=>∃j:Int,vs=[.int j]/\∀p,H1 p=none->Q (.ref p) (Zn H1 p (.rng 0 j))
theorem Zim {a:Expr}{ta:TA}{p pos:Pos}(hg:Gl X "range")(hm:X.mg "range" = none)(ha:PA X [a] ta)(hs:xh [a] X.env=[(false,eval a X.env)]:=by rfl):PE X (.Call (.Name "range" p) [a] [] pos) (Zlx ta):=by
 intro jC s σ H Q I h;refine Call_ (Jc I hg hm boot_range (y9 (ZK (ha pos jC s σ H _ I h) λus s1 ⟨vs,H1,I1,r1,q1⟩=>?_) hs rfl));obtain⟨j,e,q⟩:=q1;subst e
 cases r1 with
 | cons r rr=>
  cases rr
  obtain⟨t,rfl⟩:=r;refine call_range_1 ⟨.ref s1.heap.objs.size,Zn H1 s1.heap.objs.size (.rng 0 j),I1.laid (t':=s1.toks+1+1) (λb o e=>qf _ e) (qq _) ?_,rfl,q _ (I1.hok.fresh (qq _))⟩;exact⟨_,_,_,qD _ rfl⟩
theorem ZcN:∀(ys:List Value) (lo:Int),(∀(j:Nat) v,ys[j]?=some v->∃t,v=.int (lo+j) t)->ZB ((qk ys.length).map λ(i:Nat)=>V.int (lo+i)) ys
 | [],lo,_=>.nil
 | y::ys,lo,h=>by
  obtain⟨t,e⟩:=h 0 y rfl;rw[qO,y8,qX,qC];refine .cons ⟨t,by rw[e]⟩ ?_;have q:=ZcN ys (lo+1) λj v hv=>by
   obtain⟨t,e⟩:=h (j+1) v (by simpa using hv);exact⟨t,by rw[e];congr 1;push_cast;omega⟩
  have ee:((λ(i:Nat)=>V.int (lo+i))∘Nat.succ)=λ(i:Nat)=>V.int (lo+1+i):=by
   funext i;show V.int (lo+(Nat.succ i:Nat))=V.int (lo+1+i);congr 1;push_cast;omega
  rw[ee];exact q
theorem Zes (hc:X.calm=true):Y2 X (.type "list") (λxs H Q=>∃r j,xs=[.ref r]/\H r=some (.rng 0 j)/\-(2 ^ 62)<=j/\j<=2 ^ 24/\∀l,H l=none->Q (.ref l) (Zn H l (.lst ((qk j.toNat).map λ(i:Nat)=>V.int (0+i))))):=by
 intro jC s σ H xs us Q I r h;obtain⟨rr,j,rfl,hr,h1,h2,q⟩:=h;obtain⟨u,rfl,ru⟩:=Xu r
 cases (show u=qY rr from ru)
 obtain⟨t,u',v',hro⟩:=(show Yx X.prog X.w H s.heap rr (.rng 0 j)from I.hok rr _ hr);have hn:qca 0 j 1=((j.toNat:Nat):Int):=by rw[rangeSize_one];split <;> omega
 refine call_list_range (I.ok.hd hc) (show IsRange s.heap rr 0 j 1 t u' v' from hro) (small_one (by omega) (by omega) h1 (by omega)) hn (by omega) λh' tk acc' c' hk hS hacc=>?_;obtain⟨sz,hit⟩:=hacc;have rv:=ZcN acc'.toList 0 λi v hv=>by
  obtain⟨t,e⟩:=hit i v (by simpa using hv);exact⟨t,by rw[e];simp⟩
 have el:acc'.toList.length=j.toNat:=by simpa using sz
 rw[el]at rv;refine⟨.ref s.heap.objs.size,Zn H s.heap.objs.size (.lst ((qk j.toNat).map λ(i:Nat)=>V.int (0+i))),I.laid hk (qq _) ?_,rfl,q _ (I.hok.fresh (qq _))⟩;refine⟨?_,acc'.toList,c',rv,?_⟩
 ·rw[qd,qQ]
  show j.toNat<=2 ^ 24;omega
 ·rw[Array.toArray_toList]
  exact hS
noncomputable def Vz (f:Zb->M D):Zb->M D:=fun ρ=>Zo (f ρ) λd=>match d with | .int j=>if -(2 ^ 62)<=j/\j<=2 ^ 24 then Zy (.lst (ZY 0 j.toNat))else ZG | _=>ZG
theorem ZcO {Hf:Hp}(lo:Int):∀(l:List Nat),Zi G Hf (l.map λ(i:Nat)=>D.int (lo+i)) (l.map λ(i:Nat)=>V.int (lo+i))
 | []=>Zi.nil_iff.mpr rfl
 | i::l=>Zi.cons (ja.mpr rfl) (ZcO lo l)
theorem Zau {a:Expr}{p1 p2 pos1 pos:Pos}{r1:Bool}(hc:X.calm=true)(hg:Gl X "range")(hm:X.mg "range" = none)(hg2:Gl X "list")(hm2:X.mg "list" = none)(hv2:xj "list" = some (.type "list"))(ha:PD X G r1 a f)
  (hs:xh [a] X.env=[(false,eval a X.env)]:=by rfl)
  (he:xh [.Call (.Name "range" p1) [a] [] pos1] X.env=(false,eval (.Call (.Name "range" p1) [a] [] pos1) X.env)::xh [] X.env:=by rfl):PD X G true (.Call (.Name "list" p2) [.Call (.Name "range" p1) [a] [] pos1] [] pos) (Vz f):=by
 obtain⟨t,pa,qa⟩:=ha.drop;refine⟨_,ZaP (Zes hc) hg2 hm2 hv2 (Xb (Zim hg hm (Xb pa Xy (by rw[hs];rfl)) hs) Xy he) (by decide) (by decide) he rfl,fun σ Hf H ρ s d s' Q e1 e2 e3 e4 k=>?_⟩;obtain⟨dj,s1,a1,a2⟩:=ZF e4
 cases dj with
 | int j=>
  obtain⟨c,a3⟩:=Xf a2;obtain⟨rfl,rfl⟩:=ZQ a3;refine qa σ Hf H ρ s _ _ _ e1 e2 e3 a1 λv jQ H1 g st r=>?_;rw[ja.mp r];refine⟨j,rfl,λp hp=>⟨p,j,rfl,ZX,c.1,c.2,λl hl=>?_⟩⟩;have hlp:l≠p:=λz=>by rw[z,ZX]at hl;cases hl
  have hl1:H1 l=none:=by rw[Zx hlp]at hl;exact hl
  have jP:G.st s' (Zn H1 p (.rng 0 j)):=Gh.grow st hp;have nf:=Gh.nofp jP hl;have fp:jQ p=none:=by
   cases q:jQ p with
   | none=>rfl
   | some o=>rw[g.fh p o (Gh.nofp st hp) q]at hp;cases hp
  have gA:Gr G jQ H1 jQ (Zn H1 p (.rng 0 j)):=⟨λb o n q=>by rw[Zx (YD q hp)];exact q,.refl _ _,λb o n q=>by rw[Zx (YD q fp)];exact g.fh b o n q,λb n h1 h2=>h1⟩;have gB:=Gr.new (o:=.lst ((qk j.toNat).map λ(i:Nat)=>V.int (0+i))) gA.fh hl nf;have rr:Zi G jQ (ZY 0 j.toNat) ((qk j.toNat).map λ(i:Nat)=>V.int (0+i)):=ZcO 0 _;refine k (.ref l) _ _ ((g.trans gA).trans gB) (Gh.grow jP hl) (jb.mpr ⟨l,_,rfl,nf,ZX,rr.ext gB.ff⟩) λ_=>?_;exact jn (g.trans gA).hh (λa ea _=>by cases ea;exact nf) (Yj.mk gA.fh hl nf rr)
 | _=>cases a2
noncomputable def Jy (i:Nat)(f:Zb->M D):Zb->M Out:=fun ρ=>Zo (f ρ) λd=>match d,(ρ[i]?).bind id with
 | .lst es,some (.lst ds)=>if ds.length+es.length<=xg then Zy (.nx (ρ.set i (some (.lst (ds++es)))))else ZG
 | _,_=>ZG
theorem Zly {i:Nat}{te:TE}{r1:Bool}(hi:i∈own)(hy:Uc G own r1 te f):BS G ob own own fr (UB (UR X.K "list" Zcp (YB i) (UC te UH))) (Jy i f):=λkn jO H0 σ H ρ s out s' E ⟨Hf,j⟩ st e po=>by
 obtain⟨d,s1,a1,a2⟩:=ZF e
 match d,hb:(ρ[i]?).bind id,a2 with
 | .lst es,some (.lst ds),a2=>
  have a2':(if ds.length+es.length<=xg then Zy (.nx (ρ.set i (some (.lst (ds++es)))))else ZG) s1=some (out,s'):=a2;obtain⟨c2,a3⟩:=Xf a2';obtain⟨rfl,rfl⟩:=ZQ a3;have ei:=Zem hb;obtain⟨a,vs,h1,h2,h3,h4⟩:=Zcs j hi ei;refine⟨_,h1,.inl ⟨rfl,vs,ZE.of h3⟩,?_⟩;refine hy kn jO H0 σ Hf H ρ s _ s' _ j st a1 λv Hf' H' j' e1 e2 st' r fz=>?_;obtain⟨a',vs',h1',h2',h3',h4'⟩:=Zcs j' hi ei;rw[h1]at h1';cases h1';obtain⟨b,ws,rfl,nb,hb2,rb⟩:=jb.mp r;refine⟨a,b,vs',ws,rfl,rfl,h3',j'.gr.fh _ _ nb hb2,by rw[<-h4'.length,<-rb.length];exact c2,?_⟩;exact po σ _ ⟨Hf',j'.put hi ei h1 ⟨vs'++ws,ZX,h4'.append rb⟩⟩ (jy st' h2)
 | .lst _,none,a2=>cases a2
 | .lst _,some .non,a2=>cases a2
 | .lst _,some (.bl _),a2=>cases a2
 | .lst _,some (.int _),a2=>cases a2
 | .lst _,some (.str _),a2=>cases a2
 | .lst _,some (.tup _),a2=>cases a2
 | .lst _,some (.dk _),a2=>cases a2
 | .lst _,some (.dt _),a2=>cases a2
 | .lst _,some (.du _),a2=>cases a2
 | .lst _,some (.df _),a2=>cases a2
 | .lst _,some .pen,a2=>cases a2
 | .lst _,some (.ty _),a2=>cases a2
 | .lst _,some (.clo _ _),a2=>cases a2
theorem Zin {i:Nat}{x:Str}{e:Expr}{pos p1 p2 p3:Pos}{te:TE}(hv:PE X (.Name x p1) (YB i))(p:PE X e te)
  (hbase:xq (.Name x p1) "extend" X.env (eval (.Name x p1) X.env)=eval (.Name x p1) X.env:=by rfl)
  (hfew:((backTo p3 (xh [e] X.env)).all (λx=>!x.1)&&(xp p3 (xi [] X.env)).all (λx=>x.1.isSome)
   && decide ([e].length+([]:List Keyword).length+(if ([]:List Keyword).isEmpty then 0 else 1)<30))=true:=by rfl)
  (hline:(p2.endLine==p3.line)=true:=by rfl) (hs:xh [e] X.env=(false,eval e X.env)::xh [] X.env:=by rfl)
  (hsw:xr (.Call (.Attribute (.Name x p1) "extend" p2) [e] [] p3) none pos.line X.env=pure false:=by rfl) :
  PS X (.Expr (.Call (.Attribute (.Name x p1) "extend" p2) [e] [] p3) pos) (UB (UR X.K "list" Zcp (YB i) (UC te UH))):=
 Zhj (Zjm qbf PySem.F.slot_list_extend PySem.F.type_list_extend Zib hv (Xb p Xy hs) hbase hfew hline hs rfl) hsw
theorem ZjL {i:Nat}{e:Expr}{r1:Bool}{st:Stmt}(hi:i∈own)(he:PD X G r1 e f)(hp:∀te,PE X e te->PS X st (UB (UR X.K "list" Zcp (YB i) (UC te UH)))):YW X G ob own own fr st (Jy i (fun ρ=>f (Z2 own ρ))):=by
 obtain⟨t,p,q⟩:=he;exact⟨_,hp t p,Zly hi (Vh.a q)⟩
end
structure BlkS (X:Cx)(XN:List Str)(NS:List (Str×NameKind))(N':List Str)(src:List (Option Nat))(scope:Scope):Prop where
 xn:X.N=XN
 ns:X.env.scope.names=NS
 nocell:∀y∈scope.names,y.2≠.cell
 kind:scope.kind=.function
 names:∀y∈scope.names,y.2=.local->scope.names.lookup y.1=some .local
 len:src.length=N'.length
 free:∀y∈scope.names,y.2=.free->NS.lookup y.1=some .cell∨NS.lookup y.1=some .free
 from_:(src.zip N').all (λp=>match p.1 with | some j=>decide (XN[j]?=some p.2)&&(decide (NS.lookup p.2=some .cell)||decide (NS.lookup p.2=some .free))&&decide (scope.names.lookup p.2=some .free) | none=>true)=true
theorem Zag {env:Env}:∀{names:List (Str×NameKind)} {x:Str},names.lookup x=some .free->
  (names.map λ(n,k)=>if (k==zZ&&env.scope.kind == .function&&env.kindOf n==some .cell)then (n,qaW)else (n,k)).lookup x=some .cell∨
  (names.map λ(n,k)=>if (k==zZ&&env.scope.kind == .function&&env.kindOf n==some .cell)then (n,qaW)else (n,k)).lookup x=some .free
 | [],_,h=>by simp at h
 | (n,k)::r,x,h=>by
  have ih:=@Zag env r x;show qc0 x ((if (k==zZ&&env.scope.kind == .function&&env.kindOf n==some .cell)=true then (n,qaW)else (n,k))::_)=_∨qc0 x ((if (k==zZ&&env.scope.kind == .function&&env.kindOf n==some .cell)=true then (n,qaW)else (n,k))::_)=_
  cases hx:x==n with
  | true=>
   simp only[zw,hx]at h
   cases h
   by_cases hc:(zZ==zZ&&env.scope.kind == .function&&env.kindOf n==some .cell)=true
   ·rw[if_pos hc];left;simp[zw,hx]
   ·rw[if_neg hc];right;simp[zw,hx]
  | false=>
   simp only[zw,hx]at h;by_cases hc:(k==zZ&&env.scope.kind == .function&&env.kindOf n==some .cell)=true
   ·rw[if_pos hc];simp only[zw,hx];exact ih h
   ·rw[if_neg hc];simp only[zw,hx];exact ih h
theorem Zaa {env:Env}:∀{names:List (Str×NameKind)} {x:Str} {k':NameKind},(∀y∈names,y.2≠.cell)->(k'=.cell∨k'=.free)->
  (names.map λ(n,k)=>if (k==zZ&&env.scope.kind == .function&&env.kindOf n==some .cell)then (n,qaW)else (n,k)).lookup x=some k'->names.lookup x=some .free
 | [],_,_,_,_,h=>by simp at h
 | (n,k)::r,x,k',nc,hk,h=>by
  have ih:=@Zaa env r x k' (λy hy=>nc y (qT _ hy)) hk;have h:qc0 x ((if (k==zZ&&env.scope.kind == .function&&env.kindOf n==some .cell)=true then (n,qaW)else (n,k))::_)=_:=h
  cases hx:x==n with
  | true=>
   by_cases hc:(k==zZ&&env.scope.kind == .function&&env.kindOf n==some .cell)=true
   ·have:k=.free:=by
     simp only[zh,beq_iff_eq]at hc;exact hc.1.1
    subst this;simp[zw,hx]
   ·rw[if_neg hc]at h
    simp only[zw,hx]at h⊢
    cases h
    rcases hk with rfl | rfl
    ·exact absurd rfl (nc _ zG)
    ·rfl
  | false=>
   by_cases hc:(k==zZ&&env.scope.kind == .function&&env.kindOf n==some .cell)=true
   ·rw[if_pos hc]at h;simp only[zw,hx]at h⊢;exact ih h
   ·rw[if_neg hc]at h;simp only[zw,hx]at h⊢;exact ih h
theorem B2 {env:Env}:∀(names:List (Str×NameKind)) (acc:List (Str×Addr)),(∀y∈names,y.2=.free->∃c,env.cells.lookup y.1=some c)->
  (∀x c,acc.lookup x=some c->env.cells.lookup x=some c)->
  ∃cl,(forIn names acc λ(p:Str×NameKind) (cs:List (Str×Addr))=>(if (p.2==zZ)=true then do let a<-cellOf env p.1;pure (qai ((p.1,a)::cs))else pure (qai cs):Sem (ForInStep (List (Str×Addr)))))=pure cl/\
   (∀x c,cl.lookup x=some c->env.cells.lookup x=some c)/\(∀x c,acc.lookup x=some c->∃c',cl.lookup x=some c')/\∀y∈names,y.2=.free->∃c,cl.lookup y.1=some c
 | [],acc,_,h2=>⟨acc,by simp,h2,λx c h=>⟨c,h⟩,λy hy=>by simp at hy⟩
 | (n,k)::r,acc,h1,h2=>by
  by_cases hk:k=.free
  ·subst hk
   obtain⟨c,hc⟩:=h1 (n,.free) zG rfl;have hcell:cellOf env n=pure c:=by unfold cellOf;rw[hc]
   obtain⟨cl,q1,q2,q3,q4⟩:=B2 (env:=env) r ((n,c)::acc) (λy hy=>h1 y (qT _ hy)) λx c' h=>by
    cases hx:x==n with
    | true=>
     simp only[zw,hx]at h
     cases h
     have:x=n:=by simpa using hx
     rw[this];exact hc
    | false=>simp only[zw,hx]at h;exact h2 x c' h
   refine⟨cl,?_,q2,λx c' h=>?_,λy hy hf=>?_⟩
   ·rw[List.forIn_cons]
    simp only[beq_self_eq_true,if_true,hcell,pure_bind];exact q1
   ·cases hx:x==n with
    | true=>exact q3 x c (by simp[zw,hx])
    | false=>exact q3 x c' (by simp only[zw,hx];exact h)
   ·rcases qu.mp hy with e | hy
    ·subst e;exact q3 n c (by simp[zw])
    ·exact q4 y hy hf
  ·obtain⟨cl,q1,q2,q3,q4⟩:=B2 (env:=env) r acc (λy hy=>h1 y (qT _ hy)) h2
   refine⟨cl,?_,q2,q3,λy hy hf=>?_⟩
   ·rw[List.forIn_cons]
    have:(k==zZ)=false:=by simpa using hk
    simp only[this,qU,if_false,pure_bind];exact q1
   ·rcases qu.mp hy with e | hy
    ·subst e;exact absurd hf hk
    ·exact q4 y hy hf
theorem BlkS.ok {X:Cx}{XN:List Str}{NS:List (Str×NameKind)}{N':List Str}{src:List (Option Nat)}{scope:Scope}(B:BlkS X XN NS N' src scope)(ok:X.Ok):∃cl,BlkOk X N' src scope cl:=by
 have hcells:∀y∈scope.names,y.2=.free->∃c,X.env.cells.lookup y.1=some c:=λy hy hf=>ok.has y.1 (by
  have:=B.free y hy hf;rw[<-B.ns]at this;exact this)
 obtain⟨cl,q1,q2,q3,q4⟩:=B2 (env:=X.env) scope.names [] hcells (λx c h=>by simp at h);refine⟨cl,?_,B.nocell,B.kind,B.names,B.len,q2,λx hx=>?_,λi j x e1 e2=>?_⟩
 ·unfold closureFor
  show(forIn scope.names [] _ >>= _)=_;rw[show(forIn scope.names ([]:List (Str×Addr)) λ(x:Str×NameKind) (r:List (Str×Addr))=>_)=_ from q1];rfl
 ·have hf:scope.names.lookup x=some .free:=by
   rcases hx with h | h
   ·exact Zaa B.nocell (.inl rfl) h
   ·exact Zaa B.nocell (.inr rfl) h
  exact q4 (x,.free) (zR hf) rfl
 ·have hm:(some j,x)∈src.zip N':=by
   have:(src.zip N')[i]?=some (some j,x):=by
    rw[yp];exact⟨e1,e2⟩
   exact zt this
  have q:=yw.mp B.from_ _ hm;simp only[zh,Bool.or_eq_true,decide_eq_true_eq]at q;obtain⟨⟨p1,p2⟩,p3⟩:=q;refine⟨by rw[B.xn];exact p1,?_,Zag p3⟩;show X.env.scope.names.lookup x=_∨X.env.scope.names.lookup x=_;rw[B.ns];exact p2
section
variable {X:Cx}{G:Gh}{elt tg iter:Expr}{ifs:List Expr}{scope:Scope}{pos pos' spos:Pos}{XN:List Str}{NS:List (Str×NameKind)}{N':List Str}{src:List (Option Nat)}{fi:Zb->M (List D)}{τ:D->Zb->Option Zb}{ft:Zb->M Bool}{fe:Zb->M D}{r1:Bool}{i:Nat}{x:Str}
theorem ZjM (hc:X.calm=true)(B:BlkS X XN NS N' src scope)(hi:X3 X G tg iter fi)
  (hg:∀cl jC C s H fp,WC (YC X jC N' scope cl C s H fp) G tg (λi=>src[i]?=some none) τ) (ht:∀cl jC C s H fp,Vt (YC X jC N' scope cl C s H fp) ifs (UJ G ft)) (he:∀cl jC C s H fp,PD (YC X jC N' scope cl C s H fp) G r1 elt fe)
  (hs:∀x,foldedSetIterable iter X.env x=pure x:=by intro _;rfl):PD X G true (.ListComp elt [⟨tg,iter,ifs,0⟩] scope pos) (Z7 src fi τ ft fe):=by
 obtain⟨wi,pi,qi⟩:=hi;refine⟨_,λjC s σ H Q I h=>?_,Zfg (r1:=r1) qi⟩;obtain⟨cl,B'⟩:=B.ok I.ok;exact Zlo hc B' pi (λjC C s H fp=>(hg cl jC C s H fp).canon) (ht cl) (λjC C s H fp=>(he cl jC C s H fp).canon) hs jC s σ H Q I h
theorem UZ (hN:X.N.Nodup)(hi':X.N[i]?=some x)(hx:Vf X.env.scope x)
  (hc:X.calm=true) (B:BlkS X XN NS N' src scope) (hi:X3 X G tg iter fi)
  (hg:∀cl jC C s H fp,WC (YC X jC N' scope cl C s H fp) G tg (λi=>src[i]?=some none) τ) (ht:∀cl jC C s H fp,Vt (YC X jC N' scope cl C s H fp) ifs (UJ G ft)) (he:∀cl jC C s H fp,PD (YC X jC N' scope cl C s H fp) G r1 elt fe)
  (hsw:xr (.ListComp elt [⟨tg,iter,ifs,0⟩] scope pos) (some (.Name x pos')) spos.line X.env=pure true:=by rfl)
  (hs:∀x,foldedSetIterable iter X.env x=pure x:=by intro _;rfl)
  (hf:X.fn x=true∨X.env.scope.names.lookup x=some .local:=by first | exact .inl rfl | exact .inr rfl | assumption) :
  BJ X G true i (.Assign [.Name x pos'] (.ListComp elt [⟨tg,iter,ifs,0⟩] scope pos) spos) (Z7 src fi τ ft fe):=by
 obtain⟨wi,pi,qi⟩:=hi;refine⟨_,λjC s σ H D I h=>?_,Zfg (r1:=r1) qi⟩;obtain⟨cl,B'⟩:=B.ok I.ok;exact Zlp hN hi' hx hc B' pi (λjC C s H fp=>(hg cl jC C s H fp).canon) (ht cl) (λjC C s H fp=>(he cl jC C s H fp).canon) hsw hs hf jC s σ H D I h
end
noncomputable def ZP (P:xB)(w:World)(K:qm)(mg:Str->Option Value)(base:Heap)(k:Nat)(x:Str)(n:Nat)(fr:Bool)(GG:Gh->Prop)(F:List D->M D):Prop:=
 ∃f fd ps,FnOk P w K mg base ZW k f fd ps (Yu n fr GG F)/\mg x=some (.ref f)/\yL K (.ref f)=true/\Wi K fd ps []
theorem ZP.mono {P:xB}{w:World}{K:qm}{mg:Str->Option Value}{base:Heap}{j k:Nat}{x:Str}{n:Nat}{fr:Bool}{GG:Gh->Prop}{F:List D->M D}(c:ZP P w K mg base j x n fr GG F)(h:j<=k:=by decide):ZP P w K mg base k x n fr GG F:=
 let ⟨f,fd,ps,a,b,c,d⟩:=c
 ⟨f,fd,ps,a.mono h,b,c,d⟩
theorem ZjN {X:Cx}{G:Gh}{k:Nat}{x:Str}{n:Nat}{fr:Bool}{GG:Gh->Prop}{F:List D->M D}{p pos:Pos}{e:Expr}{es:List Expr}{fs:Zb->M (List D)}(c:ZP X.prog X.w X.K X.mg X.base k x n fr GG F)(hG:GG G)(hr:Room k X.A)(hg:Gl X x)
  (ha:WB X G (e::es) fs) (hal:∀ρ s ds s',fs ρ s=some (ds,s')->ds.length=(e::es).length) (jN:(e::es).length=n:=by rfl)
  (hdb:(x==("__debug__" : Str))=false:=by decide) (he:xh (e::es) X.env=(false,eval e X.env)::xh es X.env:=by rfl) (hpl:(backTo pos (xh es X.env)).any (·.1)=false:=by rfl) :
  PD X G fr (.Call (.Name x p) (e::es) [] pos) (Zs F fs):=by
 obtain⟨f,fd,ps,a,b,c,d⟩:=c;exact Zlq a hG hr hg b c d Zmu ha jN hal hdb he hpl
noncomputable def Vd (h base:Heap)(as:List Addr):Heap:=PySem.W.hideAll h ((qk h.objs.size).filter λa=>!((base.get? a).isSome||decide (a∈as)))
theorem Zio {h base:Heap}{as:List Addr}:(Vd h base as).objs.size=h.objs.size:=qcw _ _
theorem Zfl {h base:Heap}{as:List Addr}{b:Addr}{o:Obj}(e:h.get? b=some o)(n:(∃u,base.get? b=some u)∨b∈as):(Vd h base as).get? b=some o:=
 qcI _ e λhm=>by
  have q:=(qN.mp hm).2;rcases n with⟨u,n⟩ | n
  ·simp[n]at q
  ·simp[n]at q
theorem Zht {h base:Heap}{as:List Addr}{b:Addr}{o:Obj}(e:(Vd h base as).get? b=some o):h.get? b=some o/\((∃u,base.get? b=some u)∨b∈as):=by
 have e':h.get? b=some o:=PySem.W.of_hideAll _ e;refine⟨e',?_⟩;by_cases c:((base.get? b).isSome||decide (b∈as))=true
 ·rcases Bool.or_eq_true_iff.mp c with c | c
  ·exact .inl (qau.mp c)
  ·exact .inr (of_decide_eq_true c)
 ·have z:(Vd h base as).get? b=none:=qcx _ (qN.mpr ⟨qG.mpr (qK e'),by simpa using c⟩)
  rw[z]at e;cases e
theorem Env0.more {P:xB}{w:World}{K:qm}{mg:Str->Option Value}{base:Heap}{A:xC}{outer:List Env}{s:Shared}{H:Hp}{as:List Addr}(e:Env0 P w K mg base A outer s H)(ha:∀b∈as,H b=none)(hf:∀b∈as,b∉XT outer) :
  Env0 P w K mg (Vd s.heap base as) A outer s H:=by
 have up:∀b o,base.get? b=some o->(Vd s.heap base as).get? b=some o:=λb o q=>Zfl (e.bs b o q).1 (.inl ⟨o,q⟩);refine⟨e.frames,⟨e.mod.kin.keeps up,e.mod.glob.keeps up,let ⟨mb,h1,h2⟩:=e.mod.blt;⟨mb,h1.keeps up,h2⟩,e.mod.nolimit.keeps up⟩,λb o q=>?_,Nat.le_of_eq Zio,?_,e.frf,e.hok,e.bare⟩
 ·obtain⟨q1,q2⟩:=Zht q
  refine⟨q1,?_⟩;rcases q2 with⟨u,q2⟩ | q2
  ·exact(e.bs b u q2).2
  ·exact ha b q2
 ·have all:∀l:List Env,(∀b∈XT l,b∈XT outer)->s.heap.FunFrames base l->s.heap.FunFrames (Vd s.heap base as) l:=by
   intro l
   induction l with
   | nil=>intro _ _;trivial
   | cons env r ih=>
    intro hs hl;obtain⟨hk,⟨L,o,hf',hn,ho,hd⟩,hr⟩:=hl;have hL:L∈XT outer:=hs L (by unfold XT;rw[zD,hf'];exact zG);refine⟨hk,⟨L,o,hf',?_,ho,hd⟩,ih (λb hb=>hs b (by unfold XT;rw[zD,hf'];exact qT _ hb)) hr⟩
    cases q:(Vd s.heap base as).get? L with
    | none=>rfl
    | some u=>
     rcases (Zht q).2 with⟨u',q'⟩ | q'
     ·rw[hn]at q';cases q'
     ·exact absurd hL (hf L q')
  exact all outer (λ_ h=>h) e.funs
noncomputable def fnφ (p:Addr)(fd:xA):Heap->Prop:=λh=>∃oc od sl,h.get? p=some ⟨oc,od,.func fd,sl⟩
noncomputable def codeφ (c:Addr)(q:Str):Heap->Prop:=λh=>h.CodeRec (.ref c) q
theorem fnφ_at {P:xB}{w:World}{H:Hp}{h:Heap}{p:Addr}{fd:xA}(ok:Yo P w H h)(e:H p=some (.ext (fnφ p fd))):fnφ p fd h:=(ok p _ e).1
theorem codeφ_at {P:xB}{w:World}{H:Hp}{h:Heap}{c:Addr}{q:Str}(ok:Yo P w H h)(e:H c=some (.ext (codeφ c q))):h.CodeRec (.ref c) q:=(ok c _ e).1
structure CloScope (N ps:List Str)(sc:Scope):Prop where
 kind:sc.kind=.function
 co:sc.isCoroutine=false
 gen:sc.isGenerator=false
 nd:N.Nodup
 pre:N.take ps.length=ps
 par:∀x∈ps,sc.names.lookup x=some .local
 nocell:∀y∈sc.names,y.2≠.cell
noncomputable def BT (CX:XU)(P:xB)(w:World)(K:qm)(mg:Str->Option Value)(base:Heap)(N:List Str)(qual:Str)(scope:Scope)(f:Addr)(cd:Value)(cl:List (Str×Addr))(A:xC)(outer:List Env)(s:Shared)(H:Hp)(E:XK):Cx where
 prog:=P
 w:=w
 K:=K
 mg:=mg
 base:=base
 A:=A.deeper (qad qual scope s.heap.objs.size f cd cl)
 N:=N
 s₀:=s
 H₀:=H
 env:=qad qual scope s.heap.objs.size f cd cl
 outer:=outer
 stack:=qad qual scope s.heap.objs.size f cd cl::outer
 ex:=[]
 calm:=true
 fn:=λ_=>false
 pn:=[]
 xe:=λe s'=>xf (xz P w) (A.deeper (qad qual scope s.heap.objs.size f cd cl)) (leaving (qad qual scope s.heap.objs.size f cd cl) e) (λ_ s''=>CX outer H s E e s'') (λe' s''=>CX outer H s E e' s'') s'
structure CloAt (base:Heap)(cl:List (Str×Addr))(sc:Scope)(N ps:List Str)(cvs:List V):Prop where
 inj:∀x y c,cl.lookup x=some c->cl.lookup y=some c->x=y
 cell:∀x c,cl.lookup x=some c->∃v,base.IsCell c v
 has:∀x,sc.names.lookup x=some .free->∃c,cl.lookup x=some c
 cap:∀(i:Nat) (x:Str) (v:V),N[ps.length+i]?=some x->cvs[i]?=some v->sc.names.lookup x=some .free/\∃c u,cl.lookup x=some c/\base.IsCell c (some u)/\ZJ v u
 len:N.length=ps.length+cvs.length
theorem Zbf {α:Type}:∀{l:List (Str×α)} {x:Str} {u:α},(l.map (·.1)).Nodup->(x,u)∈l->l.lookup x=some u
 | [],_,_,_,h=>by simp at h
 | (y,w)::l,x,u,nd,h=>by
  rw[qX,zH]at nd;rcases qu.mp h with e | hm
  ·cases e;simp[zw]
  ·have hne:(x==y)=false:=by
    simp only[beq_eq_false_iff_ne];rintro rfl;exact nd.1 (qay (f:=(·.1)) hm)
   rw[zw,hne];exact Zbf nd.2 hm
theorem ZbY:∀(ps:List Str) (us:List Value),((ps.zip us).map (·.1)).Sublist ps
 | [],_=>by simp
 | _::_,[]=>by simp
 | p::ps,u::us=>by simpa using ZbY ps us
theorem ZcP {ps:List Str}{us:List Value}{i:Nat}{x:Str}{u:Value}(nd:ps.Nodup)(h1:ps[i]?=some x)(h2:us[i]?=some u):(ps.zip us).reverse.lookup x=some u:=by
 refine Zbf ?_ ?_
 ·rw[List.map_reverse]
  refine qct.mpr ?_;exact(nd.sublist (ZbY _ _)).imp zO
 ·rw[qaQ]
  exact zt (i:=i) (yp.mpr ⟨h1,h2⟩)
theorem Zlz {CX:XU}{P:xB}{w:World}{K:qm}{mg:Str->Option Value}{base:Heap}{N ps:List Str}{qual:Str}{scope:Scope}{f:Addr}{cd:Value}{cl:List (Str×Addr)}{A:xC}{outer:List Env}{s:Shared}{H:Hp}{E:XK}{us:List Value}{vs cvs:List V}{h':Heap}{tk:Nat}
  (S:CloScope N ps scope) (C:CloAt base cl scope N ps cvs) (hd:A.handled=none) (e0:Env0 P w K mg base A outer s H) (hl:vs.length=ps.length) (r:ZB vs us)
  (hns:h'.Ns s.heap.objs.size (λx=>(ps.zip us).reverse.lookup x)) (hk:∀b o,s.heap.get? b=some o->h'.get? b=some o) :
  Inv (BT CX P w K mg base N qual scope f cd cl A outer s H E) [] (vs.map some++cvs.map some) H { s with heap:=h',toks:=tk }:=by
 have noA:∀b:Addr,b∉(BT CX P w K mg base N qual scope f cd cl A outer s H E).ex:=λb z=>absurd (show b∈([]:List Addr)from z) (by simp);have up:∀b o,base.get? b=some o->h'.get? b=some o:=λb o q=>hk b o (e0.bs b o q).1;have cellAt:∀x c,cl.lookup x=some c->∃v,base.IsCell c v:=C.cell;refine⟨⟨e0.mod,S.kind,rfl,rfl,qq _,λy z c h1 h2=>C.inj y z c h1 h2,λy hy=>?_,λy c z _=>(by cases z),λ_=>hd,qcz e0.frames,.inr ⟨rfl,rfl⟩,λb z=>absurd z (noA b),e0.bs,e0.bsz,λb _ _=>noA b,λb z=>absurd z (noA b),e0.funs,e0.frf⟩,
  rfl,e0.bare,Un.kept hk,⟨_,hns,λi y v h1 h2 h3=>?_⟩,λy c h=>?_,e0.hok.fresh (qq _),λy c h=>?_,λp hp=>absurd (show p∈([]:Qb)from hp) (by simp),e0.hok.kept hk,?_⟩
 ·have hy:scope.names.lookup y=some .cell∨scope.names.lookup y=some .free:=hy
  rcases hy with hy | hy
  ·exact absurd rfl (S.nocell _ (zR hy))
  ·exact C.has y hy
 ·have h1:N[i]?=some y:=h1
  by_cases hi:i<vs.length
  ·have ha:vs[i]?=some v:=by
    rw[zC (by simpa using hi),qI]at h2
    cases e:vs[i]? with
    | none=>rw[e]at h2;cases h2
    | some a=>rw[e]at h2;cases h2;rfl
   obtain⟨u,hu,rv⟩:=r.get ha;have hp:ps[i]?=some y:=by
    rw[<-S.pre,zP (by omega)];exact h1
   have ndP:ps.Nodup:=by rw[<-S.pre];exact S.nd.sublist (zS _ _)
   exact⟨u,rv,.inl ⟨S.par y (zt hp),ZcP ndP hp hu⟩⟩
  ·rw[zU (by simpa using hi),qI,qd]at h2
   have hc:cvs[i-vs.length]?=some v:=by
    cases e:cvs[i-vs.length]? with
    | none=>rw[e]at h2;cases h2
    | some a=>rw[e]at h2;cases h2;rfl
   obtain⟨q1,c,u,q2,q3,q4⟩:=C.cap (i-vs.length) y v (by rw[show ps.length+(i-vs.length)=i by omega];exact h1) hc;exact⟨u,q4,.inr ⟨.inr q1,c,q2,q3.keeps up⟩⟩
 ·obtain⟨v,q⟩:=C.cell y c h
  exact⟨v,q.keeps up⟩
 ·obtain⟨v,o,q,_⟩:=C.cell y c h
  exact(e0.bs c o q).2
 ·show _=N.length
  rw[C.len];simp[hl]
theorem ZlA {CX:XU}{P:xB}{w:World}{K:qm}{mg:Str->Option Value}{base:Heap}{k:Nat}{f:Addr}{name qual:Str}{params:Arguments}{body:Expr}{scope:Scope}{cl:List (Str×Addr)}{pm ct:Value}{c':Addr}{N ps:List Str}{cvs:List V}{sp:Sp}
  (S:CloScope N ps scope) (C:CloAt base cl scope N ps cvs) (len:∀vs H Q E,sp vs H Q E->vs.length=ps.length)
  (at_:∀vs H Q E,sp vs H Q E->H f=some (.ext (fnφ f (yY name qual params body scope cl pm (.ref c') ct)))/\H c'=some (.ext (codeφ c' qual)))
  (hbody:∀(A:xC) (outer:List Env) (s:Shared) (H:Hp) (vs:List V) (Q:VK) (E:XK),Room k (A.deeper (qad qual scope s.heap.objs.size f (.ref c') cl))->sp vs H Q E->
   ∃t,PE (BT CX P w K mg base N qual scope f (.ref c') cl A outer s H E) body t/\t (vs.map some++cvs.map some) H Q) :
  FnOk P w K mg base CX (k+1) f (yY name qual params body scope cl pm (.ref c') ct) ps sp:=by
 refine⟨len,λA outer s H args us vs Q E hr e0 hb r hsp=>?_⟩;have hl:=len _ _ _ _ hsp;obtain⟨a1,a2⟩:=at_ _ _ _ _ hsp;obtain⟨oc,od,sl,ho⟩:=fnφ_at e0.hok a1;have lim:s.heap.NoLimit:=e0.mod.nolimit.keeps λb o e=>(e0.bs b o e).1;have hkind:∀y∈ps.zip us,scope.names.lookup y.1=some .local:=λ⟨n,v⟩ hy=>S.par n (qaE hy).1;refine PySem.W.kla_callFunE hr.depth ho rfl S.co S.gen rfl (codeφ_at e0.hok a2) (hb _ _ _ _ ?_);refine wpAny_newFunctionEnv S.nocell hkind (λh' hns hsb=>?_) S.kind;have hk:∀b o,s.heap.get? b=some o->h'.get? b=some o:=λb o e=>hsb.extBut b o (qS (qK e)) (qf _ e);refine⟨lim.keeps hk,?_⟩;show xo _ _ (.expr body (qad qual scope s.heap.objs.size f (.ref c') cl)) _ _;obtain⟨t,ht,hq⟩:=hbody A outer s H vs Q E (hr.deeper _) hsp;refine PySem.W.kla_codeExpr (xc (ht [] _ _ H Q (Zlz S C hr.hd e0 hl r hns hk) hq) (λu s' hs=>?_) λe s' hs=>hs);obtain⟨v,H',J,rv,q⟩:=hs;exact⟨v,H',J.os,J.bare,J.base,J.hok,rv,q⟩
structure Mk0 (X:Cx)(c P:Addr):Prop where
 code:X.env.code=.ref c
 hd:yZ X.base c P
 bm:∃bm o,X.mg "__builtins__" = some (.ref bm)/\bm≠builtinsNs/\bm≠mainGlobals/\X.base.get? bm=some o/\o.cls=.type "module"/\o.dict=some builtinsNs/\o.data=.plain
noncomputable def Slot (P:Addr)(q:Str)(lpos:Pos)(ps:Array Value)(H Hm:Hp)(c':Addr):Prop:=
 (Hm=H/\codeAmong lpos ps.toList=some (.ref c')/\H c'=some (.ext (codeφ c' q)))∨(codeAmong lpos ps.toList=none/\H c'=none/\c'≠P/\Hm=Zn (Zn H P (.tbl (ps ++ #[rawInt lpos.line,rawInt lpos.col,.ref c']))) c' (.ext (codeφ c' q)))
noncomputable def Zol (P:Addr)(q:Str)(lpos:Pos)(isFd:xA->Addr->Prop)(H:Hp)(R:Addr->Addr->xA->Hp->Prop):Prop:=
 ∃ps,H P=some (.tbl ps)/\TriplesOk ps.toList/\(∀cv,codeAmong lpos ps.toList=some cv->∃c',cv=.ref c'/\H c'=some (.ext (codeφ c' q)))/\
  ∀p c' fd Hm,isFd fd c'->Slot P q lpos ps H Hm c'->Hm p=none->R p c' fd (Zn Hm p (.ext (fnφ p fd)))
section
variable {X:Cx}{jC:Qb}{σ:St}{H:Hp}{s:Shared}{c P:Addr}{ps:Array Value}
theorem Mk0.bat (M:Mk0 X c P)(I:Inv X jC σ H s)(hP:H P=some (.tbl ps)):s.heap.BuiltinsAt X.mg P:=by
 obtain⟨bm,o,e1,e2,e3,e4,e5⟩:=M.bm;refine⟨bm,o,e1,e2,e3,λz=>?_,I.bk _ _ e4,e5⟩;have:=(I.bs _ _ e4).2;rw[z,hP]at this;cases this
theorem gne (I:Inv X jC σ H s)(hP:H P=some (.tbl ps)):mainGlobals≠P:=λz=>by
 obtain⟨o,es,ep,e,_⟩:=I.mod.glob;have:=(I.bs _ _ e).2;rw[z,hP]at this;cases this
theorem Zgy {P0:xB}{w:World}{H':Hp}{h:Heap}{a:Addr}{φ:Heap->Prop}(h1:φ h)(h2:∃o,h.get? a=some o)(h3:∀h1 h2:Heap,φ h1->(∀o,h1.get? a=some o->h2.get? a=some o)->φ h2):Yx P0 w H' h a (.ext φ):=⟨h1,h2,h3⟩
theorem fnφ_keep {p:Addr}{fd:xA}:∀h1 h2:Heap,fnφ p fd h1->(∀o,h1.get? p=some o->h2.get? p=some o)->fnφ p fd h2:=λh1 h2 ⟨oc,od,sl,e⟩ k=>⟨oc,od,sl,k _ e⟩
theorem codeφ_keep {p:Addr}{q:Str}:∀h1 h2:Heap,codeφ p q h1->(∀o,h1.get? p=some o->h2.get? p=some o)->codeφ p q h2:=λh1 h2 ⟨a,o,vs,t,e,e1,r⟩ k=>by
 cases e
 exact⟨p,o,vs,t,rfl,k _ e1,r⟩
theorem codeφ_there {p:Addr}{q:Str}{h:Heap}(x:codeφ p q h):∃o,h.get? p=some o:=by
 obtain⟨a,o,vs,t,e,e1,r⟩:=x
 cases e
 exact⟨o,e1⟩
theorem ZlB {h':Heap}{tk:Nat}{c':Addr}{more:Array Value}{q:Str}(I:Inv X jC σ H s)(hP:H P=some (.tbl ps))(hx:qbm P s.heap h')(hge:s.heap.objs.size<=c')(hc:h'.CodeRec (.ref c') q)(ht:h'.get? P=some (qbb (ps++more))) :
  Inv X jC σ (Zn (Zn H P (.tbl (ps++more))) c' (.ext (codeφ c' q))) { s with heap:=h',toks:=tk }/\H c'=none/\c'≠P:=by
 have hc0:H c'=none:=I.hok.fresh hge;have hcP:c'≠P:=λz=>by rw[z,hP]at hc0;cases hc0
 have old:∀{b:Addr} {u:HO},H b=some u->b≠c':=λe z=>by rw[z,hc0]at e;cases e
 have get:∀{b:Addr} {u:HO},H b=some u->b≠P->Zn (Zn H P (.tbl (ps++more))) c' (.ext (codeφ c' q)) b=some u:=λ{b u} e n=>by rw[Zx (old e),Zx n];exact e
 refine⟨I.call (g':=s.gens) (d':=s.drawn) (ch:=[]) ?_ ?_ I.bare (λb hb=>absurd hb (by simp)),hc0,hcP⟩
 ·refine⟨λb o e n _ _=>hx b o (λz=>by rw[z,hP]at n;cases n) e,λb o e n _ _=>⟨o.slots,hx b o (λz=>by rw[z,hP]at n;cases n) e⟩,λb o e n _=>?_,λb o e _=>?_,λb xs e=>get e (λz=>by rw[z,hP]at e;cases e),λb o u e=>get e (λz=>by rw[z,hP]at e;cases e),λb ps' e=>?_⟩
  ·rw[Zx (qS (zg (qK e) hge)),Zx (λz=>by rw[z,hP]at n;cases n)];exact n
  ·by_cases hb:b=P
   ·exact⟨_,hb▸ht⟩
   ·exact⟨o,hx b o hb e⟩
  ·by_cases hb:b=P
   ·subst hb
    rw[hP]at e;cases e;exact⟨more,by rw[Zx (old hP),ZX]⟩
   ·exact⟨#[],by rw[get e hb];simp⟩
 ·intro a o e
  by_cases ha:a=c'
  ·subst ha
   rw[ZX]at e;cases e;exact Zgy hc (codeφ_there hc) codeφ_keep
  ·rw[Zx ha]at e
   by_cases hb:a=P
   ·subst hb
    rw[ZX]at e;cases e;exact ht
   ·rw[Zx hb]at e
    refine(I.hok a o e).stay (λb u hb' r=>hx b u ?_ r) (λb r=>get r (λz=>by rw[z,hP]at r;cases r)) λb xs r=>get r (λz=>by rw[z,hP]at r;cases r);rcases hb' with rfl | hb'
    ·exact hb
    ·intro z;rw[z,hP]at hb';cases hb'
structure CloOf (X:Cx)(scope:Scope)(cl:List (Str×Addr)):Prop where
 of:∀x c,cl.lookup x=some c->X.env.cells.lookup x=some c
 has:∀y∈scope.names,y.2=.free->∃c,cl.lookup y.1=some c
theorem ZlC {scope:Scope}(ok:X.Ok)(hfree:∀y∈scope.names,y.2=.free->X.env.kindOf y.1=some .cell∨X.env.kindOf y.1=some .free):∃cl,closureFor scope X.env=pure cl/\CloOf X scope cl:=by
 obtain⟨cl,q1,q2,q3,q4⟩:=B2 (env:=X.env) scope.names [] (λy hy hf=>ok.has y.1 (hfree y hy hf)) (λx c h=>by simp at h);refine⟨cl,?_,q2,q4⟩;unfold closureFor;show(forIn scope.names [] _ >>= _)=_;rw[show(forIn scope.names ([]:List (Str×Addr)) λ(x:Str×NameKind) (r:List (Str×Addr))=>_)=_ from q1];rfl
theorem Zni {params:Arguments}{body:Expr}{scope:Scope}{lpos:Pos}{q:Str}(M:Mk0 X c P)(hq:X.env.qual ++ "<lambda>" = q)(hfree:∀y∈scope.names,y.2=.free->X.env.kindOf y.1=some .cell∨X.env.kindOf y.1=some .free)(hdef:defaultsOf params X.env=([],[]):=by rfl) :
  PE X (.Lambda params body scope lpos) (fun σ H Q=>Zol P q lpos (λfd c'=>∃cl pm ctv,CloOf X scope cl/\fd=yY "<lambda>" q params body scope cl pm (.ref c') ctv) H λp _ _ H'=>Q (.ref p) H'):=by
 intro jC s σ H Q I ⟨ps,hP,ht,hhit,h⟩;obtain⟨cl,hcl,co⟩:=ZlC I.ok hfree;have hP':s.heap.get? P=some (qbb ps):=I.hok P _ hP;have hg:s.heap.Ns mainGlobals X.mg:=I.mod.glob.keeps I.bk;have hb:=M.bat I hP;refine PySem.W.kla_eval hdef ?_;rw[hq]
 cases hc:codeAmong lpos ps.toList with
 | some cv=>
  obtain⟨c',rfl,hc'⟩:=hhit cv hc;refine PySem.W.kla_makeFunctionHit hcl I.ok.glob hg M.code (M.hd.keeps I.bk) hP' ht hc hb λctv h' tk hk hsz=>?_;refine⟨.ref h'.objs.size,Zn H h'.objs.size (.ext (fnφ _ _)),I.laid (t':=tk) (λb u e=>qf _ (hk b u e)) hsz (Zgy ⟨_,_,_,qD _ rfl⟩ ⟨_,qD _ rfl⟩ fnφ_keep),rfl,h _ c' _ H ⟨cl,_,_,co,rfl⟩ (.inl ⟨rfl,hc,hc'⟩) (I.hok.fresh hsz)⟩
 | none=>
  refine PySem.W.kla_makeFunction hcl I.ok.glob hg M.code (M.hd.keeps I.bk) hP' ht hc (gne I hP) hb λc' ctv h' tk hx hge hlt hrec htb=>?_;obtain⟨I1,hc0,hcP⟩:=ZlB (tk:=tk) I hP hx hge hrec htb;refine⟨.ref h'.objs.size,Zn _ h'.objs.size (.ext (fnφ _ _)),I1.laid (t':=tk) (λb u e=>qf _ e) (qq _) (Zgy ⟨_,_,_,qD _ rfl⟩ ⟨_,qD _ rfl⟩ fnφ_keep),rfl,h _ c' _ _ ⟨cl,_,_,co,rfl⟩ (.inr ⟨hc,hc0,hcP,rfl⟩) (I1.hok.fresh (qq _))⟩
end
structure Cells (X:Cx)(σ:St)(base':Heap):Prop where
 inj:∀x y c,X.env.cells.lookup x=some c->X.env.cells.lookup y=some c->x=y
 cell:∀x c,X.env.cells.lookup x=some c->∃v,base'.IsCell c v
 has:∀x,(X.env.kindOf x=some .cell∨X.env.kindOf x=some .free)->∃c,X.env.cells.lookup x=some c
 val:∀(i:Nat) (x:Str) (v:V),X.N[i]?=some x->σ[i]?=some (some v)->X.env.kindOf x=some .cell->∃c u,X.env.cells.lookup x=some c/\base'.IsCell c (some u)/\ZJ v u
section
variable {X:Cx}{jC:Qb}{σ:St}{H:Hp}{s:Shared}
noncomputable def Bw (X:Cx):List Addr:=X.env.cells.filterMap λp=>X.env.cells.lookup p.1
theorem Zip {x:Str}{c:Addr}(e:X.env.cells.lookup x=some c):c∈Bw X:=qaD.mpr ⟨(x,c),zR e,e⟩
theorem Zfm {c:Addr}(h:c∈Bw X):∃x,X.env.cells.lookup x=some c:=by
 obtain⟨p,_,e⟩:=qaD.mp h;exact⟨p.1,e⟩
theorem Ziq (I:Inv X jC σ H s)(hfn:∀x,X.fn x=true):Env0 X.prog X.w X.K X.mg (Vd s.heap X.base (Bw X)) X.A X.stack s H/\Cells X σ (Vd s.heap X.base (Bw X)):=by
 have cellK:∀x c v,X.env.cells.lookup x=some c->s.heap.IsCell c v->(Vd s.heap X.base (Bw X)).IsCell c v:=λx c v e ⟨o,ho,hd⟩=>⟨o,Zfl ho (.inr (Zip e)),hd⟩;refine⟨Env0.more I.env0 (λb hb=>?_) λb hb hf=>?_,⟨I.ok.inj,λx c e=>?_,I.ok.has,λi x v h1 h2 h3=>?_⟩⟩
 ·obtain⟨x,e⟩:=Zfm hb
  exact I.freeC x b e
 ·obtain⟨x,e⟩:=Zfm hb
  rcases qu.mp (I.stkSub b hf)with z | z
  ·exact I.cne x b e z
  ·obtain⟨_,o,ho,_⟩:=I.ok.funs.mem z
   exact absurd (zg (qK ho) (I.ok.cab x b (hfn x) e)) (yB _)
 ·obtain⟨v,q⟩:=I.cell x c e
  exact⟨v,cellK x c v e q⟩
 ·obtain⟨m,_,hl⟩:=I.loc
  obtain⟨u,r,l⟩:=hl i x v h1 h2 (.inr (.inl h3));rcases l with⟨hk,_⟩ | ⟨_,c,hc,hcell⟩
  ·rw[h3]at hk;cases hk
  ·exact⟨c,u,hc,cellK x c _ hc hcell,r⟩
theorem ZjO {x:Str}{p pos:Pos}{e:Expr}{es:List Expr}{t:TA}{k:Nat}{f:Addr}{fd:xA}{ps:List Str}{sp:Heap->Sp}(F:∀base,FnOk X.prog X.w X.K X.mg base ZW k f fd ps (sp base))(hfn:∀x,X.fn x=true)(hr:Room k X.A)(hg:Gl X x)(hm:X.mg x=some (.ref f))(hk:yL X.K (.ref f)=true)(hb:Wi X.K fd ps [])
  (ha:PA X (e::es) t) (hdb:(x==("__debug__" : Str))=false:=by decide) (he:xh (e::es) X.env=(false,eval e X.env)::xh es X.env:=by rfl) (hpl:(backTo pos (xh es X.env)).any (·.1)=false:=by rfl) :
  PE X (.Call (.Name x p) (e::es) [] pos) (fun σ H Q=>t σ H λvs H1=>∀base',Cells X σ base'->sp base' vs H1 Q E0):=by
 intro jC s σ H Q I h;refine wpAny_Call_Name_kw (Zhi I hg hm ?_ hdb);refine PySem.W.callWith_K (h₀:=X.base) I.ok.mod.kin hk (ZK (ha pos jC s σ H _ I h) λus s1 ⟨vs,H1,I1,r,q⟩=>⟨I1.kIn,?_⟩) he hpl;obtain⟨e0,cs⟩:=Ziq I1 hfn;have q':=q _ cs;have hl:(us ++ []).length=ps.length:=by rw[zr,<-r.length];exact(F _).len _ _ _ _ q'
 refine xy (codeAny_mono ((F _).run X.A X.stack s1 H1 ⟨us,[]⟩ us vs Q E0 hr e0 (by have:=hb s1 us I1.kIn hl;rw[zr]at this;exact this) r q') λr s' hq=>?_)
 cases r with
 | error e=>exact hq.elim
 | ok fl=>
  cases fl with
  | ret u=>exact I1.after hq
  | next=>exact yC hq
  | brk=>exact yC hq
  | cont=>exact yC hq
theorem ZjP {x:Str}{p pos:Pos}{e:Expr}{es:List Expr}{t:TA}{k i:Nat}(hf:PE X (.Name x p) (YB i))(hr:Room k X.A)(ha:PA X (e::es) t)
  (he:xh (e::es) X.env=(false,eval e X.env)::xh es X.env:=by rfl) (hpl:(backTo pos (xh es X.env)).any (·.1)=false:=by rfl) :
  PE X (.Call (.Name x p) (e::es) [] pos) (fun σ H Q=>∃f fd ps sp,σ[i]?=some (some (.ref f))/\Wi X.K fd ps []/\FnOk X.prog X.w X.K X.mg X.base ZW k f fd ps sp/\(∀h:Heap,Yo X.prog X.w H h->X.K.In h->fnφ f fd h)/\
   t σ H λvs H1=>(∀h:Heap,Yo X.prog X.w H1 h->X.K.In h->fnφ f fd h)/\sp vs H1 Q E0):=by
 intro jC s σ H Q I ⟨f,fd,ps,sp,e,hb,F,h0,h⟩;refine wpAny_Call_Name_kw (ZK (hf jC s σ H (λv H'=>v=.ref f/\H'=H) I ⟨_,e,rfl,rfl⟩) λu s1 ⟨v,H1,I1,rv,ev,eH⟩=>?_);subst ev eH
 cases (show u=qY f from rv)
 have at1:∀{jC σ H s},Inv X jC σ H s->(∀h:Heap,Yo X.prog X.w H h->X.K.In h->fnφ f fd h)->PySem.W.FnAt f s.heap:=λI z=>by
  obtain⟨oc,od,sl,q⟩:=z _ I.hok I.kIn;exact⟨oc,od,fd,sl,q⟩
 refine PySem.W.callWith_F (at1 I1 h0) (ZK (ha pos jC s1 σ _ _ I1 h) λus s2 ⟨vs,H2,I2,r,h2,q⟩=>⟨at1 I2 h2,?_⟩) he hpl;exact Zjh F hr hb .nil Zmu I2 r (by rw[zr];exact q)
end
mutual
noncomputable def YI:D->Bool
 | .tup ds=>Xn ds
 | .lst ds=>Xn ds
 | .clo _ _=>false
 | _=>true
noncomputable def Xn:List D->Bool
 | []=>true
 | d::ds=>YI d&&Xn ds
end
mutual
theorem Zj.re {G G':Gh}{H:Hp}(hf:G'.fp=G.fp)(hp:G'.pen=G.pen):∀{d:D} {v:V},YI d=true->Zj G H d v->Zj G' H d v
 | .non,_,_,h=>jh.mpr (jh.mp h)
 | .bl _,_,_,h=>je.mpr (je.mp h)
 | .int _,_,_,h=>ja.mpr (ja.mp h)
 | .str _,_,_,h=>ji.mpr (ji.mp h)
 | .tup ds,v,n,h=>by
  obtain⟨a,vs,e1,nf,e2,r⟩:=jc.mp h;exact jc.mpr ⟨a,vs,e1,by rw[hf];exact nf,e2,Zi.re hf hp (by simpa[YI]using n) r⟩
 | .lst ds,v,n,h=>by
  obtain⟨a,vs,e1,nf,e2,r⟩:=jb.mp h;exact jb.mpr ⟨a,vs,e1,by rw[hf];exact nf,e2,Zi.re hf hp (by simpa[YI]using n) r⟩
 | .dk _,_,_,h=>by
  obtain⟨a,e1,nf,e2⟩:=jj.mp h;exact jj.mpr ⟨a,e1,by rw[hf];exact nf,e2⟩
 | .dt _,_,_,h=>by
  obtain⟨a,o,e1,nf,e2⟩:=jl.mp h;exact jl.mpr ⟨a,o,e1,by rw[hf];exact nf,e2⟩
 | .du _,_,_,h=>by
  obtain⟨a,e1,nf,e2⟩:=jm.mp h;exact jm.mpr ⟨a,e1,by rw[hf];exact nf,e2⟩
 | .df _,_,_,h=>by
  obtain⟨a,o,e1,nf,e2⟩:=jt.mp h;exact jt.mpr ⟨a,o,e1,by rw[hf];exact nf,e2⟩
 | .pen,_,_,h=>jp.mpr ((jp.mp h).trans hp.symm)
 | .ty _,_,_,h=>jq.mpr (jq.mp h)
 | .clo _ _,_,n,_=>by simp[YI]at n
theorem Zi.re {G G':Gh}{H:Hp}(hf:G'.fp=G.fp)(hp:G'.pen=G.pen):∀{ds:List D} {vs:List V},Xn ds=true->Zi G H ds vs->Zi G' H ds vs
 | [],_,_,h=>Zi.nil_iff.mpr (Zi.nil_iff.mp h)
 | d::ds,vs,n,h=>by
  obtain⟨v,r,e,h1,h2⟩:=jd.mp h;have n':YI d=true/\Xn ds=true:=by simpa[Xn]using n
  exact jd.mpr ⟨v,r,e,Zj.re hf hp n'.1 h1,Zi.re hf hp n'.2 h2⟩
end
theorem Gr.re {G G':Gh}{Hf H Hf' H':Hp}(hf:G'.fp=G.fp)(g:Gr G Hf H Hf' H'):Gr G' Hf H Hf' H':=
 ⟨λb o n=>g.hh b o (by rw[<-hf];exact n),λb o n=>g.ff b o (by rw[<-hf];exact n),λb o n=>g.fh b o (by rw[<-hf];exact n),λb n=>g.nw b (by rw[<-hf];exact n)⟩
theorem ZA.re {G G':Gh}{H H':Hp}(hf:G'.fp=G.fp)(g:ZA G H H'):ZA G' H H':=λb o n=>g b o (by rw[<-hf];exact n)
theorem Yj.re {G G':Gh}{H Hf':Hp}{d:D}{v:V}(hf:G'.fp=G.fp)(hp:G'.pen=G.pen)(n:YI d=true)(h:Yj G H Hf' d v):Yj G' H Hf' d v:=λa e m=>by
 obtain⟨h1,h2⟩:=h a e m;refine⟨h1,λds ed=>?_⟩;obtain⟨vs,Hm,q1,q2,q3,q4⟩:=h2 ds ed;subst ed;exact⟨vs,Hm,q1,q2,q3.re hf,q4.re hf hp (by simpa[YI]using n)⟩
noncomputable def spK (n:Nat)(G:Gh)(cvs:List V)(F:List D->M D):Sp:=λus H Q _=>∃(Hf:Hp) (ds cds:List D) (s:Pn) (d:D) (s':Pn),us.length=n/\ZA G Hf H/\Zi G Hf ds us/\Zi G Hf cds cvs/\G.st s H/\F (ds++cds) s=some (d,s')/\
 ∀v Hf' H',Gr G Hf H Hf' H'->G.st s' H'->Zj G Hf' d v->Q v H'
noncomputable def Jz (P:xB)(w:World)(K:qm)(mg:Str->Option Value)(k n:Nat)(T:Nat->List D->M D)(base:Heap)(G:Gh):Prop:=
 ∀t v cvs,G.clo t v cvs->∃f fd ps,v=.ref f/\ps.length=n/\Wi K fd ps []/\(∀s H,G.st s H->∀h:Heap,Yo P w H h->K.In h->fnφ f fd h)/\FnOk P w K mg base ZW k f fd ps (spK n G cvs (T t))
noncomputable def BL (T:Nat->List D->M D)(i:Nat)(fs:Zb->M (List D)):Zb->M D:=fun ρ=>Zo (Za i ρ) λc=>Zo (fs ρ) λds=>match c with | .clo t cds=>T t (ds++cds) | _=>ZG
theorem Zir {i:Nat}{ρ:Zb}{s s':Pn}{d:D}(h:Za i ρ s=some (d,s')):ρ[i]?=some (some d)/\s'=s:=by
 obtain⟨e,rfl⟩:=WZ h;refine⟨?_,rfl⟩
 cases q:ρ[i]? with
 | none=>rw[q]at e;cases e
 | some o=>rw[q]at e;simp at e;rw[e]
section
variable {X:Cx}{G:Gh}
theorem ZjQ {T:Nat->List D->M D}{k n i:Nat}{x:Str}{p pos:Pos}{e:Expr}{es:List Expr}{fs:Zb->M (List D)}(hG:Jz X.prog X.w X.K X.mg k n T X.base G)(hr:Room k X.A)(hf:PE X (.Name x p) (YB i))(ha:WB X G (e::es) fs)
  (hal:∀ρ s ds s',fs ρ s=some (ds,s')->ds.length=(e::es).length) (jN:(e::es).length=n:=by rfl)
  (he:xh (e::es) X.env=(false,eval e X.env)::xh es X.env:=by rfl) (hpl:(backTo pos (xh es X.env)).any (·.1)=false:=by rfl) :
  PD X G false (.Call (.Name x p) (e::es) [] pos) (BL T i fs):=by
 obtain⟨t,pa,qa⟩:=ha;refine⟨_,ZjP hf hr pa he hpl,fun σ Hf H ρ s d s' Q e1 e2 e3 e4 k=>?_⟩;obtain⟨c,s0,b0,b1⟩:=ZF e4;obtain⟨a0,rfl⟩:=Zir b0;obtain⟨ds,s1,a1,a2⟩:=ZF b1
 cases c with
 | clo t cds=>
  obtain⟨v,hσ,r⟩:=e2 i _ a0;obtain⟨cvs,hc,rc⟩:=jw.mp r;obtain⟨f,fd,ps,rfl,hl,hb,hat,F⟩:=hG t v cvs hc;refine⟨f,fd,ps,_,hσ,hb,F,hat _ H e3,qa σ Hf H ρ _ ds s1 _ e1 e2 e3 a1 λvs jQ H1 g1 jT r1=>⟨hat _ H1 jT,jQ,ds,cds,s1,d,s',?_,g1.fh,r1,rc.ext g1.ff,jT,a2,λv jZ H2 g2 jP r2=>k v jZ H2 (g1.trans g2) jP r2 (λz=>by cases z)⟩⟩;rw[<-r1.length,hal _ _ _ _ a1];exact jN
 | _=>cases a2
end
noncomputable def VS (n:Nat)(f:Zb->M D):List D->M D:=λds=>if ds.length=n then f (ds.map some)else ZG
theorem ZlD {G:Gh}{Hf:Hp}{ds:List D}{vs:List V}(r:Zi G Hf ds vs):YK G Hf (vs.map some) (ds.map some):=λi d e=>by
 rw[qI]at e
 cases q:ds[i]? with
 | none=>rw[q]at e;cases e
 | some d'=>
  rw[q]at e;cases e;obtain⟨v,h1,h2⟩:=r.get q;exact⟨v,by rw[qI,h1];rfl,h2⟩
theorem fnKE {P:xB}{w:World}{K:qm}{mg:Str->Option Value}{base:Heap}{k:Nat}{f:Addr}{name qual:Str}{params:Arguments}{body:Expr}{scope:Scope}{cl:List (Str×Addr)}{pm ct:Value}{c':Addr}{N ps:List Str}{cvs:List V}{G:Gh}{fr:Bool}{fe:Zb->M D}
  (S:CloScope N ps scope) (C:CloAt base cl scope N ps cvs) (hG:∀s H,G.st s H->H f=some (.ext (fnφ f (yY name qual params body scope cl pm (.ref c') ct)))/\H c'=some (.ext (codeφ c' qual)))
  (hb:∀(A:xC) (outer:List Env) (s:Shared) (H:Hp) (E:XK),Room k (A.deeper (qad qual scope s.heap.objs.size f (.ref c') cl))->PD (BT ZW P w K mg base N qual scope f (.ref c') cl A outer s H E).nox G fr body fe) :
  FnOk P w K mg base ZW (k+1) f (yY name qual params body scope cl pm (.ref c') ct) ps (spK ps.length G cvs (VS N.length fe)):=by
 refine ZlA (cvs:=cvs) S C (λvs H Q E ⟨_,_,_,_,_,_,h,_⟩=>h) (λvs H Q E ⟨_,_,_,s,_,_,_,_,_,_,st,_⟩=>hG s H st) λA outer s H vs Q E hr h=>?_;obtain⟨Hf,ds,cds,pn,d,pn',el,e1,r1,r2,st,eF,k'⟩:=h;obtain⟨t,p,q⟩:=hb A outer s H E hr;refine⟨t,p.nox,?_⟩;obtain⟨hl,a0⟩:=Xf eF;have env:=ZlD (r1.append r2);rw[zx]at env;exact q _ Hf H _ pn d pn' Q e1 env st a0 λv Hf' H' g st' r _=>k' v Hf' H' g st' r
structure TabG (P:Addr)(q:Str)(G:Gh):Prop where
 get:∀s H,G.st s H->∃ps,H P=some (.tbl ps)/\TriplesOk ps.toList/\∀pos cv,codeAmong pos ps.toList=some cv->∃c',cv=.ref c'/\H c'=some (.ext (codeφ c' q))/\¬G.fp c'
 fp:G.fp P
 put:∀s H ps (pos:Pos) c',G.st s H->H P=some (.tbl ps)->H c'=none->codeAmong pos ps.toList=none->G.st s (Zn (Zn H P (.tbl (ps ++ #[rawInt pos.line,rawInt pos.col,.ref c']))) c' (.ext (codeφ c' q)))
noncomputable def WA (G:Gh)(t:Nat)(p c':Addr)(fd:xA)(q:Str)(cvs:List V):Gh where
 fp:=G.fp
 rd:=G.rd
 pen:=G.pen
 st:=λs H=>G.st s H/\H p=some (.ext (fnφ p fd))/\H c'=some (.ext (codeφ c' q))
 mono:=λs H H' ⟨h1,h2,h3⟩ k1 k2=>⟨G.mono s H H' h1 k1 k2,k2 _ _ h2,k2 _ _ h3⟩
 sub:=G.sub
 dom:=λs H b h=>G.dom s H b h.1
 ntp:=λs H b vs h=>G.ntp s H b vs h.1
 clo:=λt' v cs=>t'=t/\v=.ref p/\cs=cvs
noncomputable def JA (P:xB)(w:World)(K:qm)(mg:Str->Option Value)(k:Nat)(x:Str)(n:Nat)(fr:Bool)(GG:Heap->Gh->Prop)(F:List D->M D):Prop:=
 ∃f fd ps,(∀base,FnOk P w K mg base ZW k f fd ps (Yu n fr (GG base) F))/\mg x=some (.ref f)/\yL K (.ref f)=true/\Wi K fd ps []
theorem JA.mono {P:xB}{w:World}{K:qm}{mg:Str->Option Value}{j k:Nat}{x:Str}{n:Nat}{fr:Bool}{GG:Heap->Gh->Prop}{F:List D->M D}(c:JA P w K mg j x n fr GG F)(h:j<=k:=by decide):JA P w K mg k x n fr GG F:=
 let ⟨f,fd,ps,a,b,c,d⟩:=c
 ⟨f,fd,ps,λbase=>(a base).mono h,b,c,d⟩
structure CapS (X:Cx)(XN:List Str)(NS:List (Str×NameKind))(N ps:List Str)(cix:List Nat)(scope:Scope):Prop where
 xn:X.N=XN
 ns:X.env.scope.names=NS
 len:N.length=ps.length+cix.length
 at_:(cix.zip (N.drop ps.length)).all (λp=>decide (XN[p.1]?=some p.2)&&decide (NS.lookup p.2=some .cell)&&decide (scope.names.lookup p.2=some .free))=true
 free:∀y∈scope.names,y.2=.free->NS.lookup y.1=some .cell∨NS.lookup y.1=some .free
theorem CapS.hfree {X:Cx}{XN:List Str}{NS:List (Str×NameKind)}{N ps:List Str}{cix:List Nat}{scope:Scope}(B:CapS X XN NS N ps cix scope):∀y∈scope.names,y.2=.free->X.env.kindOf y.1=some .cell∨X.env.kindOf y.1=some .free:=λy hy hf=>by
 have:=B.free y hy hf;rw[<-B.ns]at this;exact this
theorem CapS.cloAt {X:Cx}{XN:List Str}{NS:List (Str×NameKind)}{N ps:List Str}{cix:List Nat}{scope:Scope}{σ:St}{base':Heap}{cl:List (Str×Addr)}{cvs:List V}(B:CapS X XN NS N ps cix scope)(cs:Cells X σ base')(co:CloOf X scope cl)(hl:cvs.length=cix.length)
  (hv:∀(i j:Nat) (v:V),cix[i]?=some j->cvs[i]?=some v->σ[j]?=some (some v)):CloAt base' cl scope N ps cvs:=by
 refine⟨λx y c h1 h2=>cs.inj x y c (co.of x c h1) (co.of y c h2),λx c h=>cs.cell x c (co.of x c h),λx h=>co.has (x,.free) (zR h) rfl,λi x v h1 h2=>?_,by rw[B.len,hl]⟩;have hi:i<cix.length:=by rw[<-hl];exact(qA.mp h2).1
 have hj:cix[i]?=some cix[i]:=qw hi;have hx:(N.drop ps.length)[i]?=some x:=by rw[zW];exact h1
 have q:=yw.mp B.at_ (cix[i],x) (zt (i:=i) (yp.mpr ⟨hj,hx⟩));simp only[zh,decide_eq_true_eq]at q;obtain⟨⟨q1,q2⟩,q3⟩:=q;refine⟨q3,?_⟩;obtain⟨c,u,e1,e2,e3⟩:=cs.val cix[i] x v (by rw[B.xn];exact q1) (hv i _ v hj h2) (by show X.env.scope.names.lookup x=_;rw[B.ns];exact q2);obtain⟨c2,e4⟩:=co.has (x,.free) (zR q3) rfl;have e5:=co.of x c2 e4;rw[e1]at e5;cases e5;exact⟨c,u,e4,e2,e3⟩
noncomputable def Jr (ρ:Zb):List Nat->Option (List D)
 | []=>some []
 | i::r=>((ρ[i]?).bind id).bind λd=>(Jr ρ r).map (d :: ·)
theorem Zfn {G:Gh}{Hf:Hp}{σ:St}{ρ:Zb}(e:YK G Hf σ ρ):∀{cix:List Nat} {cds:List D},Jr ρ cix=some cds->∃cvs,cvs.length=cix.length/\Zi G Hf cds cvs/\∀(i j:Nat) (v:V),cix[i]?=some j->cvs[i]?=some v->σ[j]?=some (some v)
 | [],cds,h=>by cases h;exact⟨[],rfl,Zi.nil_iff.mpr rfl,λi j v h1=>by simp at h1⟩
 | a::r,cds,h=>by
  unfold Jr at h
  cases q:(ρ[a]?).bind id with
  | none=>rw[q]at h;cases h
  | some d=>
   rw[q]at h
   cases q2:Jr ρ r with
   | none=>rw[q2]at h;cases h
   | some ds=>
    rw[q2]at h;cases h;obtain⟨v,h1,h2⟩:=e a d (by
     cases q3:ρ[a]? with
     | none=>rw[q3]at q;cases q
     | some o=>rw[q3]at q;simp at q;rw[q])
    obtain⟨cvs,l1,l2,l3⟩:=Zfn e q2;refine⟨v::cvs,by simp[l1],Zi.cons h2 l2,λi j u e1 e2=>?_⟩
    cases i with
    | zero=>simp at e1 e2;subst e1;subst e2;exact h1
    | succ i=>exact l3 i j u (by simpa using e1) (by simpa using e2)
noncomputable def dFnC (F:List D->M D)(t:Nat)(cix:List Nat)(f:Zb->M D):Zb->M D:=fun ρ=>Zo (f ρ) λd=>Zo (Y5 (Jr ρ cix)) λcds=>if (YI d&&Xn cds)=true then Zo (F [d,.clo t cds]) λc=>if YI c=true then Zy c else ZG else ZG
section
variable {X:Cx}{G:Gh}{P c:Addr}{q:Str}
theorem ZlE {lpos:Pos}{ps:Array Value}{H Hm:Hp}{c':Addr}{s:Pn}(TG:TabG P q G)(st:G.st s H)(hP:H P=some (.tbl ps))(sl:Slot P q lpos ps H Hm c'):G.st s Hm/\Hm c'=some (.ext (codeφ c' q))/\ZA G H Hm:=by
 rcases sl with⟨rfl,h1,h2⟩ | ⟨h1,h2,h3,rfl⟩
 ·exact⟨st,h2,.refl _ _⟩
 ·refine⟨TG.put s H ps lpos c' st hP h2 h1,ZX,λb o n e=>?_⟩
  rw[Zx (YD e h2),Zx (λz=>n (by rw[z];exact TG.fp))];exact e
theorem ZlF {Hf H Hm:Hp}{p:Addr}{o:HO}(e1:ZA G Hf H)(ex:ZA G H Hm)(hp:Hm p=none):Gr G Hf H Hf (Zn Hm p o):=by
 have hh:ZA G H (Zn Hm p o):=λb u n e=>by
  have:=ex b u n e;rw[Zx (YD this hp)];exact this
 exact⟨hh,.refl _ _,e1.trans hh,λ_ _ h _=>h⟩
theorem Znj {base':Heap}{k:Nat}{T:Nat->List D->M D}{t:Nat}{p c':Addr}{fd:xA}{cvs:List V}{ps:List Str}{F:List D->M D}(hb:Wi X.K fd ps [])(hF:FnOk X.prog X.w X.K X.mg base' ZW k p fd ps (spK ps.length (WA G t p c' fd q cvs) cvs F))(hT:T t=F) :
  Jz X.prog X.w X.K X.mg k ps.length T base' (WA G t p c' fd q cvs):=by
 rintro t' v cs ⟨rfl,rfl,rfl⟩;exact⟨p,fd,ps,rfl,rfl,hb,λs H st h ok _=>fnφ_at ok st.2.1,by rw[hT];exact hF⟩
variable {k kl:Nat}{x:Str}{fr frb:Bool}{F:List D->M D}{T:Nat->List D->M D}{t:Nat}{e1:Expr}{f1:Zb->M D}{r1:Bool}{params:Arguments}{scope:Scope}{lpos ppos pos:Pos}{XN N ps:List Str}{NS:List (Str×NameKind)}{cix:List Nat}
theorem ofC {t:Nat}{p c':Addr}{fd:xA}{cvs:List V}{H:Hp}{d:D}{v:V}(n:YI d=true)(r:Zj (WA G t p c' fd q cvs) H d v):Zj G H d v:=Zj.re (G:=WA G t p c' fd q cvs) (G':=G) rfl rfl n r
theorem toC {t:Nat}{p c':Addr}{fd:xA}{cvs:List V}{H:Hp}{d:D}{v:V}(n:YI d=true)(r:Zj G H d v):Zj (WA G t p c' fd q cvs) H d v:=Zj.re (G:=G) (G':=WA G t p c' fd q cvs) rfl rfl n r
theorem toCL {t:Nat}{p c':Addr}{fd:xA}{cvs:List V}{H:Hp}{d:List D}{v:List V}(n:Xn d=true)(r:Zi G H d v):Zi (WA G t p c' fd q cvs) H d v:=Zi.re (G:=G) (G':=WA G t p c' fd q cvs) rfl rfl n r
theorem grC {t:Nat}{p c':Addr}{fd:xA}{cvs:List V}{Hf H Hf' H':Hp}(g:Gr (WA G t p c' fd q cvs) Hf H Hf' H'):Gr G Hf H Hf' H':=Gr.re (G:=WA G t p c' fd q cvs) (G':=G) rfl g
theorem frC {t:Nat}{p c':Addr}{fd:xA}{cvs:List V}{H Hf':Hp}{d:D}{v:V}(n:YI d=true)(h:Yj (WA G t p c' fd q cvs) H Hf' d v):Yj G H Hf' d v:=Yj.re (G:=WA G t p c' fd q cvs) (G':=G) rfl rfl n h
theorem Zgz {body:Expr}{fe:Zb->M D}(M:Mk0 X c P)(TG:TabG P q G)(hW:JA X.prog X.w X.K X.mg k x 2 fr (Jz X.prog X.w X.K X.mg (kl+1) ps.length T) F)(hfn:∀x,X.fn x=true)(hr:Room k X.A)(hg:Gl X x)(h1:PD X G r1 e1 f1)
  (hq:X.env.qual ++ "<lambda>" = q) (S:CloScope N ps scope) (B:CapS X XN NS N ps cix scope) (hT:T t=VS N.length fe)
  (hbind:∀(cl:List (Str×Addr)) (pm cd ct:Value) (us:List Value),us.length=ps.length->bindArgs (yY "<lambda>" q params body scope cl pm cd ct) ⟨us,[]⟩=pure (ps.zip us))
  (hb:∀(base:Heap) (f c':Addr) (cl:List (Str×Addr)) (G:Gh) (A:xC) (outer:List Env) (s:Shared) (H:Hp) (E:XK),Room kl (A.deeper (qad q scope s.heap.objs.size f (.ref c') cl))->PD (BT ZW X.prog X.w X.K X.mg base N q scope f (.ref c') cl A outer s H E).nox G frb body fe)
  (hdef:defaultsOf params X.env=([],[]):=by rfl) (hdb:(x==("__debug__" : Str))=false:=by decide)
  (he:xh [e1,.Lambda params body scope lpos] X.env=(false,eval e1 X.env)::xh [.Lambda params body scope lpos] X.env:=by rfl) (he2:xh [Expr.Lambda params body scope lpos] X.env=(false,eval (.Lambda params body scope lpos) X.env)::xh [] X.env:=by rfl)
  (hpl:(backTo pos (xh [Expr.Lambda params body scope lpos] X.env)).any (·.1)=false:=by rfl) :
  PD X G fr (.Call (.Name x ppos) [e1,.Lambda params body scope lpos] [] pos) (dFnC F t cix f1):=by
 obtain⟨t1,p1,q1⟩:=h1.drop;obtain⟨f,fd0,ps0,FN,hm,hk,hbd⟩:=hW;refine⟨_,ZjO FN hfn hr hg hm hk hbd (Xb p1 (Xb (Zni M hq B.hfree hdef) Xy he2) he) hdb he hpl,fun σ Hf H ρ s d s' Q x1 x2 x3 x4 k=>?_⟩;obtain⟨d1,s1,a1,a2⟩:=ZF x4;obtain⟨cds,s2,b3,a4⟩:=ZF a2;obtain⟨a3,rfl⟩:=WZ b3;obtain⟨hn,a5⟩:=Xf a4;obtain⟨cc,s3,a6,a7⟩:=ZF a5;obtain⟨hn2,a8⟩:=Xf a7;obtain⟨rfl,rfl⟩:=ZQ a8;obtain⟨hn0,hn1⟩:=qaP.mp hn;refine q1 σ Hf H ρ s d1 _ _ x1 x2 x3 a1 λv1 jQ H1 g1 jT rv1=>?_;obtain⟨tp,hP,htr,hhit⟩:=TG.get _ H1 jT;refine⟨tp,hP,htr,λcv h=>let ⟨c',z1,z2,_⟩:=hhit lpos cv h;⟨c',z1,z2⟩,λp c' fd Hm ⟨cl,pm,ctv,co,efd⟩ sl hp=>?_⟩;subst efd;obtain⟨stm,hc',ex⟩:=ZlE TG jT hP sl;have gr:=ZlF (o:=.ext (fnφ p (yY "<lambda>" q params body scope cl pm (.ref c') ctv))) g1.fh ex hp;have hcp:c'≠p:=λz=>by rw[z,hp]at hc';cases hc'
 obtain⟨cvs,l1,l2,l3⟩:=Zfn (x2.ext g1.ff) a3;intro base' cs;have C:CloAt base' cl scope N ps cvs:=B.cloAt cs co l1 l3;refine⟨WA G t p c' (yY "<lambda>" q params body scope cl pm (.ref c') ctv) q cvs,jQ,[d1,.clo t cds],_,d,_,Znj (X:=X) (.all (hbind cl pm (.ref c') ctv)) (fnKE S C (λs H st=>st.2) λA outer s H E hr=>hb base' p c' cl _ A outer s H E hr) hT,rfl,gr.fh,?_,⟨Gh.grow stm hp,ZX,by rw[Zx hcp];exact hc'⟩,a6,λv Hf3 H3 g3 st3 r3 fz=>?_⟩
 ·refine .cons (toC hn0 rv1) (.one (jw.mpr ⟨cvs,⟨rfl,rfl,rfl⟩,toCL hn1 l2⟩))
 ·have g3':Gr G jQ _ Hf3 H3:=grC g3
  have gg:=(g1.trans gr).trans g3';have rr:Zj G Hf3 d v:=ofC hn2 r3;refine k v Hf3 H3 gg st3.1 rr λz=>?_;exact jn (g1.hh.trans gr.hh) rr.nofp (frC hn2 (fz z))
end
theorem boot_len:xj "len" = some (.builtin "len"):=by decide +kernel
theorem boot_isinstance:xj "isinstance" = some (.builtin "isinstance"):=by decide +kernel
theorem boot_max:xj "max" = some (.builtin "max"):=by decide +kernel
theorem boot_min:xj "min" = some (.builtin "min"):=by decide +kernel
theorem boot_set:xj "set" = some (.type "set"):=by decide +kernel
theorem boot_sorted:xj "sorted" = some (.builtin "sorted"):=by decide +kernel
theorem boot_tuple:xj "tuple" = some (.type "tuple"):=by decide +kernel
theorem boot_list:xj "list" = some (.type "list"):=by decide +kernel
theorem boot_int:xj "int" = some (.type "int"):=by decide +kernel
theorem boot_bool:xj "bool" = some (.type "bool"):=by decide +kernel
theorem boot_dict:xj "dict" = some (.type "dict"):=by decide +kernel
noncomputable abbrev Yc:Gh->Prop:=λ_=>True
noncomputable def stL (K:qm)(p sa:Addr)(tr:Bool)(s:Pn)(H:Hp):Prop:=
 ∃a h,s.1=[a,h]/\H p=some (.lst [.ref sa,.int a,.int h])/\sa≠p/\ZE K H sa (s.2.map V.int)/\(tr=true->∃o,H sa=some o)/\(tr=false->∀H':Hp,ZE K H' sa (s.2.map V.int))
noncomputable def Ud (K:qm)(p sa:Addr)(tr:Bool):Gh where
 fp:=λb=>b=p
 rd:=λb=>b=p∨(tr=true/\b=sa)
 pen:=.ref p
 st:=stL K p sa tr
 mono:=λs H H' ⟨a,h,e0,e1,ne,sq,t1,t2⟩ k _=>by
  refine⟨a,h,e0,k p _ (.inl rfl) e1,ne,?_,λht=>?_,t2⟩
  ·cases tr with
   | false=>exact t2 rfl H'
   | true=>
    rcases sq with(q | ⟨o,q⟩) | q
    ·exact .inl (.inl (k sa _ (.inr ⟨rfl,rfl⟩) q))
    ·exact .inl (.inr ⟨o,k sa _ (.inr ⟨rfl,rfl⟩) q⟩)
    ·exact .inr q
  ·obtain⟨o,q⟩:=t1 ht
   exact⟨o,k sa o (.inr ⟨ht,rfl⟩) q⟩
 sub:=λb h=>.inl h
 dom:=λs H b ⟨a,h,e0,e1,ne,sq,t1,t2⟩ hb=>by
  rcases hb with rfl | ⟨ht,rfl⟩
  ·exact⟨_,e1⟩
  ·exact t1 ht
 ntp:=λs H b vs ⟨a,h,e0,e1,ne,sq,t1,t2⟩ hb z=>by
  rw[hb,e1]at z;cases z
noncomputable def YM (K:qm):Gh->Prop:=λG=>∃p sa tr,G=Ud K p sa tr
noncomputable def Bx (ns:List Int)(a:Int):Int:=if a<ns.length then ns.getD a.toNat 0 else if 0<ns.length then ns.getD (a*7 % ns.length).toNat 0 % 1000003+a*1000003 else 0
noncomputable def W8 (c a:Int):Int:=
 if 10 ^ 18<=c then c else
  let x:=(c % 2147483647*48271+a*69621+11) % 2147483629
  let y:=(x*x+48271*x+a) % 2147483587
  y*2147483579+(y*y+69621*a) % 2147483579
noncomputable def XC (m a h:Int)(ns:List Int):Int×Int:=if h<m then (a+1,W8 (Bx ns a) a)else (a,h)
noncomputable def YJ:List D->M D:=λds s=>match ds,s with
 | [.pen,.int m],([a,h],ns)=>if 0<m/\m<1073741824/\0<=a then some (.int ((XC m a h ns).2 % m),([(XC m a h ns).1,(XC m a h ns).2 / m],ns))else none
 | _,_=>none
noncomputable def YO (s:Pn):Prop:=∃a h,s.1=[a,h]/\0<=a/\0<=h
theorem ZjR (c a:Int)(ha:0<=a):0<=W8 c a:=by
 unfold W8;split
 ·have:(0:Int)<=10 ^ 18:=by decide
  omega
 ·dsimp only
  have h2:=qaj (((c % 2147483647*48271+a*69621+11) % 2147483629)*((c % 2147483647*48271+a*69621+11) % 2147483629)+48271*((c % 2147483647*48271+a*69621+11) % 2147483629)+a) (show(2147483587:Int)≠0 by decide);generalize hy:(((c % 2147483647*48271+a*69621+11) % 2147483629)*((c % 2147483647*48271+a*69621+11) % 2147483629)+48271*((c % 2147483647*48271+a*69621+11) % 2147483629)+a) % 2147483587=y at h2⊢;have h3:=qaj (y*y+69621*a) (show(2147483579:Int)≠0 by decide);omega
theorem ZlG {m:Int}{s:Pn}(ok:YO s)(h1:0<m)(h2:m<1073741824):∃r s',YJ [.pen,.int m] s=some (.int r,s')/\0<=r/\r<m/\YO s':=by
 obtain⟨a,h,e,ha,hh⟩:=ok;obtain⟨l,ns⟩:=s;simp only at e;subst e;refine⟨(XC m a h ns).2 % m,([(XC m a h ns).1,(XC m a h ns).2 / m],ns),?_,qaj _ (by omega),qaF _ h1,⟨_,_,rfl,?_,?_⟩⟩
 ·show(if 0<m/\m<1073741824/\0<=a then _ else _)=_
  rw[if_pos ⟨h1,h2,ha⟩]
 ·unfold XC
  split
  ·show 0<=a+1
   omega
  ·exact ha
 ·have:0<=(XC m a h ns).2:=by
   unfold XC;split
   ·exact ZjR _ _ ha
   ·exact hh
  exact Int.ediv_nonneg this (by omega)
noncomputable def ZjS (G:Gh)(ob own own':List Nat)(fr:Bool)(g:Zb->M Out):TS:=λE σ H=>∃kn jO H0 ρ s out s',J G own kn jO H0 σ H ρ/\G.st s H/\g ρ s=some (out,s')/\Post G ob own' kn jO H0 fr out s' E
noncomputable def Zom (K:qm)(t:TA):TE:=fun σ H Q=>t σ H λxs H1=>xs.length<=xg/\∀p,H1 p=none->K.lookup p=none->Q (.ref p) (Zn H1 p (.lst xs))
theorem ZlH {X:Cx}{es:List Expr}{t:TA}{pos:Pos}(h:PA X es t):PE X (.List es pos) (Zom X.K t):=by
 intro jC s σ H Q I hq;refine wpAny_List_spliced (ZK (h pos jC s σ H _ I hq) λus s1 ⟨xs,H1,I1,r,z,q⟩=>⟨by rw[<-r.length];exact z,?_⟩);have hf:H1 s1.heap.objs.size=none:=I1.hok.fresh (qq _);have hk:X.K.lookup s1.heap.objs.size=none:=by
  cases e:X.K.lookup s1.heap.objs.size with
  | none=>rfl
  | some o=>
   have:=I1.kIn _ _ e;rw[qcy (qq _)]at this;cases this
 refine⟨.ref s1.heap.objs.size,Zn H1 s1.heap.objs.size (.lst xs),I1.laid (t':=s1.toks) (λb u e=>qf _ e) (qq _) ?_,rfl,q _ hf hk⟩;exact⟨z,us,0,r,qD _ rfl⟩
noncomputable def Ok {α:Type}(m:M α)(s:Pn)(Q:α->Pn->Prop):Prop:=∃a s',m s=some (a,s')/\Q a s'
theorem Ok.bind {α β:Type}{m:M α}{k:α->M β}{s:Pn}{Q:β->Pn->Prop}(h:Ok m s λa s1=>Ok (k a) s1 Q):Ok (Zo m k) s Q:=by
 obtain⟨a,s1,e,b,s2,e2,q⟩:=h;exact⟨b,s2,by unfold Zo;rw[e];exact e2,q⟩
theorem Ok.ret {α:Type}{a:α}{s:Pn}{Q:α->Pn->Prop}(h:Q a s):Ok (Zy a) s Q:=⟨a,s,rfl,h⟩
theorem Ok.eq {α:Type}{m:M α}{s s':Pn}{a:α}{Q:α->Pn->Prop}(e:m s=some (a,s'))(h:Q a s'):Ok m s Q:=⟨a,s',e,h⟩
theorem Ok.mono {α:Type}{m:M α}{s:Pn}{Q Q':α->Pn->Prop}(h:Ok m s Q)(k:∀a s',Q a s'->Q' a s'):Ok m s Q':=let ⟨a,s',e,q⟩:=h;⟨a,s',e,k a s' q⟩
theorem Ok.of {α:Type}{o:Option α}{a:α}{s:Pn}{Q:α->Pn->Prop}(e:o=some a)(h:Q a s):Ok (Y5 o) s Q:=⟨a,s,by unfold Y5;rw[e],h⟩
theorem Ok.ite {α:Type}{c:Prop}[Decidable c]{m:M α}{s:Pn}{Q:α->Pn->Prop}(hc:c)(h:Ok m s Q):Ok (if c then m else ZG) s Q:=by rw[if_pos hc];exact h
section
variable {ρ:Zb}{s:Pn}{Q:Out->Pn->Prop}{f:Zb->M D}{g1 g2:Zb->M Out}
theorem Ok.seq (h:Ok (g1 ρ) s λo s1=>match o with | .nx ρ'=>Ok (g2 ρ') s1 Q | .rt d=>Q (.rt d) s1 | .bk ρ'=>Q (.bk ρ') s1 | .ct ρ'=>Q (.ct ρ') s1):Ok (Zg g1 g2 ρ) s Q:=by
 refine Ok.bind (h.mono λo s1 q=>?_)
 cases o with
 | nx ρ'=>exact q
 | rt d=>exact .ret q
 | bk ρ'=>exact .ret q
 | ct ρ'=>exact .ret q
theorem Ok.next (h:Q (.nx ρ) s):Ok (Zm ρ) s Q:=.ret h
theorem Ok.sset {i:Nat}(h:Ok (f ρ) s λd s1=>Q (.nx (ρ.set i (some d))) s1):Ok (ZR i f ρ) s Q:=.bind (h.mono λ_ _ q=>.ret q)
theorem Ok.sown {i:Nat}(h:Ok (f ρ) s λd s1=>Bm d=true/\Q (.nx (ρ.set i (some d))) s1):Ok (WS i f ρ) s Q:=.bind (h.mono λ_ _ q=>.ite q.1 (.ret q.2))
theorem Ok.sret (h:Ok (f ρ) s λd s1=>Q (.rt d) s1):Ok (ZN f ρ) s Q:=.bind (h.mono λ_ _ q=>.ret q)
theorem Ok.sif {c:Zb->M Bool}(h:Ok (c ρ) s λb s1=>if b=true then Ok (g1 ρ) s1 Q else Ok (g2 ρ) s1 Q):Ok (Yl c g1 g2 ρ) s Q:=by
 refine .bind (h.mono λb s1 q=>?_)
 cases b with
 | true=>simpa using q
 | false=>simpa using q
theorem Ok.sapp {i:Nat}{ds:List D}(hi:(ρ[i]?).bind id=some (.lst ds))(hl:ds.length<xg)(h:Ok (f ρ) s λd s1=>Q (.nx (ρ.set i (some (.lst (ds ++ [d]))))) s1):Ok (WT i f ρ) s Q:=by
 refine .bind (h.mono λd s1 q=>?_);simp only[hi];exact .ite hl (.ret q)
theorem Ok.sext {i:Nat}{ds:List D}(hi:(ρ[i]?).bind id=some (.lst ds))(h:Ok (f ρ) s λd s1=>∃es,d=.lst es/\ds.length+es.length<=xg/\Q (.nx (ρ.set i (some (.lst (ds++es))))) s1):Ok (Jy i f ρ) s Q:=by
 refine .bind (h.mono λd s1 q=>?_);obtain⟨es,rfl,hl,q⟩:=q;simp only[hi];exact .ite hl (.ret q)
theorem Ok.spar {i j:Nat}{fs:Zb->M (List D)}(h:Ok (fs ρ) s λds s1=>∃a b,ds=[a,b]/\X5 a=true/\X5 b=true/\Q (.nx ((ρ.set i (some a)).set j (some b))) s1):Ok (sPar i j fs ρ) s Q:=by
 refine .bind (h.mono λd s1 q=>?_);obtain⟨a,b,rfl,n1,n2,q⟩:=q;exact .ite (by simp[n1,n2]) (.ret q)
theorem Ok.loop {τ:D->Zb->Option Zb}{body:Zb->M Out}(I:Nat->Zb->Pn->Prop):∀(ds:List D) (k:Nat) (ρ:Zb) (s:Pn),I k ρ s->
  (∀i d ρ s,ds[i]?=some d->I (k+i) ρ s->∃ρ1,τ d ρ=some ρ1/\Ok (body ρ1) s λo s'=>∃ρ',o=.nx ρ'/\I (k+i+1) ρ' s')->Ok (XO τ body ds ρ) s λo s'=>∃ρ',o=.nx ρ'/\I (k+ds.length) ρ' s'
 | [],k,ρ,s,h0,_=>.ret ⟨ρ,rfl,h0⟩
 | d::ds,k,ρ,s,h0,h=>by
  obtain⟨ρ1,e1,ok⟩:=h 0 d ρ s rfl h0;refine Ok.bind (.of e1 (.bind (ok.mono λo s' q=>?_)));obtain⟨ρ',rfl,q⟩:=q;refine(Ok.loop I ds (k+1) ρ' s' q λi d' ρ2 s2 e2 q2=>?_).mono λo s2 q2=>?_
  ·have:=h (i+1) d' ρ2 s2 (by simpa using e2) (by rw[show k+(i+1)=k+1+i by omega];exact q2)
   rw[show k+(i+1)+1=k+1+i+1 by omega]at this;exact this
  ·rw[show k+(d::ds).length=k+1+ds.length by simp;omega]
   exact q2
theorem Ok.sfor {fi:Zb->M (List D)}{τ:D->Zb->Option Zb}{body:Zb->M Out}(I:Nat->Zb->Pn->Prop)(h:Ok (fi ρ) s λds s1=>I 0 ρ s1/\(∀i d ρ s,ds[i]?=some d->I i ρ s->∃ρ1,τ d ρ=some ρ1/\Ok (body ρ1) s λo s'=>∃ρ',o=.nx ρ'/\I (i+1) ρ' s')/\
  ∀ρ' s',I ds.length ρ' s'->Q (.nx ρ') s'):Ok (YL fi τ body ρ) s Q:=by
 refine .bind (h.mono λds s1 q=>?_);obtain⟨q0,q1,q2⟩:=q;refine(Ok.loop I ds 0 ρ s1 q0 λi d ρ s e=>?_).mono λo s' q=>?_
 ·rw[yS];exact q1 i d ρ s e
 ·obtain⟨ρ',rfl,q⟩:=q
  rw[yS]at q;exact q2 ρ' s' q
end
section
variable {ρ ρ':Zb}{s s1 s2:Pn}{f f2:Zb->M D}{g1 g2:Zb->M Out}{d e c:D}{r:Option (Out×Pn)}
theorem Ws {n k:Nat}{g:Zb->M Out}{ds:List D}(hl:ds.length=k)(h:g (ds.map some++zT (n-k) none) s=some (.rt d,s1)):runB n k g ds s=some (d,s1):=by
 unfold runB;rw[if_pos hl];unfold Zo;rw[h];rfl
theorem Wt (h:f ρ s=some (d,s1)):ZN f ρ s=some (.rt d,s1):=by unfold ZN Zo;rw[h];rfl
theorem XX (h:g1 ρ s=some (.rt d,s1)):Zg g1 g2 ρ s=some (.rt d,s1):=by unfold Zg Zo;rw[h];rfl
theorem XI (h:g1 ρ s=some (.nx ρ',s1))(h2:g2 ρ' s1=r):Zg g1 g2 ρ s=r:=by unfold Zg Zo;rw[h];exact h2
theorem W4 {i:Nat}(h:f ρ s=some (d,s1)):ZR i f ρ s=some (.nx (ρ.set i (some d)),s1):=by unfold ZR Zo;rw[h];rfl
theorem Zw {g:D->D->Option D}(h1:f ρ s=some (d,s1))(h2:f2 ρ s1=some (e,s2))(h:g d e=some c):Ze g f f2 ρ s=some (c,s2):=by
 unfold Ze Zo;rw[h1];simp only;rw[h2];simp only;unfold Y5;rw[h]
theorem Ym {g:List D->Option D}{fs:Zb->M (List D)}{ds:List D}(h1:fs ρ s=some (ds,s1))(h:g ds=some c):ZM g fs ρ s=some (c,s1):=by
 unfold ZM Zo;rw[h1];simp only;unfold Y5;rw[h]
theorem YA {F:List D->M D}{fs:Zb->M (List D)}{ds:List D}{q:Option (D×Pn)}(h1:fs ρ s=some (ds,s1))(h:F ds s1=q):Zs F fs ρ s=q:=by
 unfold Zs Zo;rw[h1];exact h
theorem Zh {fs:Zb->M (List D)}{ds:List D}(h1:f ρ s=some (d,s1))(h2:fs ρ s1=some (ds,s2)):Zc f fs ρ s=some (d::ds,s2):=by
 unfold Zc Zo;rw[h1];simp only;rw[h2];rfl
theorem XY {fs:Zb->M (List D)}{ds:List D}(h1:fs ρ s=some (ds,s1))(hl:ds.length<=xg):ZV fs ρ s=some (.tup ds,s1):=by
 unfold ZV Zo;rw[h1];simp only;rw[if_pos hl];rfl
theorem VM {fs:Zb->M (List D)}{ds:List D}(h1:fs ρ s=some (ds,s1))(hl:ds.length<=xg):Xc fs ρ s=some (.lst ds,s1):=by
 unfold Xc Zo;rw[h1];simp only;rw[if_pos hl];rfl
theorem Yw {b:Bool}(h:f ρ s=some (.bl b,s1)):ZO f ρ s=some (b,s1):=by unfold ZO Zo;rw[h];rfl
theorem VD {fb:Zb->M Bool}{b:Bool}(h:fb ρ s=some (b,s1)):Wx fb ρ s=some (!b,s1):=by unfold Wx Zo;rw[h];rfl
end
theorem ZdT {τ:D->Zb->Option Zb}{ft:Zb->M Bool}{fe:Zb->M D}{ρ:Zb}{s:Pn}(r:D->Zb)(b:D->Bool)(c:D->D):∀(ds:List D),(∀d∈ds,τ d ρ=some (r d)/\ft (r d) s=some (b d,s)/\(b d=true->fe (r d) s=some (c d,s)))->
  VP τ ft fe ρ ds s=some ((ds.filter b).map c,s)
 | [],_=>rfl
 | d::ds,h=>by
  obtain⟨h1,h2,h3⟩:=h d (by simp);have ih:=ZdT r b c ds λd' m=>h d' (by simp[m]);unfold VP;simp only[Zo,Y5,h1,h2]
  cases hb:b d with
  | true=>simp[Zo,h3 hb,ih,hb,Zy]
  | false=>simp[ih,hb]
theorem ZcQ {τ:D->Zb->Option Zb}{fe:Zb->M D}{ρ:Zb}(P:D->Prop)(I:Pn->Prop):∀(ds:List D) (s:Pn),I s->(∀d∈ds,∀s,I s->∃ρ1,τ d ρ=some ρ1/\Ok (fe ρ1) s λc s'=>P c/\I s')->
  Ok (VP τ Z1 fe ρ ds) s λr s'=>r.length=ds.length/\(∀c∈r,P c)/\I s'
 | [],s,hs,_=>.ret ⟨rfl,by simp,hs⟩
 | d::ds,s,hs,h=>by
  obtain⟨ρ1,e1,ok⟩:=h d (by simp) s hs;unfold VP;refine .bind (.of e1 (.bind (.ret ?_)));refine .bind (ok.mono λc s1 q=>.bind ((ZcQ P I ds s1 q.2 λd' m=>h d' (by simp[m])).mono λr s2 q2=>.ret ⟨by simp[q2.1],?_,q2.2.2⟩));intro x hx;rcases qu.mp hx with e | hx
  ·subst e;exact q.1
  ·exact q2.2.1 x hx
end TF
namespace TP
open L2 TF
noncomputable def ZgA:Zb->M Out:=(Zg (WS 1 (Xc Zf))
 (Zg (YL (YH (ZM Xp (Zc (Za 0) Zf))) (Zv 2)
 (Zg (YL (W3 (Ze Z3 (Za 2) (dC (.int 1))) (ZM Xp (Zc (Za 0) Zf))) (Zv 3)
 (Zg (WT 1 (fun ρ=>(ZV (Zc (Ze Zq (Za 0) (Za 2)) (Zc (Ze Zq (Za 0) (Za 3)) Zf))) (Z2 [1] ρ)))
 Zm))
 Zm))
 (Zg (ZN (Za 1))
 Zm)))
noncomputable def JS:List D->M D:=runB 4 1 ZgA
noncomputable def ZcR:Zb->M Out:=(Zg (ZN (Ze XF (ZV (Zc (ZM Jq (Zc (Za 1) (Zc (Za 2) Zf))) (Zc (ZM UD (Zc (Za 1) (Zc (Za 2) Zf))) Zf))) (Za 0)))
 Zm)
noncomputable def WX:List D->M D:=runB 3 3 ZcR
noncomputable def Znk:Zb->M Out:=(Zg (ZN (Z7 [none,some 0,some 1] (YH (Ze Zq (Za 0) (dC (.int 0)))) (Zv 0) (ZO (Zs WX (Zc (Ze Zq (Za 1) (dC (.int 1))) (Zc (Za 2) (Zc (Za 0) Zf))))) (Za 0)))
 Zm)
noncomputable def Jj:List D->M D:=runB 2 2 Znk
noncomputable def Zdy:Zb->M Out:=(Zg (ZN (ZM ZjK (Zc (Z7 [none] (XB (Ze Zq (Za 0) (dC (.int 1)))) (Zv 0) Z1 (ZV (Zc (Za 0) (Zc (dC (.bl true)) Zf)))) Zf)))
 Zm)
noncomputable def Um:List D->M D:=runB 1 1 Zdy
noncomputable def ZaE:Zb->M Out:=(Zg (Yl (ZO (Ze Vw (Za 0) (Ze dPow (dC (.int 10)) (dC (.int 18)))))
 (Zg (ZN (Za 0))
 Zm)
 Zm)
 (Zg (ZR 2 (Ze Wz (Ze Z3 (Ze Z3 (Ze VR (Ze Wz (Za 0) (dC (.int 2147483647))) (dC (.int 48271))) (Ze VR (Za 1) (dC (.int 69621)))) (dC (.int 11))) (dC (.int 2147483629))))
 (Zg (ZR 2 (Ze Wz (Ze Z3 (Ze Z3 (Ze VR (Za 2) (Za 2)) (Ze VR (dC (.int 48271)) (Za 2))) (Za 1)) (dC (.int 2147483587))))
 (Zg (ZN (Ze Z3 (Ze VR (Za 2) (dC (.int 2147483579))) (Ze Wz (Ze Z3 (Ze VR (Za 2) (Za 2)) (Ze VR (dC (.int 69621)) (Za 1))) (dC (.int 2147483579)))))
 Zm))))
noncomputable def Ur:List D->M D:=runB 3 2 ZaE
noncomputable def ZgB:Zb->M Out:=(Zg (ZR 2 (Zs YJ (Zc (Za 0) (Zc (Ze Z3 (Za 1) (dC (.int 1))) Zf))))
 (Zg (sPar 3 4 (Zc (Zs YJ (Zc (Za 0) (Zc (dC (.int 4)) Zf))) (Zc (Ze Z3 (dC (.int 1)) (Zs YJ (Zc (Za 0) (Zc (dC (.int 3)) Zf)))) Zf)))
 (Zg (ZR 5 (Z7 [none,some 0] (YH (Za 2)) (Zv 0) Z1 (Zs YJ (Zc (Za 1) (Zc (dC (.int 2)) Zf)))))
 (Zg (WS 6 (Xc Zf))
 (Zg (YL (YH (Za 2)) (Zv 7)
 (Zg (YL (W3 (Ze Z3 (Za 7) (dC (.int 1))) (Za 2)) (Zv 8)
 (Zg (ZR 9 (fun ρ=>(Ze UU (Zs YJ (Zc (Za 0) (Zc (dC (.int 4)) Zf))) (Za 4)) (Z2 [6] ρ)))
 (Zg (Yl (X7 (ZO (Ze Yk (Za 3) (dC (.int 0)))) (X7 (ZO (Ze Yk (Ze Zq (Za 5) (Za 7)) (dC (.int 1)))) (ZO (Ze Yk (Ze Zq (Za 5) (Za 8)) (dC (.int 1))))))
 (Zg (ZR 9 (fun ρ=>(dC (.bl true)) (Z2 [6] ρ)))
 Zm)
 Zm)
 (Zg (Yl (ZO (Ze Yk (Za 3) (dC (.int 1))))
 (Zg (ZR 9 (fun ρ=>(US (Ze Yk (Ze Wy (Za 8) (Za 7)) (dC (.int 1))) (Ze Yk (Ze Wy (Za 8) (Za 7)) (Ze Wy (Za 2) (dC (.int 1))))) (Z2 [6] ρ)))
 Zm)
 Zm)
 (Zg (Yl (ZO (Za 9))
 (Zg (WT 6 (fun ρ=>(ZV (Zc (Za 7) (Zc (Za 8) Zf))) (Z2 [6] ρ)))
 Zm)
 Zm)
 Zm)))))
 Zm))
 (Zg (ZN (ZV (Zc (Za 2) (Zc (ZM Vn (Zc (Za 6) Zf)) Zf))))
 Zm))))))
noncomputable def Ut:List D->M D:=runB 10 2 ZgB
noncomputable def ZbZ:Zb->M Out:=(Zg (ZN (Ze XF (ZV (Zc (ZM Jq (Zc (Za 1) (Zc (Za 2) Zf))) (Zc (ZM UD (Zc (Za 1) (Zc (Za 2) Zf))) Zf))) (Ze Zq (Za 0) (dC (.int 1)))))
 Zm)
noncomputable def JN:List D->M D:=runB 3 3 ZbZ
local macro_rules | `(tactic| walk_at "ev")=>`(tactic| simp[runB,Zg,ZN,ZR,Zm,Yl,ZO,Ze,ZM,Zc,Zf,ZV,Xc,Za,dC,Zs,Zo,Zy,Y5,Z3,Wy,dI,Z2,Wh,US,UI,BI,X7,Vv,Wx])
noncomputable def Zr (p:Nat×Nat):D:=.tup [.int p.1,.int p.2]
noncomputable def Zz (n:Nat)(jD:Qa):D:=.tup [.int n,.tup (jD.map Zr)]
noncomputable def tied (jD:Qa)(a b:Nat):Bool:=decide ((min a b,max a b)∈jD)
theorem ZjT (p q:Nat×Nat):ZC (Zr p) (Zr q)=decide (p=q):=by
 obtain⟨a,b⟩:=p;obtain⟨c,d⟩:=q;simp only[Zr,ZC,Xj,Bool.and_true];by_cases h1:a=c
 ·by_cases h2:b=d
  ·subst h1 h2;simp
  ·have:((b:Int)==(d:Int))=false:=by simp;omega
   simp[this,h2]
 ·have:((a:Int)==(c:Int))=false:=by simp;omega
  simp[this,h1]
theorem Zis (p:Nat×Nat)(jD:Qa):Wa (Zr p) (jD.map Zr)=decide (p∈jD):=by
 unfold Wa
 induction jD with
 | nil=>simp
 | cons t ts ih=>
  rw[qX,qaV,ih,ZjT];by_cases h:t=p
  ·subst h;simp
  ·have:¬p=t:=λz=>h z.symm
   simp[h,this]
theorem Zb0:∀jD:Qa,Yq (jD.map Zr)=true
 | []=>by simp[Yq]
 | t::ts=>by simp[Yq,Zr,Zp,Zb0 ts]
theorem ZcS:∀jD:Qa,Xd (jD.map Zr)<=1
 | []=>by simp[Xd]
 | t::ts=>by
  have:=ZcS ts;simp only[qX,Xd,Zr,Z0];omega
theorem ZjU (p:Nat×Nat):Z0 (Zr p)=1:=by simp[Zr,Z0,Xd]
theorem ZgC (p:Nat×Nat):Zp (Zr p)=true:=by simp[Zr,Zp,Yq]
theorem ZgD (p:Nat×Nat)(jD:Qa):X9 (Zr p) (jD.map Zr)=true:=by
 have:=ZcS jD;simp[X9,ZgC,Zb0,ZjU];omega
theorem Zit (p:Nat×Nat)(jD:Qa):XF (Zr p) (.tup (jD.map Zr))=some (.bl (decide (p∈jD))):=by
 have:UL (Zr p) (.tup (jD.map Zr))=some (decide (p∈jD)):=by
  show(if X9 (Zr p) (jD.map Zr)=true then some (Wa (Zr p) (jD.map Zr))else none)=_;rw[if_pos (ZgD p jD),Zis]
 unfold XF;rw[this];rfl
theorem Znl (a b:Nat):(if (b:Int) > a then (b:Int)else a)=((max a b:Nat):Int):=by split <;> omega
theorem Zhu {α:Type}(x:α)(xs:List α):XV (x::xs) 0=some x:=W0 (j:=0) rfl
theorem Js {α:Type}(x y:α)(xs:List α):XV (x::y::xs) 1=some y:=W0 (j:=1) rfl
theorem two_le:2<=xg:=by decide
theorem ZcT (a b:Nat):D.tup [.int (if b<a then (b:Int)else a),.int (if a<b then (b:Int)else a)]=Zr (min a b,max a b):=by
 unfold Zr;congr 2
 ·congr 1;split <;> omega
 ·congr 2;split <;> omega
theorem Zfo (n:Nat)(jD:Qa)(a b:Nat)(s:Pn):JN [Zz n jD,.int a,.int b] s=some (.bl (tied jD a b),s):=by
 simp[JN,ZbZ,runB,Zg,ZN,Zm,Ze,ZM,Zc,Zf,ZV,Za,dC,Zo,Zy,Y5,Jq,UD,two_le,ZcT,Zz,Zq,Js,Zit,tied]
theorem Xm {src:List (Option Nat)}{fi:Zb->M (List D)}{τ:D->Zb->Option Zb}{ft:Zb->M Bool}{fe:Zb->M D}{ρ:Zb}{s:Pn}{ds:List D}(r:D->Zb)(b:D->Bool)(c:D->D)(hi:fi ρ s=some (ds,s))(hl:ds.length<=xg)
  (h:∀d∈ds,τ d (Wh src ρ)=some (r d)/\ft (r d) s=some (b d,s)/\(b d=true->fe (r d) s=some (c d,s))):Z7 src fi τ ft fe ρ s=some (.lst ((ds.filter b).map c),s):=by
 unfold Z7;simp only[Zo,hi,hl,if_true,ZdT r b c ds h,Zy]
theorem small_int (n:Nat)(h:n<=100000):-(2 ^ 62)<=(n:Int)/\(n:Int)<2 ^ 62:=by omega
theorem Yv:xg=16777216:=by decide
theorem X4 {f:Zb->M D}{ρ:Zb}{s:Pn}{n:Nat}(h:f ρ s=some (.int n,s))(hn:n<=100000):YH f ρ s=some (ZY 0 n,s):=by
 unfold YH;simp only[Zo,h];show(if -(2 ^ 62)<=(n:Int)/\(n:Int)<2 ^ 62 then Zy (ZY 0 (n:Int).toNat)else ZG) s=_;rw[if_pos (small_int n hn)];rfl
theorem J6 {f g:Zb->M D}{ρ:Zb}{s:Pn}{a n:Nat}(h:f ρ s=some (.int a,s))(h2:g ρ s=some (.int n,s))(ha:a<=100000)(hn:n<=100000):W3 f g ρ s=some (ZY a (n-a),s):=by
 unfold W3;simp only[Zo,h,h2];show(if -(2 ^ 62)<=(a:Int)/\(a:Int)<2 ^ 62/\-(2 ^ 62)<=(n:Int)/\(n:Int)<2 ^ 62 then Zy (ZY a ((n:Int)-a).toNat)else ZG) s=_;rw[if_pos (by omega),show((n:Int)-(a:Int)).toNat=n-a by omega];rfl
theorem XH (lo:Int)(n:Nat):(ZY lo n).length=n:=by simp[ZY]
theorem JT {lo n i:Nat}{d:D}(h:(ZY lo n)[i]?=some d):i<n/\d=.int ((lo+i:Nat):Int):=by
 have hi:i<n:=by
  have:=(qA.mp h).1;simpa[ZY]using this
 refine⟨hi,?_⟩;unfold ZY at h;rw[qI,yX hi]at h;simp at h;rw[<-h];simp
theorem B7 {n:Nat}{d:D}(h:d∈ZY 0 n):∃i:Nat,i<n/\d=.int (i:Int):=by
 unfold ZY at h;obtain⟨i,hi,e⟩:=qp.mp h;exact⟨i,by simpa using hi,by rw[<-e];simp⟩
theorem VE (n:Nat):ZY 0 n=(qk n).map λ(i:Nat)=>D.int (i:Int):=by
 unfold ZY;simp
noncomputable def ZS:D->Nat
 | .int i=>i.toNat
 | _=>0
theorem Zfp (n:Nat)(p:Nat->Bool):((ZY 0 n).filter λd=>p (ZS d)).map (λd=>d)=((qk n).filter p).map λ(i:Nat)=>D.int (i:Int):=by
 rw[VE,qaY];simp only[List.map_id'];congr 1
theorem jr {α:Type}{m:M α}{s s':Pn}{a:α}(h:Ok m s λb t=>b=a/\t=s'):m s=some (a,s'):=by
 obtain⟨b,t,e,rfl,rfl⟩:=h;exact e
theorem Zet {n:Nat}(hn:n<=100000):(ZY 0 n).length<=xg:=by rw[XH,Yv];omega
noncomputable def JB (row:D)(ds:List D):Prop:=row=.lst ds∨row=.tup ds
theorem JB.len {row:D}{ds:List D}(h:JB row ds):Xp [row]=some (.int ds.length):=by
 rcases h with rfl | rfl <;> rfl
theorem JB.ix {row:D}{ds:List D}(h:JB row ds){i:Nat}(hi:i<ds.length):Zq row (.int (i:Int))=some (ds.getD i .non):=by
 have e:ds[i]?=some (ds.getD i .non):=by simp[qbv,hi]
 rcases h with rfl | rfl <;> exact W0 e
noncomputable def Xe (n i:Nat):Qa:=(qk i).flatMap λa=>(qk (n-(a+1))).map λk=>(a,a+1+k)
noncomputable def YF (n:Nat):Qa:=Xe n n
theorem J7 (n i:Nat):Xe n (i+1)=Xe n i++(qk (n-(i+1))).map λk=>(i,i+1+k):=by
 unfold Xe;rw[qaZ,List.flatMap_append];simp
theorem Zbg (n:Nat):∀i,(Xe n i).length<=i*n
 | 0=>by simp[Xe]
 | i+1=>by
  have:=Zbg n i;rw[J7,qE,qd,qQ];have e:(i+1)*n=i*n+n:=Nat.succ_mul i n;omega
noncomputable def Uj (ds:List D)(p:Nat×Nat):D:=.tup [ds.getD p.1 .non,ds.getD p.2 .non]
theorem Zhv (n i j:Nat)(hn:n<=1000)(hi:i<n)(hj:j<=n):(Xe n i).length+j<xg:=by
 have h1:=Zbg n i;have h2:i*n<=1000*1000:=qat (by omega) hn;rw[Yv];omega
theorem Zfq (row:D)(ds:List D)(h:JB row ds)(hn:ds.length<=1000)(s:Pn):JS [row] s=some (.lst ((YF ds.length).map (Uj ds)),s):=by
 refine Ws rfl (jr ?_);refine Ok.seq (.sown (.eq (a:=.lst []) rfl ⟨rfl,?_⟩));show Ok _ s _;refine Ok.seq (.sfor (λi ρ s'=>s=s'/\∃o2 o3,ρ=[some row,some (.lst ((Xe ds.length i).map (Uj ds))),o2,o3]) (.eq (X4 (Ym (Zh rfl rfl) h.len) (by omega)) ⟨⟨rfl,none,none,rfl⟩,λi d ρ s' hd hI=>?_,fun ρ' s' hI=>?_⟩))
 ·obtain⟨rfl,o2,o3,rfl⟩:=hI
  obtain⟨hi,rfl⟩:=JT hd;refine⟨_,rfl,?_⟩;refine Ok.seq (.sfor (λj ρ s'=>s=s'/\∃o3,ρ=[some row,some (.lst ((Xe ds.length i).map (Uj ds)++(qk j).map λk=>Uj ds (i,i+1+k))),some (.int ((0+i:Nat):Int)),o3]) (.eq (J6 (a:=i+1) (Zw (d:=.int ((0+i:Nat):Int)) (e:=.int 1) (c:=.int ((i+1:Nat):Int)) rfl rfl (by simp[Z3])) (Ym (Zh rfl rfl) h.len) (by omega) (by omega)) ⟨⟨rfl,o3,by simp⟩,λj d ρ s' hd hJ=>?_,fun ρ' s' hJ=>?_⟩))
  ·obtain⟨rfl,o3,rfl⟩:=hJ
   obtain⟨hj,rfl⟩:=JT hd;refine⟨_,rfl,?_⟩;refine Ok.seq (.sapp (ds:=(Xe ds.length i).map (Uj ds)++(qk j).map λk=>Uj ds (i,i+1+k)) rfl (by simp only[qE,qd,qQ];exact Zhv _ _ _ hn hi (by omega)) (.eq (XY (Zh (Zw (d:=row) (e:=.int ((0+i:Nat):Int)) rfl rfl (by rw[yS];exact h.ix hi)) (Zh (Zw (d:=row) (e:=.int ((i+1+j:Nat):Int)) rfl rfl (h.ix (by omega))) rfl)) two_le) ?_));refine Ok.next ⟨_,rfl,rfl,some (.int ((i+1+j:Nat):Int)),?_⟩;rw[qaZ,zx,<-qR];rfl
  ·obtain⟨rfl,o3',rfl⟩:=hJ
   refine Ok.next ⟨_,rfl,rfl,some (.int ((0+i:Nat):Int)),o3',?_⟩;rw[J7,zx,qC,XH];rfl
 ·obtain⟨rfl,o2,o3,rfl⟩:=hI
  refine Ok.seq (.sret (.eq rfl ⟨?_,rfl⟩));rw[XH];rfl
noncomputable def XR (p:Nat×Nat):List Zu:=[.inl (p.1:Int),.inl (p.2:Int)]
theorem ZjV {p q:Nat×Nat}(h:XR p=XR q):p=q:=by
 simp only[XR,qbz,yr.injEq,and_true]at h;obtain⟨a,b⟩:=p;obtain⟨c,d⟩:=q;simp only at h;have h1:a=c:=by omega
 have h2:b=d:=by omega
 rw[h1,h2]
noncomputable def YQ (acc:List (List Zu×V))(jD:Qa):List (List Zu×V):=jD.foldl (λacc p=>Ys acc (XR p) (.bl true)) acc
theorem ZlI (p:Nat×Nat):Zhs (.tup [Zr p,.bl true])=some (XR p,.bl true):=rfl
theorem ZdU:∀(jD:Qa) (acc:List (List Zu×V)),W7 acc (jD.map λp=>D.tup [Zr p,.bl true])=some (YQ acc jD)
 | [],acc=>rfl
 | t::ts,acc=>by
  rw[qX];unfold W7;rw[ZlI];exact ZdU ts _
theorem Zfr (p:Nat×Nat):∀(jD:Qa) (acc:List (List Zu×V)),(Yb (YQ acc jD) (XR p)).isSome=(decide (p∈jD)||(Yb acc (XR p)).isSome)
 | [],acc=>by simp[YQ]
 | t::ts,acc=>by
  have ih:=Zfr p ts (Ys acc (XR t) (.bl true));have e:YQ acc (t::ts)=YQ (Ys acc (XR t) (.bl true)) ts:=rfl;rw[e,ih,Zfa];by_cases h:p=t
  ·subst h;simp
  ·have hk:¬XR p=XR t:=λz=>h (ZjV z)
   rw[if_neg hk];simp[h]
theorem ZdV (n:Nat)(jD:Qa)(s:Pn)(hl:jD.length<=100000):Um [Zz n jD] s=some (.dt (YQ [] jD),s):=by
 have hc:Z7 [none] (XB (Ze Zq (Za 0) (dC (.int 1)))) (Zv 0) Z1 (ZV (Zc (Za 0) (Zc (dC (.bl true)) Zf))) [some (Zz n jD)] s=some (.lst ((jD.map Zr).map λd=>D.tup [d,.bl true]),s):=by
  have q:=Xm (src:=[none]) (fi:=XB (Ze Zq (Za 0) (dC (.int 1)))) (τ:=Zv 0) (ft:=Z1) (fe:=ZV (Zc (Za 0) (Zc (dC (.bl true)) Zf))) (ρ:=[some (Zz n jD)]) (s:=s) (ds:=jD.map Zr) (λd=>[some d]) (λ_=>true) (λd=>D.tup [d,.bl true])
   (by unfold XB Zo;rw[Zw (d:=Zz n jD) (e:=.int 1) (c:=.tup (jD.map Zr)) rfl rfl (by unfold Zz;exact Js _ _ _)];rfl) (by rw[qd,Yv];omega)
   (λd hd=>⟨rfl,rfl,λ_=>XY (Zh rfl (Zh rfl rfl)) two_le⟩)
  have q2:(jD.map Zr).filter (λ_=>true)=jD.map Zr:=qcJ.mpr (by simp);rw[q,q2]
 refine Ws rfl (XX (Wt (Ym (Zh hc rfl) ?_)));rw[qC];show(if ((jD.map ((λd=>D.tup [d,.bl true])∘Zr)).length<=xg)then (W7 [] _).map D.dt else none)=_;rw[if_pos (by rw[qd,Yv];omega)];have e:=ZdU jD [];show(W7 [] (jD.map λp=>D.tup [Zr p,.bl true])).map D.dt=_;rw[e];rfl
theorem Zbh {n i:Nat}{p:Nat×Nat}(h:p∈Xe n i):p.1<i/\p.1<p.2/\p.2<n:=by
 unfold Xe at h;obtain⟨a,ha,h⟩:=qbr.mp h;obtain⟨k,hk,rfl⟩:=qp.mp h;simp at ha hk;exact⟨ha,by simp;omega,by simp;omega⟩
theorem Ziu {n:Nat}{p:Nat×Nat}(h:p∈YF n):Uj (ZY 0 n) p=Zr p:=by
 obtain⟨h1,h2,h3⟩:=Zbh h;have g:∀i,i<n->(ZY 0 n).getD i .non=.int (i:Int):=λi hi=>by
  rw[VE];simp[qbv,hi]
 unfold Uj Zr;rw[g _ h1,g _ h3]
theorem Zfs {n:Nat}(s:Pn)(hn:n<=1000):JS [.lst (ZY 0 n)] s=some (.lst ((YF n).map Zr),s):=by
 rw[Zfq _ _ (.inl rfl) (by rw[XH];exact hn) s,XH];congr 3;exact zl λp hp=>Ziu hp
theorem Zbi {f:Zb->M D}{ρ:Zb}{s:Pn}{n:Nat}(h:f ρ s=some (.int n,s))(hn:n<=1000):Vz f ρ s=some (.lst (ZY 0 n),s):=by
 unfold Vz Zo;rw[h];show(if -(2 ^ 62)<=(n:Int)/\(n:Int)<=2 ^ 24 then Zy (D.lst (ZY 0 (n:Int).toNat))else ZG) s=_;rw[if_pos (by omega)];rfl
theorem ZjW (n:Nat)(hn:n<=1000):(YF n).length<=1000000:=by
 have h1:=Zbg n n;have h2:n*n<=1000*1000:=qat hn hn;unfold YF;omega
theorem Zeu (l:Qa)(b:D->Bool)(q:Nat×Nat->Bool)(h:∀p,b (Zr p)=q p):((l.map Zr).filter b).map (λd=>d)=(l.filter q).map Zr:=by
 rw[qaY,List.map_id'];congr 1;exact List.filter_congr λp _=>h p
noncomputable def nat2:D->Nat×Nat
 | .tup [a,b]=>(ZS a,ZS b)
 | _=>(0,0)
theorem Ziv (p:Nat×Nat):nat2 (Zr p)=p:=rfl
end TP
namespace TF
open L2
theorem Zhw {n:Nat}:∀(l:List D),(∀d∈l,Z0 d<=n)->Xd l<=n
 | [],_=>by simp[Xd]
 | d::l,h=>by
  have:=h d (by simp);have:=Zhw l λx m=>h x (by simp[m]);simp only[Xd];omega
theorem Ok.runB {n k:Nat}{g:Zb->M Out}{ds:List D}{s:Pn}{Q:D->Pn->Prop}(hl:ds.length=k)(h:Ok (g (ds.map some++zT (n-k) none)) s λo s'=>match o with | .rt d=>Q d s' | .nx _=>Q .non s' | _=>False):Ok (runB n k g ds) s Q:=by
 unfold TF.runB;rw[if_pos hl];refine .bind (h.mono λo s' q=>?_)
 cases o with
 | rt d=>exact .ret q
 | nx ρ=>exact .ret q
 | bk ρ=>exact q.elim
 | ct ρ=>exact q.elim
theorem Ok.band {f g:Zb->M Bool}{ρ:Zb}{s:Pn}{Q:Bool->Pn->Prop}(h:Ok (f ρ) s λb s1=>if b=true then Ok (g ρ) s1 Q else Q false s1):Ok (X7 f g ρ) s Q:=by
 refine .bind (h.mono λb s1 q=>?_)
 cases b with
 | true=>simpa using q
 | false=>exact .ret (by simpa using q)
theorem Ok.fn {F:List D->M D}{fs:Zb->M (List D)}{ρ:Zb}{s s1:Pn}{ds:List D}{Q:D->Pn->Prop}(h1:fs ρ s=some (ds,s1))(h:Ok (F ds) s1 Q):Ok (Zs F fs ρ) s Q:=by
 obtain⟨a,s',e,q⟩:=h;exact⟨a,s',YA h1 e,q⟩
theorem Ok.draw {fs:Zb->M (List D)}{ρ:Zb}{s:Pn}{m:Nat}{Q:D->Pn->Prop}(ok:YO s)(h1:fs ρ s=some ([.pen,.int (m:Int)],s))(hm:0<m)(hm2:m<1073741824)(h:∀(r:Nat) s',r<m->YO s'->Q (.int (r:Int)) s'):Ok (Zs YJ fs ρ) s Q:=by
 obtain⟨r,s1,e,r0,r1,ok1⟩:=ZlG ok (show 0<(m:Int) by omega) (show(m:Int)<1073741824 by omega);obtain⟨n,rfl⟩:=Int.eq_ofNat_of_zero_le r0;exact .fn h1 (.eq e (h n s1 (by omega) ok1))
theorem Ok.op {g:D->D->Option D}{f f2:Zb->M D}{ρ:Zb}{s:Pn}{Q:D->Pn->Prop}(h:Ok (f ρ) s λd s1=>Ok (f2 ρ) s1 λe s2=>∃c,g d e=some c/\Q c s2):Ok (Ze g f f2 ρ) s Q:=
 .bind (h.mono λd s1 q=>.bind (q.mono λe s2 q=>let ⟨c,e1,q⟩:=q;.of e1 q))
theorem Ok.cons {f:Zb->M D}{fs:Zb->M (List D)}{ρ:Zb}{s:Pn}{Q:List D->Pn->Prop}(h:Ok (f ρ) s λd s1=>Ok (fs ρ) s1 λds s2=>Q (d::ds) s2):Ok (Zc f fs ρ) s Q:=
 .bind (h.mono λd s1 q=>.bind (q.mono λe s2 q=>.ret q))
theorem Ok.nil {ρ:Zb}{s:Pn}{Q:List D->Pn->Prop}(h:Q [] s):Ok (Zf ρ) s Q:=.ret h
theorem Ok.comp {src:List (Option Nat)}{fi:Zb->M (List D)}{τ:D->Zb->Option Zb}{fe:Zb->M D}{ρ:Zb}{s:Pn}{ds:List D}{Q:D->Pn->Prop}(P:D->Prop)(I:Pn->Prop)(hi:fi ρ s=some (ds,s))(hl:ds.length<=xg)(h0:I s)
  (hb:∀d∈ds,∀s,I s->∃ρ1,τ d (Wh src ρ)=some ρ1/\Ok (fe ρ1) s λc s'=>P c/\I s') (hq:∀r s',r.length=ds.length->(∀c∈r,P c)->I s'->Q (.lst r) s'):Ok (Z7 src fi τ Z1 fe ρ) s Q:=by
 unfold Z7;refine .bind (.eq hi ?_);exact .ite hl (.bind ((ZcQ P I ds s h0 hb).mono λr s' q=>.ret (hq r s' q.1 q.2.1 q.2.2)))
end TF
namespace TP
open L2 TF
theorem ZcU (n:Nat):∀i,(Xe n i).Nodup
 | 0=>by simp[Xe]
 | i+1=>by
  rw[J7,yV];refine⟨ZcU n i,?_,?_⟩
  ·refine ze.mpr (List.Pairwise.imp ?_ zY)
   intro a b h e;have:=congrArg Prod.snd e;simp at this;exact h this
  ·intro a ha b hb e
   have h1:=(Zbh ha).1;obtain⟨k,_,rfl⟩:=qp.mp hb;rw[e]at h1;simp at h1
theorem Za3 (n:Nat):(YF n).Nodup:=ZcU n n
theorem Uw {n:Nat}{p:Nat×Nat}:p∈YF n↔p.1<p.2/\p.2<n:=by
 constructor
 ·intro h;exact(Zbh h).2
 ·intro ⟨h1,h2⟩
  unfold YF Xe;refine qbr.mpr ⟨p.1,by simp;omega,qp.mpr ⟨p.2-(p.1+1),by simp;omega,?_⟩⟩;obtain⟨a,b⟩:=p;simp only at h1 h2⊢;rw[show a+1+(b-(a+1))=b by omega]
theorem Us {n i:Nat}{d:D}(h:(ZY 0 n)[i]?=some d):i<n/\d=.int (i:Int):=by
 have:=JT (lo:=0) h;rw[yS]at this;exact this
noncomputable def Z8 (n:Nat)(jD:Qa):Prop:=jD.Sublist (YF n)
theorem Z8.mem {n:Nat}{jD:Qa}(h:Z8 n jD){p:Nat×Nat}(hp:p∈jD):p.1<p.2/\p.2<n:=Uw.mp (h.subset hp)
theorem Z8.len {n:Nat}{jD:Qa}(h:Z8 n jD)(hn:n<=24):jD.length<=576:=by
 have h1:=h.length_le;have h2:=Zbg n n;have h3:n*n<=24*24:=qat hn hn;unfold YF at h1;omega
theorem Z8.filter {n:Nat}(f:Nat×Nat->Bool):Z8 n ((YF n).filter f):=zm
theorem Zcv {jD:Qa}{a b:Nat}(h:a<b):tied jD a b=decide ((a,b)∈jD):=by
 unfold tied;rw[show min a b=a by omega,show max a b=b by omega]
theorem ZaQ (jD:Qa)(a b:Nat):tied jD a b=tied jD b a:=by
 unfold tied;rw[show min a b=min b a by omega,show max a b=max b a by omega]
theorem VT {n:Nat}{jD:Qa}:Zq (Zz n jD) (.int 0)=some (.int n):=by unfold Zz;exact Zhu _ _
theorem web1 {n:Nat}{jD:Qa}:Zq (Zz n jD) (.int 1)=some (.tup (jD.map Zr)):=by unfold Zz;exact Js _ _ _
theorem Zft (YT rate n i j:Nat)(somes:List D)(hi:i<somes.length)(hj:j<somes.length)(hs:∀c∈somes,∃k:Int,c=.int k)(x0 x1 x6:Option D)(s:Pn)(o9:Bool){g:Zb->M Out}{Q:Out->Pn->Prop}
  (hg:∀b,Ok (g [x0,x1,some (.int n),some (.int YT),some (.int rate),some (.lst somes),x6,some (.int i),some (.int j),some (.bl b)]) s Q) :
  Ok ((Zg (Yl (X7 (ZO (Ze Yk (Za 3) (dC (.int 0)))) (X7 (ZO (Ze Yk (Ze Zq (Za 5) (Za 7)) (dC (.int 1)))) (ZO (Ze Yk (Ze Zq (Za 5) (Za 8)) (dC (.int 1))))))
 (Zg (ZR 9 (fun ρ=>(dC (.bl true)) (Z2 [6] ρ)))
 Zm)
 Zm)
 (Zg (Yl (ZO (Ze Yk (Za 3) (dC (.int 1))))
 (Zg (ZR 9 (fun ρ=>(US (Ze Yk (Ze Wy (Za 8) (Za 7)) (dC (.int 1))) (Ze Yk (Ze Wy (Za 8) (Za 7)) (Ze Wy (Za 2) (dC (.int 1))))) (Z2 [6] ρ)))
 Zm)
 Zm) g)) [x0,x1,some (.int n),some (.int YT),some (.int rate),some (.lst somes),x6,some (.int i),some (.int j),some (.bl o9)]) s Q:=by
 have Vi:∀a b:Int,Yk (.int a) (.int b)=some (.bl (a==b)):=λa b=>by
  unfold Yk;rw[if_pos (by simp[Vc,Zp,Z0])];simp[ZC]
 have ixs:∀k,k<somes.length->∃v:Int,Zq (.lst somes) (.int (k:Int))=some (.int v):=λk hk=>by
  obtain⟨v,hv⟩:=hs (somes[k]) (y4 hk);exact⟨v,by rw[<-hv];exact W0 (by simp[hk])⟩
 obtain⟨v1,e1⟩:=ixs i hi;obtain⟨v2,e2⟩:=ixs j hj;have last:∀b,Ok ((Zg (Yl (ZO (Ze Yk (Za 3) (dC (.int 1))))
 (Zg (ZR 9 (fun ρ=>(US (Ze Yk (Ze Wy (Za 8) (Za 7)) (dC (.int 1))) (Ze Yk (Ze Wy (Za 8) (Za 7)) (Ze Wy (Za 2) (dC (.int 1))))) (Z2 [6] ρ)))
 Zm)
 Zm) g) [x0,x1,some (.int n),some (.int YT),some (.int rate),some (.lst somes),x6,some (.int i),some (.int j),some (.bl b)]) s Q:=by
  intro b;refine .seq (.sif (.eq (Yw (Zw (d:=.int (YT:Int)) (e:=.int 1) rfl rfl (Vi _ _))) ?_));split
  ·refine .seq (.sset ?_)
   refine .bind (.eq (Zw (d:=.int ((j:Int)-i)) (e:=.int 1) (Zw (d:=.int (j:Int)) (e:=.int (i:Int)) rfl rfl rfl) rfl (Vi _ _)) ?_);generalize ((j:Int)-i==1)=c
   cases c with
   | true=>
    refine .ret (.next ?_);exact hg true
   | false=>
    refine .eq (Zw (d:=.int ((j:Int)-i)) (e:=.int ((n:Int)-1)) (Zw (d:=.int (j:Int)) (e:=.int (i:Int)) rfl rfl rfl) (Zw (d:=.int (n:Int)) (e:=.int 1) rfl rfl rfl) (Vi _ _)) (.next ?_);exact hg _
  ·refine .next ?_
   exact hg b
 refine .seq (.sif (.band (.eq (Yw (Zw (d:=.int (YT:Int)) (e:=.int 0) rfl rfl (Vi _ _))) ?_)));split
 ·refine .band (.eq (Yw (Zw (d:=.int v1) (e:=.int 1) (Zw (d:=.lst somes) (e:=.int (i:Int)) rfl rfl e1) rfl (Vi _ _))) ?_)
  split
  ·refine .eq (Yw (Zw (d:=.int v2) (e:=.int 1) (Zw (d:=.lst somes) (e:=.int (j:Int)) rfl rfl e2) rfl (Vi _ _))) ?_
   split
   ·refine .seq (.sset (.eq (a:=.bl true) rfl ?_))
    refine .next ?_;exact last true
   ·refine .next ?_
    exact last o9
  ·refine .next ?_
   exact last o9
 ·refine .next ?_
  exact last o9
theorem ZlJ {n i j:Nat}{l:Qa}(h:l.Sublist (Xe n i++(qk j).map λk=>(i,i+1+k)))(hn:n<=1000)(hi:i<n)(hj:j<=n):(l.map Zr).length<xg:=by
 have h1:=h.length_le;rw[qE,qd,qQ]at h1;have h2:=Zhv n i j hn hi hj;rw[qd];omega
theorem ZjX {s:Pn}(ok:YO s)(most:Nat)(hm:most<=24):Ok (Ut [.pen,.int (most:Int)]) s λd s'=>YO s'/\∃n jD,d=Zz n jD/\n<=most/\Z8 n jD:=by
 refine Ok.runB rfl ?_;refine Ok.seq (.sset (.draw (m:=most+1) ok (Zh rfl (Zh (Zw (d:=.int (most:Int)) (e:=.int 1) rfl rfl rfl) rfl)) (by omega) (by omega) λn s1 hn ok1=>?_));refine Ok.seq (.spar (.cons (.draw (m:=4) ok1 (Zh rfl (Zh rfl rfl)) (by omega) (by omega) λYT s2 hw ok2=>.cons (.op (.eq (a:=.int 1) rfl (.draw (m:=3) ok2 (Zh rfl (Zh rfl rfl)) (by omega) (by omega) λr s3 hr ok3=>⟨.int ((1+r:Nat):Int),by simp[Z3],.nil ⟨_,_,rfl,rfl,rfl,?_⟩⟩))))));refine Ok.seq (.sset (.comp (ds:=ZY 0 n) (λc=>∃k:Int,c=.int k) YO (X4 rfl (by omega)) (Zet (by omega)) ok3 (λd hd s ok=>⟨_,rfl,.draw (m:=2) ok (Zh rfl (Zh rfl rfl)) (by omega) (by omega) λr s' _ ok'=>⟨⟨_,rfl⟩,ok'⟩⟩) λsomes s4 hl hs ok4=>?_));rw[XH]at hl;refine Ok.seq (.sown (.eq (a:=.lst []) rfl ⟨rfl,?_⟩));refine Ok.seq (.sfor (λi ρ s'=>YO s'/\∃(jD:Qa) (o7 o8 o9:Option D),jD.Sublist (Xe n i)/\ρ=[some .pen,some (.int (most:Int)),some (.int (n:Int)),some (.int (YT:Int)),some (.int ((1+r:Nat):Int)),some (.lst somes),some (.lst (jD.map Zr)),o7,o8,o9]) (.eq (X4 rfl (by omega)) ⟨⟨ok4,[],none,none,none,List.nil_sublist _,rfl⟩,λi d ρ s' hd hI=>?_,fun ρ' s' hI=>?_⟩))
 ·obtain⟨ok5,jD,o7,o8,o9,hsub,rfl⟩:=hI
  obtain⟨hi,rfl⟩:=Us hd;refine⟨_,rfl,?_⟩;refine Ok.seq (.sfor (λj ρ s'=>YO s'/\∃(jD:Qa) (o8 o9:Option D),jD.Sublist (Xe n i++(qk j).map λk=>(i,i+1+k))/\ρ=[some .pen,some (.int (most:Int)),some (.int (n:Int)),some (.int (YT:Int)),some (.int ((1+r:Nat):Int)),some (.lst somes),some (.lst (jD.map Zr)),some (.int (i:Int)),o8,o9]) (.eq (J6 (a:=i+1) (n:=n) (Zw (d:=.int (i:Int)) (e:=.int 1) (c:=.int ((i+1:Nat):Int)) rfl rfl (by simp[Z3])) rfl (by omega) (by omega)) ⟨⟨ok5,jD,o8,o9,by simpa using hsub,rfl⟩,λj d ρ s' hd hJ=>?_,fun ρ' s' hJ=>?_⟩))
  ·obtain⟨ok6,jD,o8,o9,hsub,rfl⟩:=hJ
   obtain⟨hj,rfl⟩:=JT hd;refine⟨_,rfl,?_⟩;refine Ok.seq (.sset (.op (.draw (m:=4) ok6 (Zh rfl (Zh rfl rfl)) (by omega) (by omega) λv s7 hv ok7=>.eq (a:=.int ((1+r:Nat):Int)) rfl ⟨_,rfl,?_⟩)));have fin:∀b,Ok (Zg (Yl (ZO (Za 9)) (Zg (WT 6 (fun ρ=>(ZV (Zc (Za 7) (Zc (Za 8) Zf))) (Z2 [6] ρ))) Zm) Zm) Zm [some .pen,some (.int (most:Int)),some (.int (n:Int)),some (.int (YT:Int)),some (.int ((1+r:Nat):Int)),some (.lst somes),some (.lst (jD.map Zr)),some (.int (i:Int)),some (.int ((i+1+j:Nat):Int)),some (.bl b)]) s7
     λo s'=>∃ρ',o=.nx ρ'/\YO s'/\∃(jD:Qa) (o8 o9:Option D),jD.Sublist (Xe n i++(qk (j+1)).map λk=>(i,i+1+k))/\ρ'=[some .pen,some (.int (most:Int)),some (.int (n:Int)),some (.int (YT:Int)),some (.int ((1+r:Nat):Int)),some (.lst somes),some (.lst (jD.map Zr)),some (.int (i:Int)),o8,o9]:=by
    intro b;refine Ok.seq (.sif (.eq (Yw rfl) ?_))
    cases b with
    | true=>
     refine .seq (.sapp (ds:=jD.map Zr) rfl (ZlJ hsub (by omega) hi (by omega)) (.eq (XY (Zh rfl (Zh rfl rfl)) two_le) ?_));refine .next (.next ⟨_,rfl,ok7,jD ++ [(i,i+1+j)],some (.int ((i+1+j:Nat):Int)),some (.bl true),?_,?_⟩)
     ·rw[qaZ,zx,<-qR]
      exact List.Sublist.append hsub (List.Sublist.refl _)
     ·rw[zx];rfl
    | false=>
     refine .next (.next ⟨_,rfl,ok7,jD,some (.int ((i+1+j:Nat):Int)),some (.bl false),?_,rfl⟩);rw[qaZ,zx,<-qR];exact hsub.trans (List.sublist_append_left _ _)
   exact Zft YT (1+r) n i (i+1+j) somes (by omega) (by omega) hs (some .pen) (some (.int (most:Int))) (some (.lst (jD.map Zr))) s7 (decide ((v:Int)<((1+r:Nat):Int))) fin
  ·obtain⟨ok6,jD,o8',o9',hsub,rfl⟩:=hJ
   refine Ok.next ⟨_,rfl,ok6,jD,some (.int (i:Int)),o8',o9',?_,rfl⟩;rw[J7]
   rwa[XH]at hsub
 ·obtain⟨ok5,jD,o7,o8,o9,hsub,rfl⟩:=hI
  rw[XH]at hsub;exact Ok.seq (.sret (.eq (XY (Zh rfl (Zh (Ym (Zh rfl rfl) rfl) rfl)) two_le) ⟨ok5,n,jD,rfl,by omega,hsub⟩))
end TP
namespace HT
section
variable {prog:xB}{w:World}{A:xC}{E:xD}{s:Shared}
theorem getItem_tuple_whole {t sl:Addr}{items:Array Value}{vl vu:Value}{lo hi:Option Int}{Q:xD}(ht:IsTup s.heap t items)(hs:s.heap.IsSliceOf sl vl vu .none)(pl:IsPart vl lo)(pu:IsPart vu hi)
  (hw:sIx items.size 0 lo=0/\sIx items.size items.size hi=items.size)
  (h:Q (.ref t) s)
  (hsz:items.size<=xg):xf (xz prog w) A (getItem (.ref t) (.ref sl)) Q E s:=by
 obtain⟨os,hos,hcs,hds⟩:=id hs;have hTs:s.TypeIs (.ref sl) "slice":=⟨os,hos,hcs⟩;unfold getItem
 try with_reducible refine xu ?_
 first | refine xa (xb ?_) | skip
 refine xa (wpAny_sequenceKey ht.typeIs (by decide) ?_);refine xa (wpAny_callSpecial?_slot (name:=qav "__getitem__") ht.typeIs zv
  (wpAny_call_entry zv ht.typeIs entry_tuple_getitem ?_ (args_tuple_getitem _ _)))
 show xf _ _ (qaU (.ref t) >>= _) _ _ s;refine xa (tupleItemsOf_ ht ?_);refine xa (wpAny_typeOf hTs ?_);rw[if_pos (by decide)];refine xa (Zaq hs pl pu ?_);have hyes:((((sIx items.size 0 lo:Nat):Int)==0&&(1:Int)==1&&(sIx items.size items.size hi-sIx items.size 0 lo)==items.size)=true):=by
  rw[hw.1,hw.2];simp
 show xf _ _ (if (((sIx items.size 0 lo:Nat):Int)==0&&(1:Int)==1&&(sIx items.size items.size hi-sIx items.size 0 lo)==items.size)=true then _ else _) _ _ s;rw[if_pos hyes];unfold qbN;refine xa (xa (wpAny_typeOf ht.typeIs ?_));refine xb ?_;rw[if_pos (by decide)];refine xa (wpAny_rule ?_)
 first
  | exact xa (xb ⟨_,rfl,xb h⟩)
  | exact xa (xb (xb ⟨_,rfl,xb h⟩))
end
end HT
namespace TF
open L2
noncomputable def Zon (K:qm):V->Option Int->Option Int->Hp->VK->Prop:=λx lo hi H Q=>∃a xs,x=.ref a/\ZI K H a xs/\
 (HT.sIx xs.length 0 lo=0/\HT.sIx xs.length xs.length hi=xs.length)/\Q (.ref a) H
section
variable {X:Cx}{G:Gh}
theorem ZlK:Ug X (Zon X.K):=by
 intro jC s σ H x v vl vu lo hi sl Q I rx hs pl pu h;obtain⟨a,xs,rfl,hx,hw,q⟩:=h
 cases rx
 obtain⟨jH,r,ht,hz⟩:=I.tuple hx;have jN:jH.toArray.size=xs.length:=by rw[qL];exact r.length.symm
 refine⟨"tuple",_,zv.lookup,ht.typeIs,?_⟩;exact HT.getItem_tuple_whole ht hs pl pu (by rw[jN];exact hw) ⟨.ref a,H,I,rfl,q⟩ (by rw[jN];exact hz)
noncomputable def Ue (ds:List D)(lo hi:Option Int):List D:=(ds.drop (HT.sIx ds.length 0 lo)).take (HT.sIx ds.length ds.length hi-HT.sIx ds.length 0 lo)
noncomputable def BU (X:Cx)(G:Gh)(e:Option Expr)(f:Zb->M (Option Int)):Prop:=
 ∃t,PO X e t/\∀(σ:St) (Hf H:Hp) (ρ:Zb) (s:Pn) (o:Option Int) (s':Pn) (Q:Option Int->Hp->Prop),ZA G Hf H->YK G Hf σ ρ->G.st s H->f ρ s=some (o,s')->
  (∀Hf' H',Gr G Hf H Hf' H'->G.st s' H'->Q o H')->t σ H Q
noncomputable def Zmw:Zb->M (Option Int):=λ_=>Zy none
noncomputable def By (f:Zb->M D):Zb->M (Option Int):=fun ρ=>Zo (f ρ) λd=>match d with | .int i=>Zy (some i) | _=>ZG
theorem ZjY:BU X G none Zmw:=⟨_,Zlh,fun σ Hf H ρ s o s' Q e1 e2 e3 e4 k=>by
 obtain⟨rfl,rfl⟩:=ZQ e4;exact k Hf H (.refl e1) e3⟩
theorem Zfu {e:Expr}{f:Zb->M D}{r1:Bool}(h:PD X G r1 e f):BU X G (some e) (By f):=by
 obtain⟨t,p,q⟩:=h.drop;refine⟨_,Zli p,fun σ Hf H ρ s o s' Q e1 e2 e3 e4 k=>?_⟩;obtain⟨d,s1,a1,a2⟩:=ZF e4;refine q σ Hf H ρ s d s1 _ e1 e2 e3 a1 λv jQ H1 g1 jT r1=>?_
 match d,a2,r1 with
 | .int i,a2,r1=>
  obtain⟨rfl,rfl⟩:=ZQ a2;exact⟨i,ja.mp r1,k jQ H1 g1 jT⟩
noncomputable def ZjZ (f:Zb->M D)(fl fh:Zb->M (Option Int)):Zb->M D:=fun ρ=>Zo (f ρ) λd=>Zo (fl ρ) λlo=>Zo (fh ρ) λhi=>match d with
 | .tup ds=>Zy (.tup (Ue ds lo hi))
 | .lst ds=>Zy (.lst (Ue ds lo hi))
 | _=>ZG
theorem Zhx {Hf:Hp}{ds:List D}{vs:List V}(r:Zi G Hf ds vs)(lo hi:Option Int):Zi G Hf (Ue ds lo hi) (Vs vs lo hi):=by
 unfold Ue Vs;rw[r.length];exact(r.drop _).take _
theorem ZgE {ds:List D}{lo hi:Option Int}(h:HT.sIx ds.length 0 lo=0/\HT.sIx ds.length ds.length hi=ds.length):Ue ds lo hi=ds:=by
 unfold Ue;rw[h.1,h.2];simp
theorem Zj0 {e:Expr}{lo hi:Option Expr}{p2 pos:Pos}{f:Zb->M D}{fl fh:Zb->M (Option Int)}{r1:Bool}(he:PD X G r1 e f)(hl:BU X G lo fl)(hh:BU X G hi fh):PD X G true (.Subscript e (.Slice lo hi none p2) pos) (ZjZ f fl fh):=by
 obtain⟨t,p,q⟩:=he.drop;obtain⟨tl,pl,ql⟩:=hl;obtain⟨th,ph,qh⟩:=hh;refine⟨_,Zjl (Zlk.or (Zm4.or ZlK)) p pl ph,fun σ Hf H ρ s d s' Q e1 e2 e3 e4 k=>?_⟩;obtain⟨d0,s1,a1,a2⟩:=ZF e4;obtain⟨lo',s2,a3,a4⟩:=ZF a2;obtain⟨hi',s3,a5,a6⟩:=ZF a4;refine q σ Hf H ρ s d0 s1 _ e1 e2 e3 a1 λv jQ H1 g1 jT r1=>?_;refine ql σ jQ H1 ρ s1 lo' s2 _ g1.fh (e2.ext g1.ff) jT a3 λjZ H2 g2 jP=>?_;refine qh σ jZ H2 ρ s2 hi' s3 _ g2.fh ((e2.ext g1.ff).ext g2.ff) jP a5 λHf3 H3 g3 st3=>?_;have rr:=(r1.ext g2.ff).ext g3.ff;have g:=(g1.trans g2).trans g3
 match d0,a6,rr with
 | .lst ds,a6,rr=>
  obtain⟨rfl,rfl⟩:=ZQ a6;obtain⟨a,vs,rfl,na,ha,ra⟩:=jb.mp rr;refine .inl ⟨a,vs,rfl,ZE.of (g.fh _ _ na ha),λl hl=>?_⟩;have nf:=Gh.nofp st3 hl;have g2:=Gr.new (o:=.lst (Vs vs lo' hi')) g.fh hl nf;have rr:=Zhx ra lo' hi';exact k (.ref l) _ _ (g.trans g2) (Gh.grow st3 hl) (jb.mpr ⟨l,_,rfl,nf,ZX,rr.ext g2.ff⟩) λ_=>jn g.hh (λa ea _=>by cases ea;exact nf) (Yj.mk g.fh hl nf rr)
 | .tup ds,a6,rr=>
  obtain⟨rfl,rfl⟩:=ZQ a6;obtain⟨a,vs,rfl,na,ha,ra⟩:=jc.mp rr;by_cases hw:HT.sIx vs.length 0 lo'=0/\HT.sIx vs.length vs.length hi'=vs.length
  ·refine .inr (.inr ⟨a,vs,rfl,ZI.of (g.fh _ _ na ha),hw,?_⟩)
   rw[<-ra.length]at hw;exact k (.ref a) _ _ g st3 (by rw[ZgE hw];exact rr) λ_=>.scal λz=>z
  ·refine .inr (.inl ⟨a,vs,rfl,ZI.of (g.fh _ _ na ha),hw,λl hl=>?_⟩)
   have nf:=Gh.nofp st3 hl;have g2:=Gr.new (o:=.tup (Vs vs lo' hi')) g.fh hl nf;exact k (.ref l) _ _ (g.trans g2) (Gh.grow st3 hl) (jc.mpr ⟨l,_,rfl,nf,ZX,(Zhx ra lo' hi').ext g2.ff⟩) λ_=>.scal λz=>z
noncomputable def BV (X:Cx)(ops:List CmpOp)(rs:List Expr)(t:V->TT):Prop:=
 ∀(pos:Pos) (jC:Qb) (s:Shared) (σ:St) (H:Hp) (y:V) (v:Value) (Q:Bool->Hp->Prop),Inv X jC σ H s->ZJ y v->t y σ H Q->xf (xz X.prog X.w) X.A (testChain pos v ops (evalEach rs X.env)) (TP X jC σ Q) X.xe s
theorem ZlL {op:CmpOp}{r:R2}{c:Expr}{tc:TE}(ho:Yp X (xk op) r)(hc:PE X c tc):BV X [op] [c] (λy σ H Q=>tc σ H λz H1=>r y z H1 λw H2=>∃k,w=.bl k/\Q k H2):=by
 intro pos jC s σ H y v Q I r1 h;refine test_last (ZK (hc jC s σ H _ I h) λu s2 ⟨z,H2,I2,r2,q2⟩=>ZK (ho jC s2 σ H2 y z v u _ I2 r1 r2 q2) λd s3 ⟨z',H3,I3,r3,k,e,q3⟩=>?_);subst e
 cases r3
 exact wpAny_truthy_bool ⟨H3,I3,q3⟩
theorem Zj1 {op op':CmpOp}{ops:List CmpOp}{r:R2}{b c:Expr}{rs:List Expr}{tb:TE}{t:V->TT}(ho:Yp X (xk op) r)(hb:PE X b tb)(hr:BV X (op'::ops) (c::rs) t) :
  BV X (op::op'::ops) (b::c::rs) (λy σ H Q=>tb σ H λz H1=>r y z H1 λw H2=>∃k,w=.bl k/\(if k=true then t z σ H2 Q else Q false H2)):=by
 intro pos jC s σ H y v Q I r1 h;refine test_link (ZK (hb jC s σ H _ I h) λu s2 ⟨z,H2,I2,r2,q2⟩=>ZK (ho jC s2 σ H2 y z v u _ I2 r1 r2 q2) λd s3 ⟨z',H3,I3,r3,k,e,q3⟩=>?_);subst e
 cases r3
 refine wpAny_truthy_bool ?_
 cases k with
 | false=>exact ite_ff ⟨H3,I3,q3⟩
 | true=>exact ite_tt (hr pos jC s3 σ H3 z u Q I3 r2 q3)
theorem Ziw {op op':CmpOp}{ops:List CmpOp}{a b c:Expr}{rs:List Expr}{pos:Pos}{ta:TE}{t:V->TT}(ha:PE X a ta)(hr:BV X (op::op'::ops) (b::c::rs) t)
  (hm:lastMarks (op::op'::ops) (b::c::rs)=false:=by with_unfolding_all rfl):PT X (.Compare a (op::op'::ops) (b::c::rs) pos) (fun σ H Q=>ta σ H λy H1=>t y σ H1 Q):=by
 intro jC s σ H Q I h;exact isTrue_chain (ZK (ha jC s σ H _ I h) λv s1 ⟨y,H1,I1,r1,q1⟩=>hr pos jC s1 σ H1 y v Q I1 r1 q1) hm
noncomputable def PDCh (X:Cx)(G:Gh)(ops:List CmpOp)(rs:List Expr)(f:D->Zb->M Bool):Prop:=
 ∃t,BV X ops rs t/\∀(y:V) (σ:St) (Hf H:Hp) (d:D) (ρ:Zb) (s:Pn) (b:Bool) (s':Pn) (Q:Bool->Hp->Prop),ZA G Hf H->Zj G Hf d y->YK G Hf σ ρ->G.st s H->f d ρ s=some (b,s')->
  (∀Hf' H',Gr G Hf H Hf' H'->G.st s' H'->Q b H')->t y σ H Q
noncomputable def JE (o:Option D):M Bool:=match o with | some (.bl k)=>Zy k | _=>ZG
theorem Zfv {o:Option D}{s s':Pn}{b:Bool}(h:JE o s=some (b,s')):o=some (.bl b)/\s'=s:=by
 unfold JE at h;split at h
 ·obtain⟨rfl,rfl⟩:=ZQ h
  exact⟨rfl,rfl⟩
 ·cases h
noncomputable def Bz (g:D->D->Option D)(fc:Zb->M D):D->Zb->M Bool:=λd ρ=>Zo (fc ρ) λe=>JE (g d e)
noncomputable def BA (g:D->D->Option D)(fb:Zb->M D)(f:D->Zb->M Bool):D->Zb->M Bool:=λd ρ=>Zo (fb ρ) λe=>Zo (JE (g d e)) λk=>if k=true then f e ρ else Zy false
noncomputable def Bn (fa:Zb->M D)(f:D->Zb->M Bool):Zb->M Bool:=fun ρ=>Zo (fa ρ) λd=>f d ρ
theorem Zj2 {op:CmpOp}{g:D->D->Option D}{c:Expr}{fc:Zb->M D}{r1:Bool}(ho:Xq X G (xk op) g)(hc:PD X G r1 c fc):PDCh X G [op] [c] (Bz g fc):=by
 obtain⟨r,po,qo⟩:=ho;obtain⟨tc,pc,qc⟩:=hc.drop;refine⟨_,ZlL po pc,λy σ Hf H d ρ s b s' Q e1 ry e2 e3 e4 k=>?_⟩;obtain⟨e,s1,a1,a2⟩:=ZF e4;obtain⟨a3,rfl⟩:=Zfv a2;refine qc σ Hf H ρ s e _ _ e1 e2 e3 a1 λz jQ H1 g1 jT r1=>?_;exact qo jQ H1 _ y z d e _ _ g1.fh jT (ry.ext g1.ff) r1 a3 λv jZ H2 g2 jP r2 _=>⟨b,je.mp r2,k jZ H2 (g1.trans g2) jP⟩
theorem Zix {op op':CmpOp}{ops:List CmpOp}{g:D->D->Option D}{b c:Expr}{rs:List Expr}{fb:Zb->M D}{f:D->Zb->M Bool}{r1:Bool}(ho:Xq X G (xk op) g)(hb:PD X G r1 b fb)(hr:PDCh X G (op'::ops) (c::rs) f) :
  PDCh X G (op::op'::ops) (b::c::rs) (BA g fb f):=by
 obtain⟨r,po,qo⟩:=ho;obtain⟨tb,pb,qb⟩:=hb.drop;obtain⟨t,pt,qt⟩:=hr;refine⟨_,Zj1 po pb pt,λy σ Hf H d ρ s b' s' Q e1 ry e2 e3 e4 k=>?_⟩;obtain⟨e,s1,a1,a2⟩:=ZF e4;obtain⟨k1,s2,a3',a4⟩:=ZF a2;obtain⟨a3,rfl⟩:=Zfv a3';refine qb σ Hf H ρ s e _ _ e1 e2 e3 a1 λz jQ H1 g1 jT r1=>?_;refine qo jQ H1 _ y z d e _ _ g1.fh jT (ry.ext g1.ff) r1 a3 λv jZ H2 g2 jP r2 _=>⟨k1,je.mp r2,?_⟩
 cases k1 with
 | false=>
  obtain⟨rfl,rfl⟩:=ZQ a4;rw[if_neg (by decide)];exact k jZ H2 (g1.trans g2) jP
 | true=>
  rw[if_pos rfl]at a4⊢;exact qt z σ jZ H2 e ρ _ _ _ Q (g1.trans g2).fh (r1.ext g2.ff) ((e2.ext g1.ff).ext g2.ff) jP a4 λHf3 H3 g3 st3=>k Hf3 H3 ((g1.trans g2).trans g3) st3
theorem Ziy {op op':CmpOp}{ops:List CmpOp}{a b c:Expr}{rs:List Expr}{pos:Pos}{fa:Zb->M D}{f:D->Zb->M Bool}{r1:Bool}(ha:PD X G r1 a fa)(hr:PDCh X G (op::op'::ops) (b::c::rs) f)
  (hm:lastMarks (op::op'::ops) (b::c::rs)=false:=by with_unfolding_all rfl):X2 X G (.Compare a (op::op'::ops) (b::c::rs) pos) (Bn fa f):=by
 obtain⟨ta,pa,qa⟩:=ha.drop;obtain⟨t,pt,qt⟩:=hr;refine⟨_,Ziw pa pt hm,fun σ Hf H ρ s b s' Q e1 e2 e3 e4 k=>?_⟩;obtain⟨d,s1,a1,a2⟩:=ZF e4;refine qa σ Hf H ρ s d _ _ e1 e2 e3 a1 λy jQ H1 g1 jT r1=>?_;exact qt y σ jQ H1 d ρ s1 b s' Q g1.fh r1 (e2.ext g1.ff) jT a2 λjZ H2 g2 jP=>k jZ H2 (g1.trans g2) jP
noncomputable def Uf (τ:D->Zb->Option Zb)(f:Zb->M D):Zb->M Out:=fun ρ=>Zo (f ρ) λd=>match τ d ρ with | some ρ'=>Zy (.nx ρ') | none=>ZG
theorem Zhy {ob own:List Nat}{fr r1:Bool}{tg e:Expr}{pos:Pos}{τ:D->Zb->Option Zb}{f:Zb->M D}(he:PD X G r1 e f)(hg:WC X G tg (λi=>i∉own) τ)(hs:swapsWithSole [tg] e pos.line X.env=pure false:=by rfl)(hw:swappedStores [tg] e X.env=pure none:=by rfl)
  (h1:(assignEach [tg] X.env).map (·.2)=[assign tg X.env]:=by rfl):YW X G ob own own fr (.Assign [tg] e pos) (Uf τ (fun ρ=>f (Z2 own ρ))):=by
 obtain⟨t,p,q⟩:=he;obtain⟨g,pg,qg⟩:=hg;have hy:Vh G r1 t f:=q;refine⟨_,Zeg p pg hs hw h1,λkn jO H0 σ H ρ s out s' E ⟨Hf,j⟩ st e po=>?_⟩;obtain⟨d,s1,a1,a2⟩:=ZF e;refine hy.a kn jO H0 σ Hf H ρ s d s1 _ j st a1 λv Hf' H' j' e1 e2 st' r fz=>?_
 cases eq:τ d ρ with
 | none=>rw[eq]at a2;cases a2
 | some ρ'=>
  rw[eq]at a2;obtain⟨rfl,rfl⟩:=ZQ a2;exact qg v σ Hf' H' d ρ ρ' _ j'.gr.fh r eq fun σ' hs'=>po σ' H' ⟨Hf',hs'.jf j'⟩ st'
theorem Zbj {ob:List Nat}{fr r1:Bool}{tg e:Expr}{pos:Pos}{τ:D->Zb->Option Zb}{f:Zb->M D}(he:PD X G r1 e f)(hg:WC X G tg (λi=>i∉([]:List Nat)) τ)(hs:swapsWithSole [tg] e pos.line X.env=pure false:=by rfl)(hw:swappedStores [tg] e X.env=pure none:=by rfl)
  (h1:(assignEach [tg] X.env).map (·.2)=[assign tg X.env]:=by rfl):YW X G ob [] [] fr (.Assign [tg] e pos) (Uf τ f):=by
 have h:=Zhy (ob:=ob) (fr:=fr) he hg hs hw h1;have e:(fun ρ=>f (Z2 [] ρ))=f:=by funext ρ;rw[ZcH]
 rw[e]at h;exact h
theorem ZP.none {P:xB}{w:World}{K:qm}{mg:Str->Option Value}{base:Heap}{k:Nat}{x:Str}{n:Nat}{fr:Bool}{GG:Gh->Prop}{f:Addr}{fd:xA}{ps:List Str}(hm:mg x=some (.ref f))(hk:yL K (.ref f)=true)(hb:Wi K fd ps []) :
  ZP P w K mg base k x n fr GG (λ_=>ZG):=by
 refine⟨f,fd,ps,⟨λvs H Q E h=>?_,λA outer s H args us vs Q E _ _ _ _ h=>?_⟩,hm,hk,hb⟩
 ·obtain⟨G,Hf,ds,s,d,s',_,_,_,_,_,h,_⟩:=h
  cases h
 ·obtain⟨G,Hf,ds,s,d,s',_,_,_,_,_,h,_⟩:=h
  cases h
end
open PySem.SeqAt
open AutoSeq1 (wpAny_loadPart')
section
variable {X:Cx}{G:Gh}
end
end TF
namespace TF
open L2
section
variable {X:Cx}{G:Gh}
end
section
variable {f g:Zb->M D}{ρ:Zb}{s s1:Pn}{a b:Bool}{r:Option (D×Pn)}
theorem Znm (h:f ρ s=some (.bl true,s1))(h2:g ρ s1=r):UI f g ρ s=r:=by unfold UI Zo;rw[h];exact h2
theorem ZlM (h:f ρ s=some (.bl a,s1)):BI f ρ s=some (.bl (!a),s1):=by unfold BI Zo;rw[h];rfl
end
section
variable {f g:Zb->M Bool}{ρ:Zb}{s s1:Pn}{a b:Bool}{r:Option (Bool×Pn)}
theorem Znn (h:f ρ s=some (false,s1)):X7 f g ρ s=some (false,s1):=by unfold X7 Zo;rw[h];rfl
theorem Zno (h:f ρ s=some (true,s1))(h2:g ρ s1=r):X7 f g ρ s=r:=by unfold X7 Zo;rw[h];exact h2
theorem Ju (h:f ρ s=some (false,s1))(h2:g ρ s1=r):Vv f g ρ s=r:=by unfold Vv Zo;rw[h];exact h2
theorem ZlN (h:f ρ s=some (a,s))(h2:a=true->g ρ s=some (b,s)):X7 f g ρ s=some (a&&b,s):=by
 cases a with
 | false=>exact Znn h
 | true=>rw[Bool.true_and];exact Zno h (h2 rfl)
end
section
variable {c:Zb->M Bool}{g1 g2:Zb->M Out}{ρ:Zb}{s s1:Pn}{r:Option (Out×Pn)}
theorem Zj3 (h:c ρ s=some (true,s1))(h2:g1 ρ s1=r):Yl c g1 g2 ρ s=r:=by unfold Yl Zo;rw[h];exact h2
theorem Zj4 (h:c ρ s=some (false,s1))(h2:g2 ρ s1=r):Yl c g1 g2 ρ s=r:=by unfold Yl Zo;rw[h];exact h2
end
section
variable {fa fb:Zb->M D}{f:D->Zb->M Bool}{g:D->D->Option D}{ρ:Zb}{s s1 s2:Pn}{d e:D}{k:Bool}{r:Option (Bool×Pn)}
theorem Ziz (h:fa ρ s=some (d,s1))(h2:f d ρ s1=r):Bn fa f ρ s=r:=by unfold Bn Zo;rw[h];exact h2
theorem Zj5 (h:fb ρ s=some (e,s1))(h2:g d e=some (.bl k)):Bz g fb d ρ s=some (k,s1):=by unfold Bz Zo;rw[h];show JE (g d e) s1=_;rw[h2];rfl
theorem Zj6 (h:fb ρ s=some (e,s))(h2:g d e=some (.bl k)){b:Bool}(h3:k=true->f e ρ s=some (b,s)):BA g fb f d ρ s=some (k&&b,s):=by
 unfold BA Zo;simp only[h,h2,JE,Zy]
 cases k with
 | false=>rfl
 | true=>simp[h3 rfl]
end
theorem Vi (a b:Int):Yk (.int a) (.int b)=some (.bl (a==b)):=by
 unfold Yk;rw[if_pos (by simp[Vc,Zp,Z0])];simp[ZC]
theorem nei (a b:Int):XQ (.int a) (.int b)=some (.bl (!(a==b))):=by
 unfold XQ;rw[if_pos (by simp[Vc,Zp,Z0])];simp[ZC]
theorem Zav {τ:D->Zb->Option Zb}{body:Zb->M Out}{d:D}{ds:List D}{ρ ρ1 ρ2:Zb}{s s1:Pn}{r:Option (Out×Pn)}(h:τ d ρ=some ρ1)(hb:body ρ1 s=some (.nx ρ2,s1))(h2:XO τ body ds ρ2 s1=r):XO τ body (d::ds) ρ s=r:=by
 unfold XO Zo Y5;simp only[h,hb];exact h2
theorem Zev {τ:D->Zb->Option Zb}{body:Zb->M Out}{d e:D}{ds:List D}{ρ ρ1:Zb}{s s1:Pn}(h:τ d ρ=some ρ1)(hb:body ρ1 s=some (.rt e,s1)):XO τ body (d::ds) ρ s=some (.rt e,s1):=by
 unfold XO Zo Y5;simp only[h,hb];rfl
theorem Bd {fi:Zb->M (List D)}{τ:D->Zb->Option Zb}{body:Zb->M Out}{ds:List D}{ρ:Zb}{s s1:Pn}{r:Option (Out×Pn)}(h:fi ρ s=some (ds,s1))(h2:XO τ body ds ρ s1=r):YL fi τ body ρ s=r:=by
 unfold YL Zo;rw[h];exact h2
theorem Uy {f:Zb->M D}{ρ:Zb}{s s1:Pn}{ds:List D}(h:f ρ s=some (.tup ds,s1)):XB f ρ s=some (ds,s1):=by unfold XB Zo;rw[h];rfl
theorem WM {f:Zb->M D}{ρ:Zb}{s s1:Pn}{ds:List D}(h:f ρ s=some (.lst ds,s1)):Yy f ρ s=some (ds,s1):=by unfold Yy Zo;rw[h];rfl
end TF
namespace TP
open L2 TF
theorem We {α:Type}(l:List α):l.filter (λ_=>true)=l:=qcJ.mpr (by simp)
end TP
namespace TF
open L2
section
variable {f:Zb->M D}{fs:Zb->M (List D)}{ρ:Zb}{s:Pn}
theorem Ok.lst {Q:D->Pn->Prop}(h:Ok (fs ρ) s λds s1=>ds.length<=xg/\Q (.lst ds) s1):Ok (Xc fs ρ) s Q:=.bind (h.mono λ_ _ q=>.ite q.1 (.ret q.2))
theorem Ok.tup {Q:D->Pn->Prop}(h:Ok (fs ρ) s λds s1=>ds.length<=xg/\Q (.tup ds) s1):Ok (ZV fs ρ) s Q:=.bind (h.mono λ_ _ q=>.ite q.1 (.ret q.2))
theorem Ok.sunp {τ:D->Zb->Option Zb}{Q:Out->Pn->Prop}(h:Ok (f ρ) s λd s1=>∃ρ',τ d ρ=some ρ'/\Q (.nx ρ') s1):Ok (Uf τ f ρ) s Q:=
 .bind (h.mono λd s1 q=>by obtain⟨ρ',e,q⟩:=q;rw[e];exact .ret q)
theorem Ok.range1 {Q:List D->Pn->Prop}(h:Ok (f ρ) s λd s1=>∃n:Nat,d=.int (n:Int)/\n<=100000/\Q (ZY 0 n) s1):Ok (YH f ρ) s Q:=
 .bind (h.mono λd s1 q=>by
  obtain⟨n,rfl,hn,q⟩:=q;exact .ite (TP.small_int n hn) (.ret (by simpa using q)))
end
theorem ZlO {f:Zb->M D}{ρ:Zb}{s:Pn}{x:D}(h1:f ρ s=some (x,s)):ZV (Zc f Zf) ρ s=some (.tup [x],s):=XY (Zh h1 rfl) (by show 1<=xg;decide)
theorem V3 {f g:Zb->M D}{ρ:Zb}{s:Pn}{x y:D}(h1:f ρ s=some (x,s))(h2:g ρ s=some (y,s)):ZV (Zc f (Zc g Zf)) ρ s=some (.tup [x,y],s):=XY (Zh h1 (Zh h2 rfl)) TP.two_le
theorem ZlP {f:Zb->M D}{ρ:Zb}{s:Pn}{x:D}(h1:f ρ s=some (x,s)):Xc (Zc f Zf) ρ s=some (.lst [x],s):=VM (Zh h1 rfl) (by show 1<=xg;decide)
theorem Zj7 {X:Cx}{GG:Gh->Prop}{ob own own':List Nat}{fr:Bool}{sts:List Stmt}{g:Zb->M Out}(h:∀G,GG G->X8 X G ob own own' fr sts g):Wj X sts (λE σ H=>∃G,GG G/\ZjS G ob own own' fr g E σ H):=by
 intro jC s σ H D I ⟨G,hG,kn,jO,H0,ρ,pn,out,pn',j,st,e,po⟩;obtain⟨t,p,q⟩:=h G hG;exact p jC s σ H D I (q kn jO H0 σ H ρ pn out pn' D j st e po)
theorem Znp {K:qm}{H:Hp}{a p:Addr}{xs:List V}{o:HO}(sq:ZE K H a xs)(hp:H p=none):ZE K (Zn H p o) a xs:=by
 have hne:∀u,H a=some u->a≠p:=λu e z=>by rw[z,hp]at e;cases e
 rcases sq with(q | ⟨o',q⟩) | q
 ·exact .inl (.inl (by rw[Zx (hne _ q)];exact q))
 ·exact .inl (.inr ⟨o',by rw[Zx (hne _ q)];exact q⟩)
 ·exact .inr q
noncomputable def Xv (L:List (Addr×Str))(b:Addr):Prop:=∃q,(b,q)∈L
noncomputable def Zmx (G0:Gh)(L:List (Addr×Str))(P:Addr)(q:Str)(H:Hp):Prop:=∃ps,H P=some (.tbl ps)/\TriplesOk ps.toList/\∀pos cv,codeAmong pos ps.toList=some cv->∃c',cv=.ref c'/\H c'=some (.ext (codeφ c' q))/\¬G0.fp c'/\¬Xv L c'
noncomputable def UE (G0:Gh)(L:List (Addr×Str)):Gh where
 fp:=λb=>G0.fp b∨Xv L b
 rd:=λb=>G0.rd b∨Xv L b
 pen:=G0.pen
 st:=λs H=>G0.st s H/\∀P q,(P,q)∈L->Zmx G0 L P q H
 mono:=λs H H' ⟨h1,h2⟩ k1 k2=>⟨G0.mono s H H' h1 (λb o r=>k1 b o (.inl r)) k2,λP q m=>by
  obtain⟨ps,e,t,h⟩:=h2 P q m;refine⟨ps,k1 P _ (.inr ⟨q,m⟩) e,t,λpos cv hc=>?_⟩;obtain⟨c',z1,z2,z3⟩:=h pos cv hc;exact⟨c',z1,k2 _ _ z2,z3⟩⟩
 sub:=λb h=>h.elim (λz=>.inl (G0.sub b z)) .inr
 dom:=λs H b ⟨h1,h2⟩ hb=>by
  rcases hb with z | ⟨q,m⟩
  ·exact G0.dom s H b h1 z
  ·obtain⟨ps,e,_⟩:=h2 b q m
   exact⟨_,e⟩
 ntp:=λs H b vs ⟨h1,h2⟩ hb=>by
  rcases hb with z | ⟨q,m⟩
  ·exact G0.ntp s H b vs h1 z
  ·obtain⟨ps,e,_⟩:=h2 b q m
   rw[e];intro z;cases z
theorem Zdz {pos pos':Pos}{c:Value}(l:List Value)(h:TriplesOk l){cv:Value}(hc:codeAmong pos' (l ++ [rawInt pos.line,rawInt pos.col,c])=some cv):codeAmong pos' l=some cv∨cv=c:=by
 fun_induction TriplesOk l with
 | case1=>
  simp only[qa0,rawInt,codeAmong]at hc;split at hc
  ·exact .inr (zy hc).symm
  ·cases hc
 | case2 a b d e f rest ih=>
  simp only[qbq,codeAmong]at hc⊢;split at hc
  ·rename_i h1;rw[if_pos h1];exact .inl hc
  ·rename_i h1;rw[if_neg h1];exact ih h hc
 | case3=>cases h
theorem Zfw {pos:Pos}{c:Value}(l:List Value)(h:TriplesOk l):TriplesOk (l ++ [rawInt pos.line,rawInt pos.col,c]):=by
 fun_induction TriplesOk l with
 | case1=>simp[TriplesOk,rawInt]
 | case2 a b d e f rest ih=>simp only[qbq,TriplesOk];exact ih h
 | case3=>cases h
noncomputable def Wc (L:List (Addr×Str)):Prop:=∀P q q',(P,q)∈L->(P,q')∈L->q=q'
noncomputable def YG (GG0:Gh->Prop)(L:List (Addr×Str))(G:Gh):Prop:=∃G0,GG0 G0/\(∀b,Xv L b->¬G0.rd b)/\G=UE G0 L
theorem ZlQ {G0:Gh}{L:List (Addr×Str)}{P:Addr}{q:Str}(lo:Wc L)(hrd:∀b,Xv L b->¬G0.rd b)(m:(P,q)∈L):TabG P q (UE G0 L):=by
 refine⟨λs H st=>?_,.inr ⟨q,m⟩,λs H ps pos c' st hP hc hn=>?_⟩
 ·obtain⟨ps,e,t,h⟩:=st.2 P q m
  refine⟨ps,e,t,λpos cv hc=>?_⟩;obtain⟨c',z1,z2,z3,z4⟩:=h pos cv hc;exact⟨c',z1,z2,λz=>z.elim z3 z4⟩
 ·have hcP:c'≠P:=λz=>by rw[z,hP]at hc;cases hc
  have notL:¬Xv L c':=λ⟨q',m'⟩=>by
   obtain⟨_,e,_⟩:=st.2 c' q' m';rw[hc]at e;cases e
  have k2:∀b φ,H b=some (.ext φ)->Zn (Zn H P (.tbl (ps ++ #[rawInt pos.line,rawInt pos.col,.ref c']))) c' (.ext (codeφ c' q)) b=some (.ext φ):=λb φ e=>by
   rw[Zx (YD e hc),Zx (λz=>by rw[z,hP]at e;cases e)];exact e
  refine⟨G0.mono s H _ st.1 (λb o r e=>?_) k2,λP' q' m'=>?_⟩
  ·rw[Zx (YD e hc),Zx (λz=>hrd P ⟨q,m⟩ (by rw[<-z];exact r))];exact e
  ·by_cases hb:P'=P
   ·subst hb
    have:=lo P' q q' m m';subst this;obtain⟨ps',e,t,h⟩:=st.2 P' q m;rw[hP]at e;cases e;refine⟨_,by rw[Zx (zO hcP),ZX],?_,λpos' cv hcv=>?_⟩
    ·rw[za];exact Zfw _ t
    ·rw[za]at hcv
     rcases Zdz (pos:=pos) _ t hcv with z | z
     ·obtain⟨c2,z1,z2,z3⟩:=h pos' cv z
      exact⟨c2,z1,k2 _ _ z2,z3⟩
     ·exact⟨c',z,ZX,Gh.nofp st.1 hc,notL⟩
   ·obtain⟨ps',e,t,h⟩:=st.2 P' q' m'
    refine⟨ps',by rw[Zx (YD e hc),Zx hb];exact e,t,λpos' cv hcv=>?_⟩;obtain⟨c2,z1,z2,z3⟩:=h pos' cv hcv;exact⟨c2,z1,k2 _ _ z2,z3⟩
noncomputable def Xo (L:List (Addr×Str))(G:Gh):Prop:=∀P q,(P,q)∈L->TabG P q G
theorem js {GG0:Gh->Prop}{L:List (Addr×Str)}{G:Gh}(lo:Wc L)(h:YG GG0 L G):Xo L G:=by
 obtain⟨G0,_,hrd,rfl⟩:=h;exact λP q m=>ZlQ lo hrd m
mutual
theorem Zj.tr {G G':Gh}{H H':Hp}(h:∀a o,¬G.fp a->H a=some o->(∀ps,o≠.tbl ps)->¬G'.fp a/\H' a=some o)(hp:G'.pen=G.pen):∀{d:D} {v:V},YI d=true->Zj G H d v->Zj G' H' d v
 | .non,_,_,r=>jh.mpr (jh.mp r)
 | .bl _,_,_,r=>je.mpr (je.mp r)
 | .int _,_,_,r=>ja.mpr (ja.mp r)
 | .str _,_,_,r=>ji.mpr (ji.mp r)
 | .tup ds,v,n,r=>by
  obtain⟨a,vs,e1,nf,e2,r⟩:=jc.mp r;obtain⟨z1,z2⟩:=h a _ nf e2 (λ_ z=>by cases z);exact jc.mpr ⟨a,vs,e1,z1,z2,Zi.tr h hp (by simpa[YI]using n) r⟩
 | .lst ds,v,n,r=>by
  obtain⟨a,vs,e1,nf,e2,r⟩:=jb.mp r;obtain⟨z1,z2⟩:=h a _ nf e2 (λ_ z=>by cases z);exact jb.mpr ⟨a,vs,e1,z1,z2,Zi.tr h hp (by simpa[YI]using n) r⟩
 | .dk _,_,_,r=>by
  obtain⟨a,e1,nf,e2⟩:=jj.mp r;obtain⟨z1,z2⟩:=h a _ nf e2 (λ_ z=>by cases z);exact jj.mpr ⟨a,e1,z1,z2⟩
 | .dt _,_,_,r=>by
  obtain⟨a,o,e1,nf,e2⟩:=jl.mp r;obtain⟨z1,z2⟩:=h a _ nf e2 (λ_ z=>by cases z);exact jl.mpr ⟨a,o,e1,z1,z2⟩
 | .du _,_,_,r=>by
  obtain⟨a,e1,nf,e2⟩:=jm.mp r;obtain⟨z1,z2⟩:=h a _ nf e2 (λ_ z=>by cases z);exact jm.mpr ⟨a,e1,z1,z2⟩
 | .df _,_,_,r=>by
  obtain⟨a,o,e1,nf,e2⟩:=jt.mp r;obtain⟨z1,z2⟩:=h a _ nf e2 (λ_ z=>by cases z);exact jt.mpr ⟨a,o,e1,z1,z2⟩
 | .pen,_,_,r=>jp.mpr ((jp.mp r).trans hp.symm)
 | .ty _,_,_,r=>jq.mpr (jq.mp r)
 | .clo _ _,_,n,_=>by simp[YI]at n
theorem Zi.tr {G G':Gh}{H H':Hp}(h:∀a o,¬G.fp a->H a=some o->(∀ps,o≠.tbl ps)->¬G'.fp a/\H' a=some o)(hp:G'.pen=G.pen):∀{ds:List D} {vs:List V},Xn ds=true->Zi G H ds vs->Zi G' H' ds vs
 | [],_,_,r=>Zi.nil_iff.mpr (Zi.nil_iff.mp r)
 | d::ds,vs,n,r=>by
  obtain⟨v,rr,e,h1,h2⟩:=jd.mp r;have n':YI d=true/\Xn ds=true:=by simpa[Xn]using n
  exact jd.mpr ⟨v,rr,e,Zj.tr h hp n'.1 h1,Zi.tr h hp n'.2 h2⟩
end
open Classical in
noncomputable def VU (L:List (Addr×Str))(H H2:Hp):Hp:=λb=>if Xv L b then H2 b else H b
theorem ZlR {L:List (Addr×Str)}{H H2:Hp}{b:Addr}(h:Xv L b):VU L H H2 b=H2 b:=by unfold VU;rw[if_pos h]
theorem WJ {L:List (Addr×Str)}{H H2:Hp}{b:Addr}(h:¬Xv L b):VU L H H2 b=H b:=by unfold VU;rw[if_neg h]
theorem ZlS {P:xB}{w:World}{K:qm}{mg:Str->Option Value}{base:Heap}{k:Nat}{f:Addr}{fd:xA}{ps:List Str}{n:Nat}{fr:Bool}{GG0:Gh->Prop}{L:List (Addr×Str)}{F:List D->M D}(FN:FnOk P w K mg base ZW k f fd ps (Yu n fr GG0 F))
  (hF:∀ds s d s',F ds s=some (d,s')->Xn ds=true/\YI d=true):FnOk P w K mg base ZW k f fd ps (Yu n fr (YG GG0 L) F):=by
 refine FN.imp λvs H Q E h=>?_;obtain⟨G,Hf,ds,s,d,s',⟨G0,hG0,hrd,rfl⟩,hl,e1,r,st,eF,k⟩:=h;obtain⟨n1,n2⟩:=hF _ _ _ _ eF;have nfp:∀b,Xv L b->¬G0.fp b:=λb m z=>hrd b m (G0.sub b z);have e1':ZA G0 (VU L Hf λ_=>none) H:=λb o nb q=>by
  by_cases m:Xv L b
  ·rw[ZlR m]at q;cases q
  ·rw[WJ m]at q;exact e1 b o (λz=>z.elim nb m) q
 refine⟨G0,VU L Hf λ_=>none,ds,s,d,s',hG0,hl,e1',Zi.tr (G:=UE G0 L) (G':=G0) (λa o na q _=>?_) rfl n1 r,st.1,eF,λv Hf' H' g st' r' fz=>?_⟩
 ·have m:¬Xv L a:=λz=>na (.inr z)
  exact⟨λz=>na (.inl z),by rw[WJ m];exact q⟩
 ·have tab:∀b,Xv L b->∃ps,H' b=some (.tbl ps):=λb ⟨q,m⟩=>by
   obtain⟨ps,e,_⟩:=st.2 b q m;exact⟨ps,g.hh b _ (nfp b ⟨q,m⟩) e⟩
  have out:∀a o,¬G0.fp a->Hf' a=some o->(∀ps,o≠.tbl ps)->¬Xv L a:=λa o na q no m=>by
   obtain⟨ps,e⟩:=tab a m;rw[g.fh a o na q]at e;exact no ps (zy e)
  have tr:∀a o,¬G0.fp a->Hf' a=some o->(∀ps,o≠.tbl ps)->¬(UE G0 L).fp a/\VU L Hf' Hf a=some o:=λa o na q no=>by
   have m:=out a o na q no;exact⟨λz=>z.elim na m,by rw[WJ m];exact q⟩
  refine k v (VU L Hf' Hf) H' ⟨λb o nb q=>g.hh b o (λz=>nb (.inl z)) q,λb o nb q=>?_,λb o nb q=>?_,λb nb q1 q2=>?_⟩ ⟨st',λP q m=>?_⟩ (Zj.tr (G:=G0) (G':=UE G0 L) tr rfl n2 r') λz a ea mu=>?_
  ·have m:¬Xv L b:=λz=>nb (.inr z)
   rw[WJ m];exact g.ff b o (λz=>nb (.inl z)) (by rw[WJ m];exact q)
  ·have m:¬Xv L b:=λz=>nb (.inr z)
   rw[WJ m]at q;exact g.fh b o (λz=>nb (.inl z)) q
  ·have m:¬Xv L b:=λz=>nb (.inr z)
   rw[WJ m];exact g.nw b (λz=>nb (.inl z)) (by rw[WJ m];exact q1) q2
  ·obtain⟨ps,e,t,h⟩:=st.2 P q m
   refine⟨ps,g.hh P _ (nfp P ⟨q,m⟩) e,t,λpos cv hc=>?_⟩;obtain⟨c',z1,z2,z3,z4⟩:=h pos cv hc;exact⟨c',z1,g.hh c' _ z3 z2,z3,z4⟩
  ·obtain⟨h1,h2⟩:=fz z a ea mu
   refine⟨h1,λxs ed=>?_⟩;obtain⟨us,Hm,q1,q2,q3,q4⟩:=h2 xs ed;have na:¬Xv L a:=λm=>by
    obtain⟨q,m⟩:=m;obtain⟨ps,e,_⟩:=st.2 a q m;rw[h1]at e;cases e
   refine⟨us,VU L Hm λ_=>none,by rw[WJ na];exact q1,by rw[WJ na];exact q2,λb o nb q=>?_,?_⟩
   ·have m:¬Xv L b:=λz=>nb (.inr z)
    rw[WJ m]at q⊢;exact q3 b o (λz=>nb (.inl z)) q
   ·subst ed
    refine Zi.tr (G:=G0) (G':=UE G0 L) (λb o nb q no=>?_) rfl (by simpa[YI]using n2) q4;have m:=out b o nb (q3 b o nb q) no;exact⟨λz=>z.elim nb m,by rw[WJ m];exact q⟩
theorem Zj8 {P:xB}{w:World}{K:qm}{mg:Str->Option Value}{base:Heap}{k:Nat}{x:Str}{n:Nat}{fr:Bool}{GG0:Gh->Prop}{L:List (Addr×Str)}{F:List D->M D}(c:ZP P w K mg base k x n fr GG0 F)(hF:∀ds s d s',F ds s=some (d,s')->Xn ds=true/\YI d=true):ZP P w K mg base k x n fr (YG GG0 L) F:=
 let ⟨f,fd,ps,a,b,c,d⟩:=c
 ⟨f,fd,ps,ZlS a hF,b,c,d⟩
theorem Zj9 {N ps:List Str}{own:List Nat}{fr:Bool}{G:Gh}{t:TS}{g:Zb->M Out}{vs:List V}{ds:List D}{Hf H:Hp}{pn pn':Pn}{d:D}{Q:VK}(hpl:ps.length<=N.length)(q:BS G [] [] own fr t g)(e1:ZA G Hf H)(r:Zi G Hf ds vs)(st':G.st pn H)(eF:runB N.length ps.length g ds pn=some (d,pn'))
  (k':∀v Hf' H',Gr G Hf H Hf' H'->G.st pn' H'->Zj G Hf' d v->(fr=true->Yj G H Hf' d v)->Q v H'):t { nx:=λ_ H'=>Q .non H',rt:=Q } (L2.start N vs) H:=by
 obtain⟨hl,a0⟩:=Xf eF;obtain⟨o,s1,a1,a2⟩:=ZF a0;have j0:Jf G [] Hf Hf H (L2.start N vs) Hf H (ds.map some++zT (N.length-ps.length) none):=by
  refine⟨?_,.refl _ _,.refl e1,λi d n e=>?_,λi d m e=>absurd m (by simp),λi j a di dj mi mj n e=>absurd mi (by simp)⟩
  ·have:=r.length
   unfold L2.start;simp;omega
  ·have hi:i<ds.length:=by
    by_cases hi:i<ds.length
    ·exact hi
    ·rw[zU (by simpa using hi),qaA]at e
     split at e <;> cases e
   have e':ds[i]?=some d:=by
    rw[zC (by simpa using hi),qI]at e
    cases q:ds[i]? with
    | none=>rw[q]at e;cases e
    | some c=>rw[q]at e;simp at e;rw[e]
   obtain⟨v,h1,h2⟩:=r.get e';refine⟨v,?_,h2⟩;unfold L2.start;rw[zC (by simp;rw[<-r.length];exact hi),qI,h1];rfl
 refine q Hf Hf H (L2.start N vs) H _ pn o s1 _ ⟨Hf,j0⟩ st' a1 ?_
 cases o with
 | rt c=>
  obtain⟨rfl,rfl⟩:=ZQ a2;exact λv Hf' H' g' jP r2 fz=>k' v Hf' H' g' jP r2 fz
 | nx ρ'=>
  obtain⟨rfl,rfl⟩:=ZQ a2;exact fun σ' H' ⟨Hf',j'⟩ jP=>k' .non Hf' H' j'.gr jP (jh.mpr rfl) λ_=>.scal λz=>z
 | bk ρ'=>cases a2
 | ct ρ'=>cases a2
theorem fnDC {P:xB}{w:World}{K:qm}{mg:Str->Option Value}{base:Heap}{x qual:Str}{st:Stmt}{f:Addr}{fd:xA}{N ps:List Str}{k:Nat}{own:List Nat}{fr:Bool}{GG:Gh->Prop}{g:Zb->M Out}
  (F:Fun K x qual st f fd) (S:FnScope N ps (ZH st))
  (hb:∀(A:xC) (outer:List Env) (s:Shared) (H:Hp) (E:XK),Room k (A.deeper (envOfC qual (ZH st) s.heap.objs.size f fd.code))->∀G,GG G->X8 (Vr ZW P w K mg base N qual (ZH st) f fd.code A outer s H E).nox G [] [] own fr (Wg st) g) :
  FnOk P w K mg base ZW (k+1) f fd ps (Yu ps.length fr GG (runB N.length ps.length g)):=by
 obtain⟨oc,od,kV,doc,pm,an,cdv,ct,osl,rfl,lk,hcd⟩:=F.ex;refine Zmq lk hcd S (λvs H Q E ⟨_,_,_,_,_,_,_,e,_⟩=>e) λA outer s H vs Q E hr h=>?_;obtain⟨G,Hf,ds,pn,d,pn',hG,el,e1,r,st',eF,k'⟩:=h;obtain⟨t,p,q⟩:=hb A outer s H E hr G hG;exact⟨t,p.nox,Zj9 (by have:=congrArg qbk S.pre;rw[qZ]at this;omega) q e1 r st' eF k'⟩
section
variable {X:Cx}{G:Gh}{P c:Addr}{q:Str}{k kl n:Nat}{x:Str}{fr frb:Bool}{F:List D->M D}{T:Nat->List D->M D}{t:Nat}{e1:Expr}{f1:Zb->M D}{r1:Bool}{params:Arguments}{scope:Scope}{lpos ppos pos:Pos}{XN N ps:List Str}{NS:List (Str×NameKind)}{cix:List Nat}
end
noncomputable def JF (mg:Str->Option Value)(h:Heap):Prop:=∃bm o,mg "__builtins__" = some (.ref bm)/\bm≠builtinsNs/\bm≠mainGlobals/\h.get? bm=some o/\o.cls=.type "module"/\o.dict=some builtinsNs/\o.data=.plain
theorem ZiA {P:xB}{w:World}{K:qm}{mg mb:Str->Option Value}{CX:XU}{k:Nat}{fa a:Addr}{fd:xA}{x:Str}{sp:Sp}{s₁:Shared}{vs:List Value}{ns:List Int}{tb:List (Addr×Addr)}
  (KX:K.In s₁.heap) (hns:s₁.heap.Ns mainGlobals mg) (hb:s₁.heap.Ns builtinsNs mb) (hbb:∀x:Str,x≠"__name__"->mb x=xj x) (hlim:s₁.heap.NoLimit) (hg:s₁.gens = #[])
  (hT:∀e∈tb,yZ s₁.heap e.1 e.2/\s₁.heap.get? e.2=some (qbb #[])) (hKt:PySem.W.noTabs K=true) (hbm:JF mg s₁.heap)
  (ha:s₁.heap.get? a=some { cls:=.type "list",data:=.seq vs.toArray }) (hi:IntsAre vs ns) (hl:ns.length<=xg) (hr:Room k callerA)
  (F:∀base:Heap,K.In base->base.Ns mainGlobals mg->(∀e∈tb,yZ base e.1 e.2)->JF mg base->FnOk P w K mg base CX k fa fd [x] sp) (hbind:∀(s:Shared) (u:Value),BindsTo s fd ⟨[u],[]⟩ [(x,u)])
  (hsp:∀H:Hp,ZE K H a (ns.map V.int)->(∀e∈tb,H e.2=some (.tbl #[]))->sp [.ref a] H (λv _=>v=.bl true) λ_ _ _=>False)
  (hCX:∀H e s',CX [] H s₁ (λ_ _ _=>False) e s'->False) :
  xo (xz P w) callerA (.call (.ref fa) ⟨[.ref a],[]⟩) (λr s'=>r=.ok (.ret (.bool true))/\OldK s₁.heap s'.heap/\s'.os=s₁.os/\AllBare s'.gens) s₁:=by
 have rv:=ZdO hi;have lenV:=hi.length;have tabne:∀e∈tb,e.2≠a:=λe he z=>by
  have:=(hT e he).2;rw[z,ha]at this;cases this
 have noK:∀e∈tb,K.lookup e.2=none:=λe he=>by
  cases q:K.lookup e.2 with
  | none=>rfl
  | some o=>
   have h2:=yw.mp hKt (e.2,o) (PySem.W.mem_of_lookupK q);have e1:=KX _ _ q;rw[(hT e he).2]at e1
   cases e1
   exact absurd (show false=true from h2) qaa
 have core:∀H:Hp,(∀b u,H b=some u->(b=a/\u=.frz { cls:=.type "list",data:=.seq vs.toArray } (.lst (ns.map V.int))/\K.lookup a=none)∨(u=.tbl #[]/\∃e∈tb,e.2=b))->ZE K H a (ns.map V.int)->(∀e∈tb,H e.2=some (.tbl #[]))->
   xo (xz P w) callerA (.call (.ref fa) ⟨[.ref a],[]⟩) (λr s'=>r=.ok (.ret (.bool true))/\OldK s₁.heap s'.heap/\s'.os=s₁.os/\AllBare s'.gens) s₁:=by
  intro H hO hS hTb;have hok:Yo P w H s₁.heap:=λb u e=>by
   rcases hO b u e with⟨rfl,rfl,_⟩ | ⟨rfl,e',he,rfl⟩
   ·exact⟨ha,by rw[qd];exact hl,vs,_,rv,ha⟩
   ·exact(hT e' he).2
  have base_of:∀{b:Addr} {o:Obj},s₁.heap.get? b=some o->H b=none->(Va s₁.heap H).get? b=some o:=λe n=>Zjc e n;have noA:∀{b:Addr} {o:Obj},s₁.heap.get? b=some o->(∀vs n,o.data≠.seq vs n)->(∀vs,o.data≠.fields vs∨o.cls≠.none)->H b=none:=λ{b o} e d1 d2=>by
   cases q:H b with
   | none=>rfl
   | some u=>
    rcases hO b u q with⟨rfl,_,_⟩ | ⟨_,e',he,rfl⟩
    ·rw[ha]at e;cases e;exact absurd rfl (d1 _ _)
    ·rw[(hT e' he).2]at e;cases e
     rcases d2 #[]with z | z
     ·exact absurd rfl z
     ·exact absurd rfl z
  have nsK:∀{b:Addr} {m:Str->Option Value},s₁.heap.Ns b m->(Va s₁.heap H).Ns b m:=λ{b m} ⟨o,es,ep,e,d,r⟩=>⟨o,es,ep,base_of e (noA e (λ_ _ z=>by rw[d]at z;cases z) λ_=>.inl λz=>by rw[d]at z;cases z),d,r⟩;have hKb:K.In (Va s₁.heap H):=λb o e=>base_of (KX b o e) (by
   cases q:H b with
   | none=>rfl
   | some u=>
    rcases hO b u q with⟨rfl,_,z⟩ | ⟨_,e',he,rfl⟩
    ·rw[z]at e;cases e
    ·rw[noK e' he]at e;cases e)
  have hM:Mod K mg (Va s₁.heap H):=⟨hKb,nsK hns,⟨mb,nsK hb,hbb⟩,let ⟨mc,h1,h2⟩:=hlim;⟨mc,nsK h1,h2⟩⟩;have e0:Env0 P w K mg (Va s₁.heap H) callerA [] s₁ H:=⟨rfl,hM,λb o e=>Zk8 e,Nat.le_of_eq (Zh0 _ _),trivial,λb hb=>absurd (show b∈([]:List Addr)from hb) (by simp),hok,.of_eq hg⟩;have hCd:∀e∈tb,yZ (Va s₁.heap H) e.1 e.2:=λe he=>by
   obtain⟨o,vs',file,tf,flags,tg,inF,text,tt,e1,r1,r2,r3⟩:=(hT e he).1;exact⟨o,vs',file,tf,flags,tg,inF,text,tt,base_of e1 (noA e1 (λ_ _ z=>by rw[r2]at z;cases z) λ_=>.inr (by rw[r1];nofun)),r1,r2,r3⟩
  have hBm:JF mg (Va s₁.heap H):=by
   obtain⟨bm,o,e1,e2,e3,e4,e5,e6,e7⟩:=hbm;exact⟨bm,o,e1,e2,e3,base_of e4 (noA e4 (λ_ _ z=>by rw[e7]at z;cases z) λ_=>.inl λz=>by rw[e7]at z;cases z),e5,e6,e7⟩
  refine codeAny_mono ((F _ hKb (nsK hns) hCd hBm).run callerA [] s₁ H ⟨[.ref a],[]⟩ [.ref a] [.ref a] _ _ hr e0 (hbind s₁ (.ref a)) (.cons rfl .nil) (hsp H hS hTb)) λr s' h=>?_
  cases r with
  | error e=>exact(hCX H e s' h).elim
  | ok fl=>
   cases fl with
   | next=>exact yC h
   | brk=>exact yC h
   | cont=>exact yC h
   | ret u=>
    obtain⟨v,H',os,bare,un,hok',r',q⟩:=h;have q':v=.bl true:=q;subst q';obtain rfl:u=yQ true:=r';refine⟨rfl,⟨λb o e=>?_,λb o e=>un.there b o e (by simp)⟩,os,bare⟩
    cases q:H b with
    | none=>exact .inl (un.keep b o e q (by intro z;exact absurd (show b∈([]:List Addr)from z) (by simp)) (by simp))
    | some u=>
     rcases hO b u q with⟨rfl,rfl,_⟩ | ⟨rfl,e',he,rfl⟩
     ·have z2:=un.frzs b _ _ q
      obtain⟨e1,_⟩:=hok b _ q;obtain⟨e2,_⟩:=hok' b _ z2;rw[e]at e1;cases e1;exact .inl e2
     ·obtain⟨more,z⟩:=un.tbls _ _ q
      have z2:s'.heap.get? e'.2=some (qbb (#[]++more)):=hok' _ _ z;have e1:=(hT e' he).2;rw[e]at e1;cases e1;exact .inr (.inl ⟨((hT e' he).1.tab (hT e' he).2).isCodeTable,rfl,#[],more,rfl,z2⟩)
 cases hk:K.lookup a with
 | some o=>
  have e:=KX a o hk;rw[ha]at e
  cases e
  refine core (λb=>open Classical in if ∃e∈tb,e.2=b then some (.tbl #[])else none) (λb u z=>?_) (.inr ⟨_,vs.toArray,_,hk,rfl,rfl,rfl,by rw[qL,lenV];exact hl,by simpa using rv⟩) (λe he=>if_pos ⟨e,he,rfl⟩);by_cases h:∃e∈tb,e.2=b
  ·rw[if_pos h]at z;cases z;exact .inr ⟨rfl,h⟩
  ·rw[if_neg h]at z;cases z
 | none=>
  refine core (λb=>open Classical in if ∃e∈tb,e.2=b then some (.tbl #[])else if b=a then some (.frz { cls:=.type "list",data:=.seq vs.toArray } (.lst (ns.map V.int)))else none) (λb u z=>?_) (.inl (.inr ⟨{ cls:=.type "list",data:=.seq vs.toArray },?_⟩)) (λe he=>if_pos ⟨e,he,rfl⟩)
  ·by_cases h:∃e∈tb,e.2=b
   ·rw[if_pos h]at z;cases z;exact .inr ⟨rfl,h⟩
   ·rw[if_neg h]at z
    by_cases hb:b=a
    ·rw[if_pos hb]at z;cases z;exact .inl ⟨hb,rfl,hk⟩
    ·rw[if_neg hb]at z;cases z
  ·show(if ∃e∈tb,e.2=a then _ else _)=_
   rw[if_neg (λ⟨e,he,z⟩=>tabne e he z),if_pos rfl]
theorem Zka {l : PySem.W.OpenLaw}{n k : Nat}{q : xB}{loose : List Str}{XP : (Str -> Option Value) -> Heap -> Prop}{YP : World -> Heap -> Prop}{d : DefRec}{K : Params -> qm}{CX : World -> XU}{sp : World -> Sp}{x : Str}{tb : List (Str × Addr × Addr)}
    (hn : l.most = some n) (hn2 : n <= xg) (hdf : d.params.defaults = []) (hr : Room k callerA)
    (hY : ∀ (w : World) (h : Heap), YP w h -> (K w.params).In h)
    (hrec : ∀ e ∈ tb, ∃ d, (recsOf q).find? (λr => r.name == e.1) = some d) (htab : ∀ w : World, ∀ e ∈ tb, PySem.W.tabIn (K w.params) e.1 = some e.2) (hno : ∀ w : World, PySem.W.noTabs (K w.params) = true)
    (F : ∀ (w : World) (mg : Str -> Option Value) (fa : Addr) (h : Heap), (K w.params).In h -> h.Ns mainGlobals mg -> mg d.name = some (.ref fa) ->
      ∃ fd : xA, (∀ (s : Shared) (u : Value), BindsTo s fd ⟨[u], []⟩ [(x, u)]) /\
        ∀ base : Heap, (K w.params).In base -> base.Ns mainGlobals mg -> (∀ e ∈ tb, yZ base e.2.1 e.2.2) -> JF mg base -> FnOk l.prog w (K w.params) mg base (CX w) k fa fd [x] (sp w))
    (hsp : ∀ (w : World) (H : Hp) (a : Addr) (ns : List Int), ns.length <= n -> ZE (K w.params) H a (ns.map V.int) -> (∀ e ∈ tb, H e.2.2 = some (.tbl #[])) -> sp w [.ref a] H (λv _ => v = .bl true) λ_ _ _ => False)
    (hCX : ∀ (w : World) (H : Hp) (s : Shared) (e : Value) (s' : Shared), CX w [] H s (λ_ _ _ => False) e s' -> False) :
    qcE q loose XP YP l.row.toRowW d [] (λf vs => qcA f vs) := by
  refine Att.attach_call hn hdf λw s₀ s₁ mg mb fa o pm cd doc a vs ns G Y ho hd hcd hmg hobj hints jN hg => ?_;have KX := hY w _ Y;obtain⟨fd, hb, hF⟩ := F w mg fa _ KX G.T.g hmg;have hT : ∀ e ∈ tb.map (·.2), yZ s₁.heap e.1 e.2 /\ s₁.heap.get? e.2 = some (qbb #[]) := λe he => by
    obtain⟨e', he', rfl⟩ := qp.mp he;obtain⟨d', hd'⟩ := hrec e' he';exact PySem.W.tab_of G.T KX hd' (htab w e' he')
  exact ZiA (tb := tb.map (·.2)) KX G.T.g G.T.b G.T.builtins G.T.nolimit hg hT (hno w) (let ⟨bm, ob, a, b, c, d, e, f⟩ := G.T.bmain; ⟨bm, ob, a, b, (λz => by
      obtain⟨o, es, ep, e', hd', _⟩ := G.T.g;rw[z, e'] at c; cases c; rw[hd'] at f; cases f), c, d, e, f⟩) hobj hints (zb jN hn2) hr
    (λbase h1 h2 h3 h4 => hF base h1 h2 (λe he => h3 e.2 (qay (f := (·.2)) he)) h4) hb (λH hS hTb => hsp w H a ns jN hS λe he => hTb e.2 (qay (f := (·.2)) he)) λH e s' => hCX w H s₁ e s'
end TF
namespace L2
section
variable {X:Cx}{jC:Qb}{σ:St}{H:Hp}{s:Shared}{h':Heap}
end
end L2
namespace TF
open L2
section
variable {X:Cx}{G:Gh}
end
section
variable {X:Cx}{G:Gh}
noncomputable def Y7 (n:Int)(r:List Int):Int:=r.foldl max n
theorem ZlT (r:List Int):∀n,n<=Y7 n r/\∀a∈r,a<=Y7 n r:=by
 induction r with
 | nil=>intro n;exact⟨yP _,by simp⟩
 | cons b r ih=>
  intro n;obtain⟨h1,h2⟩:=ih (max n b);refine⟨?_,λa ha=>?_⟩
  ·show n<=Y7 (max n b) r;omega
  ·show a<=Y7 (max n b) r
   rcases qu.mp ha with rfl | ha
   ·omega
   ·exact h2 a ha
theorem Zkb (r:List Int):∀n,Y7 n r∈n::r:=by
 induction r with
 | nil=>intro n;simp[Y7]
 | cons b r ih=>
  intro n;have h:=ih (max n b);show Y7 (max n b) r∈n::b::r;rcases qu.mp h with h | h
  ·rw[h]
   rcases Int.le_total n b with z | z
   ·rw[Int.max_eq_right z];simp
   ·rw[Int.max_eq_left z];simp
  ·exact qT _ (qT _ h)
theorem Zfx {n M:Int}{r:List Int}(h1:M∈n::r)(h2:∀a∈n::r,a<=M):M=Y7 n r:=by
 obtain⟨g1,g2⟩:=ZlT r n;have g3:=h2 _ (Zkb r n);have g4:M<=Y7 n r:=by
  rcases qu.mp h1 with h | h
  ·rw[h];exact g1
  ·exact g2 M h
 omega
noncomputable def BB:List D->Option D
 | [.lst ds]=>match ZL ds with | some (n::r)=>some (.int (Y7 n r)) | _=>none
 | _=>none
theorem ZiB (hc:X.calm=true):Y2 X (.builtin "max") (λxs H Q=>∃p n r,xs=[.ref p]/\ZE X.K H p ((n::r).map V.int)/\Q (.int (Y7 n r)) H):=by
 intro jC s σ H xs us Q I r h;obtain⟨p,n,rr,rfl,hp,q⟩:=h;obtain⟨u,rfl,ru⟩:=Xu r
 cases ru
 obtain⟨jH,rv,pl,hz⟩:=I.list hp;have hi:IntsAre jH (n::rr):=Wo rv;obtain⟨xs,e⟩:=hi.allInts.items;have hns:n::rr=xs.toList.map (·.1):=by rw[<-hi.numsOf,<-nums_intItems,<-e]
 have hl:=pl.isList;rw[e]at hl;have hsz:0<xs.size:=by
  have h3:0<(n::rr).length:=by simp
  rw[hns,qd,qy]at h3;exact h3
 refine max_intList (I.ok.hd hc) hl hsz λv h' tk hv hk=>?_;obtain⟨t,rfl⟩:=intItems_at hv;obtain⟨h1,h2⟩:=argBest_gt (numAt xs) (xs.size-1);have e2:numAt xs (argBest (λi j=>decide (numAt xs i > numAt xs j)) (xs.size-1))=Y7 n rr:=by
  refine Zfx ?_ λa ha=>?_
  ·rw[hns,numAt_eq];exact getD_mem (by rw[qd,qy];omega)
  ·rw[hns]at ha
   obtain⟨j,hj,rfl⟩:=mem_getD ha;rw[qd,qy]at hj;rw[<-numAt_eq];exact h2 j (by omega)
 rw[e2];exact⟨.int (Y7 n rr),H,I.kept (t':=tk) hk,⟨_,rfl⟩,q⟩
theorem ZcV (hc:X.calm=true):XA X G (.builtin "max") BB:=
 ⟨_,ZiB hc,λHf H s xs ds c Q e1 st r q k=>by
  match ds,q,r with
  | [.lst es],q,r=>
   have q:(match ZL es with | some (n::r)=>some (D.int (Y7 n r)) | _=>none)=some c:=q
   cases he:ZL es with
   | none=>rw[he]at q;cases q
   | some ns=>
    cases ns with
    | nil=>rw[he]at q;cases q
    | cons n rr=>
     rw[he]at q
     cases q
     obtain⟨v,rfl,rv⟩:=jg r;obtain⟨p,vs,rfl,np,hp,rp⟩:=jb.mp rv;rw[Wp he]at rp;rw[jk rp]at hp;exact⟨p,n,rr,rfl,ZE.of (e1 _ _ np hp),k _ Hf H (.refl e1) st (ja.mpr rfl) (.scal λz=>z)⟩⟩
end
theorem ZaF:∀{a b:List Int},a.Perm b->a.Pairwise (·<=·)->b.Pairwise (·<=·)->a=b
 | [],b,p,_,_=>(List.nil_perm.mp p).symm
 | x::a,[],p,_,_=>absurd p.length_eq (by simp)
 | x::a,y::b,p,ha,hb=>by
  have ha':=ye.mp ha;have hb':=ye.mp hb;have e:x=y:=by
   have h1:x∈y::b:=p.mem_iff.mp (by simp);have h2:y∈x::a:=p.mem_iff.mpr (by simp);rcases qu.mp h1 with h1 | h1
   ·exact h1
   ·rcases qu.mp h2 with h2 | h2
    ·exact h2.symm
    ·have:=hb'.1 x h1
     have:=ha'.1 y h2;omega
  subst e;rw[ZaF (qa6.cons_inv p) ha'.2 hb'.2]
noncomputable def Xi (ns:List Int):List Int:=ns.mergeSort λa b=>decide (a<=b)
theorem Za4 (ns:List Int):(Xi ns).Perm ns:=qcK ns _
theorem Zew (ns:List Int):(Xi ns).Pairwise (·<=·):=by
 have h:=qcc (le:=λ(a b:Int)=>decide (a<=b)) (λa b c h1 h2=>by simp at h1 h2⊢;omega) (λa b=>by simp;omega) ns;exact h.imp λh=>by simpa using h
theorem B8 {a ns:List Int}(p:a.Perm ns)(h:a.Pairwise (·<=·)):a=Xi ns:=ZaF (p.trans (Za4 ns).symm) h (Zew ns)
section
variable {X:Cx}{G:Gh}
theorem Zaw:∀{vs:List Value} {ns:List Int},IntsAre vs ns->ZB (ns.map V.int) vs
 | _,_,.nil=>.nil
 | _,_,.cons n t r=>.cons ⟨t,rfl⟩ (Zaw r)
theorem ZgF:Y2 X (.builtin "sorted") (λxs H Q=>∃(p:Addr) (ns:List Int),xs=[.ref p]/\ZE X.K H p (ns.map V.int)/\ns.length<64/\∀l,H l=none->Q (.ref l) (Zn H l (.lst ((Xi ns).map V.int)))):=by
 intro jC s σ H xs us Q I r h;obtain⟨p,ns,rfl,hp,h64,q⟩:=h;obtain⟨u,rfl,ru⟩:=Xu r
 cases ru
 obtain⟨jH,rv,pl,hz⟩:=I.list hp;have hi:IntsAre jH ns:=Wo rv;have hl:=rv.length;rw[qd]at hl;refine sorted_ints pl.isList hi (by omega) λout ns' a1 a2 a3=>?_;obtain⟨e,he⟩:=sortedAll_at s.heap jH out;have eo:out=out.toList.toArray:=by simp
 rw[eo]at he;have en:=B8 a2 a3;subst en;have hle:s.heap.objs.size<=s.heap.objs.size+1:=qcl _;refine⟨.ref (s.heap.objs.size+1),_,I.laid (a:=s.heap.objs.size+1) (o:=.lst ((Xi ns).map V.int)) (t':=s.toks) (λ_ _=>sortedAll_old) hle ⟨?_,out.toList,e,Zaw a1,he⟩,rfl,q _ (I.hok.fresh hle)⟩;rw[qd,(Za4 ns).length_eq,sizeLine_eq];omega
noncomputable def Zcw:List D->Option D
 | [.lst ds]=>match ZL ds with | some ns=>if ns.length<64 then some (.lst ((Xi ns).map .int))else none | none=>none
 | _=>none
theorem J8 {Hf:Hp}:∀ns:List Int,Zi G Hf (ns.map D.int) (ns.map V.int)
 | []=>Zi.nil_iff.mpr rfl
 | n::ns=>.cons (ja.mpr rfl) (J8 ns)
theorem Zex:XA X G (.builtin "sorted") Zcw:=
 ⟨_,ZgF,λHf H s xs ds c Q e1 st r q k=>by
  match ds,q,r with
  | [.lst es],q,r=>
   have q:(match ZL es with | some ns=>if ns.length<64 then some (D.lst ((Xi ns).map .int))else none | none=>none)=some c:=q
   cases he:ZL es with
   | none=>rw[he]at q;cases q
   | some ns=>
    rw[he]at q;have q:(if ns.length<64 then some (D.lst ((Xi ns).map .int))else none)=some c:=q;split at q
    ·rename_i h64
     cases q
     obtain⟨v,rfl,rv⟩:=jg r;obtain⟨p,vs,rfl,np,hp,rp⟩:=jb.mp rv;rw[Wp he]at rp;rw[jk rp]at hp;refine⟨p,ns,rfl,ZE.of (e1 _ _ np hp),h64,λl hl=>?_⟩;have nf:=Gh.nofp st hl;have g2:=Gr.new (o:=.lst ((Xi ns).map V.int)) e1 hl nf;exact k (.ref l) _ _ g2 (Gh.grow st hl) (jb.mpr ⟨l,_,rfl,nf,ZX,J8 _⟩) (Yj.mk e1 hl nf (J8 _))
    ·cases q⟩
end
end TF
namespace HT
section
variable {prog:xB}{w:World}{A:xC}{E:xD}{s:Shared}
end
end HT
namespace TF
open L2
section
variable {X:Cx}{G:Gh}
end
end TF
namespace L2
open AutoSeq1 (wpAny_loadPart')
section
variable {prog:xB}{w:World}{A:xC}{E:xD}{s:Shared}
end
end L2
namespace TF
open L2
section
variable {X:Cx}{G:Gh}
end
section
variable {X:Cx}{G:Gh}
end
end TF
namespace L2
section
variable {prog:xB}{w:World}{A:xC}{E:xD}{s:Shared}
theorem Zkc {t:Addr}{vs:List Value}{Q:List Value->Shared->Prop}(ht:s.heap.IsTuple t vs.toArray)(k:Q vs { s with heap:=(s.heap.push (seqObj "list" #[] 0)).update s.heap.objs.size (zu (· ++ vs.toArray)) })(hz:vs.length<=xg):xf (xz prog w) A (collect (.ref t)) Q E s:=by
 obtain⟨o,ho,hc,n,hd⟩:=id ht;unfold collect;refine xa (wpAny_runValue (xm entry_proto_collect' ?_));show xf _ _ (do again (.builtin "list.__iadd__" ⟨[<-newList [],.ref t],[]⟩)) _ _ s;refine xa (xw (xb ⟨qbK _ (by decide +kernel),xm entry_list_iadd' ?_⟩));show xf _ _ (qae (.ref s.heap.objs.size) (.ref t) (.ref s.heap.objs.size)) _ _ { s with heap:=s.heap.push (seqObj "list" #[] 0) };unfold qae;have ho':(s.heap.push (seqObj "list" #[] 0)).get? t=some o:=qf _ ho;refine xa (wpAny_typeOf (T:="tuple") ⟨o,ho',hc⟩ ?_);have hb:(yI "tuple" == yI "tuple")=true:=by rfl
 rw[if_pos (by rw[hb];simp)];refine xa (listItems_at ho' hd ?_);refine xa (listItems_at (xs:=#[]) (n:=0) (qD _ rfl) rfl ?_);rw[if_neg (by simp)];refine xa (listUpdate_at (xs:=#[]) (n:=0) (qD _ rfl) rfl ?_ (zB _) (by show(#[]++vs.toArray).size<=xg+1;simp only[Array.size_append,qL,qag];omega));refine xb ?_;show xf (xz prog w) A (do let o<-load s.heap.objs.size;match o.data with | .seq xs _=>pure xs.toList | _=>unsupported "internal:collect") Q E { s with heap:=(s.heap.push (seqObj "list" #[] 0)).update s.heap.objs.size (zu (· ++ vs.toArray)) };refine xa (wpAny_load (get?_update_seq (qD _ rfl) _) ?_);show xf _ _ (pure ((#[]:Array Value)++vs.toArray).toList) Q E _;rw[show((#[]:Array Value)++vs.toArray).toList=vs by simp];exact xb k
theorem sortedT {t:Addr}{vs:List Value}{ns:List Int}{Q:xD}(ht:s.heap.IsTuple t vs.toArray)(hI:IntsAre vs ns)(h64:vs.length<64)
  (k:∀(out:Array Value) (ns':List Int),IntsAre out.toList ns'->ns'.Perm ns->ns'.Pairwise (·<=·)->Q (.ref (s.heap.objs.size+1)) { s with heap:=sortedAll s.heap vs out }):xf (xz prog w) A (call (.builtin "sorted") [.ref t]) Q E s:=by
 refine qa1 kind_sorted plain_sorted entry_sorted (args_sorted1 _) ?_;unfold Builtin.«sorted»;refine xa (m:=checkCount "sorted" 1 1 _) (xb ?_);refine xa (Zkc ht ?_ (by rw[sizeLine_eq];omega));refine xa (xw ?_);have z1:((s.heap.push (seqObj "list" #[] 0)).update s.heap.objs.size (zu (· ++ vs.toArray))).objs.size=s.heap.objs.size+1:=by rw[Heap.size_update,size_push']
 have g1:(((s.heap.push (seqObj "list" #[] 0)).update s.heap.objs.size (zu (· ++ vs.toArray))).push (seqObj "list" vs.toArray 0)).get? (s.heap.objs.size+1)=some (seqObj "list" vs.toArray 0):=by rw[<-z1];exact qD _ rfl
 show xf _ _ _ _ _ { s with heap:=((s.heap.push (seqObj "list" #[] 0)).update s.heap.objs.size (zu (· ++ vs.toArray))).push (seqObj "list" vs.toArray 0) };rw[z1];refine xa (xu (wpAny_call_entry slot_list_sort ⟨_,g1,rfl⟩ entry_list_sort (list_sort_tree g1 hI h64 λout ns' a1 a2 a3=>⟨_,rfl,?_⟩) (args_list_sort _)));exact xb ⟨_,rfl,k out ns' a1 a2 a3⟩
end
end L2
namespace TF
open L2
section
variable {X:Cx}{G:Gh}
theorem Zfy:Y2 X (.builtin "sorted") (λxs H Q=>∃(p:Addr) (ns:List Int),xs=[.ref p]/\ZI X.K H p (ns.map V.int)/\ns.length<64/\∀l,H l=none->Q (.ref l) (Zn H l (.lst ((Xi ns).map V.int)))):=by
 intro jC s σ H xs us Q I r h;obtain⟨p,ns,rfl,hp,h64,q⟩:=h;obtain⟨u,rfl,ru⟩:=Xu r
 cases ru
 obtain⟨jH,rv,pl,hz⟩:=I.tuple hp;have hi:IntsAre jH ns:=Wo rv;have hl:=rv.length;rw[qd]at hl;refine sortedT (show s.heap.IsTuple p jH.toArray from pl) hi (by omega) λout ns' a1 a2 a3=>?_;obtain⟨e,he⟩:=sortedAll_at s.heap jH out;have eo:out=out.toList.toArray:=by simp
 rw[eo]at he;have en:=B8 a2 a3;subst en;have hle:s.heap.objs.size<=s.heap.objs.size+1:=qcl _;refine⟨.ref (s.heap.objs.size+1),_,I.laid (a:=s.heap.objs.size+1) (o:=.lst ((Xi ns).map V.int)) (t':=s.toks) (λ_ _=>sortedAll_old) hle ⟨?_,out.toList,e,Zaw a1,he⟩,rfl,q _ (I.hok.fresh hle)⟩;rw[qd,(Za4 ns).length_eq,sizeLine_eq];omega
noncomputable def ZcW:List D->Option D
 | [.tup ds]=>match ZL ds with | some ns=>if ns.length<64 then some (.lst ((Xi ns).map .int))else none | none=>none
 | _=>none
theorem Zey:XA X G (.builtin "sorted") ZcW:=
 ⟨_,Zfy,λHf H s xs ds c Q e1 st r q k=>by
  match ds,q,r with
  | [.tup es],q,r=>
   have q:(match ZL es with | some ns=>if ns.length<64 then some (D.lst ((Xi ns).map .int))else none | none=>none)=some c:=q
   cases he:ZL es with
   | none=>rw[he]at q;cases q
   | some ns=>
    rw[he]at q;have q:(if ns.length<64 then some (D.lst ((Xi ns).map .int))else none)=some c:=q;split at q
    ·rename_i h64
     cases q
     obtain⟨v,rfl,rv⟩:=jg r;obtain⟨p,vs,rfl,np,hp,rp⟩:=jc.mp rv;rw[Wp he]at rp;rw[jk rp]at hp;refine⟨p,ns,rfl,ZI.of (e1 _ _ np hp),h64,λl hl=>?_⟩;have nf:=Gh.nofp st hl;have g2:=Gr.new (o:=.lst ((Xi ns).map V.int)) e1 hl nf;exact k (.ref l) _ _ g2 (Gh.grow st hl) (jb.mpr ⟨l,_,rfl,nf,ZX,J8 _⟩) (Yj.mk e1 hl nf (J8 _))
    ·cases q⟩
end
end TF
namespace L2
end L2
namespace TF
open L2
section
variable {X:Cx}{G:Gh}
end
end TF
namespace L2
section
variable {prog:xB}{w:World}{A:xC}{E:xD}{s:Shared}{o:Obj}{es:Array DictEntry}{d it:Addr}{ep i:Nat}
end
section
variable {X:Cx}{tg:Expr}
end
end L2
namespace TF
open L2
section
variable {X:Cx}{G:Gh}
end
end TF
namespace L2
section
variable {prog:xB}{w:World}{A:xC}{E:xD}{s:Shared}{z TI TO i1 i2:Addr}{f1 f2:List Addr}{n1 n2 k:Nat}{P1 P2:Nat->Value->Prop}{S1 S2:Nat->Heap->Prop}{a b:Value}
end
section
variable {prog:xB}{w:World}{A:xC}{E:xD}{s:Shared}
end
end L2
namespace TF
open L2
section
variable {X:Cx}{G:Gh}
end
end TF
namespace TS
open PySem.W
section
variable {lt:Nat->Nat->Bool}{n:Nat}{p q:Array Nat}
end
noncomputable def Yt:List Int->List Int->Bool
 | [],[]=>false
 | [],_::_=>true
 | _::_,[]=>false
 | a::as,b::bs=>if a=b then Yt as bs else decide (a<b)
theorem ZcX:∀a,Yt a a=false
 | []=>rfl
 | a::as=>by unfold Yt;rw[if_pos rfl];exact ZcX as
theorem Zcx:∀a b c,Yt a b=true->Yt b c=true->Yt a c=true
 | [],[],_,h,_=>by cases h
 | [],_::_,[],_,h=>by cases h
 | [],_::_,_::_,_,_=>rfl
 | _::_,[],_,h,_=>by cases h
 | _::_,_::_,[],_,h=>by cases h
 | a::as,b::bs,c::cs,h1,h2=>by
  unfold Yt at h1 h2⊢;split at h1
  ·rename_i e;subst e
   split at h2
   ·rename_i e;subst e;rw[if_pos rfl];exact Zcx as bs cs h1 h2
   ·rename_i e;rw[if_neg e];exact h2
  ·rename_i e1
   split at h2
   ·rename_i e;subst e;rw[if_neg e1];exact h1
   ·rename_i e2
    simp at h1 h2;rw[if_neg (by omega)];simp;omega
theorem Be:∀a b,a≠b->Yt a b=false->Yt b a=true
 | [],[],n,_=>absurd rfl n
 | [],_::_,_,h=>by cases h
 | _::_,[],_,_=>rfl
 | a::as,b::bs,n,h=>by
  unfold Yt at h⊢;split at h
  ·rename_i e;subst e;rw[if_pos rfl]
   exact Be as bs (λz=>n (by rw[z])) h
  ·rename_i e
   simp at h;rw[if_neg (zO e)];simp;omega
theorem Zfz {a b:List Int}(h:Yt a b=true):Yt b a=false:=by
 cases e:Yt b a with
 | false=>rfl
 | true=>have:=Zcx _ _ _ h e;rw[ZcX]at this;cases this
noncomputable def Xk (a b:List Int):Bool:=!Yt b a
theorem Zkd {a b:List Int}(h1:Xk a b=true)(h2:Xk b a=true):a=b:=by
 unfold Xk at h1 h2;simp at h1 h2;by_cases e:a=b
 ·exact e
 ·rw[Be a b e h2]at h1;cases h1
theorem Znq (a b c:List Int)(h1:Xk a b=true)(h2:Xk b c=true):Xk a c=true:=by
 unfold Xk at h1 h2⊢;simp at h1 h2⊢;by_cases e1:a=b
 ·subst e1;exact h2
 ·by_cases e2:b=c
  ·subst e2;exact h1
  ·exact Zfz (Zcx _ _ _ (Be b a (zO e1) h1) (Be c b (zO e2) h2))
theorem Znr (a b:List Int):(Xk a b||Xk b a)=true:=by
 unfold Xk
 cases e:Yt b a with
 | false=>rfl
 | true=>rw[Zfz e];rfl
theorem ZcY:∀{a b:List (List Int)},a.Perm b->a.Pairwise (λx y=>Xk x y=true)->b.Pairwise (λx y=>Xk x y=true)->a=b
 | [],b,p,_,_=>(List.nil_perm.mp p).symm
 | x::a,[],p,_,_=>absurd p.length_eq (by simp)
 | x::a,y::b,p,ha,hb=>by
  have ha':=ye.mp ha;have hb':=ye.mp hb;have e:x=y:=by
   have h1:x∈y::b:=p.mem_iff.mp (by simp);have h2:y∈x::a:=p.mem_iff.mpr (by simp);rcases qu.mp h1 with h1 | h1
   ·exact h1
   ·rcases qu.mp h2 with h2 | h2
    ·exact h2.symm
    ·exact Zkd (ha'.1 y h2) (hb'.1 x h1)
  subst e;rw[ZcY (qa6.cons_inv p) ha'.2 hb'.2]
noncomputable def YN (jI:List (List Int)):List (List Int):=jI.mergeSort Xk
theorem ZcZ (jI:List (List Int)):(YN jI).Perm jI:=qcK jI _
theorem Zbk (jI:List (List Int)):(YN jI).Pairwise (λx y=>Xk x y=true):=qcc Znq Znr jI
theorem Za5 {a jI:List (List Int)}(p:a.Perm jI)(h:a.Pairwise (λx y=>Xk x y=true)):a=YN jI:=ZcY (p.trans (ZcZ jI).symm) h (Zbk jI)
theorem ZaG {a b:List (List Int)}(p:a.Perm b):YN a=YN b:=Za5 ((ZcZ a).trans p) (Zbk a)
noncomputable def Yr (h:Heap)(v:Value)(ns:List Int):Prop:=∃a xs,v=.ref a/\h.IsTuple a (yT xs)/\IntsAre xs ns
section
variable {prog:xB}{w:World}{A:xC}{E:xD}{s:Shared}
theorem Zmy {fin:Bool}{Q:Bool->Shared->Prop}:∀{as bs:List Int} {xs ys:List Value} (i:Nat),IntsAre xs as->IntsAre ys bs->fin=decide (as.length<bs.length)->Q (Yt as bs) s->KatLex prog w A true fin Q (xs.zip ys) i s
 | [],[],_,_,i,.nil,.nil,e,h=>by subst e;exact kat_nil h
 | [],_::_,_,_,i,.nil,.cons _ _ _,e,h=>by subst e;exact kat_nil h
 | _::_,[],_,_,i,.cons _ _ _,.nil,e,h=>by subst e;exact kat_nil h
 | a::as,b::bs,_,_,i,.cons _ t hx,.cons _ u hy,e,h=>by
  unfold Yt at h;refine kat_cons (wpAny_eqBool_int ?_);by_cases q:a=b
  ·rw[if_pos q]at h
   rw[show(a==b)=true by simp[q]];exact kat_yes (Zmy (i+1) hx hy (by rw[e];simp) h)
  ·rw[if_neg q]at h
   rw[show(a==b)=false by simp[q]];refine kat_no ?_;by_cases hi:i=0
   ·subst hi
    exact oneLt_int h
   ·rw[show(true&&i==0)=false by simp[hi]]
    exact kat_one _ _ (lt_int h)
theorem Zoo {x y:Value}{as bs:List Int}{C:Bool->Shared->Prop}(hx:Yr s.heap x as)(hy:Yr s.heap y bs)(h:C (Yt as bs) s):xf (xz prog w) A (keyLt' (tuples' true) x y) C E s:=by
 obtain⟨a,xs,rfl,⟨o,ho,hc,n,hd⟩,ix⟩:=hx;obtain⟨b,ys,rfl,⟨o',ho',hc',n',hd'⟩,iy⟩:=hy;refine kat_lt ho hd ho' hd' ?_;have e:decide ((yT xs).size<(yT ys).size)=decide (as.length<bs.length):=by rw[qL,qL,ix.length,iy.length]
 exact Zmy 0 ix iy e h
theorem Zke {h:Heap}:∀{vs:List Value} {jI:List (List Int)},Paired (Yr h) vs jI->(∀ns∈jI,ns≠[])->∃fs,KatTups h vs fs/\fs.length=vs.length/\∀v∈fs,∃n t,v=qbt n t
 | _,_,.nil,_=>⟨[],.nil,rfl,λ_ z=>by simp at z⟩
 | _,_,.cons (a:=v) (b:=ns) hv r,hne=>by
  obtain⟨fs,h1,h2,h3⟩:=Zke r λns' m=>hne ns' (qT _ m);obtain⟨a,xs,rfl,⟨o,ho,hc,n,hd⟩,ix⟩:=hv
  cases ix with
  | nil=>exact absurd rfl (hne [] (by simp))
  | cons m t r'=>
   refine⟨.int m t::fs,.cons ho hc hd (by simp) h1,by simp[h2],λv hv=>?_⟩;rcases qu.mp hv with rfl | hv
   ·exact⟨m,t,rfl⟩
   ·exact h3 v hv
theorem Zns {vs:List Value}{jI:List (List Int)}{Q:SortKind->Shared->Prop}(h:Paired (Yr s.heap) vs jI)(hne:∀ns∈jI,ns≠[])(h0:0<vs.length)(q:Q (tuples' true) s):xf (xz prog w) A (keyKind' vs.toArray) Q E s:=by
 obtain⟨fs,h1,h2,h3⟩:=Zke h hne;refine kat_kind (T:=.type "int") h1 (by omega) (λv hv=>?_) rfl ?_
 ·obtain⟨n,t,rfl⟩:=h3 v hv
  exact Looks.of_pure rfl
 ·exact q
theorem Yr.at {h h':Heap}{v:Value}{ns:List Int}{b:Addr}(k:∀c o,c≠b->h.get? c=some o->h'.get? c=some o)(hb:∃o,h.get? b=some o/\o.cls=.type "list")(x:Yr h v ns):Yr h' v ns:=by
 obtain⟨a,xs,e,⟨o,ho,hc,r⟩,i⟩:=x;refine⟨a,xs,e,⟨o,k a o (λz=>?_) ho,hc,r⟩,i⟩;obtain⟨o',h1,h2⟩:=hb;rw[z,h1]at ho;cases ho;rw[h2]at hc;exact absurd (yI.inj hc) (by decide)
theorem jv {α β:Type}{F:α->β->Prop}:∀{l:List α} {r:List β} {i:Nat} (d:α) (d':β),Paired F l r->i<l.length->F (l.getD i d) (r.getD i d')
 | _,_,i,_,_,.nil,e=>absurd e (by simp)
 | _,_,0,_,_,.cons h t,e=>h
 | _,_,i+1,d,d',.cons h t,e=>by
  have:=jv d d' t (i:=i) (by simpa using e);simpa using this
theorem range_getD {α:Type}(vs:List α)(d:α):((qk vs.length).map λi=>vs.getD i d)=vs:=by
 refine List.ext_getElem (by simp) λi h1 h2=>?_;simp[h2]
end
section
variable {prog:xB}{w:World}{A:xC}{E:xD}{s:Shared}
end
theorem Paired.pick {α β:Type}{F:α->β->Prop}{l:List α}{r:List β}(d:α)(d':β)(h:Paired F l r):∀(ix:List Nat),(∀i∈ix,i<l.length)->Paired F (ix.map λi=>l.getD i d) (ix.map λi=>r.getD i d')
 | [],_=>.nil
 | i::ix,hb=>.cons (jv d d' h (hb i (by simp))) (Paired.pick d d' h ix λj m=>hb j (qT _ m))
end TS
namespace TF
open L2 TS
section
variable {X:Cx}{G:Gh}
theorem ZbH {jC:Qb}{s:Shared}{σ:St}{H:Hp}{T:V->List Int->Prop}(I:Inv X jC σ H s)(hT:∀v ns,T v ns->∃a,v=.ref a/\ZI X.K H a (ns.map V.int)):∀{vs:List V} {jH:List Value} {jI:List (List Int)},ZB vs jH->Paired T vs jI->Paired (Yr s.heap) jH jI
 | _,_,_,.nil,.nil=>.nil
 | _,_,_,.cons r rr,.cons t tt=>by
  refine .cons ?_ (ZbH I hT rr tt);obtain⟨a,rfl,hq⟩:=hT _ _ t
  cases r
  obtain⟨xs,rv,pl,hz⟩:=I.tuple hq;exact⟨a,xs,rfl,show s.heap.IsTuple a xs.toArray from pl,Wo rv⟩
noncomputable def Y8 (ns:List Int):D:=.tup (ns.map .int)
noncomputable def WO:List D->Option (List (List Int))
 | []=>some []
 | .tup ds::r=>match ZL ds,WO r with | some ns,some jI=>some (ns::jI) | _,_=>none
 | _::_=>none
theorem Za6:∀jI:List (List Int),WO (jI.map Y8)=some jI
 | []=>rfl
 | ns::jI=>by
  show(match ZL (ns.map D.int),WO (jI.map Y8)with | some ns,some jI=>some (ns::jI) | _,_=>none)=_;rw[JQ,Za6 jI]
theorem ZbI:∀{ds:List D} {jI:List (List Int)},WO ds=some jI->ds=jI.map Y8
 | [],jI,h=>by
  have h:some []=some jI:=h
  cases h;rfl
 | d::r,jI,h=>by
  cases d with
  | tup ds=>
   have h:(match ZL ds,WO r with | some ns,some jI=>some (ns::jI) | _,_=>none)=some jI:=h
   cases e1:ZL ds with
   | none=>rw[e1]at h;cases h
   | some ns=>
    cases e2:WO r with
    | none=>rw[e1,e2]at h;cases h
    | some ms=>
     rw[e1,e2]at h;cases h;rw[qX,<-ZbI e2];unfold Y8;rw[<-Wp e1]
  | _=>cases h
theorem ZbJ {Hf:Hp}:∀{jI:List (List Int)} {vs:List V},Zi G Hf (jI.map Y8) vs->Paired (λv ns=>Zj G Hf (Y8 ns) v) vs jI
 | [],vs,h=>by
  rw[Zi.nil_iff.mp h];exact .nil
 | ns::jI,vs,h=>by
  obtain⟨v,r,rfl,h1,h2⟩:=jd.mp h;exact .cons h1 (ZbJ h2)
theorem ZbK {Hf:Hp}:∀{jI:List (List Int)} {vs:List V},Paired (λv ns=>Zj G Hf (Y8 ns) v) vs jI->Zi G Hf (jI.map Y8) vs
 | _,_,.nil=>Zi.nil_iff.mpr rfl
 | _,_,.cons h t=>.cons h (ZbK t)
end
end TF
namespace TF
open L2
section
variable {X:Cx}{G:Gh}{own:List Nat}{fr:Bool}
end
section
variable {X:Cx}{G:Gh}
end
section
variable {X:Cx}{G:Gh}{ob:List Nat}{fr:Bool}
end
section
variable {X:Cx}{G:Gh}{ob own:List Nat}{fr:Bool}
end
section
variable {X:Cx}{G:Gh}{ob own:List Nat}{fr:Bool}
noncomputable def Znt (K:qm):V->List V->Hp->VK->Prop:=λx vs H Q=>∃(p:Addr) (ns:List Int) (k:Int),x=.ref p/\vs=[.int k]/\ZE K H p (ns.map V.int)/\k∈ns/\Q (.int (ns.idxOf k:Nat)) H
theorem Zkf : MtR X "list.index" (Znt X.K) := by
  intro jC s σ H x xs v us Q I rx rv h;obtain⟨p, ns, k, rfl, rfl, hp, hk, q⟩ := h
  cases rx
  obtain⟨u, rfl, t, rfl⟩ := Xu rv;obtain⟨jH, r2, pl, hz⟩ := I.list hp;have hi : IntsAre jH ns := Wo r2;obtain⟨⟨c0, d0, dat, sl0⟩, hob, hcl, n0, hdat⟩ := id pl.isList;simp only at hcl hdat;subst hcl hdat;have l1 := hi.length;have l2 : ns.idxOf k < ns.length := by rw[qa7]; exact hk
  have l3 : ns.length <= xg := by simpa using hz
  have l4 := Bk;have go := SeqAt.list_indexAt p jH.toArray n0 d0 sl0 (.int k t) (isInt k) (ns.idxOf k) (by simpa[l1] using l2) (by omega)
    (by show isInt k jH[ns.idxOf k] = true
        rw[isInt_at k hi (ns.idxOf k) (by omega) l2]; simpa using List.getElem_idxOf l2)
    (λj hjs hlt => by
        show isInt k jH[j] = false;rw[isInt_at k hi j (by simpa using hjs) (by have : j < ns.idxOf k := hlt; omega)]; exact ne_of_lt_idxOf hlt _)
  refine call_meets qcd ⟨_, hob, rfl⟩ PySem.F.entry_list_index (PySem.F.args_list_index_2 _ _) go ⟨hob, λy hy => (eq_isInt k t hi y (by simpa using hy)).at _ _, ?_⟩;exact⟨.int (ns.idxOf k : Nat), H, I.tok _, ⟨_, rfl⟩, q⟩
noncomputable def Zez:D->D->Option D
 | .lst ds,.int k=>(ZL ds).bind λns=>if k∈ns then some (.int (ns.idxOf k:Nat))else none
 | _,_=>none
theorem Zkg {o e:Expr}{ap cp:Pos}{r1 r2:Bool}{fo fe:Zb->M D}(ho:PD X G r1 o fo)(he:PD X G r2 e fe)
  (hbase:xq o "index" X.env (eval o X.env)=eval o X.env:=by rfl)
  (hfew:((backTo cp (xh [e] X.env)).all (λx=>!x.1)&&(xp cp (xi [] X.env)).all (λx=>x.1.isSome)
   && decide ([e].length+([]:List Keyword).length+(if ([]:List Keyword).isEmpty then 0 else 1)<30))=true:=by rfl)
  (hline:(ap.endLine==cp.line)=true:=by rfl) (hs:xh [e] X.env=(false,eval e X.env)::xh [] X.env:=by rfl) :
  PD X G true (.Call (.Attribute o "index" ap) [e] [] cp) (Ze Zez fo fe):=by
 obtain⟨to,po,qo⟩:=ho.drop;obtain⟨te,pe,qe⟩:=he.drop;refine⟨_,Zjm qbf qcd PySem.F.type_list_index Zkf po (Xb pe Xy hs) hbase hfew hline hs rfl,fun σ Hf H ρ s d s' Q e1 e2 e3 e4 k=>?_⟩;obtain⟨da,s1,a1,a2⟩:=ZF e4;obtain⟨db,s2,a3,a4⟩:=ZF a2;obtain⟨a5,rfl⟩:=WZ a4;refine qo σ Hf H ρ s da s1 _ e1 e2 e3 a1 λx jQ H1 g1 jT r1=>?_
 match da,db,a5,r1,a3 with
 | .lst ds,.int kk,a5,r1,a3=>
  have a5:((ZL ds).bind λns=>if kk∈ns then some (D.int (ns.idxOf kk:Nat))else none)=some d:=a5
  cases he:ZL ds with
  | none=>rw[he]at a5;cases a5
  | some ns=>
   rw[he]at a5;have a5:(if kk∈ns then some (D.int (ns.idxOf kk:Nat))else none)=some d:=a5;split at a5
   ·rename_i hmem
    cases a5
    obtain⟨p,vs,rfl,np,hp,rp⟩:=jb.mp r1;refine⟨.inl ⟨rfl,vs,ZE.of (g1.fh _ _ np hp)⟩,?_⟩;refine qe σ jQ H1 ρ s1 _ _ _ g1.fh (e2.ext g1.ff) jT a3 λy jZ H2 g2 jP r2=>?_;rw[Wp he]at rp;rw[jk rp]at hp
    cases (ja.mp r2)
    exact⟨p,ns,kk,rfl,rfl,ZE.of (g2.fh _ _ np (g2.ff _ _ np hp)),hmem,k _ jZ H2 (g1.trans g2) jP (ja.mpr rfl) λ_=>.scal λz=>z⟩
   ·cases a5
end
section
variable {X:Cx}{G:Gh}{ob own:List Nat}{fr:Bool}
theorem Zkh {pos:Pos}:PD X G true (.Dict [] [] pos) (dC (.du [])):=by
 refine⟨_,Zjt,fun σ Hf H ρ s d s' Q e1 e2 e3 e4 k=>?_⟩;obtain⟨rfl,rfl⟩:=ZQ e4;intro p hp;have nf:=Gh.nofp e3 hp;have g2:=Gr.new (o:=.dT []) e1 hp nf;exact k (.ref p) _ _ g2 (Gh.grow e3 hp) (jm.mpr ⟨p,rfl,nf,ZX⟩) λ_ a ea _=>by cases ea;exact⟨hp,λds ed=>by cases ed⟩
noncomputable def keyT:D->Option (List Zu)
 | .tup ks=>XJ ks
 | _=>none
noncomputable def BC (i:Nat)(fx fv:Zb->M D):Zb->M Out:=fun ρ=>Zo (fv ρ) λv=>Zo (fx ρ) λx=>match (ρ[i]?).bind id with
 | some (.du kvs)=>match keyT x,Wv v with | some k,some w=>if kvs.length<xg then Zy (.nx (ρ.set i (some (.du (Ys kvs k w)))))else ZG | _,_=>ZG
 | _=>ZG
theorem ZiC {r1 r2:Bool}{i:Nat}{x:Str}{ex ev:Expr}{p1 p2 pos:Pos}{fx fv:Zb->M D}{tx tv:TE}(hu:X.A.units+1<cLine)(hi:i∈own)(hn:PE X (.Name x p1) (YB i))(px:PE X ex tx)(yx:Uc G own r1 tx fx)(pv':PE X ev tv)(yv:Uc G own r2 tv fv)
  (hs:xr ev (some (.Subscript (.Name x p1) ex p2)) pos.line X.env=pure false) :
  YW X G ob own own fr (.Assign [.Subscript (.Name x p1) ex p2] ev pos) (BC i fx fv):=by
 refine⟨_,Zlm hu hn px pv' hs,λkn jO H0 σ H ρ s out s' E ⟨Hf,j⟩ st e po=>?_⟩;obtain⟨v,s1,a1,a2⟩:=ZF e;obtain⟨xx,s2,a3,a4⟩:=ZF a2;refine yv kn jO H0 σ Hf H ρ s v s1 _ j st a1 λw jQ H1 j1 e1 e2 jT r1 _=>?_
 cases hb:(ρ[i]?).bind id with
 | none=>rw[hb]at a4;cases a4
 | some c=>
  rw[hb]at a4
  cases c with
  | du kvs=>
   have a4':(match keyT xx,Wv v with | some k,some w=>if kvs.length<xg then Zy (Out.nx (ρ.set i (some (.du (Ys kvs k w)))))else ZG | _,_=>ZG) s2=some (out,s'):=a4
   cases hk:keyT xx with
   | none=>rw[hk]at a4';cases a4'
   | some k=>
    cases hw:Wv v with
    | none=>rw[hk,hw]at a4';cases a4'
    | some w'=>
     rw[hk,hw]at a4';obtain⟨hl,a5⟩:=Xf a4';obtain⟨rfl,rfl⟩:=ZQ a5;have ei:=Zem hb;obtain⟨a,h1,h2,h3,h4,h5⟩:=j1.ow i _ hi ei;refine⟨_,h1,?_⟩;refine yx kn jO H0 σ jQ H1 ρ s1 _ _ _ j1 jT a3 λw2 jZ H2 j2 e3 e4 jP r2 _=>?_;obtain⟨a',h1',h2',h3',h4',h5'⟩:=j2.ow i _ hi ei;rw[h1]at h1';cases h1';have ew:=ZbG hw r1;subst ew
     match xx,hk,r2 with
     | .tup ks,hk,r2=>
      obtain⟨q,vs,rfl,nq,hq,rq⟩:=jc.mp r2;have ey:=JR (show XJ ks=some k from hk) rq;subst ey;refine⟨a,_,rfl,WR.t (k:=k) (show H2 a=some (.dT kvs)from h5') (j2.gr.fh _ _ nq hq) (by omega),?_⟩;exact po σ _ ⟨jZ,j2.put hi ei h1 (show Zn H2 a (.dT (Ys kvs k w)) a=some (.dT (Ys kvs k w))from ZX)⟩ (jy jP h2)
  | _=>cases a4
theorem ZgG {r1 r2:Bool}{i:Nat}{x:Str}{ex ev:Expr}{p1 p2 pos:Pos}{fx fv:Zb->M D}(hu:X.A.units+1<cLine)(hi:i∈own)(hn:PE X (.Name x p1) (YB i))(hx:PD X G r1 ex fx)(hv:PD X G r2 ev fv)
  (hs:xr ev (some (.Subscript (.Name x p1) ex p2)) pos.line X.env=pure false:=by rfl) :
  YW X G ob own own fr (.Assign [.Subscript (.Name x p1) ex p2] ev pos) (BC i (fun ρ=>fx (Z2 own ρ)) (fun ρ=>fv (Z2 own ρ))):=by
 obtain⟨tv,pv',qv⟩:=hv;obtain⟨tx,px,qx⟩:=hx;have yv:Vh G r2 tv fv:=qv;have yx:Vh G r1 tx fx:=qx;exact ZiC hu hi hn px yx.a pv' yv.a hs
end
end TF
namespace HT
theorem Zki:isSubtype (.type "tuple") (.type "set")=pure false:=by rw[isSubtype_type];kernel_rfl
theorem ZfA:isSubtype (.type "tuple") (.type "frozenset")=pure false:=by rw[isSubtype_type];kernel_rfl
section
variable {prog:xB}{w:World}{A:xC}{E:xD}{s:Shared}
noncomputable abbrev Y0 (led:Bool):Obj:={ cls:=.type "set",dict:=none,data:=.set #[] 0 (.fresh 0 0 led) }
theorem set_of_tuple {l:Addr}{items:Array Value}{ns:List Int}{Q:xD}(hh:A.handled=none)(hl:s.heap.IsTuple l items)(hi:IntsAre items.toList ns)(hb:items.size+1<scanBound)
  (h:∀(h':Heap) (tk:Nat),h'.SetOf (intKind prog w) s.heap.objs.size (λk'=>(firstMet (λi=>ns.getD i 0) items.size).any (· == k')) (firstMet (λi=>ns.getD i 0) items.size).length->(∀b o,b<s.heap.objs.size->s.heap.get? b=some o->h'.get? b=some o)->Q (.ref s.heap.objs.size) { s with heap:=h',toks:=tk }) :
  xf (xz prog w) A (call (.type "set") [.ref l]) Q E s:=by
 obtain⟨c,tl,hmro⟩:=zq.mro;have hmade:=zq.made;have hsub:=zq.sub;refine xy (codeAny_of_tree ?_);show xf _ _ (callAny (.type "set") _) _ _ _;refine xb ⟨qbK _ (by decide +kernel),xm qce ?_⟩;rw[xC.under_plain (weight_type_call_type "set" [.ref l] []) rfl];have h1:=zq.notType;have h2:=zq.canCreate;have hct:=qcm (.ref l)
 repeat (any_goals (first | assumption | wp_step))
 refine codeAny_mono (code_set_new_1 (.ref l) (E:=E) (Q₁:=λobj s₁=>∃led:Bool,obj=.ref s.heap.objs.size/\s₁ = { s with heap:=s.heap.push (Y0 led) }) λled=>⟨led,rfl,rfl⟩) λr s₁ hr=>?_
 cases r with
 | error e=>exact hr
 | ok fl=>
  cases fl with
  | ret obj=>
   obtain⟨led,rfl,rfl⟩:=hr;have hS:(s.heap.push (Y0 led)).get? s.heap.objs.size=some (Y0 led):=qD _ rfl;have hT:qbO { s with heap:=s.heap.push (Y0 led) } (.ref s.heap.objs.size) "set":=⟨_,hS,rfl⟩;have hli:=zq.init.lookup;have hbi:=zq.init.bind (.ref s.heap.objs.size)
   repeat (any_goals (first | assumption | wp_step))
   refine codeAny_mono (codeAny_call_builtin (R:=wants (λr s₂=>r=.none/\∃h' tk,s₂ = { s with heap:=h',toks:=tk }/\h'.SetOf (intKind prog w) s.heap.objs.size (λk'=>(firstMet (λi=>ns.getD i 0) items.size).any (· == k')) (firstMet (λi=>ns.getD i 0) items.size).length/\(∀b o,b<s.heap.objs.size->s.heap.get? b=some o->h'.get? b=some o)) E) zq.init.plain qcn (check_set_init_1 hT ?_)) λr₂ s₂ hr₂=>?_
   ·obtain⟨ol,hol,hcl,nl,hdl⟩:=hl;obtain⟨ocls,odict,odata,oslots⟩:=ol
    simp only at hcl hdl;subst hcl;subst hdl;have hol':(s.heap.push (Y0 led)).get? l=some { cls:=.type "tuple",dict:=odict,data:=.seq items nl,slots:=oslots }:=qf _ hol;have z1:=Zki;have z2:=ZfA;have hne:(yI "tuple" == yI "dict")=false:=by decide
    have hl1:(s.heap.push (Y0 led)).IsTuple l items:=⟨_,hol',rfl,nl,rfl⟩;unfold Builtin.«set.__init__» noKeywords qbH;generalize hPI:pyIter=PI
    wp_walk
    subst hPI;refine wpAny_pyIter_tuple hl1 ?_;refine xa (wpAny_runValue ?_);have hlS:l<s.heap.objs.size:=qK hol;have hh3:A.in1.in1.in1.handled=none:=by simp[hh]
    have hneI:l≠(s.heap.push (Y0 led)).objs.size:=by rw[zV];exact qS (zF hlS)
    have hSf:s.heap.objs.size∉[(s.heap.push (Y0 led)).objs.size,l]:=by
     rw[zV];simp only[qu,qJ,yg,or_false,not_or];exact⟨qS (yK _),qbx hlS⟩
    have hval:∀(i:Nat) (v:Value),items[i]?=some v->∃t,v=.int ((λi=>ns.getD i 0) i) t:=λi v hv=>IntsAre.int_at hi i v (by rw[qB];exact hv);refine codeAny_set_update_loopS ((qc1 hh3 _ l hneI items).toS) s.heap.objs.size hSf (λi=>ns.getD i 0) hval hb (items.size-0) 0 _ (by omega) (zB _) ⟨⟨_,qD _ rfl,rfl,rfl⟩,(hl1.push _)⟩ ?hS0 ?hR
    case hS0=>
     have hget:((s.heap.push (Y0 led)).push { cls:=.type "tuple_iterator",data:=.fields #[.ref l,.int 0 0] }).get? s.heap.objs.size=some (Y0 led):=qf _ hS;exact SetOf_congr ((setObjOf_fresh (knd:=intKind prog w) led).setOf hget (by unfold scanBound;omega)) (λ_=>rfl) rfl
    case hR=>
     intro s' hm hS';obtain⟨h',g',d',tk',os'⟩:=s';have eg:g'=s.gens:=hm.gens;have ed:d'=s.drawn:=hm.drawn;have eo:os'=s.os:=hm.os;subst eg;subst ed;subst eo;show xf _ _ _ _ _ _;refine xb ?_;show xf _ _ (ret zo) _ _ _;refine xb ⟨rfl,h',tk',rfl,hS',λb o hb e=>?_⟩;have hb1:b≠s.heap.objs.size:=qS hb;have hb2:b≠(s.heap.push (Y0 led)).objs.size:=by rw[zV];exact qS (zF hb)
     exact hm.heap b o (by simp only[qu,qJ,yg,or_false,not_or];exact⟨hb1,hb2⟩) (qf _ (qf _ e))
   ·cases r₂ with
    | error e=>exact hr₂
    | ok fl₂=>
     cases fl₂ with
     | ret r=>
      obtain⟨rfl,h',tk,rfl,hS',hk'⟩:=hr₂;repeat (any_goals (first | assumption | wp_step))
      exact h _ _ hS' hk'
     | next=>exact hr₂.elim
     | brk=>exact hr₂.elim
     | cont=>exact hr₂.elim
  | next=>exact hr.elim
  | brk=>exact hr.elim
  | cont=>exact hr.elim
end
end HT
namespace TF
open L2
section
variable {X:Cx}{G:Gh}
noncomputable def Xt (ns:List Int):Nat:=(ns.foldl step_dedup []).length
theorem Zce (ns:List Int)(n:Nat)(h:n=ns.length):firstMet (λi=>ns.getD i 0) n=ns.foldl step_dedup []:=by
 unfold firstMet;congr 1;subst h;apply qan;intro i;rw[qI];by_cases hi:i<ns.length
 ·rw[yX hi,qw hi]
  simp[qz,qw hi]
 ·rw[yb (by simp;omega:(qk ns.length).length<=i),yb (by omega)]
  rfl
theorem ZiD (hc:X.calm=true):Y2 X (.type "set") (λxs H Q=>∃(p:Addr) (ns:List Int),xs=[.ref p]/\(ZE X.K H p (ns.map V.int)∨ZI X.K H p (ns.map V.int))/\ns.length<=1000/\∀l S,H l=none->Q (.ref l) (Zn H l (.set S (Xt ns)))):=by
 intro jC s σ H xs us Q I r h;obtain⟨p,ns,rfl,hp,hl,q⟩:=h;obtain⟨u,rfl,ru⟩:=Xu r
 cases ru
 have hsb:(1000:Nat)+1<scanBound:=by unfold scanBound;omega
 have fin:∀(items:Array Value) (_:IntsAre items.toList ns) (h':Heap) (tk:Nat),h'.SetOf (intKind X.prog X.w) s.heap.objs.size (λk'=>(firstMet (λi=>ns.getD i 0) items.size).any (· == k')) (firstMet (λi=>ns.getD i 0) items.size).length->(∀b o,b<s.heap.objs.size->s.heap.get? b=some o->h'.get? b=some o)->EP X jC σ Q (.ref s.heap.objs.size) { s with heap:=h',toks:=tk }:=λitems hi h' tk hS hk=>by
  have e:firstMet (λi=>ns.getD i 0) items.size=ns.foldl step_dedup []:=Zce ns _ (by rw[<-hi.length,qy]);rw[e]at hS;exact⟨.ref s.heap.objs.size,_,I.laid (a:=s.heap.objs.size) (o:=.set (λk'=>(ns.foldl step_dedup []).any (· == k')) (Xt ns)) (t':=tk) (λb o e=>hk b o (qK e) e) (qq _) hS,rfl,q _ _ (I.hok.fresh (qq _))⟩
 rcases hp with hp | hp
 ·obtain⟨jH,rv,pl,hz⟩:=I.list hp
  have hi:IntsAre jH ns:=Wo rv;have hll:=hi.length;exact call_set_list (I.ok.hd hc) pl.isList (by simpa using hi) (by simp;omega) (fin jH.toArray (by simpa using hi))
 ·obtain⟨jH,rv,pl,hz⟩:=I.tuple hp
  have hi:IntsAre jH ns:=Wo rv;have hll:=hi.length;exact HT.set_of_tuple (I.ok.hd hc) (show s.heap.IsTuple p jH.toArray from pl) (by simpa using hi) (by simp;omega) (fin jH.toArray (by simpa using hi))
theorem ZfB:Y2 X (.builtin "len") (λxs H Q=>∃(p:Addr) (S:Int->Bool) (n:Nat),xs=[.ref p]/\H p=some (.set S n)/\n<=1000/\Q (.int n) H):=by
 intro jC s σ H xs us Q I r h;obtain⟨p,S,n,rfl,hp,hn,q⟩:=h;obtain⟨u,rfl,ru⟩:=Xu r
 cases ru
 obtain⟨o,es,ep,t,h1,h2,h3,h4,h5,h6,h7,h8⟩:=(show s.heap.SetOf (intKind X.prog X.w) p S n from I.hok p _ hp);refine call_len_set h1 h2 h3 h7 (by omega) ?_;rw[h8];exact⟨.int n,H,I.tok _,⟨_,rfl⟩,q⟩
theorem ZlU (ns:List Int):∀acc:List Int,(ns.foldl step_dedup acc).length<=acc.length+ns.length:=by
 induction ns with
 | nil=>intro acc;simp
 | cons a r ih=>
  intro acc;have h:=ih (step_dedup acc a);have:(step_dedup acc a).length<=acc.length+1:=by unfold step_dedup;split <;> simp
  show(r.foldl step_dedup (step_dedup acc a)).length<=_;simp only[qO];omega
theorem ZiE (ns:List Int):Xt ns<=ns.length:=by
 have:=ZlU ns [];simpa[Xt]using this
noncomputable def Zcy (f:Zb->M D):Zb->M D:=fun ρ=>Zo (f ρ) λd=>match d with
 | .tup ds=>(match ZL ds with | some ns=>if ns.length<=1000 then Zy (.int (Xt ns:Nat))else ZG | none=>ZG)
 | .lst ds=>(match ZL ds with | some ns=>if ns.length<=1000 then Zy (.int (Xt ns:Nat))else ZG | none=>ZG)
 | _=>ZG
theorem ZiF {a:Expr}{p1 p2 pos1 pos:Pos}{r1:Bool}{f:Zb->M D}(hc:X.calm=true)(hg:Gl X "len")(hm:X.mg "len" = none)(hv:xj "len" = some (.builtin "len"))(hg2:Gl X "set")(hm2:X.mg "set" = none)(hv2:xj "set" = some (.type "set"))(ha:PD X G r1 a f)
  (hs:xh [a] X.env=(false,eval a X.env)::xh [] X.env:=by rfl)
  (hs2:xh [qcU (.Name "set" p2) [a] [] pos1] X.env=(false,eval (qcU (.Name "set" p2) [a] [] pos1) X.env)::xh [] X.env:=by rfl) (hpl:(backTo pos (xh [] X.env)).any (·.1)=false:=by rfl) (hpl1:(backTo pos1 (xh [] X.env)).any (·.1)=false:=by rfl) :
  PD X G true (.Call (.Name "len" p1) [.Call (.Name "set" p2) [a] [] pos1] [] pos) (Zcy f):=by
 obtain⟨t,pa,qa⟩:=ha.drop;refine⟨_,U2 ZfB hg hm hv (Xb (ZaP (ZiD hc) hg2 hm2 hv2 (Xb pa Xy hs) (by decide) (by decide) hs hpl1) Xy hs2) (by decide) (by decide) hs2 hpl,fun σ Hf H ρ s d s' Q e1 e2 e3 e4 k=>?_⟩;obtain⟨d0,s1,a1,a2⟩:=ZF e4;refine qa σ Hf H ρ s d0 s1 _ e1 e2 e3 a1 λv jQ H1 g1 jT r1=>?_;have go:∀ns:List Int,(if ns.length<=1000 then Zy (D.int (Xt ns:Nat))else ZG) s1=some (d,s')->(∃p,v=.ref p/\(ZE X.K H1 p (ns.map V.int)∨ZI X.K H1 p (ns.map V.int)))->∃(p:Addr) (ns:List Int),[v]=[.ref p]/\(ZE X.K H1 p (ns.map V.int)∨ZI X.K H1 p (ns.map V.int))/\ns.length<=1000/\∀l S,H1 l=none->∃(p:Addr) (S':Int->Bool) (n:Nat),[V.ref l]=[.ref p]/\Zn H1 l (.set S (Xt ns)) p=some (.set S' n)/\n<=1000/\Q (.int n) (Zn H1 l (.set S (Xt ns))):=λns h ⟨p,ev,hp⟩=>by
  obtain⟨hl,h⟩:=Xf h;obtain⟨rfl,rfl⟩:=ZQ h;have hu:=ZiE ns;refine⟨p,ns,by rw[ev],hp,hl,λl S hn=>⟨l,S,Xt ns,rfl,ZX,by omega,?_⟩⟩;have nf:=Gh.nofp jT hn;have g2:=Gr.new (o:=.set S (Xt ns)) g1.fh hn nf;exact k _ _ _ (g1.trans g2) (Gh.grow jT hn) (ja.mpr rfl) λ_=>.scal λz=>z
 match d0,a2,r1 with
 | .tup ds,a2,r1=>
  have a2:(match ZL ds with | some ns=>if ns.length<=1000 then Zy (D.int (Xt ns:Nat))else ZG | none=>ZG) s1=some (d,s'):=a2
  cases he:ZL ds with
  | none=>rw[he]at a2;cases a2
  | some ns=>
   rw[he]at a2;obtain⟨p,vs,rfl,np,hp,rp⟩:=jc.mp r1;rw[Wp he]at rp;rw[jk rp]at hp;exact go ns a2 ⟨p,rfl,.inr (ZI.of (g1.fh _ _ np hp))⟩
 | .lst ds,a2,r1=>
  have a2:(match ZL ds with | some ns=>if ns.length<=1000 then Zy (D.int (Xt ns:Nat))else ZG | none=>ZG) s1=some (d,s'):=a2
  cases he:ZL ds with
  | none=>rw[he]at a2;cases a2
  | some ns=>
   rw[he]at a2;obtain⟨p,vs,rfl,np,hp,rp⟩:=jb.mp r1;rw[Wp he]at rp;rw[jk rp]at hp;exact go ns a2 ⟨p,rfl,.inl (ZE.of (g1.fh _ _ np hp))⟩
theorem ZeA (ns:List Int):(ns.foldl step_dedup []).Nodup/\∀x,x∈ns.foldl step_dedup []↔x∈ns:=by
 have gen:∀(r acc:List Int),acc.Nodup->(r.foldl step_dedup acc).Nodup/\∀x,x∈r.foldl step_dedup acc↔x∈acc∨x∈r:=by
  intro r
  induction r with
  | nil=>intro acc h;exact⟨h,λx=>by simp⟩
  | cons a r ih=>
   intro acc h;show(r.foldl step_dedup (step_dedup acc a)).Nodup/\∀x,x∈r.foldl step_dedup (step_dedup acc a)↔_;by_cases m:acc.any (· == a)=true
   ·have e:step_dedup acc a=acc:=by unfold step_dedup;rw[if_pos m]
    rw[e];obtain⟨h1,h2⟩:=ih acc h;obtain⟨y,hy,ey⟩:=List.any_eq_true.mp m;have ey:y=a:=by simpa using ey
    subst ey;refine⟨h1,λx=>?_⟩;rw[h2 x];constructor
    ·rintro(z | z)
     ·exact .inl z
     ·exact .inr (qT _ z)
    ·rintro(z | z)
     ·exact .inl z
     ·rcases qu.mp z with z | z
      ·subst z;exact .inl hy
      ·exact .inr z
   ·have e:step_dedup acc a=acc ++ [a]:=by unfold step_dedup;rw[if_neg m]
    rw[e];have na:a∉acc:=λz=>m (List.any_eq_true.mpr ⟨a,z,by simp⟩);obtain⟨h1,h2⟩:=ih (acc ++ [a]) (yV.mpr ⟨h,by simp,λx hx y hy=>by
     have:=qJ.mp hy;subst this;exact λz=>na (z▸hx)⟩)
    refine⟨h1,λx=>?_⟩;rw[h2 x];simp only[qM,qu,yg,or_false];constructor
    ·rintro((z | z) | z)
     ·exact .inl z
     ·exact .inr (.inl z)
     ·exact .inr (.inr z)
    ·rintro(z | z | z)
     ·exact .inl (.inl z)
     ·exact .inl (.inr z)
     ·exact .inr z
 obtain⟨h1,h2⟩:=gen ns [] qbG;exact⟨h1,λx=>by rw[h2 x];simp⟩
end
end TF
namespace HT
section
variable {prog:xB}{w:World}{A:xC}{R:Result->Shared->Prop}{I:Addr}{fp wr:List Addr}{n:Nat}{P:Nat->Value->Prop}{St:Nat->Heap->Prop}
end
section
variable {prog:xB}{w:World}{A:xC}{E:xD}{s:Shared}
end
section
variable {prog:xB}{w:World}{A:xC}{R:Result->Shared->Prop}{I:Addr}{fp wr:List Addr}{n:Nat}{P:Nat->Value->Prop}{St:Nat->Heap->Prop}
end
section
variable {prog:xB}{w:World}{A:xC}{E:xD}{s:Shared}
end
end HT
namespace L2
section
variable {X:Cx}
end
end L2
namespace TF
open L2
section
variable {X:Cx}{G:Gh}
end
end TF
namespace TS
open L2
section
variable {prog:xB}{w:World}{A:xC}{E:xD}{s:Shared}
end
end TS
namespace TF
open L2 TS
section
variable {X:Cx}{G:Gh}
end
end TF
namespace TP2
open L2 TF TP
end TP2
namespace TP3
open L2 TF TP
open TP2
noncomputable def ZeB:Zb->M Out:=(Zg (WS 1 (dC (.du [])))
 (Zg (YL (fun ρ=>(XB (Ze Zq (Za 0) (dC (.int 1)))) (Z2 [1] ρ)) (Zv 2)
 (Zg (BC 1 (fun ρ=>(Za 2) (Z2 [1] ρ)) (fun ρ=>(dC (.bl true)) (Z2 [1] ρ)))
 Zm))
 (Zg (ZR 3 (fun ρ=>(Xc (Zc (ZV Zf) Zf)) (Z2 [1] ρ)))
 (Zg (YL (YH (Ze Zq (Za 0) (dC (.int 0)))) (Zv 4)
 (Zg (WS 5 (Xc Zf))
 (Zg (YL (fun ρ=>(Yy (Za 3)) (Z2 [5] ρ)) (Zv 6)
 (Zg (Yl (ZO (Ze VL (dC (.bl false)) (Z7 [none,some 4,some 1] (XB (Za 6)) (Zv 0) Z1 (Ze XF (ZV (Zc (Za 0) (Zc (Za 1) Zf))) (Za 2)))))
 (Zg (WT 5 (fun ρ=>(Ze Z3 (Za 6) (ZV (Zc (Za 4) Zf))) (Z2 [5] ρ)))
 Zm)
 Zm)
 Zm))
 (Zg (ZR 3 (Ze Z3 (Za 3) (Za 5)))
 Zm))))
 (Zg (ZN (Za 3))
 Zm)))))
noncomputable def B3:List D->M D:=runB 7 1 ZeB
noncomputable def Zc0:Zb->M Out:=(Zg (YL (YH (ZM Xp (Zc (Za 1) Zf))) (Zv 2)
 (Zg (YL (XB (ZjZ (Za 1) Zmw (By (Za 2)))) (Zv 3)
 (Zg (Yl (Wx (ZO (Zs JN (Zc (Za 0) (Zc (Za 3) (Zc (Ze Zq (Za 1) (Za 2)) Zf))))))
 (Zg (ZN (dC (.bl false)))
 Zm)
 Zm)
 Zm))
 Zm))
 (Zg (ZN (dC (.bl true)))
 Zm))
noncomputable def B0:List D->M D:=runB 4 2 Zc0
noncomputable def ZaV:Zb->M Out:=(Zg (Yl (Vv (Wx (ZO (ZM Jx (Zc (Za 1) (Zc (dC (.ty "tuple")) Zf))))) (ZO (Ze XQ (Zcy (Za 1)) (ZM Xp (Zc (Za 1) Zf)))))
 (Zg (ZN (dC (.bl false)))
 Zm)
 Zm)
 (Zg (YL (XB (Za 1)) (Zv 2)
 (Zg (Yl (Vv (Wx (ZO (ZM Jx (Zc (Za 2) (Zc (dC (.ty "int")) Zf))))) (Vv (ZO (ZM Jx (Zc (Za 2) (Zc (dC (.ty "bool")) Zf)))) (Wx (Bn (dC (.int 0)) (BA UT (Za 2) (Bz UU (Ze Zq (Za 0) (dC (.int 0)))))))))
 (Zg (ZN (dC (.bl false)))
 Zm)
 Zm)
 Zm))
 (Zg (ZN (UI (Ze Yk (ZM Zmv (Zc (Za 1) Zf)) (ZM ZcW (Zc (Za 1) Zf))) (Zs B0 (Zc (Za 0) (Zc (Za 1) Zf)))))
 Zm)))
noncomputable def BW:List D->M D:=runB 3 2 ZaV
end TP3
namespace TQ
open L2 TF TQ
open TP
open TP2
open TP3
noncomputable def ZiG:Zb->M Out:=(Zg (ZN (UI (Ze UU (Ze Zq (Za 0) (dC (.int 0))) (Ze Zq (Za 1) (dC (.int 1)))) (Ze UU (Ze Zq (Za 1) (dC (.int 0))) (Ze Zq (Za 0) (dC (.int 1))))))
 Zm)
noncomputable def ZiH:List D->M D:=runB 2 2 ZiG
noncomputable def Zbl:Zb->M Out:=(Zg (ZN (US (Ze Yk (Za 1) (Za 2)) (Zs WX (Zc (Za 0) (Zc (Za 1) (Zc (Za 2) Zf))))))
 Zm)
noncomputable def Zak:List D->M D:=runB 3 3 Zbl
noncomputable def ZeC:List D->M D:=runB 4 4 (Zg (Yl (ZO (Ze Yk (Ze Zq (Za 0) (dC (.int 0))) (Ze Zq (Za 1) (dC (.int 0)))))
 (Zg (ZN (Zs WX (Zc (Ze Zq (Za 2) (Ze Zq (Za 0) (dC (.int 0)))) (Zc (Ze Zq (Za 0) (dC (.int 1))) (Zc (Ze Zq (Za 1) (dC (.int 1))) Zf)))))
 Zm)
 Zm)
 (Zg (ZN (Zs WX (Zc (Za 3) (Zc (Ze Zq (Za 0) (dC (.int 0))) (Zc (Ze Zq (Za 1) (dC (.int 0))) Zf)))))
 Zm))
noncomputable def Zbm:List D->M D:=VS 3 (BI (Zs WX (Zc (Za 2) (Zc (Za 0) (Zc (Za 1) Zf)))))
noncomputable def Zc1:List D->M D:=runB 4 4 (Zg (ZN (UI (Zs Zak (Zc (Za 2) (Zc (Ze Zq (Za 0) (dC (.int 0))) (Zc (Ze Zq (Za 1) (dC (.int 0))) Zf)))) (Zs Zak (Zc (Za 3) (Zc (Ze Zq (Za 0) (dC (.int 1))) (Zc (Ze Zq (Za 1) (dC (.int 1))) Zf))))))
 Zm)
noncomputable def ZaW:List D->M D:=VS 3 (Zs WX (Zc (Za 2) (Zc (Za 0) (Zc (Za 1) Zf))))
noncomputable def Za7:List D->M D:=VS 3 (US (Ze XF (ZV (Zc (Za 0) (Zc (Za 1) Zf))) (Za 2)) (Ze XF (ZV (Zc (Za 1) (Zc (Za 0) Zf))) (Za 2)))
noncomputable def Zc2:List D->M D:=VS 3 (Ze XQ (Ze Wz (Za 0) (Za 2)) (Ze Wz (Za 1) (Za 2)))
noncomputable def Zbn:List D->M D:=VS 4 (Ze XF (ZM Jq (Zc (Ze Wy (Za 1) (Za 0)) (Zc (Ze Z3 (Ze Wy (Za 2) (Za 1)) (Za 0)) Zf))) (Za 3))
noncomputable def Tl:Nat->List D->M D
 | 0=>Zbm
 | 1=>ZaW
 | 2=>ZiH
 | 3=>ZeC
 | 4=>Zc1
 | 5=>Za7
 | 6=>Zc2
 | 7=>Zbn
 | _=>λ_=>ZG
noncomputable def ZfC:Zb->M Out:=(Zg (ZR 2 (Zs JS (Zc (Vz (ZM Xp (Zc (Za 0) Zf))) Zf)))
 (Zg (ZN (ZV (Zc (ZM Xp (Zc (Za 0) Zf)) (Zc (ZM Vn (Zc (Z7 [none,some 1,some 0] (Yy (Za 2)) (Zv 0) (ZO (BL Tl 1 (Zc (Ze Zq (Za 2) (Ze Zq (Za 0) (dC (.int 0)))) (Zc (Ze Zq (Za 2) (Ze Zq (Za 0) (dC (.int 1)))) Zf)))) (Za 0)) Zf)) Zf))))
 Zm))
noncomputable def JO:List D->M D:=runB 3 2 ZfC
noncomputable def Zkj:Zb->M Out:=(Zg (ZR 1 (Zs Um (Zc (Za 0) Zf)))
 (Zg (ZN (dFnC JO 0 [1] (Vz (Ze Zq (Za 0) (dC (.int 0))))))
 Zm))
noncomputable def U5:List D->M D:=runB 2 1 Zkj
end TQ
namespace TF
open L2
noncomputable def ZgH (K:qm)(L:List (Addr×Str)):Sp:=λvs H Q _=>∃(a:Addr) (ns:List Int),vs=[.ref a]/\ZE K H a (ns.map V.int)/\ns.length<=63/\(∀P q,(P,q)∈L->H P=some (.tbl #[]))/\∀H',Q (.bl true) H'
theorem ZgI {L:List (Addr×Str)}{tb:List (Str×Addr×Addr)}{H:Hp}(h:∀P q,(P,q)∈L->∃x c,(x,c,P)∈tb)(hT:∀e∈tb,H e.2.2=some (.tbl #[])):∀P q,(P,q)∈L->H P=some (.tbl #[]):=λP q m=>by
 obtain⟨x,c,z⟩:=h P q m;exact hT _ z
theorem Zop {G0:Gh}{L:List (Addr×Str)}{H:Hp}(h:∀P q,(P,q)∈L->H P=some (.tbl #[])):∀P q,(P,q)∈L->Zmx G0 L P q H:=λP q m=>⟨#[],h P q m,trivial,λpos cv hc=>by cases hc⟩
theorem Zkk {K:qm}{L:List (Addr×Str)}{N:List Str}{H:Hp}{a p:Addr}{ns:List Int}{g:Zb->M Out}{Q:VK}{n:Nat}{s':Pn}(sq:ZE K H a (ns.map V.int))(hTb:∀P q,(P,q)∈L->H P=some (.tbl #[]))(hp:H p=none)(hk:K.lookup p=none)(hQ:∀H',Q (.bl true) H')
  (hg:g (none::some .pen::zT n none) ([0,0],ns)=some (.rt (.bl true),s')) :
  ∃G,YG (YM K) L G/\ZjS G [] [] [] false g { nx:=λ_ H'=>Q .non H',rt:=Q } (some (.ref a)::some (.ref p)::zT n none) (Zn H p (.lst [.ref a,.int 0,.int 0])):=by
 have main:∀tr:Bool,(tr=true->∃o,H a=some o/\∀ps,o≠.tbl ps)->(tr=false->∀H':Hp,ZE K H' a (ns.map V.int))->a≠p->∃G,YG (YM K) L G/\ZjS G [] [] [] false g { nx:=λ_ H'=>Q .non H',rt:=Q } (some (.ref a)::some (.ref p)::zT n none) (Zn H p (.lst [.ref a,.int 0,.int 0])):=by
  intro tr t1 t2 ne;refine⟨UE (Ud K p a tr) L,⟨Ud K p a tr,⟨p,a,tr,rfl⟩,λb ⟨q,mb⟩ hb=>?_,rfl⟩,λ_=>none,λ_=>none,Zn H p (.lst [.ref a,.int 0,.int 0]),none::some .pen::zT n none,([0,0],ns),_,s',⟨λ_=>none,⟨by simp,.refl _ _,.refl (λb o _ e=>by cases e),λi d _ e=>?_,λi d m=>by simp at m,λi j b di dj m=>by simp at m⟩⟩,⟨⟨0,0,rfl,ZX,ne,?_,λht=>?_,t2⟩,Zop λP q z=>?_⟩,hg,λv Hf' H' g st r _=>?_⟩
  ·have e:=hTb b q mb
   rcases hb with rfl | ⟨ht,rfl⟩
   ·rw[hp]at e;cases e
   ·obtain⟨o,z1,z2⟩:=t1 ht
    rw[e]at z1;cases z1;exact z2 _ rfl
  ·match i,e with
   | 0,e=>cases e
   | 1,e=>cases e;exact⟨_,rfl,jp.mpr rfl⟩
   | i+2,e=>
    have e':(zT n (none:Option D))[i]?=some (some d):=e;rw[qaA]at e';split at e' <;> cases e'
  ·exact Znp sq hp
  ·obtain⟨o,q,_⟩:=t1 ht
   exact⟨o,by rw[Zx ne];exact q⟩
  ·rw[Zx (YD (hTb P q z) hp)];exact hTb P q z
  ·rw[je.mp r]
   exact hQ H'
 have hne:∀o,H a=some o->a≠p:=λo e z=>by rw[z,hp]at e;cases e
 rcases sq with(q | ⟨o,q⟩) | q
 ·exact main true (λ_=>⟨_,q,λ_ z=>by cases z⟩) (λz=>by cases z) (hne _ q)
 ·exact main true (λ_=>⟨_,q,λ_ z=>by cases z⟩) (λz=>by cases z) (hne _ q)
 ·by_cases e:a=p
  ·obtain⟨o,_,_,q1,_⟩:=q
   rw[e,hk]at q1;cases q1
  ·exact main false (λz=>by cases z) (λ_ H'=>.inr q) e
theorem lok_nd:∀{L:List (Addr×Str)},(L.map (·.1)).Nodup->Wc L
 | [],_=>λP q q' h=>by simp at h
 | (a,b)::L,nd=>λP q q' h1 h2=>by
  rw[qX,zH]at nd;rcases qu.mp h1 with e1 | m1
  ·cases e1
   rcases qu.mp h2 with e2 | m2
   ·cases e2;rfl
   ·exact absurd (qay (f:=(·.1)) m2) nd.1
  ·rcases qu.mp h2 with e2 | m2
   ·cases e2;exact absurd (qay (f:=(·.1)) m1) nd.1
   ·exact lok_nd nd.2 P q q' m1 m2
theorem Zkl:∀ds s d s',YJ ds s=some (d,s')->Xn ds=true/\YI d=true:=λds s d s' h=>by
 unfold YJ at h;split at h
 ·split at h
  ·cases h;exact⟨rfl,rfl⟩
  ·cases h
 ·cases h
end TF
namespace TT
noncomputable def Bf:Bool->Keyed->Array Keyed->Nat->Nat->Nat->StateT SortSt Sem (Option Nat):=sortPriv% PySem.Builtin.gallop
noncomputable def Bg (left:Bool)(key:Keyed)(arr:Array Keyed)(base:Nat)(i:Nat):StateT SortSt Sem (Option Bool):=do
 let x<-elem' arr (base+i)
 if left then lt' x key else return (<-lt' key x).map (!·)
section
variable {M:Model}{A:xC}{E:xD}{s:Shared}
set_option hygiene false in
local macro_rules | `(tactic| walk_at "galBin")=>`(tactic| (
  refine wpS_bind (wpS_mono (wpS_forRange (I:=λx c st'=>st'=st/\∃l h,c=(none,l,h)/\l<=h/\h<=n/\h-l<=n-x/\(∀i,i<l->B i=true)/\(∀i,h<=i->i<n->B i=false))
   (Q:=λc st'=>st'=st/\∃h,c=(none,h,h)/\h<=n/\(∀i,i<h->B i=true)/\(∀i,h<=i->i<n->B i=false)) ?stepB ?finB ⟨rfl,lo,hi,rfl,h1,h2,by omega,h3,h4⟩) ?postB)
  case postB=>
   rintro c st' ⟨rfl,h,rfl,a1,a2,a3⟩;exact wpS_pure (k h a1 a2 a3)
  case finB=>
   rintro c st' ⟨rfl,l,h,rfl,a1,a2,a3,a4,a5⟩;have:l=h:=by omega
   subst this;exact⟨rfl,l,rfl,a2,a4,a5⟩
  case stepB=>
   rintro x c st' _ hx ⟨rfl,l,h,rfl,a1,a2,a3,a4,a5⟩;dsimp only;by_cases e:l≥h
   ·rw[if_pos e]
    have:l=h:=by omega
    subst this;exact wpS_pure ⟨rfl,l,rfl,a2,a4,a5⟩
   ·rw[if_neg e]
    have hm:l+(h-l) / 2<n:=by omega
    refine wpS_bind (hB _ hm _ ?_);dsimp only
    cases q:B (l+(h-l) / 2)with
    | true=>
     rw[if_pos rfl];exact wpS_pure ⟨rfl,_,_,rfl,by omega,a2,by omega,λi hi=>low (by omega) hm q,a5⟩
    | false=>
     rw[if_neg (by decide)];exact wpS_pure ⟨rfl,_,_,rfl,by omega,by omega,by omega,a4,λi hi hn=>upp hi hn q⟩))
theorem ZaR {left:Bool}{key:Keyed}{arr:Array Keyed}{base n hint:Nat}{st:SortSt}{Q:Option Nat->SortSt->Prop}(B:Nat->Bool)(hh:hint<n)(mono:∀i j,i<j->j<n->B j=true->B i=true)
  (hB:∀i,i<n->∀F:Option Bool->SortSt->Prop,F (some (B i)) st->wpS M A E s (Bg left key arr base i) F st)
  (k:∀r,r<=n->(∀i,i<r->B i=true)->(∀i,r<=i->i<n->B i=false)->Q (some r) st):wpS M A E s (Bf left key arr base n hint) Q st:=by
 have low:∀{i j:Nat},i<=j->j<n->B j=true->B i=true:=λ{i j} h1 h2 h3=>by
  rcases Nat.lt_or_eq_of_le h1 with h | h
  ·exact mono i j h h2 h3
  ·rw[h];exact h3
 have upp:∀{i j:Nat},i<=j->j<n->B i=false->B j=false:=λ{i j} h1 h2 h3=>by
  cases e:B j with
  | false=>rfl
  | true=>rw[low h1 h2 e]at h3;cases h3
 refine wpS_bind (hB hint hh _ ?_)
 cases hr:B hint with
 | true=>
  dsimp only;rw[if_pos rfl];refine wpS_bind (wpS_mono (wpS_forRange (I:=λx c st'=>st'=st/\∃l f,c=(none,l,f)/\l<f/\x+1<=f/\hint+l<n/\B (hint+l)=true)
   (Q:=λc st'=>st'=st/\∃l f,c=(none,l,f)/\l<f/\hint+l<n/\B (hint+l)=true/\(f≥n-hint∨hint+f<n/\B (hint+f)=false)) ?step ?fin ⟨rfl,0,1,rfl,by omega,by omega,hh,hr⟩) ?post)
  case post=>
   rintro c jP ⟨e0,l,f,rfl,a1,a2,a3,a4⟩;rw[e0];have h1:hint+l+1<=hint+min f (n-hint):=by omega
   have h2:hint+min f (n-hint)<=n:=by omega
   have h3:∀i,i<hint+l+1->B i=true:=λi hi=>low (by omega) a2 a3;have h4:∀i,hint+min f (n-hint)<=i->i<n->B i=false:=λi hi hn=>by
    rcases a4 with a4 | a4
    ·omega
    ·exact upp (by omega) hn a4.2
   dsimp only;generalize hint+l+1=lo at h1 h3⊢;generalize hint+min f (n-hint)=hi at h1 h2 h4⊢
   walk_at "galBin"
  case fin=>
   rintro c st' ⟨rfl,l,f,rfl,a1,a2,a3,a4⟩;exact⟨rfl,l,f,rfl,a1,a3,a4,.inl (by omega)⟩
  case step=>
   rintro x c st' _ hx ⟨rfl,l,f,rfl,a1,a2,a3,a4⟩;dsimp only;by_cases e:f≥n-hint
   ·rw[if_pos e]
    exact wpS_pure ⟨rfl,l,f,rfl,a1,a3,a4,.inl e⟩
   ·rw[if_neg e]
    refine wpS_bind (hB _ (by omega) _ ?_);dsimp only
    cases q:B (hint+f)with
    | true=>
     rw[if_neg (by decide)];exact wpS_pure ⟨rfl,f,2*f+1,rfl,by omega,by omega,by omega,q⟩
    | false=>
     rw[if_pos (by decide)];exact wpS_pure ⟨rfl,l,f,rfl,a1,a3,a4,.inr ⟨by omega,q⟩⟩
 | false=>
  dsimp only;rw[if_neg (by decide)];refine wpS_bind (wpS_mono (wpS_forRange (I:=λx c st'=>st'=st/\∃l f,c=(none,l,f)/\l<f/\x+1<=f/\l<=hint/\B (hint-l)=false)
   (Q:=λc st'=>st'=st/\∃l f,c=(none,l,f)/\l<f/\l<=hint/\B (hint-l)=false/\(f≥hint+1∨f<=hint/\B (hint-f)=true)) ?step ?fin ⟨rfl,0,1,rfl,by omega,by omega,by omega,hr⟩) ?post)
  case post=>
   rintro c jP ⟨e0,l,f,rfl,a1,a2,a3,a4⟩;rw[e0];have h1:hint+1-min f (hint+1)<=hint-l:=by omega
   have h2:hint-l<=n:=by omega
   have h3:∀i,i<hint+1-min f (hint+1)->B i=true:=λi hi=>by
    rcases a4 with a4 | a4
    ·omega
    ·exact low (j:=hint-f) (by omega) (by omega) a4.2
   have h4:∀i,hint-l<=i->i<n->B i=false:=λi hi hn=>upp hi hn a3;dsimp only;generalize hint+1-min f (hint+1)=lo at h1 h3⊢;generalize hint-l=hi at h1 h2 h4⊢
   walk_at "galBin"
  case fin=>
   rintro c st' ⟨rfl,l,f,rfl,a1,a2,a3,a4⟩;exact⟨rfl,l,f,rfl,a1,a3,a4,.inl (by omega)⟩
  case step=>
   rintro x c st' _ hx ⟨rfl,l,f,rfl,a1,a2,a3,a4⟩;dsimp only;by_cases e:f≥hint+1
   ·rw[if_pos e]
    exact wpS_pure ⟨rfl,l,f,rfl,a1,a3,a4,.inl e⟩
   ·rw[if_neg e]
    refine wpS_bind (hB _ (by omega) _ ?_);dsimp only
    cases q:B (hint-f)with
    | true=>
     rw[if_pos rfl];exact wpS_pure ⟨rfl,l,f,rfl,a1,a3,a4,.inr ⟨by omega,q⟩⟩
    | false=>
     rw[if_neg (by decide)];exact wpS_pure ⟨rfl,f,2*f+1,rfl,by omega,by omega,by omega,q⟩
end
noncomputable abbrev setG (st:SortSt)(g:Nat):SortSt:=SortSt.mk' (kindOf st) (arrOf st) (pendingOf st) g (failedOf st)
noncomputable def Zkm:Array Keyed->Array Keyed->StateT SortSt Sem (Array Keyed):=sortPriv% PySem.Builtin.mergeLo
noncomputable def Zkn:Array Keyed->Array Keyed->StateT SortSt Sem (Array Keyed):=sortPriv% PySem.Builtin.mergeHi
section
variable (rk:Keyed->Int)
noncomputable def SL (l:List Keyed):Prop:=l.Pairwise λx y=>rk x<=rk y
structure Jm (a b out:Array Keyed)(ia ib:Nat):Prop where
 la:ia<=a.size
 lb:ib<=b.size
 pm:out.toList.Perm (a.toList.take ia++b.toList.take ib)
 so:SL rk out.toList
 ga:∀x∈out.toList,∀y∈a.toList.drop ia,rk x<=rk y
 gb:∀x∈out.toList,∀y∈b.toList.drop ib,rk x<=rk y
variable {rk}{a b out:Array Keyed}{ia ib:Nat}
theorem VF {l:List Keyed}{i:Nat}{x:Keyed}(h:l[i]?=some x):l.drop i=x::l.drop (i+1):=by
 obtain⟨hl,e⟩:=qA.mp h;rw[qap hl,e]
theorem VG {l:List Keyed}{i:Nat}{x:Keyed}(h:l[i]?=some x):l.take (i+1)=l.take i ++ [x]:=by
 obtain⟨hl,e⟩:=qA.mp h;rw[List.take_succ_eq_append_getElem hl,e]
theorem SL.drop {l:List Keyed}(h:SL rk l)(i:Nat):SL rk (l.drop i):=h.sublist (List.drop_sublist _ _)
theorem SL.head {l:List Keyed}(h:SL rk l){i:Nat}{x:Keyed}(hx:l[i]?=some x):∀y∈l.drop i,rk x<=rk y:=λy hy=>by
 have:=h.drop i;rw[VF hx]at this hy;rcases qu.mp hy with rfl | hy
 ·exact yP _
 ·exact(ye.mp this).1 y hy
theorem WU {l:Array Keyed}{i:Nat}{x:Keyed}(h:l[i]?=some x):l.toList[i]?=some x:=by rw[qB];exact h
theorem Jm.pushB (h:Jm rk a b out ia ib)(hb:SL rk b.toList){x:Keyed}(hx:b[ib]?=some x)(hle:∀y∈a.toList.drop ia,rk x<=rk y):Jm rk a b (out.push x) ia (ib+1):=by
 have hx':=WU hx;have hl:ib<b.size:=by
  have:=(qA.mp hx').1;simpa using this
 have hd:=hb.head hx';refine⟨h.la,hl,?_,?_,λo ho y hy=>?_,λo ho y hy=>?_⟩
 ·rw[zf,VG hx',<-qR]
  exact h.pm.append_right _
 ·rw[zf]
  refine qW.mpr ⟨h.so,yf _ _,λo ho y hy=>?_⟩;rw[qJ.mp hy];exact h.gb o ho x (by rw[VF hx'];simp)
 ·rw[zf]at ho
  rcases qM.mp ho with ho | ho
  ·exact h.ga o ho y hy
  ·rw[qJ.mp ho];exact hle y hy
 ·rw[zf]at ho
  have hy':y∈b.toList.drop ib:=by rw[VF hx'];exact qT _ hy
  rcases qM.mp ho with ho | ho
  ·exact h.gb o ho y hy'
  ·rw[qJ.mp ho];exact hd y hy'
theorem Jm.pushA (h:Jm rk a b out ia ib)(ha:SL rk a.toList){x:Keyed}(hx:a[ia]?=some x)(hle:∀y∈b.toList.drop ib,rk x<=rk y):Jm rk a b (out.push x) (ia+1) ib:=by
 have hx':=WU hx;have hl:ia<a.size:=by
  have:=(qA.mp hx').1;simpa using this
 have hd:=ha.head hx';refine⟨hl,h.lb,?_,?_,λo ho y hy=>?_,λo ho y hy=>?_⟩
 ·rw[zf,VG hx']
  refine(h.pm.append_right _).trans ?_;rw[qR,qR];exact qbw _ yt
 ·rw[zf]
  refine qW.mpr ⟨h.so,yf _ _,λo ho y hy=>?_⟩;rw[qJ.mp hy];exact h.ga o ho x (by rw[VF hx'];simp)
 ·rw[zf]at ho
  have hy':y∈a.toList.drop ia:=by rw[VF hx'];exact qT _ hy
  rcases qM.mp ho with ho | ho
  ·exact h.ga o ho y hy'
  ·rw[qJ.mp ho];exact hd y hy'
 ·rw[zf]at ho
  rcases qM.mp ho with ho | ho
  ·exact h.gb o ho y hy
  ·rw[qJ.mp ho];exact hle y hy
theorem ZfD {xs:Array Keyed}{i k:Nat}(h:i+k<xs.size)(out:Array Keyed):out++xs.extract i (i+(k+1))=(out++xs.extract i (i+k)).push xs[i+k]:=by
 apply Array.ext';simp only[za,yU,zf,yq,qR];congr 1;have e1:i+(k+1)-i=k+1:=by omega
 have e2:i+k-i=k:=by omega
 rw[e1,e2];have hg:(xs.toList.drop i)[k]?=some xs[i+k]:=by rw[zW,qB,qj h]
 exact VG hg
theorem Jm.bulkA (ha:SL rk a.toList):∀(k:Nat),Jm rk a b out ia ib->ia+k<=a.size->(∀i x,i<k->a[ia+i]?=some x->∀y∈b.toList.drop ib,rk x<=rk y)->Jm rk a b (out++a.extract ia (ia+k)) (ia+k) ib
 | 0,h,_,_=>by
  have:out++a.extract ia (ia+0)=out:=by simp;omega
  rw[this];exact h
 | k+1,h,hk,hle=>by
  have hi:ia+k<a.size:=by omega
  have ih:=Jm.bulkA ha k h (by omega) λi x hi=>hle i x (by omega);rw[ZfD hi];exact ih.pushA ha (qj hi) (hle k _ (by omega) (qj hi))
theorem Jm.bulkB (hb:SL rk b.toList):∀(k:Nat),Jm rk a b out ia ib->ib+k<=b.size->(∀i x,i<k->b[ib+i]?=some x->∀y∈a.toList.drop ia,rk x<=rk y)->Jm rk a b (out++b.extract ib (ib+k)) ia (ib+k)
 | 0,h,_,_=>by
  have:out++b.extract ib (ib+0)=out:=by simp;omega
  rw[this];exact h
 | k+1,h,hk,hle=>by
  have hi:ib+k<b.size:=by omega
  have ih:=Jm.bulkB hb k h (by omega) λi x hi=>hle i x (by omega);rw[ZfD hi];exact ih.pushB hb (qj hi) (hle k _ (by omega) (qj hi))
noncomputable def Mg (rk:Keyed->Int)(a b r:Array Keyed):Prop:=r.toList.Perm (a.toList++b.toList)/\SL rk r.toList
theorem V2 (xs:Array Keyed)(i:Nat):(xs.extract i xs.size).toList=xs.toList.drop i:=by
 rw[yU,yq,qbn];rw[zX,qy];exact qq _
theorem Jm.done (h:Jm rk a b out ia ib)(ha:SL rk a.toList)(hb:SL rk b.toList)(e:ib=b.size∨ia=a.size):Mg rk a b (out++a.extract ia a.size++b.extract ib b.size):=by
 refine⟨?_,?_⟩
 ·rw[za,za,V2,V2]
  refine((h.pm.append_right _).append_right _).trans ?_;rw[qR,qR];have:(b.toList.take ib++(a.toList.drop ia++b.toList.drop ib)).Perm (a.toList.drop ia++(b.toList.take ib++b.toList.drop ib)):=by
   rw[<-qR,<-qR];exact yt.append_right _
  refine(this.append_left _).trans ?_;rw[zj,<-qR,zj]
 ·rw[SL,za,za,V2,V2]
  rcases e with e | e
  ·have z:b.toList.drop ib=[]:=by rw[e];exact yk (by simp)
   rw[z,zr];exact qW.mpr ⟨h.so,ha.drop ia,λx hx y hy=>h.ga x hx y hy⟩
  ·have z:a.toList.drop ia=[]:=by rw[e];exact yk (by simp)
   rw[z,zr];exact qW.mpr ⟨h.so,hb.drop ib,λx hx y hy=>h.gb x hx y hy⟩
theorem Jm.last (h:Jm rk a b out ia ib)(ha:SL rk a.toList)(hb:SL rk b.toList)(e:ia+1=a.size)(ZU:∀y∈b.toList,∀x,a[a.size-1]?=some x->rk y<=rk x):Mg rk a b (out++b.extract ib b.size++a.extract ia a.size):=by
 have hi:ia<a.size:=by omega
 refine⟨?_,?_⟩
 ·rw[za,za,V2,V2]
  refine((h.pm.append_right _).append_right _).trans ?_;rw[qR (a.toList.take ia),zj,qR];refine(yt.append_left _).trans ?_;rw[<-qR,zj]
 ·rw[SL,za,za,V2,V2]
  have hx:=qj hi;have z:a.toList.drop ia=[a[ia]]:=by
   rw[VF (WU hx)];rw[yk (by simp;omega)]
  rw[z];refine qW.mpr ⟨qW.mpr ⟨h.so,hb.drop ib,λx hx y hy=>h.gb x hx y hy⟩,yf _ _,λx hx2 y hy=>?_⟩;rw[qJ.mp hy];rcases qM.mp hx2 with hx2 | hx2
  ·exact h.ga x hx2 _ (by rw[z];simp)
  ·refine ZU x (qaR hx2) _ ?_
   rw[show a.size-1=ia by omega];exact hx
end
structure Sim (st st':SortSt):Prop where
 kind:kindOf st'=kindOf st
 arr:arrOf st'=arrOf st
 pend:pendingOf st'=pendingOf st
 fail:failedOf st'=failedOf st
theorem Sim.refl (st:SortSt):Sim st st:=⟨rfl,rfl,rfl,rfl⟩
theorem Sim.setG {st st':SortSt}(h:Sim st st')(g:Nat):Sim st (setG st' g):=⟨h.kind,h.arr,h.pend,h.fail⟩
section
variable {M:Model}{A:xC}{E:xD}{s:Shared}
noncomputable def WD (M:Model)(A:xC)(E:xD)(s:Shared)(rk:Keyed->Int)(κ:SortKind)(In:Keyed->Prop):Prop:=
 ∀x y,In x->In y->∀(st:SortSt) (F:Option Bool->SortSt->Prop),kindOf st=κ->F (some (decide (rk x<rk y))) st->wpS M A E s (lt' x y) F st
variable {rk:Keyed->Int}{κ:SortKind}{In:Keyed->Prop}
theorem YU {xs:Array Keyed}{i:Nat}{x:Keyed}{st:SortSt}{F:Keyed->SortSt->Prop}(h:xs[i]?=some x)(k:F x st):wpS M A E s (elem' xs i) F st:=by
 rw[elem'_eq,h];exact wpS_pure k
theorem ZfE {key:Keyed}{arr:Array Keyed}{base n hint:Nat}{st:SortSt}{Q:Option Nat->SortSt->Prop}(C:WD M A E s rk κ In)(hk:kindOf st=κ)(hkey:In key)(hin:∀x∈arr.toList,In x)(hs:SL rk (arr.toList.drop base))(hb:base+n<=arr.size)(hh:hint<n)
  (k:∀r,r<=n->(∀i x,i<r->arr[base+i]?=some x->rk x<=rk key)->(∀i x,r<=i->i<n->arr[base+i]?=some x->rk key<rk x)->Q (some r) st):wpS M A E s (Bf false key arr base n hint) Q st:=by
 have hx:∀i,i<n->∃x,arr[base+i]?=some x:=λi hi=>⟨arr[base+i]'(by omega),qj (by omega)⟩;have le:∀i j x y,i<j->j<n->arr[base+i]?=some x->arr[base+j]?=some y->rk x<=rk y:=λi j x y hij hj ex ey=>by
  have e1:(arr.toList.drop base)[i]?=some x:=by rw[zW,qB];exact ex
  have e2:(arr.toList.drop base)[j]?=some y:=by rw[zW,qB];exact ey
  obtain⟨l1,e1⟩:=qA.mp e1;obtain⟨l2,e2⟩:=qA.mp e2;have:=zM.mp hs i j l1 l2 hij;rw[e1,e2]at this;exact this
 refine ZaR (λi=>match arr[base+i]? with | some x=>!decide (rk key<rk x) | none=>false) hh (λi j hij hj h=>?_) (λi hi F hF=>?_) λr h1 h2 h3=>k r h1 (λi x hi ex=>?_) λi x hi hn ex=>?_
 ·obtain⟨x,ex⟩:=hx i (by omega)
  obtain⟨y,ey⟩:=hx j hj;simp only[ex,ey]at h⊢;have:=le i j x y hij hj ex ey;simp only[yF,decide_eq_false_iff_not]at h⊢;omega
 ·obtain⟨x,ex⟩:=hx i hi
  unfold Bg;refine wpS_bind (YU ex ?_);simp only[qU,if_false];refine wpS_bind (C key x hkey (hin x (zd.mpr (zp ex))) st _ hk ?_);refine wpS_pure ?_;simp only[ex]at hF;exact hF
 ·have:=h2 i hi
  simp only[ex,yF,decide_eq_false_iff_not]at this;omega
 ·have:=h3 i hi hn
  simp only[ex,Bool.not_eq_false',decide_eq_true_eq]at this;exact this
theorem Zhz {key:Keyed}{arr:Array Keyed}{base n hint:Nat}{st:SortSt}{Q:Option Nat->SortSt->Prop}(C:WD M A E s rk κ In)(hk:kindOf st=κ)(hkey:In key)(hin:∀x∈arr.toList,In x)(hs:SL rk (arr.toList.drop base))(hb:base+n<=arr.size)(hh:hint<n)
  (k:∀r,r<=n->(∀i x,i<r->arr[base+i]?=some x->rk x<rk key)->(∀i x,r<=i->i<n->arr[base+i]?=some x->rk key<=rk x)->Q (some r) st):wpS M A E s (Bf true key arr base n hint) Q st:=by
 have hx:∀i,i<n->∃x,arr[base+i]?=some x:=λi hi=>⟨arr[base+i]'(by omega),qj (by omega)⟩;have le:∀i j x y,i<j->j<n->arr[base+i]?=some x->arr[base+j]?=some y->rk x<=rk y:=λi j x y hij hj ex ey=>by
  have e1:(arr.toList.drop base)[i]?=some x:=by rw[zW,qB];exact ex
  have e2:(arr.toList.drop base)[j]?=some y:=by rw[zW,qB];exact ey
  obtain⟨l1,e1⟩:=qA.mp e1;obtain⟨l2,e2⟩:=qA.mp e2;have:=zM.mp hs i j l1 l2 hij;rw[e1,e2]at this;exact this
 refine ZaR (λi=>match arr[base+i]? with | some x=>decide (rk x<rk key) | none=>false) hh (λi j hij hj h=>?_) (λi hi F hF=>?_) λr h1 h2 h3=>k r h1 (λi x hi ex=>?_) λi x hi hn ex=>?_
 ·obtain⟨x,ex⟩:=hx i (by omega)
  obtain⟨y,ey⟩:=hx j hj;simp only[ex,ey]at h⊢;have:=le i j x y hij hj ex ey;simp only[decide_eq_true_eq]at h⊢;omega
 ·obtain⟨x,ex⟩:=hx i hi
  unfold Bg;refine wpS_bind (YU ex ?_);simp only[if_true];refine C x key (hin x (zd.mpr (zp ex))) hkey st _ hk ?_;simp only[ex]at hF;exact hF
 ·have:=h2 i hi
  simp only[ex,decide_eq_true_eq]at this;exact this
 ·have:=h3 i hi hn
  simp only[ex,decide_eq_false_iff_not]at this;omega
theorem Zmz {b:Array Keyed}{ib k:Nat}{v:Int}(h:∀i x,k<=i->i<b.size-ib->b[ib+i]?=some x->v<=rk x):∀y∈b.toList.drop (ib+k),v<=rk y:=λy hy=>by
 obtain⟨j,hj⟩:=zI.mp hy;rw[zW,qB]at hj;have hl:ib+k+j<b.size:=(zJ.mp hj).1;exact h (k+j) y (by omega) (by omega) (by rw[<-hj];congr 1;omega)
set_option hygiene false in
local macro_rules | `(tactic| walk_at "loEnd")=>`(tactic| (
  refine wpS_bind (YU hax ?_);have J5:=J4.pushA ha hax hge;by_cases d3:(ia2+1+1==a.size)=true
  ·rw[if_pos d3]
   exact wpS_pure ⟨hsim,.inl ⟨_,_,_,_,_,_,_,rfl,J5.last ha hb (by simpa using d3) ZU⟩⟩
  ·rw[if_neg d3]
   have d3':ia2+1+1≠a.size:=by simpa using d3
   split
   ·exact wpS_pure ⟨hsim,.inr ⟨_,_,_,_,_,_,rfl,J5,by omega,by omega,by omega⟩⟩
   ·exact wpS_pure ⟨hsim,_,_,_,_,_,_,rfl,J5,by omega,by omega,by omega⟩))
set_option hygiene false in
local macro_rules | `(tactic| walk_at "loTail")=>`(tactic| (
  refine wpS_bind (YU hbx ?_);have J3:=J2.pushB hb hbx hgt;by_cases d1:(ib+1==b.size)=true
  ·rw[if_pos d1]
   exact wpS_pure ⟨hsim,.inl ⟨_,_,_,_,_,_,_,rfl,J3.done ha hb (.inl (by simpa using d1))⟩⟩
  ·rw[if_neg d1]
   have d1':ib+1≠b.size:=by simpa using d1
   have hax:=qj (xs:=a) (i:=ia2) (by omega);refine wpS_bind (YU hax ?_);refine wpS_bind (Zhz C hk2 (hia _ (zd.mpr (zp hax))) hib (hb.drop _) (by omega) (by omega) λk1 g1 g2 g3=>?_);have hge:=Zmz (ib:=ib+1) (k:=k1) g3;dsimp only;by_cases e1:k1 > 0
   ·rw[if_pos e1]
    have J4:=Jm.bulkB hb k1 J3 (by omega) λi x hi hx y hy=>qaw (yH (g2 i x hi hx)) (ha.head (WU hax) y hy);by_cases d2:(ib+1+k1==b.size)=true
    ·rw[if_pos d2]
     exact wpS_pure ⟨hsim,.inl ⟨_,_,_,_,_,_,_,rfl,J4.done ha hb (.inl (by simpa using d2))⟩⟩
    ·rw[if_neg d2]
     have d2':ib+1+k1≠b.size:=by simpa using d2
     walk_at "loEnd"
   ·rw[if_neg e1]
    have z:k1=0:=by omega
    subst z;have J4:=J3;have d2':ib+1+0≠b.size:=d1'
    walk_at "loEnd"))
set_option hygiene false in
local macro_rules | `(tactic| walk_at "loHead")=>`(tactic| (
  refine wpS_bind (wpS_modify ?_);have hsim:=hsim0.setG gm;have hbx:=qj (xs:=b) (i:=ib) (by omega);refine wpS_bind (YU hbx ?_);have hk2:kindOf (setG jP gm)=κ:=hsim.kind.trans hk;refine wpS_bind (ZfE C hk2 (hib _ (zd.mpr (zp hbx))) hia (ha.drop _) (by omega) (by omega) λk0 f1 f2 f3=>?_);dsimp only;have hgt0:=Zmz (b:=a) (ib:=ia) (k:=k0) (v:=rk b[ib]) λi x h1 h2 h3=>yH (f3 i x h1 h2 h3);by_cases e0:k0 > 0
  ·rw[if_pos e0]
   have J2:=Jm.bulkA ha k0 J (by omega) λi x hi hx y hy=>qaw (f2 i x hi hx) (hb.head (WU hbx) y hy);by_cases d4:(ia+k0+1==a.size)=true
   ·rw[if_pos d4]
    exact wpS_pure ⟨hsim,.inl ⟨_,_,_,_,_,_,_,rfl,J2.last ha hb (by simpa using d4) ZU⟩⟩
   ·rw[if_neg d4]
    have d4':ia+k0+1≠a.size:=by simpa using d4
    by_cases d5:(ia+k0==a.size)=true
    ·rw[if_pos d5]
     exact wpS_pure ⟨hsim,.inl ⟨_,_,_,_,_,_,_,rfl,J2.done ha hb (.inr (by simpa using d5))⟩⟩
    ·rw[if_neg d5]
     have d5':ia+k0≠a.size:=by simpa using d5
     have hgt:=hgt0;have i1:ia+k0+1<a.size:=by omega
     have i2:ia<=ia+k0:=by omega
     generalize ia+k0=ia2 at J2 hgt i1 i2⊢
     walk_at "loTail"
  ·rw[if_neg e0]
   have z0:k0=0:=by omega
   subst z0;have J2:=J;have hgt:∀y∈a.toList.drop ia,rk b[ib]<=rk y:=hgt0;have i1:ia+1<a.size:=l1;have i2:ia<=ia:=qq _;generalize e2:ia=ia2 at J2 hgt i1⊢;rw[e2]at i2
   walk_at "loTail"))
theorem ZgJ {a b:Array Keyed}{st:SortSt}{Q:Array Keyed->SortSt->Prop}(C:WD M A E s rk κ In)(hk:kindOf st=κ)(hia:∀x∈a.toList,In x)(hib:∀x∈b.toList,In x)(ha:SL rk a.toList)(hb:SL rk b.toList)(a0:0<a.size)(b0:0<b.size)
  (first:∀x,b[0]?=some x->∀y∈a.toList,rk x<=rk y) (ZU:∀y∈b.toList,∀x,a[a.size-1]?=some x->rk y<=rk x)
  (k:∀r st',Mg rk a b r->Sim st st'->Q r st'):wpS M A E s (Zkm a b) Q st:=by
 refine wpS_bind (wpS_lift (wpAny_rule ⟨rfl,?_⟩));have hb0:=qj b0;refine wpS_bind (YU hb0 ?_);have J0:Jm rk a b #[b[0]] 0 1:=by
  have e:Jm rk a b #[] 0 0:=⟨zB _,zB _,by simp,yn,λx hx=>by simp at hx,λx hx=>by simp at hx⟩;exact e.pushB hb hb0 λy hy=>first _ hb0 y (by simpa using hy)
 dsimp only;by_cases c1:(1==b.size)=true
 ·rw[if_pos c1]
  have:1=b.size:=by simpa using c1
  exact wpS_pure (k _ _ (J0.done ha hb (.inl this)) (Sim.refl st))
 ·rw[if_neg c1]
  by_cases c2:(0+1==a.size)=true
  ·rw[if_pos c2]
   have:0+1=a.size:=by simpa using c2
   exact wpS_pure (k _ _ (J0.last ha hb this ZU) (Sim.refl st))
  ·rw[if_neg c2]
   refine wpS_bind (wpS_get ?_);have c1':1≠b.size:=by simpa using c1
   have c2':0+1≠a.size:=by simpa using c2
   refine wpS_bind (wpS_mono (wpS_forRange (I:=λy c st'=>Sim st st'/\∃out ia ib g,c=(none,out,ia,ib,g)/\Jm rk a b out ia ib/\ia+1<a.size/\ib<b.size/\y<=ia+ib)
    (Q:=λc st'=>Sim st st'/\∃r out ia ib g,c=(some r,out,ia,ib,g)/\Mg rk a b r) ?step ?fin ⟨Sim.refl st,_,_,_,_,rfl,J0,by omega,by omega,by omega⟩) ?post)
   case post=>
    rintro c st' ⟨h1,r,out,ia,ib,g,rfl,h2⟩;exact wpS_pure (k r st' h2 h1)
   case fin=>
    rintro c st' ⟨h1,out,ia,ib,g,rfl,J,l1,l2,h3⟩;omega
   case step=>
    rintro y c jT _ hy ⟨hs1,out,ia,ib,g,rfl,J,l1,l2,h3⟩;dsimp only;refine wpS_bind (wpS_mono (wpS_forRange (I:=λx c st'=>st'=jT/\∃o2 i2 j2 p q,c=(none,o2,i2,j2,p,q)/\Jm rk a b o2 i2 j2/\i2+1<a.size/\j2<b.size/\ia+ib+x<=i2+j2)
     (Q:=λc st'=>st'=jT/\((∃r o2 i2 j2 p q,c=(some r,o2,i2,j2,p,q)/\Mg rk a b r)∨∃o2 i2 j2 p q,c=(none,o2,i2,j2,p,q)/\Jm rk a b o2 i2 j2/\i2+1<a.size/\j2<b.size/\ia+ib+1<=i2+j2)) ?step1 ?fin1 ⟨rfl,_,_,_,_,_,rfl,J,l1,l2,by omega⟩) ?post1)
    case fin1=>
     rintro c st' ⟨rfl,o2,i2,j2,p,q,rfl,J2,m1,m2,m3⟩;omega
    case step1=>
     rintro x c st' _ hx ⟨rfl,o2,i2,j2,p,q,rfl,J2,m1,m2,m3⟩;dsimp only;have hbx:=qj (xs:=b) (i:=j2) m2;have hax:=qj (xs:=a) (i:=i2) (by omega);refine wpS_bind (YU hbx (wpS_bind (YU hax ?_)));refine wpS_bind (C _ _ (hib _ (zd.mpr (zp hbx))) (hia _ (zd.mpr (zp hax))) _ _ (hs1.kind.trans hk) ?_);dsimp only;by_cases w:rk b[j2]<rk a[i2]
     ·rw[if_pos (decide_eq_true w)]
      refine wpS_bind (YU hbx ?_);have J3:=J2.pushB hb hbx λy hy=>qaw (yH w) (ha.head (WU hax) y hy);by_cases d:(j2+1==b.size)=true
      ·rw[if_pos d]
       exact wpS_pure ⟨rfl,.inl ⟨_,_,_,_,_,_,rfl,J3.done ha hb (.inl (by simpa using d))⟩⟩
      ·rw[if_neg d]
       have d':j2+1≠b.size:=by simpa using d
       split
       ·exact wpS_pure ⟨rfl,.inr ⟨_,_,_,_,_,rfl,J3,m1,by omega,by omega⟩⟩
       ·exact wpS_pure ⟨rfl,_,_,_,_,_,rfl,J3,m1,by omega,by omega⟩
     ·rw[if_neg (by simpa using w)]
      refine wpS_bind (YU hax ?_);have J3:=J2.pushA ha hax λy hy=>qaw (Int.not_lt.mp w) (hb.head (WU hbx) y hy);by_cases d:(i2+1+1==a.size)=true
      ·rw[if_pos d]
       exact wpS_pure ⟨rfl,.inl ⟨_,_,_,_,_,_,rfl,J3.last ha hb (by simpa using d) ZU⟩⟩
      ·rw[if_neg d]
       have d':i2+1+1≠a.size:=by simpa using d
       split
       ·exact wpS_pure ⟨rfl,.inr ⟨_,_,_,_,_,rfl,J3,by omega,m2,by omega⟩⟩
       ·exact wpS_pure ⟨rfl,_,_,_,_,_,rfl,J3,by omega,m2,by omega⟩
    case post1=>
     rintro c st' ⟨rfl,h | h⟩
     ·obtain⟨r,o2,i2,j2,p,q,rfl,h⟩:=h
      exact wpS_pure ⟨hs1,_,_,_,_,_,rfl,h⟩
     ·obtain⟨o2,i2,j2,p,q,rfl,J2,m1,m2,m3⟩:=h
      dsimp only;refine wpS_bind (wpS_lift (wpAny_rule ⟨rfl,?_⟩));refine wpS_bind (wpS_mono (wpS_forRange (I:=λx c jP=>Sim st jP/\∃o3 i3 j3 g p q,c=(none,o3,i3,j3,g,p,q)/\Jm rk a b o3 i3 j3/\i3+1<a.size/\j3<b.size/\i2+j2+x<=i3+j3)
       (Q:=λc jP=>Sim st jP/\((∃r o3 i3 j3 g p q,c=(some r,o3,i3,j3,g,p,q)/\Mg rk a b r)∨∃o3 i3 j3 g p q,c=(none,o3,i3,j3,g,p,q)/\Jm rk a b o3 i3 j3/\i3+1<a.size/\j3<b.size/\i2+j2<=i3+j3)) ?step2 ?fin2 ⟨hs1,_,_,_,_,_,_,rfl,J2,m1,m2,by omega⟩) ?post2)
      case fin2=>
       rintro c jP ⟨h1,o3,i3,j3,g,p,q,rfl,J3,n1,n2,n3⟩;omega
      case post2=>
       rintro c jP ⟨h1,h | h⟩
       ·obtain⟨r,o3,i3,j3,g,p,q,rfl,h⟩:=h
        exact wpS_pure ⟨h1,_,_,_,_,_,rfl,h⟩
       ·obtain⟨o3,i3,j3,g,p,q,rfl,J3,n1,n2,n3⟩:=h
        dsimp only;exact wpS_bind (wpS_modify (wpS_pure ⟨h1.setG _,_,_,_,_,rfl,J3,n1,n2,by omega⟩))
      case step2=>
       clear J l1 l2 h3 J2 m1 m2;rintro x c jP _ hx ⟨hsim0,out,ia,ib,g,p,q,rfl,J,l1,l2,n3⟩;dsimp only;refine' (λ(key:∀gm:Nat,(_:Nat->Prop) gm)=>?m1) ?m2
       case m1=>
        by_cases g1:g > 1
        ·rw[if_pos g1]
         generalize g-1=gm;exact key gm
        ·rw[if_neg g1]
         generalize g=gm;exact key gm
       case m2=>
        intro gm
        walk_at "loHead"
end
section
variable (rk:Keyed->Int)
structure Jh (a b out:Array Keyed)(na nb:Nat):Prop where
 la:na<=a.size
 lb:nb<=b.size
 pm:out.toList.Perm (a.toList.drop na++b.toList.drop nb)
 so:out.toList.Pairwise λx y=>rk y<=rk x
 ga:∀x∈out.toList,∀y∈a.toList.take na,rk y<=rk x
 gb:∀x∈out.toList,∀y∈b.toList.take nb,rk y<=rk x
variable {rk}{a b out:Array Keyed}{na nb:Nat}
theorem SL.last {l:List Keyed}(h:SL rk l){i:Nat}{x:Keyed}(hx:l[i]?=some x):∀y∈l.take (i+1),rk y<=rk x:=λy hy=>by
 have:=h.sublist (zS (i+1) l);rw[VG hx]at this hy;rcases qM.mp hy with hy | hy
 ·exact(qW.mp this).2.2 y hy x (by simp)
 ·rw[qJ.mp hy];exact yP _
theorem Jh.pushB (h:Jh rk a b out na (nb+1))(hb:SL rk b.toList){x:Keyed}(hx:b[nb]?=some x)(hle:∀y∈a.toList.take na,rk y<=rk x):Jh rk a b (out.push x) na nb:=by
 have hx':=WU hx;have hd:=hb.last hx';refine⟨h.la,by have:=h.lb;omega,?_,?_,λo ho y hy=>?_,λo ho y hy=>?_⟩
 ·rw[zf,VF hx']
  refine(h.pm.append_right _).trans ?_;rw[qR];exact qbw _ yt
 ·rw[zf]
  refine qW.mpr ⟨h.so,yf _ _,λo ho y hy=>?_⟩;rw[qJ.mp hy];exact h.gb o ho x (by rw[VG hx'];simp)
 ·rw[zf]at ho
  rcases qM.mp ho with ho | ho
  ·exact h.ga o ho y hy
  ·rw[qJ.mp ho];exact hle y hy
 ·rw[zf]at ho
  have hy':y∈b.toList.take (nb+1):=by rw[VG hx'];exact qao _ hy
  rcases qM.mp ho with ho | ho
  ·exact h.gb o ho y hy'
  ·rw[qJ.mp ho];exact hd y hy'
theorem Jh.pushA (h:Jh rk a b out (na+1) nb)(ha:SL rk a.toList){x:Keyed}(hx:a[na]?=some x)(hle:∀y∈b.toList.take nb,rk y<=rk x):Jh rk a b (out.push x) na nb:=by
 have hx':=WU hx;have hd:=ha.last hx';refine⟨by have:=h.la;omega,h.lb,?_,?_,λo ho y hy=>?_,λo ho y hy=>?_⟩
 ·rw[zf,VF hx']
  refine(h.pm.append_right _).trans ?_;exact yt
 ·rw[zf]
  refine qW.mpr ⟨h.so,yf _ _,λo ho y hy=>?_⟩;rw[qJ.mp hy];exact h.ga o ho x (by rw[VG hx'];simp)
 ·rw[zf]at ho
  have hy':y∈a.toList.take (na+1):=by rw[VG hx'];exact qao _ hy
  rcases qM.mp ho with ho | ho
  ·exact h.ga o ho y hy'
  ·rw[qJ.mp ho];exact hd y hy'
 ·rw[zf]at ho
  rcases qM.mp ho with ho | ho
  ·exact h.gb o ho y hy
  ·rw[qJ.mp ho];exact hle y hy
theorem ZfF {xs:Array Keyed}{i n:Nat}(h:i<n)(hn:n<=xs.size)(out:Array Keyed):out++(xs.extract i n).reverse=(out++(xs.extract (i+1) n).reverse).push (xs[i]'(by omega)):=by
 apply Array.ext';simp only[za,qaq,yU,zf,yq,qR];congr 1;have hg:xs.toList[i]?=some (xs[i]'(by omega)):=WU (qj (by omega));rw[VF hg,show n-i=(n-(i+1))+1 by omega,qcL,List.reverse_cons]
theorem Jh.bulkA (ha:SL rk a.toList){n:Nat}:∀(k:Nat),k<=n->n<=a.size->Jh rk a b out n nb->(∀i x,n-k<=i->i<n->a[i]?=some x->∀y∈b.toList.take nb,rk y<=rk x)->Jh rk a b (out++(a.extract (n-k) n).reverse) (n-k) nb
 | 0,_,hn,h,_=>by
  have:out++(a.extract (n-0) n).reverse=out:=by simp;omega
  rw[this,qb0];exact h
 | k+1,hk,hn,h,hle=>by
  have ih:=Jh.bulkA ha k (by omega) hn h λi x h1=>hle i x (by omega);have e:n-k=n-(k+1)+1:=by omega
  rw[ZfF (by omega) hn,<-e];rw[e]at ih;have:=ih.pushA ha (qj (by omega)) (hle _ _ (by omega) (by omega) (qj (by omega)));rw[<-e]at this;exact this
theorem Jh.bulkB (hb:SL rk b.toList){n:Nat}:∀(k:Nat),k<=n->n<=b.size->Jh rk a b out na n->(∀i x,n-k<=i->i<n->b[i]?=some x->∀y∈a.toList.take na,rk y<=rk x)->Jh rk a b (out++(b.extract (n-k) n).reverse) na (n-k)
 | 0,_,hn,h,_=>by
  have:out++(b.extract (n-0) n).reverse=out:=by simp;omega
  rw[this,qb0];exact h
 | k+1,hk,hn,h,hle=>by
  have ih:=Jh.bulkB hb k (by omega) hn h λi x h1=>hle i x (by omega);have e:n-k=n-(k+1)+1:=by omega
  rw[ZfF (by omega) hn,<-e];rw[e]at ih;have:=ih.pushB hb (qj (by omega)) (hle _ _ (by omega) (by omega) (qj (by omega)));rw[<-e]at this;exact this
theorem VZ (xs:Array Keyed)(i:Nat):(xs.extract 0 i).toList=xs.toList.take i:=by
 rw[yU,yq,qbc,qb0]
theorem Jh.perm (h:Jh rk a b out na nb):(a.toList.take na++b.toList.take nb++out.toList.reverse).Perm (a.toList++b.toList):=by
 refine((List.reverse_perm _).trans h.pm).append_left _ |>.trans ?_;rw[qR];have:(b.toList.take nb++(a.toList.drop na++b.toList.drop nb)).Perm (a.toList.drop na++(b.toList.take nb++b.toList.drop nb)):=by
  rw[<-qR,<-qR];exact yt.append_right _
 refine(this.append_left _).trans ?_;rw[zj,<-qR,zj]
theorem Jh.rev (h:Jh rk a b out na nb):SL rk out.toList.reverse:=qct.mpr h.so
theorem Jh.done (h:Jh rk a b out na nb)(ha:SL rk a.toList)(hb:SL rk b.toList)(e:na=0∨nb=0):Mg rk a b (a.extract 0 na++b.extract 0 nb++out.reverse):=by
 refine⟨?_,?_⟩
 ·rw[za,za,VZ,VZ,qaq]
  exact h.perm
 ·rw[SL,za,za,VZ,VZ,qaq]
  rcases e with e | e
  ·rw[e,qbd,qa0]
   exact qW.mpr ⟨hb.sublist (zS _ _),h.rev,λx hx y hy=>h.gb y (qaQ.mp hy) x hx⟩
  ·rw[e,qbd,zr]
   exact qW.mpr ⟨ha.sublist (zS _ _),h.rev,λx hx y hy=>h.ga y (qaQ.mp hy) x hx⟩
theorem Jh.first (h:Jh rk a b out na 1)(ha:SL rk a.toList)(bot:∀x,b[0]?=some x->∀y∈a.toList,rk x<=rk y):Mg rk a b (b.extract 0 1++a.extract 0 na++out.reverse):=by
 refine⟨?_,?_⟩
 ·rw[za,za,VZ,VZ,qaq]
  exact(yt.append_right _).trans h.perm
 ·rw[SL,za,za,VZ,VZ,qaq]
  refine qW.mpr ⟨qW.mpr ⟨?_,ha.sublist (zS _ _),λx hx y hy=>?_⟩,h.rev,λx hx y hy=>?_⟩
  ·have hl:=List.length_take_le 1 b.toList
   cases e:b.toList.take 1 with
   | nil=>exact yn
   | cons z l=>
    rw[e]at hl;have:l=[]:=by simpa using hl
    rw[this];exact yf _ _
  ·have hb0:0<b.size:=h.lb
   have z:b.toList.take 1=[b[0]]:=by
    have:=VG (l:=b.toList) (i:=0) (WU (qj hb0));simpa using this
   rw[z]at hx;rw[qJ.mp hx];exact bot _ (qj hb0) y (qar hy)
  ·rcases qM.mp hx with hx | hx
   ·exact h.gb y (qaQ.mp hy) x hx
   ·exact h.ga y (qaQ.mp hy) x hx
end
section
variable {M:Model}{A:xC}{E:xD}{s:Shared}{rk:Keyed->Int}{κ:SortKind}{In:Keyed->Prop}
theorem ZmA {b:Array Keyed}{k:Nat}{v:Int}(h:∀i x,i<k->b[0+i]?=some x->rk x<=v):∀y∈b.toList.take k,rk y<=v:=λy hy=>by
 obtain⟨j,hj⟩:=zI.mp hy;have hl:=(qA.mp hj).1;rw[qZ]at hl;rw[zP (by omega),qB]at hj;exact h j y (by omega) (by rw[yS];exact hj)
theorem Jh.pushA' {a b out:Array Keyed}{na nb:Nat}(h:Jh rk a b out na nb)(hn:0<na)(ha:SL rk a.toList){x:Keyed}(hx:a[na-1]?=some x)(hle:∀y∈b.toList.take nb,rk y<=rk x):Jh rk a b (out.push x) (na-1) nb:=by
 obtain⟨m,rfl⟩:∃m,na=m+1:=⟨na-1,by omega⟩;exact h.pushA ha hx hle
theorem Jh.pushB' {a b out:Array Keyed}{na nb:Nat}(h:Jh rk a b out na nb)(hn:0<nb)(hb:SL rk b.toList){x:Keyed}(hx:b[nb-1]?=some x)(hle:∀y∈a.toList.take na,rk y<=rk x):Jh rk a b (out.push x) na (nb-1):=by
 obtain⟨m,rfl⟩:∃m,nb=m+1:=⟨nb-1,by omega⟩;exact h.pushB hb hx hle
theorem Jh.cutA {a b out:Array Keyed}{na nb t:Nat}(h:Jh rk a b out na nb)(ht:t<=na)(ha:SL rk a.toList)(hle:∀i x,t<=i->i<na->a[i]?=some x->∀y∈b.toList.take nb,rk y<=rk x):Jh rk a b (out++(a.extract t na).reverse) t nb:=by
 have:=Jh.bulkA ha (na-t) (by omega) h.la h (by rw[show na-(na-t)=t by omega];exact hle);rw[show na-(na-t)=t by omega]at this;exact this
theorem Jh.cutB {a b out:Array Keyed}{na nb t:Nat}(h:Jh rk a b out na nb)(ht:t<=nb)(hb:SL rk b.toList)(hle:∀i x,t<=i->i<nb->b[i]?=some x->∀y∈a.toList.take na,rk y<=rk x):Jh rk a b (out++(b.extract t nb).reverse) na t:=by
 have:=Jh.bulkB hb (nb-t) (by omega) h.lb h (by rw[show nb-(nb-t)=t by omega];exact hle);rw[show nb-(nb-t)=t by omega]at this;exact this
theorem Jh.first' {a b out:Array Keyed}{na nb:Nat}(h:Jh rk a b out na nb)(e:nb=1)(ha:SL rk a.toList)(bot:∀x,b[0]?=some x->∀y∈a.toList,rk x<=rk y):Mg rk a b (b.extract 0 nb++a.extract 0 na++out.reverse):=by
 subst e;exact h.first ha bot
theorem ZhA {l:Array Keyed}(h:SL rk l.toList){n:Nat}(hn:0<n){x:Keyed}(hx:l[n-1]?=some x):∀y∈l.toList.take n,rk y<=rk x:=by
 have:=h.last (WU hx);rw[show n-1+1=n by omega]at this;exact this
set_option hygiene false in
local macro_rules | `(tactic| walk_at "hiEnd")=>`(tactic| (
  refine wpS_bind (YU hax ?_);have J5:=J4.pushA' i1 ha hax hge;by_cases d3:(na2-1==0)=true
  ·rw[if_pos d3]
   exact wpS_pure ⟨hsim,.inl ⟨_,_,_,_,_,_,_,rfl,J5.done ha hb (.inl (by simpa using d3))⟩⟩
  ·rw[if_neg d3]
   have d3':na2-1≠0:=by simpa using d3
   split
   ·exact wpS_pure ⟨hsim,.inr ⟨_,_,_,_,_,_,rfl,J5,by omega,by omega,by omega⟩⟩
   ·exact wpS_pure ⟨hsim,_,_,_,_,_,_,rfl,J5,by omega,by omega,by omega⟩))
set_option hygiene false in
local macro_rules | `(tactic| walk_at "hiTail")=>`(tactic| (
  refine wpS_bind (YU hbx ?_);have J3:=J2.pushB' (by omega) hb hbx hgt;by_cases d1:(nb-1==1)=true
  ·rw[if_pos d1]
   exact wpS_pure ⟨hsim,.inl ⟨_,_,_,_,_,_,_,rfl,J3.first' (by simpa using d1) ha first⟩⟩
  ·rw[if_neg d1]
   have d1':nb-1≠1:=by simpa using d1
   have hla:=J2.la;have hax:=qj (xs:=a) (i:=na2-1) (by omega);refine wpS_bind (YU hax ?_);refine wpS_bind (Zhz C hk2 (hia _ (zd.mpr (zp hax))) hib (hb.drop _) (by omega) (by omega) λt1 g1 g2 g3=>?_);have hge:=ZmA (b:=b) (k:=t1) λi x h1 h2=>yH (g2 i x h1 h2);have hmax:=ZhA ha i1 hax;dsimp only;by_cases e1:nb-1-t1 > 0
   ·rw[if_pos e1]
    have J4:=J3.cutB g1 hb λi x h1 h2 hx y hy=>qaw (hmax y hy) (g3 i x h1 h2 (by rw[yS];exact hx));by_cases d2:(t1==1)=true
    ·rw[if_pos d2]
     exact wpS_pure ⟨hsim,.inl ⟨_,_,_,_,_,_,_,rfl,J4.first' (by simpa using d2) ha first⟩⟩
    ·rw[if_neg d2]
     have d2':t1≠1:=by simpa using d2
     by_cases d6:(t1==0)=true
     ·rw[if_pos d6]
      exact wpS_pure ⟨hsim,.inl ⟨_,_,_,_,_,_,_,rfl,J4.done ha hb (.inr (by simpa using d6))⟩⟩
     ·rw[if_neg d6]
      have d6':t1≠0:=by simpa using d6
      walk_at "hiEnd"
   ·rw[if_neg e1]
    have z:t1=nb-1:=by omega
    subst z;have J4:=J3
    walk_at "hiEnd"))
set_option hygiene false in
local macro_rules | `(tactic| walk_at "hiHead")=>`(tactic| (
  refine wpS_bind (wpS_modify ?_);have hsim:=hsim0.setG gm;have hlb:=J.lb;have hla0:=J.la;have hbx:=qj (xs:=b) (i:=nb-1) (by omega);refine wpS_bind (YU hbx ?_);have hk2:kindOf (setG jP gm)=κ:=hsim.kind.trans hk;refine wpS_bind (ZfE C hk2 (hib _ (zd.mpr (zp hbx))) hia (ha.drop _) (by omega) (by omega) λt0 f1 f2 f3=>?_);dsimp only;have hgt0:=ZmA (b:=a) (k:=t0) λi x h1 h2=>f2 i x h1 h2;have hbm:=ZhA hb (by omega:0<nb) hbx;by_cases e0:na-t0 > 0
  ·rw[if_pos e0]
   have J2:=J.cutA f1 ha λi x h1 h2 hx y hy=>qaw (hbm y hy) (yH (f3 i x h1 h2 (by rw[yS];exact hx)));by_cases d4:(t0==0)=true
   ·rw[if_pos d4]
    exact wpS_pure ⟨hsim,.inl ⟨_,_,_,_,_,_,_,rfl,J2.done ha hb (.inl (by simpa using d4))⟩⟩
   ·rw[if_neg d4]
    have d4':t0≠0:=by simpa using d4
    have hgt:=hgt0;have i1:0<t0:=by omega
    have i2:t0<=na:=f1;generalize t0=na2 at J2 hgt i1 i2⊢
    walk_at "hiTail"
  ·rw[if_neg e0]
   have z0:t0=na:=by omega
   subst z0;have J2:=J;have hgt:=hgt0;have i1:0<t0:=l1;have i2:t0<=t0:=qq _;generalize e2:t0=na2 at J2 hgt i1⊢;rw[e2]at i2
   walk_at "hiTail"))
theorem ZgK {a b:Array Keyed}{st:SortSt}{Q:Array Keyed->SortSt->Prop}(C:WD M A E s rk κ In)(hk:kindOf st=κ)(hia:∀x∈a.toList,In x)(hib:∀x∈b.toList,In x)(ha:SL rk a.toList)(hb:SL rk b.toList)(a0:0<a.size)(b0:0<b.size)
  (first:∀x,b[0]?=some x->∀y∈a.toList,rk x<=rk y) (ZU:∀y∈b.toList,∀x,a[a.size-1]?=some x->rk y<=rk x)
  (k:∀r st',Mg rk a b r->Sim st st'->Q r st'):wpS M A E s (Zkn a b) Q st:=by
 refine wpS_bind (wpS_lift (wpAny_rule ⟨rfl,?_⟩));have hal:a[a.size-1]?=some (a[a.size-1]'(by omega)):=qj (by omega);dsimp only;refine wpS_bind (YU hal ?_);have J0:Jh rk a b #[a[a.size-1]'(by omega)] (a.size-1) b.size:=by
  have e:Jh rk a b #[] (a.size-1+1) b.size:=⟨by omega,qq _,by
   rw[yk (by simp;omega),yk (by simp)];exact .refl _,yn,λx hx=>by simp at hx,λx hx=>by simp at hx⟩
  exact e.pushA ha hal λy hy=>ZU y (qar hy) _ hal
 by_cases c1:(a.size-1==0)=true
 ·rw[if_pos c1]
  exact wpS_pure (k _ _ (J0.done ha hb (.inl (by simpa using c1))) (Sim.refl st))
 ·rw[if_neg c1]
  have c1':a.size-1≠0:=by simpa using c1
  by_cases c2:(b.size==1)=true
  ·rw[if_pos c2]
   have e1:b.size=1:=by simpa using c2
   have J1:=J0;rw[e1]at J1;have:=J1.first ha first;rw[e1];exact wpS_pure (k _ _ this (Sim.refl st))
  ·rw[if_neg c2]
   have c2':b.size≠1:=by simpa using c2
   refine wpS_bind (wpS_get ?_);refine wpS_bind (wpS_mono (wpS_forRange (I:=λy c st'=>Sim st st'/\∃na nb out g,c=(none,na,nb,out,g)/\Jh rk a b out na nb/\0<na/\1<nb/\na+nb+y<=a.size+b.size)
    (Q:=λc st'=>Sim st st'/\∃r na nb out g,c=(some r,na,nb,out,g)/\Mg rk a b r) ?step ?fin ⟨Sim.refl st,_,_,_,_,rfl,J0,by omega,by omega,by omega⟩) ?post)
   case post=>
    rintro c st' ⟨h1,r,na,nb,out,g,rfl,h2⟩;exact wpS_pure (k r st' h2 h1)
   case fin=>
    rintro c st' ⟨h1,na,nb,out,g,rfl,J,l1,l2,h3⟩;omega
   case step=>
    rintro y c jT _ hy ⟨hs1,na,nb,out,g,rfl,J,l1,l2,h3⟩;dsimp only;refine wpS_bind (wpS_mono (wpS_forRange (I:=λx c st'=>st'=jT/\∃i2 j2 o2 p q,c=(none,i2,j2,o2,p,q)/\Jh rk a b o2 i2 j2/\0<i2/\1<j2/\i2+j2+x<=na+nb)
     (Q:=λc st'=>st'=jT/\((∃r i2 j2 o2 p q,c=(some r,i2,j2,o2,p,q)/\Mg rk a b r)∨∃i2 j2 o2 p q,c=(none,i2,j2,o2,p,q)/\Jh rk a b o2 i2 j2/\0<i2/\1<j2/\i2+j2+1<=na+nb)) ?step1 ?fin1 ⟨rfl,_,_,_,_,_,rfl,J,l1,l2,by omega⟩) ?post1)
    case fin1=>
     rintro c st' ⟨rfl,i2,j2,o2,p,q,rfl,J2,m1,m2,m3⟩;omega
    case step1=>
     rintro x c st' _ hx ⟨rfl,i2,j2,o2,p,q,rfl,J2,m1,m2,m3⟩;dsimp only;have hla:=J2.la;have hlb:=J2.lb;have hbx:=qj (xs:=b) (i:=j2-1) (by omega);have hax:=qj (xs:=a) (i:=i2-1) (by omega);refine wpS_bind (YU hbx (wpS_bind (YU hax ?_)));refine wpS_bind (C _ _ (hib _ (zd.mpr (zp hbx))) (hia _ (zd.mpr (zp hax))) _ _ (hs1.kind.trans hk) ?_);dsimp only;have hA:=ZhA ha m1 hax;have hB:=ZhA hb (by omega:0<j2) hbx;by_cases w:rk b[j2-1]<rk a[i2-1]
     ·rw[if_pos (decide_eq_true w)]
      refine wpS_bind (YU hax ?_);have J3:=J2.pushA' m1 ha hax λy hy=>qaw (hB y hy) (yH w);by_cases d:(i2-1==0)=true
      ·rw[if_pos d]
       exact wpS_pure ⟨rfl,.inl ⟨_,_,_,_,_,_,rfl,J3.done ha hb (.inl (by simpa using d))⟩⟩
      ·rw[if_neg d]
       have d':i2-1≠0:=by simpa using d
       split
       ·exact wpS_pure ⟨rfl,.inr ⟨_,_,_,_,_,rfl,J3,by omega,m2,by omega⟩⟩
       ·exact wpS_pure ⟨rfl,_,_,_,_,_,rfl,J3,by omega,m2,by omega⟩
     ·rw[if_neg (by simpa using w)]
      refine wpS_bind (YU hbx ?_);have J3:=J2.pushB' (by omega) hb hbx λy hy=>qaw (hA y hy) (Int.not_lt.mp w);by_cases d:(j2-1==1)=true
      ·rw[if_pos d]
       exact wpS_pure ⟨rfl,.inl ⟨_,_,_,_,_,_,rfl,J3.first' (by simpa using d) ha first⟩⟩
      ·rw[if_neg d]
       have d':j2-1≠1:=by simpa using d
       split
       ·exact wpS_pure ⟨rfl,.inr ⟨_,_,_,_,_,rfl,J3,m1,by omega,by omega⟩⟩
       ·exact wpS_pure ⟨rfl,_,_,_,_,_,rfl,J3,m1,by omega,by omega⟩
    case post1=>
     rintro c st' ⟨rfl,h | h⟩
     ·obtain⟨r,i2,j2,o2,p,q,rfl,h⟩:=h
      exact wpS_pure ⟨hs1,_,_,_,_,_,rfl,h⟩
     ·obtain⟨i2,j2,o2,p,q,rfl,J2,m1,m2,m3⟩:=h
      dsimp only;refine wpS_bind (wpS_lift (wpAny_rule ⟨rfl,?_⟩));refine wpS_bind (wpS_mono (wpS_forRange (I:=λx c jP=>Sim st jP/\∃i3 j3 o3 g p q,c=(none,i3,j3,o3,g,p,q)/\Jh rk a b o3 i3 j3/\0<i3/\1<j3/\i3+j3+x<=i2+j2)
       (Q:=λc jP=>Sim st jP/\((∃r i3 j3 o3 g p q,c=(some r,i3,j3,o3,g,p,q)/\Mg rk a b r)∨∃i3 j3 o3 g p q,c=(none,i3,j3,o3,g,p,q)/\Jh rk a b o3 i3 j3/\0<i3/\1<j3/\i3+j3<=i2+j2)) ?step2 ?fin2 ⟨hs1,_,_,_,_,_,_,rfl,J2,m1,m2,by omega⟩) ?post2)
      case fin2=>
       have z1:=J2.la;have z2:=J2.lb;rintro c jP ⟨h1,i3,j3,o3,g,p,q,rfl,J3,n1,n2,n3⟩;omega
      case post2=>
       rintro c jP ⟨h1,h | h⟩
       ·obtain⟨r,i3,j3,o3,g,p,q,rfl,h⟩:=h
        exact wpS_pure ⟨h1,_,_,_,_,_,rfl,h⟩
       ·obtain⟨i3,j3,o3,g,p,q,rfl,J3,n1,n2,n3⟩:=h
        dsimp only;exact wpS_bind (wpS_modify (wpS_pure ⟨h1.setG _,_,_,_,_,rfl,J3,n1,n2,by omega⟩))
      case step2=>
       clear J l1 l2 h3 J2 m1 m2 m3;rintro x c jP _ hx ⟨hsim0,na,nb,out,g,p,q,rfl,J,l1,l2,n3⟩;dsimp only;refine' (λ(key:∀gm:Nat,(_:Nat->Prop) gm)=>?m1) ?m2
       case m1=>
        by_cases g1:g > 1
        ·rw[if_pos g1]
         generalize g-1=gm;exact key gm
        ·rw[if_neg g1]
         generalize g=gm;exact key gm
       case m2=>
        intro gm
        walk_at "hiHead"
end
section
variable {M:Model}{A:xC}{E:xD}{s:Shared}{rk:Keyed->Int}{κ:SortKind}{In:Keyed->Prop}
theorem ZiI {key:Keyed}{arr:Array Keyed}{base n hint:Nat}{st:SortSt}{Q:Option Nat->SortSt->Prop}(C:WD M A E s rk κ In)(hk:kindOf st=κ)(hkey:In key)(hin:∀x∈arr.toList,In x)(le:∀i j x y,i<j->j<n->arr[base+i]?=some x->arr[base+j]?=some y->rk x<=rk y)(hb:base+n<=arr.size)(hh:hint<n)
  (k:∀r,r<=n->(∀i x,i<r->arr[base+i]?=some x->rk x<=rk key)->(∀i x,r<=i->i<n->arr[base+i]?=some x->rk key<rk x)->Q (some r) st):wpS M A E s (Bf false key arr base n hint) Q st:=by
 have hx:∀i,i<n->∃x,arr[base+i]?=some x:=λi hi=>⟨arr[base+i]'(by omega),qj (by omega)⟩;refine ZaR (λi=>match arr[base+i]? with | some x=>!decide (rk key<rk x) | none=>false) hh (λi j hij hj h=>?_) (λi hi F hF=>?_) λr h1 h2 h3=>k r h1 (λi x hi ex=>?_) λi x hi hn ex=>?_
 ·obtain⟨x,ex⟩:=hx i (by omega)
  obtain⟨y,ey⟩:=hx j hj;simp only[ex,ey]at h⊢;have:=le i j x y hij hj ex ey;simp only[yF,decide_eq_false_iff_not]at h⊢;omega
 ·obtain⟨x,ex⟩:=hx i hi
  unfold Bg;refine wpS_bind (YU ex ?_);simp only[qU,if_false];refine wpS_bind (C key x hkey (hin x (zd.mpr (zp ex))) st _ hk ?_);refine wpS_pure ?_;simp only[ex]at hF;exact hF
 ·have:=h2 i hi
  simp only[ex,yF,decide_eq_false_iff_not]at this;omega
 ·have:=h3 i hi hn
  simp only[ex,Bool.not_eq_false',decide_eq_true_eq]at this;exact this
theorem Zko {key:Keyed}{arr:Array Keyed}{base n hint:Nat}{st:SortSt}{Q:Option Nat->SortSt->Prop}(C:WD M A E s rk κ In)(hk:kindOf st=κ)(hkey:In key)(hin:∀x∈arr.toList,In x)(le:∀i j x y,i<j->j<n->arr[base+i]?=some x->arr[base+j]?=some y->rk x<=rk y)(hb:base+n<=arr.size)(hh:hint<n)
  (k:∀r,r<=n->(∀i x,i<r->arr[base+i]?=some x->rk x<rk key)->(∀i x,r<=i->i<n->arr[base+i]?=some x->rk key<=rk x)->Q (some r) st):wpS M A E s (Bf true key arr base n hint) Q st:=by
 have hx:∀i,i<n->∃x,arr[base+i]?=some x:=λi hi=>⟨arr[base+i]'(by omega),qj (by omega)⟩;refine ZaR (λi=>match arr[base+i]? with | some x=>decide (rk x<rk key) | none=>false) hh (λi j hij hj h=>?_) (λi hi F hF=>?_) λr h1 h2 h3=>k r h1 (λi x hi ex=>?_) λi x hi hn ex=>?_
 ·obtain⟨x,ex⟩:=hx i (by omega)
  obtain⟨y,ey⟩:=hx j hj;simp only[ex,ey]at h⊢;have:=le i j x y hij hj ex ey;simp only[decide_eq_true_eq]at h⊢;omega
 ·obtain⟨x,ex⟩:=hx i hi
  unfold Bg;refine wpS_bind (YU ex ?_);simp only[if_true];refine C x key (hin x (zd.mpr (zp ex))) hkey st _ hk ?_;simp only[ex]at hF;exact hF
 ·have:=h2 i hi
  simp only[ex,decide_eq_true_eq]at this;exact this
 ·have:=h3 i hi hn
  simp only[ex,decide_eq_false_iff_not]at this;omega
theorem Znu {l:List Keyed}{p:Keyed}:∀{P:List Keyed} {x:Keyed} {R:List Keyed},l=P++x::R->l.set P.length p=P++p::R:=λe=>by
 subst e;rw[List.set_append_right _ _ (qq _),Nat.sub_self];rfl
theorem ZfG:∀(ms olds P R:List Keyed) (arr:Array Keyed) (n:Nat),arr.toList=P++olds++R->olds.length=ms.length->((ms.zipIdx n).foldl (λa (p,j)=>a.setIfInBounds (P.length-n+j) p) arr).toList=P++ms++R∨P.length<n
 | [],olds,P,R,arr,n,e,hl=>by
  have:olds=[]:=yE.mp hl;subst this;exact .inl e
 | m::ms,[],P,R,arr,n,e,hl=>by cases hl
 | m::ms,o::olds,P,R,arr,n,e,hl=>by
  by_cases hn:P.length<n
  ·exact .inr hn
  ·rw[List.zipIdx_cons,qbA]
   have e1:(arr.setIfInBounds (P.length-n+n) m).toList=(P ++ [m])++olds++R:=by
    rw[Array.toList_setIfInBounds,show P.length-n+n=P.length by omega,Znu (P:=P) (x:=o) (R:=olds++R) (by rw[e];simp)];simp
   have ih:=ZfG ms olds (P ++ [m]) R (arr.setIfInBounds (P.length-n+n) m) (n+1) e1 (by simpa using hl);rw[qE,qbu]at ih;rw[show P.length+1-(n+1)=P.length-n by omega]at ih;refine .inl ?_;rcases ih with ih | ih
   ·simpa using ih
   ·omega
theorem ZiJ {ms olds P R:List Keyed}{arr:Array Keyed}(e:arr.toList=P++olds++R)(hl:olds.length=ms.length):(ms.zipIdx.foldl (λa (p,j)=>a.setIfInBounds (P.length+j) p) arr).toList=P++ms++R:=by
 rcases ZfG ms olds P R arr 0 e hl with h | h
 ·simpa using h
 ·omega
theorem Zkp {P As T:List Keyed}{arr:Array Keyed}(e:arr.toList=P++As++T){j:Nat}(hj:j<As.length):arr[P.length+j]?=As[j]?:=by
 rw[<-qB,e,qR,zU (by omega),show P.length+j-P.length=j by omega,zC hj]
theorem SL.le {l:List Keyed}(h:SL rk l){i j:Nat}{x y:Keyed}(hij:i<j)(ex:l[i]?=some x)(ey:l[j]?=some y):rk x<=rk y:=by
 obtain⟨l1,e1⟩:=qA.mp ex;obtain⟨l2,e2⟩:=qA.mp ey;have:=zM.mp h i j l1 l2 hij;rw[e1,e2]at this;exact this
theorem Zb1 {l:List Keyed}{k:Nat}{x:Keyed}(h:x∈l.take k):∃i,i<k/\i<l.length/\l[i]?=some x:=by
 obtain⟨i,hi⟩:=zI.mp h;have hl:=(qA.mp hi).1;rw[qZ]at hl;rw[zP (by omega)]at hi;exact⟨i,by omega,by omega,hi⟩
theorem Zb2 {l:List Keyed}{k:Nat}{x:Keyed}(h:x∈l.drop k):∃i,k<=i/\i<l.length/\l[i]?=some x:=by
 obtain⟨i,hi⟩:=zI.mp h;have hl:=(qA.mp hi).1;rw[zX]at hl;rw[zW]at hi;exact⟨k+i,by omega,by omega,hi⟩
theorem ZgL {st:SortSt}{i p q:Nat}{P As Bs R:List Keyed}{Q:Bool->SortSt->Prop}(C:WD M A E s rk κ In)(hk:kindOf st=κ)(hf:failedOf st=none)(hin:∀x∈(arrOf st).toList,In x)
  (p1:(pendingOf st)[i]?=some (P.length,As.length,p)) (p2:(pendingOf st)[i+1]?=some (P.length+As.length,Bs.length,q)) (e:(arrOf st).toList=P++As++(Bs++R)) (hA:SL rk As) (hB:SL rk Bs) (a0:0<As.length) (b0:0<Bs.length)
  (k:∀st' Ms,(arrOf st').toList=P++Ms++R->Ms.Perm (As++Bs)->SL rk Ms->kindOf st'=κ->failedOf st'=none->pendingOf st'=((pendingOf st).setIfInBounds i (P.length,As.length+Bs.length,p)).eraseIdxIfInBounds (i+1)->Q true st'):wpS M A E s (mergeAt' i) Q st:=by
 refine wpS_bind (wpS_get ?_);rw[p1,p2];dsimp only;have hset:∀{T:SortSt} {F:PUnit->SortSt->Prop},F ⟨⟩ T->wpS M A E s (set T:StateT SortSt Sem PUnit) F st:=λ{T F} h=>by
  unfold wpS;rw[StateT.run_set];exact xb ⟨rfl,h⟩
 refine wpS_bind (hset ?_);have e':(arrOf st).toList=(P++As)++Bs++R:=by rw[e];simp
 have hPA:(P++As).length=P.length+As.length:=qE;have atA:∀{j:Nat},j<As.length->(arrOf st)[P.length+j]?=As[j]?:=λ{j} h=>Zkp e h;have atB:∀{j:Nat},j<Bs.length->(arrOf st)[P.length+As.length+j]?=Bs[j]?:=λ{j} h=>by
  have:=Zkp e' h;rw[hPA]at this;exact this
 have hsz:(arrOf st).size=P.length+As.length+Bs.length+R.length:=by
  rw[<-qy,e];simp only[qE];omega
 have hB0:Bs[0]?=some Bs[0]:=qw b0;have key1:(arrOf st)[P.length+As.length]?=some Bs[0]:=by
  have:=atB (j:=0) b0;rw[qb1]at this;rw[this,hB0]
 have mem:∀{j:Nat} {x:Keyed},(arrOf st)[j]?=some x->In x:=λ{j x} h=>hin x (zd.mpr (zp h));refine wpS_bind (YU key1 ?_);refine wpS_bind (ZiI (κ:=κ) (arr:=arrOf st) C hk (mem key1) hin (λi j x y hij hj ex ey=>?_) (by omega) a0 λk1 f1 f2 f3=>?_)
 ·rw[atA (by omega)]at ex
  rw[atA hj]at ey;exact hA.le hij ex ey
 have lowA:∀x∈As.take k1,rk x<=rk Bs[0]:=λx hx=>by
  obtain⟨j,h1,h2,h3⟩:=Zb1 hx;exact f2 j x h1 (by rw[atA h2];exact h3)
 have uppA:∀x∈As.drop k1,rk Bs[0]<rk x:=λx hx=>by
  obtain⟨j,h1,h2,h3⟩:=Zb2 hx;exact f3 j x h1 h2 (by rw[atA h2];exact h3)
 have geB:∀y∈Bs,rk Bs[0]<=rk y:=λy hy=>hB.head hB0 y (by rw[qbc];exact hy);dsimp only;by_cases c1:(As.length-k1==0)=true
 ·rw[if_pos c1]
  have z:k1=As.length:=by
   have:As.length-k1=0:=by simpa using c1
   omega
  refine wpS_pure (k _ (As++Bs) (by show(arrOf st).toList=_;rw[e];simp) (.refl _) (qW.mpr ⟨hA,hB,λx hx y hy=>?_⟩) hk hf rfl);have h1:=lowA x (by rw[z,yy];exact hx);have h2:=geB y hy;omega
 ·rw[if_neg c1]
  have c1':As.length-k1≠0:=by simpa using c1
  have hAl:As[As.length-1]?=some (As[As.length-1]'(by omega)):=qw (by omega);have key2:(arrOf st)[P.length+k1+(As.length-k1)-1]?=some (As[As.length-1]'(by omega)):=by
   rw[show P.length+k1+(As.length-k1)-1=P.length+(As.length-1) by omega,atA (by omega)];exact hAl
  refine wpS_bind (YU key2 ?_);refine wpS_bind (Zko (κ:=κ) (arr:=arrOf st) C hk (mem key2) hin (λi j x y hij hj ex ey=>?_) (by omega) (by omega) λn1 g1 g2 g3=>?_)
  ·rw[atB (by omega)]at ex
   rw[atB hj]at ey;exact hB.le hij ex ey
  have lowB:∀y∈Bs.take n1,rk y<=rk (As[As.length-1]'(by omega)):=λy hy=>by
   obtain⟨j,h1,h2,h3⟩:=Zb1 hy;exact yH (g2 j y h1 (by rw[atB h2];exact h3))
  have uppB:∀y∈Bs.drop n1,rk (As[As.length-1]'(by omega))<=rk y:=λy hy=>by
   obtain⟨j,h1,h2,h3⟩:=Zb2 hy;exact g3 j y h1 h2 (by rw[atB h2];exact h3)
  have leA:∀x∈As,rk x<=rk (As[As.length-1]'(by omega)):=λx hx=>by
   have:=hA.last hAl;rw[show As.length-1+1=As.length by omega,yy]at this;exact this x hx
  dsimp only;by_cases c2:(n1==0)=true
  ·rw[if_pos c2]
   have z:n1=0:=by simpa using c2
   refine wpS_pure (k _ (As++Bs) (by show(arrOf st).toList=_;rw[e];simp) (.refl _) (qW.mpr ⟨hA,hB,λx hx y hy=>?_⟩) hk hf rfl);have h1:=leA x hx;have h2:=uppB y (by rw[z,qbc];exact hy);omega
  ·rw[if_neg c2]
   have c2':n1≠0:=by simpa using c2
   have hx:((arrOf st).extract (P.length+k1) (P.length+As.length)).toList=As.drop k1:=by
    rw[yU,yq,e,qR,List.drop_append,yk (by omega),qa0,show P.length+k1-P.length=k1 by omega,List.drop_append_of_le_length f1,qbE (by rw[zX];omega),qbn (by rw[zX];omega)]
   have hy:((arrOf st).extract (P.length+As.length) (P.length+As.length+n1)).toList=Bs.take n1:=by
    rw[yU,yq,e',qR,List.drop_append,yk (by omega),qa0,hPA,Nat.sub_self,qbc,show P.length+As.length+n1-(P.length+As.length)=n1 by omega,qbE g1]
   generalize (arrOf st).extract (P.length+k1) (P.length+As.length)=X at hx⊢;generalize (arrOf st).extract (P.length+As.length) (P.length+As.length+n1)=Y at hy⊢;have sX:SL rk X.toList:=by rw[hx];exact hA.drop k1
   have sY:SL rk Y.toList:=by rw[hy];exact hB.sublist (zS _ _)
   have lX:X.size=As.length-k1:=by rw[<-qy,hx,zX]
   have lY:Y.size=n1:=by rw[<-qy,hy,qZ];omega
   have inX:∀x∈X.toList,In x:=λx h=>by
    rw[hx]at h;exact hin x (by rw[e];simp[qaR h])
   have inY:∀x∈Y.toList,In x:=λx h=>by
    rw[hy]at h;exact hin x (by rw[e];simp[qar h])
   have frst:∀x,Y[0]?=some x->∀y∈X.toList,rk x<=rk y:=λx h y hyy=>by
    rw[<-qB,hy,zP (by omega),hB0]at h
    cases h
    rw[hx]at hyy;exact yH (uppA y hyy)
   have topp:∀y∈Y.toList,∀x,X[X.size-1]?=some x->rk y<=rk x:=λy hyy x h=>by
    rw[<-qB,hx,lX,zW,show k1+(As.length-k1-1)=As.length-1 by omega,hAl]at h
    cases h
    rw[hy]at hyy;exact lowB y hyy
   have fin:∀(r:Array Keyed) (st':SortSt),Mg rk X Y r->Sim (setPending st (((pendingOf st).setIfInBounds i (P.length,As.length+Bs.length,p)).eraseIdxIfInBounds (i+1))) st'->wpS M A E s (do
     modify λs=>setArr s (r.toList.zipIdx.foldl (λa (p,j)=>a.setIfInBounds (P.length+k1+j) p) (arrOf s))
     return (failedOf (<-get)).isNone) Q st':=λr st' hm hs=>by
    refine wpS_bind (wpS_modify (wpS_bind (wpS_get (wpS_pure ?_))));have hff:failedOf st'=none:=hs.fail.trans hf;have hrl:r.toList.length=As.length-k1+n1:=by rw[hm.1.length_eq,qE,qy,qy,lX,lY]
    have eA:(arrOf st').toList=(P++As.take k1)++(As.drop k1++Bs.take n1)++(Bs.drop n1++R):=by
     have:arrOf st'=arrOf st:=hs.arr;rw[this,e];have h1:As=As.take k1++As.drop k1:=(zj _ _).symm;have h2:Bs=Bs.take n1++Bs.drop n1:=(zj _ _).symm
     conv=>lhs;rw[h1,h2]
     simp only[qR]
    have hPl:(P++As.take k1).length=P.length+k1:=by rw[qE,qZ];omega
    have fs:=ZiJ (ms:=r.toList) eA (by rw[qE,zX,qZ,hrl];omega);rw[hPl]at fs;have hfail:(failedOf st').isNone=true:=by rw[hff];rfl
    have goalq:=k (setArr st' (r.toList.zipIdx.foldl (λa (p,j)=>a.setIfInBounds (P.length+k1+j) p) (arrOf st'))) (As.take k1++r.toList++Bs.drop n1) (by
     show(r.toList.zipIdx.foldl (λa (p,j)=>a.setIfInBounds (P.length+k1+j) p) (arrOf st')).toList=_;rw[fs];simp only[qR]) ?_ ?_ (hs.kind.trans hk) hff hs.pend
    ·show Q (failedOf st').isNone _
     rw[hfail];exact goalq
    ·have pr:=hm.1
     rw[hx,hy]at pr;refine((pr.append_left _).append_right _).trans ?_;rw[<-qR,zj,qR,zj]
    ·have mr:∀z∈r.toList,(z∈As.drop k1∨z∈Bs.take n1):=λz hz=>by
      have:=hm.1.mem_iff.mp hz;rw[hx,hy]at this;exact qM.mp this
     refine qW.mpr ⟨qW.mpr ⟨hA.sublist (zS _ _),hm.2,λx h1 y h2=>?_⟩,hB.drop n1,λx h1 y h2=>?_⟩
     ·have l1:=lowA x h1
      rcases mr y h2 with h2 | h2
      ·have:=uppA y h2;omega
      ·have:=geB y (qar h2);omega
     ·have hy2:=qaR h2
      rcases qM.mp h1 with h1 | h1
      ·have l1:=lowA x h1
       have:=geB y hy2;omega
      ·have l2:=uppB y h2
       rcases mr x h1 with h1 | h1
       ·have:=leA x (qaR h1);omega
       ·have:=lowB x h1;omega
   by_cases c3:As.length-k1<=n1
   ·rw[if_pos c3]
    refine wpS_bind (ZgJ C (st:=setPending st _) hk inX inY sX sY (by omega) (by omega) frst topp λr st' hm hs=>?_);exact fin r st' hm hs
   ·rw[if_neg c3]
    refine wpS_bind (ZgK C (st:=setPending st _) hk inX inY sX sY (by omega) (by omega) frst topp λr st' hm hs=>?_);exact fin r st' hm hs
end
section
variable (rk:Keyed->Int)
noncomputable def Vk (xs:Array Keyed)(i:Nat):Int:=match xs[i]? with
 | some p=>rk p
 | none=>0
noncomputable def Up (xs:Array Keyed)(lo n:Nat):Prop:=∀i j,i<=j->j<n->Vk rk xs (lo+i)<=Vk rk xs (lo+j)
noncomputable def Dn (xs:Array Keyed)(lo n:Nat):Prop:=∀i j,i<=j->j<n->Vk rk xs (lo+j)<=Vk rk xs (lo+i)
end
structure TB (st st':SortSt)(lo:Nat):Prop where
 perm:(arrOf st').toList.Perm (arrOf st).toList
 pre:∀i,i<lo->(arrOf st')[i]?=(arrOf st)[i]?
 kind:kindOf st'=kindOf st
 pend:pendingOf st'=pendingOf st
 fail:failedOf st'=failedOf st
theorem TB.refl (st:SortSt)(lo:Nat):TB st st lo:=⟨.refl _,λ_ _=>rfl,rfl,rfl,rfl⟩
theorem TB.size {st st':SortSt}{lo:Nat}(h:TB st st' lo):(arrOf st').size=(arrOf st).size:=by
 have:=h.perm.length_eq;simpa using this
section
variable {rk:Keyed->Int}
theorem Bb {xs ys:Array Keyed}{i j:Nat}(h:xs[i]?=ys[j]?):Vk rk xs i=Vk rk ys j:=by unfold Vk;rw[h]
theorem TB.bub {st st':SortSt}{lo src d:Nat}(h:TB st st' lo)(hs:src<(arrOf st').size)(hd:d<=src)(hl:lo<=src-d):TB st (setArr st' (bubble (arrOf st') src d)) lo:=by
 refine⟨(qbP.mp (bubble_perm _ _ _)).trans h.perm,λi hi=>?_,h.kind,h.pend,h.fail⟩;show(bubble (arrOf st') src d)[i]?=_;rw[getElem?_bubble hs d hd,if_neg (by omega),if_neg (by omega)];exact h.pre i hi
theorem TB.mir {st st':SortSt}{lo i j:Nat}(h:TB st st' lo)(hj:j<=(arrOf st').size)(hl:lo<=i):TB st (setArr st' (mirror (arrOf st') i j ((j-i) / 2))) lo:=by
 refine⟨(qbP.mp (mirror_perm _ _ _ _)).trans h.perm,λk hk=>?_,h.kind,h.pend,h.fail⟩;show(mirror (arrOf st') i j ((j-i) / 2))[k]?=_;rw[getElem?_mirror_all hj,if_neg (by omega)];exact h.pre k hk
theorem Zkq {xs:Array Keyed}{src d:Nat}(hs:src<xs.size)(hd:d<=src)(k:Nat):Vk rk (bubble xs src d) k=if k=src-d then Vk rk xs src else if src-d<k/\k<=src then Vk rk xs (k-1)else Vk rk xs k:=by
 have e:=getElem?_bubble hs d hd k;by_cases h1:k=src-d
 ·rw[if_pos h1]at e⊢;exact Bb e
 ·rw[if_neg h1]at e⊢
  by_cases h2:src-d<k/\k<=src
  ·rw[if_pos h2]at e⊢;exact Bb e
  ·rw[if_neg h2]at e⊢;exact Bb e
theorem ZgM {xs:Array Keyed}{i j:Nat}(hj:j<=xs.size)(k:Nat):Vk rk (mirror xs i j ((j-i) / 2)) k=if i<=k/\k<j then Vk rk xs (i+j-1-k)else Vk rk xs k:=by
 have e:=getElem?_mirror_all (i:=i) hj k;by_cases h1:i<=k/\k<j
 ·rw[if_pos h1]at e⊢;exact Bb e
 ·rw[if_neg h1]at e⊢;exact Bb e
end
section
variable {M:Model}{A:xC}{E:xD}{s:Shared}{rk:Keyed->Int}{κ:SortKind}{In:Keyed->Prop}
theorem U9 {st0 st:SortSt}{lo i j:Nat}{Q:Option Bool->SortSt->Prop}(C:WD M A E s rk κ In)(hk:kindOf st0=κ)(hin:∀x∈(arrOf st0).toList,In x)(h:TB st0 st lo)(hi:i<(arrOf st0).size)(hj:j<(arrOf st0).size)
  (q:Q (some (decide (Vk rk (arrOf st) i<Vk rk (arrOf st) j))) st):wpS M A E s (ltAt' i j) Q st:=by
 have hi':i<(arrOf st).size:=by rw[h.size];exact hi
 have hj':j<(arrOf st).size:=by rw[h.size];exact hj
 have ei:=qj hi';have ej:=qj hj';have mem:∀{k:Nat} {x:Keyed},(arrOf st)[k]?=some x->In x:=λ{k x} e=>hin x (h.perm.mem_iff.mp (zd.mpr (zp e)));rw[ltAt'_eq];refine wpS_bind (wpS_get ?_);refine wpS_bind (YU ei (wpS_bind (YU ej ?_)));refine C _ _ (mem ei) (mem ej) st _ (h.kind.trans hk) ?_;have v1:Vk rk (arrOf st) i=rk (arrOf st)[i]:=by unfold Vk;rw[ei]
 have v2:Vk rk (arrOf st) j=rk (arrOf st)[j]:=by unfold Vk;rw[ej]
 rw[v1,v2]at q;exact q
theorem ZiK {st0 st:SortSt}{lo n ok:Nat}{Q:Bool->SortSt->Prop}(C:WD M A E s rk κ In)(hk:kindOf st0=κ)(hin:∀x∈(arrOf st0).toList,In x)(hn:lo+n<=(arrOf st0).size)(hok:ok<=n)(hT:TB st0 st lo)(hs:Up rk (arrOf st) lo ok)
  (h:∀st',TB st0 st' lo->Up rk (arrOf st') lo n->Q true st'):wpS M A E s (binarySort' lo n ok) Q st:=by
 rw[binarySort'_eq];refine wpS_bind (wpS_mono (wpS_forRange (I:=λk c st'=>c=(none,())/\TB st0 st' lo/\Up rk (arrOf st') lo (min k n))
  (Q:=λc st'=>c=(none,())/\TB st0 st' lo/\Up rk (arrOf st') lo n) ?step ?fin ?init) ?post)
 case post=>
  rintro c st' ⟨rfl,hB',hs'⟩;exact wpS_pure (h st' hB' hs')
 case init=>
  refine⟨rfl,hT,λi j hij hj=>?_⟩;by_cases h1:ok=0
  ·have:i=j:=by omega
   subst this;exact yP _
  ·exact hs i j hij (by omega)
 case fin=>
  rintro c st' ⟨hc,hB',hs'⟩;refine⟨hc,hB',?_⟩
  rwa[show min (max (max ok 1) n) n=n by omega]at hs'
 case step=>
  rintro k c st' hak hkn ⟨rfl,hB',hs'⟩;rw[show min k n=k by omega]at hs';have hk':lo+k<(arrOf st0).size:=by omega
  refine wpS_bind (wpS_mono (wpS_forRange (I:=λx c st''=>st''=st'/\∃l r,c=(none,l,r)/\l<=r/\r<=k/\r-l<=k-x/\
    (∀i,i<l->Vk rk (arrOf st') (lo+i)<=Vk rk (arrOf st') (lo+k))/\(∀i,r<=i->i<k->Vk rk (arrOf st') (lo+k)<Vk rk (arrOf st') (lo+i)))
   (Q:=λc st''=>st''=st'/\∃l r,c=(none,l,r)/\l<=k/\
    (∀i,i<l->Vk rk (arrOf st') (lo+i)<=Vk rk (arrOf st') (lo+k))/\(∀i,l<=i->i<k->Vk rk (arrOf st') (lo+k)<Vk rk (arrOf st') (lo+i))) ?istep ?ifin ?iinit) ?ipost)
  case iinit=>exact⟨rfl,0,k,rfl,by omega,by omega,by omega,λi hi=>by omega,λi h1 h2=>by omega⟩
  case ifin=>
   rintro c st'' ⟨rfl,l,r,rfl,hlr,hrk,hm,hlo,hhi⟩;have:l=r:=by omega
   subst this;exact⟨rfl,l,l,rfl,hrk,hlo,hhi⟩
  case istep=>
   rintro x c st'' _ hxk ⟨e0,l,r,rfl,hlr,hrk,hm,hlo,hhi⟩;rw[e0];dsimp only;by_cases hge:l≥r
   ·rw[if_pos hge]
    have:l=r:=by omega
    subst this;exact wpS_pure ⟨rfl,l,l,rfl,hrk,hlo,hhi⟩
   ·rw[if_neg hge]
    refine wpS_bind (U9 C hk hin hB' hk' (by omega) ?_);by_cases hless:Vk rk (arrOf st') (lo+k)<Vk rk (arrOf st') (lo+(l+r) / 2)
    ·dsimp only
     rw[if_pos (decide_eq_true hless)];refine wpS_pure ⟨rfl,l,(l+r) / 2,rfl,by omega,by omega,by omega,hlo,λi h1 h2=>?_⟩;have:=hs' ((l+r) / 2) i h1 h2;omega
    ·dsimp only
     rw[if_neg (by simpa using hless)];refine wpS_pure ⟨rfl,(l+r) / 2+1,r,rfl,by omega,by omega,by omega,λi h1=>?_,hhi⟩;have:=hs' i ((l+r) / 2) (by omega) (by omega);omega
  case ipost=>
   rintro c st'' ⟨rfl,l,r,rfl,hlk,hlo,hhi⟩;show wpS _ _ _ _ (do moveDown' (lo+k) (lo+l);pure (qai (none,()))) _ _;rw[moveDown'_eq];have hks:lo+k<(arrOf st'').size:=by rw[hB'.size];exact hk'
   refine wpS_bind (wpS_modify (wpS_pure ⟨rfl,hB'.bub hks (by omega) (by omega),?_⟩));rw[show min (k+1) n=k+1 by omega];intro i j hij hj;show Vk rk (bubble (arrOf st'') (lo+k) (lo+k-(lo+l))) (lo+i)<=Vk rk (bubble (arrOf st'') (lo+k) (lo+k-(lo+l))) (lo+j);rw[Zkq hks (by omega),Zkq hks (by omega),show lo+k-(lo+k-(lo+l))=lo+l by omega];have e1:∀m,l<m->lo+m-1=lo+(m-1):=λm hm=>by omega
   by_cases i1:i=l
   ·subst i1
    rw[if_pos rfl];by_cases j1:j=i
    ·rw[if_pos (by omega)];exact yP _
    ·rw[if_neg (by omega),if_pos (by omega),e1 j (by omega)]
     exact yH (hhi _ (by omega) (by omega))
   ·rw[if_neg (by omega)]
    by_cases i2:l<i
    ·rw[if_pos (by omega),if_neg (by omega),if_pos (by omega),e1 i i2,e1 j (by omega)]
     exact hs' _ _ (by omega) (by omega)
    ·rw[if_neg (by omega)]
     by_cases j1:j=l
     ·rw[if_pos (by omega)];exact hlo i (by omega)
     ·rw[if_neg (by omega)]
      by_cases j2:l<j
      ·rw[if_pos (by omega),e1 j j2]
       exact hs' i (j-1) (by omega) (by omega)
      ·rw[if_neg (by omega)]
       exact hs' i j hij (by omega)
end
section
variable {M:Model}{A:xC}{E:xD}{s:Shared}{rk:Keyed->Int}{κ:SortKind}{In:Keyed->Prop}
theorem ZbL {xs:Array Keyed}{i j:Nat}{c:Int}(hj:j<=xs.size)(he:∀k,i<=k->k<j->Vk rk xs k=c)(k:Nat):Vk rk (mirror xs i j ((j-i) / 2)) k=Vk rk xs k:=by
 rw[ZgM hj];split
 ·rw[he _ (by omega) (by omega),he k (by omega) (by omega)]
 ·rfl
theorem ZeD {st:SortSt}{i j:Nat}{F:Unit->SortSt->Prop}(h:F () (setArr st (mirror (arrOf st) i j ((j-i) / 2)))):wpS M A E s (reverseSlice' i j) F st:=by
 rw[reverseSlice'_eq];exact wpS_modify h
theorem Up.next {xs:Array Keyed}{lo x:Nat}(h:Up rk xs lo x)(hx:1<=x)(hv:¬Vk rk xs (lo+x)<Vk rk xs (lo+x-1)):Up rk xs lo (x+1):=λi j hij hj=>by
 by_cases hjx:j<x
 ·exact h i j hij hjx
 ·have e:j=x:=by omega
  subst e;by_cases hi:i=j
  ·subst hi;exact yP _
  ·have:=h i (j-1) (by omega) (by omega)
   rw[show lo+(j-1)=lo+j-1 by omega]at this;omega
theorem Dn.next {xs:Array Keyed}{lo x:Nat}(h:Dn rk xs lo x)(hx:1<=x)(hv:Vk rk xs (lo+x)<=Vk rk xs (lo+x-1)):Dn rk xs lo (x+1):=λi j hij hj=>by
 by_cases hjx:j<x
 ·exact h i j hij hjx
 ·have e:j=x:=by omega
  subst e;by_cases hi:i=j
  ·subst hi;exact yP _
  ·have:=h i (j-1) (by omega) (by omega)
   rw[show lo+(j-1)=lo+j-1 by omega]at this;omega
theorem Dn.flip {xs:Array Keyed}{lo n:Nat}(h:Dn rk xs lo n)(hn:lo+n<=xs.size):Up rk (mirror xs lo (lo+n) ((lo+n-lo) / 2)) lo n:=λi j hij hj=>by
 rw[ZgM hn,ZgM hn,if_pos (by omega),if_pos (by omega),show lo+(lo+n)-1-(lo+i)=lo+(n-1-i) by omega,show lo+(lo+n)-1-(lo+j)=lo+(n-1-j) by omega];exact h _ _ (by omega) (by omega)
set_option hygiene false in
local macro_rules | `(tactic| walk_at "upTail")=>`(tactic| (
  refine wpS_bind (ZeD ?_);have hT3:=hT2.mir (i:=lo) (j:=lo+m) (by rw[hT2.size];omega) (qq _);have hU3:=hD2.flip (by rw[hT2.size];omega);refine wpS_bind (wpS_mono (wpS_forRange (I:=λx c st'=>c=(none,x)/\TB st0 st' lo/\Up rk (arrOf st') lo x) (Q:=λc st'=>∃m,c=(none,m)/\1<=m/\m<=nrem/\TB st0 st' lo/\Up rk (arrOf st') lo m) ?stepU ?finU ⟨rfl,hT3,hU3⟩) ?postU)
  case postU=>
   rintro c st' ⟨m,rfl,a1,a2,a3,a4⟩;exact wpS_pure (h m st' a3 a1 a2 a4)
  case finU=>
   rintro c st' ⟨rfl,a1,a2⟩;rw[show max m nrem=nrem by omega]at a2⊢;exact⟨nrem,rfl,by omega,qq _,a1,a2⟩
  case stepU=>
   rintro x c st' hax hxn ⟨rfl,a1,a2⟩;dsimp only;refine wpS_bind (U9 C hk hin a1 (by omega) (by omega) ?_);dsimp only;by_cases w:Vk rk (arrOf st') (lo+x)<Vk rk (arrOf st') (lo+x-1)
   ·rw[if_pos (decide_eq_true w)]
    exact wpS_pure ⟨x,rfl,by omega,by omega,a1,a2⟩
   ·rw[if_neg (by simpa using w)]
    exact wpS_pure ⟨rfl,a1,a2.next (by omega) w⟩))
set_option hygiene false in
local macro_rules | `(tactic| walk_at "descT")=>`(tactic| (
  refine wpS_bind (wpS_lift (wpAny_rule ⟨rfl,?_⟩));refine wpS_bind (wpS_mono (wpS_forRange (I:=λx c st'=>∃neq,c=(none,x,neq)/\TB st0 st' lo/\Dn rk (arrOf st') lo x/\neq+1<=x/\(∀k,lo+x-(neq+1)<=k->k<lo+x->Vk rk (arrOf st') k=Vk rk (arrOf st') (lo+x-1)))
   (Q:=λc st'=>∃m neq,c=(none,m,neq)/\1<=m/\m<=nrem/\TB st0 st' lo/\Dn rk (arrOf st') lo m/\neq+1<=m/\(∀k,lo+m-(neq+1)<=k->k<lo+m->Vk rk (arrOf st') k=Vk rk (arrOf st') (lo+m-1))) ?stepD ?finD ⟨0,rfl,hTd,hDd,by omega,λk h1 h2=>by congr 1;omega⟩) ?postD)
  case finD=>
   rintro c st' ⟨neq,rfl,a1,a2,a3,a4⟩;rw[show max (n+1) nrem=nrem by omega]at a2 a3 a4⊢;exact⟨nrem,neq,rfl,by omega,qq _,a1,a2,a3,a4⟩
  case stepD=>
   rintro x c st' hax hxn ⟨neq,rfl,a1,a2,a3,a4⟩;dsimp only;refine wpS_bind (U9 C hk hin a1 (by omega) (by omega) ?_);dsimp only;by_cases w:Vk rk (arrOf st') (lo+x)<Vk rk (arrOf st') (lo+x-1)
   ·rw[if_pos (decide_eq_true w)]
    have up:=a2.next (by omega) (yH w);by_cases hq:neq > 0
    ·rw[if_pos hq]
     refine wpS_bind (ZeD ?_);have hm:=ZbL (xs:=arrOf st') (i:=lo+x-(neq+1)) (j:=lo+x) (by rw[a1.size];omega) a4;exact wpS_pure ⟨0,rfl,a1.mir (by rw[a1.size];omega) (by omega),λi j hij hj=>by
      show Vk rk (mirror _ _ _ _) _<=Vk rk (mirror _ _ _ _) _;rw[hm,hm];exact up i j hij hj,by omega,λk h1 h2=>by congr 1;omega⟩
    ·rw[if_neg hq]
     exact wpS_pure ⟨0,rfl,a1,up,by omega,λk h1 h2=>by congr 1;omega⟩
   ·rw[if_neg (by simpa using w)]
    refine wpS_bind (U9 C hk hin a1 (by omega) (by omega) ?_);dsimp only;by_cases w2:Vk rk (arrOf st') (lo+x-1)<Vk rk (arrOf st') (lo+x)
    ·rw[if_pos (decide_eq_true w2)]
     exact wpS_pure ⟨x,neq,rfl,by omega,by omega,a1,a2,a3,a4⟩
    ·rw[if_neg (by simpa using w2)]
     have eq:Vk rk (arrOf st') (lo+x)=Vk rk (arrOf st') (lo+x-1):=by omega
     refine wpS_pure ⟨neq+1,rfl,a1,a2.next (by omega) (by omega),by omega,λk h1 h2=>?_⟩;rw[show lo+(x+1)-1=lo+x by omega];by_cases hkx:k=lo+x
     ·rw[hkx]
     ·rw[eq];exact a4 k (by omega) (by omega)
  case postD=>
   rintro c stD ⟨m,neq,rfl,b1,b2,hT1,hD1,b3,b4⟩;dsimp only;by_cases hq:neq > 0
   ·rw[if_pos hq]
    refine wpS_bind (ZeD ?_);have hm:=ZbL (xs:=arrOf stD) (i:=lo+m-(neq+1)) (j:=lo+m) (by rw[hT1.size];omega) b4;have hT2:=hT1.mir (i:=lo+m-(neq+1)) (j:=lo+m) (by rw[hT1.size];omega) (by omega);have hD2:Dn rk (arrOf (setArr stD (mirror (arrOf stD) (lo+m-(neq+1)) (lo+m) ((lo+m-(lo+m-(neq+1))) / 2)))) lo m:=λi j hij hj=>by
     show Vk rk (mirror _ _ _ _) _<=Vk rk (mirror _ _ _ _) _;rw[hm,hm];exact hD1 i j hij hj
    generalize setArr stD (mirror (arrOf stD) (lo+m-(neq+1)) (lo+m) ((lo+m-(lo+m-(neq+1))) / 2))=stE at hT2 hD2⊢
    walk_at "upTail"
   ·rw[if_neg hq]
    have hT2:=hT1;have hD2:=hD1
    walk_at "upTail"))
theorem Zkr {st0 st:SortSt}{lo nrem:Nat}{Q:Option Nat->SortSt->Prop}(C:WD M A E s rk κ In)(hk:kindOf st0=κ)(hin:∀x∈(arrOf st0).toList,In x)(hn:lo+nrem<=(arrOf st0).size)(h1:1<=nrem)(hT:TB st0 st lo)
  (h:∀m st',TB st0 st' lo->1<=m->m<=nrem->Up rk (arrOf st') lo m->Q (some m) st'):wpS M A E s (countRun' lo nrem) Q st:=by
 rw[countRun'_eq];refine wpS_bind (wpS_mono (wpS_forRange (I:=λx c st'=>st'=st/\c=(none,x)/\Up rk (arrOf st) lo x)
  (Q:=λc st'=>st'=st/\∃n,c=(none,n)/\1<=n/\n<=nrem/\Up rk (arrOf st) lo n/\(n=nrem∨Vk rk (arrOf st) (lo+n)<Vk rk (arrOf st) (lo+n-1))) ?step ?fin ⟨rfl,rfl,λi j hij hj=>by
   have:i=j:=by omega
   subst this;exact yP _⟩) ?post)
 case fin=>
  rintro c st' ⟨rfl,rfl,a⟩;rw[show max 1 nrem=nrem by omega]at a⊢;exact⟨rfl,nrem,rfl,h1,qq _,a,.inl rfl⟩
 case step=>
  rintro x c st' hax hxn ⟨e0,rfl,a⟩;rw[e0];dsimp only;refine wpS_bind (U9 C hk hin hT (by omega) (by omega) ?_);dsimp only;by_cases w:Vk rk (arrOf st) (lo+x)<Vk rk (arrOf st) (lo+x-1)
  ·rw[if_pos (decide_eq_true w)]
   exact wpS_pure ⟨rfl,x,rfl,hax,by omega,a,.inr w⟩
  ·rw[if_neg (by simpa using w)]
   exact wpS_pure ⟨rfl,rfl,a.next hax w⟩
 case post=>
  rintro c st' ⟨e0,n,rfl,n1,n2,a,hor⟩;rw[e0];dsimp only;by_cases Wm:n=nrem
  ·rw[if_pos (by simpa using Wm)]
   exact wpS_pure (h n st hT n1 n2 a)
  ·rw[if_neg (by simpa using Wm)]
   have hlt:=hor.resolve_left Wm;have hn1:n+1<=nrem:=by omega
   by_cases hgt:n > 1
   ·rw[if_pos hgt]
    refine wpS_bind (U9 C hk hin hT (by omega) (by omega) ?_);dsimp only;by_cases rose:Vk rk (arrOf st) lo<Vk rk (arrOf st) (lo+n-1)
    ·rw[if_pos (decide_eq_true rose)]
     exact wpS_pure (h n st hT n1 n2 a)
    ·rw[if_neg (by simpa using rose)]
     refine wpS_bind (ZeD ?_);have hall:∀k,lo<=k->k<lo+n->Vk rk (arrOf st) k=Vk rk (arrOf st) lo:=λk h1 h2=>by
      have a1:=a 0 (k-lo) (by omega) (by omega);have a2:=a (k-lo) (n-1) (by omega) (by omega);rw[qb1,show lo+(k-lo)=k by omega]at a1;rw[show lo+(k-lo)=k by omega,show lo+(n-1)=lo+n-1 by omega]at a2;omega
     have hm:=ZbL (xs:=arrOf st) (i:=lo) (j:=lo+n) (by rw[hT.size];omega) hall;have hTd:=hT.mir (i:=lo) (j:=lo+n) (by rw[hT.size];omega) (qq _);have hDd:Dn rk (arrOf (setArr st (mirror (arrOf st) lo (lo+n) ((lo+n-lo) / 2)))) lo (n+1):=λi j hij hj=>by
      show Vk rk (mirror _ _ _ _) _<=Vk rk (mirror _ _ _ _) _;rw[hm,hm];have v1:=hall (lo+n-1) (by omega) (by omega);by_cases hjn:j<n
      ·rw[hall (lo+j) (by omega) (by omega),hall (lo+i) (by omega) (by omega)];exact yP _
      ·have ej:j=n:=by omega
       subst ej;by_cases hi:i=j
       ·subst hi;exact yP _
       ·rw[hall (lo+i) (by omega) (by omega)];omega
     generalize setArr st (mirror (arrOf st) lo (lo+n) ((lo+n-lo) / 2))=stx at hTd hDd⊢
     walk_at "descT"
   ·rw[if_neg hgt]
    have hn0:n=1:=by omega
    have hTd:=hT;have hDd:Dn rk (arrOf st) lo (n+1):=by
     subst hn0;exact Dn.next (λi j hij hj=>by
      have:i=j:=by omega
      subst this;exact yP _) (qq _) (yH hlt)
    walk_at "descT"
end
noncomputable def Pd:Nat->List (Nat×Nat×Nat)->List (List Keyed)->Prop
 | _,[],[]=>True
 | off,x::ps,r::rs=>x.1=off/\x.2.1=r.length/\Pd (off+r.length) ps rs
 | _,_,_=>False
theorem Pd.len:∀{off:Nat} {ps:List (Nat×Nat×Nat)} {rs:List (List Keyed)},Pd off ps rs->ps.length=rs.length
 | _,[],[],_=>rfl
 | _,_::_,_::_,h=>by rw[qO,qO,Pd.len h.2.2]
 | _,[],_::_,h=>h.elim
 | _,_::_,[],h=>h.elim
theorem Pd.push {x:Nat×Nat×Nat}{r:List Keyed}:∀{off:Nat} {ps:List (Nat×Nat×Nat)} {rs:List (List Keyed)},Pd off ps rs->x.1=off+rs.flatten.length->x.2.1=r.length->Pd off (ps ++ [x]) (rs ++ [r])
 | off,[],[],_,h1,h2=>⟨by simpa using h1,h2,trivial⟩
 | off,y::ps,q::rs,h,h1,h2=>by
  refine⟨h.1,h.2.1,Pd.push h.2.2 ?_ h2⟩;rw[h1];simp;omega
 | _,[],_::_,h,_,_=>h.elim
 | _,_::_,[],h,_,_=>h.elim
theorem Pd.modify {pw:Nat}:∀{off:Nat} {ps:List (Nat×Nat×Nat)} {rs:List (List Keyed)} (k:Nat),Pd off ps rs->Pd off (ps.modify k λx=>(x.1,x.2.1,pw)) rs
 | off,[],[],k,h=>by cases k <;> exact h
 | off,y::ps,q::rs,0,h=>⟨h.1,h.2.1,h.2.2⟩
 | off,y::ps,q::rs,k+1,h=>⟨h.1,h.2.1,Pd.modify k h.2.2⟩
 | _,[],_::_,_,h=>h.elim
 | _,_::_,[],_,h=>h.elim
theorem Pd.at:∀{off:Nat} {ps:List (Nat×Nat×Nat)} {rs:List (List Keyed)} (i:Nat),Pd off ps rs->i+1<ps.length->∃rs1 As Bs rs2 p q,rs=rs1++As::Bs::rs2/\ps[i]?=some (off+rs1.flatten.length,As.length,p)/\ps[i+1]?=some (off+rs1.flatten.length+As.length,Bs.length,q)/\∀Ms:List Keyed,Ms.length=As.length+Bs.length->Pd off ((ps.set i (off+rs1.flatten.length,As.length+Bs.length,p)).eraseIdx (i+1)) (rs1++Ms::rs2)
 | off,x::y::ps,a::b::rs,0,h,_=>by
  obtain⟨h1,h2,h3,h4,h5⟩:=h;refine⟨[],a,b,rs,x.2.2,y.2.2,rfl,?_,?_,λMs hm=>⟨by simp,hm.symm,?_⟩⟩
  ·simp[<-h1,<-h2]
  ·simp[<-h3,<-h4]
  ·rw[hm,<-qaX];exact h5
 | off,x::ps,a::rs,i+1,h,hi=>by
  obtain⟨h1,h2,h3⟩:=h;obtain⟨rs1,As,Bs,rs2,p,q,e,e1,e2,k⟩:=Pd.at i h3 (by simpa using hi);refine⟨a::rs1,As,Bs,rs2,p,q,by rw[e];rfl,?_,?_,λMs hm=>?_⟩
  ·simp only[qcf,qaI,qE]
   rw[e1,qaX]
  ·simp only[qcf,qaI,qE]
   rw[e2,qaX off]
  ·have:=k Ms hm
   simp only[qaI,qE,List.set_cons_succ,qcg,qbq];rw[<-qaX];exact⟨h1,h2,this⟩
 | off,[x],a::rs,0,h,hi=>by simp at hi
 | off,x::y::ps,[a],0,h,_=>h.2.2.elim
 | _,[],_,_,_,hi=>by simp at hi
 | _,_::_,[],_,h,_=>h.elim
section
variable {M:Model}{A:xC}{E:xD}{s:Shared}{rk:Keyed->Int}{κ:SortKind}{In:Keyed->Prop}{a₀:List Keyed}
structure SI (rk:Keyed->Int)(κ:SortKind)(a₀:List Keyed)(st:SortSt)(runs:List (List Keyed))(R:List Keyed):Prop where
 e:(arrOf st).toList=runs.flatten++R
 pd:Pd 0 (pendingOf st).toList runs
 ok:∀r∈runs,SL rk r/\0<r.length
 perm:(arrOf st).toList.Perm a₀
 kind:kindOf st=κ
 fail:failedOf st=none
theorem SI.psize {st:SortSt}{runs:List (List Keyed)}{R:List Keyed}(h:SI rk κ a₀ st runs R):(pendingOf st).size=runs.length:=by
 rw[<-h.pd.len,qy]
theorem Zc3 {st:SortSt}{runs:List (List Keyed)}{R:List Keyed}{i:Nat}{Q:Bool->SortSt->Prop}(C:WD M A E s rk κ In)(hin:∀x∈a₀,In x)(h:SI rk κ a₀ st runs R)(hi:i+1<(pendingOf st).size)
  (k:∀st' runs',SI rk κ a₀ st' runs' R->runs'.length+1=runs.length->runs'.flatten.length=runs.flatten.length->Q true st'):wpS M A E s (mergeAt' i) Q st:=by
 obtain⟨rs1,As,Bs,rs2,p,q,e,e1,e2,kk⟩:=Pd.at i h.pd (by simpa using hi);rw[yS]at e1 e2 kk;have oA:=h.ok As (by rw[e];simp);have oB:=h.ok Bs (by rw[e];simp);refine ZgL (P:=rs1.flatten) (As:=As) (Bs:=Bs) (R:=rs2.flatten++R) C h.kind h.fail (λx hx=>hin x (h.perm.mem_iff.mp hx)) (by rw[<-qB];exact e1) (by rw[<-qB];exact e2) (by rw[h.e,e];simp) oA.1 oB.1 oA.2 oB.2 λst' Ms h1 h2 h3 h4 h5 h6=>?_;have hml:Ms.length=As.length+Bs.length:=by rw[h2.length_eq,qE]
 refine k st' (rs1++Ms::rs2) ⟨by rw[h1];simp,?_,λr hr=>?_,?_,h4,h5⟩ ?_ ?_
 ·rw[h6]
  have:=kk Ms hml;simpa using this
 ·rcases qM.mp hr with hr | hr
  ·exact h.ok r (by rw[e];simp[hr])
  ·rcases qu.mp hr with rfl | hr
   ·exact⟨h3,by rw[hml];omega⟩
   ·exact h.ok r (by rw[e];simp[hr])
 ·refine qa6.trans ?_ h.perm
  rw[h1,h.e,e];have:(Ms++(rs2.flatten++R)).Perm (As++Bs++(rs2.flatten++R)):=h2.append_right _;have:=this.append_left rs1.flatten;simpa using this
 ·rw[e];simp;omega
 ·rw[e];simp[hml];omega
theorem ZmB {arr:Array Keyed}{F R:List Keyed}{n:Nat}(e:arr.toList=F++R)(h:Up rk arr F.length n)(hn:n<=R.length):SL rk (R.take n):=by
 have at':∀{j:Nat} (hj:j<R.length),Vk rk arr (F.length+j)=rk R[j]:=λ{j} hj=>by
  unfold Vk;rw[<-qB,e,zU (by omega),show F.length+j-F.length=j by omega,qw hj]
 refine zM.mpr λi j hi hj hij=>?_;rw[qZ]at hi hj;have:=h i j (by omega) (by omega);rw[at' (by omega),at' (by omega)]at this;rw[List.getElem_take,List.getElem_take];exact this
theorem SI.push {st:SortSt}{runs:List (List Keyed)}{R:List Keyed}{n:Nat}(h:SI rk κ a₀ st runs R)(hs:SL rk (R.take n))(h1:1<=n)(hn:n<=R.length):SI rk κ a₀ (setPending st ((pendingOf st).push (runs.flatten.length,n,0))) (runs ++ [R.take n]) (R.drop n):=by
 refine⟨?_,?_,λr hr=>?_,h.perm,h.kind,h.fail⟩
 ·show(arrOf st).toList=_
  rw[h.e];simp
 ·show Pd 0 ((pendingOf st).push (runs.flatten.length,n,0)).toList _
  rw[zf];exact h.pd.push (by simp) (by rw[qZ];show n=_;omega)
 ·rcases qM.mp hr with hr | hr
  ·exact h.ok r hr
  ·rw[qJ.mp hr]
   exact⟨hs,by rw[qZ];omega⟩
theorem SI.power {st:SortSt}{runs:List (List Keyed)}{R:List Keyed}{k pw:Nat}(h:SI rk κ a₀ st runs R):SI rk κ a₀ (setPending st ((pendingOf st).modify k λx=>(x.1,x.2.1,pw))) runs R:=by
 refine⟨h.e,?_,h.ok,h.perm,h.kind,h.fail⟩;show Pd 0 ((pendingOf st).modify k λx=>(x.1,x.2.1,pw)).toList _;rw[Array.toList_modify];exact h.pd.modify k
theorem SI.fresh {st st':SortSt}{runs:List (List Keyed)}{R:List Keyed}(h:SI rk κ a₀ st runs R)(t:TB st st' runs.flatten.length):SI rk κ a₀ st' runs ((arrOf st').toList.drop runs.flatten.length):=by
 have ep:(arrOf st').toList.take runs.flatten.length=runs.flatten:=by
  apply qan;intro i;by_cases hi:i<runs.flatten.length
  ·rw[zP hi,qB,t.pre i hi,<-qB,h.e,zC hi]
  ·rw[yb (by rw[qZ];omega),yb (by omega)]
 refine⟨?_,by rw[t.pend];exact h.pd,h.ok,t.perm.trans h.perm,t.kind.trans h.kind,t.fail.trans h.fail⟩
 conv=>lhs;rw[<-zj runs.flatten.length (arrOf st').toList]
 rw[ep]
theorem SI.le {st:SortSt}{runs:List (List Keyed)}{R:List Keyed}(h:SI rk κ a₀ st runs R):runs.length<=runs.flatten.length:=by
 have:∀rs:List (List Keyed),(∀r∈rs,SL rk r/\0<r.length)->rs.length<=rs.flatten.length:=by
  intro rs
  induction rs with
  | nil=>intro _;simp
  | cons r rs ih=>
   intro hr;have h1:=ih λq hq=>hr q (by simp[hq]);have h2:=(hr r (by simp)).2;simp only[qO,qaI,qE];omega
 exact this runs h.ok
end
section
variable {M:Model}{A:xC}{E:xD}{s:Shared}{rk:Keyed->Int}{κ:SortKind}{In:Keyed->Prop}{a₀:List Keyed}
set_option hygiene false in
local macro_rules | `(tactic| walk_at "runEnd")=>`(tactic| (
  have yes:∀st4 runs4,SI rk κ a₀ st4 runs4 R3->runs4.flatten.length=runs.flatten.length->∃lo' runs' R',((none:Option PUnit),runs.flatten.length+nn)=(none,lo')/\SI rk κ a₀ (setPending st4 ((pendingOf st4).push (runs.flatten.length,nn,0))) runs' R'/\runs'.flatten.length=lo'/\x+1<=lo'/\lo'<=(arrOf st).size:=λst4 runs4 h4 e4=>by
   have hp4:=h4.push hS3 n1 n2;rw[e4]at hp4;refine⟨_,_,_,rfl,hp4,?_,by omega,by omega⟩;simp only[List.flatten_append,qE,qaI,List.flatten_nil,zr,qZ];omega
  refine wpS_bind (wpS_get ?_);split
  ·refine wpS_bind (wpS_mono (wpS_forRange (I:=λy c st4=>c=(none,())/\∃runs4,SI rk κ a₀ st4 runs4 R3/\runs4.flatten.length=runs.flatten.length)
    (Q:=λc st4=>c=(none,())/\∃runs4,SI rk κ a₀ st4 runs4 R3/\runs4.flatten.length=runs.flatten.length) ?stepM ?finM ⟨rfl,runs,h3,rfl⟩) ?postM)
   case finM=>exact λc st4 z=>z
   case postM=>
    rintro c st4 ⟨rfl,runs4,h4,e4⟩;dsimp only;refine wpS_bind (wpS_modify (wpS_bind (wpS_modify (wpS_pure ?_))));exact yes _ runs4 h4.power e4
   case stepM=>
    rintro y c st4 _ hy ⟨rfl,runs4,h4,e4⟩
    try dsimp only
    refine wpS_bind (wpS_get ?_);by_cases g0:(pendingOf st4).size > 1
    ·rw[if_pos g0]
     split
     ·split
      ·exact wpS_pure ⟨rfl,runs4,h4,e4⟩
      ·refine wpS_bind (Zc3 C hin h4 (by omega) λst5 runs5 h5 l5 e5=>?_)
       simp only[yW,qU,if_false];exact wpS_pure ⟨rfl,runs5,h5,e5.trans e4⟩
     ·exact wpS_pure ⟨rfl,runs4,h4,e4⟩
    ·rw[if_neg g0]
     exact wpS_pure ⟨rfl,runs4,h4,e4⟩
  ·refine wpS_bind (wpS_modify (wpS_pure ?_))
   exact yes _ runs h3 rfl))
theorem ZfH {st:SortSt}{Q:Unit->SortSt->Prop}(C:WD M A E s rk κ In)(hin:∀x∈a₀,In x)(hp:(arrOf st).toList.Perm a₀)(hk:kindOf st=κ)(hf:failedOf st=none)(hpe:pendingOf st = #[])
  (k:∀st',(arrOf st').toList.Perm a₀->SL rk (arrOf st').toList->failedOf st'=none->Q () st'):wpS M A E s sortRuns' Q st:=by
 rw[sortRuns'_eq];refine wpS_bind (wpS_get ?_);dsimp only;have hsz:∀{st':SortSt} {runs:List (List Keyed)} {R:List Keyed},SI rk κ a₀ st' runs R->(arrOf st').size=(arrOf st).size:=λ{st' runs R} h=>by
  have h1:=h.perm.length_eq;have h2:=hp.length_eq;simp only[qy]at h1 h2;omega
 have S0:SI rk κ a₀ st [] (arrOf st).toList:=⟨by simp,by rw[hpe];trivial,λr hr=>by simp at hr,hp,hk,hf⟩;generalize minRun' (arrOf st).size (arrOf st).size 0=mr;refine wpS_bind (wpS_mono (wpS_forRange (I:=λx c st'=>∃lo runs R,c=(none,lo)/\SI rk κ a₀ st' runs R/\runs.flatten.length=lo/\x<=lo/\lo<=(arrOf st).size)
  (Q:=λc st'=>∃runs R,c=(none,(arrOf st).size)/\SI rk κ a₀ st' runs R/\runs.flatten.length=(arrOf st).size) ?step ?fin ⟨0,[],_,rfl,S0,rfl,qq _,zB _⟩) ?post)
 case fin=>
  rintro c st' ⟨lo,runs,R,rfl,h,h1,h2,h3⟩;have:lo=(arrOf st).size:=by omega
  subst this;exact⟨runs,R,rfl,h,h1⟩
 case step=>
  rintro x c jT _ hx ⟨lo,runs,R,rfl,h,h1,h2,h3⟩;dsimp only;by_cases c0:lo≥(arrOf st).size
  ·rw[if_pos c0]
   have:lo=(arrOf st).size:=by omega
   subst this;exact wpS_pure ⟨runs,R,rfl,h,h1⟩
  ·rw[if_neg c0]
   have hs1:=hsz h;have hin1:∀x∈(arrOf jT).toList,In x:=λx hx=>hin x (h.perm.mem_iff.mp hx);refine wpS_bind (Zkr C h.kind hin1 (by omega) (by omega) (TB.refl jT lo) λm jP t2 m1 m2 u2=>?_);dsimp only;subst h1;have hRl:∀{st3:SortSt},TB jT st3 runs.flatten.length->((arrOf st3).toList.drop runs.flatten.length).length=(arrOf st).size-runs.flatten.length:=λ{st3} t=>by
    rw[zX,qy,t.size,hs1]
   by_cases cm:m<mr
   ·rw[if_pos cm]
    refine wpS_bind (wpS_lift (wpAny_rule ⟨rfl,?_⟩));refine wpS_bind (ZiK C h.kind hin1 (by omega) (by omega) t2 u2 λst3 t3 u3=>?_);simp only[yW,qU,if_false];have h3:=h.fresh t3;have hl3:=hRl t3;have n2:min ((arrOf st).size-runs.flatten.length) mr<=((arrOf st3).toList.drop runs.flatten.length).length:=by omega
    have hS3:=ZmB h3.e u3 n2;have n1:1<=min ((arrOf st).size-runs.flatten.length) mr:=by omega
    generalize (arrOf st3).toList.drop runs.flatten.length=R3 at h3 hl3 n2 hS3;generalize min ((arrOf st).size-runs.flatten.length) mr=nn at n1 n2 hS3⊢
    walk_at "runEnd"
   ·rw[if_neg cm]
    have h3:=h.fresh t2;have hl3:=hRl t2;have n2:m<=((arrOf jP).toList.drop runs.flatten.length).length:=by omega
    have hS3:=ZmB h3.e u2 n2;have n1:=m1;generalize (arrOf jP).toList.drop runs.flatten.length=R3 at h3 hl3 n2 hS3;generalize m=nn at n1 n2 hS3⊢
    walk_at "runEnd"
 case post=>
  rintro c jT ⟨runs,R,rfl,h,h1⟩;dsimp only;refine wpS_bind (wpS_mono (wpS_forRange (I:=λy c st4=>c=(none,())/\∃runs4,SI rk κ a₀ st4 runs4 R/\runs4.flatten.length=(arrOf st).size/\(runs4.length<=1∨runs4.length+y<=(arrOf st).size))
   (Q:=λc st4=>c=(none,())/\∃runs4,SI rk κ a₀ st4 runs4 R/\runs4.flatten.length=(arrOf st).size/\runs4.length<=1) ?stepF ?finF ⟨rfl,runs,h,h1,.inr (by have:=h.le;omega)⟩) ?postF)
  case finF=>
   rintro c st4 ⟨rfl,runs4,h4,e4,l4⟩;exact⟨rfl,runs4,h4,e4,by omega⟩
  case postF=>
   rintro c st4 ⟨rfl,runs4,h4,e4,l4⟩;dsimp only;refine wpS_pure (k st4 h4.perm ?_ h4.fail);have hs4:=hsz h4;have hl:=congrArg qbk h4.e;rw[qE,qy]at hl;have hR:R=[]:=yE.mp (by omega);rw[h4.e,hR,zr]
   cases runs4 with
   | nil=>exact yn
   | cons r rs=>
    have:rs=[]:=by simpa using l4
    subst this;have:=(h4.ok r (by simp)).1;simpa using this
  case stepF=>
   rintro y c st4 _ hy ⟨rfl,runs4,h4,e4,l4⟩;have ps:=h4.psize
   try dsimp only
   refine wpS_bind (wpS_get ?_);by_cases g0:(pendingOf st4).size<=1
   ·rw[if_pos g0]
    exact wpS_pure ⟨rfl,runs4,h4,e4,by omega⟩
   ·rw[if_neg g0]
    refine wpS_bind (Zc3 C hin h4 ?_ λst5 runs5 h5 l5 e5=>?_)
    ·repeat' split
     all_goals omega
    ·simp only[yW,qU,if_false]
     exact wpS_pure ⟨rfl,runs5,h5,e5.trans e4,by omega⟩
end
open L2 TS
theorem ZfI:∀{xs:List Value} {a b:List Int},IntsAre xs a->IntsAre xs b->a=b
 | _,_,_,.nil,.nil=>rfl
 | _,_,_,.cons n t h,k=>by
  cases k with
  | cons _ _ k=>rw[ZfI h k]
theorem ZlV {h:Heap}{v:Value}{a b:List Int}(x:Yr h v a)(y:Yr h v b):a=b:=by
 obtain⟨p,xs,rfl,⟨o,h1,h2,n,h3⟩,i1⟩:=x;obtain⟨q,ys,e,⟨o',k1,k2,m,k3⟩,i2⟩:=y
 cases e
 rw[h1]at k1;cases k1;rw[h3]at k3;injection k3 with e1 e2;have:xs=ys:=by simpa using congrArg qcT e1
 subst this;exact ZfI i1 i2
open Classical in
noncomputable def VV (h:Heap)(v:Value):List Int:=if x:∃ns,Yr h v ns then x.choose else []
theorem VH {h:Heap}{v:Value}{ns:List Int}(x:Yr h v ns):VV h v=ns:=by
 have hx:∃ns,Yr h v ns:=⟨ns,x⟩;unfold VV;rw[dif_pos hx];exact ZlV hx.choose_spec x
noncomputable def JG (jI:List (List Int))(h:Heap)(p:Keyed):Int:=((jI.filter λm=>Yt m (VV h p.1)).length:Nat)
theorem ZhB {jI:List (List Int)}{a b:List Int}(ha:a∈jI)(h:Yt a b=true):(jI.filter λm=>Yt m a).length<(jI.filter λm=>Yt m b).length:=by
 have sub:∀(l:List (List Int)),(l.filter λm=>Yt m a).length<=(l.filter λm=>Yt m b).length/\(a∈l->(l.filter λm=>Yt m a).length<(l.filter λm=>Yt m b).length):=by
  intro l
  induction l with
  | nil=>exact⟨qq _,λz=>by simp at z⟩
  | cons c l ih=>
   obtain⟨i1,i2⟩:=ih;have step:Yt c a=true->Yt c b=true:=λz=>Zcx _ _ _ z h;constructor
   ·cases q:Yt c a with
    | true=>simp only[yz,q,step q,if_true,qO];omega
    | false=>
     simp only[yz,q,qU,if_false];split
     ·simp only[qO];omega
     ·exact i1
   ·intro z
    rcases qu.mp z with rfl | z
    ·simp only[yz,ZcX,qU,if_false,h,if_true,qO];omega
    ·have:=i2 z
     cases q:Yt c a with
     | true=>simp only[yz,q,step q,if_true,qO];omega
     | false=>
      simp only[yz,q,qU,if_false];split
      ·simp only[qO];omega
      ·exact this
 exact(sub jI).2 ha
theorem ZfJ {jI:List (List Int)}{h:Heap}{x y:Keyed}{a b:List Int}(hx:Yr h x.1 a)(hy:Yr h y.1 b)(ha:a∈jI)(hb:b∈jI):decide (JG jI h x<JG jI h y)=Yt a b:=by
 unfold JG;rw[VH hx,VH hy]
 cases q:Yt a b with
 | true=>
  have:=ZhB ha q;exact decide_eq_true (by omega)
 | false=>
  refine decide_eq_false ?_;by_cases e:a=b
  ·subst e;omega
  ·have:=ZhB hb (Be _ _ e q)
   omega
section
variable {prog:xB}{w:World}{A:xC}{E:xD}{s:Shared}
theorem cmpT (jI:List (List Int)):WD (xz prog w) A E s (JG jI s.heap) (tuples' true) (λp=>∃ns∈jI,Yr s.heap p.1 ns):=λx y ⟨a,ha,hx⟩ ⟨b,hb,hy⟩ st F hk q=>by
 rw[lt'_eq];refine wpS_bind (wpS_get ?_);rw[hk];refine wpS_bind (wpS_lift (wpAny_attempt (Zoo hx hy ⟨rfl,?_⟩)));refine wpS_pure ?_;rw[ZfJ hx hy ha hb]at q;exact q
theorem U0 {h:Heap}:∀{vs:List Value} {jI:List (List Int)},Paired (Yr h) vs jI->vs.map (VV h)=jI/\∀v∈vs,∃ns∈jI,Yr h v ns
 | [],[],_=>⟨rfl,λv hv=>by simp at hv⟩
 | v::vs,ns::jI,h=>by
  cases h with
  | cons h1 h2=>
   obtain⟨a1,a2⟩:=U0 h2;refine⟨by rw[qX,a1,VH h1],λu hu=>?_⟩;rcases qu.mp hu with rfl | hu
   ·exact⟨ns,by simp,h1⟩
   ·obtain⟨m,hm,t⟩:=a2 u hu
    exact⟨m,by simp[hm],t⟩
theorem ZbM {h:Heap}:∀{vs:List Value},(∀v∈vs,∃ns,Yr h v ns)->Paired (Yr h) vs (vs.map (VV h))
 | [],_=>.nil
 | v::vs,hv=>by
  obtain⟨ns,t⟩:=hv v (by simp);refine .cons (by rw[VH t];exact t) (ZbM λu hu=>hv u (by simp[hu]))
theorem Zbo {h:Heap}{vs:List Value}{jI:List (List Int)}(ht:Paired (Yr h) vs jI){st:SortSt}(hp:(arrOf st).toList.Perm (pairsOf vs).toList)(hs:SL (JG jI h) (arrOf st).toList) :
  Paired (Yr h) ((arrOf st).map (·.2)).toList (YN jI)/\((arrOf st).map (·.2)).toList.Perm vs:=by
 obtain⟨p1,p2⟩:=U0 ht;have same:∀p∈(arrOf st).toList,p.1=p.2/\p.1∈vs:=λp hp'=>by
  have:=hp.mem_iff.mp hp';rw[pairsOf_toList]at this;obtain⟨i,hi⟩:=zI.mp this;rw[yp]at hi;obtain⟨e1,e2⟩:=hi;rw[e1]at e2;exact⟨zy e2,zt e1⟩
 have em:((arrOf st).map (·.2)).toList=(arrOf st).toList.map (·.1):=by
  rw[Array.toList_map];exact zl λp hp'=>((same p hp').1).symm
 have pv:((arrOf st).toList.map (·.1)).Perm vs:=by
  have:=hp.map (·.1);rw[pairsOf_toList,List.map_fst_zip (qq _)]at this;exact this
 rw[em];refine⟨?_,pv⟩;have key:((arrOf st).toList.map (·.1)).map (VV h)=YN jI:=by
  refine Za5 ?_ ?_
  ·rw[<-p1];exact pv.map _
  ·rw[qC]
   refine ze.mpr (yA (λ{x y} hx hy hxy=>?_) hs);obtain⟨a,ha,ta⟩:=p2 x.1 (same x hx).2;obtain⟨b,hb,tb⟩:=p2 y.1 (same y hy).2;have:=ZfJ tb ta hb ha;show Xk (VV h x.1) (VV h y.1)=true;rw[VH ta,VH tb];unfold Xk;rw[<-this,decide_eq_false (by omega)];rfl
 rw[<-key];exact ZbM λv hv=>by
  obtain⟨ns,_,t⟩:=p2 v (pv.mem_iff.mp hv);exact⟨ns,t⟩
theorem Zks {α:Type}{R:α->α->Prop}:∀{l:List α},l.length<2->l.Pairwise R
 | [],_=>yn
 | [_],_=>yf _ _
 | _::_::_,h=>by simp at h;omega
theorem ZeE {a:Addr}{vs:List Value}{jI:List (List Int)}{n:Nat}{P:PySem.Fin->Shared->Prop}(ho:s.heap.get? a=some (seqObj "list" vs.toArray n))(ht:Paired (Yr s.heap) vs jI)(hz:vs.length<=100000)(hne:2<=vs.length->∀ns∈jI,ns≠[])
  (h:∀out:Array Value,Paired (Yr s.heap) out.toList (YN jI)->out.toList.Perm vs->P (.done (.ret .none)) { s with heap:=sortedHeap s.heap a vs out }) :
  xf (xz prog w) A (Builtin.«list.sort» ⟨[.ref a],[]⟩) P E s:=by
 have jN:vs.length=jI.length:=qak ht;rw[list_sort_plain];have ha:a<s.heap.objs.size:=qK ho;have hvz:vs.toArray.size<=xg:=by rw[qL,sizeLine_eq];omega
 refine xa (listItems_at ho rfl ?_);refine xa (listUpdate_at ho rfl ?_ (hsz:=hvz));obtain⟨e1,ho1⟩:∃e1,(s.heap.update a (zu λ_=>#[])).get? a=some (seqObj "list" #[] e1):=⟨_,get?_update_seq ho (λ_=>#[])⟩;refine xa (seqEpoch_at ho1 rfl ?_);refine xa (wpAny_newTuple ?_ (by simpa using hvz));refine xa (xw ?_);refine xu ?_;have ho6:(((s.heap.update a (zu λ_=>#[])).push (seqObj "tuple" vs.toArray 0)).push (seqObj "list" #[] 0)).get? a=some (seqObj "list" #[] e1):=qf _ (qf _ ho1);have kk:∀c o,c≠a->s.heap.get? c=some o->(((s.heap.update a (zu λ_=>#[])).push (seqObj "tuple" vs.toArray 0)).push (seqObj "list" #[] 0)).get? c=some o:=λc o hc e=>qf _ (qf _ (by rw[qcM _ _ _ _ hc];exact e));have ht2:Paired (Yr (((s.heap.update a (zu λ_=>#[])).push (seqObj "tuple" vs.toArray 0)).push (seqObj "list" #[] 0))) vs jI:=L2.Paired.mapP ht λv ns x=>x.at kk ⟨_,ho,rfl⟩;have back:∀out:Array Value,Paired (Yr (((s.heap.update a (zu λ_=>#[])).push (seqObj "tuple" vs.toArray 0)).push (seqObj "list" #[] 0))) out.toList (YN jI)->out.toList.Perm vs->Paired (Yr s.heap) out.toList (YN jI):=λout hpd hpv=>by
  obtain⟨q1,q2⟩:=U0 ht;obtain⟨r1,r2⟩:=U0 hpd;have z:=ZbM (h:=s.heap) (vs:=out.toList) λv hv=>by
   obtain⟨ns,_,t⟩:=q2 v (hpv.mem_iff.mp hv);exact⟨ns,t⟩
  have e:out.toList.map (VV s.heap)=YN jI:=by
   rw[<-r1];refine zl λv hv=>?_;obtain⟨ns,_,t⟩:=q2 v (hpv.mem_iff.mp hv);rw[VH t,VH (t.at kk ⟨_,ho,rfl⟩)]
  rw[e]at z;exact z
 show xf (xz prog w) A _ P E { s with heap:=((s.heap.update a (zu λ_=>#[])).push (seqObj "tuple" vs.toArray 0)).push (seqObj "list" #[] 0) };dsimp only;have hsz:vs.toArray.size=vs.length:=by simp
 by_cases h2:vs.toArray.size<2
 ·rw[if_pos h2,if_pos h2];refine xa (xb ?_);rw[StateT.run_pure]
  refine xa (xb ?_);dsimp only;refine xa (seqEpoch_at ho6 rfl ?_);refine xa (listUpdate_at ho6 rfl ?_ (hsz2:=by rw[Array.size_map];show(pairsOf vs).size<=_;rw[pairsOf_size,sizeLine_eq];omega));simp only[bne_self_eq_false,qU,if_false];have sp:=Zbo ht2 (st:=SortSt.mk' general' (vs.toArray.zip vs.toArray) #[] 7 none) (.refl _) (by
   show((pairsOf vs).toList).Pairwise _;have hl:(pairsOf vs).toList.length<2:=by rw[qy,pairsOf_size];omega
   exact Zks hl)
  exact xb (h _ (back _ sp.1 sp.2) sp.2)
 ·rw[if_neg h2,if_neg h2]
  have h2':2<=vs.length:=by omega
  refine xa (Zns (s:={ s with heap:=((s.heap.update a (zu λ_=>#[])).push (seqObj "tuple" vs.toArray 0)).push (seqObj "list" #[] 0) }) ht2 (hne h2') (by omega) ?_);refine xa (xc (ZfH (s:={ s with heap:=((s.heap.update a (zu λ_=>#[])).push (seqObj "tuple" vs.toArray 0)).push (seqObj "list" #[] 0) }) (a₀:=(pairsOf vs).toList) (st:=SortSt.mk' (tuples' true) (vs.toArray.zip vs.toArray) #[] 7 none)
   (Q:=λ_ st'=>(arrOf st').toList.Perm (pairsOf vs).toList/\SL (JG jI _) (arrOf st').toList/\failedOf st'=none) (cmpT jI) (λx hx=>?_) (.refl _) rfl rfl rfl λst' a1 a2 a3=>⟨a1,a2,a3⟩) ?_ λ_ _ e=>e)
  ·rw[pairsOf_toList]at hx
   exact(U0 ht2).2 x.1 (qaE hx).1
  ·rintro⟨⟨⟩,st'⟩ s' ⟨rfl,hp,hs,hf⟩
   dsimp only;have sp:=Zbo ht2 hp hs;refine xa (seqEpoch_at ho6 rfl ?_);refine xa (listUpdate_at ho6 rfl ?_ (hsz2:=by
    have:=sp.2.length_eq;rw[qy]at this;rw[this,sizeLine_eq];omega))
   rw[hf];simp only[bne_self_eq_false,qU,if_false];exact xb (h _ (back _ sp.1 sp.2) sp.2)
end
end TT
namespace TF
open L2
section
variable {X:Cx}{G:Gh}
noncomputable def Zkt (i j l:Nat):D->Zb->Option Zb:=λd ρ=>match d with | .tup [a,b,c]=>some (((ρ.set i (some a)).set j (some b)).set l (some c)) | _=>none
theorem ZfK {i j l:Nat}{x y z:Str}{pos px py pz:Pos}{k:Nat}{ok:Nat->Prop}(hc:X.calm=true)(oi:ok i)(oj:ok j)(ol:ok l)
  (hn:(assignEach [.Name x px,.Name y py,.Name z pz] X.env).length=3:=by rfl) (hst:(assignEach [.Name x px,.Name y py,.Name z pz] X.env).findIdx? (·.1)=none:=by rfl)
  (hp:UQ X [.Name x px,.Name y py,.Name z pz] (Vo (Wu i) (Vo (Wu j) (Vo (Wu l) gNil)))):WC X G (.Tuple [.Name x px,.Name y py,.Name z pz] k pos) ok (Zkt i j l):=
 ⟨_,Zge hc hp hn hst,λx σ Hf H d ρ ρ' Q e r q k=>by
  match d,q,r with
  | .tup [a,b,c],q,r=>
   cases q
   obtain⟨ad,vs,rfl,n,h,rl⟩:=jc.mp r;obtain⟨v1,r1,rfl,q1,q2⟩:=jd.mp rl;obtain⟨v2,r2,rfl,q3,q4⟩:=jd.mp q2;obtain⟨v3,r3,rfl,q5,q6⟩:=jd.mp q4;have:=Zi.nil_iff.mp q6;subst this;exact⟨ad,_,rfl,ZI.of (e _ _ n h),rfl,v1,_,rfl,v2,_,rfl,v3,_,rfl,rfl,k _ (.cons oi q1 (.cons oj q3 (.cons ol q5 .nil)))⟩⟩
theorem Zku {i:Nat}{x:Str}{e:Expr}{pos p1 p2 p3:Pos}{r1 fr:Bool}{ob own:List Nat}{f:Zb->M D}(hi:i∈own)(hv:PE X (.Name x p1) (YB i))(he:PD X G r1 e f)
  (hbase:xq (.Name x p1) "extend" X.env (eval (.Name x p1) X.env)=eval (.Name x p1) X.env:=by rfl)
  (hfew:((backTo p3 (xh [e] X.env)).all (λx=>!x.1)&&(xp p3 (xi [] X.env)).all (λx=>x.1.isSome)
   && decide ([e].length+([]:List Keyword).length+(if ([]:List Keyword).isEmpty then 0 else 1)<30))=true:=by rfl)
  (hline:(p2.endLine==p3.line)=true:=by rfl) (hs:xh [e] X.env=(false,eval e X.env)::xh [] X.env:=by rfl)
  (hsw:xr (.Call (.Attribute (.Name x p1) "extend" p2) [e] [] p3) none pos.line X.env=pure false:=by rfl) :
  YW X G ob own own fr (.Expr (.Call (.Attribute (.Name x p1) "extend" p2) [e] [] p3) pos) (Jy i (fun ρ=>f (Z2 own ρ))):=
 ZjL hi he λte p=>Zin hv p hbase hfew hline hs hsw
end
end TF
namespace L2
section
variable {X:Cx}{tg:Expr}
end
end L2
namespace TF
open L2
section
variable {X:Cx}{G:Gh}{ob own:List Nat}{fr:Bool}
end
open Sem (wp)
section
variable {prog:xB}{w:World}{A:xC}{E:xD}{s:Shared}
end
variable {X:Cx}{G:Gh}{f:Zb->M D}
end TF
namespace HT
noncomputable def X1 (xs:Array Nat):Prop:=xs.toList.Pairwise (· < ·)
theorem X1.lt {xs:Array Nat}(h:X1 xs){i k:Nat}(hk:k<xs.size)(hi:i<k):xs.getD i 0<xs.getD k 0:=by
 have:=zM.mp h i k (by simp;omega) (by simpa using hk) hi;simp only[Array.getElem_toList]at this;rw[qV,qV,qj (by omega),qj hk];exact this
theorem Zc4 {xs:Array Nat}(h:X1 xs)(j:Nat):∀(f lo hi:Nat),hi-lo<=f->lo<=hi->hi<=xs.size->(∀i<lo,xs.getD i 0<j)->(∀i,hi<=i->i<xs.size->j<=xs.getD i 0)->
  (∀i<qaJ xs j f lo hi,xs.getD i 0<j)/\(∀i,qaJ xs j f lo hi<=i->i<xs.size->j<=xs.getD i 0)/\qaJ xs j f lo hi<=xs.size
 | 0,lo,hi,e1,e2,e3,a,b=>by
  have:lo=hi:=by omega
  subst this;unfold qaJ;exact⟨a,b,e3⟩
 | f+1,lo,hi,e1,e2,e3,a,b=>by
  unfold qaJ;by_cases c:lo<hi
  ·rw[if_pos c]
   dsimp only;have hm:(lo+hi) / 2<xs.size:=by omega
   have eg:xs.getD ((lo+hi) / 2) j=xs.getD ((lo+hi) / 2) 0:=by
    rw[qV,qV,qj hm];rfl
   rw[eg];by_cases d:xs.getD ((lo+hi) / 2) 0<j
   ·rw[if_pos d]
    refine Zc4 h j f _ hi (by omega) (by omega) e3 (λi hi'=>?_) b;by_cases z:i<(lo+hi) / 2
    ·exact qab (h.lt hm z) d
    ·have:i=(lo+hi) / 2:=by omega
     rw[this];exact d
   ·rw[if_neg d]
    refine Zc4 h j f lo _ (by omega) (by omega) (by omega) a λi hi' hs=>?_;by_cases z:i=(lo+hi) / 2
    ·rw[z];omega
    ·have:=h.lt hs (show(lo+hi) / 2<i by omega)
     omega
  ·rw[if_neg c]
   have:lo=hi:=by omega
   subst this;exact⟨a,b,e3⟩
theorem JU {xs:Array Nat}(h:X1 xs)(j:Nat):(∀i<qH xs j,xs.getD i 0<j)/\(∀i,qH xs j<=i->i<xs.size->j<=xs.getD i 0)/\qH xs j<=xs.size:=
 Zc4 h j xs.size 0 xs.size (by omega) (zB _) (qq _) (λi hi=>by omega) λi h1 h2=>by omega
theorem ZgN {xs:Array Nat}(h:X1 xs){i:Nat}(hi:i<xs.size):qH xs (xs.getD i 0+1)=i+1:=by
 obtain⟨a,b,c⟩:=JU h (xs.getD i 0+1);have h1:¬qH xs (xs.getD i 0+1)<=i:=λz=>by
  have:=b i z hi;omega
 by_cases h2:i+1<qH xs (xs.getD i 0+1)
 ·have:=a (i+1) h2
  have:=h.lt (show i+1<xs.size by omega) (yK i);omega
 ·omega
theorem ZgO {xs:Array Nat}(h:X1 xs):qH xs 0=0:=by
 obtain⟨a,b,c⟩:=JU h 0;by_cases z:0<qH xs 0
 ·have:=a 0 z;omega
 ·omega
theorem ZfL {xs:Array Nat}(h:X1 xs){j:Nat}(hj:¬xs[qH xs j]?=some j):X1 (qaK xs (qH xs j) j):=by
 obtain⟨a,b,c⟩:=JU h j;unfold X1;rw[qax];have gl:∀{i:Nat} {x:Nat},xs.toList[i]?=some x->i<xs.size/\xs.getD i 0=x:=λ{i x} e=>by
  rw[qB]at e;obtain⟨l,e2⟩:=zJ.mp e;exact⟨l,by rw[qV,e];rfl⟩
 have m1:∀x∈xs.toList.take (qH xs j),x<j:=λx hx=>by
  obtain⟨i,hi⟩:=zI.mp hx;have hl:=(qA.mp hi).1;rw[qZ]at hl;rw[zP (by omega)]at hi;have:=a i (by omega);rw[(gl hi).2]at this;exact this
 have m2:∀x∈xs.toList.drop (qH xs j),j<x:=λx hx=>by
  obtain⟨i,hi⟩:=zI.mp hx;rw[zW]at hi;obtain⟨g1,g2⟩:=gl hi;have h1:=b _ (qb2 _ i) g1;rw[g2]at h1;by_cases e:j=x
  ·exfalso
   subst e;by_cases z:i=0
   ·subst z
    rw[qb1,qB]at hi;exact hj hi
   ·have h2:=h.lt g1 (show qH xs j<qH xs j+i by omega)
    have h3:=b _ (qq _) (by omega);omega
  ·omega
 refine qW.mpr ⟨h.sublist (zS _ _),ye.mpr ⟨m2,h.sublist (List.drop_sublist _ _)⟩,λx hx y hy=>?_⟩;rcases qu.mp hy with rfl | hy
 ·exact m1 x hx
 ·exact qab (m1 x hx) (m2 y hy)
theorem ZiL {t:SetTable}{j:Nat}(h:t.place[qH t.place j]?=some j):t.slot j=.live (qH t.place j):=by
 unfold SetTable.slot;dsimp only;rw[if_pos (by rw[h];simp)]
theorem Zam (g:Nat->Option Nat):∀l:List Nat,(l.filterMap λj=>(g j).map (j,·)).map (·.1)=l.filter λj=>(g j).isSome
 | []=>rfl
 | a::l=>by
  rw[zD]
  cases e:g a with
  | none=>simp[e,Zam g l]
  | some x=>simp[e,Zam g l]
theorem ZiM {m f v:Nat}{l p:Bool}{hs:Array Int}{r:SetTable×Array Nat}(h:qbo m f v l p hs=some r):r.1.led=l/\X1 r.1.place:=by
 unfold qbo at h
 cases e:zK m hs with
 | none=>rw[e]at h;cases h
 | some ow=>
  rw[e]at h
  cases h
  refine⟨rfl,?_⟩;show((((qk (m+1)).filterMap λj=>(ow.getD j none).map (j,·)).map (·.1)).toArray.toList).Pairwise (· < ·);rw[yG,Zam];exact qco.sublist zm
noncomputable def Yz (w:World):Bool:=w.params.followText "set-order"
noncomputable def Good (w:World)(t:SetTable):Prop:=(Yz w=true∨t.led=true)/\X1 t.place
section
variable {prog:xB}{w:World}
variable (prog w) in
variable {A:xC}{E:xD}{s:Shared}
theorem Znv (a:Value){Q₁:xD}(h:Q₁ (.ref s.heap.objs.size) { s with heap:=s.heap.push (Y0 (!Yz w)) }) :
  xo (xz prog w) A (.call (.builtin "set.__new__") ⟨[.type "set",a],[]⟩) (wants Q₁ E) s:=by
 apply codeAny_of_tree;show xf _ A.in1 (do
  checkBuiltinCall "set.__new__" ⟨[.type "set",a],[]⟩
  again (.builtin "set.__new__" ⟨[.type "set",a],[]⟩)) _ _ s
 refine xa (wpAny_of_eq (PySem.F.newCall_set_1 a) (xb ⟨plainId_quiet qcu _,xm PySem.F.entry_set_new ?_⟩));rw[yD qcu _];unfold Builtin.«set.__new__»;unfold Builtin.Frozenset.newClass;have s1:=sub_set_self;obtain⟨hp,g,d,tk,os⟩:=s;dsimp only
 wp_walk
 refine wpAny_askSetting (xb ?_);dsimp only;simp only[newObj];refine xa (wpAny_alloc (xb (xb ?_)));exact h
end
namespace FS
theorem entry_set_iter:entryFor table "set.__iter__" = some Builtin.«frozenset.__iter__»:=
 entryFor_alias (id':="frozenset.__iter__") (by kernel_rfl) rfl (by decide +kernel) (by kernel_rfl)
theorem slot_next:Slot "set_iterator" "__next__" "set_iterator.__next__":=
 .of (owner:="set_iterator") (n:="__next__") (by rw[typeLookup_type,builtinLookup_eq_fast];kernel_rfl)
  (by decide +kernel) (by decide +kernel) (by decide +kernel)
  (by first | exact .inl (by decide +kernel) | exact .inr (by decide +kernel))
  (by rw[isSubtype_type];kernel_rfl)
theorem entry_next:entryFor table "set_iterator.__next__" = some Builtin.«set_iterator.__next__»:=
 entryFor_of_tree (by kernel_rfl)
theorem ZfM:Manifest.owners.lookup (String.ofList ['r','o','t','a','r','e','t','i','_','t','e','s'].reverse)=some Manifest.sig_set_iterator:=by kernel_rfl
theorem args_next (a:Value):argsOk "set_iterator.__next__" ⟨[a],[]⟩:=by
 unfold argsOk;rw[signature?_of (id:="set_iterator.__next__") (n:=['_','_','t','x','e','n','_','_']) (o:=['r','o','t','a','r','e','t','i','_','t','e','s']) (by kernel_rfl) ZfM]
 kernel_rfl
end FS
theorem Za8 {α:Type}:∀(l:List α) {i:Nat} (h:i<l.length),([l[i]]++l.eraseIdx i).Perm l
 | a::l,0,_=>.refl _
 | a::l,i+1,h=>by
  have ih:=Za8 l (i:=i) (by simpa using h);simp only[List.getElem_cons_succ,qcg,List.singleton_append]at ih⊢;exact(qa6.swap _ _ _).trans (ih.cons a)
theorem ZhC {α:Type}(f:Nat->Nat):∀(n k:Nat) (l:List α) (out:Array α),l.length=n->(pickOrder.go f n k l out).toList.Perm (out.toList++l)
 | 0,k,l,out,h=>by
  have:l=[]:=yE.mp h;subst this;unfold pickOrder.go;rw[zr]
 | n+1,k,l,out,h=>by
  unfold pickOrder.go;have hl:f k % l.length<l.length:=qaS _ (by omega);rw[qw hl];dsimp only;refine(ZhC f n (k+1) _ _ (by rw[qbQ hl];omega)).trans ?_;rw[zf,qR];refine qbw _ ?_;exact Za8 l hl
theorem ZbN {α:Type}(f:Nat->Nat)(xs:Array α):(pickOrder f xs).toList.Perm xs.toList:=by
 have:=ZhC f xs.size 0 xs.toList #[] (by simp);simpa[pickOrder]using this
section
variable {prog:xB}{w:World}{A:xC}{E:xD}{s:Shared}
theorem ZdW {α:Type}:∀(n:Nat) (l:List α) (s:Shared) (Q:List α->Shared->Prop),l.length=n->(∀(r:List α) d,r.Perm l->Q r { s with drawn:=d })->xf (xz prog w) A (drawOrder n l) Q E s
 | 0,l,s,Q,h,k=>by
  have:l=[]:=yE.mp h;subst this;unfold drawOrder;exact xb (k [] s.drawn (.refl _))
 | n+1,[],s,Q,h,k=>by cases h
 | n+1,a::l,s,Q,h,k=>by
  unfold drawOrder;refine xa ?_;intro Γ p hΓ;show Sem.wp _ _ (.choose .order (a::l).length .pure) _ _ _ _;rw[Sem.wp_choose];refine⟨by simp,?_⟩;have hl:(xz prog w).w.draws .order (s.drawn.get .order) % (a::l).length<(a::l).length:=qaS _ (by simp);generalize (xz prog w).w.draws .order (s.drawn.get .order) % (a::l).length=i at hl;show Sem.wp _ _ (Sem.pure i) _ _ _ _;rw[Sem.wp_pure];dsimp only;rw[qw hl];dsimp only;refine xa (ZdW n _ _ _ (by rw[qbQ hl,h];rfl) λr d hr=>?_);exact xb (k _ d ((hr.cons _).trans (Za8 (a::l) hl)))
noncomputable abbrev XD (first:Value)(i:Nat)(a:Addr)(n ep:Nat):Obj:={ cls:=.type "set_iterator",data:=.fields #[first,rawInt i,.ref a,rawInt n,rawInt ep] }
theorem ZhD {it a:Addr}{o:Obj}{es:Array (Int×Value)}{ep:Nat}{t:SetTable}{slot i nx:Nat}{x:Value}{Q:Option Value->Shared->Prop}
  (hit:s.heap.get? it=some (XD (rawInt slot) i a es.size ep)) (ho:s.heap.get? a=some o) (hd:o.data=.set es ep t) (hf:t.fits es.size=true)
  (hn:∀(A:xC) (E:xD) (F:Option (Value×Nat)->Shared->Prop),F (some (x,nx)) s->xf (xz prog w) A (setNext a slot i ep) F E s)
  (hQ:∀h',h'.get? it=some (XD (rawInt nx) (i+1) a es.size ep)->yh it s.heap h'->Q (some x) { s with heap:=h' }):xf (xz prog w) A (pyNext (.ref it)) Q E s:=by
 have hT:s.TypeIs (.ref it) "set_iterator":=⟨_,hit,rfl⟩;unfold pyNext;refine xa (wpAny_attempt (wpAny_callSpecial?_slot (name:=qav "__next__") hT FS.slot_next
  (wpAny_call_entry FS.slot_next hT FS.entry_next ?_ (FS.args_next _))))
 unfold Builtin.«set_iterator.__next__»;refine xa (m:=slotArgs _ _ _) (xb ?_);refine xa (wpAny_fieldsOf hit rfl ?_);show xf _ _ (setEntries a >>= _) _ _ _;refine xa (wpAny_setEntries_of ho hd hf ?_);rw[if_neg (by simp)];show xf _ _ (setNext a slot i ep >>= _) _ _ _;refine xa (hn _ _ _ ?_);dsimp only;refine xa (wpAny_setField hit rfl (by simp) ?_);have g1:(s.heap.update it (yJ (·.setIfInBounds 0 (rawInt nx)))).get? it=some (XD (rawInt nx) i a es.size ep):=ya _ hit rfl;refine xa (wpAny_setField (s:={ s with heap:=s.heap.update it (yJ (·.setIfInBounds 0 (rawInt nx))) }) g1 rfl (by simp) ?_);have g2:((s.heap.update it (yJ (·.setIfInBounds 0 (rawInt nx)))).update it (yJ (·.setIfInBounds 1 (rawInt ((i:Int)+1))))).get? it=some (XD (rawInt nx) (i+1) a es.size ep):=ya _ g1 rfl;exact xb ⟨_,rfl,xb (hQ _ g2 ((qaz ..).trans (qaz ..)))⟩
theorem ZhE {it:Addr}{i n ep:Nat}{a:Addr}{f:Value}{Q:Option Value->Shared->Prop}(hh:A.handled=none)(hit:s.heap.get? it=some (XD f i a n ep))
  (k:∀(A:xC) (G:Fin->Shared->Prop) (F:xD),A.handled=none->(∀v h',qbm it s.heap h'->qbO { s with heap:=h' } v "StopIteration"->F v { s with heap:=h' })->xf (xz prog w) A (Builtin.«set_iterator.__next__» ⟨[.ref it],[]⟩) G F s)
  (hQ:∀h',qbm it s.heap h'->Q none { s with heap:=h' }):xf (xz prog w) A (pyNext (.ref it)) Q E s:=by
 have hT:s.TypeIs (.ref it) "set_iterator":=⟨_,hit,rfl⟩;unfold pyNext;refine xa (wpAny_attempt (wpAny_callSpecial?_slot (name:=qav "__next__") hT FS.slot_next
  (wpAny_call_entry FS.slot_next hT FS.entry_next (k _ _ _ hh λv h' e tv=>?_) (FS.args_next _))))
 refine xa (wpAny_isInstance (T:="StopIteration") (b:=true) tv isSubtype_stop ?_);exact xb (hQ _ e)
end
end HT
namespace HT
section
variable {prog:xB}{w:World}{A:xC}{E:xD}{s:Shared}
variable {a:Addr}{o:Obj}{es:Array (Int×Value)}{ep:Nat}{t:SetTable}
theorem ZdX {slot i:Nat}{F:Option (Value×Nat)->Shared->Prop}(ho:s.heap.get? a=some o)(hd:o.data=.set es ep t)(hf:t.fits es.size=true)(hT:Yz w=true)
  (k:F (((pickOrder (w.params.setOrder a ep) es)[i]?).map λe=>(e.2,slot)) s):xf (xz prog w) A (setNext a slot i ep) F E s:=by
 unfold setNext;refine xa (wpAny_setState_of ho hd hf ?_);dsimp only;unfold setsByText;refine xa (xa (wpAny_askSetting (xb ?_)));show xf _ _ (if Yz w=true then _ else _) _ _ _;rw[if_pos hT,if_neg (by simp)];unfold setWalk;refine xa (xa (wpAny_setState_of ho hd hf ?_));dsimp only;unfold setsByText;refine xa (xa (wpAny_askSetting (xb ?_)));show xf _ _ (if Yz w=true then _ else _) _ _ _;rw[if_pos hT];refine xa (wpAny_askSetting (xb ?_));exact xb k
theorem Zc5 {slot i:Nat}{F:Option (Value×Nat)->Shared->Prop}(ho:s.heap.get? a=some o)(hd:o.data=.set es ep t)(hf:t.fits es.size=true)(hT:Yz w=false)(hdr:(!t.plain&&decide (es.size > 1))=false)(hl:t.led=true)
  (k:F (match es[qH t.place slot]?,t.place[qH t.place slot]? with | some (_,x),some j=>some (x,j+1) | _,_=>none) s):xf (xz prog w) A (setNext a slot i ep) F E s:=by
 unfold setNext;refine xa (wpAny_setState_of ho hd hf ?_);dsimp only;unfold setsByText;refine xa (xa (wpAny_askSetting (xb ?_)));show xf _ _ (if Yz w=true then _ else _) _ _ _;rw[if_neg (by rw[hT];decide)];show xf _ _ (if (!t.plain&&decide (es.size > 1))=true then _ else _) _ _ _;rw[if_neg (by rw[hdr];decide)];show xf _ _ ((if (!t.led && !es.isEmpty)=true then unsupported "set:maker-not-led" else pure ()) >>= _) _ _ _;rw[if_neg (by simp[hl])];refine xa (xb ?_);exact xb k
theorem Zc6 {G:Fin->Shared->Prop}{F:xD}(hh:A.handled=none)(k:∀v h',(∀b u,s.heap.get? b=some u->h'.get? b=some u)->qbO { s with heap:=h' } v "StopIteration"->F v { s with heap:=h' }) :
  xf (xz prog w) A (newExc (.type "StopIteration") [] >>= λe=>(raiseNew e:Sem Fin)) G F s:=by
 refine xa ?_;simp only[newExc,newTuple];refine xa (xl ?_ (by size_fits));refine xa (m:=firstArgMember _ _) (wpAny_of_eq (a:=zo) (by first | rfl | (simp only[firstArgMember];rfl)) ?_);refine xl ?_ (by size_fits);simp only[raiseNew];refine xa (wpAny_handled ?_);rw[hh];refine xa (xb (wpAny_throw ?_));exact k _ _ (λb u e=>qf _ (qf _ e)) ⟨_,qD _ rfl,rfl⟩
theorem Zkv {it:Addr}{slot i:Nat}{Q:Option Value->Shared->Prop}(hh:A.handled=none)(hit:s.heap.get? it=some (XD (rawInt slot) i a es.size ep))(ho:s.heap.get? a=some o)(hd:o.data=.set es ep t)(hf:t.fits es.size=true)
  (hn:∀(A:xC) (E:xD) (F:Option (Value×Nat)->Shared->Prop),F none s->xf (xz prog w) A (setNext a slot i ep) F E s)
  (hQ:∀h',qbm it s.heap h'->Q none { s with heap:=h' }):xf (xz prog w) A (pyNext (.ref it)) Q E s:=by
 refine ZhE hh hit (λA G F hh k=>?_) hQ;unfold Builtin.«set_iterator.__next__»;refine xa (m:=slotArgs _ _ _) (xb ?_);refine xa (wpAny_fieldsOf hit rfl ?_);show xf _ _ (setEntries a >>= _) _ _ _;refine xa (wpAny_setEntries_of ho hd hf ?_);rw[if_neg (by simp)];show xf _ _ (setNext a slot i ep >>= _) _ _ _;refine xa (hn _ _ _ ?_);dsimp only;refine xa (wpAny_setField hit rfl (by simp) ?_);refine Zc6 (s:={ s with heap:=s.heap.update it (yJ (·.setIfInBounds 2 .none)) }) hh λv h' e tv=>k v h' (λb u nb eb=>e b u ?_) tv;exact(yj _ _ (zO nb)).trans eb
namespace FS
theorem entry_si_iter:entryFor table "set_iterator.__iter__" = some Builtin.«dict_keyiterator.__iter__»:=
 entryFor_alias (id':="dict_keyiterator.__iter__") (by kernel_rfl) rfl (by decide +kernel) (by kernel_rfl)
theorem slot_si_iter:Slot "set_iterator" "__iter__" "set_iterator.__iter__":=
 .of (owner:="set_iterator") (n:="__iter__") (by rw[typeLookup_type,builtinLookup_eq_fast];kernel_rfl)
  (by decide +kernel) (by decide +kernel) (by decide +kernel)
  (by first | exact .inl (by decide +kernel) | exact .inr (by decide +kernel))
  (by rw[isSubtype_type];kernel_rfl)
theorem args_si_iter (a:Value):argsOk "set_iterator.__iter__" ⟨[a],[]⟩:=by
 unfold argsOk;rw[signature?_of (id:="set_iterator.__iter__") (n:=['_','_','r','e','t','i','_','_']) (o:=['r','o','t','a','r','e','t','i','_','t','e','s']) (by kernel_rfl) ZfM]
 kernel_rfl
end FS
theorem ZfN {it:Addr}{f:Value}{i n:Nat}{Q:xD}(hit:s.heap.get? it=some (XD f i a n ep))(h:Q (.ref it) s):xf (xz prog w) A (pyIter (.ref it)) Q E s:=by
 have hT:s.TypeIs (.ref it) "set_iterator":=⟨_,hit,rfl⟩;refine wpAny_pyIter_slot hT FS.slot_si_iter (wpAny_call_entry FS.slot_si_iter hT FS.entry_si_iter ?_ (FS.args_si_iter _));show xf _ _ (ret (.ref it)) _ _ s;exact xb ⟨_,rfl,"set_iterator",_,hT,FS.slot_next.lookup,h⟩
noncomputable def VW (w:World)(a:Addr)(ep:Nat)(es:Array (Int×Value)):List Value:=if Yz w=true then (pickOrder (w.params.setOrder a ep) es).toList.map (·.2)else es.toList.map (·.2)
theorem ZfO:(VW w a ep es).Perm (es.toList.map (·.2)):=by
 unfold VW;split
 ·exact(ZbN _ es).map _
 ·exact .refl _
theorem ZlW:(VW w a ep es).length=es.size:=by rw[ZfO.length_eq,qd,qy]
theorem Zkw (hh:A.handled=none)(I:Addr)(hne:a≠I)(hd:o.data=.set es ep t)(hf:t.fits es.size=true)(hg:Good w t)(hdr:Yz w=true∨(!t.plain&&decide (es.size > 1))=false) :
  Walks prog w A I [I,a] [I] es.size (λi v=>(VW w a ep es)[i]?=some v) (λi h=>h.get? a=some o/\∃slot:Nat,h.get? I=some (XD (rawInt slot) i a es.size ep)/\(Yz w=true∨qH t.place slot=i)) where
 sub:=λb hb=>by simp at hb;simp[hb]
 frame:=λi h h' st k=>by
  obtain⟨h1,slot,h2,h3⟩:=st;exact⟨k a (by simp) _ h1,slot,k I (by simp) _ h2,h3⟩
 item:=λi s Q E hi st k=>by
  obtain⟨h1,slot,h2,h3⟩:=st;have hps:t.place.size=es.size:=by
   simp only[qcG,zh,beq_iff_eq]at hf;exact hf.1
  have fin:∀(x:Value) (nx:Nat),(VW w a ep es)[i]?=some x->(Yz w=true∨qH t.place nx=i+1)->∀h',h'.get? I=some (XD (rawInt nx) (i+1) a es.size ep)->yh I s.heap h'->Q (some x) { s with heap:=h' }:=λx nx hx hb h' g sb=>
   k x h' s.toks hx ⟨(sb.2 a hne).trans h1,nx,g,hb⟩ λb u nb e=>(sb.2 b (λz=>nb (by simp[z]))).trans e
  cases hT:Yz w with
  | true=>
   have jN:i<(pickOrder (w.params.setOrder a ep) es).size:=by
    have:=(ZbN (w.params.setOrder a ep) es).length_eq;simp only[qy]at this;omega
   have hx:(VW w a ep es)[i]?=some (pickOrder (w.params.setOrder a ep) es)[i].2:=by
    unfold VW;rw[if_pos hT,qI,qB,qj jN];rfl
   refine ZhD (nx:=slot) h2 h1 hd hf (λA E F q=>ZdX h1 hd hf hT ?_) (fin _ slot hx (.inl hT));rw[qj jN];exact q
  | false=>
   have hb:qH t.place slot=i:=h3.resolve_left (by rw[hT];decide);have hdr':=hdr.resolve_left (by rw[hT];decide);have hl:=hg.1.resolve_left (by rw[hT];decide);have hx:(VW w a ep es)[i]?=some es[i].2:=by
    unfold VW;rw[if_neg (by rw[hT];decide),qI,qB,qj hi];rfl
   have hp:t.place[i]?=some (t.place.getD i 0):=by
    rw[qV,qj (by omega)];rfl
   refine ZhD (nx:=t.place.getD i 0+1) h2 h1 hd hf (λA E F q=>Zc5 h1 hd hf hT hdr' hl ?_) (fin _ _ hx (.inr (ZgN hg.2 (by omega))));rw[hb,qj hi,hp];exact q
 done:=λs Q E st k=>by
  obtain⟨h1,slot,h2,h3⟩:=st;have fin:∀h',qbm I s.heap h'->Q none { s with heap:=h' }:=λh' e=>k h' s.toks λb u nb g=>e b u (λz=>nb (by simp[z])) g
  cases hT:Yz w with
  | true=>
   refine Zkv hh h2 h1 hd hf (λA E F q=>ZdX h1 hd hf hT ?_) fin;rw[qaH]
   ·exact q
   ·have:=(ZbN (w.params.setOrder a ep) es).length_eq
    simp only[qy]at this;omega
  | false=>
   have hb:qH t.place slot=es.size:=h3.resolve_left (by rw[hT];decide);refine Zkv hh h2 h1 hd hf (λA E F q=>Zc5 h1 hd hf hT (hdr.resolve_left (by rw[hT];decide)) (hg.1.resolve_left (by rw[hT];decide)) ?_) fin;rw[hb,qaH (qq _)];exact q
 self:=λi s Q E st k=>ZfN st.2.choose_spec.1 k
noncomputable abbrev WE (pl:List Nat):Array Value:=(pl.map λ(i:Nat)=>rawInt i).toArray
theorem ZlX {it T:Addr}{i p:Nat}{x:Int×Value}{pl:List Nat}{c:Nat}{Q:Option Value->Shared->Prop}
  (hit:s.heap.get? it=some (XD (.ref T) i a es.size ep)) (ho:s.heap.get? a=some o) (hd:o.data=.set es ep t) (hf:t.fits es.size=true)
  (hT:s.heap.get? T=some { cls:=.type "tuple",data:=.seq (WE pl) c }) (hp:pl[i]?=some p) (hx:es[p]?=some x)
  (hQ:∀h',h'.get? it=some (XD (.ref T) (i+1) a es.size ep)->yh it s.heap h'->Q (some x.2) { s with heap:=h' }):xf (xz prog w) A (pyNext (.ref it)) Q E s:=by
 have hTy:s.TypeIs (.ref it) "set_iterator":=⟨_,hit,rfl⟩;unfold pyNext;refine xa (wpAny_attempt (wpAny_callSpecial?_slot (name:=qav "__next__") hTy FS.slot_next
  (wpAny_call_entry FS.slot_next hTy FS.entry_next ?_ (FS.args_next _))))
 unfold Builtin.«set_iterator.__next__»;refine xa (m:=slotArgs _ _ _) (xb ?_);refine xa (wpAny_fieldsOf hit rfl ?_);show xf _ _ (setEntries a >>= _) _ _ _;refine xa (wpAny_setEntries_of ho hd hf ?_);rw[if_neg (by simp)];show xf _ _ (seqItems? (.ref T) >>= _) _ _ _;refine xa (xt hT rfl ?_);have e:(WE pl)[((i:Nat):Int).toNat]?=some (rawInt p):=by
  rw[qaL];simp[WE,hp]
 dsimp only;rw[e];show xf _ _ (setNextDrawn a p ep >>= _) _ _ _;unfold setNextDrawn;refine xa (xa (wpAny_setState_of ho hd hf ?_));dsimp only;rw[if_neg (by simp),hx];refine xb ?_;refine xa (wpAny_setField hit rfl (by simp) ?_);have g2:(s.heap.update it (yJ (·.setIfInBounds 1 (rawInt ((i:Int)+1))))).get? it=some (XD (.ref T) (i+1) a es.size ep):=ya _ hit rfl;exact xb ⟨_,rfl,xb (hQ _ g2 (qaz ..))⟩
theorem Znw {it T:Addr}{i:Nat}{pl:List Nat}{c:Nat}{Q:Option Value->Shared->Prop}(hh:A.handled=none)
  (hit:s.heap.get? it=some (XD (.ref T) i a es.size ep)) (ho:s.heap.get? a=some o) (hd:o.data=.set es ep t) (hf:t.fits es.size=true)
  (hT:s.heap.get? T=some { cls:=.type "tuple",data:=.seq (WE pl) c }) (hp:pl.length<=i)
  (hQ:∀h',qbm it s.heap h'->Q none { s with heap:=h' }):xf (xz prog w) A (pyNext (.ref it)) Q E s:=by
 refine ZhE hh hit (λA G F hh k=>?_) hQ;unfold Builtin.«set_iterator.__next__»;refine xa (m:=slotArgs _ _ _) (xb ?_);refine xa (wpAny_fieldsOf hit rfl ?_);show xf _ _ (setEntries a >>= _) _ _ _;refine xa (wpAny_setEntries_of ho hd hf ?_);rw[if_neg (by simp)];show xf _ _ (seqItems? (.ref T) >>= _) _ _ _;refine xa (xt hT rfl ?_);have e:(WE pl)[((i:Nat):Int).toNat]?=none:=by
  rw[qaL];simp[WE,hp]
 dsimp only;rw[e];dsimp only;refine xa (wpAny_setField hit rfl (by simp) ?_);have g1:(s.heap.update it (yJ (·.setIfInBounds 0 (rawInt 0)))).get? it=some (XD (rawInt 0) i a es.size ep):=ya _ hit rfl;refine xa (wpAny_setField (s:={ s with heap:=s.heap.update it (yJ (·.setIfInBounds 0 (rawInt 0))) }) g1 rfl (by simp) ?_);refine Zc6 (s:={ s with heap:=(s.heap.update it (yJ (·.setIfInBounds 0 (rawInt 0)))).update it (yJ (·.setIfInBounds 2 .none)) }) hh λv h' e tv=>k v h' (λb u nb eb=>e b u ?_) tv;exact(yj _ _ (zO nb)).trans ((yj _ _ (zO nb)).trans eb)
noncomputable def JC (es:Array (Int×Value))(pl:List Nat):List Value:=pl.map λp=>(es.getD p default).2
theorem ZiN {pl:List Nat}(hp:pl.Perm (qk es.size)):(JC es pl).Perm (es.toList.map (·.2)):=by
 unfold JC;refine(hp.map _).trans ?_;have:((qk es.size).map λp=>(es.getD p default).2)=es.toList.map (·.2):=by
  apply qan;intro i;have el:es.toList[i]?=es[i]?:=qB ..;rw[qI,qI,el];by_cases hi:i<es.size
  ·rw[yX hi,qj hi]
   simp only[yd];rw[qV,qj hi];rfl
  ·rw[yb (by simp;omega),qaH (by omega)]
   rfl
 rw[this]
theorem ZgP (hh:A.handled=none)(I T:Addr)(hne:a≠I)(hneT:T≠I)(hd:o.data=.set es ep t)(hf:t.fits es.size=true){pl:List Nat}{c:Nat}(hp:pl.Perm (qk es.size)) :
  Walks prog w A I [I,a,T] [I] es.size (λi v=>(JC es pl)[i]?=some v) (λi h=>h.get? a=some o/\h.get? I=some (XD (.ref T) i a es.size ep)/\h.get? T=some { cls:=.type "tuple",data:=.seq (WE pl) c }) where
 sub:=λb hb=>by simp at hb;simp[hb]
 frame:=λi h h' st k=>⟨k a (by simp) _ st.1,k I (by simp) _ st.2.1,k T (by simp) _ st.2.2⟩
 item:=λi s Q E hi st k=>by
  obtain⟨h1,h2,h3⟩:=st;have hl:i<pl.length:=by rw[hp.length_eq,qQ];exact hi
  have hm:pl[i]<es.size:=qG.mp (hp.mem_iff.mp (y4 hl));have hx:(JC es pl)[i]?=some es[pl[i]].2:=by
   unfold JC;rw[qI,qw hl];simp only[yd];rw[qV,qj hm];rfl
  exact ZlX h2 h1 hd hf h3 (qw hl) (qj hm) λh' g sb=>k _ h' s.toks hx ⟨(sb.2 a hne).trans h1,g,(sb.2 T hneT).trans h3⟩ λb u nb e=>(sb.2 b (λz=>nb (by simp[z]))).trans e
 done:=λs Q E st k=>by
  obtain⟨h1,h2,h3⟩:=st;exact Znw hh h2 h1 hd hf h3 (by rw[hp.length_eq,qQ];exact qq _) λh' e=>k h' s.toks λb u nb g=>e b u (λz=>nb (by simp[z])) g
 self:=λi s Q E st k=>ZfN st.2.1 k
theorem Zkx {Q:xD}(ho:s.heap.get? a=some o)(hex:o.ExactSet)(hd:o.data=.set es ep t)(hf:t.fits es.size=true)(hz:es.size<=1000)
  (k1:(Yz w=true∨(!t.plain&&decide (es.size > 1))=false)->Q (.ref s.heap.objs.size) { s with heap:=s.heap.push (XD (rawInt (0:Nat)) 0 a es.size ep) })
  (k2:∀(pl:List Nat) d,pl.Perm (qk es.size)->Q (.ref (s.heap.objs.size+1)) { s with heap:=(s.heap.push { cls:=.type "tuple",data:=.seq (WE pl) }).push (XD (.ref s.heap.objs.size) 0 a es.size ep),drawn:=d }):xf (xz prog w) A (pyIter (.ref a)) Q E s:=by
 have hT:s.TypeIs (.ref a) "set":=⟨o,ho,hex.1⟩;refine wpAny_pyIter_slot hT qcv (wpAny_call_entry qcv hT FS.entry_set_iter ?_ (PySem.F.args_set_iter_1 _));unfold Builtin.«frozenset.__iter__» Builtin.Frozenset.slot0;refine xa (xa (m:=slotArgs _ _ _) (xb ?_));refine xb ?_;unfold Builtin.Frozenset.sizeOf;refine xa (xa (wpAny_setEntries_of ho hd hf (xb ?_)));unfold setDrawn;refine xa (xa (wpAny_setState_of ho hd hf ?_));dsimp only;unfold setsByText;refine xa (xa (wpAny_askSetting (xb (xb ?_))));show xf _ _ (if (!Yz w&&(!t.plain&&decide (es.size > 1)))=true then _ else _) _ _ _;by_cases hc:(!Yz w&&(!t.plain&&decide (es.size > 1)))=true
 ·rw[if_pos hc]
  refine xa (ZdW es.size (qk es.size) _ _ qQ λpl d hp=>?_);have hpl:pl.length=es.size:=by rw[hp.length_eq,qQ]
  unfold newTuple;refine xa (xl ?_ (by show(WE pl).size<=xg;rw[sizeLine_eq];simp[WE];omega));refine xa (wpAny_setEpoch_of (s:={ s with heap:=s.heap.push { cls:=.type "tuple",data:=.seq (WE pl) },drawn:=d }) (qf _ ho) hd hf ?_);unfold newFields;refine xa (xl ?_);refine xb ⟨_,rfl,"set_iterator",_,⟨_,qD _ rfl,rfl⟩,FS.slot_next.lookup,?_⟩;have:=k2 pl d hp;rw[<-zV s.heap { cls:=.type "tuple",data:=.seq (WE pl) }]at this;exact this
 ·rw[if_neg hc]
  refine xa (xb ?_);refine xa (wpAny_setEpoch_of ho hd hf ?_);unfold newFields;refine xa (xl ?_);refine xb ⟨_,rfl,"set_iterator",_,⟨_,qD _ rfl,rfl⟩,FS.slot_next.lookup,?_⟩;refine k1 ?_
  cases hb:Yz w with
  | true=>exact .inl rfl
  | false=>
   rw[hb]at hc;exact .inr (by simpa using hc)
end
end HT
namespace HT
section
variable {prog:xB}{w:World}{A:xC}{E:xD}{s:Shared}
variable {a:Addr}{o:Obj}{es:Array (Int×Value)}{ep:Nat}{t:SetTable}
theorem Zky {Q:Bool->Shared->Prop}(hT:s.TypeIs (.ref a) "set")(h:Q false s):xf (xz prog w) A (qaN (.ref a)) Q E s:=by
 unfold qaN;refine xa (wpAny_specialOf hT PySem.F.slot_set_len.lookup ?_);generalize hid:("set.__len__" : String)=id0
 wp_delta
 rw[show splitId id0=some ("set","__len__")from by subst hid;decide +kernel];subst hid;refine xa (wpAny_isInstance (T:="set") (b:=true) hT (by rw[isSubtype_type];kernel_rfl) ?_);refine wpAny_ite_split (λz=>absurd z (by decide)) (λ_=>?_);refine wpAny_ite_split (λ_=>?_) (λz=>absurd (by decide +kernel) z);refine xa (wpAny_typeOf hT ?_);exact xb h
theorem Zkz {l:List Value}{acc:Array Value}(h:ItemsOf (λi v=>l[i]?=some v) acc l.length):acc.toList=l:=by
 apply qan;intro i;rw[qB];by_cases hi:i<l.length
 ·have hs:i<acc.size:=by rw[h.1];exact hi
  rw[qj hs];exact(h.2 i _ (qj hs)).symm
 ·rw[qaH (by rw[h.1];omega),yb (by omega)]
theorem after {I S:Addr}{fp wr:List Addr}{l:List Value}{St:Nat->Heap->Prop}{n:Nat}{g:Bool->Bool}{s1:Shared}{R:Result->Shared->Prop}(W:Walks prog w A.in1 I fp wr n (λi v=>l[i]?=some v) St)(hl:l.length=n)(hn:n<=1000)(st:St 0 s1.heap)(hSf:S∉fp)
  (hS:s1.heap.get? S=some { cls:=.type "list",data:=.seq #[] 0 }) (hT:s1.TypeIs (.ref a) "set") (hg:g false=true)
  (k:∀h' tk c,(∀b u,b∉S::wr->s1.heap.get? b=some u->h'.get? b=some u)->h'.get? S=some { cls:=.type "list",dict:=none,data:=.seq l.toArray c,slots:=#[] }->R (.ok (.ret (.ref S))) { s1 with heap:=h',toks:=tk }) :
  xf (xz prog w) A.in1 (do
   let room<-holding [.ref I] (qaN (.ref a))
   if g room=true then do
    rule "list.extend.makes-room"
    Builtin.List.listTouch (.ref S)
    again (.builtin "list.extend.loop" { pos:=[.ref S,.ref I,.ref S] })
   else again (.builtin "list.extend.loop" { pos:=[.ref S,.ref I,.ref S] }))
   (λfin s'=>match fin with | .done f=>R (.ok f) s' | .again c'=>c'.quiet=true/\xo (xz prog w) A c' R s') (λe s'=>R (.error e) s') s1:=by
 refine xa (xu (Zky hT ?_));rw[if_pos hg];refine xa (wpAny_rule (xa ?_));show xf _ _ (updateSeq S (·.push .none) >>= λ_=>updateSeq S (·.pop)) _ _ _;refine xa (wpAny_updateSeq hS rfl ?_);have q2:=ya (zu (·.push zo)) hS rfl;refine wpAny_updateSeq (hz:=by seq_fits) q2 rfl ?_;have q3:=ya (zu (·.pop)) q2 rfl;have oth:∀b u,b≠S->s1.heap.get? b=some u->((s1.heap.update S (zu (·.push zo))).update S (zu (·.pop))).get? b=some u:=λb u nb e=>
  (yj _ _ (zO nb)).trans ((yj _ _ (zO nb)).trans e)
 refine xb ⟨plainId_quiet F.plain_extend_loop _,codeAny_extend_loopS W.toS (by rw[sizeLine_eq];omega) S hSf _ n 0 _ #[] _ rfl (zB _) (W.frame 0 s1.heap _ st λb m u e=>oth b u (λz=>hSf (z▸m)) e) q3 (ItemsOf.nil _) λs' acc' c' hm hS' hacc=>?_⟩;rw[Moved.eq_with hm];rw[<-hl]at hacc;have el:=Zkz hacc;refine k s'.heap s'.toks c' (λb u nb e=>hm.heap b u nb (oth b u (λz=>nb (by simp[z])) e)) ?_;rw[hS',<-el]
noncomputable def RF (prog:xB)(w:World)(A:xC)(E:xD)(Q:List Value->Shared->Prop)(S:Addr):Result->Shared->Prop:=λr s'=>r=.ok (.ret (.ref S))/\xf (xz prog w) A (load S >>= λx=>match x.data with | .seq xs _=>pure xs.toList | _=>unsupported "internal:collect") Q E s'
theorem ZfP {Q:List Value->Shared->Prop}(hh:A.handled=none)(ho:s.heap.get? a=some o)(hex:o.ExactSet)(hd:o.data=.set es ep t)(hf:t.fits es.size=true)(hg:Good w t)(hz:es.size<=1000)
  (k:∀(vs:List Value) (h':Heap) (tk:Nat) d,(∀b u,s.heap.get? b=some u->h'.get? b=some u)->s.heap.objs.size<h'.objs.size->vs.Perm (es.toList.map (·.2))->Q vs { s with heap:=h',toks:=tk,drawn:=d }):xf (xz prog w) A (collect (.ref a)) Q E s:=by
 unfold collect;apply xa;apply wpAny_runValue;apply xm F.entry_proto_collect;rw[yD
  F.plain_proto_collect _]
 show xf _ A.in1 (newList [] >>= λz=>
  again (.builtin "list.__iadd__" ⟨[z,.ref a],[]⟩)) _ _ s
 apply xa;refine xl ?_;refine xb ⟨plainId_quiet
  F.plain_list_iadd _,xm
  F.entry_list_iadd ?_⟩
 rw[yD
  F.plain_list_iadd _]
 show xf _ A.in1 (qae
  (.ref s.heap.objs.size) (.ref a)
  (.ref s.heap.objs.size)) _ _ _
 have hlt:a<s.heap.objs.size:=qK ho;have hS0:(s.heap.push
   { cls:=.type "list",data:=.seq ([]:List Value).toArray }).get?
   s.heap.objs.size=some { cls:=.type "list",data:=.seq #[] 0 }:=
  qD _ rfl
 have ho0:(s.heap.push
   { cls:=.type "list",data:=.seq ([]:List Value).toArray }).get? a=some o:=qf _ ho
 have kp0:∀b u,s.heap.get? b=some u->(s.heap.push
   { cls:=.type "list",data:=.seq ([]:List Value).toArray }).get? b=some u:=λb u e=>qf _ e
 have sz0:(s.heap.push
   { cls:=.type "list",data:=.seq ([]:List Value).toArray }).objs.size=s.heap.objs.size+1:=zV _ _
 generalize (s.heap.push
   { cls:=.type "list",data:=.seq ([]:List Value).toArray })=h0 at hS0 ho0 kp0 sz0⊢
 unfold qae;refine xa (wpAny_typeOf (T:="set") ⟨_,ho0,hex.1⟩ ?_);have b1:qb3 (.ref s.heap.objs.size) (.ref a)=false:=by
  have:s.heap.objs.size≠a:=qbx hlt;simp[qb3,this]
 have b2:(yI "set" == yI "list")=false:=by decide
 have b3:(yI "set" == yI "tuple")=false:=by decide
 simp only[b1,b2,b3,Bool.or_false,qU,if_false];have fin:∀(l:List Value) (I:Addr) (wr:List Addr) (h1:Heap) (d:Drawn),l.Perm (es.toList.map (·.2))->(∀b∈wr,b=I)->s.heap.objs.size<I->(∀b u,h0.get? b=some u->h1.get? b=some u)->∀(h':Heap) (tk c:Nat),(∀b u,b∉s.heap.objs.size::wr->h1.get? b=some u->h'.get? b=some u)->h'.get? s.heap.objs.size=some { cls:=.type "list",dict:=none,data:=.seq l.toArray c,slots:=#[] }->
   xf (xz prog w) A (load s.heap.objs.size >>= λx=>match x.data with | .seq xs _=>pure xs.toList | _=>unsupported "internal:collect") Q E { s with heap:=h',toks:=tk,drawn:=d }:=λl I wr h1 d hp hw hI kp h' tk c kk hL=>by
  refine xa (wpAny_load hL ?_);refine xb ?_;show Q l.toArray.toList _;rw[yG];refine k l h' tk d (λb u e=>kk b u (λz=>?_) (kp b u (kp0 b u e))) (qK hL) hp;have hb:=qK e;rcases qu.mp z with z | z
  ·exact absurd hb (by rw[z];exact yB _)
  ·rw[hw b z]at hb;exact absurd (qab hb hI) (yB _)
 have z1:s.heap.objs.size<h0.objs.size:=by rw[sz0];exact yK _
 have z2:s.heap.objs.size<h0.objs.size+1:=zF z1;have n1:a≠h0.objs.size:=qS (qab hlt z1);have n2:a≠h0.objs.size+1:=qS (qab hlt z2);have n3:s.heap.objs.size≠a:=qbx hlt;refine xc (Q:=λfin s'=>match fin with | .done f=>RF prog w A E Q s.heap.objs.size (.ok f) s' | .again c'=>c'.quiet=true/\xo (xz prog w) A c' (RF prog w A E Q s.heap.objs.size) s') (E:=λe s'=>RF prog w A E Q s.heap.objs.size (.error e) s') ?_ (λfin s' h=>?_) (λe s' h=>?_)
 rotate_left
 ·cases fin with
  | done f=>
   obtain⟨e,q⟩:=h
   cases e
   exact q
  | again c'=>
   refine⟨h.1,codeAny_mono h.2 λr s'' hr=>?_⟩;obtain⟨rfl,q⟩:=hr;exact q
 ·exact absurd h.1 (by simp)
 refine xa (Zkx ho0 hex hd hf hz (λhdr=>?_) λpl d hp=>?_)
 ·refine after (Zkw (A:=A.in1) hh h0.objs.size n1 hd hf hg hdr) ZlW hz ?_ ?_ ?_ ?_ ?_ ?_
  ·exact⟨qf _ ho0,0,qD _ rfl,.inr (ZgO hg.2)⟩
  ·simp only[qu,yg,or_false,not_or]
   exact⟨qS z1,n3⟩
  ·exact qf _ hS0
  ·exact⟨_,qf _ ho0,hex.1⟩
  ·decide +kernel
  ·intro h' tk c kk hL
   exact⟨rfl,fin _ h0.objs.size [h0.objs.size] _ _ ZfO (λb m=>qJ.mp m) z1 (λb u e=>qf _ e) h' tk c kk hL⟩
 ·refine after (ZgP (A:=A.in1) hh (h0.objs.size+1) h0.objs.size n2 (qS (yK _)) hd hf hp (c:=0)) ?_ hz ?_ ?_ ?_ ?_ ?_ ?_
  ·unfold JC;rw[qd,hp.length_eq,qQ]
  ·refine⟨qf _ (qf _ ho0),?_,qf _ (qD _ rfl)⟩
   have:=qD (h0.push { cls:=.type "tuple",data:=.seq (WE pl) }) (o:=XD (.ref h0.objs.size) 0 a es.size ep) rfl;rw[zV]at this;exact this
  ·simp only[qu,yg,or_false,not_or]
   exact⟨qS z2,n3,qS z1⟩
  ·exact qf _ (qf _ hS0)
  ·exact⟨_,qf _ (qf _ ho0),hex.1⟩
  ·decide +kernel
  ·intro h' tk c kk hL
   exact⟨rfl,fin _ (h0.objs.size+1) [h0.objs.size+1] _ _ (ZiN hp) (λb m=>qJ.mp m) z2 (λb u e=>qf _ (qf _ e)) h' tk c kk hL⟩
end
section
variable {prog:xB}{w:World}{A:xC}{E:xD}{s:Shared}
variable {a:Addr}{o:Obj}{es:Array (Int×Value)}{ep:Nat}{t:SetTable}
end
end HT
namespace TF
open L2
section
variable {X:Cx}{G:Gh}
theorem jA {jC:Qb}{σ:St}{H:Hp}{s:Shared}{d:Drawn}(I:Inv X jC σ H s):Inv X jC σ H { s with drawn:=d }:=⟨I.ok,I.os,I.bare,I.base,I.loc,I.cell,I.free,I.freeC,I.pin,I.hok,I.len⟩
end
section
variable {X:Cx}{G:Gh}{ob own:List Nat}{fr:Bool}{f:Zb->M D}
end
end TF
namespace TT
open L2 TS
theorem perm_ix {α:Type}(d:α){l' l:List α}(h:l'.Perm l):∃ix:List Nat,ix.Perm (qk l.length)/\l'=ix.map λi=>l.getD i d:=by
 induction h with
 | nil=>exact⟨[],.refl _,rfl⟩
 | @cons x l1 l2 p ih=>
  obtain⟨ix,h1,h2⟩:=ih;refine⟨0::ix.map (· + 1),?_,?_⟩
  ·rw[qO,y8]
   exact(h1.map _).cons 0
  ·rw[qX,qC,h2]
   rfl
 | swap x y l=>
  refine⟨1::0::(qk l.length).map (· + 2),?_,?_⟩
  ·rw[qO,qO,y8,y8,qX,qC]
   exact .swap _ _ _
  ·rw[qX,qX,qC]
   have:(qk l.length).map ((λi=>(x::y::l).getD i d)∘λx=>x+2)=l:=by
    have e:((λi=>(x::y::l).getD i d)∘λx=>x+2)=λi=>l.getD i d:=rfl;rw[e];exact TS.range_getD l d
   rw[this];rfl
 | @trans l1 l2 l3 p q ih1 ih2=>
  obtain⟨ix,h1,h2⟩:=ih1;obtain⟨jx,k1,k2⟩:=ih2;refine⟨ix.map λi=>jx.getD i 0,?_,?_⟩
  ·have e:l2.length=jx.length:=by rw[k2,qd]
   rw[e]at h1;have:=h1.map λi=>jx.getD i 0;rw[TS.range_getD]at this;exact this.trans k1
  ·rw[h2,qC]
   refine zl λi hi=>?_;have hl:i<l2.length:=qG.mp (h1.mem_iff.mp hi);have hj:i<jx.length:=by rw[k2,qd]at hl;exact hl
   show l2.getD i d=l3.getD (jx.getD i 0) d;rw[k2,qz,qI,qw hj,qz (l:=jx),qw hj];rfl
section
variable {prog:xB}{w:World}{A:xC}{E:xD}{s:Shared}
theorem list_sort_T2 {a:Addr}{vs:List Value}{jI:List (List Int)}{n:Nat}{P:PySem.Fin->Shared->Prop}(ho:s.heap.get? a=some (seqObj "list" vs.toArray n))(ht:Paired (Yr s.heap) vs jI)(hz:vs.length<=100000)(hne:2<=vs.length->∀ns∈jI,ns≠[])
  (h:∀p:Array Nat,p.toList.Perm (qk vs.length)->(p.toList.map λi=>jI.getD i [])=YN jI->P (.done (.ret .none)) { s with heap:=sortedHeap s.heap a vs (yT (p.toList.map λi=>vs.getD i zo)) }) :
  xf (xz prog w) A (Builtin.«list.sort» ⟨[.ref a],[]⟩) P E s:=by
 refine ZeE ho ht hz hne λout h1 h2=>?_;obtain⟨ix,k1,k2⟩:=perm_ix zo h2;have jN:vs.length=jI.length:=qak ht;have eo:out=yT ((yT ix).toList.map λi=>vs.getD i zo):=by
  apply Array.toList_inj.mp;rw[yG,yG];exact k2
 rw[eo];refine h (yT ix) (by rw[yG];exact k1) ?_;rw[yG,<-(U0 h1).1,k2,qC];refine zl λi hi=>?_;have hl:i<vs.length:=qG.mp (k1.mem_iff.mp hi);exact(VH (jv _ [] ht hl)).symm
end
end TT
namespace TS
open L2
section
variable {prog:xB}{w:World}{A:xC}{E:xD}{s:Shared}
theorem ZiO {l:Addr}{vs:List Value}{jI:List (List Int)}{Q:xD}(hl:s.heap.IsList l vs.toArray)(ht:Paired (Yr s.heap) vs jI)(hz:vs.length<=100000)(hne:2<=vs.length->∀ns∈jI,ns≠[])
  (h:∀p:Array Nat,p.toList.Perm (qk vs.length)->(p.toList.map λi=>jI.getD i [])=YN jI->Q (.ref (s.heap.objs.size+1)) { s with heap:=sortedAll s.heap vs (yT (p.toList.map λi=>vs.getD i zo)) }):xf (xz prog w) A (call (.builtin "sorted") [.ref l]) Q E s:=by
 refine qa1 kind_sorted plain_sorted entry_sorted (args_sorted1 _) ?_;unfold Builtin.«sorted»;refine xa (m:=checkCount "sorted" 1 1 _) (xb ?_);refine xa (collect_list hl ?_ (by rw[sizeLine_eq];omega));refine xa (xw ?_ (by rw[sizeLine_eq];omega));have z1:((s.heap.push (seqObj "list" #[] 0)).update s.heap.objs.size (zu (· ++ vs.toArray))).objs.size=s.heap.objs.size+1:=by rw[Heap.size_update,size_push']
 have g1:(((s.heap.push (seqObj "list" #[] 0)).update s.heap.objs.size (zu (· ++ vs.toArray))).push (seqObj "list" vs.toArray 0)).get? (s.heap.objs.size+1)=some (seqObj "list" vs.toArray 0):=by rw[<-z1];exact qD _ rfl
 have kp:∀c o,c≠s.heap.objs.size->s.heap.get? c=some o->(((s.heap.push (seqObj "list" #[] 0)).update s.heap.objs.size (zu (· ++ vs.toArray))).push (seqObj "list" vs.toArray 0)).get? c=some o:=λc o hc e=>qf _ (by rw[qcM _ _ _ _ hc];exact qf _ e);have ht2:Paired (Yr (((s.heap.push (seqObj "list" #[] 0)).update s.heap.objs.size (zu (· ++ vs.toArray))).push (seqObj "list" vs.toArray 0))) vs jI:=L2.Paired.mapP ht λv ns ⟨a,xs,e,⟨o,ho,r⟩,i⟩=>⟨a,xs,e,⟨o,kp a o (qS (qK ho)) ho,r⟩,i⟩;show xf _ _ _ _ _ { s with heap:=((s.heap.push (seqObj "list" #[] 0)).update s.heap.objs.size (zu (· ++ vs.toArray))).push (seqObj "list" vs.toArray 0) };rw[z1];refine xa (xu (wpAny_call_entry slot_list_sort ⟨_,g1,rfl⟩ entry_list_sort (TT.list_sort_T2 (s:={ s with heap:=((s.heap.push (seqObj "list" #[] 0)).update s.heap.objs.size (zu (· ++ vs.toArray))).push (seqObj "list" vs.toArray 0) }) g1 ht2 hz hne λp a1 a2=>⟨_,rfl,?_⟩) (args_list_sort _)));exact xb ⟨_,rfl,h p a1 a2⟩
end
end TS
namespace TF
open L2 TS
section
variable {X:Cx}{G:Gh}
theorem ZeF:Y2 X (.builtin "sorted") (λxs H Q=>∃(p:Addr) (vs:List V) (jI:List (List Int)) (T:V->List Int->Prop),xs=[.ref p]/\ZE X.K H p vs/\(∀v ns,T v ns->∃a,v=.ref a/\ZI X.K H a (ns.map V.int))/\Paired T vs jI/\
  jI.length<=100000/\(2<=jI.length->∀ns∈jI,ns≠[])/\∀l vs',Paired T vs' (YN jI)->H l=none->Q (.ref l) (Zn H l (.lst vs'))):=by
 intro jC s σ H xs us Q I r h;obtain⟨p,vs,jI,T,rfl,hp,hT,pT,h64,hne,q⟩:=h;obtain⟨u,rfl,ru⟩:=Xu r
 cases ru
 obtain⟨jH,rv,pl,hz⟩:=I.list hp;have hl:=rv.length;have hl2:vs.length=jI.length:=qak pT;refine ZiO pl.isList (ZbH I hT rv pT) (by omega) (λz=>hne (by omega)) λpm a1 a2=>?_;obtain⟨e,he⟩:=sortedAll_at s.heap jH (yT (pm.toList.map λi=>jH.getD i zo));have hle:s.heap.objs.size<=s.heap.objs.size+1:=qcl _;have hb:∀i∈pm.toList,i<jH.length:=λi m=>by
  have:=a1.mem_iff.mp m;simpa using this
 have pv:ZB (pm.toList.map λi=>vs.getD i V.non) (pm.toList.map λi=>jH.getD i zo):=TS.Paired.pick _ _ rv _ λi m=>by rw[hl];exact hb i m
 have pt:Paired T (pm.toList.map λi=>vs.getD i V.non) (pm.toList.map λi=>jI.getD i []):=TS.Paired.pick _ _ pT _ λi m=>by rw[hl];exact hb i m
 rw[a2]at pt;refine⟨.ref (s.heap.objs.size+1),_,I.laid (a:=s.heap.objs.size+1) (o:=.lst (pm.toList.map λi=>vs.getD i V.non)) (t':=s.toks) (λ_ _=>sortedAll_old) hle ⟨?_,_,e,pv,he⟩,rfl,q _ _ pt (I.hok.fresh hle)⟩;have:=a1.length_eq;rw[qQ]at this;rw[qd,this,sizeLine_eq];omega
noncomputable def Uz (jI:List (List Int)):Prop:=jI.length<=100000/\(2<=jI.length->∀ns∈jI,ns≠[])
instance (jI:List (List Int)):Decidable (Uz jI):=by unfold Uz;infer_instance
noncomputable def Zc7:List D->Option D
 | [.lst ds]=>match WO ds with | some jI=>if Uz jI then some (.lst ((YN jI).map Y8))else none | none=>none
 | _=>none
theorem Zc8:XA X G (.builtin "sorted") Zc7:=
 ⟨_,ZeF,λHf H s xs ds c Q e1 st r q k=>by
  match ds,q,r with
  | [.lst es],q,r=>
   have q:(match WO es with | some jI=>if Uz jI then some (D.lst ((YN jI).map Y8))else none | none=>none)=some c:=q
   cases he:WO es with
   | none=>rw[he]at q;cases q
   | some jI=>
    rw[he]at q;have q:(if Uz jI then some (D.lst ((YN jI).map Y8))else none)=some c:=q;split at q
    ·rename_i ok
     cases q
     obtain⟨v,rfl,rv⟩:=jg r;obtain⟨p,vs,rfl,np,hp,rp⟩:=jb.mp rv;rw[ZbI he]at rp;refine⟨p,vs,jI,λv ns=>Zj G Hf (Y8 ns) v,rfl,ZE.of (e1 _ _ np hp),λv ns h=>?_,ZbJ rp,ok.1,ok.2,λl vs' pt hl=>?_⟩
     ·obtain⟨a,us,rfl,na,ha,ra⟩:=jc.mp h
      rw[jk ra]at ha;exact⟨a,rfl,ZI.of (e1 _ _ na ha)⟩
     ·have nf:=Gh.nofp st hl
      have g2:=Gr.new (o:=.lst vs') e1 hl nf;have rl:=ZbK pt;exact k (.ref l) _ _ g2 (Gh.grow st hl) (jb.mpr ⟨l,_,rfl,nf,ZX,rl.ext g2.ff⟩) (Yj.mk e1 hl nf rl)
    ·cases q⟩
end
end TF
namespace TF
open L2 TT
section
variable {X:Cx}{G:Gh}
end
end TF
namespace TQ
open L2 TF TQ
open TP
open TP2
open TP3
end TQ
namespace TF
open L2
section
variable {X:Cx}{G:Gh}{f g:Zb->M D}
end
end TF
namespace TQ
open L2 TF
end TQ
namespace TF
open L2
section
variable {X:Cx}{G:Gh}
end
theorem boot_sum:xj "sum" = some (.builtin "sum"):=by decide +kernel
section
variable {X:Cx}{G:Gh}
noncomputable def W9 (ns:List Int):Bool:=ns.all λn=>decide (-4294967296<=n)&&decide (n<=4294967296)
theorem ZfQ {ns:List Int}(h:W9 ns=true):∀j:Nat,-(4294967296*(j:Int))<=(ns.take j).sum/\(ns.take j).sum<=4294967296*(j:Int):=by
 intro j
 induction ns generalizing j with
 | nil=>rw[List.take_nil];show _<=(0:Int)/\(0:Int)<=_;omega
 | cons n r ih=>
  cases j with
  | zero=>rw[qbd];show _<=(0:Int)/\(0:Int)<=_;omega
  | succ j=>
   unfold W9 at h;simp only[List.all_cons,zh,decide_eq_true_eq]at h;have:=ih h.2 j;rw[qcL,qam];omega
noncomputable def UM:List D->Option D
 | [.lst ds]=>match ZL ds with | some ns=>if W9 ns=true then some (.int ns.sum)else none | none=>none
 | _=>none
theorem ZiP (hc:X.calm=true):Y2 X (.builtin "sum") (λxs H Q=>∃p ns,xs=[.ref p]/\ZE X.K H p (ns.map V.int)/\W9 ns=true/\Q (.int ns.sum) H):=by
 intro jC s σ H xs us Q I r h;obtain⟨p,ns,rfl,hp,ok,q⟩:=h;obtain⟨u,rfl,ru⟩:=Xu r
 cases ru
 obtain⟨jH,rv,pl,hz⟩:=I.list hp;have hi:IntsAre jH ns:=Wo rv;obtain⟨xs,e⟩:=hi.allInts.items;have hns:ns=xs.toList.map (·.1):=by rw[<-hi.numsOf,<-nums_intItems,<-e]
 have hl:=pl.isList;rw[e]at hl;have jN:ns.length=xs.size:=by rw[hns,qd,qy]
 have hz2:ns.length<=16777216:=by
  have:=hz;rw[qd]at this;rw[show xg=16777216 by decide]at this;exact this
 refine sum_intList (I.ok.hd hc) hl (λj hj=>?_) λh' tk t' hk=>?_
 ·rw[preSum_eq,<-hns]
  have h1:=ZfQ ok (j+1);have h2:-4294967296<=numAt xs j/\numAt xs j<=4294967296:=by
   rw[numAt_eq,<-hns];have hm:ns.getD j 0∈ns:=getD_mem (by omega);have:=yw.mp ok _ hm;simp only[zh,decide_eq_true_eq]at this;exact this
  constructor
  ·constructor <;> omega
  ·constructor <;> omega
 ·rw[preSum_eq,<-hns,<-jN,yy]
  exact⟨.int ns.sum,H,I.kept (t':=tk) hk,⟨_,rfl⟩,q⟩
theorem ZaS (hc:X.calm=true):XA X G (.builtin "sum") UM:=
 ⟨_,ZiP hc,λHf H s xs ds c Q e1 st r q k=>by
  match ds,q,r with
  | [.lst es],q,r=>
   have q:(match ZL es with | some ns=>if W9 ns=true then some (D.int ns.sum)else none | none=>none)=some c:=q
   cases he:ZL es with
   | none=>rw[he]at q;cases q
   | some ns=>
    rw[he]at q;by_cases ok:W9 ns=true
    ·have q:(if W9 ns=true then some (D.int ns.sum)else none)=some c:=q
     rw[if_pos ok]at q
     cases q
     obtain⟨v,rfl,rv⟩:=jg r;obtain⟨p,vs,rfl,np,hp,rp⟩:=jb.mp rv;rw[Wp he]at rp;rw[jk rp]at hp;exact⟨p,ns,rfl,ZE.of (e1 _ _ np hp),ok,k _ Hf H (.refl e1) st (ja.mpr rfl) (.scal λz=>z)⟩
    ·have q:(if W9 ns=true then some (D.int ns.sum)else none)=some c:=q
     rw[if_neg ok]at q;cases q⟩
end
open PySem.SeqAt
open AutoSeq1 (wpAny_loadPart')
section
variable {X:Cx}{G:Gh}
end
end TF
namespace TQ
open L2 TF TQ
open TP
open TP2
open TP3
noncomputable def ZgQ:Zb->M Out:=(Zg (ZR 1 (ZV (Zc (Ze Zq (Za 0) (dC (.int 0))) (Zc (Zs Um (Zc (Za 0) Zf)) Zf))))
 (Zg (ZN (Z7 [none,some 1] (YH (Ze Zq (Za 0) (dC (.int 0)))) (Zv 0) Z1 (Zs Jj (Zc (Za 1) (Zc (Za 0) Zf)))))
 Zm))
noncomputable def Za9:List D->M D:=runB 2 1 ZgQ
noncomputable def ZdA:Zb->M Out:=(Zg (ZN (Z7 [none,some 0,some 1] (Yy (Za 2)) (Zv 0) (ZO (Ze XF (Za 0) (Ze Zq (Za 1) (Za 2)))) (Za 0)))
 Zm)
noncomputable def Zan:List D->M D:=runB 3 3 ZdA
end TQ
namespace TF
open L2
section
variable {X:Cx}{G:Gh}
end
section
variable {X:Cx}{G:Gh}
theorem ZfR:∀{vs:List Value} {ns:List Int} {i:Nat} {u:Value},IntsAre vs ns->vs[i]?=some u->∃n t,ns[i]?=some n/\u=.int n t
 | _,_,_,_,.nil,h=>by simp at h
 | _,_,0,u,.cons n t _,h=>by simp at h;exact⟨n,t,rfl,h.symm⟩
 | _,_,i+1,u,.cons n t r,h=>by
  obtain⟨m,t',h1,h2⟩:=ZfR r (i:=i) (by simpa using h);exact⟨m,t',by simpa using h1,h2⟩
theorem ZfS (ns:List Int):preSum (λi=>ns.getD i 0) ns.length=ns.sum:=by
 have:∀k,k<=ns.length->preSum (λi=>ns.getD i 0) k=(ns.take k).sum:=by
  intro k
  induction k with
  | zero=>intro _;rw[qbd];rfl
  | succ k ih=>
   intro hk;show preSum (λi=>ns.getD i 0) k+ns.getD k 0=_;rw[ih (by omega),List.take_add_one,List.sum_append,qw (by omega),qz,qw (by omega)];simp
 have h:=this ns.length (qq _);rw[yy]at h;exact h
theorem ZgR (hc:X.calm=true):Y2 X (.builtin "sum") (λxs H Q=>∃(p:Addr) (ns:List Int),xs=[.ref p]/\ZI X.K H p (ns.map V.int)/\Q (.int ns.sum) H):=by
 intro jC s σ H xs us Q I r h;obtain⟨p,ns,rfl,hp,q⟩:=h;obtain⟨u,rfl,ru⟩:=Xu r
 cases ru
 obtain⟨jH,rv,pl,hz⟩:=I.tuple hp;have hi:IntsAre jH ns:=Wo rv;have hl:s.heap.IsTuple p jH.toArray:=pl;have hpl:p<s.heap.objs.size:=by obtain⟨o,ho,_⟩:=hl;exact qK ho
 have hne:p≠s.heap.objs.size:=qS hpl;have hil:jH.length=ns.length:=hi.length;refine call_sum_walkAnyS (wpAny_pyIter_tuple hl ⟨s.heap.objs.size,_,_,_,jH.toArray.size,_,_,λi=>ns.getD i 0,rfl,(qc1 (A:=X.A.in1) (I.ok.hd hc) _ p hne jH.toArray).toS,⟨⟨_,qD _ rfl,rfl,rfl⟩,hl.push _⟩,λb hb=>?_,λi u hu=>?_,λs' t' hm=>?_⟩)
 ·rw[size_push']
  rcases qu.mp hb with e | hb
  ·rw[e];exact yK _
  ·rw[qJ.mp hb];exact zF hpl
 ·have hx:jH[i]?=some u:=by simpa using hu
  obtain⟨n,t,h1,rfl⟩:=ZfR hi hx;exact⟨t,by show qbt n t=qbt (ns.getD i 0) t;rw[qz,h1];rfl⟩
 ·have hk:∀b o,s.heap.get? b=some o->s'.heap.get? b=some o:=λb o e=>
   hm.heap b o (λhI=>absurd (qK e) (by rw[qJ.mp hI];exact yB _)) (qf _ e)
  rw[Moved.eq_with hm,qL,hil,ZfS];exact⟨.int ns.sum,H,I.kept hk,⟨_,rfl⟩,q⟩
noncomputable def BD:List D->Option D
 | [.tup ds]=>(ZL ds).map λns=>.int ns.sum
 | _=>none
theorem ZiQ (hc:X.calm=true):XA X G (.builtin "sum") BD:=
 ⟨_,ZgR hc,λHf H s xs ds c Q e1 st r q k=>by
  match ds,q,r with
  | [.tup es],q,r=>
   obtain⟨ns,h1,rfl⟩:=ym.mp (show(ZL es).map (λns=>D.int ns.sum)=some c from q);obtain⟨v,rfl,rv⟩:=jg r;obtain⟨p,vs,rfl,np,hp,rp⟩:=jc.mp rv;rw[Wp h1]at rp;rw[jk rp]at hp;exact⟨p,ns,rfl,ZI.of (e1 _ _ np hp),k _ Hf H (.refl e1) st (ja.mpr rfl) (.scal λz=>z)⟩⟩
end
section
variable {X:Cx}{G:Gh}
theorem ZgS (hc:X.calm=true):Y2 X (.builtin "max") (λxs H Q=>∃p n r,xs=[.ref p]/\ZI X.K H p ((n::r).map V.int)/\Q (.int (Y7 n r)) H):=by
 intro jC s σ H xs us Q I r h;obtain⟨p,n,rr,rfl,hp,q⟩:=h;obtain⟨u,rfl,ru⟩:=Xu r
 cases ru
 obtain⟨jH,rv,pl,hz⟩:=I.tuple hp;have hi:IntsAre jH (n::rr):=Wo rv;obtain⟨xs,e⟩:=hi.allInts.items;have hns:n::rr=xs.toList.map (·.1):=by rw[<-hi.numsOf,<-nums_intItems,<-e]
 have hl:s.heap.IsTuple p jH.toArray:=pl;rw[e]at hl;have hsz:0<xs.size:=by
  have h3:0<(n::rr).length:=by simp
  rw[hns,qd,qy]at h3;exact h3
 have hpl:p<s.heap.objs.size:=by obtain⟨o,ho,_⟩:=hl;exact qK ho
 have hne:p≠s.heap.objs.size:=qS hpl;have hn1:(intItems xs).size=xs.size:=by simp[intItems]
 refine call_max_walk (wpAny_pyIter_tuple hl ⟨s.heap.objs.size,_,_,_,_,_,_,rfl,qc1 (A:=X.A.in1) (I.ok.hd hc) _ p hne (intItems xs),⟨⟨_,qD _ rfl,rfl,rfl⟩,hl.push _⟩,λb hb=>?_,by rw[hn1];exact hsz,CmpOf.ints_gt (numAt xs) (λ_ _=>intItems_at),λv h' tk hP hk=>?_⟩)
 ·rw[zV]
  rcases qu.mp hb with e1 | hb
  ·rw[e1];exact yK _
  ·rw[qJ.mp hb];exact zF hpl
 ·have hkk:∀b o,s.heap.get? b=some o->h'.get? b=some o:=λb o eb=>hk b o (λhm=>qS (qK eb) (qJ.mp hm)) (qf _ eb)
  rw[hn1]at hP;obtain⟨t,rfl⟩:=intItems_at hP;obtain⟨h1,h2⟩:=argBest_gt (numAt xs) (xs.size-1);have e2:numAt xs (argBest (λi j=>decide (numAt xs i > numAt xs j)) (xs.size-1))=Y7 n rr:=by
   refine Zfx ?_ λa ha=>?_
   ·rw[hns,numAt_eq];exact getD_mem (by rw[qd,qy];omega)
   ·rw[hns]at ha
    obtain⟨j,hj,rfl⟩:=mem_getD ha;rw[qd,qy]at hj;rw[<-numAt_eq];exact h2 j (by omega)
  rw[e2];exact⟨.int (Y7 n rr),H,I.kept (t':=tk) hkk,⟨_,rfl⟩,q⟩
noncomputable def BE:List D->Option D
 | [.tup ds]=>match ZL ds with | some (n::r)=>some (.int (Y7 n r)) | _=>none
 | _=>none
theorem ZgT (hc:X.calm=true):XA X G (.builtin "max") BE:=
 ⟨_,ZgS hc,λHf H s xs ds c Q e1 st r q k=>by
  match ds,q,r with
  | [.tup es],q,r=>
   have q:(match ZL es with | some (n::r)=>some (D.int (Y7 n r)) | _=>none)=some c:=q
   cases he:ZL es with
   | none=>rw[he]at q;cases q
   | some ns=>
    cases ns with
    | nil=>rw[he]at q;cases q
    | cons n rr=>
     rw[he]at q
     cases q
     obtain⟨v,rfl,rv⟩:=jg r;obtain⟨p,vs,rfl,np,hp,rp⟩:=jc.mp rv;rw[Wp he]at rp;rw[jk rp]at hp;exact⟨p,n,rr,rfl,ZI.of (e1 _ _ np hp),k _ Hf H (.refl e1) st (ja.mpr rfl) (.scal λz=>z)⟩⟩
end
end TF
namespace TS
open PySem.W
section
variable {lt:Nat->Nat->Bool}{n:Nat}{p q:Array Nat}
end
end TS
namespace TF
open L2 TS PySem.W
section
variable {X:Cx}{jC:Qb}{σ:St}{H:Hp}{s:Shared}
end
section
variable {prog:xB}{w:World}{A:xC}{E:xD}{s:Shared}
end
section
variable {X:Cx}{jC:Qb}{σ:St}{H:Hp}{s:Shared}
end
end TF
namespace TF
open L2 TS
section
variable {X:Cx}
end
section
variable {X:Cx}{G:Gh}{σ:St}
end
section
variable {X:Cx}{G:Gh}{P c:Addr}{q:Str}{kl:Nat}{frb:Bool}{e1:Expr}{f1:Zb->M D}{r1:Bool}{params:Arguments}{scope:Scope}{lpos ppos pos kpos:Pos}{XN N ps:List Str}{NS:List (Str×NameKind)}{cix:List Nat}{body:Expr}{fe:Zb->M D}
end
end TF
namespace TQ
open L2 TF TQ
open TP
open TP2
open TP3
end TQ
namespace TF
open L2
section
variable {X:Cx}{G:Gh}
end
section
variable {X:Cx}{G:Gh}
end
section
variable {X:Cx}{G:Gh}
end
end TF
namespace TQ
open L2 TF TQ
open TP
open TP2
open TP3
noncomputable def Zc9:Zb->M Out:=(Zg (ZR 2 (Zs YJ (Zc (Za 0) (Zc (dC (.int 3)) Zf))))
 (Zg (WS 3 (Xc Zf))
 (Zg (YL (YH (Ze Zq (Za 1) (dC (.int 0)))) (Zv 4)
 (Zg (WT 3 (fun ρ=>(Ze Zq (Xc (Zc (Zs YJ (Zc (Za 0) (Zc (dC (.int 5)) Zf))) (Zc (Zs YJ (Zc (Za 0) (Zc (dC (.int 1001)) Zf))) (Zc (dC (.int 1)) Zf)))) (Za 2)) (Z2 [3] ρ)))
 Zm))
 (Zg (ZN (ZM Vn (Zc (Za 3) Zf)))
 Zm))))
noncomputable def Vl:List D->M D:=runB 5 2 Zc9
noncomputable def Zcf:Zb->M Out:=(Zg (ZR 2 (dC (.int 0)))
 (Zg (YL (Yy (Zs B3 (Zc (Za 0) Zf))) (Zv 3)
 (Zg (ZR 2 (ZM UD (Zc (Za 2) (Zc (ZM UM (Zc (Z7 [none,some 1] (XB (Za 3)) (Zv 0) Z1 (Ze Zq (Za 1) (Za 0))) Zf)) Zf))))
 Zm))
 (Zg (ZN (Za 2))
 Zm)))
noncomputable def Vx:List D->M D:=runB 4 2 Zcf
end TQ
namespace TF
open L2
section
variable {X:Cx}{G:Gh}
noncomputable def ZmC (i j l m:Nat):D->Zb->Option Zb:=λd ρ=>match d with | .tup [a,b,c,e]=>some ((((ρ.set i (some a)).set j (some b)).set l (some c)).set m (some e)) | _=>none
theorem ZkA {i j l m:Nat}{x y z u:Str}{pos px py pz pu:Pos}{k:Nat}{ok:Nat->Prop}(hc:X.calm=true)(oi:ok i)(oj:ok j)(ol:ok l)(om:ok m)
  (hn:(assignEach [.Name x px,.Name y py,.Name z pz,.Name u pu] X.env).length=4:=by rfl) (hst:(assignEach [.Name x px,.Name y py,.Name z pz,.Name u pu] X.env).findIdx? (·.1)=none:=by rfl)
  (hp:UQ X [.Name x px,.Name y py,.Name z pz,.Name u pu] (Vo (Wu i) (Vo (Wu j) (Vo (Wu l) (Vo (Wu m) gNil))))):WC X G (.Tuple [.Name x px,.Name y py,.Name z pz,.Name u pu] k pos) ok (ZmC i j l m):=
 ⟨_,Zge hc hp hn hst,λx σ Hf H d ρ ρ' Q e r q k=>by
  match d,q,r with
  | .tup [a,b,c,d'],q,r=>
   cases q
   obtain⟨ad,vs,rfl,n,h,rl⟩:=jc.mp r;obtain⟨v1,r1,rfl,q1,q2⟩:=jd.mp rl;obtain⟨v2,r2,rfl,q3,q4⟩:=jd.mp q2;obtain⟨v3,r3,rfl,q5,q6⟩:=jd.mp q4;obtain⟨v4,r4,rfl,q7,q8⟩:=jd.mp q6;have:=Zi.nil_iff.mp q8;subst this;exact⟨ad,_,rfl,ZI.of (e _ _ n h),rfl,v1,_,rfl,v2,_,rfl,v3,_,rfl,v4,_,rfl,rfl,k _ (.cons oi q1 (.cons oj q3 (.cons ol q5 (.cons om q7 .nil))))⟩⟩
end
end TF
namespace TP2
open L2 TF TP
noncomputable abbrev nD (i:Nat):D:=.int (i:Int)
noncomputable def Zl (k:List Nat):D:=.tup (k.map nD)
noncomputable def Wd (jD:Qa)(i:Nat)(k:List Nat):Bool:=k.all λo=>decide ((o,i)∈jD)
noncomputable def kn (jD:Qa):Nat->List (List Nat)
 | 0=>[[]]
 | i+1=>kn jD i++((kn jD i).filter (Wd jD i)).map (· ++ [i])
theorem V5 {jD:Qa}:∀{i:Nat} {k:List Nat},k∈kn jD i->(∀o∈k,o<i)/\k.length<=i
 | 0,k,h=>by
  have:k=[]:=by simpa[kn]using h
  subst this;simp
 | i+1,k,h=>by
  rw[kn]at h;rcases qM.mp h with h | h
  ·have:=V5 h
   exact⟨λo ho=>zF (this.1 o ho),by omega⟩
  ·obtain⟨q,hq,rfl⟩:=qp.mp h
   have:=V5 (qN.mp hq).1;refine⟨λo ho=>?_,by simp;omega⟩;rcases qM.mp ho with ho | ho
   ·exact zF (this.1 o ho)
   ·rw[qJ.mp ho];omega
theorem ZkB (jD:Qa):∀i,(kn jD i).length<=2 ^ i
 | 0=>by simp[kn]
 | i+1=>by
  have h:=ZkB jD i;have h2:=yu (Wd jD i) (kn jD i);rw[kn,qE,qd,qcV];omega
theorem ZkC (p:Nat×Nat)(jD:Qa):XF (Zr p) (.dt (YQ [] jD))=some (.bl (decide (p∈jD))):=by
 have e:UL (Zr p) (.dt (YQ [] jD))=some (decide (p∈jD)):=by
  show(XJ [.int (p.1:Int),.int (p.2:Int)]).map (λk=>(Yb (YQ [] jD) k).isSome)=_;show some ((Yb (YQ [] jD) (XR p)).isSome)=_;rw[Zfr];simp[Yb]
 unfold XF;rw[e];rfl
theorem ZlY (k:List Nat)(i:Nat)(h:k.length<=1000):Z3 (Zl k) (.tup [nD i])=some (Zl (k ++ [i])):=by
 unfold Zl;show(if (k.map nD).length + [nD i].length<=xg then some (D.tup (k.map nD ++ [nD i]))else none)=_;rw[if_pos (by rw[qd,Yv];simp;omega),zx];rfl
noncomputable def Y3 (n:Nat)(jD:Qa)(p:Nat):List Nat:=(qk n).filter λo=>tied jD p o
noncomputable def Znx (n:Nat)(jD:Qa):D:=.lst ((qk n).map λp=>.lst ((Y3 n jD p).map nD))
theorem Zda (l:List Nat):Yq (l.map nD)=true:=by
 induction l with
 | nil=>simp[Yq]
 | cons a l ih=>simp[Yq,Zp,ih]
theorem ZhF (l:List Nat):Xd (l.map nD)=0:=by
 induction l with
 | nil=>simp[Xd]
 | cons a l ih=>simp[Xd,Z0,ih]
noncomputable def Y1 (l:List Nat):Nat:=l.foldl max 0
theorem ZeG (l:List Nat):∀a,a<=l.foldl max a/\∀x∈l,x<=l.foldl max a:=by
 induction l with
 | nil=>intro a;simp
 | cons b l ih=>
  intro a;obtain⟨h1,h2⟩:=ih (max a b);refine⟨?_,λx hx=>?_⟩
  ·show a<=l.foldl max (max a b);omega
  ·show x<=l.foldl max (max a b)
   rcases qu.mp hx with rfl | hx
   ·omega
   ·exact h2 x hx
theorem ZkD (l:List Nat):∀a:Nat,Y7 (a:Int) (l.map λ(i:Nat)=>(i:Int))=((l.foldl max a:Nat):Int):=by
 induction l with
 | nil=>intro a;rfl
 | cons b l ih=>
  intro a;show Y7 (max (a:Int) (b:Int)) (l.map λ(i:Nat)=>(i:Int))=_;rw[show max (a:Int) (b:Int)=((max a b:Nat):Int) by omega,ih];rfl
theorem Zb3 (l:List Nat):ZL (l.map nD)=some (l.map λ(i:Nat)=>(i:Int)):=by
 have:=JQ (l.map λ(i:Nat)=>(i:Int));rw[qC]at this;exact this
theorem Zdb:∀{a b:List Nat},a.Pairwise (· < ·)->b.Pairwise (· < ·)->(∀x,x∈a↔x∈b)->a=b
 | [],[],_,_,_=>rfl
 | [],y::b,_,_,h=>absurd ((h y).mpr (by simp)) (by simp)
 | x::a,[],_,_,h=>absurd ((h x).mp (by simp)) (by simp)
 | x::a,y::b,ha,hb,h=>by
  have ha':=ye.mp ha;have hb':=ye.mp hb;have e:x=y:=by
   have h1:=(h x).mp (by simp);have h2:=(h y).mpr (by simp);rcases qu.mp h1 with h1 | h1
   ·exact h1
   ·rcases qu.mp h2 with h2 | h2
    ·exact h2.symm
    ·have:=ha'.1 y h2
     have:=hb'.1 x h1;omega
  subst e;rw[Zdb ha'.2 hb'.2 λz=>?_];constructor
  ·intro hz
   rcases qu.mp ((h z).mp (qT _ hz))with e | e
   ·exact absurd (ha'.1 z hz) (by omega)
   ·exact e
  ·intro hz
   rcases qu.mp ((h z).mpr (qT _ hz))with e | e
   ·exact absurd (hb'.1 z hz) (by omega)
   ·exact e
noncomputable def RT (jD:Qa)(a b:Nat):Prop:=a<b/\(a,b)∈jD
theorem Jk {jD:Qa}:∀{n:Nat} {k:List Nat},k∈kn jD n↔k.Pairwise (RT jD)/\∀o∈k,o<n
 | 0,k=>by
  constructor
  ·intro h
   have:k=[]:=by simpa[kn]using h
   subst this;exact⟨.nil,by simp⟩
  ·rintro⟨_,h⟩
   cases k with
   | nil=>simp[kn]
   | cons a k=>exact absurd (h a (by simp)) (by omega)
 | n+1,k=>by
  rw[kn,qM];constructor
  ·rintro(h | h)
   ·have:=Jk.mp h
    exact⟨this.1,λo ho=>zF (this.2 o ho)⟩
   ·obtain⟨q,hq,rfl⟩:=qp.mp h
    obtain⟨hq1,hq2⟩:=qN.mp hq;have:=Jk.mp hq1;unfold Wd at hq2;rw[yw]at hq2;refine⟨qW.mpr ⟨this.1,by simp,λa ha b hb=>?_⟩,λo ho=>?_⟩
    ·rw[qJ.mp hb]
     exact⟨this.2 a ha,by simpa using hq2 a ha⟩
    ·rcases qM.mp ho with ho | ho
     ·exact zF (this.2 o ho)
     ·rw[qJ.mp ho];omega
  ·rintro⟨h1,h2⟩
   by_cases hn:n∈k
   ·right
    obtain⟨a,b,rfl⟩:=List.append_of_mem hn;have hp:=qW.mp h1;have hb:b=[]:=by
     cases b with
     | nil=>rfl
     | cons y b=>
      have r1:=(ye.mp hp.2.1).1 y (by simp);have:=h2 y (by simp);have:=r1.1;omega
    subst hb;have ha:∀o∈a,RT jD o n:=λo ho=>hp.2.2 o ho n (by simp);refine qp.mpr ⟨a,qN.mpr ⟨Jk.mpr ⟨hp.1,λo ho=>(ha o ho).1⟩,?_⟩,rfl⟩;unfold Wd;rw[yw];exact λo ho=>by simpa using(ha o ho).2
   ·left
    refine Jk.mpr ⟨h1,λo ho=>?_⟩;have:=h2 o ho;have:o≠n:=λz=>hn (z▸ho);omega
theorem Zdc (jD:Qa):∀n,(kn jD n).Nodup
 | 0=>by simp[kn]
 | n+1=>by
  rw[kn];refine qW.mpr ⟨Zdc jD n,?_,λa ha b hb e=>?_⟩
  ·refine ze.mpr (((Zdc jD n).sublist zm).imp λh e=>h ?_)
   exact List.append_cancel_right e
  ·obtain⟨q,_,rfl⟩:=qp.mp hb
   have:=(V5 ha).1 n (by rw[e];simp);omega
theorem ZlZ {jD:Qa}{n:Nat}{k:List Nat}(h:k∈kn jD n):k.Pairwise (· < ·):=(Jk.mp h).1.imp λh=>h.1
theorem ZkE {R:Nat->Nat->Prop}{k:List Nat}(hr:k.Pairwise (· < ·))(h:k.Pairwise R){a b:Nat}(ha:a∈k)(hb:b∈k)(hab:a<b):R a b:=by
 obtain⟨i,hi,rfl⟩:=qcN ha;obtain⟨j,hj,rfl⟩:=qcN hb;have p1:=zM.mp hr;have p2:=zM.mp h;rcases qbU i j with z | z | z
 ·exact p2 i j hi hj z
 ·subst z;exact absurd hab (yB _)
 ·have:=p1 j i hj hi z;omega
end TP2
namespace TP3
open L2 TF TP TS
open TP2
noncomputable def Yn (k:List Nat):List Int:=k.map λ(x:Nat)=>(x:Int)
theorem ZfT {jD:Qa}{n:Nat}(hn:n<=10):(kn jD n).length<=1024:=by
 have:=ZkB jD n;have:2 ^ n<=2 ^ 10:=qbB (by omega) hn;omega
theorem Vm {n:Nat}{jD:Qa}{k:List Nat}:k∈kn jD n↔k.Pairwise (· < ·)/\(∀o∈k,o<n)/\∀a∈k,∀b∈k,a≠b->tied jD a b=true:=by
 rw[Jk];constructor
 ·rintro⟨h1,h2⟩
  have hr:k.Pairwise (· < ·):=h1.imp λh=>h.1;refine⟨hr,h2,λa ha b hb hab=>?_⟩;by_cases hlt:a<b
  ·rw[Zcv hlt];simpa using(ZkE hr h1 ha hb hlt).2
  ·have hlt:b<a:=by omega
   rw[ZaQ,Zcv hlt];simpa using(ZkE hr h1 hb ha hlt).2
 ·rintro⟨hr,h2,h3⟩
  refine⟨?_,h2⟩;refine yA (λ{a b} ha hb hab=>?_) hr;refine⟨hab,?_⟩;have:=h3 a ha b hb (by omega);rw[Zcv hab]at this;simpa using this
theorem JV (n:Nat):(qk n).Pairwise (· < ·):=qco
theorem Zba {k:List Nat}(h:k.Pairwise (· < ·)):k.Nodup:=h.imp λh=>by omega
section
variable {m n:Nat}{f:Nat->Nat}{tm tn:Qa}
theorem ZbO {α:Type}[BEq α][LawfulBEq α]:∀{a b:List α},a.Nodup->(∀x∈a,x∈b)->a.length<=b.length
 | [],_,_,_=>by simp
 | x::a,b,nd,h=>by
  have nd':=zH.mp nd;have hx:=h x (by simp);have ih:=ZbO (a:=a) (b:=b.erase x) nd'.2 λy hy=>(qaT (λ(z:y=x)=>nd'.1 (by rw[<-z];exact hy))).mpr (h y (by simp[hy]));have:=qb4 hx;have:0<b.length:=qcp hx;simp only[qO];omega
theorem Zl0 {l:List Nat}(h:∃r,l=0::r):Y1 l∈l:=by
 have key:∀(l:List Nat) (a:Nat),l.foldl max a=a∨l.foldl max a∈l:=by
  intro l
  induction l with
  | nil=>intro a;exact .inl rfl
  | cons b l ih=>
   intro a;show l.foldl max (max a b)=a∨l.foldl max (max a b)∈b::l;rcases ih (max a b)with e | e
   ·rcases Nat.le_total a b with h | h
    ·right;rw[e,qb5 h];simp
    ·left;rw[e,Nat.max_eq_left h]
   ·right;exact qT _ e
 obtain⟨r,rfl⟩:=h;rcases key (0::r) 0 with e | e
 ·unfold Y1;rw[e];simp
 ·exact e
theorem ZgU {l:List Nat}{x:Nat}(h:x∈l):x<=Y1 l:=(ZeG l 0).2 x h
end
theorem Zbp (jD:Qa)(a b:Nat)(s:Pn):WX [.dt (YQ [] jD),.int a,.int b] s=some (.bl (tied jD a b),s):=by
 simp[WX,ZcR,runB,Zg,ZN,Zm,Ze,ZM,Zc,Zf,ZV,Za,Zo,Zy,Y5,Jq,UD,two_le,ZcT,ZkC,tied]
theorem ZeH {as:List Nat}{j:Nat}(hj:j<as.length):XV (as.map nD) (j:Int)=some (nD (as.getD j 0)):=by
 refine W0 ?_;rw[qI,qz,qw hj];rfl
theorem ZiR (ps:List Nat):Xp [.lst (ps.map nD)]=some (nD ps.length):=by
 show some (D.int ((ps.map nD).length:Nat))=_;rw[qd]
theorem Zl1 {d:D}(h:Zp d=true)(hd:Z0 d<=60):Yk d d=some (.bl true):=by
 unfold Yk Vc;rw[if_pos (by simp[h,hd]),ZcK d h]
theorem ZfU:∀{ds:List D},(∀d∈ds,Zp d=true)->Yq ds=true
 | [],_=>by simp[Yq]
 | d::ds,h=>by
  simp only[Yq,zh];exact⟨h d (by simp),ZfU λd hd=>h d (by simp[hd])⟩
section
variable (ap:Nat->Nat->Bool)
noncomputable def Ve (ps:List Nat)(p:Nat):Nat:=(ps.filter λo=>ap p o).length
noncomputable def YV (ps:List Nat)(p:Nat):List Nat:=ps.filter λo=>!decide (o=p) && !ap p o
noncomputable def Yi (ps:List Nat):Nat:=ps.getD ((ps.map (Ve ap ps)).idxOf (Y1 (ps.map (Ve ap ps)))) 0
structure KnA (ps K:List Nat):Prop where
 nd:K.Nodup
 sub:∀x∈K,x∈ps
 two:∀x∈K,∀y∈K,x≠y->ap x y=false
end
section
variable {ap:Nat->Nat->Bool}
theorem Jl {l:List Nat}(h:l≠[]):Y1 l∈l:=by
 have:=Zl0 (l:=0::l) ⟨l,rfl⟩;have e:Y1 (0::l)=Y1 l:=rfl;rw[e]at this;rcases qu.mp this with z | z
 ·cases l with
  | nil=>exact absurd rfl h
  | cons a r=>
   have h1:=ZgU (l:=a::r) (x:=a) (by simp);have h2:a=0:=by omega
   rw[z,h2];simp
 ·exact z
theorem Zl2 {ps:List Nat}(f:Nat->Nat){v:Nat}(h:v∈ps.map f):ps.getD ((ps.map f).idxOf v) 0∈ps/\f (ps.getD ((ps.map f).idxOf v) 0)=v:=by
 have hl:=qa7.mpr h;have e:=List.getElem_idxOf hl;rw[List.getElem_map]at e;have hl':(ps.map f).idxOf v<ps.length:=by simpa using hl
 rw[qz,qw hl'];exact⟨y4 hl',e⟩
theorem B4 {ps:List Nat}(h:ps≠[]):Yi ap ps∈ps:=(Zl2 (Ve ap ps) (Jl (by simpa using h))).1
theorem Uv {ps:List Nat}{p:Nat}:∀x∈YV ap ps p,x∈ps/\x≠p/\ap p x=false:=λx hx=>by
 obtain⟨h1,h2⟩:=qN.mp hx;simp only[zh,yF,decide_eq_false_iff_not]at h2;exact⟨h1,h2.1,h2.2⟩
theorem ZdY {ps:List Nat}{p:Nat}(h:p∈ps)(f:Nat->Bool)(hf:f p=false):(ps.filter f).length<ps.length:=by
 induction ps with
 | nil=>simp at h
 | cons a r ih=>
  have hr:=yu f r;rcases qu.mp h with e | h
  ·subst e
   rw[qaB (by simpa using hf)];simp only[qO];omega
  ·have:=ih h
   by_cases fa:f a=true
   ·rw[qbg fa];simp only[qO];omega
   ·rw[qaB fa];simp only[qO];omega
theorem ZfV {ps:List Nat}{p:Nat}(h:p∈ps):(YV ap ps p).length<ps.length:=ZdY h _ (by simp)
theorem Zdd {ps:List Nat}{p:Nat}(h:p∈ps):(ps.filter λo=>!decide (o=p)).length<ps.length:=ZdY h _ (by simp)
theorem jB {ps K:List Nat}{p:Nat}(sy:∀a b,ap a b=ap b a)(hp:p∈ps)(h:KnA ap (YV ap ps p) K):KnA ap ps (p::K) where
 nd:=zH.mpr ⟨λz=>(Uv p (h.sub p z)).2.1 rfl,h.nd⟩
 sub:=λx hx=>by
  rcases qu.mp hx with e | hx
  ·rw[e];exact hp
  ·exact(Uv x (h.sub x hx)).1
 two:=λx hx y hy ne=>by
  rcases qu.mp hx with e | hx
  ·rcases qu.mp hy with e' | hy
   ·exact absurd (e.trans e'.symm) ne
   ·rw[e];exact(Uv y (h.sub y hy)).2.2
  ·rcases qu.mp hy with e' | hy
   ·rw[e',sy];exact(Uv x (h.sub x hx)).2.2
   ·exact h.two x hx y hy ne
theorem KnA.mono {ps qs K:List Nat}(h:KnA ap ps K)(s:∀x∈ps,x∈qs):KnA ap qs K:=⟨h.nd,λx hx=>s x (h.sub x hx),h.two⟩
theorem KnA.rest {ps K:List Nat}{p:Nat}(h:KnA ap ps K):KnA ap (YV ap ps p) (K.filter λo=>!decide (o=p) && !ap p o) where
 nd:=h.nd.sublist zm
 sub:=λx hx=>by
  obtain⟨h1,h2⟩:=qN.mp hx;exact qN.mpr ⟨h.sub x h1,h2⟩
 two:=λx hx y hy=>h.two x (qN.mp hx).1 y (qN.mp hy).1
end
noncomputable def Xl (l:List Nat):List (Zu×V):=l.map λ(o:Nat)=>(yr (o:Int),V.bl true)
theorem ZeI {x:Nat}:∀l:List Nat,Yb (Xl l) (yr (x:Int))=if x∈l then some (.bl true)else none
 | []=>rfl
 | q::qs=>by
  by_cases e:q=x
  ·subst e
   show Yb ((yr (q:Int),V.bl true)::Xl qs) _=_;rw[WH rfl];simp
  ·have hn:¬((yr (q:Int):Zu)=yr (x:Int)):=λz=>by
    have:=qcZ z;omega
   show Yb ((yr (q:Int),V.bl true)::Xl qs) _=_;rw[WI hn,ZeI qs];have:x≠q:=λz=>e z.symm;simp[this]
theorem ZkF:∀(l:List Nat) (acc:List (Zu×V)),l.Nodup->(∀x∈l,Yb acc (yr (x:Int))=none)->WQ acc (l.map λo=>D.tup [nD o,.bl true])=some (acc++Xl l)
 | [],acc,_,_=>by simp[WQ,Xl]
 | p::ps,acc,nd,h=>by
  have nd':=zH.mp nd;show WQ (Ys acc (yr (p:Int)) (.bl true)) (ps.map λo=>D.tup [nD o,.bl true])=_;rw[ZkF ps _ nd'.2 λx hx=>?_,Zjo _ (h p (by simp))]
  ·show some ((acc ++ [_])++Xl ps)=some (acc++(_::Xl ps))
   simp
  ·rw[Zfa,if_neg (λz=>nd'.1 (by
    have:=qcZ z;have:x=p:=by omega
    exact this▸hx))]
   exact h x (by simp[hx])
theorem Zny (l:List Nat)(x:Nat):XF (nD x) (.dk (Xl l))=some (.bl (decide (x∈l))):=by
 show((some (yr (x:Int):Zu)).map λk=>(Yb (Xl l) k).isSome).map D.bl=_;simp only[yd];rw[ZeI];by_cases h:x∈l <;> simp[h]
theorem ZiS (l:List Nat)(x:Nat):VL (nD x) (.dk (Xl l))=some (.bl (!decide (x∈l))):=by
 show((some (yr (x:Int):Zu)).map λk=>(Yb (Xl l) k).isSome).map (λb=>D.bl (!b))=_;simp only[yd];rw[ZeI];by_cases h:x∈l <;> simp[h]
noncomputable def Y4 (n:Nat)(A:Nat->List Nat):D:=.lst ((qk n).map λp=>.dk (Xl (A p)))
theorem ZkG {n p:Nat}{A:Nat->List Nat}(h:p<n):Zq (Y4 n A) (nD p)=some (.dk (Xl (A p))):=by
 show XV _ (p:Int)=_;refine W0 ?_;rw[qI,yX h];rfl
section
variable {n:Nat}{A:Nat->List Nat}{ap:Nat->Nat->Bool}
theorem ZeJ (a b:Nat):XQ (nD a) (nD b)=some (.bl (!decide (a=b))):=by
 rw[nei];congr 3;rw[qaG,beq_iff_eq,decide_eq_true_eq];constructor <;> intro h <;> omega
theorem Zl3 {ds es:List D}(h:ds.length+es.length<=100000):Z3 (.lst ds) (.lst es)=some (.lst (ds++es)):=by
 show(if ds.length+es.length<=xg then some (D.lst (ds++es))else none)=_;rw[if_pos (by rw[Yv];omega)]
theorem Znz (ds:List D)(hp:Yq ds=true)(hd:Xd ds<=10):Yk (.lst ds) (.lst [])=some (.bl (decide (ds=[]))):=by
 have hok:Vc (.lst ds) (.lst [])=true:=by
  unfold Vc;simp[Zp,Z0,Yq,Xd,hp];omega
 unfold Yk;rw[if_pos hok]
 cases ds with
 | nil=>rfl
 | cons a r=>rfl
theorem Zde {l:List Nat}(h:l≠[]):BB [.lst (l.map nD)]=some (nD (Y1 l)):=by
 cases l with
 | nil=>exact absurd rfl h
 | cons m r=>
  have e:ZL ((m::r).map nD)=some ((m:Int)::r.map λ(i:Nat)=>(i:Int)):=Zb3 (m::r);show(match ZL ((m::r).map nD)with | some (n::r)=>some (D.int (Y7 n r)) | _=>none)=_;rw[e];show some (D.int (Y7 (m:Int) (r.map λ(i:Nat)=>(i:Int))))=_;rw[ZkD r m];have e2:Y1 (m::r)=r.foldl max m:=by
   show r.foldl max (max 0 m)=_;rw[qb5 (zB m)]
  rw[e2]
theorem ZgV {l:List Nat}{v:Nat}(h:v∈l):Zez (.lst (l.map nD)) (nD v)=some (nD (l.idxOf v)):=by
 show((ZL (l.map nD)).bind λns=>if (v:Int)∈ns then some (D.int (ns.idxOf (v:Int):Nat))else none)=_;rw[Zb3];show(if (v:Int)∈l.map (λ(i:Nat)=>(i:Int))then some (D.int ((l.map λ(i:Nat)=>(i:Int)).idxOf (v:Int):Nat))else none)=_;rw[if_pos (qp.mpr ⟨v,h,rfl⟩)];have:(l.map λ(i:Nat)=>(i:Int)).idxOf (v:Int)=l.idxOf v:=by
  clear h
  induction l with
  | nil=>rfl
  | cons a r ih=>
   rw[qX,List.idxOf_cons,List.idxOf_cons,ih];have:((a:Int)==(v:Int))=(a==v):=by
    rw[qaG,beq_iff_eq,beq_iff_eq];constructor <;> intro h <;> omega
   rw[this]
 rw[this]
end
noncomputable def Z9 (n:Nat)(jD:Qa):Qa:=(YF n).filter λp=>!decide (p∈jD)
theorem ZiT (n:Nat)(jD:Qa):Z8 n (Z9 n jD):=Z8.filter _
theorem Zbq {jD:Qa}{a b:Nat}:tied jD a b=true↔(min a b,max a b)∈jD:=by unfold tied;exact decide_eq_true_iff
theorem ZaT {n:Nat}{jD:Qa}{a b:Nat}:tied (Z9 n jD) a b=true↔a<n/\b<n/\a≠b/\tied jD a b=false:=by
 rw[Zbq];unfold Z9;rw[qN,Uw];have e:tied jD a b=decide ((min a b,max a b)∈jD):=rfl;rw[e];simp only[yF,decide_eq_false_iff_not];constructor
 ·rintro⟨⟨h1,h2⟩,h3⟩
  exact⟨by omega,by omega,by omega,h3⟩
 ·rintro⟨h1,h2,h3,h4⟩
  exact⟨⟨by omega,by omega⟩,h4⟩
theorem ZdB {n:Nat}{jD:Qa}(p o:Nat):tied (Z9 n jD) p o=decide (o∈Y3 n (Z9 n jD) p):=by
 unfold Y3;rw[qaG,decide_eq_true_iff,qN,qG];exact⟨λh=>⟨(ZaT.mp h).2.1,h⟩,λh=>h.2⟩
theorem ZkH {n:Nat}{jD:Qa}(a:Nat):tied (Z9 n jD) a a=false:=by
 cases h:tied (Z9 n jD) a a with
 | false=>rfl
 | true=>exact absurd rfl (ZaT.mp h).2.2.1
noncomputable def VN (n:Nat)(b:List Nat):List Nat:=(qk n).filter λx=>decide (x∈b)
theorem B6 {n:Nat}{b:List Nat}(nd:b.Nodup)(h:∀x∈b,x<n):(VN n b).Perm b:=by
 refine(yi (zY.sublist zm) nd).mpr λa=>?_;rw[qN,qG,decide_eq_true_iff];exact⟨λz=>z.2,λz=>⟨h a z,z⟩⟩
theorem ZaH (n:Nat)(b:List Nat):(VN n b).Pairwise (· < ·):=(JV n).sublist zm
theorem ZiU {n:Nat}{b:List Nat}(nd:b.Nodup)(h:∀x∈b,x<n)(hl:b.length<64):Zcw [.lst (b.map nD)]=some (.lst ((VN n b).map nD)):=by
 have e:ZL (b.map nD)=some (Yn b):=by
  have:b.map nD=(Yn b).map D.int:=by unfold Yn;rw[qC];rfl
  rw[this,JQ]
 show(match ZL (b.map nD)with | some ns=>if ns.length<64 then some (D.lst ((Xi ns).map .int))else none | none=>none)=_;rw[e];show(if (Yn b).length<64 then some (D.lst ((Xi (Yn b)).map .int))else none)=_;rw[if_pos (by unfold Yn;simp;omega)];have q:Yn (VN n b)=Xi (Yn b):=B8 ((B6 nd h).map _) (ze.mpr ((ZaH n b).imp λh=>by omega));rw[<-q];unfold Yn;rw[qC];rfl
theorem ZnA (p:Nat×Nat)(jD:Qa):XF (Zr p) (.du (YQ [] jD))=some (.bl (decide (p∈jD))):=ZkC p jD
theorem ZhG {jD : List (Nat × Nat)} : ∀ {i n : Nat}, i <= n -> (kn jD i).length <= (kn jD n).length := λ{i n} h => by
  induction n with
  | zero => have : i = 0 := by omega
            rw[this]; exact qq _
  | succ n ih =>
    by_cases e : i = n + 1
    · rw[e]; exact qq _
    · have := ih (by omega)
      rw[kn, qE]; omega
theorem Zl4 {i:Nat}{fx fv:Zb->M D}{ρ:Zb}{s:Pn}{x v:D}{kvs:List (List Zu×V)}{key:List Zu}{w:V}(h1:fv ρ s=some (v,s))(h2:fx ρ s=some (x,s))(h3:(ρ[i]?).bind id=some (.du kvs))(h4:keyT x=some key)(h5:Wv v=some w)(hl:kvs.length<xg) :
  BC i fx fv ρ s=some (.nx (ρ.set i (some (.du (Ys kvs key w)))),s):=by
 unfold BC Zo;rw[h1];simp only;rw[h2];simp only;rw[h3];simp only;rw[h4,h5];simp only;rw[if_pos hl];rfl
theorem Zl5 (jD:Qa):∀acc:List (List Zu×V),(YQ acc jD).length<=acc.length+jD.length:=by
 induction jD with
 | nil=>intro acc;exact qq _
 | cons t r ih=>
  intro acc;have h:=ih (Ys acc (XR t) (.bl true));have h2:=Uq acc (XR t) (.bl true);show(YQ (Ys acc (XR t) (.bl true)) r).length<=_;simp only[qO];omega
theorem ZkI (jD:Qa)(t:Nat×Nat):YQ [] (jD ++ [t])=Ys (YQ [] jD) (XR t) (.bl true):=by
 unfold YQ;rw[qbV];rfl
theorem ZeK (l:List Bool):VL (.bl false) (.lst (l.map D.bl))=some (.bl (l.all id)):=by
 have hp:Yq (l.map D.bl)=true:=ZfU λd hd=>by obtain⟨a,_,rfl⟩:=qp.mp hd;rfl
 have hd:Xd (l.map D.bl)<=0:=Zhw _ λd hd=>by obtain⟨a,_,rfl⟩:=qp.mp hd;simp[Z0]
 have ok:X9 (.bl false) (l.map D.bl)=true:=by
  unfold X9;simp[Zp,hp,Z0];omega
 have hi:Wa (.bl false) (l.map D.bl)=!l.all id:=by
  clear hp hd ok;unfold Wa
  induction l with
  | nil=>rfl
  | cons b r ih=>
   rw[qX,qaV,ih]
   cases b <;> simp[ZC]
 show((if X9 (.bl false) (l.map D.bl)=true then some (Wa (.bl false) (l.map D.bl))else none).map λb=>D.bl (!b))=_;rw[if_pos ok,hi];simp
theorem ZeL (n:Nat)(jD:Qa)(hn:n<=1000)(hk:(kn jD n).length<=1000000)(hl:jD.length<=100000)(s:Pn):B3 [Zz n jD] s=some (.lst ((kn jD n).map Zl),s):=by
 apply jr;refine Ok.runB rfl ?_;refine Ok.seq (.sown (.eq (a:=.du []) rfl ⟨rfl,?_⟩));refine Ok.seq (.sfor (λi ρ s'=>s=s'/\∃o2,ρ=[some (Zz n jD),some (.du (YQ [] (jD.take i))),o2,none,none,none,none]) (.eq (a:=jD.map Zr) (s':=s) (Uy (Zw (d:=Zz n jD) (e:=.int 1) rfl rfl web1)) ⟨⟨rfl,none,rfl⟩,λi d ρ s' hd hI=>?_,fun ρ' s' hI=>?_⟩))
 ·obtain⟨rfl,o2,rfl⟩:=hI
  rw[qI]at hd;obtain⟨t,ht,rfl⟩:=ym.mp hd;refine⟨_,rfl,?_⟩;have jN:=Zl5 (jD.take i) [];have htl:(jD.take i).length<=jD.length:=(zS _ _).length_le;refine Ok.seq (.eq (Zl4 (x:=Zr t) (v:=.bl true) (kvs:=YQ [] (jD.take i)) (key:=XR t) (w:=.bl true) rfl rfl rfl rfl rfl (by rw[Yv];simp at jN;omega)) (.next ⟨_,rfl,rfl,some (Zr t),?_⟩));have et:jD.take (i+1)=jD.take i ++ [t]:=by rw[qbI,ht];rfl
  rw[et,ZkI];rfl
 obtain⟨rfl,o2,rfl⟩:=hI;rw[qd,yy];refine Ok.seq (.sset (.eq (a:=.lst [.tup []]) (ZlP (XY rfl (by decide))) ?_));refine Ok.seq (.sfor (λi ρ s'=>s=s'/\∃o4 o5 o6,ρ=[some (Zz n jD),some (.du (YQ [] jD)),o2,some (.lst ((kn jD i).map Zl)),o4,o5,o6]) (.eq (X4 (Zw (d:=Zz n jD) (e:=.int 0) rfl rfl VT) (by omega)) ⟨⟨rfl,none,none,none,rfl⟩,λi d ρ s' hd hI=>?_,fun ρ' s' hI=>?_⟩))
 ·obtain⟨rfl,o4,o5,o6,rfl⟩:=hI
  obtain⟨hi,rfl⟩:=Us hd;refine⟨_,rfl,?_⟩;have hkl:(kn jD i).length<=1000000:=zb (ZhG (by omega)) hk;refine Ok.seq (.sown (.eq (a:=.lst []) (VM rfl (zB _)) ⟨rfl,?_⟩));refine Ok.seq (.sfor (λj ρ s'=>s=s'/\∃o6,ρ=[some (Zz n jD),some (.du (YQ [] jD)),o2,some (.lst ((kn jD i).map Zl)),some (nD i),some (.lst (((((kn jD i).take j).filter (Wd jD i)).map (· ++ [i])).map Zl)),o6]) (.eq (a:=(kn jD i).map Zl) (s':=s) (WM rfl) ⟨⟨rfl,o6,by simp⟩,λj d ρ s' hd hJ=>?_,fun ρ' s' hJ=>?_⟩))
  ·obtain⟨rfl,o6,rfl⟩:=hJ
   rw[qI]at hd;obtain⟨k,hk2,rfl⟩:=ym.mp hd;have hkm:=V5 (zt hk2);refine⟨_,rfl,?_⟩;generalize hC:D.lst (((((kn jD i).take j).filter (Wd jD i)).map (· ++ [i])).map Zl)=C;have hc:=Xm (src:=[none,some 4,some 1]) (fi:=XB (Za 6)) (τ:=Zv 0) (ft:=Z1) (fe:=Ze XF (ZV (Zc (Za 0) (Zc (Za 1) Zf))) (Za 2)) (ρ:=[some (Zz n jD),some (.du (YQ [] jD)),o2,some (.lst ((kn jD i).map Zl)),some (nD i),some C,some (Zl k)]) (s:=s) (ds:=k.map nD) (λd=>[some d,some (nD i),some (.du (YQ [] jD))]) (λ_=>true) (λd=>.bl (decide ((ZS d,i)∈jD))) (Uy rfl) (by rw[qd,Yv];omega) (λd hd=>by
    obtain⟨o,ho,rfl⟩:=qp.mp hd;exact⟨rfl,rfl,λ_=>Zw (d:=Zr (o,i)) (V3 rfl rfl) rfl (ZnA (o,i) jD)⟩)
   rw[We]at hc;have e0:(k.map nD).map (λd=>D.bl (decide ((ZS d,i)∈jD)))=(k.map λo=>decide ((o,i)∈jD)).map D.bl:=by rw[qC,qC];rfl
   rw[e0]at hc;have ha:VL (.bl false) (.lst ((k.map λo=>decide ((o,i)∈jD)).map D.bl))=some (.bl (Wd jD i k)):=by
    rw[ZeK,List.all_map];rfl
   have et:(kn jD i).take (j+1)=(kn jD i).take j ++ [k]:=by rw[qbI,hk2];rfl
   refine Ok.seq (.sif (.eq (Yw (Zw (d:=.bl false) rfl hc ha)) ?_));subst hC
   cases ok:Wd jD i k with
   | true=>
    have hf:(((kn jD i).take j).filter (Wd jD i)).length<=(kn jD i).length:=zb (yu _ _) (zS _ _).length_le;refine .seq (.sapp (ds:=((((kn jD i).take j).filter (Wd jD i)).map (· ++ [i])).map Zl) rfl (by rw[qd,qd,Yv];omega) (.eq (Zw (d:=Zl k) (e:=.tup [nD i]) rfl (ZlO rfl) (ZlY k i (by omega))) ?_));refine .next (.next ⟨_,rfl,rfl,some (Zl k),?_⟩);have e:((((kn jD i).take (j+1)).filter (Wd jD i)).map (· ++ [i])).map Zl=((((kn jD i).take j).filter (Wd jD i)).map (· ++ [i])).map Zl ++ [Zl (k ++ [i])]:=by
     rw[et,qa8,qbg ok,List.filter_nil];simp only[zx,qX,qby]
    rw[e];rfl
   | false=>
    refine .next (.next ⟨_,rfl,rfl,some (Zl k),?_⟩);rw[et,qa8,qaB (by simp[ok]),List.filter_nil,zr];rfl
  ·obtain⟨rfl,o6',rfl⟩:=hJ
   rw[qd,yy];have hl2:(kn jD (i+1)).length<=1000000:=zb (ZhG (by omega)) hk;rw[kn,qE,qd]at hl2;refine Ok.seq (.sset (.eq (Zw (d:=.lst ((kn jD i).map Zl)) (e:=.lst ((((kn jD i).filter (Wd jD i)).map (· ++ [i])).map Zl)) (c:=.lst ((kn jD (i+1)).map Zl)) rfl rfl ?_) (.next ⟨_,rfl,rfl,_,_,_,rfl⟩)));show(if ((kn jD i).map Zl).length+((((kn jD i).filter (Wd jD i)).map (· ++ [i])).map Zl).length<=xg then some (D.lst (_++_))else none)=_;rw[if_pos (by rw[qd,qd,qd,Yv];omega),kn,zx]
 ·obtain⟨rfl,o4,o5,o6,rfl⟩:=hI
  rw[XH];exact Ok.seq (.sret (.eq (a:=.lst ((kn jD n).map Zl)) rfl ⟨rfl,rfl⟩))
theorem ZiV (ps:List Nat)(k:Nat)(hk:k<=ps.length):Ue (ps.map nD) none (some (k:Int))=(ps.take k).map nD:=by
 unfold Ue;have e1:HT.sIx (ps.map nD).length 0 none=0:=rfl;have e2:HT.sIx (ps.map nD).length (ps.map nD).length (some (k:Int))=k:=by
  unfold HT.sIx;simp only[qd];rw[if_neg (by omega)];omega
 rw[e1,e2,qbc,qb0,List.map_take]
theorem Zdf (n:Nat)(jD:Qa){k:List Nat}(hk:k.Pairwise λa b=>tied jD a b=true)(hl:k.length<=1000)(s:Pn):B0 [Zz n jD,Zl k] s=some (.bl true,s):=by
 apply jr;refine Ok.runB rfl ?_;refine Ok.seq (.sfor (λi ρ s'=>s'=s/\∃o2 o3,ρ=[some (Zz n jD),some (Zl k),o2,o3]) (.eq (a:=ZY 0 k.length) (s':=s) (X4 (Ym (c:=nD k.length) (Zh rfl rfl) (by show some (D.int _)=_;rw[qd])) (by omega)) ⟨⟨rfl,none,none,rfl⟩,λi d ρ s' hd hI=>?_,fun ρ' s' hI=>?_⟩))
 ·obtain⟨rfl,o2,o3,rfl⟩:=hI
  obtain⟨hi,rfl⟩:=Us hd;refine⟨_,rfl,?_⟩;refine Ok.seq (.sfor (λj ρ s2=>s2=s'/\∃o3,ρ=[some (Zz n jD),some (Zl k),some (nD i),o3]) (.eq (a:=(k.take i).map nD) (s':=s') (Uy (by rw[<-ZiV k i (by omega)];rfl)) ⟨⟨rfl,o3,rfl⟩,λj d ρ s2 hd hJ=>?_,fun ρ' s2 hJ=>?_⟩))
  ·obtain⟨rfl,o3,rfl⟩:=hJ
   rw[qI]at hd;obtain⟨a,ha,rfl⟩:=ym.mp hd;refine⟨_,rfl,?_⟩;have hj:j<i:=by
    have:=(qA.mp ha).1;rw[qZ]at this;omega
   rw[zP hj]at ha;obtain⟨hjl,eja⟩:=qA.mp ha;have ht:=zM.mp hk j i hjl hi hj;rw[eja]at ht;have hg:k.getD i 0=k[i]:=by rw[qz,qw hi];rfl
   have hq:=Zfo n jD a (k.getD i 0) s2;rw[hg,ht]at hq;have hix:Zq (Zl k) (nD i)=some (nD (k.getD i 0)):=ZeH hi;rw[hg]at hix;refine Ok.seq (.sif (.eq (a:=false) (VD (b:=true) (Yw (YA (Zh rfl (Zh rfl (Zh (Zw (d:=Zl k) (e:=nD i) rfl rfl hix) rfl))) hq))) (.next ?_)));exact .next ⟨_,rfl,rfl,some (nD a),rfl⟩
  ·obtain⟨rfl,o3',rfl⟩:=hJ
   exact .next ⟨_,rfl,rfl,some (nD i),o3',rfl⟩
 ·obtain⟨rfl,o2,o3,rfl⟩:=hI
  exact Ok.seq (.sret (.eq (a:=.bl true) rfl ⟨rfl,rfl⟩))
theorem ZkJ {n:Nat}{jD:Qa}{k:List Nat}(h:k∈kn jD n):k.Pairwise λa b=>tied jD a b=true:=
 yA (λ{a b} ha hb hab=>(Vm.mp h).2.2 a ha b hb (by omega)) (Vm.mp h).1
theorem ZfW {k:List Nat}(h:k.Nodup):Xt (Yn k)=k.length:=by
 obtain⟨h1,h2⟩:=ZeA (Yn k);have nd:(Yn k).Nodup:=ze.mpr (h.imp λh e=>h (by omega));have:=((yi h1 nd).mpr h2).length_eq;unfold Xt;rw[this];unfold Yn;simp
theorem ZbP (k:List Nat):ZL (k.map nD)=some (Yn k):=by
 have:k.map nD=(Yn k).map D.int:=by unfold Yn;rw[qC];rfl
 rw[this,JQ]
theorem ZiW {f:Zb->M D}{ρ:Zb}{s s':Pn}{k:List Nat}(h:f ρ s=some (Zl k,s'))(hl:k.length<=1000):Zcy f ρ s=some (nD (Xt (Yn k)),s'):=by
 unfold Zcy Zo;rw[h];show(match ZL (k.map nD)with | some ns=>if ns.length<=1000 then Zy (D.int (Xt ns:Nat))else ZG | none=>ZG) s'=_;rw[ZbP];show(if (Yn k).length<=1000 then Zy (D.int (Xt (Yn k):Nat))else ZG) s'=_;rw[if_pos (by unfold Yn;simpa using hl)];rfl
theorem ZgW {k:List Nat}(hr:k.Pairwise (· < ·))(hl:k.length<64):ZcW [Zl k]=some (.lst (k.map nD)):=by
 show(match ZL (k.map nD)with | some ns=>if ns.length<64 then some (D.lst ((Xi ns).map .int))else none | none=>none)=_;rw[ZbP];show(if (Yn k).length<64 then some (D.lst ((Xi (Yn k)).map .int))else none)=_;rw[if_pos (by unfold Yn;simpa using hl)];have q:Yn k=Xi (Yn k):=B8 (.refl _) (ze.mpr (hr.imp λh=>by omega));rw[<-q];unfold Yn;rw[qC];rfl
theorem Zdg (k:List Nat):Zp (.lst (k.map nD))=true/\Z0 (.lst (k.map nD))<=60:=by
 constructor
 ·simp only[Zp];exact Zda k
 ·simp only[Z0];rw[ZhF];omega
theorem Zcg {n:Nat}{jD:Qa}(hn:n<=50){k:List Nat}(hk:k∈kn jD n)(s:Pn):BW [Zz n jD,Zl k] s=some (.bl true,s):=by
 obtain⟨h1,h2,h3⟩:=Vm.mp hk;have hl:=(V5 hk).2;apply jr;refine Ok.runB rfl ?_;have jN:Xp [Zl k]=some (nD k.length):=by show some (D.int _)=_;rw[qd]
 refine Ok.seq (.sif (.eq (a:=false) (Ju (VD (b:=true) (Yw (Ym (Zh rfl (Zh rfl rfl)) rfl))) (Yw (Zw (d:=nD (Xt (Yn k))) (e:=nD k.length) (ZiW rfl (by omega)) (Ym (Zh rfl rfl) jN) (by rw[ZfW (Zba h1),ZeJ];simp)))) (.next ?_)));refine Ok.seq (.sfor (λi ρ s'=>s'=s/\∃o2,ρ=[some (Zz n jD),some (Zl k),o2]) (.eq (a:=k.map nD) (s':=s) (Uy rfl) ⟨⟨rfl,none,rfl⟩,λi d ρ s' hd hI=>?_,fun ρ' s' hI=>?_⟩))
 ·obtain⟨rfl,o2,rfl⟩:=hI
  obtain⟨x,hx,rfl⟩:=qp.mp (zt hd);refine⟨_,rfl,?_⟩;have hxn:=h2 x hx;have e1:UT (.int 0) (nD x)=some (.bl true):=by show some (D.bl (decide _))=_;rw[decide_eq_true (by omega)]
  have e2:UU (nD x) (nD n)=some (.bl true):=by show some (D.bl (decide _))=_;rw[decide_eq_true (by omega)]
  have hch:Bn (dC (.int 0)) (BA UT (Za 2) (Bz UU (Ze Zq (Za 0) (dC (.int 0))))) [some (Zz n jD),some (Zl k),some (nD x)] s'=some (true,s'):=Ziz rfl (Zj6 (k:=true) (b:=true) rfl e1 λ_=>Zj5 (Zw (d:=Zz n jD) (e:=.int 0) rfl rfl VT) e2);refine Ok.seq (.sif (.eq (a:=false) (Ju (VD (b:=true) (Yw (Ym (Zh rfl (Zh rfl rfl)) rfl))) (Ju (Yw (Ym (Zh rfl (Zh rfl rfl)) rfl)) (VD (b:=true) hch))) (.next ?_)));exact .next ⟨_,rfl,rfl,some (nD x),rfl⟩
 ·obtain⟨rfl,o2,rfl⟩:=hI
  refine Ok.seq (.sret (.eq (a:=.bl true) (Znm (Zw (d:=.lst (k.map nD)) (e:=.lst (k.map nD)) (Ym (Zh rfl rfl) rfl) (Ym (Zh rfl rfl) (ZgW h1 (by omega))) (Zl1 (Zdg k).1 (Zdg k).2)) (YA (Zh rfl (Zh rfl rfl)) (Zdf n jD (ZkJ hk) (by omega) s'))) ⟨rfl,rfl⟩))
section
variable (jD:Qa)
end
section
variable {jD:Qa}{many:Nat}
end
theorem ZdZ {τ:D->Zb->Option Zb}{body:Zb->M Out}{s:Pn}(I:Zb->Prop)(g:Nat->Option D):∀(l:List Nat) (ρ:Zb),I ρ->
  (∀x∈l,∀ρ,I ρ->∃ρ1,τ (nD x) ρ=some ρ1/\match g x with | some d=>body ρ1 s=some (.rt d,s) | none=>∃ρ2,body ρ1 s=some (.nx ρ2,s)/\I ρ2)->
  match l.findSome? g with | some d=>XO τ body (l.map nD) ρ s=some (.rt d,s) | none=>∃ρ2,XO τ body (l.map nD) ρ s=some (.nx ρ2,s)/\I ρ2
 | [],ρ,h0,_=>⟨ρ,rfl,h0⟩
 | x::l,ρ,h0,h=>by
  obtain⟨ρ1,e1,e2⟩:=h x (by simp) ρ h0;rw[qcO]
  cases hg:g x with
  | some d=>
   rw[hg]at e2;exact Zev e1 e2
  | none=>
   rw[hg]at e2;obtain⟨ρ2,e3,h2⟩:=e2;have ih:=ZdZ I g l ρ2 h2 λy hy=>h y (by simp[hy]);simp only
   cases hl:l.findSome? g with
   | some d=>rw[hl]at ih;exact Zav e1 e3 ih
   | none=>
    rw[hl]at ih;obtain⟨ρ3,e4,h3⟩:=ih;exact⟨ρ3,Zav e1 e3 e4,h3⟩
noncomputable def XM (p:Nat×Nat):List Int:=[(p.1:Int),(p.2:Int)]
theorem ZfX {p q:Nat×Nat}(h:p.1<q.1∨p.1=q.1/\p.2<q.2):Xk (XM p) (XM q)=true:=by
 unfold Xk XM;rw[yF];rcases h with h | ⟨h1,h2⟩
 ·simp only[Yt]
  have e1:¬((q.1:Int)<(p.1:Int)):=by omega
  have e2:¬((q.1:Int)=(p.1:Int)):=by omega
  simp[e1,e2]
 ·simp only[Yt]
  have e1:¬((q.1:Int)<(p.1:Int)):=by omega
  have e2:¬((q.2:Int)<(p.2:Int)):=by omega
  have e3:¬((q.2:Int)=(p.2:Int)):=by omega
  simp[e1,e2,e3]
theorem Zd0 (n:Nat):∀i,(Xe n i).Pairwise λp q=>Xk (XM p) (XM q)=true
 | 0=>by unfold Xe;simp
 | i+1=>by
  rw[J7];refine qW.mpr ⟨Zd0 n i,ze.mpr ((JV _).imp λ{a b} h=>ZfX (p:=(i,i+1+a)) (q:=(i,i+1+b)) (.inr ⟨rfl,by show i+1+a<i+1+b;omega⟩)),λp hp q hq=>?_⟩;obtain⟨k,_,rfl⟩:=qp.mp hq;have:=(Zbh hp).1;exact ZfX (.inl this)
theorem ZkK {n:Nat}{jD:Qa}(hw:Z8 n jD):(jD.map XM).Pairwise λx y=>Xk x y=true:=ze.mpr ((Zd0 n n).sublist hw)
theorem ZiX {p q:Nat×Nat}(h:XM p=XM q):p=q:=by
 have h1:=(qcH h).1;have h2:=(qcH (qcH h).2).1;exact qbp (by omega) (by omega)
theorem Zd1 {n:Nat}{jD L:Qa}(hw:Z8 n jD)(hp:L.Perm jD):YN (L.map XM)=jD.map XM:=(Za5 (hp.symm.map _) (ZkK hw)).symm
end TP3
namespace TQ
open L2 TF TS
open TP
open TP2
open TP3
theorem ZnB {T:Nat->List D->M D}{i t:Nat}{fs:Zb->M (List D)}{ρ:Zb}{s s1:Pn}{ds cds:List D}{r:Option (D×Pn)}(h1:(ρ[i]?).bind id=some (.clo t cds))(h2:fs ρ s=some (ds,s1))(h3:T t (ds++cds) s1=r):BL T i fs ρ s=r:=by
 unfold BL Zo Za Y5;rw[h1];simp only[h2];exact h3
theorem ZnC {F:List D->M D}{t:Nat}{cix:List Nat}{f:Zb->M D}{ρ:Zb}{s s1 s2:Pn}{d c:D}{cds:List D}(h1:f ρ s=some (d,s1))(h2:Jr ρ cix=some cds)(n1:YI d=true)(n2:Xn cds=true)(h3:F [d,.clo t cds] s1=some (c,s2))(n3:YI c=true):dFnC F t cix f ρ s=some (c,s2):=by
 unfold dFnC Zo Y5;rw[h1,h2];simp only;rw[if_pos (by rw[n1,n2];rfl),h3];simp only;rw[if_pos n3];rfl
theorem ZbQ:∀{ds:List D},(∀d∈ds,YI d=true)->Xn ds=true
 | [],_=>rfl
 | d::ds,h=>by
  show(YI d&&Xn ds)=true;rw[h d zG,ZbQ λx (hx:x∈ds)=>h x (qT _ hx)];rfl
theorem Zl6 {n:Nat}{f:Zb->M D}{ds:List D}{s:Pn}{r:Option (D×Pn)}(hl:ds.length=n)(h:f (ds.map some) s=r):VS n f ds s=r:=by
 unfold VS;rw[if_pos hl];exact h
theorem ZiY (n:Nat)(jD:Qa):YI (Zz n jD)=true:=by
 have:Xn (jD.map Zr)=true:=ZbQ λd hd=>by obtain⟨p,_,rfl⟩:=qp.mp hd;rfl
 simp only[Zz,YI,Xn,this];rfl
theorem ZeM (lo:Int)(n:Nat):Xn (ZY lo n)=true:=ZbQ λd hd=>by
 unfold ZY at hd;obtain⟨i,_,rfl⟩:=qp.mp hd;rfl
theorem ZeN {row:D}{ds cds:List D}{t:Nat}(h:JB row ds)(hn:ds.length<=1000)(b:Nat×Nat->Bool)(s:Pn)(hb:∀p∈YF ds.length,Tl t ([ds.getD p.1 .non,ds.getD p.2 .non]++cds) s=some (.bl (b p),s)):JO [row,.clo t cds] s=some (Zz ds.length ((YF ds.length).filter b),s):=by
 have hln:∀r,ZM Xp (Zc (Za 0) Zf) (some row::r) s=some (nD ds.length,s):=λr=>Ym (Zh rfl rfl) h.len;refine Ws rfl (XI (W4 (YA (Zh (Zbi (hln _) hn) rfl) (Zfs s hn))) (XX (Wt ?_)));have hap:=ZjW ds.length hn;have hc:=Xm (src:=[none,some 1,some 0]) (fi:=Yy (Za 2)) (τ:=Zv 0) (ft:=ZO (BL Tl 1 (Zc (Ze Zq (Za 2) (Ze Zq (Za 0) (dC (.int 0)))) (Zc (Ze Zq (Za 2) (Ze Zq (Za 0) (dC (.int 1)))) Zf)))) (fe:=Za 0) (ρ:=[some row,some (.clo t cds),some (.lst ((YF ds.length).map Zr))]) (s:=s) (ds:=(YF ds.length).map Zr) (λd=>[some d,some (.clo t cds),some row]) (λd=>b (nat2 d)) (λd=>d) (WM rfl) (by rw[qd,Yv];omega) λd hd=>by
  obtain⟨p,hpm,rfl⟩:=qp.mp hd;have hpp:=Uw.mp hpm;refine⟨rfl,Yw (ZnB (t:=t) (cds:=cds) rfl (Zh (Zw (d:=row) (e:=nD p.1) rfl (Zw (d:=Zr p) (e:=.int 0) rfl rfl (Zhu _ _)) (h.ix (by omega))) (Zh (Zw (d:=row) (e:=nD p.2) rfl (Zw (d:=Zr p) (e:=.int 1) rfl rfl (Js _ _ _)) (h.ix (by omega))) rfl)) (hb p hpm)),λ_=>rfl⟩
 rw[Zeu (YF ds.length) _ b λp=>by rw[Ziv]]at hc;exact XY (Zh (hln _) (Zh (Ym (Zh hc rfl) rfl) rfl)) two_le
theorem range_getD {n i:Nat}(h:i<n):(ZY 0 n).getD i .non=nD i:=by
 rw[VE];simp[qbv,h]
theorem ZgX (n:Nat)(jD:Qa)(s:Pn)(hn:n<=1000)(hl:jD.length<=100000):U5 [Zz n jD] s=some (Zz n ((YF n).filter λp=>!decide (p∈jD)),s):=by
 refine Ws rfl (XI (W4 (YA (Zh rfl rfl) (ZdV n jD s hl))) (XX (Wt ?_)));refine ZnC (d:=.lst (ZY 0 n)) (cds:=[.dt (YQ [] jD)]) (Zbi (Zw (d:=Zz n jD) (e:=.int 0) rfl rfl VT) hn) rfl (by simp only[YI];exact ZeM _ _) rfl ?_ (ZiY _ _);have:=ZeN (row:=.lst (ZY 0 n)) (ds:=ZY 0 n) (cds:=[.dt (YQ [] jD)]) (t:=0) (.inl rfl) (by rw[XH];exact hn) (λp=>!decide (p∈jD)) s (λp hp=>by
  rw[XH]at hp;have hpp:=Uw.mp hp;rw[range_getD (by omega),range_getD (by omega)];show Zbm [nD p.1,nD p.2,.dt (YQ [] jD)] s=_;refine Zl6 rfl ?_;refine ZlM (a:=decide (p∈jD)) (YA (Zh rfl (Zh rfl (Zh rfl rfl))) ?_);rw[Zbp,Zcv hpp.1])
 rw[XH]at this;exact this
theorem maxN (a b:Nat):UD [nD a,nD b]=some (nD (max a b)):=by
 show some (D.int (if (b:Int) > (a:Int)then (b:Int)else (a:Int)))=_;rw[Znl]
noncomputable abbrev Uk (n:Nat)(jD:Qa):D:=.tup [nD n,.dt (YQ [] jD)]
theorem mk0 {n:Nat}{jD:Qa}:Zq (Uk n jD) (.int 0)=some (nD n):=Zhu _ _
theorem mk1 {n:Nat}{jD:Qa}:Zq (Uk n jD) (.int 1)=some (.dt (YQ [] jD)):=Js _ _ _
theorem ZkL (n:Nat)(jD:Qa)(p:Nat)(s:Pn)(hn:n<=100000):Jj [Uk n jD,.int p] s=some (.lst ((Y3 n jD p).map nD),s):=by
 refine Ws rfl (XX (Wt ?_));unfold Y3;show _=some (D.lst (((qk n).filter λo=>tied jD p o).map λ(i:Nat)=>D.int (i:Int)),s);rw[<-Zfp];refine Xm (ds:=ZY 0 n) (λd=>[some d,some (Uk n jD),some (.int p)]) (λd=>tied jD p (ZS d)) (λd=>d) (X4 (Zw (d:=Uk n jD) (e:=.int 0) rfl rfl mk0) hn) (Zet hn) ?_;intro d hd;obtain⟨i,hi,rfl⟩:=B7 hd;exact⟨rfl,Yw (YA (Zh (Zw (d:=Uk n jD) (e:=.int 1) rfl rfl mk1) (Zh rfl (Zh rfl rfl))) (Zbp jD p i s)),λ_=>rfl⟩
noncomputable def gN:Zb->M Out:=(Zg (ZR 1 (ZV (Zc (Ze Zq (Za 0) (dC (.int 0))) (Zc (Zs Um (Zc (Za 0) Zf)) Zf))))
 (Zg (ZN (Z7 [none,some 1] (YH (Ze Zq (Za 0) (dC (.int 0)))) (Zv 0) Z1 (Zs Jj (Zc (Za 1) (Zc (Za 0) Zf)))))
 Zm))
theorem ZeO (n:Nat)(jD:Qa)(hn:n<=1000)(hl:jD.length<=100000)(s:Pn):runB 2 1 gN [Zz n jD] s=some (Znx n jD,s):=by
 refine Ws rfl (XI (W4 (XY (Zh (Zw (d:=Zz n jD) (e:=.int 0) rfl rfl VT) (Zh (YA (Zh rfl rfl) (ZdV n jD s hl)) rfl)) two_le)) (XX (Wt ?_)));have hc:=Xm (src:=[none,some 1]) (fi:=YH (Ze Zq (Za 0) (dC (.int 0)))) (τ:=Zv 0) (ft:=Z1) (fe:=Zs Jj (Zc (Za 1) (Zc (Za 0) Zf))) (ρ:=[some (Zz n jD),some (Uk n jD)]) (s:=s) (ds:=ZY 0 n) (λd=>[some d,some (Uk n jD)]) (λ_=>true) (λd=>.lst ((Y3 n jD (ZS d)).map nD)) (X4 (Zw (d:=Zz n jD) (e:=.int 0) rfl rfl VT) (by omega)) (Zet (by omega)) λd hd=>by
  obtain⟨i,hi,rfl⟩:=B7 hd;exact⟨rfl,rfl,λ_=>YA (Zh rfl (Zh rfl rfl)) (ZkL n jD i s (by omega))⟩
 rw[We,VE,qC]at hc;exact hc
section
variable (ap:Nat->Nat->Bool)
end
section
variable {ap:Nat->Nat->Bool}
end
noncomputable def ZnD:Zb->M Out:=(Zg (ZN (Z7 [none,some 0,some 1] (Yy (Za 2)) (Zv 0) (ZO (Ze XF (Za 0) (Ze Zq (Za 1) (Za 2)))) (Za 0)))
 Zm)
noncomputable def ZgY:List D->M D:=runB 3 3 ZnD
noncomputable def gHW (Fs:List D->M D):Zb->M Out:=(Zg (ZR 4 (Z7 [none,some 2,some 0] (Yy (Za 3)) (Zv 0) (X7 (ZO (Ze XQ (Za 0) (Za 1))) (ZO (Ze VL (Za 0) (Ze Zq (Za 2) (Za 1))))) (Za 0)))
 (Zg (ZN (Ze Z3 (Xc (Zc (Za 2) Zf)) (Zs Fs (Zc (Za 0) (Zc (Za 1) (Zc (Za 4) Zf))))))
 Zm))
noncomputable def FHW (Fs:List D->M D):List D->M D:=runB 5 4 (gHW Fs)
theorem geN (a b:Nat):Vw (nD a) (nD b)=some (.bl (decide (b<=a))):=by
 show some (D.bl (decide ((b:Int)<=(a:Int))))=_;rw[show decide ((b:Int)<=(a:Int))=decide (b<=a)from decide_eq_decide.mpr (by omega)]
theorem ZgZ (P:Nat->Bool)(h:Nat->D)(ps:List Nat):(qk ps.length).findSome? (λi=>if P (ps.getD i 0)=true then some (h (ps.getD i 0))else none)=(ps.find? P).map h:=by
 have e:(qk ps.length).map (λi=>ps.getD i 0)=ps:=by
  apply qan;intro i;rw[qI];by_cases hi:i<ps.length
  ·rw[yX hi]
   show some (ps.getD i 0)=_;rw[qz,qw hi];rfl
  ·rw[yb (by simp;omega),yb (by omega)];rfl
 have k:∀l:List Nat,l.findSome? (λx=>if P x=true then some (h x)else none)=(l.find? P).map h:=λl=>by
  induction l with
  | nil=>rfl
  | cons x l ih=>
   rw[qcO,qah]
   cases hx:P x with
   | true=>rfl
   | false=>exact ih
 rw[<-k ps]
 conv=>rhs;rw[<-e]
 rw[List.findSome?_map];rfl
section
variable {n:Nat}{A:Nat->List Nat}{ap:Nat->Nat->Bool}
theorem ZkM (hA:∀p o,ap p o=decide (o∈A p)){p:Nat}(hp:p<n)(ps:List Nat)(hl:ps.length<=1000)(s:Pn):ZgY [Y4 n A,nD p,.lst (ps.map nD)] s=some (.lst ((ps.filter λo=>ap p o).map nD),s):=by
 have hc:=Xm (src:=[none,some 0,some 1]) (fi:=Yy (Za 2)) (τ:=Zv 0) (ft:=ZO (Ze XF (Za 0) (Ze Zq (Za 1) (Za 2)))) (fe:=Za 0) (ρ:=[some (Y4 n A),some (nD p),some (.lst (ps.map nD))]) (s:=s) (ds:=ps.map nD) (λd=>[some d,some (Y4 n A),some (nD p)]) (λd=>ap p (ZS d)) (λd=>d) (WM rfl) (by rw[qd,Yv];omega) (λd hd=>by
  obtain⟨x,hx,rfl⟩:=qp.mp hd;exact⟨rfl,Yw (Zw (d:=nD x) (e:=.dk (Xl (A p))) rfl (Zw (d:=Y4 n A) (e:=nD p) rfl rfl (ZkG hp)) (by rw[Zny,<-hA];rfl)),λ_=>rfl⟩)
 rw[qaY,qC]at hc;exact Ws rfl (XX (Wt hc))
end
end TQ
namespace TP3
open L2 TF TP TS
open TP2
section
variable {n:Nat}{jD:Qa}
end
end TP3
namespace TQ
open L2 TF TS
open TP
open TP2
open TP3
theorem Zd2 {w:Nat->Nat}{x:Nat}:∀{b:List Nat},x∈b->(b.map w).sum=w x+((b.erase x).map w).sum
 | y::r,h=>by
  by_cases e:y=x
  ·subst e;rw[List.erase_cons_head];simp
  ·rw[List.erase_cons_tail (by simpa using e)]
   have hx:x∈r:=by
    rcases qu.mp h with z | z
    ·exact absurd z.symm e
    ·exact z
   have:=Zd2 (w:=w) hx;simp only[qX,qam];omega
theorem ZeP {w:Nat->Nat}:∀{a b:List Nat},a.Nodup->(∀x∈a,x∈b)->(a.map w).sum<=(b.map w).sum
 | [],b,_,_=>by simp
 | x::r,b,nd,h=>by
  have nd':=zH.mp nd;have:=ZeP (w:=w) (b:=b.erase x) nd'.2 λy hy=>(qaT (by rintro rfl;exact nd'.1 hy)).mpr (h y (by simp[hy]));rw[Zd2 (w:=w) (h x (by simp))];simp only[qX,qam];omega
section
variable {jD:Qa}{ws:List Wb}
end
section
variable {n m:Nat}{t1 t2 T:Qa}
end
section
variable {jD:Qa}
variable {n:Nat}{ps:List Nat}
end
theorem Zdh:∀l:List Nat,(Yn l).sum=((l.sum:Nat):Int)
 | []=>rfl
 | x::r=>by
  show((x:Nat):Int)+(Yn r).sum=_;rw[Zdh r,qam];omega
theorem Zcz {f:List Nat}{i:Nat}(h:i<f.length):Zq (Zl f) (nD i)=some (nD (f.getD i 0)):=by
 refine W0 ?_;rw[qI,qw h,qz,qw h];rfl
noncomputable def wt (W K:List Nat):Nat:=(K.map λp=>W.getD p 0).sum
end TQ
namespace TF
open L2
section
variable {X:Cx}{G:Gh}{f:Zb->M D}
noncomputable def V7 (f:Zb->M D):Zb->M (List D):=fun ρ=>Zo (f ρ) λd=>match d with | .lst ds=>Zy ds | .tup ds=>Zy ds | _=>ZG
theorem ZkN {tg l:Expr}{r1:Bool}(hl:PD X G r1 l f):X3 X G tg l (V7 f):=by
 obtain⟨t1,p1,q1⟩:=Wq (tg:=tg) hl;obtain⟨t2,p2,q2⟩:=VC (tg:=tg) hl;refine⟨fun σ H R=>t1 σ H R∨t2 σ H R,λjC s σ H R I h=>h.elim (p1 jC s σ H R I) (p2 jC s σ H R I),fun σ Hf H ρ s ds s' R e1 e2 e3 e4 k=>?_⟩;obtain⟨d,s1,a1,a2⟩:=ZF e4
 cases d with
 | lst es=>exact .inl (q1 σ Hf H ρ s ds s' R e1 e2 e3 (by show Zo (f ρ) _ s=_;unfold Zo;rw[a1];exact a2) k)
 | tup es=>exact .inr (q2 σ Hf H ρ s ds s' R e1 e2 e3 (by show Zo (f ρ) _ s=_;unfold Zo;rw[a1];exact a2) k)
 | _=>cases a2
end
end TF
namespace TQ
open L2 TF TS
open TP
open TP2
open TP3
section
variable (ap:Nat->Nat->Bool)(W:List Nat)
noncomputable def V6 (ps:List Nat)(p:Nat):Bool:=decide (wt W (ps.filter λo=>ap p o)<=W.getD p 0)
noncomputable def light? (ps:List Nat):Option Nat:=ps.find? λp=>V6 ap W ps p
noncomputable def Ye:Nat->List Nat->List Nat
 | 0,_=>[]
 | m+1,ps=>if ps=[]then []else match light? ap W ps with
  | some p=>p::Ye m (YV ap ps p)
  | none=>if wt W (Ye m (ps.filter λo=>!decide (o=Yi ap ps)))<=wt W (Yi ap ps::Ye m (YV ap ps (Yi ap ps)))then Yi ap ps::Ye m (YV ap ps (Yi ap ps))
   else Ye m (ps.filter λo=>!decide (o=Yi ap ps))
end
section
variable {ap:Nat->Nat->Bool}{W:List Nat}
theorem B9 {ps:List Nat}{p:Nat}(h:light? ap W ps=some p):p∈ps/\wt W (ps.filter λo=>ap p o)<=W.getD p 0:=⟨List.mem_of_find?_eq_some h,by have:=List.find?_some h;simpa[V6]using this⟩
theorem Zbr (sy:∀a b,ap a b=ap b a):∀(m:Nat) (ps:List Nat),KnA ap ps (Ye ap W m ps)
 | 0,ps=>⟨qbG,λx hx=>by simp[Ye]at hx,λx hx=>by simp[Ye]at hx⟩
 | m+1,ps=>by
  unfold Ye;by_cases h0:ps=[]
  ·rw[if_pos h0];exact⟨qbG,λx hx=>by simp at hx,λx hx=>by simp at hx⟩
  ·rw[if_neg h0]
   have w:=λp (hp:p∈ps)=>jB sy hp (Zbr sy m (YV ap ps p));split
   ·rename_i p hp
    exact w _ (B9 hp).1
   ·split
    ·exact w _ (B4 h0)
    ·exact(Zbr sy m _).mono λx hx=>(qN.mp hx).1
theorem ZeQ (p:Nat)(K:List Nat):wt W (p::K)=W.getD p 0+wt W K:=by unfold wt;rw[qX,qam]
theorem ZfY (q:Nat->Bool):∀K:List Nat,wt W K=wt W (K.filter q)+wt W (K.filter λx=>!q x)
 | []=>rfl
 | a::K=>by
  have:=ZfY q K
  cases h:q a with
  | true=>simp only[yz,h,if_true,yW,qU,if_false,ZeQ];omega
  | false=>simp only[yz,h,if_true,Bool.not_false,qU,if_false,ZeQ];omega
theorem Zg0 (ir:∀a,ap a a=false){K:List Nat}{p:Nat}{ps:List Nat}(h:KnA ap ps K)(hm:p∈K∨wt W (ps.filter λo=>ap p o)<=W.getD p 0):wt W K<=wt W (K.filter λo=>!decide (o=p) && !ap p o)+W.getD p 0:=by
 have e:=ZfY (W:=W) (λo=>!decide (o=p) && !ap p o) K;have nd:(K.filter λo=>!(!decide (o=p) && !ap p o)).Nodup:=h.nd.sublist zm;have hd:wt W (K.filter λo=>!(!decide (o=p) && !ap p o))<=W.getD p 0:=by
  by_cases hp:p∈K
  ·have:=ZeP (w:=λp=>W.getD p 0) (b:=[p]) nd λx hx=>by
    obtain⟨h1,h2⟩:=qN.mp hx;by_cases hx2:x=p
    ·simp[hx2]
    ·have:=h.two p hp x h1 (λz=>hx2 z.symm)
     simp[hx2,this]at h2
   simpa[wt]using this
  ·rcases hm with hm | hm
   ·exact absurd hm hp
   ·refine zb (ZeP (w:=λp=>W.getD p 0) (b:=ps.filter λo=>ap p o) nd λx hx=>?_) hm
    obtain⟨h1,h2⟩:=qN.mp hx;refine qN.mpr ⟨h.sub x h1,?_⟩;have hx2:x≠p:=λz=>hp (z▸h1);simpa[hx2]using h2
 omega
theorem Zdi (sy:∀a b,ap a b=ap b a)(ir:∀a,ap a a=false):∀(m:Nat) (ps K:List Nat),ps.length<m->KnA ap ps K->wt W K<=wt W (Ye ap W m ps)
 | 0,ps,K,h,_=>by omega
 | m+1,ps,K,hl,h=>by
  unfold Ye;by_cases h0:ps=[]
  ·rw[if_pos h0]
   cases K with
   | nil=>exact qq _
   | cons a r=>have:=h.sub a (by simp);rw[h0]at this;simp at this
  ·rw[if_neg h0]
   have w:∀p,p∈ps->(p∈K∨wt W (ps.filter λo=>ap p o)<=W.getD p 0)->wt W K<=wt W (p::Ye ap W m (YV ap ps p)):=λp hp hm=>by
    have h1:=Zg0 ir h hm;have h2:=Zdi sy ir m (YV ap ps p) _ (by have:=ZfV (ap:=ap) hp;omega) (h.rest (p:=p));rw[ZeQ];omega
   split
   ·rename_i p hp
    exact w _ (B9 hp).1 (.inr (B9 hp).2)
   ·have hb:=B4 (ap:=ap) h0
    by_cases hk:Yi ap ps∈K
    ·have:=w _ hb (.inl hk)
     split
     ·exact this
     ·omega
    ·have h3:=Zdi sy ir m (ps.filter λo=>!decide (o=Yi ap ps)) K (by have:=Zdd hb;omega) ⟨h.nd,λx hx=>qN.mpr ⟨h.sub x hx,by
      have:x≠Yi ap ps:=λz=>hk (z▸hx);simpa using this⟩,h.two⟩
     split
     ·omega
     ·exact h3
theorem ZcA (m:Nat):∀(ps:List Nat),(Ye ap W m ps).length<=m:=by
 induction m with
 | zero=>intro ps;simp[Ye]
 | succ m ih=>
  intro ps;unfold Ye;split
  ·simp
  ·split
   ·rename_i p hp
    have:=ih (YV ap ps p);simp only[qO];omega
   ·split
    ·have:=ih (YV ap ps (Yi ap ps));simp only[qO];omega
    ·have:=ih (ps.filter λo=>!decide (o=Yi ap ps));omega
theorem ZhH (m:Nat)(ps:List Nat):∀x∈Ye ap W m ps,x∈ps:=by
 induction m generalizing ps with
 | zero=>intro x hx;simp[Ye]at hx
 | succ m ih=>
  intro x hx;unfold Ye at hx;by_cases h0:ps=[]
  ·rw[if_pos h0]at hx;cases hx
  ·rw[if_neg h0]at hx
   have w:=λp (hp:p∈ps) (h:x∈p::Ye ap W m (YV ap ps p))=>show x∈ps from by
    rcases qu.mp h with e | h
    ·rw[e];exact hp
    ·exact(Uv x (ih _ x h)).1
   split at hx
   ·rename_i p hp
    exact w _ (B9 hp).1 hx
   ·split at hx
    ·exact w _ (B4 h0) hx
    ·exact(qN.mp (ih _ x hx)).1
end
theorem ZcB (l:List Nat)(h:∀x∈l,x<=4294967296):UM [.lst (l.map nD)]=some (nD l.sum):=by
 have h1:ZL (l.map nD)=some (Yn l):=by
  rw[show l.map nD=(Yn l).map D.int by unfold Yn;rw[qC];rfl];exact JQ _
 show(match ZL (l.map nD)with | some ns=>if W9 ns=true then some (D.int ns.sum)else none | none=>none)=_;rw[h1];have h2:W9 (Yn l)=true:=yw.mpr λx hx=>by
  obtain⟨y,hy,rfl⟩:=qp.mp hx;have:=h y hy;simp only[zh,decide_eq_true_eq];omega
 show(if W9 (Yn l)=true then some (D.int (Yn l).sum)else none)=_;rw[if_pos h2,Zdh]
noncomputable def ZiZ:Zb->M Out:=(Zg (ZN (ZM UM (Zc (Z7 [none,some 0] (V7 (Za 1)) (Zv 0) Z1 (Ze Zq (Za 1) (Za 0))) Zf)))
 Zm)
noncomputable def Zi0:List D->M D:=runB 2 2 ZiZ
theorem ZnE {f:Zb->M D}{ρ:Zb}{s s':Pn}{ds:List D}(h:f ρ s=some (.lst ds,s')):V7 f ρ s=some (ds,s'):=by
 unfold V7 Zo;rw[h];rfl
theorem ZnF {f:Zb->M D}{ρ:Zb}{s s':Pn}{ds:List D}(h:f ρ s=some (.tup ds,s')):V7 f ρ s=some (ds,s'):=by
 unfold V7 Zo;rw[h];rfl
theorem Zb4 {n:Nat}{W:List Nat}(hW:W.length=n)(hb:∀x∈W,x<=4294967296){ps:List Nat}(hp:∀p∈ps,p<n)(hl:ps.length<=1000){c:D}(hc0:c=.lst (ps.map nD)∨c=.tup (ps.map nD))(s:Pn):Zi0 [Zl W,c] s=some (nD (wt W ps),s):=by
 have hc:=Xm (src:=[none,some 0]) (fi:=V7 (Za 1)) (τ:=Zv 0) (ft:=Z1) (fe:=Ze Zq (Za 1) (Za 0)) (ρ:=[some (Zl W),some c]) (s:=s) (ds:=ps.map nD) (λd=>[some d,some (Zl W)]) (λ_=>true) (λd=>nD (W.getD (ZS d) 0)) (by rcases hc0 with e | e <;> subst e;exact ZnE rfl;exact ZnF rfl) (by rw[qd,Yv];omega) (λd hd=>by
  obtain⟨x,hx,rfl⟩:=qp.mp hd;exact⟨rfl,rfl,λ_=>Zw (d:=Zl W) (e:=nD x) rfl rfl (Zcz (by rw[hW];exact hp x hx))⟩)
 rw[We,qC]at hc;have e:ps.map ((λd=>nD (W.getD (ZS d) 0))∘nD)=(ps.map λp=>W.getD p 0).map nD:=by rw[qC];rfl
 rw[e]at hc;refine Ws rfl (XX (Wt (Ym (Zh hc rfl) (ZcB _ λx hx=>?_))));obtain⟨p,hpp,rfl⟩:=qp.mp hx;refine hb _ ?_;rw[qz,qw (by rw[hW];exact hp p hpp)];exact y4 _
noncomputable def ZkO (Fw Fs:List D->M D):Zb->M Out:=(Zg (Yl (ZO (Ze UT (Zs Fw (Zc (Za 1) (Zc (Ze Zq (Za 3) (Za 4)) Zf))) (Ze Zq (Za 1) (Ze Zq (Za 2) (Za 4)))))
 (Zg (ZN (Zs (FHW Fs) (Zc (Za 0) (Zc (Za 1) (Zc (Ze Zq (Za 2) (Za 4)) (Zc (Za 2) Zf))))))
 Zm)
 Zm)
 Zm)
noncomputable def gHAW (Fw Fs:List D->M D):Zb->M Out:=(Zg (Yl (ZO (Ze Yk (Za 2) (Xc Zf)))
 (Zg (ZN (Xc Zf))
 Zm)
 Zm)
 (Zg (ZR 3 (Z7 [none,some 0,some 2] (Yy (Za 2)) (Zv 0) Z1 (Zs ZgY (Zc (Za 1) (Zc (Za 0) (Zc (Za 2) Zf))))))
 (Zg (YL (YH (ZM Xp (Zc (Za 2) Zf))) (Zv 4) (ZkO Fw Fs))
 (Zg (ZR 5 (Z7 [none] (Yy (Za 3)) (Zv 0) Z1 (ZM Xp (Zc (Za 0) Zf))))
 (Zg (ZR 6 (Ze Zq (Za 2) (Ze Zez (Za 5) (ZM BB (Zc (Za 5) Zf)))))
 (Zg (ZR 7 (Zs (FHW Fs) (Zc (Za 0) (Zc (Za 1) (Zc (Za 6) (Zc (Za 2) Zf))))))
 (Zg (ZR 8 (Zs Fs (Zc (Za 0) (Zc (Za 1) (Zc (Z7 [none,some 6] (Yy (Za 2)) (Zv 0) (ZO (Ze XQ (Za 0) (Za 1))) (Za 0)) Zf)))))
 (Zg (ZN (BR (ZO (Ze Vw (Zs Fw (Zc (Za 1) (Zc (Za 7) Zf))) (Zs Fw (Zc (Za 1) (Zc (Za 8) Zf))))) (Za 7) (Za 8)))
 Zm))))))))
noncomputable def UN (Fw:List D->M D):Nat->List D->M D
 | 0=>λ_=>ZG
 | n+1=>runB 9 3 (gHAW Fw (UN Fw n))
section
variable {n:Nat}{A:Nat->List Nat}{ap:Nat->Nat->Bool}
theorem ZnG {W:List Nat}(hA:∀p o,ap p o=decide (o∈A p)){Fs:List D->M D}{p:Nat}(hp:p<n){ps r:List Nat}(hl:ps.length<=1000)(hr:r.length<=1000){s:Pn}(hF:Fs [Y4 n A,Zl W,.lst ((YV ap ps p).map nD)] s=some (.lst (r.map nD),s)):FHW Fs [Y4 n A,Zl W,nD p,.lst (ps.map nD)] s=some (.lst ((p::r).map nD),s):=by
 have hc:=Xm (src:=[none,some 2,some 0]) (fi:=Yy (Za 3)) (τ:=Zv 0) (ft:=X7 (ZO (Ze XQ (Za 0) (Za 1))) (ZO (Ze VL (Za 0) (Ze Zq (Za 2) (Za 1))))) (fe:=Za 0) (ρ:=[some (Y4 n A),some (Zl W),some (nD p),some (.lst (ps.map nD)),none]) (s:=s) (ds:=ps.map nD) (λd=>[some d,some (nD p),some (Y4 n A)]) (λd=>!decide (ZS d=p) && !ap p (ZS d)) (λd=>d) (WM rfl) (by rw[qd,Yv];omega) (λd hd=>by
  obtain⟨x,hx,rfl⟩:=qp.mp hd;refine⟨rfl,ZlN (Yw (Zw (d:=nD x) (e:=nD p) rfl rfl (ZeJ x p))) λ_=>Yw (Zw (d:=nD x) (e:=.dk (Xl (A p))) rfl (Zw (d:=Y4 n A) (e:=nD p) rfl rfl (ZkG hp)) (by rw[ZiS,<-hA];rfl)),λ_=>rfl⟩)
 rw[qaY,qC]at hc;have e:(ps.filter ((λd=>!decide (ZS d=p) && !ap p (ZS d))∘nD)).map ((λd=>d)∘nD)=(YV ap ps p).map nD:=rfl;rw[e]at hc;refine Ws rfl (XI (W4 hc) (XX (Wt (Zw (d:=.lst [nD p]) (e:=.lst (r.map nD)) (VM (Zh rfl rfl) (by show 1<=xg;decide)) (YA (Zh rfl (Zh rfl (Zh rfl rfl))) hF) ?_))));rw[Zl3 (by rw[qd];simp;omega)];rfl
theorem ZbR {W:List Nat}{Fw:List D->M D}(hA:∀p o,ap p o=decide (o∈A p))(hW:W.length=n)(s:Pn)(hFw:∀ps:List Nat,(∀p∈ps,p<n)->ps.length<=1000->Fw [Zl W,.lst (ps.map nD)] s=some (nD (wt W ps),s)):∀(m:Nat) (ps:List Nat),ps.length<m->m<=100->(∀p∈ps,p<n)->UN Fw m [Y4 n A,Zl W,.lst (ps.map nD)] s=some (.lst ((Ye ap W m ps).map nD),s)
 | 0,_,h,_,_=>by omega
 | m+1,ps,hl,hm,hn=>by
  have hpl:Yq (ps.map nD)=true:=Zda ps;have hdp:Xd (ps.map nD)<=10:=by rw[ZhF];omega
  have heq:=Znz (ps.map nD) hpl hdp;by_cases h0:ps=[]
  ·subst h0
   refine Ws rfl (XX (Zj3 (Yw (Zw (d:=.lst []) (e:=.lst []) rfl (VM rfl (zB _)) heq)) (XX (Wt (d:=.lst []) (VM rfl (zB _))))))
  ·have hf:decide (ps.map nD=[])=false:=by simpa using h0
   rw[hf]at heq;have hcs:ps.map (Ve ap ps)≠[]:=by simpa using h0
   have hc:=Xm (src:=[none,some 0,some 2]) (fi:=Yy (Za 2)) (τ:=Zv 0) (ft:=Z1) (fe:=Zs ZgY (Zc (Za 1) (Zc (Za 0) (Zc (Za 2) Zf)))) (ρ:=[some (Y4 n A),some (Zl W),some (.lst (ps.map nD)),none,none,none,none,none,none]) (s:=s) (ds:=ps.map nD) (λd=>[some d,some (Y4 n A),some (.lst (ps.map nD))]) (λ_=>true) (λd=>.lst ((ps.filter λo=>ap (ZS d) o).map nD)) (WM rfl) (by rw[qd,Yv];omega) (λd hd=>by
    obtain⟨x,hx,rfl⟩:=qp.mp hd;exact⟨rfl,rfl,λ_=>YA (Zh rfl (Zh rfl (Zh rfl rfl))) (ZkM hA (hn x hx) ps (by omega) s)⟩)
   rw[We,qC]at hc;generalize hR:ps.map ((λd=>D.lst ((ps.filter λo=>ap (ZS d) o).map nD))∘nD)=R at hc;have kw:∀p,p∈ps->FHW (UN Fw m) [Y4 n A,Zl W,nD p,.lst (ps.map nD)] s=some (.lst ((p::Ye ap W m (YV ap ps p)).map nD),s):=λp hp=>by
    have hlt:=ZfV (ap:=ap) hp;have hb:=ZcA (ap:=ap) (W:=W) m (YV ap ps p);exact ZnG hA (hn p hp) (by omega) (by omega) (ZbR hA hW s hFw m (YV ap ps p) (by omega) (by omega) λx hx=>hn x (Uv x hx).1)
   have hrow:∀i,i<ps.length->Zq (.lst R) (nD i)=some (.lst ((ps.filter λo=>ap (ps.getD i 0) o).map nD)):=λi hi=>by
    refine W0 ?_;rw[<-hR,qI,qz,qw hi];rfl
   have hpl2:∀i,i<ps.length->Zq (.lst (ps.map nD)) (nD i)=some (nD (ps.getD i 0)):=λi hi=>ZeH hi;have hgm:∀i,i<ps.length->ps.getD i 0∈ps:=λi hi=>by
    rw[qz,qw hi];exact y4 hi
   have hfind:=ZdZ (τ:=Zv 4) (body:=ZkO Fw (UN Fw m)) (s:=s) (fun ρ=>∃o4,ρ=[some (Y4 n A),some (Zl W),some (.lst (ps.map nD)),some (.lst R),o4,none,none,none,none]) (λi=>if V6 ap W ps (ps.getD i 0)=true then some (.lst ((ps.getD i 0::Ye ap W m (YV ap ps (ps.getD i 0))).map nD))else none) (qk ps.length) [some (Y4 n A),some (Zl W),some (.lst (ps.map nD)),some (.lst R),none,none,none,none,none] ⟨none,rfl⟩ (λi hi ρ hρ=>by
    obtain⟨o4,rfl⟩:=hρ;have hi:=qG.mp hi;refine⟨_,rfl,?_⟩;have hcond:ZO (Ze UT (Zs Fw (Zc (Za 1) (Zc (Ze Zq (Za 3) (Za 4)) Zf))) (Ze Zq (Za 1) (Ze Zq (Za 2) (Za 4)))) [some (Y4 n A),some (Zl W),some (.lst (ps.map nD)),some (.lst R),some (nD i),none,none,none,none] s=some (V6 ap W ps (ps.getD i 0),s):=by
     refine Yw (Zw (YA (Zh rfl (Zh (Zw (d:=.lst R) (e:=nD i) rfl rfl (hrow i hi)) rfl)) (hFw _ (λp hp=>hn p (qN.mp hp).1) (by have:=yu (λo=>ap (ps.getD i 0) o) ps;omega))) (Zw (d:=Zl W) rfl (Zw (d:=.lst (ps.map nD)) (e:=nD i) rfl rfl (hpl2 i hi)) (Zcz (by rw[hW];exact hn _ (hgm i hi)))) ?_);show some (D.bl (decide (((wt W (ps.filter λo=>ap (ps.getD i 0) o):Nat):Int)<=((W.getD (ps.getD i 0) 0:Nat):Int))))=_;congr 2;exact decide_eq_decide.mpr (by omega)
    by_cases hq:V6 ap W ps (ps.getD i 0)=true
    ·rw[hq]at hcond⊢
     rw[if_pos rfl];exact XX (Zj3 hcond (XX (Wt (YA (Zh rfl (Zh rfl (Zh (Zw (d:=.lst (ps.map nD)) (e:=nD i) rfl rfl (hpl2 i hi)) (Zh rfl rfl)))) (kw _ (hgm i hi))))))
    ·rw[Bool.eq_false_iff.mpr hq]at hcond⊢
     rw[if_neg qaa];exact⟨_,XI (Zj4 hcond rfl) rfl,some (nD i),rfl⟩)
   rw[ZgZ (λp=>V6 ap W ps p) (λp=>.lst ((p::Ye ap W m (YV ap ps p)).map nD)) ps]at hfind;have hit:YH (ZM Xp (Zc (Za 2) Zf)) [some (Y4 n A),some (Zl W),some (.lst (ps.map nD)),some (.lst R),none,none,none,none,none] s=some ((qk ps.length).map nD,s):=by
    have:=X4 (f:=ZM Xp (Zc (Za 2) Zf)) (ρ:=[some (Y4 n A),some (Zl W),some (.lst (ps.map nD)),some (.lst R),none,none,none,none,none]) (s:=s) (n:=ps.length) (Ym (Zh rfl rfl) (ZiR ps)) (by omega);rw[VE]at this;exact this
   unfold Ye;rw[if_neg h0];refine Ws rfl (XI (Zj4 (Yw (Zw (d:=.lst (ps.map nD)) (e:=.lst []) rfl (VM rfl (zB _)) heq)) rfl) (XI (W4 hc) ?_));show Zg _ _ [some (Y4 n A),some (Zl W),some (.lst (ps.map nD)),some (.lst R),none,none,none,none,none] s=_
   cases ho:light? ap W ps with
   | some p=>
    have ho':ps.find? (λp=>V6 ap W ps p)=some p:=ho;rw[ho']at hfind;exact XX (Bd hit hfind)
   | none=>
    have ho':ps.find? (λp=>V6 ap W ps p)=none:=ho;rw[ho']at hfind;obtain⟨ρ2,hf2,o4,rfl⟩:=hfind;refine XI (Bd hit hf2) ?_;have hmax:=Zde hcs;have hp1:=B4 (ap:=ap) h0;have hix:Zq (.lst (ps.map nD)) (nD ((ps.map (Ve ap ps)).idxOf (Y1 (ps.map (Ve ap ps)))))=some (nD (Yi ap ps)):=ZeH (by
     have:=qa7.mpr (Jl hcs);simpa using this)
    have hcc:=Xm (src:=[none]) (fi:=Yy (Za 3)) (τ:=Zv 0) (ft:=Z1) (fe:=ZM Xp (Zc (Za 0) Zf)) (ρ:=[some (Y4 n A),some (Zl W),some (.lst (ps.map nD)),some (.lst R),o4,none,none,none,none]) (s:=s) (ds:=R) (λd=>[some d]) (λ_=>true) (λd=>match d with | .lst l=>nD l.length | _=>.non) (WM rfl) (by rw[<-hR,qd,Yv];omega) (λd hd=>by
     rw[<-hR]at hd;obtain⟨x,hx,rfl⟩:=qp.mp hd;exact⟨rfl,rfl,λ_=>Ym (Zh rfl rfl) rfl⟩)
    rw[We,<-hR,qC]at hcc;have e5:ps.map ((λd=>match d with | .lst l=>nD l.length | _=>D.non)∘((λd=>D.lst ((ps.filter λo=>ap (ZS d) o).map nD))∘nD))=(ps.map (Ve ap ps)).map nD:=by
     rw[qC];refine zl λx _=>?_;show nD ((ps.filter λo=>ap x o).map nD).length=nD (Ve ap ps x);rw[qd];rfl
    rw[e5,hR]at hcc;have hwo:=Zdd hp1;have ih2:=ZbR hA hW s hFw m (ps.filter λo=>!decide (o=Yi ap ps)) (by omega) (by omega) λx hx=>hn x (qN.mp hx).1;have hc2:=Xm (src:=[none,some 6]) (fi:=Yy (Za 2)) (τ:=Zv 0) (ft:=ZO (Ze XQ (Za 0) (Za 1))) (fe:=Za 0) (ρ:=[some (Y4 n A),some (Zl W),some (.lst (ps.map nD)),some (.lst R),o4,some (.lst ((ps.map (Ve ap ps)).map nD)),some (nD (Yi ap ps)),some (.lst ((Yi ap ps::Ye ap W m (YV ap ps (Yi ap ps))).map nD)),none]) (s:=s) (ds:=ps.map nD) (λd=>[some d,some (nD (Yi ap ps))]) (λd=>!decide (ZS d=Yi ap ps)) (λd=>d) (WM rfl) (by rw[qd,Yv];omega) (λd hd=>by
     obtain⟨x,hx,rfl⟩:=qp.mp hd;exact⟨rfl,Yw (Zw (d:=nD x) (e:=nD (Yi ap ps)) rfl rfl (ZeJ _ _)),λ_=>rfl⟩)
    have e2:((ps.map nD).filter λd=>!decide (ZS d=Yi ap ps)).map (λd=>d)=(ps.filter λo=>!decide (o=Yi ap ps)).map nD:=by rw[qaY,qC];rfl
    rw[e2]at hc2;have bl1:=ZcA (ap:=ap) (W:=W) m (YV ap ps (Yi ap ps));have bl2:=ZcA (ap:=ap) (W:=W) m (ps.filter λo=>!decide (o=Yi ap ps));have w1:=hFw (Yi ap ps::Ye ap W m (YV ap ps (Yi ap ps))) (λp hp=>by
     rcases qu.mp hp with e | hp
     ·rw[e];exact hn _ hp1
     ·exact hn p (Uv p (ZhH m _ p hp)).1) (by simp only[qO];omega)
    have w2:=hFw (Ye ap W m (ps.filter λo=>!decide (o=Yi ap ps))) (λp hp=>hn p (qN.mp (ZhH m _ p hp)).1) (by omega);refine XI (W4 hcc) (XI (W4 (Zw (d:=.lst (ps.map nD)) rfl (Zw (d:=.lst ((ps.map (Ve ap ps)).map nD)) rfl (Ym (Zh rfl rfl) hmax) (ZgV (Jl hcs))) hix)) (XI (W4 (YA (Zh rfl (Zh rfl (Zh rfl (Zh rfl rfl)))) (kw _ hp1))) (XI (W4 (YA (Zh rfl (Zh rfl (Zh hc2 rfl))) ih2)) (XX (Wt ?_)))));have hge:=geN (wt W (Yi ap ps::Ye ap W m (YV ap ps (Yi ap ps)))) (wt W (Ye ap W m (ps.filter λo=>!decide (o=Yi ap ps))));have ht:=Yw (Zw (g:=Vw) (ρ:=[some (Y4 n A),some (Zl W),some (.lst (ps.map nD)),some (.lst R),o4,some (.lst ((ps.map (Ve ap ps)).map nD)),some (nD (Yi ap ps)),some (.lst ((Yi ap ps::Ye ap W m (YV ap ps (Yi ap ps))).map nD)),some (.lst ((Ye ap W m (ps.filter λo=>!decide (o=Yi ap ps))).map nD))]) (s:=s) (YA (F:=Fw) (fs:=Zc (Za 1) (Zc (Za 7) Zf)) (Zh rfl (Zh rfl rfl)) w1) (YA (F:=Fw) (fs:=Zc (Za 1) (Zc (Za 8) Zf)) (Zh rfl (Zh rfl rfl)) w2) hge);generalize hX:Yi ap ps::Ye ap W m (YV ap ps (Yi ap ps))=X at ht⊢;generalize hY:Ye ap W m (ps.filter λo=>!decide (o=Yi ap ps))=Y at ht⊢;have hfin:∀ρ:Zb,(ρ[7]?).bind id=some (.lst (X.map nD))->(ρ[8]?).bind id=some (.lst (Y.map nD))->ZO (Ze Vw (Zs Fw (Zc (Za 1) (Zc (Za 7) Zf))) (Zs Fw (Zc (Za 1) (Zc (Za 8) Zf)))) ρ s=some (decide (wt W Y<=wt W X),s)->BR (ZO (Ze Vw (Zs Fw (Zc (Za 1) (Zc (Za 7) Zf))) (Zs Fw (Zc (Za 1) (Zc (Za 8) Zf))))) (Za 7) (Za 8) ρ s=some (.lst ((if wt W Y<=wt W X then X else Y).map nD),s):=fun ρ h7 h8 ht=>by
     unfold BR Zo;rw[ht];by_cases hq:wt W Y<=wt W X
     ·simp only[hq,decide_true,if_true]
      unfold Za Y5;rw[h7]
     ·simp only[hq,decide_false,if_false,qU]
      unfold Za Y5;rw[h8]
    exact hfin _ rfl rfl ht
end
noncomputable def Xz (n:Nat)(jD:Qa)(W:List Nat):List Nat:=VN n (Ye (tied (Z9 n jD)) W 26 (qk n))
noncomputable def gHKW (Fw:List D->M D):Zb->M Out:=(Zg (ZR 2 (Z7 [none] (Yy (Zs (runB 2 1 gN) (Zc (Zs U5 (Zc (Za 0) Zf)) Zf))) (Zv 0) Z1 (ZM Zeq (Zc (Z7 [none] (Yy (Za 0)) (Zv 0) Z1 (ZV (Zc (Za 0) (Zc (dC (.bl true)) Zf)))) Zf))))
 (Zg (ZN (ZM Vn (Zc (ZM Zcw (Zc (Zs (UN Fw 26) (Zc (Za 2) (Zc (Za 1) (Zc (Vz (Ze Zq (Za 0) (dC (.int 0)))) Zf)))) Zf)) Zf)))
 Zm))
theorem UX {n:Nat}{jD:Qa}{W:List Nat}(hw:Z8 n jD)(hn:n<=24):Xz n jD W∈kn jD n/\∀K∈kn jD n,wt W K<=wt W (Xz n jD W):=by
 have sy:∀a b,tied (Z9 n jD) a b=tied (Z9 n jD) b a:=ZaQ _;have hk:=Zbr (W:=W) sy 26 (qk n);have hlt:∀x∈Ye (tied (Z9 n jD)) W 26 (qk n),x<n:=λx hx=>qG.mp (hk.sub x hx);have hp:=B6 hk.nd hlt;constructor
 ·refine Vm.mpr ⟨ZaH _ _,λo ho=>hlt o (hp.mem_iff.mp ho),λa ha b hb ne=>?_⟩
  have ha':=hp.mem_iff.mp ha;have hb':=hp.mem_iff.mp hb;have:=hk.two a ha' b hb' ne
  cases h:tied jD a b with
  | true=>rfl
  | false=>
   have:=ZaT.mpr ⟨hlt a ha',hlt b hb',ne,h⟩;simp_all
 ·intro K hK
  obtain⟨h1,h2,h3⟩:=Vm.mp hK;have:=Zdi (W:=W) sy ZkH 26 (qk n) K (by rw[qQ];omega) ⟨Zba h1,λx hx=>qG.mpr (h2 x hx),λx hx y hy ne=>by
   cases h:tied (Z9 n jD) x y with
   | false=>rfl
   | true=>
    have h4:=(ZaT.mp h).2.2.2;rw[h3 x hx y hy ne]at h4;cases h4⟩
  have e:wt W (VN n (Ye (tied (Z9 n jD)) W 26 (qk n)))=wt W (Ye (tied (Z9 n jD)) W 26 (qk n)):=(hp.map λp=>W.getD p 0).sum_nat;show wt W K<=wt W (VN n _);omega
theorem Zg1 {n:Nat}{jD:Qa}{W:List Nat}:(Xz n jD W).length<=n:=by
 have:=yu (λx=>decide (x∈Ye (tied (Z9 n jD)) W 26 (qk n))) (qk n);rw[qQ]at this;exact this
theorem Zi1 {Fw:List D->M D}(n:Nat)(jD:Qa)(W:List Nat)(hn:n<=24)(hl:jD.length<=100000)(hW:W.length=n)(s:Pn)(hFw:∀ps:List Nat,(∀p∈ps,p<n)->ps.length<=1000->Fw [Zl W,.lst (ps.map nD)] s=some (nD (wt W ps),s)):runB 3 2 (gHKW Fw) [Zz n jD,Zl W] s=some (Zl (Xz n jD W),s):=by
 have sy:∀a b,tied (Z9 n jD) a b=tied (Z9 n jD) b a:=ZaQ _;have hk:=Zbr (W:=W) sy 26 (qk n);have hlt:∀x∈Ye (tied (Z9 n jD)) W 26 (qk n),x<n:=λx hx=>qG.mp (hk.sub x hx);have hp:=B6 hk.nd hlt;have htl:=(ZiT n jD).len hn;have hc:=Xm (src:=[none]) (fi:=Yy (Zs (runB 2 1 gN) (Zc (Zs U5 (Zc (Za 0) Zf)) Zf))) (τ:=Zv 0) (ft:=Z1) (fe:=ZM Zeq (Zc (Z7 [none] (Yy (Za 0)) (Zv 0) Z1 (ZV (Zc (Za 0) (Zc (dC (.bl true)) Zf)))) Zf)) (ρ:=[some (Zz n jD),some (Zl W),none]) (s:=s) (ds:=(qk n).map λp=>D.lst ((Y3 n (Z9 n jD) p).map nD)) (λd=>[some d]) (λ_=>true) (λd=>match d with | .lst ds=>.dk (Xl (ds.map ZS)) | _=>.non)
  (WM (YA (Zh (YA (Zh rfl rfl) (ZgX n jD s (by omega) hl)) rfl) (ZeO n (Z9 n jD) (by omega) (by omega) s))) (by rw[qd,qQ,Yv];omega) (λd hd=>by
  obtain⟨p,hp,rfl⟩:=qp.mp hd;refine⟨rfl,rfl,λ_=>?_⟩;have hnl:(Y3 n (Z9 n jD) p).length<=n:=by
   have:=yu (λo=>tied (Z9 n jD) p o) (qk n);rw[qQ]at this;exact this
  have hc2:=Xm (src:=[none]) (fi:=Yy (Za 0)) (τ:=Zv 0) (ft:=Z1) (fe:=ZV (Zc (Za 0) (Zc (dC (.bl true)) Zf))) (ρ:=[some (D.lst ((Y3 n (Z9 n jD) p).map nD))]) (s:=s) (ds:=(Y3 n (Z9 n jD) p).map nD) (λd=>[some d]) (λ_=>true) (λd=>D.tup [d,.bl true]) (WM rfl) (by rw[qd,Yv];omega) (λd hd=>⟨rfl,rfl,λ_=>XY (Zh rfl (Zh rfl rfl)) two_le⟩);rw[We,qC]at hc2;refine Ym (Zh hc2 rfl) ?_;show(if ((Y3 n (Z9 n jD) p).map ((λd=>D.tup [d,.bl true])∘nD)).length<=xg then (WQ [] _).map D.dk else none)=_;rw[if_pos (by rw[qd,Yv];omega)];have e:=ZkF (Y3 n (Z9 n jD) p) [] (zY.sublist zm) λ_ _=>rfl;show(WQ [] ((Y3 n (Z9 n jD) p).map λo=>D.tup [nD o,.bl true])).map D.dk=_;rw[e];show some (D.dk (Xl (Y3 n (Z9 n jD) p)))=some (D.dk (Xl (((Y3 n (Z9 n jD) p).map nD).map ZS)));rw[qC];have:(Y3 n (Z9 n jD) p).map (ZS∘nD)=Y3 n (Z9 n jD) p:=qcq _;rw[this])
 rw[We,qC]at hc;have e1:(qk n).map ((λd=>match d with | .lst ds=>D.dk (Xl (ds.map ZS)) | _=>.non)∘λp=>D.lst ((Y3 n (Z9 n jD) p).map nD))=(qk n).map λp=>.dk (Xl (Y3 n (Z9 n jD) p)):=by
  refine zl λp _=>?_;show D.dk (Xl (((Y3 n (Z9 n jD) p).map nD).map ZS))=_;rw[qC];have:(Y3 n (Z9 n jD) p).map (ZS∘nD)=Y3 n (Z9 n jD) p:=qcq _;rw[this]
 rw[e1]at hc;have hb:=ZbR (n:=n) (A:=Y3 n (Z9 n jD)) (ap:=tied (Z9 n jD)) (W:=W) ZdB hW s hFw 26 (qk n) (by rw[qQ];omega) (by omega) λp hp=>qG.mp hp;have hlr:Vz (Ze Zq (Za 0) (dC (.int 0))) [some (Zz n jD),some (Zl W),some (Y4 n (Y3 n (Z9 n jD)))] s=some (.lst ((qk n).map nD),s):=by
  unfold Vz Zo;rw[Zw (d:=Zz n jD) (e:=.int 0) rfl rfl VT];show(if -(2 ^ 62)<=(n:Int)/\(n:Int)<=2 ^ 24 then Zy (D.lst (ZY 0 (n:Int).toNat))else ZG) s=_;rw[if_pos ⟨by omega,by omega⟩,qaL,VE];rfl
 have hbl:=ZcA (ap:=tied (Z9 n jD)) (W:=W) 26 (qk n);have hs:=ZiU hk.nd hlt (by omega);exact Ws rfl (XI (W4 hc) (XX (Wt (Ym (c:=Zl (Xz n jD W)) (Zh (Ym (Zh (YA (Zh rfl (Zh rfl (Zh hlr rfl))) hb) rfl) hs) rfl) rfl))))
end TQ
namespace HT
open SetTable (leap runEnd Probe bits)
noncomputable def WV (m:Nat)(p:Probe):Probe:=
 if p.more > 0 then { p with j:=p.j+1,more:=p.more-1 } else
 { p with j:=(leap m p.i p.perturb).1,more:=runEnd m (leap m p.i p.perturb).1-(leap m p.i p.perturb).1,i:=(leap m p.i p.perturb).1,perturb:=(leap m p.i p.perturb).2 }
noncomputable def S0 (m i q:Nat):Probe:={ j:=i,more:=runEnd m i-i,i:=i,perturb:=q,dummy:=none }
noncomputable def Sh (m:Nat)(h:Int):Probe:=S0 m (bits h % (m+1)) (bits h)
theorem ZkP (t:SetTable)(h:Int):t.probeStart h=Sh t.mask h:=rfl
inductive Fd (m:Nat)(occ:Nat->Prop)(x:Nat):Probe->Prop
 | here {p:Probe} (h:p.j=x) (ho:occ x):Fd m occ x p
 | on {p:Probe} (ho:occ p.j) (h:Fd m occ x (WV m p)):Fd m occ x p
inductive Rc (m:Nat)(occ:Nat->Prop):Nat->Probe->Prop
 | here {n:Nat} {p:Probe} (h:¬occ p.j):Rc m occ (n+1) p
 | on {n:Nat} {p:Probe} (h:Rc m occ n (WV m p)):Rc m occ (n+1) p
theorem Fd.mono {m:Nat}{o1 o2:Nat->Prop}{x:Nat}{p:Probe}(h:∀j,o1 j->o2 j)(f:Fd m o1 x p):Fd m o2 x p:=by
 induction f with
 | here a b=>exact .here a (h _ b)
 | on a _ ih=>exact .on (h _ a) ih
theorem Rc.more {m:Nat}{occ:Nat->Prop}{n:Nat}{p:Probe}(r:Rc m occ n p):∀{k:Nat},n<=k->Rc m occ k p:=by
 induction r with
 | here h=>
  intro k hk;obtain⟨k,rfl⟩:∃j,k=j+1:=⟨k-1,by omega⟩;exact .here h
 | on _ ih=>
  intro k hk;obtain⟨k,rfl⟩:∃j,k=j+1:=⟨k-1,by omega⟩;exact .on (ih (by omega))
section
variable {m:Nat}{occ:Nat->Prop}
theorem ZkQ {n i q:Nat}(h:Rc m occ n (S0 m (leap m i q).1 (leap m i q).2)):∀(more j:Nat),Rc m occ (n+more+1) { j:=j,more:=more,i:=i,perturb:=q,dummy:=none }
 | 0,j=>.on h
 | k+1,j=>.on (ZkQ h k (j+1))
theorem ZnH (m i:Nat):runEnd m i-i<=9:=by unfold runEnd;split <;> omega
theorem ZeR {m i:Nat}(h:i<=m):i<=runEnd m i/\runEnd m i<=m:=by unfold runEnd;split <;> omega
noncomputable def YR (m:Nat):Nat->Nat×Nat->Nat×Nat
 | 0,x=>x
 | c+1,x=>YR m c (leap m x.1 x.2)
theorem Ja (m:Nat):∀(a b:Nat) (x:Nat×Nat),YR m (a+b) x=YR m b (YR m a x)
 | 0,b,x=>by rw[yS];rfl
 | a+1,b,x=>by
  rw[show a+1+b=(a+b)+1 by omega];exact Ja m a b _
theorem ZmD:∀(C:Nat) (x:Nat×Nat) (c:Nat),c<=C->¬occ (YR m c x).1->Rc m occ (10*C+1) (S0 m x.1 x.2)
 | C,x,0,_,h=>.here h
 | 0,x,c+1,hc,_=>by omega
 | C+1,x,c+1,hc,h=>by
  have ih:=ZmD C (leap m x.1 x.2) c (by omega) h;have:=ZkQ (n:=10*C+1) ih (runEnd m x.1-x.1) x.1;have hl:=ZnH m x.1;exact this.more (by omega)
theorem Zg2 (m:Nat):∀(c:Nat) (x:Nat×Nat),(YR m c x).2=x.2 / 32 ^ c
 | 0,x=>by simp[YR]
 | c+1,x=>by
  show(YR m c (leap m x.1 x.2)).2=_;rw[Zg2 m c];show x.2 / 32 / 32 ^ c=_;rw[Nat.div_div_eq_div_mul,qcV,Nat.mul_comm 32]
theorem ZkR (m:Nat):∀(c:Nat) (x:Nat×Nat),x.1<=m->(YR m c x).1<=m
 | 0,x,h=>h
 | c+1,x,h=>ZkR m c _ (by
  show(x.1*5+1+x.2 / 32) % (m+1)<=m;exact qaM (qaS _ (qbC m)))
noncomputable def orb (m:Nat):Nat->Nat->List Nat
 | 0,_=>[]
 | k+1,i=>i::orb m k ((i*5+1) % (m+1))
theorem ZeS (m c i:Nat):(YR m c (i,0)).2=0:=by rw[Zg2];simp
theorem Zl7 (m c i:Nat):YR m (c+1) (i,0)=(((YR m c (i,0)).1*5+1) % (m+1),0):=by
 rw[Ja m c 1];have:=ZeS m c i;generalize YR m c (i,0)=y at this;obtain⟨a,b⟩:=y
 cases this
 show((a*5+1+0 / 32) % (m+1),0 / 32)=_;simp
theorem ZhI (m:Nat):∀(k c:Nat) (x:Nat),x∈orb m k (YR m c (0,0)).1->∃c'<c+k,(YR m c' (0,0)).1=x
 | 0,c,x,h=>by simp[orb]at h
 | k+1,c,x,h=>by
  rcases qu.mp h with rfl | h
  ·exact⟨c,by omega,rfl⟩
  ·have e:((YR m c (0,0)).1*5+1) % (m+1)=(YR m (c+1) (0,0)).1:=by rw[Zl7]
   rw[e]at h;obtain⟨c',h1,h2⟩:=ZhI m k (c+1) x h;exact⟨c',by omega,h2⟩
noncomputable def Vj (m:Nat):Prop:=m=7∨m=31∨m=127∨m=511
noncomputable def JD (m:Nat):Bool:=((qk (m+1)).all λj=>(orb m (m+1) 0).contains j)&&(YR m (m+1) (0,0)).1==0
theorem Zoq:JD 7=true:=by decide +kernel
theorem ZnI:JD 31=true:=by decide +kernel
theorem Zl8:JD 127=true:=by decide +kernel
theorem Zl9:JD 511=true:=by decide +kernel
theorem cov {m:Nat}(hm:Vj m){i j:Nat}(hi:i<=m)(hj:j<=m):∃c≤m,(YR m c (i,0)).1=j:=by
 have hc:JD m=true:=by
  rcases hm with rfl | rfl | rfl | rfl
  ·exact Zoq
  ·exact ZnI
  ·exact Zl8
  ·exact Zl9
 unfold JD at hc;rw[zh,yw,beq_iff_eq]at hc;obtain⟨h1,h2⟩:=hc;have at':∀x≤m,∃c≤m,(YR m c (0,0)).1=x:=λx hx=>by
  have:=h1 x (qG.mpr (by omega));obtain⟨c,hc,e⟩:=ZhI m (m+1) 0 x (by simpa[YR]using this);exact⟨c,by omega,e⟩
 have per:YR m (m+1) (0,0)=(0,0):=qbp h2 (ZeS _ _ _);obtain⟨a,ha,ea⟩:=at' i hi;obtain⟨b,hb,eb⟩:=at' j hj;have eia:YR m a (0,0)=(i,0):=qbp ea (ZeS _ _ _);by_cases hab:a<=b
 ·refine⟨b-a,by omega,?_⟩
  rw[<-eia,<-Ja,show a+(b-a)=b by omega];exact eb
 ·refine⟨m+1+b-a,by omega,?_⟩
  rw[<-eia,<-Ja,show a+(m+1+b-a)=m+1+b by omega,Ja,per];exact eb
theorem ZhJ (h:Int):bits h<2 ^ 64:=by
 unfold bits;have:=qaF h (show(0:Int)<2 ^ 64 by decide);have:=qaj h (show(2 ^ 64:Int)≠0 by decide);omega
theorem YT {m:Nat}(hm:Vj m){i q:Nat}(hi:i<=m)(hq:q<2 ^ 64){j:Nat}(hj:j<=m):∃c≤m+13,(YR m c (i,q)).1=j:=by
 obtain⟨c,hc,e⟩:=cov hm (ZkR m 13 (i,q) hi) hj;refine⟨13+c,by omega,?_⟩;rw[Ja];have h2:(YR m 13 (i,q)).2=0:=by
  rw[Zg2];exact Nat.div_eq_of_lt (qab hq (by decide))
 have e2:YR m 13 (i,q)=((YR m 13 (i,q)).1,0):=qbp rfl h2;rw[e2];exact e
theorem BF (m:Nat)(h:Int):bits h % (m+1)<=m:=by
 exact qaM (qaS _ (qbC m))
theorem ZkS {m:Nat}(hm:Vj m)(h:Int){occ:Nat->Prop}{j:Nat}(hj:j<=m)(ho:¬occ j):Rc m occ (10*(m+15)) (Sh m h):=by
 obtain⟨c,hc,e⟩:=YT hm (BF m h) (ZhJ h) hj;exact(ZmD (m+13) (bits h % (m+1),bits h) c hc (by rw[e];exact ho)).more (by omega)
noncomputable def Pb (m:Nat)(p:Probe):Prop:=p.j+p.more<=m
theorem ZmE {m i:Nat}(q:Nat)(h:i<=m):Pb m (S0 m i q):=by
 have:=ZeR h;show i+(runEnd m i-i)<=m;omega
theorem ZnJ {m:Nat}{p:Probe}(h:Pb m p):Pb m (WV m p):=by
 unfold WV;split
 ·show p.j+1+(p.more-1)<=m
  unfold Pb at h;omega
 ·exact ZmE 0 (by
   show(p.i*5+1+p.perturb / 32) % (m+1)<=m;exact qaM (qaS _ (qbC m)))
end
theorem Zi2 {xs:Array Nat}(h:X1 xs){j:Nat}(hj:j∈xs.toList):xs[qH xs j]?=some j:=by
 obtain⟨a,b,c⟩:=JU h j;obtain⟨i,hi,e⟩:=List.mem_iff_getElem.mp hj;have hi':i<xs.size:=by simpa using hi
 have e':xs.getD i 0=j:=by rw[qV,qj hi'];simpa using e
 have h1:¬i<qH xs j:=λz=>by have:=a i z;omega
 have h2:¬qH xs j<i:=λz=>by
  have:=b (qH xs j) (qq _) (by omega);have:=h.lt hi' z;omega
 have:qH xs j=i:=by omega
 rw[this,qj hi'];rw[<-e',qV,qj hi'];rfl
theorem ZkT {t:SetTable}(hd:t.dummies = #[])(hr:X1 t.place)(j:Nat):(∃i,t.slot j=.live i/\t.place[i]?=some j)∨(t.slot j=.empty/\j∉t.place.toList):=by
 by_cases h:t.place[qH t.place j]?=some j
 ·exact .inl ⟨_,ZiL h,h⟩
 ·refine .inr ⟨?_,λz=>h (Zi2 hr z)⟩
  unfold SetTable.slot;dsimp only;rw[if_neg (by simpa using h),if_neg (by rw[hd];simp[qcW])]
theorem Zd3 {xs:Array Nat}(h:X1 xs){i k x:Nat}(h1:xs[i]?=some x)(h2:xs[k]?=some x):i=k:=by
 obtain⟨l1,e1⟩:=zJ.mp h1;obtain⟨l2,e2⟩:=zJ.mp h2;have d1:xs.getD i 0=x:=by rw[qV,h1];rfl
 have d2:xs.getD k 0=x:=by rw[qV,h2];rfl
 rcases qbU i k with z | z | z
 ·have:=h.lt l2 z;omega
 ·exact z
 ·have:=h.lt l1 z;omega
theorem Zd4 {xs:Array Nat}{i x:Nat}(h:xs[i]?=some x):x∈xs.toList:=by
 rw[<-qB]at h;exact zt h
noncomputable abbrev XE (t:SetTable):Nat->Prop:=λj=>j∈t.place.toList
theorem Zi3 (m:Nat)(p:Probe):(WV m p).dummy=p.dummy:=by unfold WV;split <;> rfl
theorem ZhK {t:SetTable}{g:Nat->Int}{h:Int}(hd:t.dummies = #[])(hr:X1 t.place):∀(f n:Nat) (p:Probe),Rc t.mask (XE t) n p->n<=f->p.dummy=none->Pb t.mask p->
  (∃j,qbh t g h f p=some (.empty j none)/\j∉t.place.toList/\j<=t.mask/\(∀i x,t.place[i]?=some x->Fd t.mask (XE t) x p->g i≠h)/\∀oc:Nat->Prop,(∀j,XE t j->oc j)->oc j->Fd t.mask oc j p)∨
  (∃j i q n',qbh t g h f p=some (.candidate j i q)/\t.slot j=.live i/\t.place[i]?=some j/\g i=h/\Rc t.mask (XE t) n' q/\n'<n/\q.dummy=none/\Pb t.mask q/\(∀i' x,t.place[i']?=some x->Fd t.mask (XE t) x p->g i'≠h∨i'=i∨Fd t.mask (XE t) x q)/\∀oc:Nat->Prop,(∀j,XE t j->oc j)->∀y,Fd t.mask oc y q->Fd t.mask oc y p)
 | 0,n,p,rc,hn,_,_=>by
  cases rc <;> omega
 | f+1,n,p,rc,hn,hp,hb=>by
  unfold qbh;rcases ZkT hd hr p.j with⟨i,e,hi⟩ | ⟨e,hi⟩
  ·rw[e]
   dsimp only;have ho:XE t p.j:=Zd4 hi;obtain⟨n,rfl,rc'⟩:∃k,n=k+1/\Rc t.mask (XE t) k (WV t.mask p):=by
    cases rc with
    | here z=>exact absurd ho z
    | on z=>exact⟨_,rfl,z⟩
   have hp':(WV t.mask p).dummy=none:=by rw[Zi3];exact hp
   have hb':=ZnJ hb;by_cases hg:g i=h
   ·rw[if_pos (by simpa using hg)]
    refine .inr ⟨p.j,i,WV t.mask p,n,rfl,e,hi,hg,rc',by omega,hp',hb',λi' x hx fd=>?_,λoc ho' y fd=>.on (ho' _ ho) fd⟩
    cases fd with
    | here a b=>
     subst a;exact .inr (.inl (Zd3 hr hx hi))
    | on a b=>exact .inr (.inr b)
   ·rw[if_neg (by simpa using hg)]
    have pass:∀i' x,t.place[i']?=some x->Fd t.mask (XE t) x p->g i'≠h∨Fd t.mask (XE t) x (WV t.mask p):=λi' x hx fd=>by
     cases fd with
     | here a b=>
      subst a;rw[Zd3 hr hx hi];exact .inl hg
     | on a b=>exact .inr b
    rcases ZhK hd hr f n (WV t.mask p) rc' (by omega) hp' hb' with⟨j,z1,z2,z3,z4,z5⟩ | ⟨j,i2,q,n',z1,z2,z3,z4,z5,z6,z7,z8,z9,z10⟩
    ·refine .inl ⟨j,z1,z2,z3,λi' x hx fd=>?_,λoc a b=>.on (a _ ho) (z5 oc a b)⟩
     rcases pass i' x hx fd with z | z
     ·exact z
     ·exact z4 i' x hx z
    ·refine .inr ⟨j,i2,q,n',z1,z2,z3,z4,z5,by omega,z7,z8,λi' x hx fd=>?_,λoc a y b=>.on (a _ ho) (z10 oc a y b)⟩
     rcases pass i' x hx fd with z | z
     ·exact .inl z
     ·exact z9 i' x hx z
  ·rw[e]
   dsimp only;refine .inl ⟨p.j,by rw[hp],hi,by unfold Pb at hb;omega,λi' x hx fd=>?_,λoc _ b=>.here rfl b⟩
   cases fd with
   | here a b=>exact absurd (a▸b) hi
   | on a b=>exact absurd a hi
noncomputable abbrev BM (ow:Array (Option Nat)):Nat->Prop:=λj=>∃k,ow[j]?=some (some k)
theorem ZkU {m:Nat}{occ:Nat->Prop}{i q e x:Nat}:∀(d b:Nat),b+d=x->x<=e->(∀a,b<=a->a<x->occ (i+a))->occ (i+x)->Fd m occ (i+x) { j:=i+b,more:=e-b,i:=i,perturb:=q,dummy:=none }
 | 0,b,hb,he,h1,h2=>.here (by show i+b=i+x;omega) h2
 | d+1,b,hb,he,h1,h2=>.on (h1 b (qq _) (by omega)) (by
  have:=ZkU (m:=m) (q:=q) (e:=e) d (b+1) (by omega) he (λa ha=>h1 a (by omega)) h2;unfold WV;rw[if_pos (by show e-b > 0;omega)];exact this)
theorem ZhL {m:Nat}{occ:Nat->Prop}{i q x:Nat}(h:Fd m occ x (S0 m (leap m i q).1 (leap m i q).2)):∀(more j:Nat),(∀a≤more,occ (j+a))->Fd m occ x { j:=j,more:=more,i:=i,perturb:=q,dummy:=none }
 | 0,j,ho=>.on (ho 0 (qq _)) h
 | k+1,j,ho=>.on (ho 0 (by omega)) (by
  have:=ZhL h k (j+1) λa ha=>by rw[qaX,Nat.add_comm 1];exact ho (a+1) (by omega)
  exact this)
theorem Zd5 {m:Nat}{ow:Array (Option Nat)}(hs:ow.size=m+1):∀(f i q j:Nat),i<=m->zN m ow f i q=some j->ow[j]?=some none/\∀oc:Nat->Prop,(∀j,BM ow j->oc j)->oc j->Fd m oc j (S0 m i q)
 | 0,i,q,j,_,h=>by unfold zN at h;cases h
 | f+1,i,q,j,hi,h=>by
  have hm:=ZeR hi;have get:∀a≤runEnd m i-i,(ow.getD (i+a) (some 0)).isNone=false->BM ow (i+a):=λa ha e=>by
   have hl:i+a<ow.size:=by omega
   rw[qV,qj hl]at e
   cases eo:ow[i+a]with
   | none=>rw[eo]at e;cases e
   | some k=>exact⟨k,by rw[qj hl,eo]⟩
  unfold zN at h
  cases e:(qk (runEnd m i+1-i)).find? λk=>(ow.getD (i+k) (some 0)).isNone with
  | some k=>
   rw[e]at h
   cases h
   obtain⟨e1,e2,e3⟩:=List.find?_range_eq_some.mp e;have e2:=qG.mp e2;have hl:i+k<ow.size:=by omega
   refine⟨?_,λoc a b=>?_⟩
   ·rw[qV,qj hl]at e1
    rw[qj hl]
    cases eo:ow[i+k]with
    | none=>rfl
    | some z=>rw[eo]at e1;cases e1
   ·exact ZkU (e:=runEnd m i-i) k 0 (by omega) (by omega) (λc _ hc=>a _ (get c (by omega) (by simpa using e3 c hc))) b
  | none=>
   rw[e]at h;obtain⟨h1,h2⟩:=Zd5 hs f _ _ j (qaM (qaS _ (qbC m))) h;refine⟨h1,λoc a b=>ZhL (h2 oc a b) _ _ λc hc=>a _ (get c hc ?_)⟩;have:=List.find?_eq_none.mp e c (qG.mpr (by omega));exact Bool.eq_false_iff.mpr this
theorem Zd6 {m:Nat}{ow:Array (Option Nat)}(hs:ow.size=m+1):∀(f i q c:Nat),i<=m->c<f->ow[(YR m c (i,q)).1]?=some none->∃j,zN m ow f i q=some j
 | 0,i,q,c,_,h,_=>by omega
 | f+1,i,q,c,hi,hc,h=>by
  unfold zN;have hm:=ZeR hi
  cases e:(qk (runEnd m i+1-i)).find? λk=>(ow.getD (i+k) (some 0)).isNone with
  | some k=>exact⟨_,rfl⟩
  | none=>
   cases c with
   | zero=>
    have:=List.find?_eq_none.mp e 0 (qG.mpr (by omega));have h:ow[i]?=some none:=h;rw[qb1,qV,h]at this;simp at this
   | succ c=>exact Zd6 hs f _ _ c (qaM (qaS _ (qbC m))) (by omega) h
structure Ow (m:Nat)(hs:List Int)(ow:Array (Option Nat)):Prop where
 sz:ow.size=m+1
 lt:∀j k:Nat,ow[j]?=some (some k)->k<hs.length/\Fd m (BM ow) j (Sh m (hs.getD k 0))
 ex:∀k<hs.length,∃j:Nat,ow[j]?=some (some k)
 un:∀j j' k:Nat,ow[j]?=some (some k)->ow[j']?=some (some k)->j=j'
theorem ZbS:∀{a b:List Nat},a.Nodup->(∀x∈a,x∈b)->a.length<=b.length
 | [],_,_,_=>by simp
 | x::a,b,nd,h=>by
  have nd':=zH.mp nd;have hx:=h x (by simp);have ih:=ZbS (a:=a) (b:=b.erase x) nd'.2 λy hy=>(qaT (λ(z:y=x)=>nd'.1 (by rw[<-z];exact hy))).mpr (h y (by simp[hy]));have:=qb4 hx;have:0<b.length:=qcp hx;simp only[qO];omega
theorem ZkV (l:List Nat)(n:Nat)(nd:l.Nodup)(h:∀x∈l,x<n):l.length<=n:=by
 have:=ZbS nd λx hx=>qG.mpr (h x hx)
 rwa[qQ]at this
theorem Ow.free {m:Nat}{hs:List Int}{ow:Array (Option Nat)}(o:Ow m hs ow)(h:hs.length<=m):∃j≤m,ow[j]?=some none:=by
 refine qa2 λno=>?_;have all:∀j≤m,∃k,ow[j]?=some (some k):=λj hj=>by
  have hl:j<ow.size:=by rw[o.sz];omega
  cases e:ow[j]with
  | none=>exact absurd ⟨j,hj,by rw[qj hl,e]⟩ no
  | some k=>exact⟨k,by rw[qj hl,e]⟩
 let f:Nat->Nat:=λj=>((ow[j]?).getD none).getD 0
 have hf:∀j≤m,ow[j]?=some (some (f j)):=λj hj=>by
  obtain⟨k,e⟩:=all j hj;show ow[j]?=some (some (((ow[j]?).getD none).getD 0));rw[e];rfl
 have:=ZkV ((qk (m+1)).map f) hs.length (by
  refine ze.mpr (zY.imp_of_mem λ{a b} ha hb ne e=>ne ?_);have ha:=qG.mp ha;have hb:=qG.mp hb;exact o.un a b (f a) (hf a (by omega)) (by rw[e];exact hf b (by omega))) λx hx=>by
  obtain⟨j,hj,rfl⟩:=qp.mp hx;have hj:=qG.mp hj;exact(o.lt j _ (hf j (by omega))).1
 rw[qd,qQ]at this;omega
theorem Ow.step {m:Nat}(hm:Vj m){hs:List Int}{ow:Array (Option Nat)}(o:Ow m hs ow)(h:hs.length<=m)(x:Int):∃j,zN m ow (yM m) (bits x % (m+1)) (bits x)=some j/\Ow m (hs ++ [x]) (ow.setIfInBounds j (some hs.length)):=by
 obtain⟨z,hz,ez⟩:=o.free h;obtain⟨c,hc,ec⟩:=YT hm (BF m x) (ZhJ x) hz;obtain⟨j,hj⟩:=Zd6 o.sz (yM m) _ _ c (BF m x) (by unfold yM;omega) (by rw[ec];exact ez);obtain⟨f1,f2⟩:=Zd5 o.sz _ _ _ j (BF m x) hj;have hjl:j<ow.size:=(zJ.mp f1).1;refine⟨j,hj,?_⟩;have at_j:(ow.setIfInBounds j (some hs.length))[j]?=some (some hs.length):=by rw[qbJ,if_pos rfl,if_pos hjl]
 have at_ne:∀i,i≠j->(ow.setIfInBounds j (some hs.length))[i]?=ow[i]?:=λi hi=>by rw[qbJ,if_neg (λz=>hi z.symm)]
 have oc:∀i,BM ow i->BM (ow.setIfInBounds j (some hs.length)) i:=λi ⟨k,e⟩=>by
  by_cases z:i=j
  ·exact⟨hs.length,by rw[z];exact at_j⟩
  ·exact⟨k,by rw[at_ne i z];exact e⟩
 have two:∀i k,(ow.setIfInBounds j (some hs.length))[i]?=some (some k)->(i=j/\k=hs.length)∨(i≠j/\ow[i]?=some (some k)):=λi k e=>by
  by_cases z:i=j
  ·rw[z,at_j]at e
   injection e with e;injection e with e;exact .inl ⟨z,e.symm⟩
  ·rw[at_ne i z]at e
   exact .inr ⟨z,e⟩
 refine⟨by rw[Array.size_setIfInBounds];exact o.sz,λi k e=>?_,λk hk=>?_,λi i' k e e'=>?_⟩
 ·rcases two i k e with⟨rfl,rfl⟩ | ⟨_,e⟩
  ·refine⟨by simp,?_⟩
   rw[show(hs ++ [x]).getD hs.length 0=x by simp];exact f2 _ oc ⟨_,at_j⟩
  ·obtain⟨k1,k2⟩:=o.lt i k e
   refine⟨by simp;omega,?_⟩;rw[show(hs ++ [x]).getD k 0=hs.getD k 0 by rw[qz,zC k1,<-qz]];exact k2.mono oc
 ·by_cases z:k=hs.length
  ·exact⟨j,by rw[z];exact at_j⟩
  ·obtain⟨i,e⟩:=o.ex k (by simp at hk;omega)
   exact⟨i,by rw[at_ne i λz=>by rw[z,f1]at e;cases e];exact e⟩
 ·rcases two i k e with⟨rfl,rfl⟩ | ⟨_,f⟩
  ·rcases two i' _ e' with⟨rfl,_⟩ | ⟨_,f'⟩
   ·rfl
   ·have:=(o.lt _ _ f').1;omega
  ·rcases two i' k e' with⟨rfl,rfl⟩ | ⟨_,f'⟩
   ·have:=(o.lt _ _ f).1;omega
   ·exact o.un _ _ _ f f'
theorem Ow.start (m:Nat):Ow m [] (Array.replicate (m+1) none):=by
 have no:∀j k,(Array.replicate (m+1) (none:Option Nat))[j]?≠some (some k):=λj k e=>by
  rw[Array.getElem?_replicate]at e;split at e <;> cases e
 exact⟨by simp,λj k e=>absurd e (no j k),λk hk=>by simp at hk,λj _ k e=>absurd e (no j k)⟩
theorem ZhM {m:Nat}(hm:Vj m):∀(rest hs:List Int) (ow:Array (Option Nat)),Ow m hs ow->hs.length+rest.length<=m+1->
  ∃ow',rest.foldl (λ(acc:Option (Array (Option Nat)×Nat)) h=>do
   let (owner,k)<-acc
   let j<-zN m owner (yM m) (bits h % (m+1)) (bits h)
   pure (owner.setIfInBounds j (some k),k+1)) (some (ow,hs.length))=some (ow',hs.length+rest.length)/\Ow m (hs++rest) ow'
 | [],hs,ow,o,_=>⟨ow,rfl,by rw[zr];exact o⟩
 | x::rest,hs,ow,o,hl=>by
  rw[qO]at hl;obtain⟨j,e,o'⟩:=o.step hm (by omega) x;obtain⟨ow',e2,o2⟩:=ZhM hm rest (hs ++ [x]) _ o' (by simp;omega);refine⟨ow',?_,by rw[List.append_cons];exact o2⟩;rw[qbA];have:(do
   let (owner,k)<-some (ow,hs.length)
   let j<-zN m owner (yM m) (bits x % (m+1)) (bits x)
   pure (owner.setIfInBounds j (some k),k+1):Option (Array (Option Nat)×Nat))=some (ow.setIfInBounds j (some hs.length),(hs ++ [x]).length):=by
   show(do
    let j<-zN m ow (yM m) (bits x % (m+1)) (bits x)
    pure (ow.setIfInBounds j (some hs.length),hs.length+1):Option _)=_
   rw[e];simp
  rw[this,e2];simp[qaX,Nat.add_comm 1]
theorem ZfZ {m:Nat}(hm:Vj m)(hs:Array Int)(hl:hs.size<=m+1):∃ow,zK m hs=some ow/\Ow m hs.toList ow:=by
 obtain⟨ow,e,o⟩:=ZhM hm hs.toList [] _ (Ow.start m) (by simpa using hl);refine⟨ow,?_,by simpa using o⟩;unfold zK;rw[<-Array.foldl_toList];have e':=congrArg (Option.map (·.1)) e;exact e'
structure Tb (t:SetTable)(es:List (Int×Value)):Prop where
 ms:Vj t.mask
 du:t.dummies = #[]
 ri:X1 t.place
 le:∀j∈t.place.toList,j<=t.mask
 sz:t.place.toList.length=es.length
 fd:∀q∈es.zip t.place.toList,Fd t.mask (XE t) q.2 (Sh t.mask q.1.1)
theorem ZkW {m:Nat}{ow:Array (Option Nat)}{j k:Nat}(hs:ow.size=m+1):(j,k)∈((qk (m+1)).filterMap λj=>(ow.getD j none).map (j,·))↔ow[j]?=some (some k):=by
 rw[qaD];constructor
 ·rintro⟨i,_,e⟩
  obtain⟨z,e1,e2⟩:=ym.mp e
  cases e2
  rw[qV]at e1
  cases eo:ow[j]? with
  | none=>rw[eo]at e1;cases e1
  | some y=>rw[eo]at e1;exact congrArg some e1
 ·intro e
  have hl:=(zJ.mp e).1;refine⟨j,qG.mpr (by omega),?_⟩;rw[qV,e];rfl
theorem Zg3 {l:List Nat}{n:Nat}(nd:l.Nodup)(h:∀x,x∈l↔x<n):l.Perm (qk n):=(yi nd zY).mpr λx=>by rw[h,qG]
theorem ZaI {α β:Type}{f:α->Option β}{g:α->β}:∀{l:List α},(∀q∈l,f q=some (g q))->l.filterMap f=l.map g
 | [],_=>rfl
 | a::l,h=>by
  rw[zD,h a zG,qX];exact congrArg _ (ZaI λq hq=>h q (qT _ hq))
theorem Zma {m f v:Nat}{l p:Bool}(hm:Vj m)(es:Array (Int×Value))(hl:es.size<=m+1) :
  ∃t order,qbo m f v l p (es.map (·.1))=some (t,order)/\((order.filterMap (es[·]?)).toList).Perm es.toList/\Tb t (order.filterMap (es[·]?)).toList/\t.led=l/\t.mask=m/\t.moves=v:=by
 obtain⟨ow,e,o⟩:=ZfZ hm (es.map (·.1)) (by simpa using hl);have jN:(es.map (·.1)).toList.length=es.size:=by simp
 have lm:∀j k,(j,k)∈((qk (m+1)).filterMap λj=>(ow.getD j none).map (j,·))↔ow[j]?=some (some k):=λj k=>ZkW o.sz;have ea:qbo m f v l p (es.map (·.1))=some ({ mask:=m,place:=(((qk (m+1)).filterMap λj=>(ow.getD j none).map (j,·)).map (·.1)).toArray,dummies:=#[],finger:=f,led:=l,moves:=v,plain:=p },(((qk (m+1)).filterMap λj=>(ow.getD j none).map (j,·)).map (·.2)).toArray):=by
  unfold qbo;rw[e];rfl
 have ri:=(ZiM ea).2;refine⟨_,_,ea,?_,?_,rfl,rfl,rfl⟩
 all_goals (generalize hL:((qk (m+1)).filterMap λj=>(ow.getD j none).map (j,·))=L at lm ri⊢)
 all_goals
  have nd1:(L.map (·.1)).Nodup:=(show(L.map (·.1)).toArray.toList.Pairwise (· < ·)from ri).imp λh=>qS h;have nd2:(L.map (·.2)).Nodup:=by
   refine ze.mpr ((ze.mp nd1).imp_of_mem λ{a b} ha hb ne e=>ne ?_);exact o.un a.1 b.1 a.2 ((lm _ _).mp ha) (by rw[e];exact(lm _ _).mp hb)
  have pm:(L.map (·.2)).Perm (qk es.size):=Zg3 nd2 λx=>by
   constructor
   ·intro hx
    obtain⟨q,hq,rfl⟩:=qp.mp hx;have:=(o.lt q.1 q.2 ((lm _ _).mp hq)).1;omega
   ·intro hx
    obtain⟨j,hj⟩:=o.ex x (by omega);exact qp.mpr ⟨(j,x),(lm _ _).mpr hj,rfl⟩
  have ef:((L.map (·.2)).toArray.filterMap (es[·]?)).toList=L.map λq=>es.toList.getD q.2 (0,.none):=by
   rw[Array.toList_filterMap,yG,List.filterMap_map];have:∀q∈L,((λx=>es[x]?)∘λq:Nat×Nat=>q.2) q=some (es.toList.getD q.2 (0,.none)):=λq hq=>by
    have hlt:q.2<es.size:=by
     have:=(o.lt q.1 q.2 ((lm _ _).mp hq)).1;omega
    show es[q.2]?=_;rw[qz,qB,qj hlt];rfl
   exact ZaI this
 ·rw[ef]
  have:=pm.map λi=>es.toList.getD i (0,.none);rw[qC]at this;refine this.trans ?_;rw[show es.size=es.toList.length by simp,TS.range_getD]
 ·refine⟨hm,rfl,ri,λj hj=>?_,by rw[ef];simp,λq hq=>?_⟩
  ·obtain⟨q,hq,rfl⟩:=qp.mp (show j∈L.map (·.1)from hj)
   have:=(zJ.mp ((lm _ _).mp hq)).1;rw[o.sz]at this;show q.1<=m;omega
  ·rw[ef]at hq
   rw[show(L.map (·.1)).toArray.toList=L.map (·.1)from rfl,List.zip_map']at hq;obtain⟨z,hz,rfl⟩:=qp.mp hq;have h2:=(o.lt z.1 z.2 ((lm _ _).mp hz)).2;have hlt:z.2<es.size:=by
    have:=(o.lt z.1 z.2 ((lm _ _).mp hz)).1;omega
   have eh:(es.map (·.1)).toList.getD z.2 0=(es.toList.getD z.2 (0,.none)).1:=by
    rw[qz,qz,qB,qB,Array.getElem?_map,qj hlt];rfl
   rw[eh]at h2;exact h2.mono λj ⟨k,hk⟩=>by
    show j∈L.map (·.1);exact qp.mpr ⟨(j,k),(lm _ _).mpr hk,rfl⟩
theorem Zmb {α β:Type}{a a':List α}{b b':List β}{x:α}{y:β}(h:a.length=b.length):(a++x::a').zip (b++y::b')=a.zip b++(x,y)::a'.zip b':=by
 rw[List.zip_append h];rfl
theorem ZnK {t:SetTable}{es:Array (Int×Value)}(T:Tb t es.toList){j:Nat}{h:Int}{x:Value}(hj:j∉t.place.toList)(hm:j<=t.mask)(hf:∀oc:Nat->Prop,(∀j,XE t j->oc j)->oc j->Fd t.mask oc j (Sh t.mask h)) :
  Tb (t.put j).1 (qaK es (t.put j).2 (h,x)).toList/\(t.put j).1.mask=t.mask/\(t.put j).1.place.size=t.place.size+1/\(t.put j).1.dummies = #[]/\(t.put j).1.led=t.led:=by
 have hne:¬t.place[qH t.place j]?=some j:=λz=>hj (Zd4 z);have hb:=(JU T.ri j).2.2;have ed:(t.put j).1.dummies = #[]:=by
  show(if qcW t.dummies j then _ else t.dummies) = #[];rw[T.du,if_neg (by simp[qcW])]
 have ep:(t.put j).1.place.toList=t.place.toList.take (qH t.place j)++j::t.place.toList.drop (qH t.place j):=qax _ _ _;have ee:(qaK es (t.put j).2 (h,x)).toList=es.toList.take (qH t.place j)++(h,x)::es.toList.drop (qH t.place j):=qax _ _ _;have hs:t.place.toList.length=es.toList.length:=T.sz;have mem:∀y,y∈(t.put j).1.place.toList↔y=j∨y∈t.place.toList:=λy=>by
  rw[ep,qM,qu]
  conv=>rhs;rw[<-zj (qH t.place j) t.place.toList,qM]
  constructor
  ·rintro(a | a | a)
   ·exact .inr (.inl a)
   ·exact .inl a
   ·exact .inr (.inr a)
  ·rintro(a | a | a)
   ·exact .inr (.inl a)
   ·exact .inl a
   ·exact .inr (.inr a)
 have lp:(t.put j).1.place.toList.length=t.place.toList.length+1:=by
  rw[ep,qE,qO,qZ,zX];have:qH t.place j<=t.place.toList.length:=by simpa using hb
  omega
 refine⟨⟨T.ms,ed,ZfL T.ri hne,λy hy=>?_,?_,λq hq=>?_⟩,rfl,by simpa using lp,ed,rfl⟩
 ·rcases (mem y).mp hy with rfl | hy
  ·exact hm
  ·exact T.le y hy
 ·rw[lp,ee,qE,qO,qZ,zX]
  have:qH t.place j<=t.place.toList.length:=by simpa using hb
  omega
 ·rw[ep,ee,Zmb (by rw[qZ,qZ,hs]),qM,qu]at hq
  have old:q∈es.toList.zip t.place.toList->Fd t.mask (XE (t.put j).1) q.2 (Sh t.mask q.1.1):=λh=>(T.fd q h).mono λy hy=>(mem y).mpr (.inr hy);have ez:es.toList.zip t.place.toList=(es.toList.take (qH t.place j)).zip (t.place.toList.take (qH t.place j))++(es.toList.drop (qH t.place j)).zip (t.place.toList.drop (qH t.place j)):=by
   rw[<-List.zip_append (by rw[qZ,qZ,hs]),zj,zj]
  rcases hq with a | rfl | a
  ·exact old (by rw[ez];exact qao _ a)
  ·exact hf _ (λy hy=>(mem y).mpr (.inr hy)) ((mem j).mpr (.inl rfl))
  ·exact old (by rw[ez];exact zi _ a)
section
variable {prog:xB}{w:World}{A:xC}{E:xD}{s:Shared}
variable (prog w) in
noncomputable abbrev TK (h:Heap)(ns:List Int)(a:Addr):Prop:=IsTupleKey (intKind prog w) h ns a
variable (prog w) in
noncomputable abbrev XG (ns:List Int):Int:=tupleKeyHash (intKind prog w) ns
theorem Zch (n:Nat){v:Value}(h:carriedByValue v=true):ofAClassStatement n v=pure false:=by
 cases v with
 | ref a=>simp[carriedByValue]at h
 | _=>first | rfl | simp[ofAClassStatement] | (unfold ofAClassStatement;rfl)
theorem Zdj {ns:List Int}{a:Addr}{Q:Bool->Shared->Prop}(hk:TK prog w s.heap ns a)(h:Q false s):xf (xz prog w) A (ofAClassStatement 8 (.ref a)) Q E s:=by
 have hT:=hk.typeIs;obtain⟨o,items,n,ho,_,hd,hi⟩:=hk;unfold ofAClassStatement;refine xa (wpAny_typeOf hT ?_);dsimp only;rw[if_pos (by simp)];refine xa (xb ?_);simp only[yW,qU,if_false];refine xa (xt ho hd ?_);dsimp only;refine xa ?_;rw[<-Array.forIn_toList];refine wpAny_forIn_list _ (λrest r s'=>r.1=none/\s'=s/\∀v∈rest,carriedByValue v=true) _ ?_ ?_ _ _ ⟨rfl,rfl,hi.byValue⟩
 ·rintro v rest r s' ⟨hr,rfl,hall⟩
  rw[Zch _ (hall v zG)];refine xa (xb ?_);simp only[qU,if_false];exact xb ⟨rfl,rfl,λu hu'=>hall u (qT _ hu')⟩
 ·rintro⟨r1,r2⟩ s' ⟨hr,rfl,_⟩
  simp only at hr;subst hr;exact xb h
theorem Zg4 {x:List Int}{vs:List Value}(hx:ItemsAre (intKind prog w) x vs):∀v∈vs,∃k t,v=.int k t:=by
 induction hx with
 | nil=>intro v hv;simp at hv
 | @cons k v' ks vs h1 _ ih=>
  intro v hv;rcases qu.mp hv with rfl | hv
  ·obtain⟨t,rfl⟩:=Value.isInt_shape (show qcY k v=true from h1)
   exact⟨_,_,rfl⟩
  ·exact ih v hv
theorem Zg5 {ns:List Int}{a:Addr}{Q:Bool->Shared->Prop}(hk:TK prog w s.heap ns a)(h:Q true s):xf (xz prog w) A (hashByValue 8 (.ref a)) Q E s:=by
 have hT:=hk.typeIs;obtain⟨o,items,n,ho,_,hd,hi⟩:=hk;unfold hashByValue;refine xa (wpAny_specialOf hT F.slot_tuple_hash.lookup ?_);show xf _ _ (seqItems? (.ref a) >>= _) _ _ s;refine xa (xt ho hd ?_);refine xa ?_;show xf _ _ (forIn items _ _) _ _ s;rw[<-Array.forIn_toList];refine wpAny_forIn_list _ (λrest r s'=>r.1=none/\s'=s/\∀v∈rest,∃k t,v=.int k t) _ ?_ ?_ _ _ ⟨rfl,rfl,Zg4 hi⟩
 ·rintro v rest r s' ⟨hr,rfl,hall⟩
  obtain⟨k,t,rfl⟩:=hall v zG;refine xa (wpAny_of_eq (show hashByValue 7 (.int k t)=pure true by unfold hashByValue;rfl) ?_);simp only[yW,qU,if_false];exact xb ⟨rfl,rfl,λu hu'=>hall u (qT _ hu')⟩
 ·rintro⟨r1,r2⟩ s' ⟨hr,rfl,_⟩
  simp only at hr;subst hr;exact xb h
theorem Zmc {ns:List Int}{a:Addr}{Q:Bool->Shared->Prop}(hk:TK prog w s.heap ns a){ys:List Value}(hy:∀y∈ys,∃ms b,y=.ref b/\TK prog w s.heap ms b)(h:Q false s):xf (xz prog w) A (searchCouldBeSeen (.ref a) ys) Q E s:=by
 unfold searchCouldBeSeen;refine xa ?_;refine wpAny_forIn_list _ (λrest r s'=>r.1=none/\s'=s/\∀y∈rest,∃ms b,y=.ref b/\TK prog w s.heap ms b) _ ?_ ?_ _ _ ⟨rfl,rfl,hy⟩
 ·rintro v rest r s' ⟨hr,rfl,hall⟩
  obtain⟨ms,b,rfl,hb⟩:=hall v zG;have fin:∀u∈rest,∃ms b,u=.ref b/\TK prog w s'.heap ms b:=λu hu=>hall u (qT _ hu);dsimp only;by_cases c:(a==b||carriedByValue (.ref a)&&carriedByValue (.ref b))=true
  ·rw[if_pos c]
   exact xb ⟨rfl,rfl,fin⟩
  ·rw[if_neg c]
   refine xa (wpAny_eqIsQuiet_tuple hk ?_);simp only[yW,qU,if_false];refine xa (wpAny_eqIsQuiet_tuple hb ?_);simp only[yW,qU,if_false];refine xa (Zdj hk ?_);simp only[qU,if_false];refine xa (Zdj hb ?_);simp only[qU,if_false];exact xb ⟨rfl,rfl,fin⟩
 ·rintro⟨r1,r2⟩ s' ⟨hr,rfl,_⟩
  simp only at hr;subst hr;exact xb h
theorem Zmd {m:Nat}(h:Vj m):(m % 2==0)=false:=by rcases h with rfl | rfl | rfl | rfl <;> rfl
theorem ZnL {α β:Type}{a:List α}{b:List β}{i:Nat}{x:α}{y:β}(h1:a[i]?=some x)(h2:b[i]?=some y):(x,y)∈a.zip b:=by
 refine zt (i:=i) ?_;rw[yp];exact⟨h1,h2⟩
theorem Zd7 {a ax:Addr}{ns:List Int}{o:Obj}{es:Array (Int×Value)}{ep:Nat}{t:SetTable}(hu:A.units<cLine)(g1:s.heap.get? a=some o)(g3:o.data=.set es ep t)(T:Tb t es.toList)(hf:t.fits es.size=true)
  (hE:∀e∈es.toList,∃ms b,e=(XG prog w ms,.ref b)/\TK prog w s.heap ms b) (hx:TK prog w s.heap ns ax) {Q:SetFound->Shared->Prop}
  (there:(∃e∈es.toList,∃b,e.2=.ref b/\TK prog w s.heap ns b)->Q (.there none) s)
  (free:(∀e∈es.toList,∀b,e.2=.ref b->¬TK prog w s.heap ns b)->∀j,j∉t.place.toList->j<=t.mask->(∀oc:Nat->Prop,(∀j,XE t j->oc j)->oc j->Fd t.mask oc j (Sh t.mask (XG prog w ns)))->Q (.free j false) s) :
  ∀(f n:Nat) (st:Option Probe) (p:Probe),st.getD (Sh t.mask (XG prog w ns))=p->Rc t.mask (XE t) n p->n<=f->n<=10*(t.mask+15)->p.dummy=none->Pb t.mask p->
   (∀q∈es.toList.zip t.place.toList,∀b,q.1.2=.ref b->TK prog w s.heap ns b->Fd t.mask (XE t) q.2 p)->
   (∀oc:Nat->Prop,(∀j,XE t j->oc j)->∀y,Fd t.mask oc y p->Fd t.mask oc y (Sh t.mask (XG prog w ns)))->
   xf (xz prog w) A (setSearchFrom a (.ref ax) (XG prog w ns) true f st) Q E s
 | 0,n,st,p,_,rc,hn,_,_,_,_,_=>by
  cases rc <;> omega
 | f+1,n,st,p,hst,rc,hn,hn2,hp,hb,hFd,hup=>by
  unfold setSearchFrom;refine xa (wpAny_setState_of g1 g3 hf ?_);dsimp only;have hgw:t.gaveWay=false:=Zmd T.ms;rw[hgw];simp only[qU,↓reduceIte];rw[ZkP,hst];generalize hM:SetTable.probe t _ (XG prog w ns) p=M;have hM':qbh t (λi=>(es[i]?.map (·.1)).getD 0) (XG prog w ns) (10*yM t.mask) p=M:=hM;have esz:t.place.size=es.size:=by simpa using T.sz
  have at':∀(i x:Nat),t.place[i]?=some x->∃(ms:List Int) (b:Addr),es[i]?=some (XG prog w ms,qY b)/\TK prog w s.heap ms b/\(es[i]?.map (·.1)).getD 0=XG prog w ms:=λi x hi=>by
   have hl:=(zJ.mp hi).1;have e1:es[i]?=some es[i]:=qj (by omega);obtain⟨ms,b,e,hb⟩:=hE es[i] (by simp);exact⟨ms,b,by rw[e1,e],hb,by rw[e1,e];rfl⟩
  rcases ZhK (g:=λi=>(es[i]?.map (·.1)).getD 0) (h:=XG prog w ns) T.du T.ri (10*yM t.mask) n p rc (by unfold yM;omega) hp hb with⟨j,z1,z2,z3,z4,z5⟩ | ⟨j,i,q,n',z1,z2,z3,z4,z5,z6,z7,z8,z9,z10⟩
  ·rw[z1]at hM'
   subst hM';dsimp only;refine xb (free (λe he b eb hk=>?_) j z2 z3 λoc a b=>hup oc a j (z5 oc a b));obtain⟨i,hi⟩:=zI.mp he;have hl:i<es.size:=by simpa using(qA.mp hi).1
   have hx:t.place[i]?=some t.place[i]:=qj (by omega);obtain⟨ms,b',e1,hk',e2⟩:=at' i _ hx;rw[qB,e1]at hi
   cases hi
   cases eb
   have:=hk.inj hk';subst this;exact z4 i _ hx (hFd _ (ZnL (i:=i) (by rw[qB];exact e1) (by rw[qB];exact hx)) _ rfl hk) e2
  ·rw[z1]at hM'
   subst hM';obtain⟨ms,b,e1,hk,e2⟩:=at' i j z3;have hseen:∀y∈((es.filter (·.1==XG prog w ns)).toList.map (·.2)),∃ms b,y=.ref b/\TK prog w s.heap ms b:=λy hy=>by
    obtain⟨e,he,rfl⟩:=qp.mp hy;have:=(Array.mem_filter.mp (zd.mp he)).1;obtain⟨ms,b,ee,hb⟩:=hE e (zd.mpr this);exact⟨ms,b,by rw[ee],hb⟩
   dsimp only
   cases hl:t.led
   all_goals simp only[yW,Bool.not_false,qU,if_false,if_true]
   all_goals try
    refine xa (Zmc hx hseen ?_);simp only[qU,if_false]
   all_goals
    rw[e1];dsimp only;refine xa (xu (wpAny_eqBool_tuple hu hk hx ?_));refine xa (wpAny_setState_of g1 g3 hf ?_);dsimp only;by_cases eq:ms=ns
    ·subst eq
     rw[if_pos (by simp)];exact xb (there ⟨_,zt (i:=i) (by rw[qB];exact e1),b,rfl,hk⟩)
    ·rw[if_neg (by simp[eq])]
     have hsm:t.sameMemory t.moves t.mask=some true:=by unfold SetTable.sameMemory;rw[if_pos (by simp)]
     rw[hsm];dsimp only;rw[if_pos rfl,z2];dsimp only;rw[e1];dsimp only;refine xa (wpAny_isSame_ref_self ?_);refine xa (xb ?_);rw[if_pos rfl];dsimp only;rw[if_neg (by simp[eq])];refine Zd7 hu g1 g3 T hf hE hx there free f n' (some q) q rfl z5 (by omega) (by omega) z7 z8 (λr hr b' eb hk'=>?_) λoc a y fd=>hup oc a y (z10 oc a y fd);obtain⟨i',hi'⟩:=zI.mp hr;rw[yp]at hi';obtain⟨p1,p2⟩:=hi';rw[qB]at p1 p2;obtain⟨ms',b2,f1,hk2,f2⟩:=at' i' _ p2;rw[f1]at p1;have p1:=(zy p1).symm;rw[p1]at eb
     cases eb
     have:=hk'.inj hk2;subst this;rcases z9 i' _ p2 (hFd r hr _ (by rw[p1]) hk')with z | z | z
     ·exact absurd f2 z
     ·subst z
      rw[e1]at f1;injection f1 with f1;injection f1 with _ f1;injection f1 with f1;subst f1;exact absurd (hk.inj hk') eq
     ·exact z
end
section
variable {prog:xB}{w:World}{A:xC}{E:xD}{s:Shared}
variable (prog w) in
noncomputable abbrev entT (x:List Int×Addr):Int×Value:=(XG prog w x.1,.ref x.2)
variable (prog w) in
noncomputable def SetT (h:Heap)(a:Addr)(ts:List (List Int×Addr)):Prop:=∃o es ep t,h.get? a=some o/\o.ExactSet/\o.data=.set es ep t/\Tb t es.toList/\Good w t/\t.place.size*5<t.mask*3/\es.toList.Perm (ts.map (entT prog w))/\(ts.map (·.1)).Nodup
noncomputable def stepT (ts:List (List Int×Addr))(x:List Int×Addr):List (List Int×Addr):=if x.1∈ts.map (·.1)then ts else ts ++ [x]
theorem Tb.fits {t:SetTable}{es:Array (Int×Value)}(T:Tb t es.toList)(h:t.place.size*5<t.mask*3):t.fits es.size=true:=by
 have:=T.sz;simp only[qy]at this;simp only[qcG,zh,beq_iff_eq,decide_eq_true_eq,SetTable.fill,T.du];refine⟨this,?_⟩;simp;omega
theorem Tb.empty {t:SetTable}{es:List (Int×Value)}(T:Tb t es)(h:t.place.size*5<t.mask*3):∃j≤t.mask,j∉t.place.toList:=by
 refine qa2 λno=>?_;have:=ZbS (a:=qk (t.mask+1)) (b:=t.place.toList) zY λx hx=>qa2 λhn=>no ⟨x,by have:=qG.mp hx;omega,hn⟩;rw[qQ,qy]at this;omega
theorem ZhN {h:Heap}{a:Addr}{o:Obj}{es:Array (Int×Value)}{ep:Nat}{t:SetTable}(ho:h.get? a=some o)(hd:o.data=.set es ep t)(es':Array (Int×Value))(t':SetTable):(h.update a (qbX es' t')).get? a=some { o with data:=.set es' (ep+1) t' }:=by
 have:=ya (qbX es' t') ho (by rw[putSet_of es' t' hd];rfl);rw[putSet_of es' t' hd]at this;exact this
theorem Zor:yN 20=32:=by decide +kernel
theorem Zos:yN 76=128:=by decide +kernel
theorem ZnM:yN 308=512:=by decide +kernel
theorem Zot {m n:Nat}(hm:Vj m)(h1:n*5<m*3)(h2:(n+1)*5≥m*3)(h3:n<306):Vj (yN (yO (n+1))-1)/\(n+1)*5<(yN (yO (n+1))-1)*3/\yN (yO (n+1))<=512:=by
 have hg:yO (n+1)=(n+1)*4:=by unfold yO;rw[if_neg (by omega)]
 rw[hg];rcases hm with rfl | rfl | rfl | rfl
 ·obtain rfl:n=4:=by omega
  rw[Zor];exact⟨.inr (.inl rfl),by decide,by decide⟩
 ·obtain rfl:n=18:=by omega
  rw[Zos];exact⟨.inr (.inr (.inl rfl)),by decide,by decide⟩
 ·obtain rfl:n=76:=by omega
  rw[ZnM];exact⟨.inr (.inr (.inr rfl)),by decide,by decide⟩
 ·omega
theorem ZkX {a:Addr}{o:Obj}{es:Array (Int×Value)}{ep:Nat}{t:SetTable}{n:Nat}{Q:Unit->Shared->Prop}(g1:s.heap.get? a=some o)(g3:o.data=.set es ep t)(T:Tb t es.toList)(hn:es.size=n+1)(h1:n*5<t.mask*3)(h2:(n+1)*5≥t.mask*3)(h3:n<306)(hfits:t.fits es.size=true)
  (c:∀es' t',Tb t' es'.toList->es'.toList.Perm es.toList->t'.led=t.led->t'.place.size*5<t'.mask*3->Q () { s with heap:=s.heap.update a (qbX es' t') }):xf (xz prog w) A (setRelay a (yO (n+1))) Q E s:=by
 obtain⟨k1,k2,k3⟩:=Zot T.ms h1 h2 h3;unfold setRelay;refine xa (wpAny_setState_of g1 g3 hfits ?_);dsimp only;rw[if_neg (by rw[sizeLine_eq];omega)];obtain⟨t',ord,e,pm,T',hl,hm,hv⟩:=Zma (f:=t.finger) (v:=t.movedTo (yN (yO (n+1))-1)) (l:=t.led) (p:=t.plain) k1 es (by omega);have e':t.relaid (es.map (·.1)) (yO (n+1))=some (t',ord):=e;have sz:(ord.filterMap (es[·]?)).size=es.size:=by rw[<-qy,pm.length_eq,qy]
 rw[e'];refine xa (wpAny_of_eq (a:=(ord.filterMap (es[·]?),t')) ?_ ?_)
 ·show(do
   if ((ord.filterMap (es[·]?)).size != es.size)=true then unsupported "internal:set-table-lost-an-element"
   pure (ord.filterMap (es[·]?),t'):Sem _)=_
  rw[sz];simp
 ·refine wpAny_storeSet_of g1 g3 (c _ t' T' pm hl ?_) (by rw[sz,sizeLine_eq];omega)
  have:=T'.sz;rw[qy,qy,sz]at this;rw[this,hm,hn];exact k2
theorem Zou {a ax:Addr}{ns:List Int}{ts:List (List Int×Addr)}{Q:Bool->Shared->Prop}(hu:A.units<cLine)(hS:SetT prog w s.heap a ts)(hts:∀x∈ts,TK prog w s.heap x.1 x.2)(hx:TK prog w s.heap ns ax)(hroom:ts.length<306)
  (c:∀b h',yh a s.heap h'->SetT prog w h' a (stepT ts (ns,ax))->Q b { s with heap:=h' }):xf (xz prog w) A (setAddHashed a (.ref ax) (XG prog w ns)) Q E s:=by
 obtain⟨o,es,ep,t,g1,g2,g3,T,hg,hfull,pm,nd⟩:=hS;have hf:=T.fits hfull;have esz:es.size=ts.length:=by rw[<-qy,pm.length_eq,qd]
 have psz:t.place.size=es.size:=by simpa using T.sz
 have hE:∀e∈es.toList,∃ms b,e=(XG prog w ms,.ref b)/\TK prog w s.heap ms b:=λe he=>by
  obtain⟨x,hx,rfl⟩:=qp.mp (pm.mem_iff.mp he);exact⟨x.1,x.2,rfl,hts x hx⟩
 unfold setAddHashed setAddHashedIn;refine xu (xa (wpAny_setState_of g1 g3 hf ?_));dsimp only;have hbs:byScan (.ref ax) es=false:=by unfold byScan;simp[Value.scannable]
 rw[hbs];simp only[qU,↓reduceIte];unfold setSearch;obtain⟨j0,hj0,hjn⟩:=T.empty hfull;have hm5:t.mask<=511:=by rcases T.ms with e | e | e | e <;> omega
 refine xa (Zd7 hu g1 g3 T hf hE hx (λhyes=>?_) (λhno j hj hjm hfd=>?_) 100000 (10*(t.mask+15)) none (Sh t.mask (XG prog w ns)) rfl (ZkS T.ms _ hj0 hjn) (by omega) (qq _) rfl (ZmE _ (BF _ _)) (λq hq b eb hk=>?_) λ_ _ _ h=>h)
 ·obtain⟨e,he,b,eb,hk⟩:=hyes
  dsimp only;obtain⟨x,hx',rfl⟩:=qp.mp (pm.mem_iff.mp he)
  cases eb
  have:=hk.inj (hts x hx');have hin:ns∈ts.map (·.1):=qp.mpr ⟨x,hx',this.symm⟩;refine xb ?_;have fin:=c false s.heap (yh.refl a s.heap) (by unfold stepT;rw[if_pos hin];exact⟨o,es,ep,t,g1,g2,g3,T,hg,hfull,pm,nd⟩);have e:s = { s with heap:=s.heap }:=by cases s;rfl
  rw[e];exact fin
 ·have hin:ns∉ts.map (·.1):=λz=>by
   obtain⟨x,hx',e⟩:=qp.mp z;exact hno (entT prog w x) (pm.mem_iff.mpr (qp.mpr ⟨x,hx',rfl⟩)) x.2 rfl (by rw[<-e];exact hts x hx')
  obtain⟨T1,m1,s1,d1,l1⟩:=ZnK (h:=XG prog w ns) (x:=.ref ax) T hj hjm hfd;dsimp only;refine xa (wpAny_setState_of g1 g3 hf ?_);dsimp only;have ee:(qaK es (t.put j).2 (XG prog w ns,qY ax)).toList.Perm ((stepT ts (ns,ax)).map (entT prog w)):=by
   unfold stepT;rw[if_neg hin,qax,zx];refine List.perm_middle.trans ?_;rw[zj];refine(qa6.cons _ pm).trans ?_;exact(List.perm_append_singleton _ _).symm
  have nd':((stepT ts (ns,ax)).map (·.1)).Nodup:=by
   unfold stepT;rw[if_neg hin,zx];refine yV.mpr ⟨nd,by simp,λx hx y hy e=>hin ?_⟩;simp at hy;rw[<-hy,<-e];exact hx
  have hg1:Good w (t.put j).1:=⟨by rw[l1];exact hg.1,T1.ri⟩;generalize hE1:qaK es (t.put j).2 (XG prog w ns,qY ax)=es1 at T1 ee⊢;generalize hT1:(t.put j).1=t1 at T1 m1 s1 d1 l1 hg1⊢;have z1:es1.size=ts.length+1:=by
   have:=T1.sz;rw[qy,qy]at this;omega
  have tail:xf (xz prog w) A (do
    storeSet a es1 t1
    if (!false&&t1.tooFull)=true then setRelay a (yO (es.size+1))
    pure true) Q E s:=by
   refine xa (wpAny_storeSet_of g1 g3 ?_ (by rw[z1,sizeLine_eq];omega));have q1:=ZhN g1 g3 es1 t1;have sb:=qaz s.heap a (qbX es1 t1);have hfl:t1.fill=t1.place.size:=by unfold SetTable.fill;rw[d1];rfl
   by_cases full:t1.tooFull=true
   ·rw[if_pos (by simp[full])]
    unfold SetTable.tooFull at full;rw[hfl]at full;have full:=of_decide_eq_true full;have hf1:t1.fits es1.size=true:=by
     have:=T1.sz;rw[qy,qy]at this;simp only[qcG,zh,beq_iff_eq,decide_eq_true_eq,hfl];refine⟨this,?_⟩;rcases T.ms with e | e | e | e <;> omega
    refine xa (ZkX (n:=es.size) (s:={ s with heap:=s.heap.update a (qbX es1 t1) }) q1 rfl T1 (by omega) (by rw[m1];omega) (by omega) (by omega) hf1 λes2 t2 T2 p2 l2 f2=>?_);refine xb (c true _ (sb.trans (qaz _ a _)) ⟨_,es2,ep+2,t2,ZhN q1 rfl es2 t2,g2,rfl,T2,⟨by rw[l2];exact hg1.1,T2.ri⟩,f2,p2.trans ee,nd'⟩)
   ·rw[if_neg (by simp[full])]
    unfold SetTable.tooFull at full;rw[hfl]at full;have full:¬(t1.place.size*5≥t1.mask*3):=λz=>full (decide_eq_true z);exact xb (c true _ sb ⟨_,es1,ep+1,t1,q1,g2,rfl,T1,hg1,by omega,ee,nd'⟩)
  split
  ·refine xa (Zg5 hx ?_)
   simp only[↓reduceIte];exact tail
  ·refine xa (xb ?_)
   simp only[↓reduceIte];exact tail
 ·have ⟨i,hi⟩:=zI.mp hq
  obtain⟨ms,b',ee,hk'⟩:=hE q.1 (qaE hq).1;rw[ee]at eb
  cases eb
  have:=hk.inj hk';subst this;have:=T.fd q hq;rw[ee]at this;exact this
end
end HT
namespace HT
section
variable {prog:xB}{w:World}{A:xC}{E:xD}{s:Shared}
noncomputable def firstT (ks:List (List Int×Addr))(i:Nat):List (List Int×Addr):=(ks.take i).foldl stepT []
theorem Zf0 {ks:List (List Int×Addr)}{i:Nat}{x:List Int×Addr}(h:ks[i]?=some x):firstT ks (i+1)=stepT (firstT ks i) x:=by
 unfold firstT;rw[List.take_add_one,h];simp[qbV]
theorem Zi4 (ts:List (List Int×Addr))(x:List Int×Addr):(∀y∈stepT ts x,y∈ts∨y=x)/\(stepT ts x).length<=ts.length+1/\∀k,k∈(stepT ts x).map (·.1)↔k∈ts.map (·.1)∨k=x.1:=by
 unfold stepT;split
 ·rename_i h
  refine⟨λy hy=>.inl hy,by omega,λk=>⟨.inl,λz=>?_⟩⟩;rcases z with z | rfl
  ·exact z
  ·exact h
 ·refine⟨λy hy=>by simpa using hy,by simp,λk=>?_⟩
  simp[eq_comm]
theorem foldT_sub:∀(ks ts:List (List Int×Addr)),(∀y∈ks.foldl stepT ts,y∈ts∨y∈ks)/\(ks.foldl stepT ts).length<=ts.length+ks.length/\∀k,k∈(ks.foldl stepT ts).map (·.1)↔k∈ts.map (·.1)∨k∈ks.map (·.1)
 | [],ts=>⟨λy hy=>.inl hy,by simp,λk=>by simp⟩
 | x::ks,ts=>by
  obtain⟨a1,a2,a3⟩:=foldT_sub ks (stepT ts x);obtain⟨b1,b2,b3⟩:=Zi4 ts x;refine⟨λy hy=>?_,by rw[qbA,qO];omega,λk=>?_⟩
  ·rcases a1 y hy with z | z
   ·rcases b1 y z with z | z
    ·exact .inl z
    ·exact .inr (by simp[z])
   ·exact .inr (by simp[z])
  ·rw[qbA,a3 k,b3 k,qX,qu,or_assoc]
theorem firstT_sub (ks:List (List Int×Addr))(i:Nat):(∀y∈firstT ks i,y∈ks)/\(firstT ks i).length<=i:=by
 obtain⟨a,b,_⟩:=foldT_sub (ks.take i) [];refine⟨λy hy=>?_,?_⟩
 ·rcases a y hy with z | z
  ·simp at z
  ·exact qar z
 ·have:(ks.take i).length<=i:=by rw[qZ];omega
  unfold firstT;simp only[qag]at b;omega
theorem TK.keep {h h':Heap}{ns:List Int}{a:Addr}(k:TK prog w h ns a)(hk:∀o,h.get? a=some o->h'.get? a=some o):TK prog w h' ns a:=by
 obtain⟨o,items,n,ho,r⟩:=k;exact⟨o,items,n,hk o ho,r⟩
theorem SetT.keep {h h':Heap}{a:Addr}{ts:List (List Int×Addr)}(k:SetT prog w h a ts)(hk:∀o,h.get? a=some o->h'.get? a=some o):SetT prog w h' a ts:=by
 obtain⟨o,es,ep,t,ho,r⟩:=k;exact⟨o,es,ep,t,hk o ho,r⟩
theorem Zme {h:Heap}{a:Addr}{ks:List (List Int×Addr)}(hg:h.get? a=some (Y0 (!Yz w))):SetT prog w h a (firstT ks 0):=by
 refine⟨_,#[],0,_,hg,⟨rfl,rfl,rfl⟩,rfl,⟨.inl rfl,rfl,yn,λj hj=>?_,rfl,λq hq=>?_⟩,⟨?_,yn⟩,by show 0*5<7*3;decide,.refl _,yn⟩
 ·exact absurd (show j∈([]:List Nat)from hj) (by simp)
 ·exact absurd (show q∈([]:List ((Int×Value)×Nat))from hq) (by simp)
 ·show Yz w=true∨(!Yz w)=true
  cases Yz w <;> simp
theorem ZnN {R:Result->Shared->Prop}{I:Addr}{fp wr:List Addr}{G:Array GenState->Array GenState->Prop}{n:Nat}{P:Nat->Value->Prop}{St:Nat->Shared->Prop}
  (W:WalksS prog w A.in1 I fp wr G n P St) (Z:Addr) (hZ:Z∉fp) (ks:List (List Int×Addr)) (hv:∀i v,P i v->∃x,ks[i]?=some x/\v=.ref x.2) (hb:n<=306) (hu:A.in1.units<cLine) (hd:∀x∈ks,x.2≠Z/\x.2∉wr) :
  ∀(k i:Nat) (s:Shared),n-i=k->i<=n->St i s->SetT prog w s.heap Z (firstT ks i)->(∀x∈ks,TK prog w s.heap x.1 x.2)->
   (∀s',Moved (Z::wr) G s s'->SetT prog w s'.heap Z (firstT ks n)->R (.ok (.ret .none)) s')->
   xo (xz prog w) A (.builtin "set.update.loop" ⟨[.ref Z,.ref I],[]⟩) R s:=by
 have hZw:Z∉wr:=λh=>hZ (W.sub _ h);have sub:∀b∈wr,b∈Z::wr:=λb m=>qT _ m;intro k
 induction k with
 | zero=>
  intro i s hk hi st hS hT hR;have e:i=n:=by omega
  subst e;refine xm qa9 ?_;rw[yD qaf _];show xf _ A.in1 (pyNext (.ref I) >>= _) _ _ s;refine xa (W.done s _ _ st λs' hm=>?_);show xf _ A.in1 (ret zo) _ _ s';exact xb (hR s' (hm.mono sub) (hS.keep λo e=>hm.heap Z o hZw e))
 | succ k ih=>
  intro i s hk hi st hS hT hR;have hlt:i<n:=by omega
  refine xm qa9 ?_;rw[yD qaf _];show xf _ A.in1 (pyNext (.ref I) >>= _) _ _ s;refine xa (W.item i s _ _ hlt st λv s' hP st' hm=>?_);obtain⟨x,hx,rfl⟩:=hv i v hP;have hxm:x∈ks:=zt hx;have hS':=hS.keep λo e=>hm.heap Z o hZw e;have hT':∀y∈ks,TK prog w s'.heap y.1 y.2:=λy hy=>TK.keep (hT y hy) λo e=>hm.heap y.2 o (hd y hy).2 e;obtain⟨f1,f2⟩:=firstT_sub ks i;show xf _ A.in1 (holding [qY x.2] (setAdd Z (.ref x.2)) >>= _) _ _ s';refine xa (xu ?_);unfold setAdd;refine xu (xa (wpAny_pyHash_tuple hu (hT' x hxm) ?_));refine Zou (s:={ s' with toks:=s'.toks+(x.1.length+1) }) hu hS' (λy hy=>hT' y (f1 y hy)) (hT' x hxm) (by omega) λb h' sb z=>?_;have z':SetT prog w h' Z (firstT ks (i+1)):=by rw[Zf0 hx];exact z
  refine xb ⟨plainId_quiet qaf _,ih (i+1) _ (by omega) hlt (W.frame _ s' _ _ st' (qb2 _ _) λb m o e=>?_) z' (λy hy=>TK.keep (hT' y hy) λo e=>?_) λs'' hm'' hS''=>?_⟩
  ·rw[sb.2 b (λh:b=Z=>hZ (by rw[<-h];exact m))];exact e
  ·rw[sb.2 y.2 (hd y hy).1];exact e
  ·refine hR s'' (Moved.trans W.gtrans ((hm.mono sub).then_heap (qb2 _ _) λb o m e=>?_) hm'') hS''
   rw[sb.2 b (λh:b=Z=>m (by rw[h];exact zG))];exact e
theorem setT_of_list {l:Addr}{items:Array Value}{ks:List (List Int×Addr)}{Q:xD}(hh:A.handled=none)(hl:s.heap.IsList l items)(hi:items.toList=ks.map λx=>.ref x.2)(hk:∀x∈ks,TK prog w s.heap x.1 x.2)(hb:items.size<=306)(hu:A.units+10<cLine)
  (h:∀(h':Heap) (tk:Nat),SetT prog w h' s.heap.objs.size (firstT ks items.size)->(∀b o,b<s.heap.objs.size->s.heap.get? b=some o->h'.get? b=some o)->Q (.ref s.heap.objs.size) { s with heap:=h',toks:=tk }) :
  xf (xz prog w) A (call (.type "set") [.ref l]) Q E s:=by
 obtain⟨c,tl,hmro⟩:=zq.mro;have hmade:=zq.made;have hsub:=zq.sub;refine xy (codeAny_of_tree ?_);show xf _ _ (callAny (.type "set") _) _ _ _;refine xb ⟨qbK _ (by decide +kernel),xm qce ?_⟩;rw[xC.under_plain (weight_type_call_type "set" [.ref l] []) rfl];have h1:=zq.notType;have h2:=zq.canCreate;have hct:=qcm (.ref l)
 repeat (any_goals (first | assumption | wp_step))
 refine codeAny_mono (Znv (.ref l) (E:=E) (Q₁:=λobj s₁=>obj=.ref s.heap.objs.size/\s₁ = { s with heap:=s.heap.push (Y0 (!Yz w)) }) ⟨rfl,rfl⟩) λr s₁ hr=>?_
 cases r with
 | error e=>exact hr
 | ok fl=>
  cases fl with
  | ret obj=>
   obtain⟨rfl,rfl⟩:=hr;have hS:(s.heap.push (Y0 (!Yz w))).get? s.heap.objs.size=some (Y0 (!Yz w)):=qD _ rfl;have hT:qbO { s with heap:=s.heap.push (Y0 (!Yz w)) } (.ref s.heap.objs.size) "set":=⟨_,hS,rfl⟩;have hli:=zq.init.lookup;have hbi:=zq.init.bind (.ref s.heap.objs.size)
   repeat (any_goals (first | assumption | wp_step))
   refine codeAny_mono (codeAny_call_builtin (R:=wants (λr s₂=>r=.none/\∃h' tk,s₂ = { s with heap:=h',toks:=tk }/\SetT prog w h' s.heap.objs.size (firstT ks items.size)/\(∀b o,b<s.heap.objs.size->s.heap.get? b=some o->h'.get? b=some o)) E) zq.init.plain qcn (check_set_init_1 hT ?_)) λr₂ s₂ hr₂=>?_
   ·obtain⟨ol,hol,hcl,nl,hdl⟩:=hl;obtain⟨ocls,odict,odata,oslots⟩:=ol
    simp only at hcl hdl;subst hcl;subst hdl;have hol':(s.heap.push (Y0 (!Yz w))).get? l=some { cls:=.type "list",dict:=odict,data:=.seq items nl,slots:=oslots }:=qf _ hol;have z1:=PySem.F.sub_list_set;have z2:=PySem.F.sub_list_frozenset;have hne:(yI "list" == yI "dict")=false:=by decide
    have hl1:(s.heap.push (Y0 (!Yz w))).IsList l items:=⟨_,hol',rfl,nl,rfl⟩;unfold Builtin.«set.__init__» noKeywords qbH;generalize hPI:pyIter=PI
    wp_walk
    subst hPI;refine wpAny_pyIter_list hl1 ?_;refine xa (wpAny_runValue ?_);have hlS:l<s.heap.objs.size:=qK hol;have hh3:A.in1.in1.in1.handled=none:=by simp[hh]
    have hneI:l≠(s.heap.push (Y0 (!Yz w))).objs.size:=by rw[zV];exact qS (zF hlS)
    have hSf:s.heap.objs.size∉[(s.heap.push (Y0 (!Yz w))).objs.size,l]:=by
     rw[zV];simp only[qu,qJ,yg,or_false,not_or];exact⟨qS (yK _),qbx hlS⟩
    have hval:∀(i:Nat) (v:Value),items[i]?=some v->∃x,ks[i]?=some x/\v=.ref x.2:=λi v hv=>by
     rw[<-qB,hi,qI]at hv;obtain⟨x,e1,e2⟩:=ym.mp hv;exact⟨x,e1,e2.symm⟩
    have hdd:∀x∈ks,x.2≠s.heap.objs.size/\x.2∉[(s.heap.push (Y0 (!Yz w))).objs.size]:=λx hx=>by
     obtain⟨o,_,_,ho,_⟩:=hk x hx;have:=qK ho;rw[zV];simp only[qu,qJ,yg,or_false];exact⟨qS this,qS (zF this)⟩
    refine ZnN ((Walks.list hh3 _ l hneI items).toS) s.heap.objs.size hSf ks hval hb (by show A.units+1+1+1<cLine;omega) hdd (items.size-0) 0 _ (by omega) (zB _) ⟨⟨_,qD _ rfl,rfl,rfl⟩,(hl1.push _)⟩ ?hS0 (λx hx=>TK.keep (hk x hx) λo e=>qf _ (qf _ e)) ?hR
    case hS0=>
     have hget:((s.heap.push (Y0 (!Yz w))).push { cls:=.type "list_iterator",data:=.fields #[.ref l,.int 0 0] }).get? s.heap.objs.size=some (Y0 (!Yz w)):=qf _ hS;exact Zme hget
    case hR=>
     intro s' hm hS';obtain⟨h',g',d',tk',os'⟩:=s';have eg:g'=s.gens:=hm.gens;have ed:d'=s.drawn:=hm.drawn;have eo:os'=s.os:=hm.os;subst eg;subst ed;subst eo;show xf _ _ _ _ _ _;refine xb ?_;show xf _ _ (ret zo) _ _ _;refine xb ⟨rfl,h',tk',rfl,hS',λb o hb e=>?_⟩;have hb1:b≠s.heap.objs.size:=qS hb;have hb2:b≠(s.heap.push (Y0 (!Yz w))).objs.size:=by rw[zV];exact qS (zF hb)
     exact hm.heap b o (by simp only[qu,qJ,yg,or_false,not_or];exact⟨hb1,hb2⟩) (qf _ (qf _ e))
   ·cases r₂ with
    | error e=>exact hr₂
    | ok fl₂=>
     cases fl₂ with
     | ret r=>
      obtain⟨rfl,h',tk,rfl,hS',hk'⟩:=hr₂;repeat (any_goals (first | assumption | wp_step))
      exact h _ _ hS' hk'
     | next=>exact hr₂.elim
     | brk=>exact hr₂.elim
     | cont=>exact hr₂.elim
  | next=>exact hr.elim
  | brk=>exact hr.elim
  | cont=>exact hr.elim
end
open L2 TS
section
variable {prog:xB}{w:World}{A:xC}{E:xD}{s:Shared}
variable {a:Addr}{o:Obj}{es:Array (Int×Value)}{ep:Nat}{t:SetTable}
theorem Zf1:∀{vs:List Value} {ns:List Int},IntsAre vs ns->ItemsAre (intKind prog w) ns vs
 | _,_,.nil=>.nil
 | _,_,.cons n t h=>.cons (intKind_is _ _ _ _) (Zf1 h)
theorem tk_of {h:Heap}{a:Addr}{ns:List Int}(x:Yr h (.ref a) ns):TK prog w h ns a:=by
 obtain⟨b,xs,e,⟨o,ho,hc,n,hd⟩,hi⟩:=x
 cases e
 exact⟨o,_,n,ho,hc,hd,by simpa using Zf1 hi⟩
theorem sortedT {Q:xD}(hh:A.handled=none)(ho:s.heap.get? a=some o)(hex:o.ExactSet)(hd:o.data=.set es ep t)(hf:t.fits es.size=true)(hg:Good w t)(hz:es.size<=1000){jI:List (List Int)}(hi:Paired (Yr s.heap) (es.toList.map (·.2)) jI)(hne:2<=jI.length->∀ns∈jI,ns≠[])
  (k:∀(ix:List Nat) (L:Addr) (h':Heap) (tk:Nat) d (e:Nat),ix.Perm (qk es.size)->(ix.map λi=>jI.getD i [])=YN jI->(∀b u,s.heap.get? b=some u->h'.get? b=some u)->s.heap.objs.size<=L->h'.get? L=some (seqObj "list" (ix.map λi=>(es.toList.map (·.2)).getD i .none).toArray e)->Q (.ref L) { s with heap:=h',toks:=tk,drawn:=d }) :
  xf (xz prog w) A (call (.builtin "sorted") [.ref a]) Q E s:=by
 refine qa1 kind_sorted plain_sorted entry_sorted (args_sorted1 _) ?_;unfold Builtin.«sorted»;refine xa (m:=checkCount "sorted" 1 1 _) (xb ?_);refine xa (ZfP hh ho hex hd hf hg hz λvs h1 tk d kp hs pm=>?_);obtain⟨ix,p1,p2⟩:=TT.perm_ix zo pm;have hel:(es.toList.map (·.2)).length=es.size:=by simp
 rw[hel]at p1;have hb:∀i∈ix,i<(es.toList.map (·.2)).length:=λi hi=>by rw[hel];exact qG.mp (p1.mem_iff.mp hi)
 have hl:vs.length=es.size:=by rw[pm.length_eq,hel]
 have hnl:jI.length=es.size:=by rw[<-qak hi,hel]
 have hpk:Paired (Yr s.heap) vs (ix.map λi=>jI.getD i []):=by
  have:=TS.Paired.pick zo [] hi ix hb;rw[<-p2]at this;exact this
 have hnp:(ix.map λi=>jI.getD i []).Perm jI:=by
  have:=p1.map λi=>jI.getD i [];rw[<-hnl,TS.range_getD]at this;exact this
 refine xa (xw ?_ (by rw[sizeLine_eq];omega));have g1:(h1.push (seqObj "list" vs.toArray 0)).get? h1.objs.size=some (seqObj "list" vs.toArray 0):=qD _ rfl;have ht:Paired (Yr (h1.push (seqObj "list" vs.toArray 0))) vs (ix.map λi=>jI.getD i []):=L2.Paired.mapP hpk λv ns ⟨a,xs,e,⟨o,ho,r⟩,i⟩=>⟨a,xs,e,⟨o,qf _ (kp a o ho),r⟩,i⟩;show xf _ _ _ _ _ { s with heap:=h1.push (seqObj "list" vs.toArray 0),toks:=tk,drawn:=d };refine xa (xu (wpAny_call_entry slot_list_sort ⟨_,g1,rfl⟩ entry_list_sort (TT.list_sort_T2 (s:={ s with heap:=h1.push (seqObj "list" vs.toArray 0),toks:=tk,drawn:=d }) g1 ht (by omega) (λz ns hm=>hne (by omega) ns (hnp.mem_iff.mp hm)) λp a1 a2=>⟨_,rfl,?_⟩) (args_list_sort _)));obtain⟨e,he⟩:=sortedHeap_at (out:=yT (p.toList.map λi=>vs.getD i zo)) g1;have hpl:∀i∈p.toList,i<ix.length:=λi hi=>by
  have:=qG.mp (a1.mem_iff.mp hi);rw[p2,qd]at this;exact this
 have comp:∀{α:Type} (l:List α) (d:α),(p.toList.map λi=>(ix.map λi=>l.getD i d).getD i d)=(p.toList.map λi=>ix.getD i 0).map λi=>l.getD i d:=λl d=>by
  rw[qC];refine zl λi hi=>?_;have:=hpl i hi;show(ix.map λi=>l.getD i d).getD i d=l.getD (ix.getD i 0) d;rw[qz,qI,qw this,qz (l:=ix),qw this];rfl
 refine xb ⟨_,rfl,k (p.toList.map λi=>ix.getD i 0) h1.objs.size _ tk d e ?_ ?_ (λb u q=>?_) (qbY hs) ?_⟩
 ·have:=a1.map λi=>ix.getD i 0
  rw[show vs.length=ix.length by rw[p2,qd],TS.range_getD]at this;exact this.trans p1
 ·rw[<-comp jI [],a2]
  exact ZaG hnp
 ·have q1:=kp b u q
  have l1:=qK q1;rw[sortedHeap_old (qS l1) (by rw[zV];exact zF l1)];exact qf _ q1
 ·rw[<-comp (es.toList.map (·.2)) zo,<-p2]
  exact he
end
end HT
namespace TF
open L2 TS
section
variable {X:Cx}{G:Gh}
noncomputable def BN (w:World)(o:Obj)(vs:List V):Prop:=∃es ep t,o.data=.set es ep t/\o.ExactSet/\t.fits es.size=true/\HT.Good w t/\es.size<=306/\ZB vs (es.toList.map (·.2))
theorem ZhO {T:V->List Int->Prop}(hT:∀v ns,T v ns->∃a,v=.ref a):∀{vs:List V} {jI:List (List Int)},Paired T vs jI->∃ks:List (List Int×Addr),vs=ks.map (λx=>V.ref x.2)/\jI=ks.map (·.1)/\∀x∈ks,T (.ref x.2) x.1
 | _,_,.nil=>⟨[],rfl,rfl,by simp⟩
 | _,_,.cons r t=>by
  obtain⟨ks,rfl,rfl,h⟩:=ZhO hT t;obtain⟨a,rfl⟩:=hT _ _ r;exact⟨(_,a)::ks,rfl,rfl,λx hx=>by
   rcases qu.mp hx with rfl | hx
   ·exact r
   ·exact h x hx⟩
theorem Zd8:∀{ks:List (List Int×Addr)} {jH:List Value},ZB (ks.map λx=>V.ref x.2) jH->jH=ks.map λx=>.ref x.2
 | [],_,r=>by cases r;rfl
 | x::ks,_,r=>by
  cases r with
  | cons a b=>
   cases a
   rw[Zd8 b];rfl
theorem Zd9:∀(ks:List (List Int×Addr)),ZB (ks.map λx=>V.ref x.2) (ks.map λx=>.ref x.2)
 | []=>.nil
 | x::ks=>.cons rfl (Zd9 ks)
theorem Zea {T:V->List Int->Prop}:∀{ks:List (List Int×Addr)},(∀x∈ks,T (.ref x.2) x.1)->Paired T (ks.map λx=>V.ref x.2) (ks.map (·.1))
 | [],_=>.nil
 | x::ks,h=>.cons (h x (by simp)) (Zea λy hy=>h y (by simp[hy]))
theorem ZnO {jC:Qb}{s:Shared}{σ:St}{H:Hp}{T:V->List Int->Prop}{Q:VK}(I:Inv X jC σ H s)(ks:List (List Int×Addr))(hTk:∀x∈ks,T (.ref x.2) x.1)(hl:ks.length<=306)
  (q:∀l o vs' nss',H l=none->BN X.w o vs'->Paired T vs' nss'->nss'.Nodup->(∀x,x∈nss'↔x∈ks.map (·.1))->Q (.ref l) (Zn H l (.frz o (.own 0)))) (n:Nat) (hn:n=ks.length) (h':Heap) (tk:Nat) (hS:HT.SetT X.prog X.w h' s.heap.objs.size (HT.firstT ks n)) (hk:∀b o,b<s.heap.objs.size->s.heap.get? b=some o->h'.get? b=some o):EP X jC σ Q (.ref s.heap.objs.size) { s with heap:=h',toks:=tk }:=by
 subst hn;obtain⟨o,es,ep,t,g1,g2,g3,Tb,hg,hfull,pm,nd⟩:=hS;obtain⟨ix,p1,p2⟩:=TT.perm_ix ((0:Int),zo) pm;obtain⟨f1,f2⟩:=HT.firstT_sub ks ks.length;have f3:=(HT.foldT_sub (ks.take ks.length) []).2.2;rw[yy]at f3;have e0:HT.firstT ks ks.length=ks.foldl HT.stepT []:=by unfold HT.firstT;rw[yy]
 obtain⟨ts,hts,et⟩:∃ts:List (List Int×Addr),ts.Perm (HT.firstT ks ks.length)/\es.toList=ts.map (HT.entT X.prog X.w):=by
  refine⟨ix.map λi=>(HT.firstT ks ks.length).getD i ([],0),?_,?_⟩
  ·rw[qd]at p1
   have:=p1.map λi=>(HT.firstT ks ks.length).getD i ([],0);rw[TS.range_getD]at this;exact this
  ·rw[p2,qC]
   refine zl λi hi=>?_;have:=qG.mp (p1.mem_iff.mp hi);rw[qd]at this;show((HT.firstT ks ks.length).map (HT.entT X.prog X.w)).getD i (0,zo)=HT.entT X.prog X.w ((HT.firstT ks ks.length).getD i ([],0));rw[qz,qI,qw this,qz,qw this];rfl
 have esz:es.size=ts.length:=by rw[<-qy,et,qd]
 have tsl:ts.length<=306:=by rw[hts.length_eq];omega
 refine⟨.ref s.heap.objs.size,_,I.laid (a:=s.heap.objs.size) (o:=.frz o (.own 0)) (t':=tk) (λb o e=>hk b o (qK e) e) (qq _) ⟨g1,o,g1⟩,rfl,q _ o (ts.map λx=>V.ref x.2) (ts.map (·.1)) (I.hok.fresh (qq _)) ⟨es,ep,t,g3,g2,Tb.fits hfull,hg,by omega,?_⟩ (Zea λx hx=>hTk x (f1 x (hts.mem_iff.mp hx))) ((hts.map _).nodup_iff.mpr nd) λx=>?_⟩
 ·rw[et,qC]
  exact Zd9 ts
 ·rw[(hts.map (·.1)).mem_iff,e0,f3]
  simp
theorem Zg6 (hc:X.calm=true)(hu:X.A.units+10<cLine):Y2 X (.type "set") (λxs H Q=>∃(p:Addr) (vs:List V) (jI:List (List Int)) (T:V->List Int->Prop),xs=[.ref p]/\ZE X.K H p vs/\(∀v ns,T v ns->∃a,v=.ref a/\ZI X.K H a (ns.map V.int))/\Paired T vs jI/\jI.length<=306/\
  ∀l o vs' nss',H l=none->BN X.w o vs'->Paired T vs' nss'->nss'.Nodup->(∀x,x∈nss'↔x∈jI)->Q (.ref l) (Zn H l (.frz o (.own 0)))):=by
 intro jC s σ H xs us Q I r h;obtain⟨p,vs,jI,T,rfl,hp,hT,pT,hl,q⟩:=h;obtain⟨u,rfl,ru⟩:=Xu r
 cases ru
 obtain⟨jH,rv,pl,hz⟩:=I.list hp;obtain⟨ks,rfl,rfl,hk⟩:=ZhO (λv ns h=>let ⟨a,e,_⟩:=hT v ns h;⟨a,e⟩) pT;have ei:=Zd8 rv;subst ei;rw[qd]at hl;refine HT.setT_of_list (I.ok.hd hc) pl.isList (ks:=ks) (by simp) (λx hx=>?_) (by simpa using hl) hu λh' tk hS hkp=>ZnO I ks hk hl q _ (by simp) h' tk hS hkp;obtain⟨a,e,hq⟩:=hT _ _ (hk x hx)
 cases e
 obtain⟨xs,rv,pl,hz⟩:=I.tuple hq;exact HT.tk_of ⟨x.2,xs,rfl,show s.heap.IsTuple x.2 xs.toArray from pl,Wo rv⟩
theorem ZdC (hc:X.calm=true):Y2 X (.builtin "sorted") (λxs H Q=>∃(p:Addr) (o:Obj) (vs:List V) (jI:List (List Int)) (T:V->List Int->Prop),xs=[.ref p]/\H p=some (.frz o (.own 0))/\BN X.w o vs/\(∀v ns,T v ns->∃a,v=.ref a/\ZI X.K H a (ns.map V.int))/\Paired T vs jI/\
  (2<=jI.length->∀ns∈jI,ns≠[])/\∀l vs',Paired T vs' (YN jI)->H l=none->Q (.ref l) (Zn H l (.lst vs'))):=by
 intro jC s σ H xs us Q I r h;obtain⟨p,o,vs,jI,T,rfl,hp,hS,hT,pT,hne,q⟩:=h;obtain⟨u,rfl,ru⟩:=Xu r
 cases ru
 obtain⟨ho,_⟩:=(show Yx X.prog X.w H s.heap p (.frz o (.own 0))from I.hok p _ hp);obtain⟨es,ep,t,g3,g2,gf,gg,gz,gv⟩:=hS;have hel:(es.toList.map (·.2)).length=es.size:=by simp
 have hvl:vs.length=es.size:=by rw[gv.length,hel]
 refine HT.sortedT (I.ok.hd hc) ho g2 g3 gf gg (by omega) (ZbH I hT gv pT) hne λix L h' tk d e p1 p2 kp hL he=>?_;have hb:∀i∈ix,i<es.size:=λi hi=>qG.mp (p1.mem_iff.mp hi);have pv:ZB (ix.map λi=>vs.getD i V.non) (ix.map λi=>(es.toList.map (·.2)).getD i zo):=TS.Paired.pick _ _ gv _ λi m=>by rw[hvl];exact hb i m
 have pt:Paired T (ix.map λi=>vs.getD i V.non) (ix.map λi=>jI.getD i []):=TS.Paired.pick _ _ pT _ λi m=>by rw[hvl];exact hb i m
 rw[p2]at pt;refine⟨.ref L,_,jA (s:={ s with heap:=h',toks:=tk }) (I.laid (a:=L) (o:=.lst (ix.map λi=>vs.getD i V.non)) (t':=tk) kp hL ⟨?_,_,e,pv,he⟩),rfl,q _ _ pt (I.hok.fresh hL)⟩;have:=p1.length_eq;rw[qQ]at this;rw[qd,this,sizeLine_eq];omega
end
section
variable {X:Cx}{G:Gh}
noncomputable def W6:List (List Int)->List (List Int)
 | []=>[]
 | x::l=>if x∈l then W6 l else x::W6 l
theorem JW {x:List Int}:∀{l:List (List Int)},x∈W6 l↔x∈l
 | []=>.rfl
 | y::l=>by
  unfold W6;split
  ·rename_i h
   rw[JW,qu];exact⟨.inr,λz=>z.elim (λe=>e▸h) id⟩
  ·rw[qu,qu,JW]
theorem B5:∀l:List (List Int),(W6 l).Nodup
 | []=>.nil
 | y::l=>by
  unfold W6;split
  ·exact B5 l
  ·rename_i h
   exact zH.mpr ⟨λz=>h (JW.mp z),B5 l⟩
noncomputable def Bo (jI:List (List Int)):Prop:=jI.length<=306/\∀ns∈jI,ns≠[]
instance (jI:List (List Int)):Decidable (Bo jI):=by unfold Bo;infer_instance
noncomputable def Jv (ds:List D):M D:=match WO ds with | some jI=>if Bo jI then Zy (.lst ((YN (W6 jI)).map Y8))else ZG | none=>ZG
noncomputable def JX (f:Zb->M D):Zb->M D:=fun ρ=>Zo (f ρ) λd=>match d with
 | .lst ds=>Jv ds
 | _=>ZG
theorem ZhP {Hf H:Hp}(e:ZA G Hf H)(v:V)(ns:List Int)(h:Zj G Hf (Y8 ns) v):∃a,v=.ref a/\ZI X.K H a (ns.map V.int):=by
 obtain⟨a,us,rfl,na,ha,ra⟩:=jc.mp h;rw[jk ra]at ha;exact⟨a,rfl,ZI.of (e _ _ na ha)⟩
theorem Zmf {Hf H jQ H1:Hp}{jI:List (List Int)}{s1 s':Pn}{d:D}{Q:VK}(g1:Gr G Hf H jQ H1)(jT:G.st s1 H1)(h:(if Bo jI then Zy (D.lst ((YN (W6 jI)).map Y8))else ZG) s1=some (d,s'))
  (k:∀(v:V) (Hf' H':Hp),Gr G Hf H Hf' H'->G.st s' H'->Zj G Hf' d v->(true=true->Yj G H Hf' d v)->Q v H') (l:Addr) (o:Obj) (vs':List V) (nss':List (List Int)) (hn:H1 l=none) (hO:BN X.w o vs') (pT:Paired (λv ns=>Zj G jQ (Y8 ns) v) vs' nss') (nd:nss'.Nodup) (hm:∀x,x∈nss'↔x∈jI) :
  ∃(p:Addr) (o':Obj) (vs:List V) (jI:List (List Int)) (T:V->List Int->Prop),[V.ref l]=[.ref p]/\Zn H1 l (.frz o (.own 0)) p=some (.frz o' (.own 0))/\BN X.w o' vs/\(∀v ns,T v ns->∃a,v=.ref a/\ZI X.K (Zn H1 l (.frz o (.own 0))) a (ns.map V.int))/\Paired T vs jI/\
   (2<=jI.length->∀ns∈jI,ns≠[])/\∀l' vs',Paired T vs' (YN jI)->Zn H1 l (.frz o (.own 0)) l'=none->Q (.ref l') (Zn (Zn H1 l (.frz o (.own 0))) l' (.lst vs')):=by
 obtain⟨ok,h⟩:=Xf h;obtain⟨rfl,rfl⟩:=ZQ h;have nf:=Gh.nofp jT hn;have g2:=Gr.new (o:=.frz o (.own 0)) g1.fh hn nf;have jP:=Gh.grow (o:=.frz o (.own 0)) jT hn;have es:YN nss'=YN (W6 jI):=ZaG ((yi nd (B5 jI)).mpr λx=>by rw[hm,JW]);refine⟨l,o,vs',nss',λv ns=>Zj G jQ (Y8 ns) v,rfl,ZX,hO,λv ns r=>ZhP g2.fh v ns (r.ext g2.ff),pT,λ_ ns hns=>ok.2 ns ((hm ns).mp hns),λl' vs2 pt hn'=>?_⟩;rw[es]at pt;have nf':=Gh.nofp jP hn';have g3:=Gr.new (o:=.lst vs2) g2.fh hn' nf';have rl:=(ZbK pt).ext g2.ff;exact k (.ref l') _ _ ((g1.trans g2).trans g3) (Gh.grow jP hn') (jb.mpr ⟨l',_,rfl,nf',ZX,rl.ext g3.ff⟩) λ_=>jn (g1.trans g2).hh (λa ea _=>by cases ea;exact nf') (Yj.mk g2.fh hn' nf' rl)
theorem ZeT {a:Expr}{p1 p2 pos1 pos:Pos}{r1:Bool}{f:Zb->M D}(hc:X.calm=true)(hu:X.A.units+64<cLine)(hg:Gl X "sorted")(hm:X.mg "sorted" = none)(hv:xj "sorted" = some (.builtin "sorted"))(hg2:Gl X "set")(hm2:X.mg "set" = none)(hv2:xj "set" = some (.type "set"))(ha:PD X G r1 a f)
  (hs:xh [a] X.env=(false,eval a X.env)::xh [] X.env:=by rfl)
  (hs2:xh [qcU (.Name "set" p2) [a] [] pos1] X.env=(false,eval (qcU (.Name "set" p2) [a] [] pos1) X.env)::xh [] X.env:=by rfl) (hpl:(backTo pos (xh [] X.env)).any (·.1)=false:=by rfl) (hpl1:(backTo pos1 (xh [] X.env)).any (·.1)=false:=by rfl) :
  PD X G true (.Call (.Name "sorted" p1) [.Call (.Name "set" p2) [a] [] pos1] [] pos) (JX f):=by
 obtain⟨t,pa,qa⟩:=ha.drop;refine⟨_,U2 (ZdC hc) hg hm hv (Xb (ZaP (Zg6 hc (by omega)) hg2 hm2 hv2 (Xb pa Xy hs) (by decide) (by decide) hs hpl1) Xy hs2) (by decide) (by decide) hs2 hpl,fun σ Hf H ρ s d s' Q e1 e2 e3 e4 k=>?_⟩;obtain⟨d0,s1,a1,a2⟩:=ZF e4;refine qa σ Hf H ρ s d0 s1 _ e1 e2 e3 a1 λv jQ H1 g1 jT r1=>?_
 match d0,a2,r1 with
 | .lst ds,a2,r1=>
  have a2:Jv ds s1=some (d,s'):=a2;unfold Jv at a2
  cases he:WO ds with
  | none=>rw[he]at a2;cases a2
  | some jI=>
   rw[he]at a2;have a2:(if Bo jI then Zy (D.lst ((YN (W6 jI)).map Y8))else ZG) s1=some (d,s'):=a2;obtain⟨p,vs,rfl,np,hp,rp⟩:=jb.mp r1;rw[ZbI he]at rp;exact⟨p,vs,jI,λv ns=>Zj G jQ (Y8 ns) v,rfl,ZE.of (g1.fh _ _ np hp),ZhP g1.fh,ZbJ rp,(Xf a2).1.1,λl o vs' nss' hn hO pT nd hm=>Zmf g1 jT a2 k l o vs' nss' hn hO pT nd hm⟩
end
end TF
namespace TF
open L2
section
variable {X:Cx}{G:Gh}{ob own own':List Nat}{fr:Bool}
end
end TF
namespace HT
section
variable {prog:xB}{w:World}{A:xC}{E:xD}{s:Shared}
theorem Zi5 {k m n:Nat}(hm:0<m):yo (some (k:Int)) none (m:Int) (n:Int)=(((min k n:Nat):Int),(n:Int)):=by
 have h1:¬((m:Int)<0):=by omega
 have h2:¬((k:Int)<0):=by omega
 unfold yo;simp only[h1,if_false,h2];refine qbp ?_ rfl;simp only;omega
noncomputable def stN (n k m:Nat):Nat:=zL ((min k n:Nat):Int) (n:Int) (m:Int)
noncomputable def stL {α:Type}(xs:List α)(k m:Nat):List α:=(qk (stN xs.length k m)).filterMap λj=>xs[min k xs.length+j*m]?
theorem ZnP {n k m:Nat}(hm:0<m):stN n k m<=n:=by
 unfold stN zL;have h1:(m:Int) > 0:=by omega
 simp only[h1,if_true];split
 ·have:((n:Int)-((min k n:Nat):Int)-1) / (m:Int)<=(n:Int)-((min k n:Nat):Int)-1:=Int.ediv_le_self _ (by omega)
  omega
 ·omega
theorem stL_le {α:Type}{xs:List α}{k m:Nat}(hm:0<m):(stL xs k m).length<=xs.length:=by
 unfold stL;refine zb (List.length_filterMap_le _ _) ?_;rw[qQ];exact ZnP hm
theorem ZhQ (n:Nat):stN n 0 1=n:=by
 unfold stN;rw[qcX];exact ZcE 0 n
theorem stL_one {α:Type}(xs:List α):stL xs 0 1=xs:=by
 unfold stL;rw[ZhQ,qcX];have:∀k,k<=xs.length->(qk k).filterMap (λj=>xs[0+j*1]?)=xs.take k:=λk=>by
  induction k with
  | zero=>intro _;simp
  | succ k ih=>
   intro hk;rw[qaZ,List.filterMap_append,ih (by omega),qbI,zD,List.filterMap_nil,show 0+k*1=k by omega,qw (by omega)];rfl
 rw[this _ (qq _),qbn (qq _)]
theorem Zci {sl:Addr}{t t2:Tok}{n k m:Nat}{Q:Int×Int×Nat->Shared->Prop}(hm:0<m)(hs:s.heap.IsSliceOf sl (.int k t) .none (.int m t2))
  (h:Q (((min k n:Nat):Int),(m:Int),stN n k m) s):xf (xz prog w) A (qal (.ref sl) (pure (n:Int))) Q E s:=by
 obtain⟨os,hos,hcs,hds⟩:=id hs;unfold qal qbW;refine xa (xa (wpAny_field hos hds (x:=.int k t) rfl (xa (wpAny_field hos hds (x:=.none) rfl (xa (wpAny_field hos hds (x:=.int m t2) rfl (xb ?_)))))));refine xa (slicePart_int ?_);show xf _ _ (if ((m:Int)==0)=true then _ else _) _ _ s;rw[if_neg (by simp;omega)];refine xa (slicePart_int (xa (slicePart_none (xa (xb ?_)))));show xf _ _ (match yo (some (k:Int)) none (m:Int) (n:Int)with | (lo,hi)=>pure (lo,(m:Int),zL lo hi (m:Int))) _ _ s;rw[Zi5 hm];exact xb h
theorem Zmg (xs:Array Value)(k m:Nat):((qk (stN xs.size k m)).filterMap λ(j:Nat)=>xs[(((min k xs.size:Nat):Int)+(j:Int)*(m:Int)).toNat]?).toArray=(stL xs.toList k m).toArray:=by
 unfold stL;rw[qy];congr 2;funext j;rw[qB];congr 1
theorem getItem_tuple_st {t sl:Addr}{items:Array Value}{k m:Nat}{t1 t2:Tok}{Q:xD}(hm:(k=0/\m=1)∨1<m)(ht:IsTup s.heap t items)(hs:s.heap.IsSliceOf sl (.int k t1) .none (.int m t2))
  (h1:m=1->Q (.ref t) s) (h:Q (.ref s.heap.objs.size) { s with heap:=s.heap.push { cls:=.type "tuple",data:=.seq (stL items.toList k m).toArray } })
  (hsz:items.size<=xg):xf (xz prog w) A (getItem (.ref t) (.ref sl)) Q E s:=by
 have m0:0<m:=by omega
 have htake:sizeOk (.seq (stL items.toList k m).toArray):=by
  show(stL items.toList k m).toArray.size<=xg;rw[qL];have:=stL_le (xs:=items.toList) (k:=k) m0;have e:items.toList.length=items.size:=qy;exact zb this (e▸hsz)
 obtain⟨os,hos,hcs,hds⟩:=id hs;have hTs:s.TypeIs (.ref sl) "slice":=⟨os,hos,hcs⟩;unfold getItem
 try with_reducible refine xu ?_
 first | refine xa (xb ?_) | skip
 refine xa (wpAny_sequenceKey ht.typeIs (by decide) ?_);refine xa (wpAny_callSpecial?_slot (name:=qav "__getitem__") ht.typeIs zv
  (wpAny_call_entry zv ht.typeIs entry_tuple_getitem ?_ (args_tuple_getitem _ _)))
 show xf _ _ (qaU (.ref t) >>= _) _ _ s;refine xa (tupleItemsOf_ ht ?_);refine xa (wpAny_typeOf hTs ?_);rw[if_pos (by decide)];refine xa (Zci m0 hs ?_);show xf _ _ (if (((min k items.size:Nat):Int)==0&&(m:Int)==1&&stN items.size k m==items.size)=true then _ else _) _ _ s;by_cases h2:m=1
 ·obtain⟨rfl,rfl⟩:k=0/\m=1:=by omega
  rw[if_pos (by rw[ZhQ,qcX];simp)];unfold qbN;refine xa (xa (wpAny_typeOf ht.typeIs ?_));refine xb ?_;rw[if_pos (by decide)];refine xa (wpAny_rule ?_)
  first
   | exact xa (xb ⟨_,rfl,xb (h1 rfl)⟩)
   | exact xa (xb (xb ⟨_,rfl,xb (h1 rfl)⟩))
 have hno:¬((((min k items.size:Nat):Int)==0&&(m:Int)==1&&stN items.size k m==items.size)=true):=by
  intro q;rw[zh,zh]at q;have q2:(m:Int)=1:=eq_of_beq q.1.2;omega
 rw[if_neg hno,Zmg]
 first
  | exact xa (m:=zQ _) (xl (xb ⟨_,rfl,xb h⟩) htake)
  | exact xa (m:=zQ _) (xl (xa (xb (xb ⟨_,rfl,xb h⟩))) htake)
  | exact xa (xa (m:=zQ _) (xl (xb (xb ⟨_,rfl,xb h⟩)) htake))
  | exact xa (xa (m:=zQ _) (xl (xb ⟨_,rfl,xb h⟩) htake))
end
end HT
namespace TF
open L2
section
variable {X:Cx}{G:Gh}
noncomputable def tStp (K:qm)(te:TE)(tl:St->Hp->(Option Int->Hp->Prop)->Prop)(ts:TE):TE:=fun σ H Q=>te σ H λx H1=>tl σ H1 λl H2=>ts σ H2 λy H3=>∃a xs,∃k m:Nat,x=.ref a/\l=some (k:Int)/\y=.int (m:Int)/\((k=0/\m=1)∨1<m)/\ZI K H3 a xs/\(m=1->Q (.ref a) H3)/\∀p,H3 p=none->Q (.ref p) (Zn H3 p (.tup (HT.stL xs k m)))
theorem Zmh {xs:List V}{us:List Value}(r:ZB xs us)(k m:Nat):ZB (HT.stL xs k m) (HT.stL us k m):=by
 unfold HT.stL;rw[r.length];have get:∀i:Nat,(∃x u,xs[i]?=some x/\us[i]?=some u/\ZJ x u)∨(xs[i]?=none/\us[i]?=none):=by
  have:∀{xs:List V} {us:List Value},ZB xs us->∀i:Nat,(∃x u,xs[i]?=some x/\us[i]?=some u/\ZJ x u)∨(xs[i]?=none/\us[i]?=none):=λr=>by
   induction r with
   | nil=>intro i;exact .inr ⟨rfl,rfl⟩
   | cons h t ih=>
    intro i
    cases i with
    | zero=>exact .inl ⟨_,_,rfl,rfl,h⟩
    | succ i=>exact ih i
  exact this r
 generalize qk _=l
 induction l with
 | nil=>exact .nil
 | cons j l ih=>
  rw[zD,zD];rcases get (min k us.length+j*m)with⟨x,u,h1,h2,h3⟩ | ⟨h1,h2⟩
  ·rw[h1,h2];exact .cons h3 ih
  ·rw[h1,h2];exact ih
theorem ZnQ {e e1 e2:Expr}{te ts:TE}{tl:St->Hp->(Option Int->Hp->Prop)->Prop}{p2 pos}(he:PE X e te)(hl:PO X (some e1) tl)(h2:PE X e2 ts):PE X (.Subscript e (.Slice (some e1) none (some e2) p2) pos) (tStp X.K te tl ts):=by
 intro jC s σ H Q I h;refine Subscript_ (ZK (he jC s σ H _ I h) λv s1 ⟨x,H1,I1,r1,q1⟩=>?_);refine wpAny_Slice (ZK (hl jC s1 σ H1 _ I1 q1) λvl s2 ⟨l,H2,I2,pl,q2⟩=>?_);rw[evalPart_none];refine xb ?_;rw[evalPart_some];refine ZK (h2 jC s2 σ H2 _ I2 q2) λu s3 ⟨y,H3,I3,r3,q3⟩=>?_;obtain⟨a,xs,k,m,rfl,rfl,rfl,hm,hx,qa,q⟩:=q3
 cases r1
 obtain⟨t,rfl⟩:=r3
 cases pl with
 | int _ t0=>
 have I4:Inv X jC σ H3 { s3 with heap:=s3.heap.push { cls:=.type "slice",data:=.fields #[.int (k:Int) t0,.none,.int (m:Int) t] } }:=I3.kept (t':=s3.toks) λb ob q=>qf _ q;obtain⟨jH,r,ht,hz⟩:=I4.tuple hx;have jN:jH.toArray.size=xs.length:=by rw[qL];exact r.length.symm
 show xf (xz X.prog X.w) X.A (subscriptTail e (.Slice (some e1) none (some e2) p2) (.ref a) (.ref s3.heap.objs.size)) (EP X jC σ Q) X.xe { s3 with heap:=s3.heap.push { cls:=.type "slice",data:=.fields #[.int (k:Int) t0,.none,.int (m:Int) t] } };refine tail_any (ops:=[.ref a,.ref s3.heap.objs.size]) ht.typeIs zv.lookup ?_ (by with_unfolding_all rfl);refine HT.getItem_tuple_st hm ht (Heap.IsSliceOf.new ..) (λz=>⟨.ref a,H3,I4,rfl,qa z⟩) ?_ (by rw[jN];exact hz);refine⟨.ref _,_,I4.laid (t':=s3.toks) (o:=.tup (HT.stL xs k m)) (λb ob q=>qf _ q) (qq _) ?_,rfl,q _ (I4.hok.fresh (qq _))⟩;exact⟨zb (HT.stL_le (by omega)) hz,_,Zmh r k m,qcj _ _⟩
theorem ZnR {Hf:Hp}{ds:List D}{vs:List V}(r:Zi G Hf ds vs)(k m:Nat):Zi G Hf (HT.stL ds k m) (HT.stL vs k m):=by
 unfold HT.stL;rw[r.length];have get:∀{ds:List D} {vs:List V},Zi G Hf ds vs->∀i:Nat,(∃x u,ds[i]?=some x/\vs[i]?=some u/\Zj G Hf x u)∨(ds[i]?=none/\vs[i]?=none):=λ{ds}=>by
  induction ds with
  | nil=>intro vs h i;rw[Zi.nil_iff.mp h];exact .inr ⟨rfl,rfl⟩
  | cons d ds ih=>
   intro vs h i;obtain⟨v,r,rfl,h1,h2⟩:=jd.mp h
   cases i with
   | zero=>exact .inl ⟨_,_,rfl,rfl,h1⟩
   | succ i=>exact ih h2 i
 generalize qk _=l
 induction l with
 | nil=>exact Zi.nil_iff.mpr rfl
 | cons j l ih=>
  rw[zD,zD];rcases get r (min k vs.length+j*m)with⟨x,u,h1,h2,h3⟩ | ⟨h1,h2⟩
  ·rw[h1,h2];exact jd.mpr ⟨_,_,rfl,h3,ih⟩
  ·rw[h1,h2];exact ih
noncomputable def dStp (f:Zb->M D)(fl:Zb->M (Option Int))(fs:Zb->M D):Zb->M D:=fun ρ=>Zo (f ρ) λd=>Zo (fl ρ) λlo=>Zo (fs ρ) λst=>match d,lo,st with
 | .tup ds,some i,.int j=>if 0<=i/\((i=0/\j=1)∨1<j)then Zy (.tup (HT.stL ds i.toNat j.toNat))else ZG
 | _,_,_=>ZG
theorem ZnS {e e1 e2:Expr}{p2 pos:Pos}{f fs:Zb->M D}{fl:Zb->M (Option Int)}{r1 r2:Bool}(he:PD X G r1 e f)(hl:BU X G (some e1) fl)(h2:PD X G r2 e2 fs):PD X G true (.Subscript e (.Slice (some e1) none (some e2) p2) pos) (dStp f fl fs):=by
 obtain⟨t,p,q⟩:=he.drop;obtain⟨tl,pl,ql⟩:=hl;obtain⟨ts,ps,qs⟩:=h2.drop;refine⟨_,ZnQ p pl ps,fun σ Hf H ρ s d s' Q e1 e2 e3 e4 k=>?_⟩;obtain⟨d0,s1,a1,a2⟩:=ZF e4;obtain⟨lo',s2,a3,a4⟩:=ZF a2;obtain⟨st',s3,a5,a6⟩:=ZF a4;refine q σ Hf H ρ s d0 s1 _ e1 e2 e3 a1 λv jQ H1 g1 jT r1=>?_;refine ql σ jQ H1 ρ s1 lo' s2 _ g1.fh (e2.ext g1.ff) jT a3 λjZ H2 g2 jP=>?_;refine qs σ jZ H2 ρ s2 st' s3 _ g2.fh ((e2.ext g1.ff).ext g2.ff) jP a5 λu Hf3 H3 g3 st3 r3=>?_;have rr:=(r1.ext g2.ff).ext g3.ff;have g:=(g1.trans g2).trans g3
 match d0,lo',st',a6,rr,r3 with
 | .tup ds,some i,.int j,a6,rr,r3=>
  obtain⟨c,a7⟩:=Xf a6;obtain⟨rfl,rfl⟩:=ZQ a7;obtain⟨a,vs,rfl,na,ha,ra⟩:=jc.mp rr;refine⟨a,vs,i.toNat,j.toNat,rfl,by congr 1;omega,by rw[ja.mp r3];congr 1;omega,by omega,ZI.of (g.fh _ _ na ha),λz=>?_,λl hl=>?_⟩
  ·obtain⟨z1,z2⟩:i.toNat=0/\j.toNat=1:=by omega
   rw[z1,z2,HT.stL_one]at k;exact k (.ref a) Hf3 H3 g st3 rr λ_=>.scal λz=>z
  ·have nf:=Gh.nofp st3 hl
   have g2:=Gr.new (o:=.tup (HT.stL vs i.toNat j.toNat)) g.fh hl nf;exact k (.ref l) _ _ (g.trans g2) (Gh.grow st3 hl) (jc.mpr ⟨l,_,rfl,nf,ZX,(ZnR ra _ _).ext g2.ff⟩) λ_=>.scal λz=>z
end
section
variable {X:Cx}{G:Gh}
theorem va (i:Nat){x:Str}{pos:Pos}(hN:X.N[i]?=some x:=by rfl)(hv:BP X.env.scope x:=by first | exact qP rfl | exact qac (qP rfl) | exact qac (qac rfl))(hd:(x==("__debug__" : Str))=false:=by decide)(hcd:(x==("__classdict__" : Str))=false:=by decide):PD X G false (.Name x pos) (Za i):=Zgn i (pv i hN hv hd hcd)
theorem bk (XN:List Str)(NS:List (Str×NameKind))(N':List Str)(src:List (Option Nat)){scope:Scope}(a:X.N=XN:=by rfl)(b:X.env.scope.names=NS:=by rfl)(c:∀y∈scope.names,y.2≠.cell:=by decide +kernel)(d:scope.kind=.function:=by rfl)(e:∀y∈scope.names,y.2=.local->scope.names.lookup y.1=some .local:=by decide +kernel)(f:src.length=N'.length:=by rfl)(g:∀y∈scope.names,y.2=.free->NS.lookup y.1=some .cell∨NS.lookup y.1=some .free:=by decide +kernel)
  (h:(src.zip N').all (λp=>match p.1 with | some j=>decide (XN[j]?=some p.2)&&(decide (NS.lookup p.2=some .cell)||decide (NS.lookup p.2=some .free))&&decide (scope.names.lookup p.2=some .free) | none=>true)=true:=by decide +kernel):BlkS X XN NS N' src scope:=⟨a,b,c,d,e,f,g,h⟩
theorem YX {N P:List Str}{sc:Scope}(a:sc.kind=.function:=by rfl)(b:sc.isCoroutine=false:=by rfl)(c:sc.isGenerator=false:=by rfl)(d:N.Nodup:=by decide +kernel)(e:N.take P.length=P:=by rfl)(f:∀x∈P,sc.names.lookup x=some .local∨sc.names.lookup x=some .cell:=by decide +kernel)(g:∀y∈sc.names,y.2≠.free:=by decide +kernel):FnScope N P sc:=⟨a,b,c,d,e,f,g⟩
end
section
variable {X:Cx}{G:Gh}{elt tg iter:Expr}{ifs:List Expr}{scope:Scope}{pos pos' spos:Pos}{XN:List Str}{NS:List (Str×NameKind)}{N':List Str}{src:List (Option Nat)}{fi:Zb->M (List D)}{τ:D->Zb->Option Zb}{ft:Zb->M Bool}{fe:Zb->M D}{r1:Bool}{i:Nat}{x:Str}
theorem Xr {cl:_}{jC:_}{C:_}{s:_}{H:_}{fp:_}{x:Str}{pos:Pos}{ok:Nat->Prop}(nd:N'.Nodup:=by decide +kernel)(hi:N'[i]?=some x:=by rfl)(hx:Vf (YC X jC N' scope cl C s H fp).env.scope x:=by exact qP rfl)(oi:ok i:=by rfl)(hf:(YC X jC N' scope cl C s H fp).fn x=true∨(YC X jC N' scope cl C s H fp).env.scope.names.lookup x=some .local:=by first | exact .inl rfl | exact .inr rfl | assumption):WC (YC X jC N' scope cl C s H fp) G (.Name x pos) ok (Zv i):=Xa nd hi hx oi hf
theorem X6 (B:BlkS X XN NS N' src scope)(hi:X3 X G tg iter fi)
  (hg:∀{cl jC C s H fp},WC (YC X jC N' scope cl C s H fp) G tg (λi=>src[i]?=some none) τ) (ht:∀{cl jC C s H fp},Vt (YC X jC N' scope cl C s H fp) ifs (UJ G ft)) (he:∀{cl jC C s H fp},PD (YC X jC N' scope cl C s H fp) G r1 elt fe)
  (hc:X.calm=true:=by rfl) (hs:∀x,foldedSetIterable iter X.env x=pure x:=by intro _;rfl):PD X G true (.ListComp elt [⟨tg,iter,ifs,0⟩] scope pos) (Z7 src fi τ ft fe):=ZjM hc B hi (λ_ _ _ _ _ _=>hg) (λ_ _ _ _ _ _=>ht) (λ_ _ _ _ _ _=>he) hs
end
theorem ZT {X:Cx}{G:Gh}{k:Nat}{x:Str}{n:Nat}{fr:Bool}{GG:Gh->Prop}{F:List D->M D}{p pos:Pos}{e:Expr}{es:List Expr}{fs:Zb->M (List D)}(c:ZP X.prog X.w X.K X.mg X.base k x n fr GG F)(hG:GG G)(hr:Room k X.A)
  (ha:WB X G (e::es) fs) (hg:Gl X x:=by rfl) (hal:∀ρ s ds s',fs ρ s=some (ds,s')->ds.length=(e::es).length:=by first | exact YY V0 | exact YY (YY V0) | exact YY (YY (YY V0)) | exact YY (YY (YY (YY V0))) | exact YY (YY (YY (YY (YY V0)))) | exact YY (YY (YY (YY (YY (YY V0)))))) (jN:(e::es).length=n:=by rfl)
  (hdb:(x==("__debug__" : Str))=false:=by decide) (he:xh (e::es) X.env=(false,eval e X.env)::xh es X.env:=by rfl) (hpl:(backTo pos (xh es X.env)).any (·.1)=false:=by rfl) :
  PD X G fr (.Call (.Name x p) (e::es) [] pos) (Zs F fs):=ZjN c hG hr hg ha hal jN hdb he hpl
section
variable {X:Cx}{G:Gh}{ob own own':List Nat}{fr:Bool}
theorem Zt {st:Stmt}{sts:List Stmt}{g1 g2:Zb->M Out}(h:YW X G ob own [] fr st g1)(h2:X8 X G ob [] own' fr sts g2):X8 X G ob own own' fr (st::sts) (Zg g1 g2):=ZZ h h2
theorem Z4 (hs:∀k,k∈own'->k∈([]:List Nat):=by decide):X8 X G ob [] own' fr [] Zm:=Z6 hs
theorem WF {c:Expr}{a b:List Stmt}{pos:Pos}{fc:Zb->M Bool}{g1 g2:Zb->M Out}(hc:X2 X G c fc)(ha:X8 X G ob own [] fr a g1)(hb:X8 X G ob own [] fr b g2):YW X G ob own [] fr (.If c a b pos) (Yl fc g1 g2):=Jg hc ha hb
theorem VX {f:Zb->M (List D)}{p pos:Pos}{e:Expr}(hm:X.mg "len" = none)(ha:WB X G [e] f)(hg:Gl X "len":=by rfl)(h1:xh [e] X.env=(false,eval e X.env)::xh [] X.env:=by rfl)(h2:(backTo pos (xh [] X.env)).any (·.1)=false:=by rfl):PD X G true (.Call (.Name "len" p) [e] [] pos) (ZM Xp f):=Y9 Zgr hg hm boot_len ha (he:=h1)
end
end TF
namespace K40
open L2 TF TQ
open TP
open TP2
open TP3
noncomputable def ZU (i:Nat):Stmt:=PySem.Challenge.pw_tiefold_k40_the_heaviest.main.body.getD i (.Pass ⟨0,0,0,0⟩)
noncomputable abbrev Zdk:Stmt:=ZU 1
noncomputable abbrev Zg7:Stmt:=ZU 3
noncomputable abbrev Zbb:Stmt:=ZU 4
noncomputable abbrev Zdl:Stmt:=ZU 5
noncomputable abbrev Zao:Stmt:=ZU 6
noncomputable abbrev Zbs:Stmt:=ZU 7
noncomputable abbrev ZaJ:Stmt:=ZU 8
noncomputable abbrev Zad:Stmt:=ZU 10
noncomputable abbrev JI:Stmt:=ZU 11
noncomputable abbrev Zap:Stmt:=ZU 12
noncomputable abbrev Zae:Stmt:=ZU 13
noncomputable abbrev ZbT:Stmt:=ZU 14
noncomputable abbrev Zdm:Stmt:=ZU 16
noncomputable abbrev Zb5:Stmt:=ZU 18
noncomputable abbrev Zb6:Stmt:=ZU 19
noncomputable abbrev Zbc:Stmt:=ZU 20
noncomputable abbrev Zb7:Stmt:=ZU 21
noncomputable abbrev ZaK:Stmt:=ZU 22
noncomputable abbrev Zax:Stmt:=ZU 23
noncomputable abbrev Zah:Stmt:=ZU 25
noncomputable abbrev ZaL:Stmt:=ZU 26
noncomputable abbrev Zaf:Stmt:=ZU 27
noncomputable abbrev Zay:Stmt:=ZU 28
noncomputable abbrev Zbt:Stmt:=ZU 29
noncomputable abbrev BY:Stmt:=ZU 30
noncomputable abbrev JJ:Stmt:=ZU 31
noncomputable abbrev s_law:Stmt:=ZU 32
structure Txt (mg:Str->Option Value):Prop where
 b_bool:mg "bool" = none
 b_dict:mg "dict" = none
 b_int:mg "int" = none
 b_isinstance:mg "isinstance" = none
 b_len:mg "len" = none
 b_list:mg "list" = none
 b_max:mg "max" = none
 b_min:mg "min" = none
 b_range:mg "range" = none
 b_set:mg "set" = none
 b_sorted:mg "sorted" = none
 b_sum:mg "sum" = none
 b_tuple:mg "tuple" = none
set_option maxHeartbeats 4000000
variable {P:xB}{w:World}{K:qm}{mg:Str->Option Value}{base:Heap}{ka:Addr}{jL:xA}
theorem ZaM:FnScope ["web"] ["web"] (ZH Zao):=YX
theorem Zdn (F:Fun K "marked_ties" "marked_ties" Zao ka jL)(T:Txt mg) :
  FnOk P w K mg base ZW 1 ka jL ["web"] (Yu 1 true Yc Um):=
 have jG:=ZaM.nd
 Y6 (own:=[]) F ZaM λcdv A outer s H E hr G hG=>
 (Zt (Yg (WY (Zgw rfl hr.units) rfl T.b_dict TF.boot_dict (Zd (X6 (bk ["web"] (ZH Zao).names ["tie"] [none]) (VC (Ya Yd (va 0) ZD)) Xr X0 (YS (Zd (va 0) (Zd XZ Zk)))) Zk)))
 Z4)
theorem Zb8:FnScope ["row","pairs","i","j"] ["row"] (ZH Zdk):=YX
theorem Zf2 (F:Fun K "pairs_of" "pairs_of" Zdk ka jL)(T:Txt mg) :
  FnOk P w K mg base ZW 1 ka jL ["row"] (Yu 1 true Yc JS):=
 have jG:=Zb8.nd
 Y6 (own:=[]) F Zb8 λcdv A outer s H E hr G hG=>
 (ZZ (own2:=[1]) (V1 (Yf jG rfl (qP rfl) (WN Zk)))
 (ZZ (own2:=[1]) (Xg (own:=[1]) zk rfl (WW rfl T.b_range (VX T.b_len (Zd (va 0) Zk))) (Xa jG rfl (qP rfl) (by decide))
 (ZZ (own2:=[1]) (Xg (own:=[1]) zk rfl (JM rfl T.b_range (Z5 YZ (va 2) ZD) (VX T.b_len (Zd (va 0) Zk))) (Xa jG rfl (qP rfl) (by decide))
 (ZZ (own2:=[1]) (U4 (own:=[1]) (i:=1) (by decide) (YS (Zd (Ya Yd (va 0) (va 2)) (Zd (Ya Yd (va 0) (va 3)) Zk))) (λ_ h=>U1 (pv 1) h))
 (Z6 (own:=[1]))))
 (Z6 (own:=[1]))))
 (ZZ (own2:=[1]) (Zgp (i:=1) (by decide) (pv 1))
 (Z6 (own:=[1])))))
theorem Zbu:FnScope ["row","tied","pairs"] ["row","tied"] (ZH ZaJ):=YX
theorem ZeU (F:Fun K "web_where" "web_where" ZaJ ka jL)(T:Txt mg)(ky:ZP P w K mg base 1 "pairs_of" 1 true Yc JS) :
  FnOk P w K mg base ZW 5 ka jL ["row","tied"] (Yu 2 false (Jz P w K mg 4 2 Tl base) JO):=
 have jG:=Zbu.nd
 Y6 (own:=[]) F Zbu λcdv A outer s H E hr G hG=>
 (Zt (YE (Yf jG rfl (qP rfl) (ZT (ky.mono) trivial hr (Zd (Zau rfl rfl T.b_range rfl T.b_list TF.boot_list (VX T.b_len (Zd (va 0) Zk))) Zk))))
 (Zt (Yg (PD.weak (YS (Zd (VX T.b_len (Zd (va 0) Zk)) (Zd (WY (Uo) rfl T.b_tuple TF.boot_tuple (Zd (X6 (bk ["row","tied","pairs"] (ZH ZaJ).names ["pair","tied","row"] [none,some 1,some 0]) (Wq (va 2)) Xr (Bt (Wr (ZjQ hG (hr.mono (by decide)) (pv 1) (Zd (Ya Yd (va 2) (Ya Yd (va 0) ZD)) (Zd (Ya Yd (va 2) (Ya Yd (va 0) ZD)) Zk)) (YY (YY V0))))) (va 0)) Zk)) Zk)))))
 Z4))
theorem Zb9:FnScope ["ties","a","b"] ["ties","a","b"] (ZH Zdl):=YX
theorem Zf3 (F:Fun K "are_tied" "are_tied" Zdl ka jL)(T:Txt mg) :
  FnOk P w K mg base ZW 1 ka jL ["ties","a","b"] (Yu 3 false Yc WX):=
 have jG:=Zb9.nd
 Y6 (own:=[]) F Zb9 λcdv A outer s H E hr G hG=>
 (Zt (Yg (PD.weak (V4 (Zer hr.units) (YS (Zd (Y9 (ZcJ rfl) rfl T.b_min TF.boot_min (Zd (va 1) (Zd (va 2) Zk))) (Zd (Y9 (Za0 rfl) rfl T.b_max TF.boot_max (Zd (va 1) (Zd (va 2) Zk))) Zk))) (va 0))))
 Z4)
theorem Zeb:FnScope ["web","ties"] ["web"] (ZH Zbs):=YX
theorem Zi6 (F:Fun K "turned" "turned" Zbs ka jL)(T:Txt mg){L:List (Addr×Str)}(lo:Wc L)(jW:ZP P w K mg base 1 "marked_ties" 1 true Yc Um)(ki:JA P w K mg 5 "web_where" 2 false (Jz P w K mg 4 2 Tl) JO)(kf:∀base,ZP P w K mg base 1 "are_tied" 3 false Yc WX){tc tP:Addr}(hcode:jL.code=.ref tc)(hCd:yZ base tc tP)(hBm:JF mg base)(hL:(tP,(qav "turned.<locals>.<lambda>"))∈L) :
  FnOk P w K mg base ZW 6 ka jL ["web"] (Yu 1 false (Xo L) U5):=
 have jG:=Zeb.nd
 fnDC (own:=[]) F Zeb λA outer s H E hr G hG=>
 have hT:Xo L G:=hG;have TG9:=hT _ _ hL;have M9:Mk0 (Vr ZW P w K mg base ["web","ties"] "turned" (ZH Zbs) ka jL.code A outer s H E).nox tc tP:=⟨hcode,hCd,hBm⟩
 (Zt (YE (Yf jG rfl (qac rfl) (ZT (jW.mono) trivial hr (Zd (va 0) Zk))))
 (Zt (Yg (Zgz (kl:=3) (frb:=true) (N:=["a","b","ties"]) (ps:=["a","b"]) (cix:=[1]) (T:=Tl) (t:=0) (q:="turned.<locals>.<lambda>") M9 TG9 (ki.mono) (λ_=>rfl) hr rfl (Zau rfl rfl T.b_range rfl T.b_list TF.boot_list (Ya Yd (va 0) ZD)) rfl (⟨rfl,rfl,rfl,by decide +kernel,rfl,by decide +kernel,by decide +kernel⟩:CloScope ["a","b","ties"] ["a","b"] _) (⟨rfl,rfl,rfl,by decide +kernel,by decide +kernel⟩:CapS _ ["web","ties"] (ZH Zbs).names ["a","b","ties"] ["a","b"] [1] _) rfl (λ_ _ _ _ us hl=>match us,hl with | [_,_],_=>rfl) (λbase f c cl G A outer s H E hr=>(Znc (ZT ((kf base).mono) trivial hr (Zd (va 2) (Zd (va 0) (Zd (va 1) Zk))))))))
 Z4))
theorem ZhR:FnScope ["web","place"] ["web","place"] (ZH Zg7):=YX
theorem Zmi (F:Fun K "near" "near" Zg7 ka jL)(T:Txt mg)(ko:ZP P w K mg base 1 "are_tied" 3 false Yc WX) :
  FnOk P w K mg base ZW 2 ka jL ["web","place"] (Yu 2 true Yc Jj):=
 have jG:=ZhR.nd
 Y6 (own:=[]) F ZhR λcdv A outer s H E hr G hG=>
 (Zt (Yg (X6 (bk ["web","place"] (ZH Zg7).names ["other","web","place"] [none,some 0,some 1]) (JP rfl T.b_range (Ya Yd (va 0) ZD)) Xr (Bt (Wr (ZT (ko.mono) trivial hr (Zd (Ya Yd (va 1) ZD) (Zd (va 2) (Zd (va 0) Zk)))))) (va 0)))
 Z4)
theorem Zca:FnScope ["web","marked"] ["web"] (ZH Zbb):=YX
theorem Zf4 (F:Fun K "all_near" "all_near" Zbb ka jL)(T:Txt mg)(jW:ZP P w K mg base 1 "marked_ties" 1 true Yc Um)(kC:ZP P w K mg base 2 "near" 2 true Yc Jj) :
  FnOk P w K mg base ZW 3 ka jL ["web"] (Yu 1 true Yc Za9):=
 have jG:=Zca.nd
 Y6 (own:=[]) F Zca λcdv A outer s H E hr G hG=>
 (Zt (YE (Yf jG rfl (qac rfl) (YS (Zd (Ya Yd (va 0) ZD) (Zd (ZT (jW.mono) trivial hr (Zd (va 0) Zk)) Zk)))))
 (Zt (Yg (X6 (bk ["web","marked"] (ZH Zbb).names ["place","marked"] [none,some 1]) (JP rfl T.b_range (Ya Yd (va 0) ZD)) Xr X0 (ZT (kC.mono) trivial hr (Zd (va 1) (Zd (va 0) Zk)))))
 Z4))
noncomputable def Zcj (Fs:List D->M D):Zb->M Out:=(Zg (ZR 4 (Z7 [none,some 2,some 0] (Yy (Za 3)) (Zv 0) (X7 (ZO (Ze XQ (Za 0) (Za 1))) (ZO (Ze VL (Za 0) (Ze Zq (Za 2) (Za 1))))) (Za 0)))
 (Zg (ZN (Ze Z3 (Xc (Zc (Za 2) Zf)) (Zs Fs (Zc (Za 0) (Zc (Za 1) (Zc (Za 4) Zf))))))
 Zm))
noncomputable def BZ (Fs:List D->M D):List D->M D:=runB 5 4 (Zcj Fs)
theorem Zar:FnScope ["aparts","weights","place","places","others"] ["aparts","weights","place","places"] (ZH Zae):=YX
theorem ZbU (F:Fun K "heaviest_with" "heaviest_with" Zae ka jL)(T:Txt mg){Fs:List D->M D}{lv:Nat}(hlv:0<=lv)(jM:ZP P w K mg base lv "heaviest_among" 3 false Yc Fs) :
  FnOk P w K mg base ZW (lv+1) ka jL ["aparts","weights","place","places"] (Yu 4 false Yc (BZ Fs)):=
 have jG:=Zar.nd
 Y6 (own:=[]) F Zar λcdv A outer s H E hr G hG=>
 (Zt (YE (UZ jG rfl (qP rfl) rfl (bk ["aparts","weights","place","places","others"] (ZH Zae).names ["other","place","aparts"] [none,some 2,some 0]) (Wq (va 3)) (λ_ _ _ _ _ _=>Xr) (λ_ _ _ _ _ _=>(Bt (Wl.pt (Zel (Xs (Ji hr.units) (va 0) (va 1)) (Zfe (Xs (ZdS hr.units) (va 0) (Ya Yd (va 2) (va 1)))))))) (λ_ _ _ _ _ _=>(va 0))))
 (Zt (Yg (PD.weak (Z5 YZ (WN (Zd (va 2) Zk)) (ZT (jM) trivial hr (Zd (va 0) (Zd (va 1) (Zd (va 4) Zk)))))))
 Z4))
theorem ZaN:FnScope ["aparts","place","places"] ["aparts","place","places"] (ZH Zap):=YX
theorem Zdo (F:Fun K "apart_among" "apart_among" Zap ka jL)(T:Txt mg) :
  FnOk P w K mg base ZW 1 ka jL ["aparts","place","places"] (Yu 3 true Yc Zan):=
 have jG:=ZaN.nd
 Y6 (own:=[]) F ZaN λcdv A outer s H E hr G hG=>
 (Zt (Yg (X6 (bk ["aparts","place","places"] (ZH Zap).names ["other","aparts","place"] [none,some 0,some 1]) (Wq (va 2)) Xr (Bt (Xs (Zer hr.units) (va 0) (Ya Yd (va 1) (va 2)))) (va 0)))
 Z4)
noncomputable def Zi7:Zb->M Out:=(Zg (ZN (ZM UM (Zc (Z7 [none,some 0] (V7 (Za 1)) (Zv 0) Z1 (Ze Zq (Za 1) (Za 0))) Zf)))
 Zm)
noncomputable def WG:List D->M D:=runB 2 2 Zi7
theorem Zdp:FnScope ["weights","places"] ["weights","places"] (ZH ZbT):=YX
theorem Zg8 (F:Fun K "weighed" "weighed" ZbT ka jL)(T:Txt mg) :
  FnOk P w K mg base ZW 1 ka jL ["weights","places"] (Yu 2 false Yc WG):=
 have jG:=Zdp.nd
 Y6 (own:=[]) F Zdp λcdv A outer s H E hr G hG=>
 (Zt (Yg (PD.weak (Y9 (ZaS rfl) rfl T.b_sum TF.boot_sum (Zd (X6 (bk ["weights","places"] (ZH ZbT).names ["place","weights"] [none,some 0]) (ZkN (va 1)) Xr X0 (Ya Yd (va 1) (va 0))) Zk))))
 Z4)
noncomputable def Zab (Fs:List D->M D):Zb->M Out:=(Zg (Yl (ZO (Ze Yk (Za 2) (Xc Zf)))
 (Zg (ZN (Xc Zf))
 Zm)
 Zm)
 (Zg (ZR 3 (Z7 [none,some 0,some 2] (Yy (Za 2)) (Zv 0) Z1 (Zs Zan (Zc (Za 1) (Zc (Za 0) (Zc (Za 2) Zf))))))
 (Zg (YL (YH (ZM Xp (Zc (Za 2) Zf))) (Zv 4)
 (Zg (Yl (ZO (Ze UT (Zs WG (Zc (Za 1) (Zc (Ze Zq (Za 3) (Za 4)) Zf))) (Ze Zq (Za 1) (Ze Zq (Za 2) (Za 4)))))
 (Zg (ZN (Zs (BZ Fs) (Zc (Za 0) (Zc (Za 1) (Zc (Ze Zq (Za 2) (Za 4)) (Zc (Za 2) Zf))))))
 Zm)
 Zm)
 Zm))
 (Zg (ZR 5 (Z7 [none] (Yy (Za 3)) (Zv 0) Z1 (ZM Xp (Zc (Za 0) Zf))))
 (Zg (ZR 6 (Ze Zq (Za 2) (Ze Zez (Za 5) (ZM BB (Zc (Za 5) Zf)))))
 (Zg (ZR 7 (Zs (BZ Fs) (Zc (Za 0) (Zc (Za 1) (Zc (Za 6) (Zc (Za 2) Zf))))))
 (Zg (ZR 8 (Zs Fs (Zc (Za 0) (Zc (Za 1) (Zc (Z7 [none,some 6] (Yy (Za 2)) (Zv 0) (ZO (Ze XQ (Za 0) (Za 1))) (Za 0)) Zf)))))
 (Zg (ZN (BR (ZO (Ze Vw (Zs WG (Zc (Za 1) (Zc (Za 7) Zf))) (Zs WG (Zc (Za 1) (Zc (Za 8) Zf))))) (Za 7) (Za 8)))
 Zm))))))))
noncomputable def Ul:Nat->List D->M D
 | 0=>λ_=>ZG
 | n+1=>runB 9 3 (Zab (Ul n))
theorem Zal:FnScope ["aparts","weights","places","rows","i","counts","branching","with_it","without_it"] ["aparts","weights","places"] (ZH JI):=YX
theorem Zbv (F:Fun K "heaviest_among" "heaviest_among" JI ka jL)(T:Txt mg){Fs:List D->M D}{lv:Nat}(hlv:1<=lv)(kg:ZP P w K mg base 1 "apart_among" 3 true Yc Zan)(jM:ZP P w K mg base lv "heaviest_among" 3 false Yc Fs)(j7:ZP P w K mg base (lv+1) "heaviest_with" 4 false Yc (BZ Fs))(j9:ZP P w K mg base 1 "weighed" 2 false Yc WG) :
  FnOk P w K mg base ZW (lv+2) ka jL ["aparts","weights","places"] (Yu 3 false Yc (runB 9 3 (Zab Fs))):=
 have jG:=Zal.nd
 Y6 (own:=[]) F Zal λcdv A outer s H E hr G hG=>
 (Zt (WF (Xs (W5 hr.units) (va 2) (WN Zk))
 (Zt (Yg (PD.weak (WN Zk)))
 Z4)
 Z6)
 (Zt (YE (UZ jG rfl (qP rfl) rfl (bk ["aparts","weights","places","rows","i","counts","branching","with_it","without_it"] (ZH JI).names ["place","aparts","places"] [none,some 0,some 2]) (Wq (va 2)) (λ_ _ _ _ _ _=>Xr) (λ_ _ _ _ _ _=>X0) (λ_ _ _ _ _ _=>(ZT (kg.mono (h:=zb (by decide) (qbi hlv))) trivial hr (Zd (va 1) (Zd (va 0) (Zd (va 2) Zk)))))))
 (Zt (Xg (own:=[]) zk rfl (WW rfl T.b_range (VX T.b_len (Zd (va 2) Zk))) (Xa jG rfl (qP rfl) (by decide))
 (Zt (WF (Xs (ZjC) (ZT (j9.mono (h:=zb (by decide) (qbi hlv))) trivial hr (Zd (va 1) (Zd (Ya Yd (va 3) (va 4)) Zk))) (Ya Yd (va 1) (Ya Yd (va 2) (va 4))))
 (Zt (Yg (ZT (j7) trivial hr (Zd (va 0) (Zd (va 1) (Zd (Ya Yd (va 2) (va 4)) (Zd (va 2) Zk))))))
 Z4)
 Z6)
 Z4))
 (Zt (YE (UZ jG rfl (qP rfl) rfl (bk ["aparts","weights","places","rows","i","counts","branching","with_it","without_it"] (ZH JI).names ["row"] [none]) (Wq (va 3)) (λ_ _ _ _ _ _=>Xr) (λ_ _ _ _ _ _=>X0) (λ_ _ _ _ _ _=>(VX T.b_len (Zd (va 0) Zk)))))
 (Zt (YE (Yf jG rfl (qac rfl) (Ya Yd (va 2) (Zkg (va 5) (Y9 (ZcV rfl) rfl T.b_max TF.boot_max (Zd (va 5) Zk))))))
 (Zt (YE (Yf jG rfl (qP rfl) (ZT (j7) trivial hr (Zd (va 0) (Zd (va 1) (Zd (va 6) (Zd (va 2) Zk)))))))
 (Zt (YE (Yf jG rfl (qP rfl) (ZT (jM.mono (h:=qcl _)) trivial hr (Zd (va 0) (Zd (va 1) (Zd (X6 (bk ["aparts","weights","places","rows","i","counts","branching","with_it","without_it"] (ZH JI).names ["other","branching"] [none,some 6]) (Wq (va 2)) Xr (Bt (Xs (Ji hr.units) (va 0) (va 1))) (va 0)) Zk))))))
 (Zt (Yg (Zok (Xs (ZjD) (ZT (j9.mono (h:=zb (by decide) (qbi hlv))) trivial hr (Zd (va 1) (Zd (va 7) Zk))) (ZT (j9.mono (h:=zb (by decide) (qbi hlv))) trivial hr (Zd (va 1) (Zd (va 8) Zk)))) (va 7) (va 8)))
 Z4))))))))
noncomputable def ZaA:Zb->M Out:=(Zg (ZR 2 (Z7 [none] (Yy (Zs Za9 (Zc (Zs U5 (Zc (Za 0) Zf)) Zf))) (Zv 0) Z1 (ZM Zeq (Zc (Z7 [none] (Yy (Za 0)) (Zv 0) Z1 (ZV (Zc (Za 0) (Zc (dC (.bl true)) Zf)))) Zf))))
 (Zg (ZN (ZM Vn (Zc (ZM Zcw (Zc (Zs (Ul 26) (Zc (Za 2) (Zc (Za 1) (Zc (Vz (Ze Zq (Za 0) (dC (.int 0)))) Zf)))) Zf)) Zf)))
 Zm))
noncomputable def UW:List D->M D:=runB 3 2 ZaA
theorem Zas:FnScope ["web","weights","aparts"] ["web","weights"] (ZH Zad):=YX
theorem ZbV (F:Fun K "heaviest_knot" "heaviest_knot" Zad ka jL)(T:Txt mg){L:List (Addr×Str)}(lo:Wc L)(kq:ZP P w K mg base 3 "all_near" 1 true Yc Za9)(jM:ZP P w K mg base 53 "heaviest_among" 3 false Yc (Ul 26))(kz:ZP P w K mg base 6 "turned" 1 false (Xo L) U5) :
  FnOk P w K mg base ZW 54 ka jL ["web","weights"] (Yu 2 true (Xo L) UW):=
 have jG:=Zas.nd
 Y6 (own:=[]) F Zas λcdv A outer s H E hr G hG=>
 have hT:Xo L G:=hG
 (Zt (YE (UZ jG rfl (qP rfl) rfl (bk ["web","weights","aparts"] (ZH Zad).names ["row"] [none]) (Wq (ZT (kq.mono) trivial hr (Zd (ZT (kz.mono) hT hr (Zd (va 0) Zk)) Zk))) (λ_ _ _ _ _ _=>Xr) (λ_ _ _ _ _ _=>X0) (λ_ _ _ _ _ _=>(WY (Zgx rfl hr.units) rfl T.b_dict TF.boot_dict (Zd (X6 (bk ["row"] [((qbL ".0"),PySem.NameKind.local),((qbL "row"),PySem.NameKind.local),((qbL "dict"),PySem.NameKind.globalImplicit)] ["other"] [none]) (Wq (va 0)) Xr X0 (YS (Zd (va 0) (Zd XZ Zk)))) Zk)))))
 (Zt (Yg (WY (Uo) rfl T.b_tuple TF.boot_tuple (Zd (Y9 (Zex) rfl T.b_sorted TF.boot_sorted (Zd (ZT (jM.mono) trivial hr (Zd (va 2) (Zd (va 1) (Zd (Zau rfl rfl T.b_range rfl T.b_list TF.boot_list (Ya Yd (va 0) ZD)) Zk)))) Zk)) Zk)))
 Z4))
noncomputable def Zg9:Zb->M Out:=(Zg (ZR 2 (Zs UW (Zc (Za 0) (Zc (Za 1) Zf))))
 (Zg (ZN (ZV (Zc (Zs WG (Zc (Za 1) (Zc (Za 2) Zf))) (Zc (Za 2) Zf))))
 Zm))
noncomputable def Zaz:List D->M D:=runB 3 2 Zg9
theorem Zcb:FnScope ["web","weights","knot"] ["web","weights"] (ZH Zdm):=YX
theorem Zf5 (F:Fun K "heaviest" "heaviest" Zdm ka jL)(T:Txt mg){L:List (Addr×Str)}(lo:Wc L)(kc:ZP P w K mg base 54 "heaviest_knot" 2 true (Xo L) UW)(j9:ZP P w K mg base 1 "weighed" 2 false Yc WG) :
  FnOk P w K mg base ZW 55 ka jL ["web","weights"] (Yu 2 true (Xo L) Zaz):=
 have jG:=Zcb.nd
 Y6 (own:=[]) F Zcb λcdv A outer s H E hr G hG=>
 have hT:Xo L G:=hG
 (Zt (YE (Yf jG rfl (qP rfl) (ZT (kc.mono) hT hr (Zd (va 0) (Zd (va 1) Zk)))))
 (Zt (Yg (YS (Zd (ZT (j9.mono) trivial hr (Zd (va 1) (Zd (va 2) Zk))) (Zd (va 2) Zk))))
 Z4))
theorem Zbw:FnScope ["_law_cell","_law_at","_law_x"] ["_law_cell","_law_at"] (ZH Zb5):=YX
theorem ZeV (F:Fun K "_law_fill" "_law_fill" Zb5 ka jL)(T:Txt mg) :
  FnOk P w K mg base ZW 1 ka jL ["_law_cell","_law_at"] (Yu 2 false Yc Ur):=
 have jG:=Zbw.nd
 Y6 (own:=[]) F Zbw λcdv A outer s H E hr G hG=>
 (Zt (WF (Xs (ZjD) (va 0) (Z5 Zlu ZD ZD))
 (Zt (Yg (va 0))
 Z4)
 Z6)
 (Zt (YE (Yf jG rfl (qP rfl) (Z5 U7 (Z5 YZ (Z5 YZ (Z5 Ux (Z5 U7 (va 0) ZD) ZD) (Z5 Ux (va 1) ZD)) ZD) ZD)))
 (Zt (YE (Yf jG rfl (qP rfl) (Z5 U7 (Z5 YZ (Z5 YZ (Z5 Ux (va 2) (va 2)) (Z5 Ux ZD (va 2))) (va 1)) ZD)))
 (Zt (Yg (PD.weak (Z5 YZ (Z5 Ux (va 2) ZD) (Z5 U7 (Z5 YZ (Z5 Ux (va 2) (va 2)) (Z5 Ux ZD (va 1))) ZD))))
 Z4))))
theorem Zcc:FnScope ["_law_pen","_law_most","_law_n","_law_way","_law_rate","_law_some","_law_ties","_law_a","_law_b","_law_tied"] ["_law_pen","_law_most"] (ZH Zbc):=YX
theorem Zf6 (F:Fun K "_law_web" "_law_web" Zbc ka jL)(T:Txt mg){L:List (Addr×Str)}(lo:Wc L)(jE:ZP P w K mg base 2 "_law_next" 2 true (YG (YM K) L) YJ) :
  FnOk P w K mg base ZW 3 ka jL ["_law_pen","_law_most"] (Yu 2 true (YG (YM K) L) Ut):=
 have jG:=Zcc.nd
 Y6 (own:=[]) F Zcc λcdv A outer s H E hr G hG=>
 have hT:Xo L G:=js lo hG
 (Zt (YE (Yf jG rfl (qP rfl) (ZT (jE.mono) hG hr (Zd (va 0) (Zd (Z5 YZ (va 1) ZD) Zk)))))
 (Zt (Zls (own:=[]) rfl jG rfl rfl (by decide) (by decide) (by decide) rfl rfl (Zd (ZT (jE.mono) hG hr (Zd (va 0) (Zd ZD Zk))) (Zd (Z5 YZ ZD (ZT (jE.mono) hG hr (Zd (va 0) (Zd ZD Zk)))) Zk)) (by with_unfolding_all rfl))
 (Zt (YE (UZ jG rfl (qP rfl) rfl (bk ["_law_pen","_law_most","_law_n","_law_way","_law_rate","_law_some","_law_ties","_law_a","_law_b","_law_tied"] (ZH Zbc).names ["_law_place","_law_pen"] [none,some 0]) (JP rfl T.b_range (va 2)) (λ_ _ _ _ _ _=>Xr) (λ_ _ _ _ _ _=>X0) (λ_ _ _ _ _ _=>(ZT (jE.mono) hG hr (Zd (va 1) (Zd ZD Zk))))))
 (ZZ (own2:=[6]) (V1 (Yf jG rfl (qP rfl) (WN Zk)))
 (ZZ (own2:=[6]) (Xg (own:=[6]) zk rfl (WW rfl T.b_range (va 2)) (Xa jG rfl (qP rfl) (by decide))
 (ZZ (own2:=[6]) (Xg (own:=[6]) zk rfl (JM rfl T.b_range (Z5 YZ (va 7) ZD) (va 2)) (Xa jG rfl (qP rfl) (by decide))
 (ZZ (own2:=[6]) (Ba (own:=[6]) (Yf jG rfl (qP rfl) (V4 (ZjE hr.units0) (ZT (jE.mono) hG hr (Zd (va 0) (Zd ZD Zk))) (va 4))))
 (ZZ (own2:=[6]) (Jg (own':=[6]) (Wl.pt (Zel (Xs (W5 hr.units) (va 3) ZD) (Zel (Xs (W5 hr.units) (Ya Yd (va 5) (va 7)) ZD) (Zfe (Xs (W5 hr.units) (Ya Yd (va 5) (va 8)) ZD)))))
 (ZZ (own2:=[6]) (Ba (own:=[6]) (Yf jG rfl (qP rfl) XZ))
 (Z6 (own:=[6])))
 Z6)
 (ZZ (own2:=[6]) (Jg (own':=[6]) (Xs (W5 hr.units) (va 3) ZD)
 (ZZ (own2:=[6]) (Ba (own:=[6]) (Yf jG rfl (qP rfl) (Zoj (V4 (W5 hr.units) (Z5 Zeo (va 8) (va 7)) ZD) (Zjx (V4 (W5 hr.units) (Z5 Zeo (va 8) (va 7)) (Z5 Zeo (va 2) ZD))))))
 (Z6 (own:=[6])))
 Z6)
 (ZZ (own2:=[6]) (Jg (own':=[6]) (Wr (va 9))
 (ZZ (own2:=[6]) (U4 (own:=[6]) (i:=6) (by decide) (YS (Zd (va 7) (Zd (va 8) Zk))) (λ_ h=>U1 (pv 6) h))
 (Z6 (own:=[6])))
 Z6)
 (Z6 (own:=[6])))))))
 (Z6 (own:=[6]))))
 (ZZ (own2:=[6]) (Yg (YS (Zd (va 2) (Zd (WY (Uo) rfl T.b_tuple TF.boot_tuple (Zd (va 6) Zk)) Zk))))
 (Z6 (own:=[6]))))))))
theorem ZaB:FnScope ["_law_pen","_law_told","_law_way","_law_found","_law_place"] ["_law_pen","_law_told"] (ZH ZaL):=YX
theorem Zck (F:Fun K "_law_weighed" "_law_weighed" ZaL ka jL)(T:Txt mg){L:List (Addr×Str)}(lo:Wc L)(jE:ZP P w K mg base 2 "_law_next" 2 true (YG (YM K) L) YJ) :
  FnOk P w K mg base ZW 3 ka jL ["_law_pen","_law_told"] (Yu 2 true (YG (YM K) L) Vl):=
 have jG:=ZaB.nd
 Y6 (own:=[]) F ZaB λcdv A outer s H E hr G hG=>
 have hT:Xo L G:=js lo hG
 (Zt (YE (Yf jG rfl (qP rfl) (ZT (jE.mono) hG hr (Zd (va 0) (Zd ZD Zk)))))
 (ZZ (own2:=[3]) (V1 (Yf jG rfl (qP rfl) (WN Zk)))
 (ZZ (own2:=[3]) (Xg (own:=[3]) zk rfl (WW rfl T.b_range (Ya Yd (va 1) ZD)) (Xa jG rfl (qP rfl) (by decide))
 (ZZ (own2:=[3]) (U4 (own:=[3]) (i:=3) (by decide) (Ya Yd (WN (Zd (ZT (jE.mono) hG hr (Zd (va 0) (Zd ZD Zk))) (Zd (ZT (jE.mono) hG hr (Zd (va 0) (Zd ZD Zk))) (Zd ZD Zk)))) (va 2)) (λ_ h=>U1 (pv 3) h))
 (Z6 (own:=[3]))))
 (ZZ (own2:=[3]) (Yg (WY (Uo) rfl T.b_tuple TF.boot_tuple (Zd (va 3) Zk)))
 (Z6 (own:=[3]))))))
theorem ZaX:FnScope ["_law_web_here","_law_pairs","_law_pair","_law_found","_law_place","_law_more","_law_knot"] ["_law_web_here"] (ZH Zax):=YX
theorem ZdD (F:Fun K "_law_knots" "_law_knots" Zax ka jL)(T:Txt mg) :
  FnOk P w K mg base ZW 1 ka jL ["_law_web_here"] (Yu 1 false Yc B3):=
 have jG:=ZaX.nd
 Y6 (own:=[]) F ZaX λcdv A outer s H E hr G hG=>
 (ZZ (own2:=[1]) (V1 (Yf jG rfl (qac rfl) Zkh))
 (ZZ (own2:=[1]) (Xg (own:=[1]) zk rfl (X3.a (own:=[1]) (VC (Ya Yd (va 0) ZD))) (Xa jG rfl (qP rfl) (by decide))
 (ZZ (own2:=[1]) (ZgG (own:=[1]) (i:=1) (L2.hu_of hr) (by decide) (pv 1) (va 2) XZ)
 (Z6 (own:=[1]))))
 (ZZ (own2:=[1]) (Ba (own:=[1]) (Yf jG rfl (qP rfl) (WN (Zd (YS Zk) Zk))))
 (Zt (YW.frz (own:=[1]) (own2:=[]) (Xg (own:=[]) zk rfl (WW rfl T.b_range (Ya Yd (va 0) ZD)) (Xa jG rfl (qac rfl) (by decide))
 (ZZ (own2:=[5]) (V1 (Yf jG rfl (qP rfl) (WN Zk)))
 (ZZ (own2:=[5]) (Xg (own:=[5]) zk rfl (X3.a (own:=[5]) (Wq (va 3))) (Xa jG rfl (qP rfl) (by decide))
 (ZZ (own2:=[5]) (Jg (own':=[5]) (Xs (ZdS hr.units) XZ (X6 (bk ["_law_web_here","_law_pairs","_law_pair","_law_found","_law_place","_law_more","_law_knot"] (ZH Zax).names ["_law_other","_law_place","_law_pairs"] [none,some 4,some 1]) (VC (va 6)) Xr X0 (V4 (Zer hr.units) (YS (Zd (va 0) (Zd (va 1) Zk))) (va 2))))
 (ZZ (own2:=[5]) (U4 (own:=[5]) (i:=5) (by decide) (Z5 YZ (va 6) (YS (Zd (va 4) Zk))) (λ_ h=>U1 (pv 5) h))
 (Z6 (own:=[5])))
 Z6)
 (Z6 (own:=[5]))))
 (Zt (YW.frz (own:=[5]) (own2:=[]) (YE (Yf jG rfl (qP rfl) (Z5 YZ (va 3) (va 5)))))
 Z4)))))
 (Zt (Yg (va 3))
 Z4)))))
theorem Zat:FnScope ["_law_told","_law_weights","_law_found","_law_knot"] ["_law_told","_law_weights"] (ZH Zaf):=YX
theorem ZbW (F:Fun K "_law_heaviest" "_law_heaviest" Zaf ka jL)(T:Txt mg)(kh:ZP P w K mg base 1 "_law_knots" 1 false Yc B3) :
  FnOk P w K mg base ZW 2 ka jL ["_law_told","_law_weights"] (Yu 2 false Yc Vx):=
 have jG:=Zat.nd
 Y6 (own:=[]) F Zat λcdv A outer s H E hr G hG=>
 (Zt (YE (Yf jG rfl (qP rfl) ZD))
 (Zt (Xg (own:=[]) zk rfl (X3.n (Wq (ZT (kh.mono) trivial hr (Zd (va 0) Zk)))) (Xa jG rfl (qP rfl) (by decide))
 (Zt (YE (Yf jG rfl (qP rfl) (Y9 (Za0 rfl) rfl T.b_max TF.boot_max (Zd (va 2) (Zd (Y9 (ZaS rfl) rfl T.b_sum TF.boot_sum (Zd (X6 (bk ["_law_told","_law_weights","_law_found","_law_knot"] (ZH Zaf).names ["_law_place","_law_weights"] [none,some 1]) (VC (va 3)) Xr X0 (Ya Yd (va 1) (va 0))) Zk)) Zk)))))
 Z4))
 (Zt (Yg (va 2))
 Z4)))
theorem Zbx:FnScope ["_law_web_here","_law_a","_law_b"] ["_law_web_here","_law_a","_law_b"] (ZH Zb7):=YX
theorem ZeW (F:Fun K "_law_tied" "_law_tied" Zb7 ka jL)(T:Txt mg) :
  FnOk P w K mg base ZW 1 ka jL ["_law_web_here","_law_a","_law_b"] (Yu 3 false Yc JN):=
 have jG:=Zbx.nd
 Y6 (own:=[]) F Zbx λcdv A outer s H E hr G hG=>
 (Zt (Yg (PD.weak (V4 (Zer hr.units) (YS (Zd (Y9 (ZcJ rfl) rfl T.b_min TF.boot_min (Zd (va 1) (Zd (va 2) Zk))) (Zd (Y9 (Za0 rfl) rfl T.b_max TF.boot_max (Zd (va 1) (Zd (va 2) Zk))) Zk))) (Ya Yd (va 0) ZD))))
 Z4)
theorem ZaC:FnScope ["_law_web_here","_law_places","_law_k","_law_other"] ["_law_web_here","_law_places"] (ZH ZaK):=YX
theorem Zcl (F:Fun K "_law_is_knot" "_law_is_knot" ZaK ka jL)(T:Txt mg)(kj:ZP P w K mg base 1 "_law_tied" 3 false Yc JN) :
  FnOk P w K mg base ZW 2 ka jL ["_law_web_here","_law_places"] (Yu 2 true Yc B0):=
 have jG:=ZaC.nd
 Y6 (own:=[]) F ZaC λcdv A outer s H E hr G hG=>
 (Zt (Xg (own:=[]) zk rfl (WW rfl T.b_range (VX T.b_len (Zd (va 1) Zk))) (Xa jG rfl (qP rfl) (by decide))
 (Zt (Xg (own:=[]) zk rfl (X3.n (VC (Zj0 (va 1) ZjY (Zfu (va 2))))) (Xa jG rfl (qP rfl) (by decide))
 (Zt (WF (VB (Wr (ZT (kj.mono) trivial hr (Zd (va 0) (Zd (va 3) (Zd (Ya Yd (va 1) (va 2)) Zk))))))
 (Zt (Yg XZ)
 Z4)
 Z6)
 Z4))
 Z4))
 (Zt (Yg XZ)
 Z4))
theorem Zac:FnScope ["_law_web_here","_law_found","_law_one"] ["_law_web_here","_law_found"] (ZH Zah):=YX
theorem ZaO (F:Fun K "_law_places_right" "_law_places_right" Zah ka jL)(T:Txt mg)(ke:ZP P w K mg base 2 "_law_is_knot" 2 true Yc B0) :
  FnOk P w K mg base ZW 3 ka jL ["_law_web_here","_law_found"] (Yu 2 false Yc BW):=
 have jG:=Zac.nd
 Y6 (own:=[]) F Zac λcdv A outer s H E hr G hG=>
 (Zt (WF (Wl.pt (Jd (VB (Wr (Y9 (JY) rfl T.b_isinstance TF.boot_isinstance (Zd (va 1) (Zd (Bu rfl T.b_tuple TF.boot_tuple) Zk))))) (Zcr (Xs (Ji hr.units) (ZiF rfl rfl T.b_len TF.boot_len rfl T.b_set TF.boot_set (va 1)) (VX T.b_len (Zd (va 1) Zk))))))
 (Zt (Yg (PD.weak XZ))
 Z4)
 Z6)
 (Zt (Xg (own:=[]) zk rfl (X3.n (VC (va 1))) (Xa jG rfl (qP rfl) (by decide))
 (Zt (WF (Wl.pt (Jd (VB (Wr (Y9 (JY) rfl T.b_isinstance TF.boot_isinstance (Zd (va 2) (Zd (Bu rfl T.b_int TF.boot_int) Zk))))) (Jd (Wr (Y9 (JY) rfl T.b_isinstance TF.boot_isinstance (Zd (va 2) (Zd (Bu rfl T.b_bool TF.boot_bool) Zk)))) (Zcr (VB (Ziy ZD (Zix (ZjC) (va 2) (Zj2 (ZjE hr.units0) (Ya Yd (va 0) ZD)))))))))
 (Zt (Yg (PD.weak XZ))
 Z4)
 Z6)
 Z4))
 (Zt (Yg (Znb (V4 (W5 hr.units) (WY (Zfh) rfl T.b_list TF.boot_list (Zd (va 1) Zk)) (Y9 Zey rfl T.b_sorted TF.boot_sorted (Zd (va 1) Zk))) (Zjx (ZT (ke.mono) trivial hr (Zd (va 0) (Zd (va 1) Zk))))))
 Z4)))
noncomputable def ZeX:Zb->M Out:=(Zg (ZR 1 (Ze Z3 (dC (.int 10)) (Zs YJ (Zc (Za 0) (Zc (dC (.int 15)) Zf)))))
 (Zg (WS 2 (Xc Zf))
 (Zg (YL (W3 (dC (.int 1)) (Za 1)) (Zv 3)
 (Zg (YL (YH (dC (.int 3))) (Zv 4)
 (Zg (WT 2 (fun ρ=>(ZV (Zc (Zs YJ (Zc (Za 0) (Zc (Za 3) Zf))) (Zc (Za 3) Zf))) (Z2 [2] ρ)))
 Zm))
 Zm))
 (Zg (ZN (ZV (Zc (Za 1) (Zc (ZM Vn (Zc (JX (Za 2)) Zf)) Zf))))
 Zm))))
noncomputable def JL:List D->M D:=runB 5 1 ZeX
theorem ZaY:FnScope ["_law_pen","_law_n","_law_ties","_law_b","_law_k"] ["_law_pen"] (ZH Zbt):=YX
theorem ZdE (F:Fun K "_law_loose" "_law_loose" Zbt ka jL)(T:Txt mg){L:List (Addr×Str)}(lo:Wc L)(jE:ZP P w K mg base 2 "_law_next" 2 true (YG (YM K) L) YJ) :
  FnOk P w K mg base ZW 3 ka jL ["_law_pen"] (Yu 1 true (YG (YM K) L) JL):=
 have jG:=ZaY.nd
 Y6 (own:=[]) F ZaY λcdv A outer s H E hr G hG=>
 have hT:Xo L G:=js lo hG
 (Zt (YE (Yf jG rfl (qP rfl) (Z5 YZ ZD (ZT (jE.mono) hG hr (Zd (va 0) (Zd ZD Zk))))))
 (ZZ (own2:=[2]) (V1 (Yf jG rfl (qP rfl) (WN Zk)))
 (ZZ (own2:=[2]) (Xg (own:=[2]) zk rfl (JM rfl T.b_range ZD (va 1)) (Xa jG rfl (qP rfl) (by decide))
 (ZZ (own2:=[2]) (Xg (own:=[2]) zk rfl (WW rfl T.b_range ZD) (Xa jG rfl (qP rfl) (by decide))
 (ZZ (own2:=[2]) (U4 (own:=[2]) (i:=2) (by decide) (YS (Zd (ZT (jE.mono) hG hr (Zd (va 0) (Zd (va 3) Zk))) (Zd (va 3) Zk))) (λ_ h=>U1 (pv 2) h))
 (Z6 (own:=[2]))))
 (Z6 (own:=[2]))))
 (ZZ (own2:=[2]) (Yg (YS (Zd (va 1) (Zd (WY (Uo) rfl T.b_tuple TF.boot_tuple (Zd (ZeT rfl hr.units rfl T.b_sorted TF.boot_sorted rfl T.b_set TF.boot_set (va 2)) Zk)) Zk))))
 (Z6 (own:=[2]))))))
noncomputable def Zby:Zb->M Out:=(Zg (Uf (ZmC 1 2 3 4) (ZV (Zc (dC (.int 0)) (Zc (Xc Zf) (Zc (ZV Zf) (Zc (dC (.int 0)) Zf))))))
 (Zg (YL (YH (Ze Z3 (dC (.int 2)) (Zs YJ (Zc (Za 0) (Zc (dC (.int 5)) Zf))))) (Zv 5)
 (Zg (ZR 6 (Zs Ut (Zc (Za 0) (Zc (dC (.int 3)) Zf))))
 (Zg (ZR 7 (Zs Vl (Zc (Za 0) (Zc (Za 6) Zf))))
 (Zg (WS 2 (Ze Z3 (Za 2) (Z7 [none,none,some 1] (XB (Ze Zq (Za 6) (dC (.int 1)))) (Br 0 1) Z1 (ZV (Zc (Ze Z3 (Za 2) (Za 0)) (Zc (Ze Z3 (Za 2) (Za 1)) Zf))))))
 (Zg (YL (W3 (Za 1) (Ze Z3 (Za 1) (Ze Zq (Za 6) (dC (.int 0))))) (Zv 8)
 (Zg (Jy 2 (fun ρ=>(Z7 [none,some 8] (YH (Za 1)) (Zv 0) Z1 (ZV (Zc (Za 0) (Zc (Za 1) Zf)))) (Z2 [2] ρ)))
 Zm))
 (Zg (ZR 4 (fun ρ=>(Ze Z3 (Za 4) (Zs Vx (Zc (Za 6) (Zc (Za 7) Zf)))) (Z2 [2] ρ)))
 (Zg (Uf (Br 1 3) (fun ρ=>(ZV (Zc (Ze Z3 (Za 1) (Ze Zq (Za 6) (dC (.int 0)))) (Zc (Ze Z3 (Za 3) (Za 7)) Zf))) (Z2 [2] ρ)))
 Zm)))))))
 (Zg (ZN (ZV (Zc (ZV (Zc (Za 1) (Zc (ZM Vn (Zc (ZM Zc7 (Zc (Za 2) Zf)) Zf)) Zf))) (Zc (Za 3) (Zc (Za 4) Zf)))))
 Zm)))
noncomputable def JH:List D->M D:=runB 9 1 Zby
theorem Zai:FnScope ["_law_pen","_law_n","_law_ties","_law_weights","_law_due","_law_k","_law_one","_law_more","_law_b"] ["_law_pen"] (ZH BY):=YX
theorem Zbd (F:Fun K "_law_tied_parts" "_law_tied_parts" BY ka jL)(T:Txt mg){L:List (Addr×Str)}(lo:Wc L)(jK:ZP P w K mg base 2 "_law_heaviest" 2 false Yc Vx)(jE:ZP P w K mg base 2 "_law_next" 2 true (YG (YM K) L) YJ)(jX:ZP P w K mg base 3 "_law_web" 2 true (YG (YM K) L) Ut)(jJ:ZP P w K mg base 3 "_law_weighed" 2 true (YG (YM K) L) Vl) :
  FnOk P w K mg base ZW 4 ka jL ["_law_pen"] (Yu 1 true (YG (YM K) L) JH):=
 have jG:=Zai.nd
 Y6 (own:=[]) F Zai λcdv A outer s H E hr G hG=>
 have hT:Xo L G:=js lo hG
 (Zt (Zbj (YS (Zd ZD (Zd (WN Zk) (Zd (YS Zk) (Zd ZD Zk))))) (ZkA rfl (by decide) (by decide) (by decide) (by decide) (hp:=(XW (Xx jG rfl (qac rfl)) (XW (Xx jG rfl (qP rfl)) (XW (Xx jG rfl (qP rfl)) (XW (Xx jG rfl (qP rfl)) U6)))))))
 (Zt (Xg (own:=[]) zk rfl (WW rfl T.b_range (Z5 YZ ZD (ZT (jE.mono) hG hr (Zd (va 0) (Zd ZD Zk))))) (Xa jG rfl (qP rfl) (by decide))
 (Zt (YE (Yf jG rfl (qP rfl) (ZT (jX.mono) hG hr (Zd (va 0) (Zd ZD Zk)))))
 (Zt (YE (Yf jG rfl (qP rfl) (ZT (jJ.mono) hG hr (Zd (va 0) (Zd (va 6) Zk)))))
 (ZZ (own2:=[2]) (V1 (Yf jG rfl (qP rfl) (Z5 YZ (va 2) (X6 (bk ["_law_pen","_law_n","_law_ties","_law_weights","_law_due","_law_k","_law_one","_law_more","_law_b"] (ZH BY).names ["_law_a","_law_b","_law_n"] [none,none,some 1]) (VC (Ya Yd (va 6) ZD)) (ZcI rfl (show(["_law_a","_law_b","_law_n"]:List Str).Nodup by decide +kernel) rfl rfl (qP rfl) (qP rfl) rfl rfl (hp:=XW (Xx (show(["_law_a","_law_b","_law_n"]:List Str).Nodup by decide +kernel) rfl (qP rfl)) (XW (Xx (show(["_law_a","_law_b","_law_n"]:List Str).Nodup by decide +kernel) rfl (qP rfl)) U6))) X0 (YS (Zd (Z5 YZ (va 2) (va 0)) (Zd (Z5 YZ (va 2) (va 1)) Zk)))))))
 (ZZ (own2:=[2]) (Xg (own:=[2]) zk rfl (JM rfl T.b_range (va 1) (Z5 YZ (va 1) (Ya Yd (va 6) ZD))) (Xa jG rfl (qac rfl) (by decide))
 (ZZ (own2:=[2]) (Zku (own:=[2]) (i:=2) (by decide) (pv 2) (X6 (bk ["_law_pen","_law_n","_law_ties","_law_weights","_law_due","_law_k","_law_one","_law_more","_law_b"] (ZH BY).names ["_law_a","_law_b"] [none,some 8]) (JP rfl T.b_range (va 1)) Xr X0 (YS (Zd (va 0) (Zd (va 1) Zk)))))
 (Z6 (own:=[2]))))
 (ZZ (own2:=[2]) (Ba (own:=[2]) (Yf jG rfl (qP rfl) (Z5 YZ (va 4) (ZT (jK.mono) trivial hr (Zd (va 6) (Zd (va 7) Zk))))))
 (ZZ (own2:=[2]) (Zhy (own:=[2]) (YS (Zd (Z5 YZ (va 1) (Ya Yd (va 6) ZD)) (Zd (Z5 YZ (va 3) (va 7)) Zk))) (ZcI rfl jG rfl rfl (qac rfl) (qP rfl) (by decide) (by decide) (hp:=XW (Xx jG rfl (qac rfl)) (XW (Xx jG rfl (qP rfl)) U6))))
 (Z6 (own:=[2])))))))))
 (Zt (Yg (YS (Zd (YS (Zd (va 1) (Zd (WY (Uo) rfl T.b_tuple TF.boot_tuple (Zd (Y9 Zc8 rfl T.b_sorted TF.boot_sorted (Zd (va 2) Zk)) Zk)) Zk))) (Zd (va 3) (Zd (va 4) Zk)))))
 Z4)))
noncomputable def Zdq:Zb->M Out:=(Zg (Uf (Br 1 2) (ZV (Zc (Ze Z3 (dC (.int 11)) (Zs YJ (Zc (Za 0) (Zc (dC (.int 14)) Zf)))) (Zc (Ze Z3 (dC (.int 1)) (Zs YJ (Zc (Za 0) (Zc (dC (.int 6)) Zf)))) Zf))))
 (Zg (ZR 3 (Zs YJ (Zc (Za 0) (Zc (dC (.int 2)) Zf))))
 (Zg (WS 4 (Xc Zf))
 (Zg (YL (YH (Za 1)) (Zv 5)
 (Zg (YL (W3 (Ze Z3 (Za 5) (dC (.int 1))) (Za 1)) (Zv 6)
 (Zg (Yl (ZO (Ze Yk (ZM Zhq (Zc (Ze Yk (Ze Wz (Za 5) (Za 2)) (Ze Wz (Za 6) (Za 2))) Zf)) (Za 3)))
 (Zg (WT 4 (fun ρ=>(ZV (Zc (Za 5) (Zc (Za 6) Zf))) (Z2 [4] ρ)))
 Zm)
 Zm)
 Zm))
 Zm))
 (Zg (ZR 7 (ZV (Zc (Za 1) (Zc (ZM Vn (Zc (Za 4) Zf)) Zf))))
 (Zg (ZR 8 (Zs Vl (Zc (Za 0) (Zc (Za 7) Zf))))
 (Zg (ZR 9 (Z7 [none,some 8,some 2] (YH (Za 2)) (Zv 0) Z1 (dStp (Za 1) (By (Za 0)) (Za 2))))
 (Zg (Yl (ZO (Ze Yk (Za 3) (dC (.int 1))))
 (Zg (ZN (ZV (Zc (Za 7) (Zc (Za 8) (Zc (ZM BB (Zc (Z7 [none] (Yy (Za 9)) (Zv 0) Z1 (ZM BD (Zc (Za 0) Zf))) Zf)) Zf)))))
 Zm)
 Zm)
 (Zg (ZN (ZV (Zc (Za 7) (Zc (Za 8) (Zc (ZM UM (Zc (Z7 [none] (Yy (Za 9)) (Zv 0) Z1 (ZM BE (Zc (Za 0) Zf))) Zf)) Zf)))))
 Zm)))))))))
noncomputable def JK:List D->M D:=runB 10 1 Zdq
theorem ZaD:FnScope ["_law_pen","_law_n","_law_many","_law_within","_law_ties","_law_a","_law_b","_law_told","_law_weights","_law_groups"] ["_law_pen"] (ZH JJ):=YX
theorem Zcm (F:Fun K "_law_grouped" "_law_grouped" JJ ka jL)(T:Txt mg){L:List (Addr×Str)}(lo:Wc L)(jE:ZP P w K mg base 2 "_law_next" 2 true (YG (YM K) L) YJ)(jJ:ZP P w K mg base 3 "_law_weighed" 2 true (YG (YM K) L) Vl) :
  FnOk P w K mg base ZW 4 ka jL ["_law_pen"] (Yu 1 true (YG (YM K) L) JK):=
 have jG:=ZaD.nd
 Y6 (own:=[]) F ZaD λcdv A outer s H E hr G hG=>
 have hT:Xo L G:=js lo hG
 (Zt (Zbj (YS (Zd (Z5 YZ ZD (ZT (jE.mono) hG hr (Zd (va 0) (Zd ZD Zk)))) (Zd (Z5 YZ ZD (ZT (jE.mono) hG hr (Zd (va 0) (Zd ZD Zk)))) Zk))) (ZcI rfl jG rfl rfl (qP rfl) (qac rfl) (by decide) (by decide) (hp:=XW (Xx jG rfl (qP rfl)) (XW (Xx jG rfl (qac rfl)) U6))))
 (Zt (YE (Yf jG rfl (qP rfl) (ZT (jE.mono) hG hr (Zd (va 0) (Zd ZD Zk)))))
 (ZZ (own2:=[4]) (V1 (Yf jG rfl (qP rfl) (WN Zk)))
 (ZZ (own2:=[4]) (Xg (own:=[4]) zk rfl (WW rfl T.b_range (va 1)) (Xa jG rfl (qP rfl) (by decide))
 (ZZ (own2:=[4]) (Xg (own:=[4]) zk rfl (JM rfl T.b_range (Z5 YZ (va 5) ZD) (va 1)) (Xa jG rfl (qP rfl) (by decide))
 (ZZ (own2:=[4]) (Jg (own':=[4]) (Xs (W5 hr.units) (WY (Zgs) rfl T.b_int TF.boot_int (Zd (V4 (W5 hr.units) (Z5 U7 (va 5) (va 2)) (Z5 U7 (va 6) (va 2))) Zk)) (va 3))
 (ZZ (own2:=[4]) (U4 (own:=[4]) (i:=4) (by decide) (YS (Zd (va 5) (Zd (va 6) Zk))) (λ_ h=>U1 (pv 4) h))
 (Z6 (own:=[4])))
 Z6)
 (Z6 (own:=[4]))))
 (Z6 (own:=[4]))))
 (Zt (YW.frz (own:=[4]) (own2:=[]) (YE (Yf jG rfl (qP rfl) (YS (Zd (va 1) (Zd (WY (Uo) rfl T.b_tuple TF.boot_tuple (Zd (va 4) Zk)) Zk))))))
 (Zt (YE (Yf jG rfl (qac rfl) (ZT (jJ.mono) hG hr (Zd (va 0) (Zd (va 7) Zk)))))
 (Zt (YE (UZ jG rfl (qP rfl) rfl (bk ["_law_pen","_law_n","_law_many","_law_within","_law_ties","_law_a","_law_b","_law_told","_law_weights","_law_groups"] (ZH JJ).names ["_law_k","_law_weights","_law_many"] [none,some 8,some 2]) (JP rfl T.b_range (va 2)) (λ_ _ _ _ _ _=>Xr) (λ_ _ _ _ _ _=>X0) (λ_ _ _ _ _ _=>(ZnS (va 1) (Zfu (va 0)) (va 2)))))
 (Zt (WF (Xs (W5 hr.units) (va 3) ZD)
 (Zt (Yg (YS (Zd (va 7) (Zd (va 8) (Zd (Y9 (ZcV rfl) rfl T.b_max TF.boot_max (Zd (X6 (bk ["_law_pen","_law_n","_law_many","_law_within","_law_ties","_law_a","_law_b","_law_told","_law_weights","_law_groups"] (ZH JJ).names ["_law_one"] [none]) (Wq (va 9)) Xr X0 (Y9 (ZiQ rfl) rfl T.b_sum TF.boot_sum (Zd (va 0) Zk))) Zk)) Zk)))))
 Z4)
 Z6)
 (Zt (Yg (YS (Zd (va 7) (Zd (va 8) (Zd (Y9 (ZaS rfl) rfl T.b_sum TF.boot_sum (Zd (X6 (bk ["_law_pen","_law_n","_law_many","_law_within","_law_ties","_law_a","_law_b","_law_told","_law_weights","_law_groups"] (ZH JJ).names ["_law_one"] [none]) (Wq (va 9)) Xr X0 (Y9 (ZgT rfl) rfl T.b_max TF.boot_max (Zd (va 0) Zk))) Zk)) Zk)))))
 Z4)))))))))
noncomputable def ZeY:Zb->M Out:=(Zg (YL (YH (dC (.int 2))) (Zv 3)
 (Zg (ZR 4 (Zs Zaz (Zc (Za 0) (Zc (Za 1) Zf))))
 (Zg (Yl (Vv (Wx (ZO (ZM Jx (Zc (Za 4) (Zc (dC (.ty "tuple")) Zf))))) (Vv (ZO (Ze XQ (ZM Xp (Zc (Za 4) Zf)) (dC (.int 2)))) (ZO (ZM Jx (Zc (Ze Zq (Za 4) (dC (.int 0))) (Zc (dC (.ty "bool")) Zf))))))
 (Zg (ZN (dC (.bl false)))
 Zm)
 Zm)
 (Zg (Yl (Vv (ZO (Ze XQ (Ze Zq (Za 4) (dC (.int 0))) (Za 2))) (Wx (ZO (Zs BW (Zc (Za 0) (Zc (Ze Zq (Za 4) (dC (.int 1))) Zf))))))
 (Zg (ZN (dC (.bl false)))
 Zm)
 Zm)
 (Zg (Yl (ZO (Ze XQ (ZM UM (Zc (Z7 [none,some 1] (XB (Ze Zq (Za 4) (dC (.int 1)))) (Zv 0) Z1 (Ze Zq (Za 1) (Za 0))) Zf)) (Za 2)))
 (Zg (ZN (dC (.bl false)))
 Zm)
 Zm)
 Zm)))))
 (Zg (ZN (dC (.bl true)))
 Zm))
noncomputable def VY:List D->M D:=runB 5 3 ZeY
theorem ZaZ:FnScope ["_law_told","_law_weights","_law_due","_law_turn","_law_found"] ["_law_told","_law_weights","_law_due"] (ZH Zay):=YX
theorem ZdF (F:Fun K "_law_right" "_law_right" Zay ka jL)(T:Txt mg){L:List (Addr×Str)}(lo:Wc L)(j6:ZP P w K mg base 3 "_law_places_right" 2 false Yc BW)(kr:ZP P w K mg base 55 "heaviest" 2 true (Xo L) Zaz) :
  FnOk P w K mg base ZW 56 ka jL ["_law_told","_law_weights","_law_due"] (Yu 3 true (Xo L) VY):=
 have jG:=ZaZ.nd
 Y6 (own:=[]) F ZaZ λcdv A outer s H E hr G hG=>
 have hT:Xo L G:=hG
 (Zt (Xg (own:=[]) zk rfl (WW rfl T.b_range ZD) (Xa jG rfl (qP rfl) (by decide))
 (Zt (YE (Yf jG rfl (qP rfl) (ZT (kr.mono) hT hr (Zd (va 0) (Zd (va 1) Zk)))))
 (Zt (WF (Wl.pt (Jd (VB (Wr (Y9 (JY) rfl T.b_isinstance TF.boot_isinstance (Zd (va 4) (Zd (Bu rfl T.b_tuple TF.boot_tuple) Zk))))) (Jd (Xs (Ji hr.units) (VX T.b_len (Zd (va 4) Zk)) ZD) (Zcr (Wr (Y9 (JY) rfl T.b_isinstance TF.boot_isinstance (Zd (Ya Yd (va 4) ZD) (Zd (Bu rfl T.b_bool TF.boot_bool) Zk))))))))
 (Zt (Yg XZ)
 Z4)
 Z6)
 (Zt (WF (Wl.pt (Jd (Xs (Ji hr.units) (Ya Yd (va 4) ZD) (va 2)) (Zcr (VB (Wr (ZT (j6.mono) trivial hr (Zd (va 0) (Zd (Ya Yd (va 4) ZD) Zk))))))))
 (Zt (Yg XZ)
 Z4)
 Z6)
 (Zt (WF (Xs (Ji hr.units) (Y9 (ZaS rfl) rfl T.b_sum TF.boot_sum (Zd (X6 (bk ["_law_told","_law_weights","_law_due","_law_turn","_law_found"] (ZH Zay).names ["_law_place","_law_weights"] [none,some 1]) (VC (Ya Yd (va 4) ZD)) Xr X0 (Ya Yd (va 1) (va 0))) Zk)) (va 2))
 (Zt (Yg XZ)
 Z4)
 Z6)
 Z4)))))
 (Zt (Yg XZ)
 Z4))
noncomputable def ZkY:Zb->M Out:=(Zg (YL (YH (dC (.int 2))) (Zv 2)
 (Zg (ZR 3 (Zs Ut (Zc (Za 1) (Zc (dC (.int 9)) Zf))))
 (Zg (ZR 4 (Zs Vl (Zc (Za 1) (Zc (Za 3) Zf))))
 (Zg (Yl (Wx (ZO (Zs VY (Zc (Za 3) (Zc (Za 4) (Zc (Zs Vx (Zc (Za 3) (Zc (Za 4) Zf))) Zf))))))
 (Zg (ZN (dC (.bl false)))
 Zm)
 Zm)
 Zm))))
 (Zg (ZR 3 (Zs JL (Zc (Za 1) Zf)))
 (Zg (ZR 4 (Zs Vl (Zc (Za 1) (Zc (Za 3) Zf))))
 (Zg (Yl (Wx (ZO (Zs VY (Zc (Za 3) (Zc (Za 4) (Zc (Zs Vx (Zc (Za 3) (Zc (Za 4) Zf))) Zf))))))
 (Zg (ZN (dC (.bl false)))
 Zm)
 Zm)
 (Zg (Uf (Zkt 3 4 5) (Zs JH (Zc (Za 1) Zf)))
 (Zg (Yl (Wx (ZO (Zs VY (Zc (Za 3) (Zc (Za 4) (Zc (Za 5) Zf))))))
 (Zg (ZN (dC (.bl false)))
 Zm)
 Zm)
 (Zg (Uf (Zkt 3 4 5) (Zs JK (Zc (Za 1) Zf)))
 (Zg (ZN (Zs VY (Zc (Za 3) (Zc (Za 4) (Zc (Za 5) Zf)))))
 Zm))))))))
theorem Zha:FnScope ["script","_law_pen","_law_turn","_law_told","_law_weights","_law_due"] ["script"] (ZH s_law):=YX
theorem Zmj {cdv:Value}{A:xC}{outer:List Env}{s:Shared}{H:Hp}{E:XK}{L:List (Addr×Str)}(lo:Wc L)(T:Txt mg)(hr:Room 56 (A.deeper (envOfC "law" (ZH s_law) s.heap.objs.size ka cdv)))(jY:ZP P w K mg base 4 "_law_grouped" 1 true (YG (YM K) L) JK)(jK:ZP P w K mg base 2 "_law_heaviest" 2 false Yc Vx)(kb:ZP P w K mg base 3 "_law_loose" 1 true (YG (YM K) L) JL)(jR:ZP P w K mg base 56 "_law_right" 3 true (Xo L) VY)(jS:ZP P w K mg base 4 "_law_tied_parts" 1 true (YG (YM K) L) JH)(jX:ZP P w K mg base 3 "_law_web" 2 true (YG (YM K) L) Ut)(jJ:ZP P w K mg base 3 "_law_weighed" 2 true (YG (YM K) L) Vl)(G:Gh)(hG:(YG (YM K) L) G) :
  X8 (Vr ZW P w K mg base ["script","_law_pen","_law_turn","_law_told","_law_weights","_law_due"] "law" (ZH s_law) ka cdv A outer s H E).nox G [] [] [] false ((Wg s_law).drop 1) ZkY:=
 have jG:=Zha.nd;have hT:Xo L G:=js lo hG
 (Zt (Xg (own:=[]) zk rfl (WW rfl T.b_range ZD) (Xa jG rfl (qP rfl) (by decide))
 (Zt (YE (Yf jG rfl (qP rfl) (ZT (jX.mono) hG hr (Zd (va 1) (Zd ZD Zk)))))
 (Zt (YE (Yf jG rfl (qP rfl) (ZT (jJ.mono) hG hr (Zd (va 1) (Zd (va 3) Zk)))))
 (Zt (WF (VB (Wr (ZT (jR.mono) hT hr (Zd (va 3) (Zd (va 4) (Zd (ZT (jK.mono) trivial hr (Zd (va 3) (Zd (va 4) Zk))) Zk))))))
 (Zt (Yg (PD.weak XZ))
 Z4)
 Z6)
 Z4))))
 (Zt (YE (Yf jG rfl (qP rfl) (ZT (kb.mono) hG hr (Zd (va 1) Zk))))
 (Zt (YE (Yf jG rfl (qP rfl) (ZT (jJ.mono) hG hr (Zd (va 1) (Zd (va 3) Zk)))))
 (Zt (WF (VB (Wr (ZT (jR.mono) hT hr (Zd (va 3) (Zd (va 4) (Zd (ZT (jK.mono) trivial hr (Zd (va 3) (Zd (va 4) Zk))) Zk))))))
 (Zt (Yg (PD.weak XZ))
 Z4)
 Z6)
 (Zt (Zbj (ZT (jS.mono) hG hr (Zd (va 1) Zk)) (ZfK rfl (by decide) (by decide) (by decide) (hp:=XW (Xx jG rfl (qP rfl)) (XW (Xx jG rfl (qP rfl)) (XW (Xx jG rfl (qP rfl)) U6)))))
 (Zt (WF (VB (Wr (ZT (jR.mono) hT hr (Zd (va 3) (Zd (va 4) (Zd (va 5) Zk))))))
 (Zt (Yg (PD.weak XZ))
 Z4)
 Z6)
 (Zt (Zbj (ZT (jY.mono) hG hr (Zd (va 1) Zk)) (ZfK rfl (by decide) (by decide) (by decide) (hp:=XW (Xx jG rfl (qP rfl)) (XW (Xx jG rfl (qP rfl)) (XW (Xx jG rfl (qP rfl)) U6)))))
 (Zt (Yg (PD.weak (ZT (jR.mono) hT hr (Zd (va 3) (Zd (va 4) (Zd (va 5) Zk))))))
 Z4))))))))
theorem Zbz:FnScope ["_law_pen","_law_many","_law_at","_law_cell","_law_found"] ["_law_pen","_law_many"] (ZH Zb6):=⟨rfl,rfl,rfl,by decide +kernel,rfl,by decide +kernel,by decide +kernel⟩
theorem Zhb {ds:List D}{s s':Pn}{d:D}(h:YJ ds s=some (d,s')):∃m a hd ns,ds=[.pen,.int m]/\s=([a,hd],ns)/\0<m/\m<1073741824/\0<=a/\d=.int ((XC m a hd ns).2 % m)/\s'=([(XC m a hd ns).1,(XC m a hd ns).2 / m],ns):=by
 unfold YJ at h;split at h
 ·split at h
  ·rename_i m a hd ns c
   cases h
   exact⟨m,a,hd,ns,rfl,rfl,c.1,c.2.1,c.2.2,rfl,rfl⟩
  ·cases h
 ·cases h
theorem ZeZ {P:xB}{w:World}{K:qm}{mg:Str->Option Value}{base:Heap}{ka:Addr}{jL:xA}(F:Fun K "_law_next" "_law_next" Zb6 ka jL)(T:Txt mg)
  (km:ZP P w K mg base 1 "_law_fill" 2 false Yc Ur) (Zk0:∀c a s,0<=a->Ur [.int c,.int a] s=some (.int (W8 c a),s)) :
  FnOk P w K mg base ZW 2 ka jL ["_law_pen","_law_many"] (Yu 2 true (YM K) YJ):=by
 have nd:=Zbz.nd;refine F.ok Zbz (λvs H Q E h=>?_) λcdv A outer s0 H vs Q E hr h=>?_
 ·obtain⟨G,Hf,ds,pn,d,pn',_,e,_⟩:=h
  exact e
 ·obtain⟨G,Hf,ds,pn,d,pn',hG,el,e1,r,st',eF,k'⟩:=h
  obtain⟨p,sa,tr,rfl⟩:=hG;obtain⟨m,a,hd,ns,rfl,rfl,m0,m1,a0,rfl,rfl⟩:=Zhb eF;obtain⟨v1,v2,rfl,r1,r2⟩:=jo r
  cases (jp.mp r1)
  cases (ja.mp r2)
  obtain⟨a',h',ea,hp,ne,sq,t1,t2⟩:=st';simp only[qbz,and_true]at ea;obtain⟨rfl,rfl⟩:=ea
  -- behind: the pen's two numbers
  have fin:∀(H1:Hp) (x0 y0 x y:Int),stL K p sa tr ([x0,y0],ns) H1->stL K p sa tr ([x,y],ns) (Zn H1 p (.lst [.ref sa,.int x,.int y])):=λH1 x0 y0 x y ⟨_,_,_,_,_,sq,t1,t2⟩=>by
   refine⟨x,y,rfl,ZX,ne,?_,λht=>?_,t2⟩
   ·rcases sq with(q | ⟨o,q⟩) | q
    ·exact .inl (.inl (by rw[Zx ne];exact q))
    ·exact .inl (.inr ⟨o,by rw[Zx ne];exact q⟩)
    ·exact .inr q
   ·obtain⟨o,q⟩:=t1 ht
    exact⟨o,by rw[Zx ne];exact q⟩
  have st0:stL K p sa tr ([a,hd],ns) H:=⟨a,hd,rfl,hp,ne,sq,t1,t2⟩;have grH:∀(jQ H1:Hp) o,ZA (Ud K p sa tr) jQ H1->Gr (Ud K p sa tr) jQ H1 jQ (Zn H1 p o):=λjQ H1 o e1=>
   ⟨λb u n q=>by rw[Zx (show b≠p from n)];exact q,.refl _ _,λb u n q=>by rw[Zx (show b≠p from n)];exact e1 b u n q,λb n h1 h2=>h1⟩
  refine⟨_,VA (Zhk (Zcn Zjf (WP WK (pv 0) Xh (λ_ _=>rfl)) (pv 1) (Bj _))
   (VA (UA (i:=2) nd rfl (qP rfl) (WP WK (pv 0) Xh (λ_ _=>rfl)))
   (VA (UA (i:=3) nd rfl (qP rfl) Xh)
   (VA (Zhk (Zcn Zjf (pv 2) (U2 B1 rfl T.b_len TF.boot_len (Xb (WP WK (pv 0) Xh (λ_ _=>rfl)) Xy)) (Bj _))
    (Bc (UA (i:=3) nd rfl (qP rfl) (WP WK (WP WK (pv 0) Xh (λ_ _=>rfl)) (pv 2) (λ_ _=>rfl))))
    (Bc (Zhk (Zcn Zob (U2 B1 rfl T.b_len TF.boot_len (Xb (WP WK (pv 0) Xh (λ_ _=>rfl)) Xy)) Xh (Bj _))
     (Bc (UA (i:=3) nd rfl (qP rfl) (VO Zgi (VO Zeh (WP WK (WP WK (pv 0) Xh (λ_ _=>rfl)) (VO Zeh (VO Zgj (pv 2) Xh) (U2 B1 rfl T.b_len TF.boot_len (Xb (WP WK (pv 0) Xh (λ_ _=>rfl)) Xy))) (λ_ _=>rfl)) Xh) (VO Zgj (pv 2) Xh))))
     Zef)))
   (VA (Zeg (VO Zgi (pv 2) Xh) (Zgf (pv 0) Xh ZcG))
   (Bc (Zeg (PD.canon (ZjN (G:=Ud K p sa tr) km trivial hr rfl (Zd (Zgn 3 (pv 3)) (Zd (Zgn 2 (pv 2)) Zk)) (YY (YY V0)))) (Zgf (pv 0) Xh ZcG)))))))
   Zef)
   (VA (UA (i:=4) nd rfl (qP rfl) (VO Zeh (WP WK (pv 0) Xh (λ_ _=>rfl)) (pv 1)))
   (VA (Zeg (VO Zlc (WP WK (pv 0) Xh (λ_ _=>rfl)) (pv 1)) (Zgf (pv 0) Xh ZcG))
   (Bc (Zgd (pv 4))))),?_⟩
  -- pen[2]<many
  refine⟨_,rfl,p,[.ref sa,.int a,.int hd],2,.int hd,rfl,rfl,ZE.of hp,rfl,_,rfl,hd,m,rfl,rfl,_,rfl,?_⟩
  -- the last three rows,from any state of the pen
  have last:∀(x y:Int) (o2 o3 o4:Option V) (jQ H1:Hp),Gr (Ud K p sa tr) Hf H jQ H1->stL K p sa tr ([x,y],ns) H1->x=(XC m a hd ns).1->y=(XC m a hd ns).2->
    Jw (V9 (Wk (rI (λ_ j=>0<j) λi j=>.int (i % j)) (Wk (BH K) (YB 0) (tC (.int 2))) (YB 1)) (Wu 4))
     (Jw (V9 (Wk (rI CDiv λi j=>.int (i / j)) (Wk (BH K) (YB 0) (tC (.int 2))) (YB 1)) (BG (YB 0) (tC (.int 2)) Bp)) (tRet (YB 4))) { nx:=λ_ H'=>Q .non H',rt:=Q } [some (.ref p),some (.int m),o2,o3,o4] H1:=by
   intro x y o2 o3 o4 jQ H1 g1 jT ex ey;obtain⟨x1,y1,exy,hp1,_⟩:=id jT;simp only[qbz,and_true]at exy;obtain⟨rfl,rfl⟩:=exy;refine⟨_,rfl,p,[.ref sa,.int x,.int y],2,.int y,rfl,rfl,ZE.of hp1,rfl,_,rfl,y,m,rfl,rfl,m0,?_⟩;refine⟨_,rfl,p,[.ref sa,.int x,.int y],2,.int y,rfl,rfl,ZE.of hp1,rfl,_,rfl,y,m,rfl,rfl,⟨m0,m1⟩,_,rfl,p,[.ref sa,.int x,.int y],2,2,rfl,rfl,hp1,rfl,?_⟩;refine⟨_,rfl,?_⟩;have jP:=fin H1 x y x (y / m) jT;subst ex ey;exact k' _ jQ _ (g1.trans (grH _ _ _ g1.fh)) jP (ja.mpr rfl) λ_=>.scal λz=>z
  by_cases hlt:hd<m
  ·rw[decide_eq_true hlt]
   refine Ub ?_;refine⟨_,rfl,p,[.ref sa,.int a,.int hd],1,.int a,rfl,rfl,ZE.of hp,rfl,?_⟩
   -- the rest behind the cell
   have rest:∀c:Int,c=Bx ns a->
     Jw (V9 (Wk (Vg λi j=>.int (i+j)) (YB 2) (tC (.int 1))) (BG (YB 0) (tC (.int 1)) Bp)) (V9 (tOf (Ud K p sa tr) false (Zs Ur (Zc (Za 3) (Zc (Za 2) Zf)))) (BG (YB 0) (tC (.int 2)) Bp)) ({ nx:=(Jw (V9 (Wk (rI (λ_ j=>0<j) λi j=>.int (i % j)) (Wk (BH K) (YB 0) (tC (.int 2))) (YB 1)) (Wu 4)) (Jw (V9 (Wk (rI CDiv λi j=>.int (i / j)) (Wk (BH K) (YB 0) (tC (.int 2))) (YB 1)) (BG (YB 0) (tC (.int 2)) Bp)) (tRet (YB 4))) { nx:=λ_ H'=>Q .non H',rt:=Q }),rt:=Q }:Ends) [some (.ref p),some (.int m),some (.int a),some (.int c),none] H:=by
    intro c ec;refine⟨_,rfl,a,1,rfl,rfl,_,rfl,p,[.ref sa,.int a,.int hd],1,1,rfl,rfl,hp,rfl,?_⟩;have g1:=grH Hf H (.lst [.ref sa,.int (a+1),.int hd]) e1;refine⟨Hf,[none,none,some (.int a),some (.int c)],([a+1,hd],ns),.int (W8 c a),([a+1,hd],ns),g1.fh,λi d e=>?_,fin H a hd (a+1) hd st0,?_,λv Hf' H' g st r _=>?_⟩
    ·match i,e with
     | 0,e=>cases e
     | 1,e=>cases e
     | 2,e=>cases e;exact⟨_,rfl,ja.mpr rfl⟩
     | 3,e=>cases e;exact⟨_,rfl,ja.mpr rfl⟩
     | i+4,e=>simp at e
    ·exact Zk0 c a _ a0
    ·rw[ja.mp r]
     obtain⟨x1,y1,exy,hp1,_⟩:=id st;simp only[qbz,and_true]at exy;obtain⟨rfl,rfl⟩:=exy;refine⟨_,rfl,p,[.ref sa,.int (a+1),.int hd],2,2,rfl,rfl,hp1,rfl,?_⟩;refine last (a+1) (W8 c a) _ _ _ Hf' _ ((g1.trans g).trans (grH _ _ _ g.fh)) (fin H' _ _ _ _ st) ?_ ?_
     ·unfold XC;rw[if_pos hlt]
     ·unfold XC;rw[if_pos hlt,ec]
   refine⟨_,rfl,_,rfl,p,[.ref sa,.int a,.int hd],0,.ref sa,rfl,rfl,ZE.of hp,rfl,sa,ns.map V.int,rfl,.inl sq,a,_,rfl,rfl,_,rfl,?_⟩;have lm:((ns.map V.int).length:Int)=(ns.length:Int):=by simp
   by_cases h2:a<ns.length
   ·rw[lm,decide_eq_true h2]
    refine Ub ?_;have hi:a.toNat<ns.length:=by omega
    have gi:(ns.map V.int)[a.toNat]?=some (.int (ns.getD a.toNat 0)):=by simp[qbv,hi]
    have ai:XV (ns.map V.int) a=some (.int (ns.getD a.toNat 0)):=by
     have q:=W0 gi
     rwa[qcP a0]at q
    refine⟨_,rfl,p,[.ref sa,.int a,.int hd],0,.ref sa,rfl,rfl,ZE.of hp,rfl,_,rfl,sa,ns.map V.int,a,_,rfl,rfl,sq,ai,?_⟩;exact rest _ (by unfold Bx;rw[if_pos h2])
   ·rw[lm,decide_eq_false h2]
    refine Ua ?_;refine⟨_,rfl,p,[.ref sa,.int a,.int hd],0,.ref sa,rfl,rfl,ZE.of hp,rfl,sa,ns.map V.int,rfl,.inl sq,_,0,rfl,rfl,_,rfl,?_⟩;by_cases h3:(0:Int)<ns.length
    ·rw[lm,decide_eq_true h3]
     refine Ub ?_;have j0:=qaj (a*7) (show(ns.length:Int)≠0 by omega);have j1:=qaF (a*7) h3;have hi:(a*7 % (ns.length:Int)).toNat<ns.length:=by omega
     have gi:(ns.map V.int)[(a*7 % (ns.length:Int)).toNat]?=some (.int (ns.getD (a*7 % (ns.length:Int)).toNat 0)):=by simp[qbv,hi]
     have ai:XV (ns.map V.int) (a*7 % (ns.length:Int))=some (.int (ns.getD (a*7 % (ns.length:Int)).toNat 0)):=by
      have q:=W0 gi
      rwa[qcP j0]at q
     refine⟨_,rfl,p,[.ref sa,.int a,.int hd],0,.ref sa,rfl,rfl,ZE.of hp,rfl,_,rfl,a,7,rfl,rfl,.inr ⟨by decide,by decide⟩,_,rfl,p,[.ref sa,.int a,.int hd],0,.ref sa,rfl,rfl,ZE.of hp,rfl,sa,ns.map V.int,rfl,.inl sq,a*7,_,rfl,rfl,(by rw[lm];exact h3),sa,ns.map V.int,_,_,rfl,rfl,sq,(by rw[lm];exact ai),_,1000003,rfl,rfl,(by show(0:Int)<1000003;decide),_,rfl,a,1000003,rfl,rfl,.inr ⟨by decide,by decide⟩,_,_,rfl,rfl,?_⟩;exact rest _ (by unfold Bx;rw[if_neg h2,if_pos (by omega)])
    ·rw[lm,decide_eq_false h3]
     refine Ua ?_;exact rest 0 (by unfold Bx;rw[if_neg h2,if_neg (by omega)])
  ·rw[decide_eq_false hlt]
   refine Ua ?_;exact last a hd none none none Hf H (.refl e1) st0 (by unfold XC;rw[if_neg hlt]) (by unfold XC;rw[if_neg hlt])
end K40
namespace TF
open L2
theorem ux0 {α:Type}(us:List α)(e:us.length=0):us=[]:=by cases us with | nil=>rfl | cons=>cases e
theorem ux1 {α:Type}(us:List α)(e:us.length=1):∃a,us=[a]:=by
 cases us with | nil=>cases e | cons a r=>cases ux0 r (qb6 e);exact⟨a,rfl⟩
theorem ux2 {α:Type}(us:List α)(e:us.length=2):∃a b,us=[a,b]:=by
 cases us with | nil=>cases e | cons a r=>obtain⟨b,rfl⟩:=ux1 r (qb6 e);exact⟨a,b,rfl⟩
theorem ux3 {α:Type}(us:List α)(e:us.length=3):∃a b c,us=[a,b,c]:=by
 cases us with | nil=>cases e | cons a r=>obtain⟨b,c,rfl⟩:=ux2 r (qb6 e);exact⟨a,b,c,rfl⟩
theorem ux4 {α:Type}(us:List α)(e:us.length=4):∃a b c d,us=[a,b,c,d]:=by
 cases us with | nil=>cases e | cons a r=>obtain⟨b,c,d,rfl⟩:=ux3 r (qb6 e);exact⟨a,b,c,d,rfl⟩
noncomputable def IsC (K:qm)(x:Str)(st:Stmt)(c:Addr):Prop:=∃(f:Addr) (fd:xA),qb7 K mainGlobals x=some (some (.ref f))/\Fun K x x st f fd/\fd.code=.ref c
noncomputable def fnO (x:Str)(st:Stmt)(pm:Value)(c:Addr):Obj:=⟨.type "function",none,.func (yR x x (WL st) (Wg st) (ZH st) .none .none .none pm none (.ref c) .none),#[]⟩
noncomputable def cdO (x:Str)(t:Nat)(ln ac:Int)(a:Addr)(tx k:Nat)(v:Bool):Obj:=
 ⟨.type "code",none,.fields #[.str x t,.str x (t+1),.str "/claim/cut.py" (t+2),.int ln 0,.int ac 0,.int 0 0,.int 0 0,.int 3 0,.ref a,.bool true,.int tx 0,.ref (a+1),.none,
  (match v with | true=>.ref (a+2) | false=>.none),(match v with | true=>.ref (a+3) | false=>.none),.ref (match v with | true=>a+4 | false=>a+2),.int k 0,.int ln 0,.str "/claim/cut.py" (k+1)],#[]⟩
structure DRow where
 x:Str
 i:Nat
 t:Nat
 ln:Int
 ac:Int
 a:Addr
 k:Nat
 v:Bool
 pm:Str
 pt:Nat
noncomputable def DRow.c (r:DRow):Addr:=match r.v with | true=>r.a+5 | false=>r.a+3
noncomputable def dE (P:Params)(x:Str)(t:Nat)(v:Value):DictEntry:=⟨PyData.keyHash P x,.str x t,v⟩
noncomputable abbrev nE (x:Str)(t:Nat)(a:Addr):Str×Nat×Addr:=(x,t,a)
noncomputable abbrev dR (x:Str)(i t:Nat)(ln ac:Int)(a:Addr)(k:Nat)(v:Bool)(pm:Str)(pt:Nat):DRow:=⟨x,i,t,ln,ac,a,k,v,pm,pt⟩
noncomputable def dRs (P:Params)(l:List (Str×Nat×Addr)):List DictEntry:=l.map λe=>dE P e.1 e.2.1 (.ref e.2.2)
noncomputable def Zov (ZU:Nat->Stmt)(tx:Nat)(m:List DictEntry)(n:Nat)(rs:List DRow):qm:=
 (mainNs,⟨.type "dict",none,.dict m.toArray n,#[]⟩)::rs.flatMap λr=>[(r.c,cdO r.x r.t r.ln r.ac r.a tx r.k r.v),(r.c+1,fnO r.x (ZU r.i) (.str r.pm r.pt) r.c)]
theorem Zow {K:qm}{x:Str}{st:Stmt}{pm:Value}{c f:Addr}(a:qb7 K mainGlobals x=some (some (.ref f)))(l:K.lookup f=some (fnO x st pm c))(cd:qba K (.ref c) x=true):IsC K x st c:=
 ⟨f,_,a,Zna l cd (by unfold yL;dsimp only;rw[l];rfl),rfl⟩
noncomputable def ZnT:Stmt->Pos
 | .FunctionDef _ _ _ _ _ _ _ _ _ p=>p
 | _=>⟨0,0,0,0⟩
noncomputable abbrev Zhc (st:Stmt):DefRec:=⟨"law",WL st,Wg st,ZH st,ZnT st⟩
theorem head_of {l:PySem.W.OpenLaw}{q:xB}{K:Params->qm}{as:List Addr}{e:∀P,as=(K P).map (·.1)}{N:Nat}{st:Stmt}(said:l.wellSaid=true)
  (left:PySem.W.LeftO l.prog q [] (λs=>PySem.W.xlAt q [] s&&PySem.W.recOk l.row.records s) (qaC K as e).obs (qaC K as e).val N)
  (hdef:PySem.W.defOf q l.row.name=some (Zhc st,[])) (hp:l.row.prog.theDef l.row.name=some (WL st,Wg st,ZH st))
  (hk:PySem.W.kwWritten? (WL st).kwonlyargs (WL st).kw_defaults=some [])
  (ok:(PySem.W.chainsOk q&&PySem.W.opensWell l.row.prog&&(PySem.W.frees l.row.toRowW&&l.row.within.isEmpty))=true) (hb:l.row.prog.bare) (hw:l.row.toRowW.promised) (hwr:(!l.row.writes||l.row.records.isEmpty)=true)
  (call:qcE q [] (PySem.W.XL q []) (qaC K as e).says l.row.toRowW (Zhc st) [] λf vs=>qcA f vs):l.Holds:=
 PySem.W.holds_law said λsd=>PySem.W.holds_open left (qaC K as e).of (qaC K as e).keeps (λs z=>PySem.W.xl_of s (qaP.mp z).1) PySem.W.XL.keeps hdef hp hk (λs z=>PySem.W.recFacts_of (qaP.mp z).2) hwr sd ok hb hw call
noncomputable def AtR (K:qm)(mg:Str->Option Value)(ZU:Nat->Stmt)(r:DRow):Prop:=∃(f:Addr) (fd:xA),Fun K r.x r.x (ZU r.i) f fd/\mg r.x=some (.ref f)/\fd.code=.ref r.c
noncomputable def ZmF (K:qm)(ZU:Nat->Stmt)(r:DRow):Prop:=qb7 K mainGlobals r.x=some (some (.ref (r.c+1)))/\K.lookup (r.c+1)=some (fnO r.x (ZU r.i) (.str r.pm r.pt) r.c)/\qba K (.ref r.c) r.x=true
noncomputable def Ze0 (K:qm)(ZU:Nat->Stmt):List DRow->Prop
 | []=>True
 | r::l=>ZmF K ZU r/\Ze0 K ZU l
theorem Zf7 {K:qm}{ZU:Nat->Stmt}:∀{l:List DRow} {j:Nat} {r:DRow},Ze0 K ZU l->l[j]?=some r->ZmF K ZU r
 | _::_,0,_,h,e=>by cases e;exact h.1
 | _::l,j+1,_,h,e=>Zf7 (l:=l) h.2 e
theorem ZnU {K:qm}{h:Heap}{mg:Str->Option Value}{ZU:Nat->Stmt}{l:List DRow}(ok:Ze0 K ZU l)(X:K.In h)(G:h.Ns mainGlobals mg)(j:Nat){r:DRow}(e:l[j]?=some r:=by rfl):AtR K mg ZU r:=by
 obtain⟨a,b,c⟩:=Zf7 ok e;obtain⟨f,fd,a,F,d⟩:=Zow a b c;exact⟨f,fd,F,PySem.W.mg_of X G a,d⟩
theorem bdc {K:qm}{x:Str}{st:Stmt}{f:Addr}{fd:xA}(ps:List Str)(F:Fun K x x st f fd)
  (h:∀(kV doc pm:Value) (an:Option Addr) (cdv ct:Value) (us:List Value),us.length=ps.length->bindArgs (yR x x (WL st) (Wg st) (ZH st) .none kV doc pm an cdv ct) ⟨us,[]⟩=pure (ps.zip us):=by
   intro _ _ _ _ _ _ us hl
   first
    | (obtain⟨_,rfl⟩:=TF.ux1 us hl;rfl)
    | (obtain⟨_,_,rfl⟩:=TF.ux2 us hl;rfl)
    | (obtain⟨_,_,_,rfl⟩:=TF.ux3 us hl;rfl)
    | (obtain⟨_,_,_,_,rfl⟩:=TF.ux4 us hl;rfl)
    | (obtain⟨_,_,_,_,_,rfl⟩:=TF.ux5 us hl;rfl)
    | (obtain⟨_,_,_,_,_,_,rfl⟩:=TF.ux6 us hl;rfl)
    | (obtain⟨_,_,_,_,_,_,_,rfl⟩:=TF.ux7 us hl;rfl)
    | (obtain rfl:=TF.ux0 us hl;rfl)):Wi K fd ps []:=F.binds h
theorem mkc {P:xB}{w:World}{K:qm}{mg:Str->Option Value}(base:Heap){x:Str}{st:Stmt}{f:Addr}{fd:xA}{k n:Nat}{ps:List Str}{fr:Bool}{GG:Gh->Prop}{F9:List D->M D}(F:Fun K x x st f fd)(m:mg x=some (.ref f))(ok:FnOk P w K mg base ZW k f fd ps (Yu n fr GG F9))
  (h:∀(kV doc pm:Value) (an:Option Addr) (cdv ct:Value) (us:List Value),us.length=ps.length->bindArgs (yR x x (WL st) (Wg st) (ZH st) .none kV doc pm an cdv ct) ⟨us,[]⟩=pure (ps.zip us):=by
   intro _ _ _ _ _ _ us hl
   first
    | (obtain⟨_,rfl⟩:=TF.ux1 us hl;rfl)
    | (obtain⟨_,_,rfl⟩:=TF.ux2 us hl;rfl)
    | (obtain⟨_,_,_,rfl⟩:=TF.ux3 us hl;rfl)
    | (obtain⟨_,_,_,_,rfl⟩:=TF.ux4 us hl;rfl)
    | (obtain⟨_,_,_,_,_,rfl⟩:=TF.ux5 us hl;rfl)
    | (obtain⟨_,_,_,_,_,_,rfl⟩:=TF.ux6 us hl;rfl)
    | (obtain⟨_,_,_,_,_,_,_,rfl⟩:=TF.ux7 us hl;rfl)
    | (obtain rfl:=TF.ux0 us hl;rfl)):ZP P w K mg base k x n fr GG F9:=⟨f,fd,ps,ok,m,F.kp,F.binds h⟩
end TF
namespace TQ
open L2 TF TP TS
open TP2
open TP3
noncomputable def UF (n:Nat)(t:Qa)(K:List Nat):Prop:=K.Nodup/\(∀x∈K,x<n)/\∀a∈K,∀b∈K,a≠b->tied t a b=true
noncomputable def XS (n:Nat)(g:Nat->Nat)(w:Bool):Qa:=(YF n).filter λp=>(g p.1==g p.2)==w
theorem Ze1 (n:Nat)(g:Nat->Nat)(w:Bool):Z8 n (XS n g w):=Z8.filter _
theorem ZbA {n:Nat}{g:Nat->Nat}{w:Bool}{a b:Nat}:tied (XS n g w) a b=true↔a≠b/\a<n/\b<n/\(g a==g b)=w:=by
 rw[Zbq];unfold XS;rw[qN,Uw];simp only[beq_iff_eq];rcases qbU a b with h | h | h
 ·rw[show min a b=a by omega,show max a b=b by omega]
  constructor
  ·rintro⟨⟨_,q⟩,r⟩;exact⟨by omega,by omega,q,r⟩
  ·rintro⟨_,_,q,r⟩;exact⟨⟨h,q⟩,r⟩
 ·subst h
  constructor
  ·rintro⟨⟨q,_⟩,_⟩;omega
  ·rintro⟨q,_⟩;exact absurd rfl q
 ·rw[show min a b=b by omega,show max a b=a by omega,show(g b==g a)=(g a==g b)from BEq.comm]
  constructor
  ·rintro⟨⟨_,q⟩,r⟩;exact⟨by omega,q,by omega,r⟩
  ·rintro⟨_,q,_,r⟩;exact⟨⟨h,q⟩,r⟩
noncomputable def Yh (n:Nat)(g:Nat->Nat)(j:Nat):List Nat:=(qk n).filter λx=>g x==j
theorem VI {n:Nat}{g:Nat->Nat}{j x:Nat}:x∈Yh n g j↔x<n/\g x=j:=by unfold Yh;rw[qN,qG,beq_iff_eq]
theorem Zi8 (n:Nat)(g:Nat->Nat)(j:Nat):(Yh n g j).Nodup:=zY.sublist zm
section
variable {n:Nat}{f:Nat->Nat}{t:Qa}(hw:Z8 n t)(hf:∀x<n,f x<n)(hi:∀x y,x<n->y<n->f x=f y->x=y)
include hw hf hi
end
noncomputable def V8:List Nat->List (List Nat)
 | []=>[[]]
 | a::l=>V8 l++(V8 l).map (a :: ·)
theorem Zf8:∀l:List Nat,(V8 l).length=2 ^ l.length
 | []=>rfl
 | a::l=>by
  rw[V8,qE,qd,Zf8 l,qO,qcV];omega
theorem Zdr:∀{l k:List Nat},k.Sublist l->k∈V8 l
 | [],k,h=>by rw[List.sublist_nil.mp h];simp[V8]
 | a::l,k,h=>by
  rw[V8,qM]
  cases h with
  | cons _ h=>exact .inl (Zdr h)
  | cons_cons _ h=>exact .inr (qp.mpr ⟨_,Zdr h,rfl⟩)
theorem ZkZ {t:Qa}{q:Nat}(h:∀i,((qk i).filter λa=>decide ((a,i)∈t)).length<=q):∀i,(kn t i).length<=1+i*2 ^ q
 | 0=>by simp[kn]
 | i+1=>by
  have ih:=ZkZ h i;rw[kn,qE,qd];have h1:((kn t i).filter (Wd t i)).length<=2 ^ q:=by
   refine zb (ZbO (b:=V8 ((qk i).filter λa=>decide ((a,i)∈t))) ((Zdc t i).sublist zm) λk hk=>Zdr ?_) ?_
   ·obtain⟨hk,ok⟩:=qN.mp hk
    have e:k=(qk i).filter λa=>decide (a∈k):=Zdb (ZlZ hk) ((JV i).sublist zm) λx=>by
     rw[qN,qG,decide_eq_true_eq];exact⟨λz=>⟨(V5 hk).1 x z,z⟩,λz=>z.2⟩
    rw[e];have:∀x∈k,(x,i)∈t:=λx hx=>of_decide_eq_true (yw.mp ok x hx);clear e;generalize qk i=l
    induction l with
    | nil=>simp
    | cons a l ih=>
     rw[yz,yz];by_cases ha:a∈k
     ·rw[if_pos (by simpa using ha),if_pos (by simpa using this a ha)];exact ih.cons_cons a
     ·rw[if_neg (by simpa using ha)]
      split
      ·exact ih.cons a
      ·exact ih
   ·rw[Zf8];exact qbB (by omega) (h i)
  rw[qc2,Nat.one_mul];omega
end TQ
namespace TP
open TF L2
theorem Zk0:∀c a s,0<=a->Ur [.int c,.int a] s=some (.int (W8 c a),s):=by
 intro c a s ha;have hx0:=qaj (c % 2147483647*48271+a*69621+11) (show(2147483629:Int)≠0 by decide);have hx1:=qaF (c % 2147483647*48271+a*69621+11) (show(0:Int)<2147483629 by decide);by_cases hc:10 ^ 18<=c
 ·have e:W8 c a=c:=by unfold W8;rw[if_pos hc]
  rw[e];have:(1000000000000000000:Int)<=c:=by simpa using hc
  simp[Ur,runB,ZaE,Zg,Yl,ZO,Ze,Vw,dI,Za,dC,Zo,Zy,Y5,dPow,ZN,Zm,this]
 ·have e:¬(1000000000000000000:Int)<=c:=λz=>hc (by simpa using z)
  generalize hx:(c % 2147483647*48271+a*69621+11) % 2147483629=x at hx0 hx1;have hy0:=qaj (x*x+48271*x+a) (show(2147483587:Int)≠0 by decide);have hy1:=qaF (x*x+48271*x+a) (show(0:Int)<2147483587 by decide);generalize hy:(x*x+48271*x+a) % 2147483587=y at hy0 hy1;have ef:W8 c a=y*2147483579+(y*y+69621*a) % 2147483579:=by
   unfold W8;rw[if_neg hc];dsimp only;rw[hx,hy]
  rw[ef];have m1:∀z:Int,0<=z->z<2147483648->∀w,Jp z w=true:=λz h1 h2 w=>by
   unfold Jp;simp;left;omega
  have m2:∀z w:Int,0<=z->z<2147483648->Jp w z=true:=λz w h1 h2=>by
   unfold Jp;simp;right;omega
  simp[Ur,runB,ZaE,Zg,Yl,ZO,Ze,Vw,dI,Za,dC,Zo,Zy,Y5,dPow,ZN,Zm,ZR,Wz,VR,Z3,e,hx,hy,m1 x hx0 (by omega),m1 y hy0 (by omega),m2 48271 _ (by decide) (by decide),m2 69621 _ (by decide) (by decide),m1 48271 (by decide) (by decide),m1 69621 (by decide) (by decide),m2 2147483579 _ (by decide) (by decide)]
end TP
namespace TQ
open L2 TF TS
open TP
open TP2
open TP3
theorem Zi9 {n:Nat}{jD L:Qa}(hw:Z8 n jD)(hm:∀p,p∈L↔p∈jD)(hl:L.length<=306)(s:Pn):Jv (L.map Zr) s=some (.lst (jD.map Zr),s):=by
 have e:L.map Zr=(L.map XM).map Y8:=by rw[qC];rfl
 have nd:(jD.map XM).Nodup:=ze.mpr (((Za3 n).sublist hw).imp λh e=>h (ZiX e));have pm:(W6 (L.map XM)).Perm (jD.map XM):=(yi (B5 _) nd).mpr λx=>by
  rw[JW,qp,qp];constructor
  ·rintro⟨p,hp,rfl⟩;exact⟨p,(hm p).mp hp,rfl⟩
  ·rintro⟨p,hp,rfl⟩;exact⟨p,(hm p).mpr hp,rfl⟩
 unfold Jv;rw[e,Za6];dsimp only;rw[if_pos ⟨by rw[qd];exact hl,λns hns=>by
  obtain⟨p,_,rfl⟩:=qp.mp hns;exact λz=>by cases z⟩,ZaG pm,Zd1 hw (.refl _),qC]
 rfl
theorem ZbB {J:Type}{τ:D->Zb->Option Zb}{body:Zb->M Out}{R:J->List D->Zb}{s:Pn}{N:Nat}(g:D->List D):∀(ds:List D) (j:J) (acc:List D),acc.length+(ds.flatMap g).length<=N->
  (∀d∈ds,∀j acc,acc.length+(g d).length<=N->∃ρ1,τ d (R j acc)=some ρ1/\∃j',body ρ1 s=some (.nx (R j' (acc++g d)),s))->∃j',XO τ body ds (R j acc) s=some (.nx (R j' (acc++ds.flatMap g)),s)
 | [],j,acc,_,_=>⟨j,by rw[List.flatMap_nil,zr];rfl⟩
 | d::ds,j,acc,hl,h=>by
  rw[qbj,qE]at hl;obtain⟨ρ1,e1,j1,e2⟩:=h d (by simp) j acc (by omega);obtain⟨j2,e3⟩:=ZbB g ds j1 (acc++g d) (by rw[qE];omega) λd' hd'=>h d' (by simp[hd']);refine⟨j2,Zav e1 e2 ?_⟩;rw[e3,qbj,qR]
theorem Zf9 {α β:Type}{f:α->List β}(key:β->α):∀{l:List α},l.Nodup->(∀a∈l,(f a).Nodup)->(∀a∈l,∀x∈f a,key x=a)->(l.flatMap f).Nodup
 | [],_,_,_=>by simp
 | a::l,nd,h,hk=>by
  rw[qbj,yV];have nd':=zH.mp nd;refine⟨h a (by simp),Zf9 key nd'.2 (λb hb=>h b (by simp[hb])) λb hb=>hk b (by simp[hb]),λx hx y hy e=>nd'.1 ?_⟩;obtain⟨b,hb,hy⟩:=qbr.mp hy;rw[<-hk a (by simp) x hx,e,hk b (by simp[hb]) y hy];exact hb
section
variable (n m:Nat)(g:Nat->Nat)(w:Bool)
end
section
variable {n m:Nat}{g:Nat->Nat}{w:Bool}
end
theorem ZmG (f:Nat->Qa)(l:List Nat):(l.map nD).flatMap (λd=>(f (ZS d)).map Zr)=(l.flatMap f).map Zr:=by
 rw[qbs,qb8];rfl
section
variable {GL:D}{n m sz:Nat}{g:Nat->Nat}{w:Bool}{o4:Option D}{s:Pn}{N:Nat}
end
theorem Zhd {n:Nat}{jD L:Qa}(hw:Z8 n jD)(hp:L.Perm jD)(hl:L.length<=100000):Zc7 [.lst (L.map Zr)]=some (.lst (jD.map Zr)):=by
 have e:L.map Zr=(L.map XM).map Y8:=by rw[qC];rfl
 show(match WO (L.map Zr)with | some jI=>if Uz jI then some (D.lst ((YN jI).map Y8))else none | none=>none)=_;rw[e,Za6];show(if Uz (L.map XM)then some (D.lst ((YN (L.map XM)).map Y8))else none)=_;rw[if_pos ⟨by rw[qd];exact hl,λ_ ns hns=>by
  obtain⟨p,_,rfl⟩:=qp.mp hns;exact λz=>by cases z⟩,Zd1 hw hp,qC]
 rfl
noncomputable def ZnV (q:Int):Zb->M Out:=(Zg (ZR 1 (Ze Z3 (dC (.int 10)) (Zs YJ (Zc (Za 0) (Zc (dC (.int 15)) Zf)))))
 (Zg (WS 2 (Xc Zf))
 (Zg (YL (W3 (dC (.int 1)) (Za 1)) (Zv 3)
 (Zg (YL (YH (dC (.int q))) (Zv 4)
 (Zg (WT 2 (fun ρ=>(ZV (Zc (Zs YJ (Zc (Za 0) (Zc (Za 3) Zf))) (Zc (Za 3) Zf))) (Z2 [2] ρ)))
 Zm))
 Zm))
 (Zg (ZN (ZV (Zc (Za 1) (Zc (ZM Vn (Zc (JX (Za 2)) Zf)) Zf))))
 Zm))))
theorem Zk1 {s:Pn}(ok:YO s){q:Nat}(hq:q<=4):Ok (runB 5 1 (ZnV (q:Int)) [.pen]) s λd s'=>YO s'/\∃n jD,d=Zz n jD/\n<=24/\Z8 n jD/\(kn jD n).length<=1000:=by
 refine Ok.runB rfl ?_;refine Ok.seq (.sset (.op (.eq (a:=.int 10) rfl (.draw (m:=15) ok (Zh rfl (Zh rfl rfl)) (by omega) (by omega) λr s1 hr ok1=>⟨nD (10+r),by show some (D.int _)=some (D.int _);rw[qbD];rfl,?_⟩))));have hn:10+r<=24:=by omega
 generalize 10+r=n at hn;refine Ok.seq (.sown (.eq (a:=.lst []) (VM rfl (by decide)) ⟨rfl,?_⟩));refine Ok.seq (.sfor (λi ρ s'=>YO s'/\∃(L:Qa) (o3 o4:Option D),L.length<=i*q/\(∀p∈L,p.1<p.2/\p.2<n/\p.2<1+i)/\(∀c,(L.filter λp=>p.2==c).length<=q)/\ρ=[some .pen,some (nD n),some (.lst (L.map Zr)),o3,o4]) (.eq (J6 (a:=1) (n:=n) rfl rfl (by omega) (by omega)) ⟨⟨ok1,[],none,none,by simp,λp hp=>by simp at hp,λc=>by simp,rfl⟩,λi d ρ s' hd hI=>?_,fun ρ' s' hI=>?_⟩))
 ·obtain⟨ok2,L,o3,o4,hL,hp,hc,rfl⟩:=hI
  obtain⟨hi,rfl⟩:=JT hd;refine⟨_,rfl,?_⟩;refine Ok.seq (.sfor (λj ρ s'=>YO s'/\∃(L:Qa) (o4:Option D),L.length<=i*q+j/\(∀p∈L,p.1<p.2/\p.2<n/\p.2<1+(i+1))/\(∀c,c≠1+i->(L.filter λp=>p.2==c).length<=q)/\(L.filter λp=>p.2==1+i).length<=j/\ρ=[some .pen,some (nD n),some (.lst (L.map Zr)),some (nD (1+i)),o4]) (.eq (X4 (n:=q) rfl (by omega)) ⟨⟨ok2,L,o4,by omega,λp h=>⟨(hp p h).1,(hp p h).2.1,by have:=(hp p h).2.2;omega⟩,λc _=>hc c,?_,rfl⟩,λj d ρ s' hd hI=>?_,fun ρ' s' hI=>?_⟩))
  ·rw[qcr.mpr λp h=>by have:=(hp p h).2.2;simp;omega];simp
  ·obtain⟨ok3,L,o4,hL,hp,hc,hcj,rfl⟩:=hI
   obtain⟨hj,rfl⟩:=Us hd;refine⟨_,rfl,?_⟩;have hiq:i*q<=24*4:=qat (by omega) hq;refine Ok.seq (.sapp (ds:=L.map Zr) rfl (by rw[qd,Yv];omega) (.tup (.cons (.draw (m:=1+i) ok3 (Zh rfl (Zh rfl rfl)) (by omega) (by omega) λa s4 ha ok4=>.cons (.eq (a:=nD (1+i)) rfl (.nil ⟨two_le,.next ⟨_,rfl,ok4,L ++ [(a,1+i)],some (.int (j:Int)),by rw[qE];simp;omega,λp h=>?_,λc hcc=>?_,?_,?_⟩⟩))))))
   ·rcases qM.mp h with z | z
    ·exact hp p z
    ·rw[qJ.mp z];simp only;omega
   ·rw[qa8,(qcr (l:=[(a,1+i)])).mpr (by simp;omega),zr];exact hc c hcc
   ·rw[qa8,qE]
    have:=yu (λp:Nat×Nat=>p.2==1+i) [(a,1+i)];simp only[qbu]at this;omega
   ·rw[zx];rfl
  ·obtain⟨ok3,L,o4,hL,hp,hc,hcj,rfl⟩:=hI
   rw[XH]at hL hcj;refine .next ⟨_,rfl,ok3,L,_,_,by rw[qc2];omega,hp,λc=>?_,rfl⟩;by_cases e:c=1+i
   ·rw[e];exact hcj
   ·exact hc c e
 ·obtain⟨ok2,L,o3,o4,hL,hp,hc,rfl⟩:=hI
  rw[XH]at hL;have hnq:(n-1)*q<=23*4:=qat (by omega) hq;have hw:Z8 n ((YF n).filter λp=>decide (p∈L)):=Z8.filter _;have hmem:∀p,p∈L↔p∈(YF n).filter λp=>decide (p∈L):=λp=>by
   rw[qN,Uw,decide_eq_true_eq];exact⟨λh=>⟨⟨(hp p h).1,(hp p h).2.1⟩,h⟩,λh=>h.2⟩
  have hss:JX (Za 2) [some .pen,some (nD n),some (.lst (L.map Zr)),o3,o4] s'=some (.lst (((YF n).filter λp=>decide (p∈L)).map Zr),s'):=by
   unfold JX Zo;show Jv (L.map Zr) s'=_;exact Zi9 hw hmem (by omega) s'
  refine Ok.seq (.sret (.eq (a:=Zz n ((YF n).filter λp=>decide (p∈L))) (V3 rfl (Ym (Zh hss rfl) rfl)) ⟨ok2,n,_,rfl,hn,hw,?_⟩));have h1:=ZkZ (t:=(YF n).filter λp=>decide (p∈L)) (q:=q) (λi=>by
   have h2:=ZbO (a:=((qk i).filter λa=>decide ((a,i)∈(YF n).filter λp=>decide (p∈L))).map λa=>(a,i)) (b:=L.filter λp=>p.2==i) (ze.mpr ((zY.sublist zm).imp λh e=>h (congrArg qc3 e))) λp h=>by
    obtain⟨a,ha,rfl⟩:=qp.mp h;exact qN.mpr ⟨(hmem _).mpr (of_decide_eq_true (qN.mp ha).2),by simp⟩
   rw[qd]at h2;exact zb h2 (hc i)) n
  have h3:n*2 ^ q<=24*2 ^ 4:=qat hn (qbB (by omega) hq);omega
theorem Zmk (W:List Nat):BD [Zl W]=some (nD W.sum):=by
 show(ZL (W.map nD)).map (λns=>D.int ns.sum)=_;rw[ZbP];show some (D.int (Yn W).sum)=_;rw[Zdh]
theorem Zhe {n:Nat}{jD:Qa}{W:List Nat}(hw:Z8 n jD)(hn:n<=24)(hk:(kn jD n).length<=1000000)(hW:W.length=n)(hb:∀x∈W,x<=4294967296)(s:Pn):Vx [Zz n jD,Zl W] s=some (nD (((kn jD n).map (wt W)).foldl max 0),s):=by
 have hl:=hw.len (show n<=24 by omega);refine jr (Ok.runB rfl (Ok.seq (.sset (.eq (a:=.int 0) rfl ?_))));refine Ok.seq (.sfor (λi ρ s'=>s'=s/\∃o3,ρ=[some (Zz n jD),some (Zl W),some (nD ((((kn jD n).take i).map (wt W)).foldl max 0)),o3]) (.eq (a:=(kn jD n).map Zl) (s':=s) (WM (YA (Zh rfl rfl) (ZeL n jD (by omega) (by omega) (by omega) s))) ⟨⟨rfl,none,by rw[qbd];rfl⟩,λi d ρ s' hd hI=>?_,fun ρ' s' hI=>?_⟩))
 ·obtain⟨rfl,o3,rfl⟩:=hI
  rw[qI]at hd;obtain⟨K,hK,rfl⟩:=ym.mp hd;have hKm:=zt hK;obtain⟨k1,k2,k3⟩:=Vm.mp hKm;have hkl:=(V5 hKm).2;refine⟨_,rfl,?_⟩;have hc:=Xm (src:=[none,some 1]) (fi:=XB (Za 3)) (τ:=Zv 0) (ft:=Z1) (fe:=Ze Zq (Za 1) (Za 0)) (ρ:=[some (Zz n jD),some (Zl W),some (nD ((((kn jD n).take i).map (wt W)).foldl max 0)),some (Zl K)]) (s:=s') (ds:=K.map nD) (λd=>[some d,some (Zl W)]) (λ_=>true) (λd=>nD (W.getD (ZS d) 0)) (Uy rfl) (by rw[qd,Yv];omega) (λd hd=>by
   obtain⟨x,hx,rfl⟩:=qp.mp hd;exact⟨rfl,rfl,λ_=>Zw (d:=Zl W) (e:=nD x) rfl rfl (Zcz (by rw[hW];exact k2 x hx))⟩)
  rw[We,qC]at hc;have e:K.map ((λd=>nD (W.getD (ZS d) 0))∘nD)=(K.map λp=>W.getD p 0).map nD:=by rw[qC];rfl
  rw[e]at hc;have hsum:=ZcB (K.map λp=>W.getD p 0) λx hx=>by
   obtain⟨p,hpp,rfl⟩:=qp.mp hx;refine hb _ ?_;rw[qz,qw (by rw[hW];exact k2 p hpp)];exact y4 _
  refine Ok.seq (.sset (.eq (a:=nD (max ((((kn jD n).take i).map (wt W)).foldl max 0) (wt W K))) (Ym (Zh rfl (Zh (Ym (Zh hc rfl) hsum) rfl)) (maxN _ _)) (.next ⟨_,rfl,rfl,some (Zl K),?_⟩)));have et:(kn jD n).take (i+1)=(kn jD n).take i ++ [K]:=by rw[qbI,hK];rfl
  rw[et,zx,qbV];rfl
 ·obtain⟨rfl,o3,rfl⟩:=hI
  rw[qd,yy];exact Ok.seq (.sret (.eq rfl ⟨rfl,rfl⟩))
theorem Zec:∀(l:List Nat) (a:Nat),a<=l.foldl max a/\(∀x∈l,x<=l.foldl max a)/\(l.foldl max a=a∨l.foldl max a∈l)
 | [],a=>⟨qq _,λx h=>(by cases h),.inl rfl⟩
 | b::l,a=>by
  obtain⟨h1,h2,h3⟩:=Zec l (max a b);refine⟨by show a<=l.foldl max (max a b);omega,λx hx=>?_,?_⟩
  ·show x<=l.foldl max (max a b)
   rcases qu.mp hx with e | hx
   ·subst e;omega
   ·exact h2 x hx
  ·show l.foldl max (max a b)=a∨l.foldl max (max a b)∈b::l
   rcases h3 with h3 | h3
   ·rw[h3]
    rcases Nat.le_total a b with z | z
    ·rw[qb5 z];exact .inr (by simp)
    ·rw[Nat.max_eq_left z];exact .inl rfl
   ·exact .inr (by simp[h3])
theorem Zhf {n:Nat}{jD:Qa}{W:List Nat}(hw:Z8 n jD)(hn:n<=24):((kn jD n).map (wt W)).foldl max 0=wt W (Xz n jD W):=by
 obtain⟨h1,h2⟩:=UX (W:=W) hw hn;obtain⟨a1,a2,a3⟩:=Zec ((kn jD n).map (wt W)) 0;refine Nat.le_antisymm ?_ (a2 _ (qp.mpr ⟨_,h1,rfl⟩));rcases a3 with a3 | a3
 ·rw[a3];exact zB _
 ·obtain⟨K,hK,e⟩:=qp.mp a3
  rw[<-e];exact h2 K hK
theorem ZaU {n:Nat}{jD:Qa}(hn:n<=24){s:Pn}(ok:YO s):Ok (Vl [.pen,Zz n jD]) s λd s'=>YO s'/\∃W:List Nat,d=Zl W/\W.length=n/\∀x∈W,x<=1000:=by
 refine Ok.runB rfl ?_;refine Ok.seq (.sset (.draw (m:=3) ok (Zh rfl (Zh rfl rfl)) (by omega) (by omega) λYT s1 hw ok1=>?_));refine Ok.seq (.sown (.eq (a:=.lst []) rfl ⟨rfl,?_⟩));refine Ok.seq (.sfor (λi ρ s'=>YO s'/\i<=n/\∃(W:List Nat) (o4:Option D),W.length=i/\(∀x∈W,x<=1000)/\ρ=[some .pen,some (Zz n jD),some (nD YT),some (.lst (W.map nD)),o4]) (.eq (X4 (Zw (d:=Zz n jD) (e:=.int 0) rfl rfl VT) (by omega)) ⟨⟨ok1,zB _,[],none,rfl,λx h=>(by cases h),rfl⟩,λi d ρ s' hd hI=>?_,fun ρ' s' hI=>?_⟩))
 ·obtain⟨ok2,_,W,o4,hl,hb,rfl⟩:=hI
  obtain⟨hi,rfl⟩:=Us hd;refine⟨_,rfl,?_⟩;refine Ok.seq (.sapp (ds:=W.map nD) rfl (by rw[qd,Yv];omega) (.op (.lst (.cons (.draw (m:=5) ok2 (Zh rfl (Zh rfl rfl)) (by omega) (by omega) λa s3 ha ok3=>.cons (.draw (m:=1001) ok3 (Zh rfl (Zh rfl rfl)) (by omega) (by omega) λb s4 hb4 ok4=>.cons (.eq (a:=.int 1) rfl (.nil ⟨by show 3<=xg;decide,.eq (a:=nD YT) rfl ?_⟩))))))));have fin:∀c:Nat,c<=1000->Zq (.lst [nD a,nD b,.int 1]) (nD YT)=some (nD c)->∃c',Zq (.lst [nD a,nD b,.int 1]) (nD YT)=some c'/\Ok (Zm ([some .pen,some (Zz n jD),some (nD YT),some (.lst (W.map nD)),some (.int (i:Int))].set 3 (some (.lst (W.map nD ++ [c']))))) s4 λo s'=>∃ρ',o=.nx ρ'/\YO s'/\i+1<=n/\∃(W:List Nat) (o4:Option D),W.length=i+1/\(∀x∈W,x<=1000)/\ρ'=[some .pen,some (Zz n jD),some (nD YT),some (.lst (W.map nD)),o4]:=λc hc e=>⟨_,e,.next ⟨_,rfl,ok4,by omega,W ++ [c],some (.int (i:Int)),by simp[hl],λx hx=>by
   rcases qM.mp hx with h | h
   ·exact hb x h
   ·rw[qJ.mp h];exact hc,by rw[zx];rfl⟩⟩
  have hix:Zq (.lst [nD a,nD b,.int 1]) (nD YT)=some (nD (if YT=0 then a else if YT=1 then b else 1)):=by
   refine W0 ?_;rcases (show YT=0∨YT=1∨YT=2 by omega)with e | e | e <;> subst e <;> rfl
  exact fin _ (by split;omega;split <;> omega) hix
 ·obtain⟨ok2,_,W,o4,hl,hb,rfl⟩:=hI
  rw[XH]at hl;exact Ok.seq (.sret (.eq (a:=Zl W) (Ym (Zh rfl rfl) rfl) ⟨ok2,W,rfl,hl,hb⟩))
noncomputable def hv (n:Nat)(jD:Qa)(W:List Nat):Nat:=wt W (Xz n jD W)
section
variable {n:Nat}{jD:Qa}
theorem Zox (hw:Z8 n jD)(hn:n<=24){W K:List Nat}(hK:K∈kn jD n):wt W K<=hv n jD W:=(UX hw hn).2 K hK
theorem ZmH (hw:Z8 n jD)(hn:n<=24)(W:List Nat):∃K∈kn jD n,wt W K=hv n jD W:=⟨_,(UX hw hn).1,rfl⟩
theorem Zoy (hw:Z8 n jD)(hn:n<=24){W:List Nat}{b:Nat}(h:∀K∈kn jD n,wt W K<=b):hv n jD W<=b:=h _ (UX hw hn).1
end
theorem ZhS {W K L:List Nat}(h:K.Perm L):wt W K=wt W L:=by
 unfold wt;exact(h.map _).sum_nat
theorem Zja {n:Nat}{t:Qa}{K:List Nat}(h:UF n t K):VN n K∈kn t n/\(VN n K).Perm K:=by
 have pm:=B6 h.1 h.2.1;exact⟨Vm.mpr ⟨ZaH n K,λo ho=>h.2.1 o (pm.mem_iff.mp ho),λa ha b hb=>h.2.2 a (pm.mem_iff.mp ha) b (pm.mem_iff.mp hb)⟩,pm⟩
theorem Ze2 {n:Nat}{t:Qa}(hw:Z8 n t)(hn:n<=24){W K:List Nat}(h:UF n t K):wt W K<=hv n t W:=by
 obtain⟨h1,h2⟩:=Zja h;rw[<-ZhS h2];exact Zox hw hn h1
theorem Ze3 {n:Nat}{t:Qa}{K:List Nat}(h:K∈kn t n):UF n t K:=by
 obtain⟨h1,h2,h3⟩:=Vm.mp h;exact⟨Zba h1,h2,h3⟩
theorem Zk2 {n m:Nat}{t:Qa}(hw:Z8 n t)(hn:n<=24){W:List Nat}(up:∀K,UF n t K->wt W K<=m){K:List Nat}(hk:UF n t K)(hl:wt W K=m):hv n t W=m:=
 Nat.le_antisymm (Zoy hw hn λK hK=>up K (Ze3 hK)) (hl▸Ze2 hw hn hk)
theorem Zed (W K L:List Nat):wt W (K++L)=wt W K+wt W L:=by unfold wt;rw[zx,List.sum_append]
structure Join (n m:Nat)(t1 t2 t:Qa):Prop where
 w1:Z8 n t1
 w2:Z8 m t2
 w:Z8 (n+m) t
 a:∀x y,x<n->y<n->tied t x y=tied t1 x y
 b:∀x y,x<m->y<m->tied t (n+x) (n+y)=tied t2 x y
 c:∀x y,x<n->y<m->tied t x (n+y)=true
theorem Zjb {W1 W2:List Nat}{x:Nat}(h:x<W1.length):(W1++W2).getD x 0=W1.getD x 0:=by
 rw[qz,zC h,qz]
theorem Zhg {W1 W2:List Nat}(x:Nat):(W1++W2).getD (W1.length+x) 0=W2.getD x 0:=by
 rw[qz,zU (by omega),qz,qch]
theorem ZhT {W1 W2:List Nat}:∀{K:List Nat},(∀x∈K,x<W1.length)->wt (W1++W2) K=wt W1 K:=λ{K} h=>by
 unfold wt;congr 1;exact zl λx hx=>Zjb (h x hx)
theorem Zga {W1 W2 K:List Nat}:wt (W1++W2) (K.map (W1.length + ·))=wt W2 K:=by
 unfold wt;rw[qC];congr 1;exact zl λx _=>Zhg x
theorem Zml {n m:Nat}{t1 t2 t:Qa}(J:Join n m t1 t2 t)(hn:n+m<=24){W1 W2:List Nat}(h1:W1.length=n)(h2:W2.length=m):hv (n+m) t (W1++W2)=hv n t1 W1+hv m t2 W2:=by
 obtain⟨K1,k1,e1⟩:=ZmH J.w1 (show n<=24 by omega) W1;obtain⟨K2,k2,e2⟩:=ZmH J.w2 (show m<=24 by omega) W2;have c1:=Ze3 k1;have c2:=Ze3 k2;refine Zk2 J.w hn (λK hK=>?_) (K:=K1++K2.map (n + ·)) ⟨?_,λx hx=>?_,λa ha b hb hab=>?_⟩ ?_
 ·-- the knot parted
  have hp:(K.filter (λx=>decide (x<n))++K.filter (λx=>!decide (x<n))).Perm K:=List.filter_append_perm _ _;rw[<-ZhS hp,Zed];have hA:UF n t1 (K.filter λx=>decide (x<n)):=⟨hK.1.sublist zm,λx hx=>of_decide_eq_true (qN.mp hx).2,λa ha b hb hab=>by
   have ha':=qN.mp ha;have hb':=qN.mp hb;rw[<-J.a a b (of_decide_eq_true ha'.2) (of_decide_eq_true hb'.2)];exact hK.2.2 a ha'.1 b hb'.1 hab⟩
  have hge:∀x∈K.filter (λx=>!decide (x<n)),n<=x/\x∈K:=λx hx=>by
   have:=qN.mp hx;simp only[yF,decide_eq_false_iff_not]at this;exact⟨by omega,this.1⟩
  have hmap:((K.filter λx=>!decide (x<n)).map (· - n)).map (n + ·)=K.filter λx=>!decide (x<n):=by
   rw[qC]
   conv=>rhs;rw[<-qcq (K.filter λx=>!decide (x<n))]
   refine zl λx hx=>?_;have:=(hge x hx).1;show n+(x-n)=x;omega
  have hB:UF m t2 ((K.filter λx=>!decide (x<n)).map (· - n)):=⟨ze.mpr (yA (λ{a b} ha hb hab e=>hab (by have:=(hge a ha).1;have:=(hge b hb).1;omega)) (hK.1.sublist zm)),λy hy=>by
   obtain⟨x,hx,rfl⟩:=qp.mp hy;have q:=hge x hx;have:=hK.2.1 x q.2;omega,λa ha b hb hab=>by
   obtain⟨x,hx,rfl⟩:=qp.mp ha;obtain⟨y,hy,rfl⟩:=qp.mp hb;have q1:=hge x hx;have q2:=hge y hy;have l1:=hK.2.1 x q1.2;have l2:=hK.2.1 y q2.2;rw[<-J.b (x-n) (y-n) (by omega) (by omega),show n+(x-n)=x by omega,show n+(y-n)=y by omega];exact hK.2.2 x q1.2 y q2.2 λz=>hab (by rw[z])⟩
  refine Nat.add_le_add ?_ ?_
  ·rw[ZhT λx hx=>by rw[h1];exact hA.2.1 x hx]
   exact Ze2 J.w1 (by omega) hA
  ·rw[<-hmap,<-h1,Zga]
   exact Ze2 J.w2 (by omega) (h1▸hB)
 ·refine yV.mpr ⟨c1.1,ze.mpr (c2.1.imp λh e=>h (by omega)),λa ha b hb e=>?_⟩
  obtain⟨y,_,rfl⟩:=qp.mp hb;have:=c1.2.1 a ha;omega
 ·rcases qM.mp hx with z | z
  ·have:=c1.2.1 x z;omega
  ·obtain⟨y,hy,rfl⟩:=qp.mp z
   have:=c2.2.1 y hy;omega
 ·rcases qM.mp ha with z | z <;> rcases qM.mp hb with y | y
  ·rw[J.a a b (c1.2.1 a z) (c1.2.1 b y)];exact c1.2.2 a z b y hab
  ·obtain⟨v,hv,rfl⟩:=qp.mp y
   exact J.c a v (c1.2.1 a z) (c2.2.1 v hv)
  ·obtain⟨v,hv,rfl⟩:=qp.mp z
   rw[ZaQ];exact J.c b v (c1.2.1 b y) (c2.2.1 v hv)
  ·obtain⟨u,hu,rfl⟩:=qp.mp z
   obtain⟨v,hv,rfl⟩:=qp.mp y;rw[J.b u v (c2.2.1 u hu) (c2.2.1 v hv)];exact c2.2.2 u hu v hv λe=>hab (by rw[e])
 ·rw[Zed,ZhT λx hx=>by rw[h1];exact c1.2.1 x hx,<-h1,Zga,e1,e2,h1]
theorem Zds {f:Nat->Nat}:∀{K L:List Nat},K.Nodup->(∀x∈K,x∈L)->(K.map f).sum<=(L.map f).sum
 | [],L,_,_=>zB _
 | x::K,L,nd,h=>by
  have nd':=zH.mp nd;have hx:=h x (by simp);have ih:=Zds (f:=f) (K:=K) (L:=L.erase x) nd'.2 λy hy=>(qaT λ(z:y=x)=>nd'.1 (z▸hy)).mpr (h y (by simp[hy]));have e:=((List.perm_cons_erase hx).map f).sum_nat;rw[qX,qam]at e⊢;omega
theorem ZhU {f g:Nat->Nat}:∀{K:List Nat},(∀x∈K,f x<=g x)->(K.map f).sum<=(K.map g).sum
 | [],_=>qq _
 | x::K,h=>by
  rw[qX,qam,qX,qam];have:=h x (by simp);have:=ZhU (f:=f) (g:=g) (K:=K) λy hy=>h y (by simp[hy]);omega
noncomputable def dueG (n m:Nat)(g:Nat->Nat)(w:Bool)(W:List Nat):Nat:=
 if w then Y1 ((qk m).map λj=>((Yh n g j).map λx=>W.getD x 0).sum)else ((qk m).map λj=>Y1 ((Yh n g j).map λx=>W.getD x 0)).sum
theorem Zmm {n m:Nat}{g:Nat->Nat}{w:Bool}(hn:n<=24)(lt:∀x<n,g x<m)(ne:∀j<m,∃x<n,g x=j)(hm:0<m)(W:List Nat):hv n (XS n g w) W=dueG n m g w W:=by
 have hw:=Ze1 n g w;unfold dueG
 cases w with
 | true=>
  rw[if_pos rfl];have hne:(qk m).map (λj=>((Yh n g j).map λx=>W.getD x 0).sum)≠[]:=λz=>by
   have:=congrArg qbk z;rw[qd,qQ]at this;simp at this;omega
  obtain⟨j,hj,e⟩:=qp.mp (Jl hne);refine Zk2 hw hn (λK hK=>?_) (K:=Yh n g j) ⟨Zi8 n g j,λx hx=>(VI.mp hx).1,λa ha b hb hab=>?_⟩ e
  ·cases K with
   | nil=>exact zB _
   | cons x r=>
    have hx:=hK.2.1 x (by simp);have e:∀y∈x::r,y∈Yh n g (g x):=λy hy=>VI.mpr ⟨hK.2.1 y hy,by
     by_cases e:y=x
     ·rw[e]
     ·have:=(ZbA.mp (hK.2.2 y hy x (by simp) e)).2.2.2
      simpa using this⟩
    exact zb (Zds hK.1 e) (ZgU (qp.mpr ⟨g x,qG.mpr (lt x hx),rfl⟩))
  ·have ha:=VI.mp ha
   have hb:=VI.mp hb;exact ZbA.mpr ⟨hab,ha.1,hb.1,by rw[ha.2,hb.2];simp⟩
 | false=>
  rw[if_neg (by decide)];have pick:∀j<m,∃x,x<n/\g x=j/\W.getD x 0=Y1 ((Yh n g j).map λx=>W.getD x 0):=λj hj=>by
   obtain⟨x,hx,ex⟩:=ne j hj;have hne:(Yh n g j).map (λx=>W.getD x 0)≠[]:=λz=>by
    have:x∈Yh n g j:=VI.mpr ⟨hx,ex⟩;rw[qcQ.mp z]at this
    cases this
   obtain⟨y,hy,e⟩:=qp.mp (Jl hne);obtain⟨h1,h2⟩:=VI.mp hy;exact⟨y,h1,h2,e⟩
  obtain⟨f,hf⟩:∃f:Nat->Nat,∀j<m,f j<n/\g (f j)=j/\W.getD (f j) 0=Y1 ((Yh n g j).map λx=>W.getD x 0):=
   ⟨λj=>if h:j<m then (pick j h).choose else 0,λj hj=>by simp only[hj,dif_pos];exact(pick j hj).choose_spec⟩
  refine Zk2 hw hn (λK hK=>?_) (K:=(qk m).map f) ⟨?_,λx hx=>?_,λa ha b hb hab=>?_⟩ ?_
  ·have h1:wt W K<=(K.map λx=>Y1 ((Yh n g (g x)).map λx=>W.getD x 0)).sum:=ZhU λx hx=>ZgU (qp.mpr ⟨x,VI.mpr ⟨hK.2.1 x hx,rfl⟩,rfl⟩)
   have h2:=Zds (f:=λj=>Y1 ((Yh n g j).map λx=>W.getD x 0)) (K:=K.map g) (L:=qk m) (ze.mpr (yA (λ{a b} ha hb hab e=>by
    have:=(ZbA.mp (hK.2.2 a ha b hb hab)).2.2.2;rw[e]at this;simp at this) hK.1)) λy hy=>by
     obtain⟨x,hx,rfl⟩:=qp.mp hy;exact qG.mpr (lt x (hK.2.1 x hx))
   rw[qC]at h2;exact zb h1 h2
  ·refine ze.mpr (yA (λ{a b} ha hb hab e=>hab ?_) zY)
   have h1:=(hf a (qG.mp ha)).2.1;have h2:=(hf b (qG.mp hb)).2.1;rw[<-h1,e,h2]
  ·obtain⟨j,hj,rfl⟩:=qp.mp hx
   exact(hf j (qG.mp hj)).1
  ·obtain⟨i,hi,rfl⟩:=qp.mp ha
   obtain⟨j,hj,rfl⟩:=qp.mp hb;have h1:=hf i (qG.mp hi);have h2:=hf j (qG.mp hj);refine ZbA.mpr ⟨hab,h1.1,h2.1,?_⟩;rw[h1.2.1,h2.2.1];simp only[beq_eq_false_iff_ne];exact λz=>hab (by rw[z])
  ·unfold wt
   rw[qC];congr 1;exact zl λj hj=>(hf j (qG.mp hj)).2.2
theorem Zmn {R:Option D->Option D->List D->Zb}{ia ib:Nat}{fe:Zb->M (List D)}{T:Zb->M Bool}{A:Zb->M Out}{p:Nat×Nat->Bool}{n N:Nat}{s:Pn}
  (ha:∀d oa ob acc,Zv ia d (R oa ob acc)=some (R (some d) ob acc)) (hb:∀d oa ob acc,Zv ib d (R oa ob acc)=some (R oa (some d) acc))
  (hf:∀a ob acc,a<n->fe (R (some (nD a)) ob acc) s=some (ZY ((a+1:Nat):Int) (n-(a+1)),s)) (hT:∀a b acc,a<b->b<n->T (R (some (nD a)) (some (nD b)) acc) s=some (p (a,b),s))
  (hA:∀a b acc,acc.length<N->A (R (some (nD a)) (some (nD b)) acc) s=some (.nx (R (some (nD a)) (some (nD b)) (acc ++ [Zr (a,b)])),s)) (oa ob:Option D) (acc:List D) (hl:acc.length+((YF n).filter p).length<=N) :
  ∃j:Option D×Option D,XO (Zv ia) (Zg (YL fe (Zv ib) (Zg (Yl T A Zm) Zm)) Zm) (ZY 0 n) (R oa ob acc) s=some (.nx (R j.1 j.2 (acc++((YF n).filter p).map Zr)),s):=by
 let f:Nat->Qa:=λa=>((qk (n-(a+1))).map λk=>(a,a+1+k)).filter p
 have eT:(qk n).flatMap f=(YF n).filter p:=by
  unfold YF Xe;rw[qcR]
 rw[VE,<-eT,<-ZmG];refine ZbB (J:=Option D×Option D) (R:=λj acc=>R j.1 j.2 acc) (N:=N) (λd=>(f (ZS d)).map Zr) ((qk n).map nD) (oa,ob) acc (by rw[ZmG,qd,eT];exact hl) λd hd j acc hacc=>?_;obtain⟨a,ha',rfl⟩:=qp.mp hd;have ha':=qG.mp ha';rw[qd]at hacc
 let h:Nat->Qa:=λk=>[(a,a+1+k)].filter p
 have eh:(qk (n-(a+1))).flatMap h=f a:=by
  show _=((qk (n-(a+1))).map λk=>(a,a+1+k)).filter _;rw[<-List.flatMap_singleton' (l:=(qk (n-(a+1))).map λk=>(a,a+1+k)),qcR,qbs]
 have ed:∀k:Nat,D.int (((a+1:Nat):Int)+(k:Int))=nD (a+1+k):=λk=>by
  show D.int _=D.int _;congr 1
 have en:∀k:Nat,ZS (nD (a+1+k))-(a+1)=k:=λk=>by show(((a+1+k:Nat):Int)).toNat-(a+1)=k;omega
 have e2:(ZY ((a+1:Nat):Int) (n-(a+1))).flatMap (λd=>(h (ZS d-(a+1))).map Zr)=(f a).map Zr:=by
  unfold ZY;rw[qbs,<-eh,qb8];congr 1;funext k;rw[ed,en]
 obtain⟨j',e'⟩:=ZbB (J:=Option D) (τ:=Zv ib) (body:=(Zg (Yl T A Zm) Zm)) (R:=λj acc=>R (some (nD a)) j acc) (s:=s) (N:=N) (λd=>(h (ZS d-(a+1))).map Zr) (ZY ((a+1:Nat):Int) (n-(a+1))) j.2 acc (by rw[e2,qd];exact hacc) λd hd j acc hacc=>by
  obtain⟨k,hk,rfl⟩:=qp.mp hd;have hk:=qG.mp hk;rw[ed,en]at hacc;rw[ed,en];refine⟨_,hb _ _ _ _,some (nD (a+1+k)),?_⟩;have ht:=hT a (a+1+k) acc (by omega) (by omega)
  cases hp:p (a,a+1+k)with
  | true=>
   rw[hp]at ht;have:h k=[(a,a+1+k)]:=by show [(a,a+1+k)].filter p=_;rw[qbg hp];rfl
   rw[this]at hacc⊢;exact XI (Zj3 ht (hA a _ acc (by simp at hacc;omega))) rfl
  | false=>
   rw[hp]at ht;have:h k=[]:=by show [(a,a+1+k)].filter p=[];rw[qaB (by simp[hp])];rfl
   rw[this,qby,zr];exact XI (Zj4 ht rfl) rfl
 rw[e2]at e';exact⟨_,ha _ _ _ _,(some (nD a),j'),XI (Bd (hf a j.2 acc ha') e') rfl⟩
end TQ
namespace K40
open L2 TF TQ TS
open TP
open TP2
open TP3
theorem ZmI:∀m,Ul m=UN WG m
 | 0=>rfl
 | m+1=>by
  show runB 9 3 (Zab (Ul m))=runB 9 3 (gHAW WG (UN WG m));rw[ZmI m];rfl
theorem Zoz:UW=runB 3 2 (gHKW WG):=by
 unfold UW ZaA;rw[ZmI];rfl
theorem Zgb {n:Nat}{jD:Qa}{W:List Nat}(hw:Z8 n jD)(hn:n<=24)(hW:W.length=n)(hb:∀x∈W,x<=4294967296)(s:Pn):Zaz [Zz n jD,Zl W] s=some (.tup [nD (hv n jD W),Zl (Xz n jD W)],s):=by
 have hl:=hw.len hn;have hm:=(UX (W:=W) hw hn).1;obtain⟨k1,k2,k3⟩:=Vm.mp hm;have hk:UW [Zz n jD,Zl W] s=some (Zl (Xz n jD W),s):=by
  rw[Zoz];exact Zi1 (Fw:=WG) n jD W hn (by omega) hW s λps hp hpl=>Zb4 hW hb hp hpl (.inl rfl) s
 exact Ws rfl (XI (W4 (YA (Zh rfl (Zh rfl rfl)) hk)) (XX (Wt (XY (ds:=[nD (hv n jD W),Zl (Xz n jD W)]) (Zh (YA (Zh rfl (Zh rfl rfl)) (Zb4 hW hb k2 (by have:=Zg1 (n:=n) (jD:=jD) (W:=W);omega) (.inr rfl) s)) (Zh rfl rfl)) two_le))))
theorem Wm (a:Nat):XQ (nD a) (nD a)=some (.bl false):=by rw[ZeJ];simp
theorem ZbC {n:Nat}{jD:Qa}{W:List Nat}(hw:Z8 n jD)(hn:n<=24)(hW:W.length=n)(hb:∀x∈W,x<=4294967296)(s:Pn):VY [Zz n jD,Zl W,nD (hv n jD W)] s=some (.bl true,s):=by
 have hKm:=(UX (W:=W) hw hn).1;obtain⟨k1,k2,k3⟩:=Vm.mp hKm;have hkl:=(V5 hKm).2;have e0:Zq (.tup [nD (hv n jD W),Zl (Xz n jD W)]) (.int 0)=some (nD (hv n jD W)):=Zhu _ _;have e1:Zq (.tup [nD (hv n jD W),Zl (Xz n jD W)]) (.int 1)=some (Zl (Xz n jD W)):=Js _ _ _;refine jr (Ok.runB rfl ?_);refine Ok.seq (.sfor (λi ρ s'=>s'=s/\∃o3 o4,ρ=[some (Zz n jD),some (Zl W),some (nD (hv n jD W)),o3,o4]) (.eq (X4 (n:=2) rfl (by omega)) ⟨⟨rfl,none,none,rfl⟩,λi d ρ s' hd hI=>?_,fun ρ' s' hI=>?_⟩))
 ·obtain⟨rfl,o3,o4,rfl⟩:=hI
  obtain⟨hi,rfl⟩:=Us hd;refine⟨_,rfl,?_⟩;refine Ok.seq (.sset (.eq (YA (Zh rfl (Zh rfl rfl)) (Zgb hw hn hW hb s')) ?_));refine Ok.seq (.sif (.eq (a:=false) (Ju (VD (b:=true) (Yw (Ym (Zh rfl (Zh rfl rfl)) rfl))) (Ju (Yw (Zw (d:=nD 2) (e:=nD 2) (Ym (Zh rfl rfl) rfl) rfl (Wm 2))) (Yw (Ym (c:=.bl false) (Zh (Zw (e:=.int 0) rfl rfl e0) (Zh rfl rfl)) rfl)))) (.next ?_)));refine Ok.seq (.sif (.eq (a:=false) (Ju (Yw (Zw (Zw (e:=.int 0) rfl rfl e0) rfl (Wm _))) (VD (b:=true) (Yw (YA (Zh rfl (Zh (Zw (e:=.int 1) rfl rfl e1) rfl)) (Zcg (by omega) hKm s'))))) (.next ?_)));have hc:=Xm (src:=[none,some 1]) (fi:=XB (Ze Zq (Za 4) (dC (.int 1)))) (τ:=Zv 0) (ft:=Z1) (fe:=Ze Zq (Za 1) (Za 0)) (ρ:=[some (Zz n jD),some (Zl W),some (nD (hv n jD W)),some (nD i),some (.tup [nD (hv n jD W),Zl (Xz n jD W)])]) (s:=s') (ds:=(Xz n jD W).map nD) (λd=>[some d,some (Zl W)]) (λ_=>true) (λd=>nD (W.getD (ZS d) 0)) (Uy (Zw (e:=.int 1) rfl rfl e1)) (by rw[qd,Yv];omega) (λd hd=>by
   obtain⟨x,hx,rfl⟩:=qp.mp hd;exact⟨rfl,rfl,λ_=>Zw (d:=Zl W) (e:=nD x) rfl rfl (Zcz (by rw[hW];exact k2 x hx))⟩)
  rw[We,qC]at hc;have e:(Xz n jD W).map ((λd=>nD (W.getD (ZS d) 0))∘nD)=((Xz n jD W).map λp=>W.getD p 0).map nD:=by rw[qC];rfl
  rw[e]at hc;have hsum:=ZcB ((Xz n jD W).map λp=>W.getD p 0) λx hx=>by
   obtain⟨p,hpp,rfl⟩:=qp.mp hx;refine hb _ ?_;rw[qz,qw (by rw[hW];exact k2 p hpp)];exact y4 _
  exact Ok.seq (.sif (.eq (a:=false) (Yw (Zw (Ym (Zh hc rfl) hsum) rfl (Wm _))) (.next (.next ⟨_,rfl,rfl,_,_,rfl⟩))))
 ·obtain⟨rfl,o3,o4,rfl⟩:=hI
  exact Ok.seq (.sret (.eq rfl ⟨rfl,rfl⟩))
theorem ZoA {s:Pn}(ok:YO s):Ok (JL [.pen]) s λd s'=>YO s'/\∃n jD,d=Zz n jD/\n<=24/\Z8 n jD/\(kn jD n).length<=1000:=Zk1 (q:=3) ok (by omega)
theorem Zk3 {n:Nat}{jD:Qa}{W:List Nat}(hw:Z8 n jD)(hn:n<=24)(hk:(kn jD n).length<=1000000)(hW:W.length=n)(hb:∀x∈W,x<=4294967296)(s:Pn):Vx [Zz n jD,Zl W] s=some (nD (hv n jD W),s):=by
 have:=Zhe hw hn hk hW hb s;rw[Zhf hw hn]at this;exact this
noncomputable def Xw (n:Nat)(L:Qa):Qa:=(YF n).filter λp=>decide (p∈L)
noncomputable def UV (n:Nat)(L:Qa):Prop:=L.Nodup/\∀p∈L,p.1<p.2/\p.2<n
theorem ZhV {n:Nat}{L:Qa}(h:UV n L){p:Nat×Nat}:p∈Xw n L↔p∈L:=by
 unfold Xw;rw[qN,Uw,decide_eq_true_eq];exact⟨λz=>z.2,λz=>⟨h.2 p z,z⟩⟩
theorem Jb (n:Nat)(L:Qa):Z8 n (Xw n L):=Z8.filter _
theorem Zdt {n:Nat}{L:Qa}(h:UV n L):L.Perm (Xw n L):=(yi h.1 ((Za3 n).sublist zm)).mpr λp=>(ZhV h).symm
theorem ZbD {n:Nat}{L:Qa}(h:UV n L){x y:Nat}:tied (Xw n L) x y=true↔(min x y,max x y)∈L:=by rw[Zbq,ZhV h]
noncomputable def sh (n:Nat)(p:Nat×Nat):Nat×Nat:=(n+p.1,n+p.2)
noncomputable def Wn (n m:Nat):Qa:=(qk m).flatMap λj=>(qk n).map λa=>(a,n+j)
theorem Bh {n m:Nat}{p:Nat×Nat}:p∈Wn n m↔p.1<n/\n<=p.2/\p.2<n+m:=by
 unfold Wn;rw[qbr];constructor
 ·rintro⟨j,hj,hp⟩
  obtain⟨a,ha,rfl⟩:=qp.mp hp;have:=qG.mp hj;have:=qG.mp ha;simp only;omega
 ·rintro⟨h1,h2,h3⟩
  exact⟨p.2-n,qG.mpr (by omega),qp.mpr ⟨p.1,qG.mpr h1,by rw[show n+(p.2-n)=p.2 by omega]⟩⟩
theorem Zgc {n m:Nat}{L t:Qa}(h:UV n L)(hw:Z8 m t):UV (n+m) (L++t.map (sh n)++Wn n m):=by
 have v2:∀p∈t.map (sh n),n<=p.1/\p.1<p.2/\p.2<n+m:=λp hp=>by
  obtain⟨q,hq,rfl⟩:=qp.mp hp;have:=hw.mem hq;show n<=n+q.1/\n+q.1<n+q.2/\n+q.2<n+m;omega
 have d2:(t.map (sh n)).Nodup:=ze.mpr (((Za3 m).sublist hw).imp λ{a b} q e=>q (by
  have e:(n+a.1,n+a.2)=(n+b.1,n+b.2):=e;rw[Prod.mk.injEq]at e;exact qbp (by omega) (by omega)))
 have d3:(Wn n m).Nodup:=Zf9 (λp:Nat×Nat=>p.2-n) zY (λj _=>ze.mpr (zY.imp λ{a b} q (e:(a,n+j)=(b,n+j))=>q (congrArg qc3 e))) λj _ p hp=>by
  obtain⟨a,_,rfl⟩:=qp.mp hp;simp
 refine⟨yV.mpr ⟨yV.mpr ⟨h.1,d2,λa ha b hb e=>?_⟩,d3,λa ha b hb e=>?_⟩,λp hp=>?_⟩
 ·have:=h.2 a ha
  have:=v2 b hb;rw[<-e]at this;omega
 ·have hb:=Bh.mp hb
  rw[<-e]at hb;rcases qM.mp ha with z | z
  ·have:=h.2 a z;omega
  ·have:=v2 a z;omega
 ·rcases qM.mp hp with z | z
  ·rcases qM.mp z with z | z
   ·have:=h.2 p z;omega
   ·have:=v2 p z;omega
  ·have:=Bh.mp z;omega
theorem Zmo {n m:Nat}{L t:Qa}(h:UV n L)(hw:Z8 m t):Join n m (Xw n L) t (Xw (n+m) (L++t.map (sh n)++Wn n m)):=by
 have hv:=Zgc h hw;have mem:∀p:Nat×Nat,p∈L++t.map (sh n)++Wn n m↔p∈L∨(∃q∈t,sh n q=p)∨p∈Wn n m:=λp=>by
  rw[qM,qM,qp,or_assoc]
 refine⟨Jb n L,hw,Jb _ _,λx y hx hy=>?_,λx y hx hy=>?_,λx y hx hy=>?_⟩
 ·rw[qaG,ZbD hv,ZbD h,mem]
  refine⟨λz=>?_,.inl⟩;rcases z with z | ⟨q,_,e⟩ | z
  ·exact z
  ·have:=congrArg qc3 e
   unfold sh at this;simp only at this;omega
  ·have:=Bh.mp z
   simp only at this;omega
 ·rw[qaG,ZbD hv,Zbq,mem,show min (n+x) (n+y)=n+min x y by omega,show max (n+x) (n+y)=n+max x y by omega]
  constructor
  ·rintro(z | ⟨q,hq,e⟩ | z)
   ·have:=h.2 _ z
    simp only at this;omega
   ·have e1:=congrArg qc3 e
    have e2:=congrArg Prod.snd e;unfold sh at e1 e2;simp only at e1 e2;have:q=(min x y,max x y):=qbp (by simp only;omega) (by simp only;omega);rw[<-this];exact hq
   ·have:=Bh.mp z
    simp only at this;omega
  ·exact λz=>.inr (.inl ⟨_,z,rfl⟩)
 ·rw[ZbD hv,mem,show min x (n+y)=x by omega,show max x (n+y)=n+y by omega]
  exact .inr (.inr (Bh.mpr ⟨hx,by simp only;omega,by simp only;omega⟩))
theorem UO (a b:Nat):Z3 (nD a) (nD b)=some (nD (a+b)):=by show some (D.int _)=some (D.int _);rw[qbD]
theorem Zk4 {n m:Nat}{W W2:List Nat}{v:D}{o5 o6 o7 o8:Option D}{acc:List D}{s:Pn}(hn:n<=24)(hm:m<=24)(hl:acc.length<=10000):∃j,XO (Zv 8)
 (Zg (Jy 2 (fun ρ=>(Z7 [none,some 8] (YH (Za 1)) (Zv 0) Z1 (ZV (Zc (Za 0) (Zc (Za 1) Zf)))) (Z2 [2] ρ)))
 Zm) (ZY (n:Int) m) [some .pen,some (nD n),some (.lst acc),some (Zl W),some v,o5,o6,o7,o8] s=some (.nx [some .pen,some (nD n),some (.lst (acc++(Wn n m).map Zr)),some (Zl W),some v,o5,o6,o7,j],s):=by
 have ed:∀k:Nat,D.int ((n:Int)+(k:Int))=nD (n+k):=λk=>by show D.int _=D.int _;congr 1
 have en:∀k:Nat,ZS (nD (n+k))=n+k:=λk=>rfl;have e2:(ZY (n:Int) m).flatMap (λd=>((qk n).map λa=>(a,ZS d)).map Zr)=(Wn n m).map Zr:=by
  unfold ZY Wn;rw[qbs,qb8];congr 1
 have hcl:(Wn n m).length<=576:=by
  have h1:∀l:List Nat,(l.flatMap λj=>(qk n).map λa=>(a,n+j)).length=l.length*n:=λl=>by
   induction l with
   | nil=>simp
   | cons a l ih=>rw[qbj,qE,ih,qd,qQ,qO,qc2];omega
  unfold Wn;rw[h1,qQ];exact qat hm hn
 rw[<-e2];refine ZbB (J:=Option D) (R:=λj acc=>[some .pen,some (nD n),some (.lst acc),some (Zl W),some v,o5,o6,o7,j]) (N:=20000) (λd=>((qk n).map λa=>(a,ZS d)).map Zr) (ZY (n:Int) m) o8 acc (by rw[e2,qd];omega) λd hd j acc hacc=>?_;obtain⟨k,_,rfl⟩:=qp.mp hd;rw[ed]at hacc;rw[ed];refine⟨_,rfl,some (nD (n+k)),?_⟩;have hc:=Xm (src:=[none,some 8]) (fi:=YH (Za 1)) (τ:=Zv 0) (ft:=Z1) (fe:=ZV (Zc (Za 0) (Zc (Za 1) Zf))) (ρ:=[some .pen,some (nD n),none,some (Zl W),some v,o5,o6,o7,some (nD (n+k))]) (s:=s) (ds:=ZY 0 n) (λd=>[some d,some (nD (n+k))]) (λ_=>true) (λd=>Zr (ZS d,n+k)) (X4 rfl (by omega)) (by rw[XH,Yv];omega) (λd hd=>by
  obtain⟨x,hx,rfl⟩:=B7 hd;exact⟨rfl,rfl,λ_=>V3 rfl rfl⟩)
 rw[We,VE,qC]at hc;rw[qd,qd,qQ]at hacc;have e3:(qk n).map ((λd=>Zr (ZS d,n+k))∘λ(i:Nat)=>D.int (i:Int))=((qk n).map λa=>(a,n+k)).map Zr:=by rw[qC];rfl
 rw[e3]at hc;exact jr (Ok.seq (.sext (ds:=acc) rfl (.eq hc ⟨_,rfl,by rw[qd,qd,qQ,Yv];omega,.next ⟨rfl,rfl⟩⟩)))
theorem Zk5 {s:Pn}(ok:YO s):Ok (JH [.pen]) s λd s'=>YO s'/\∃n jD W,n<=24/\Z8 n jD/\W.length=n/\(∀x∈W,x<=1000)/\d=.tup [Zz n jD,Zl W,nD (hv n jD W)]:=by
 refine Ok.runB rfl ?_;refine Ok.seq (.sunp (.eq (a:=.tup [nD 0,.lst [],.tup [],nD 0]) (XY (ds:=[nD 0,.lst [],.tup [],nD 0]) (Zh rfl (Zh (VM rfl (by decide)) (Zh (XY rfl (by decide)) (Zh rfl rfl)))) (by show 4<=xg;decide)) ⟨_,rfl,?_⟩));refine Ok.seq (.sfor (λi ρ s'=>YO s'/\∃n L W o5 o6 o7 o8,n<=3*i/\i<=6/\UV n L/\W.length=n/\(∀x∈W,x<=1000)/\ρ=[some .pen,some (nD n),some (.lst (L.map Zr)),some (Zl W),some (nD (hv n (Xw n L) W)),o5,o6,o7,o8]) (.range1 (.op (.eq (a:=nD 2) rfl (.draw (m:=5) ok (Zh rfl (Zh rfl rfl)) (by omega) (by omega) λr s1 hr ok1=>⟨_,UO 2 r,2+r,rfl,by omega,⟨ok1,0,[],[],none,none,none,none,by omega,by omega,⟨by simp,λp hp=>by simp at hp⟩,rfl,λx hx=>by simp at hx,?_⟩,λi d ρ s' hd hI=>?_,fun ρ' s' hI=>?_⟩)))))
 ·have:hv 0 (Xw 0 []) []=0:=rfl
  rw[this];rfl
 ·obtain⟨ok2,n,L,W,o5,o6,o7,o8,hn,_,hL,hW,hb,rfl⟩:=hI
  obtain⟨hi,rfl⟩:=Us hd;refine⟨_,rfl,?_⟩;refine Ok.seq (.sset (.fn (Zh rfl (Zh rfl rfl)) ((ZjX ok2 3 (by omega)).mono λd s3 q=>?_)));obtain⟨ok3,m,t,rfl,hm,hw⟩:=q;have htl:=hw.len (show m<=24 by omega);have hLl:L.length<=576:=by rw[(Zdt hL).length_eq];exact(Jb n L).len (by omega)
  refine Ok.seq (.sset (.fn (Zh rfl (Zh rfl rfl)) ((ZaU (n:=m) (jD:=t) (by omega) ok3).mono λd s4 q=>?_)));obtain⟨ok4,W2,rfl,hW2,hb2⟩:=q;have hc:=Xm (src:=[none,none,some 1]) (fi:=XB (Ze Zq (Za 6) (dC (.int 1)))) (τ:=Br 0 1) (ft:=Z1) (fe:=ZV (Zc (Ze Z3 (Za 2) (Za 0)) (Zc (Ze Z3 (Za 2) (Za 1)) Zf))) (ρ:=[some .pen,some (nD n),some (.lst (L.map Zr)),some (Zl W),some (nD (hv n (Xw n L) W)),some (nD i),some (Zz m t),some (Zl W2),o8]) (s:=s4) (ds:=t.map Zr) (λd=>match d with | .tup [a,b]=>[some a,some b,some (nD n)] | _=>[]) (λ_=>true) (λd=>match d with | .tup [.int a,.int b]=>.tup [.int ((n:Int)+a),.int ((n:Int)+b)] | _=>.non) (Uy (Zw (d:=Zz m t) (e:=.int 1) rfl rfl web1)) (by rw[qd,Yv];omega) (λd hd=>by
   obtain⟨p,_,rfl⟩:=qp.mp hd;exact⟨rfl,rfl,λ_=>V3 (Zw rfl rfl rfl) (Zw rfl rfl rfl)⟩)
  have ec:(t.map Zr).map (λd=>match d with | .tup [.int a,.int b]=>.tup [.int ((n:Int)+a),.int ((n:Int)+b)] | _=>.non)=(t.map (sh n)).map Zr:=by
   rw[qC,qC];refine zl λp _=>?_;show D.tup [.int ((n:Int)+(p.1:Int)),.int ((n:Int)+(p.2:Int))]=D.tup [.int ((n+p.1:Nat):Int),.int ((n+p.2:Nat):Int)];rw[qbD,qbD]
  rw[We,ec]at hc;refine Ok.seq (.sown (.eq (a:=.lst ((L++t.map (sh n)).map Zr)) (Zw rfl hc ?_) ⟨rfl,?_⟩))
  ·show(if (L.map Zr).length+((t.map (sh n)).map Zr).length<=xg then some (D.lst (_++_))else none)=_
   rw[if_pos (by rw[qd,qd,qd,Yv];omega),zx]
  have hr2:W3 (Za 1) (Ze Z3 (Za 1) (Ze Zq (Za 6) (dC (.int 0)))) [some .pen,some (nD n),some (.lst ((L++t.map (sh n)).map Zr)),some (Zl W),some (nD (hv n (Xw n L) W)),some (nD i),some (Zz m t),some (Zl W2),o8] s4=some (ZY (n:Int) m,s4):=by
   have:=J6 (f:=Za 1) (g:=Ze Z3 (Za 1) (Ze Zq (Za 6) (dC (.int 0)))) (ρ:=[some .pen,some (nD n),some (.lst ((L++t.map (sh n)).map Zr)),some (Zl W),some (nD (hv n (Xw n L) W)),some (nD i),some (Zz m t),some (Zl W2),o8]) (s:=s4) (a:=n) (n:=n+m) rfl (Zw rfl (Zw (d:=Zz m t) (e:=.int 0) rfl rfl VT) (UO n m)) (by omega) (by omega)
   rwa[qch]at this
  obtain⟨j8,ej⟩:=Zk4 (n:=n) (m:=m) (W:=W) (W2:=W2) (v:=nD (hv n (Xw n L) W)) (o5:=some (nD i)) (o6:=some (Zz m t)) (o7:=some (Zl W2)) (o8:=o8) (acc:=(L++t.map (sh n)).map Zr) (s:=s4) (by omega) (by omega) (by rw[qd,qE,qd];omega);refine Ok.seq (.eq (Bd hr2 ej) ?_);have hks:=ZfT (jD:=t) (show m<=10 by omega);refine Ok.seq (.sset (.eq (Zw rfl (YA (Zh rfl (Zh rfl rfl)) (Zk3 hw (by omega) (by omega) hW2 (λx hx=>zb (hb2 x hx) (by omega)) s4)) (UO _ _)) ?_));have hadd:Z3 (Zl W) (Zl W2)=some (Zl (W++W2)):=by
   show(if (W.map nD).length+(W2.map nD).length<=xg then some (D.tup (_++_))else none)=_;rw[if_pos (by rw[qd,qd,Yv];omega)];unfold Zl;rw[zx]
  refine Ok.seq (.sunp (.eq (V3 (Zw rfl (Zw (d:=Zz m t) (e:=.int 0) rfl rfl VT) (UO n m)) (Zw rfl rfl hadd)) ⟨_,rfl,.next ⟨_,rfl,ok4,n+m,L++t.map (sh n)++Wn n m,W++W2,some (nD i),some (Zz m t),some (Zl W2),j8,by omega,by omega,Zgc hL hw,by rw[qE];omega,λx hx=>?_,?_⟩⟩))
  ·rcases qM.mp hx with z | z
   ·exact hb x z
   ·exact hb2 x z
  ·rw[Zml (Zmo hL hw) (by omega) hW hW2,zx (l₂:=Wn n m)]
   rfl
 ·obtain⟨ok2,n,L,W,o5,o6,o7,o8,hn,hi,hL,hW,hb,rfl⟩:=hI
  have hn24:n<=24:=by omega
  have hLl:L.length<=576:=by rw[(Zdt hL).length_eq];exact(Jb n L).len hn24
  exact Ok.seq (.sret (.eq (a:=.tup [Zz n (Xw n L),Zl W,nD (hv n (Xw n L) W)]) (XY (ds:=[Zz n (Xw n L),Zl W,nD (hv n (Xw n L) W)]) (Zh (V3 rfl (Ym (c:=.tup ((Xw n L).map Zr)) (Zh (Ym (Zh rfl rfl) (Zhd (Jb n L) (Zdt hL) (by omega))) rfl) rfl)) (Zh rfl (Zh rfl rfl))) (by show 3<=xg;decide)) ⟨ok2,n,Xw n L,W,hn24,Jb n L,hW,hb,rfl⟩))
theorem ZhW {α β:Type}{g:α->Option β}{h:α->β}:∀{l:List α},(∀x∈l,g x=some (h x))->l.filterMap g=l.map h
 | [],_=>rfl
 | a::l,hh=>by
  rw[zD,hh a (by simp),qX,ZhW λx hx=>hh x (by simp[hx])]
theorem ZnW {n k m:Nat}(hm:0<m)(hk:k<n):HT.stN n k m=(n-k-1) / m+1:=by
 unfold HT.stN zL;rw[Nat.min_eq_left (by omega)];have h1:(m:Int) > 0:=by omega
 simp only[h1,if_true];rw[if_pos (by omega),show(n:Int)-(k:Int)-1=((n-k-1:Nat):Int) by omega];have:((n-k-1:Nat):Int) / (m:Int)=(((n-k-1) / m:Nat):Int):=(Int.natCast_ediv _ _).symm;rw[this];generalize (n-k-1) / m=q;omega
theorem ZnX {n k m:Nat}(hk:k<m)(hkn:k<n){α:Type}(f:Nat->α):HT.stL ((qk n).map f) k m=(Yh n (· % m) k).map f:=by
 have hm:0<m:=by omega
 have lt:∀j,j∈qk ((n-k-1) / m+1)↔k+j*m<n:=λj=>by
  rw[qG];have:=Nat.le_div_iff_mul_le (x:=j) (y:=n-k-1) hm;omega
 unfold HT.stL;rw[qd,qQ,ZnW hm hkn,Nat.min_eq_left (by omega)];have e:Yh n (· % m) k=(qk ((n-k-1) / m+1)).map λj=>k+j*m:=by
  refine Zdb ((JV n).sublist zm) (ze.mpr ((JV _).imp λ{a b} h=>?_)) λx=>?_
  ·have:=Nat.mul_lt_mul_of_pos_right h hm;omega
  ·rw[VI,qp]
   constructor
   ·rintro⟨h1,h2⟩
    have h3:=Nat.div_add_mod x m;rw[Nat.mul_comm]at h3;have h2:x % m=k:=h2;exact⟨x / m,(lt _).mpr (by omega),by omega⟩
   ·rintro⟨j,hj,rfl⟩
    refine⟨(lt j).mp hj,?_⟩;show(k+j*m) % m=k;rw[Nat.add_mul_mod_self_right,qb9 hk]
 rw[e,qC];refine ZhW λj hj=>?_;rw[qI,qw (by rw[qQ];exact(lt j).mp hj),List.getElem_range];rfl
theorem ZhX (l:List Nat):(l.map nD).map ZS=l:=by rw[qC];exact qcq l
theorem Zk6 {f:List Nat}(h:f≠[]):BE [Zl f]=some (nD (Y1 f)):=by
 have:=Zde h;exact this
theorem Zhh {s:Pn}(ok:YO s):Ok (JK [.pen]) s λd s'=>YO s'/\∃n jD W,n<=24/\Z8 n jD/\W.length=n/\(∀x∈W,x<=1000)/\d=.tup [Zz n jD,Zl W,nD (hv n jD W)]:=by
 refine Ok.runB rfl ?_;refine Ok.seq (.sunp (.tup (.cons (.op (.eq (a:=nD 11) rfl (.draw (m:=14) ok (Zh rfl (Zh rfl rfl)) (by omega) (by omega) λr s1 hr ok1=>⟨_,UO 11 r,.cons (.op (.eq (a:=nD 1) rfl (.draw (m:=6) ok1 (Zh rfl (Zh rfl rfl)) (by omega) (by omega) λr2 s2 hr2 ok2=>⟨_,UO 1 r2,.nil ⟨two_le,_,rfl,?_⟩⟩)))⟩))))));have hn0:11<=11+r:=by omega
 have hn:11+r<=24:=by omega
 have hm0:0<1+r2:=by omega
 have hm:1+r2<=6:=by omega
 generalize 11+r=n at hn hn0;generalize 1+r2=m at hm hm0;refine Ok.seq (.sset (.draw (m:=2) ok2 (Zh rfl (Zh rfl rfl)) (by omega) (by omega) λwN s3 hwN ok3=>?_));obtain⟨w,rfl⟩:∃w:Bool,wN=w.toNat:=by
  have:wN=0∨wN=1:=by omega
  rcases this with rfl | rfl
  ·exact⟨false,rfl⟩
  ·exact⟨true,rfl⟩
 refine Ok.seq (.sown (.eq (a:=.lst []) (VM rfl (by decide)) ⟨rfl,?_⟩));have hmod:∀x:Nat,Wz (nD x) (nD m)=some (nD (x % m)):=λx=>by
  show(if decide ((0:Int)<(m:Int))=true then some (D.int ((x:Int) % (m:Int)))else none)=_;rw[if_pos (by simp;omega)];congr 2
 obtain⟨j,ej⟩:=Zmn (R:=λoa ob acc=>[some .pen,some (nD n),some (nD m),some (nD w.toNat),some (.lst acc),oa,ob,none,none,none]) (ia:=5) (ib:=6) (fe:=W3 (Ze Z3 (Za 5) (dC (.int 1))) (Za 1)) (T:=ZO (Ze Yk (ZM Zhq (Zc (Ze Yk (Ze Wz (Za 5) (Za 2)) (Ze Wz (Za 6) (Za 2))) Zf)) (Za 3))) (A:=Zg (WT 4 (fun ρ=>(ZV (Zc (Za 5) (Zc (Za 6) Zf))) (Z2 [4] ρ))) Zm) (p:=λp=>(p.1 % m==p.2 % m)==w) (n:=n) (N:=576) (s:=s3) (λ_ _ _ _=>rfl) (λ_ _ _ _=>rfl)
  (λa ob acc ha=>J6 (a:=a+1) (n:=n) (Zw (e:=nD 1) rfl rfl (UO a 1)) rfl (by omega) (by omega)) (λa b acc _ _=>by
   have h1:Yk (nD (a % m)) (nD (b % m))=some (.bl (a % m==b % m)):=by rw[Vi];congr 2;rw[qaG];simp;omega
   have h2:Zhq [.bl (a % m==b % m)]=some (nD (a % m==b % m).toNat):=by cases (a % m==b % m) <;> rfl
   have h3:Yk (nD (a % m==b % m).toNat) (nD w.toNat)=some (.bl ((a % m==b % m)==w)):=by rw[Vi];cases (a % m==b % m) <;> cases w <;> rfl
   exact Yw (Zw (Ym (Zh (Zw (Zw rfl rfl (hmod a)) (Zw rfl rfl (hmod b)) h1) rfl) h2) rfl h3)) (λa b acc hacc=>jr (.seq (.sapp (ds:=acc) rfl (by rw[Yv];omega) (.eq (a:=Zr (a,b)) (V3 rfl rfl) (.next ⟨rfl,rfl⟩))))) none none [] (by
   have:=(Ze1 n (· % m) w).len hn;rw[qag,yS];exact this)
 rw[qa0]at ej;refine Ok.seq (.eq (Bd (X4 (n:=n) rfl (by omega)) ej) ?_);have hw:=Ze1 n (· % m) w;have hgm:((YF n).filter λp=>(p.1 % m==p.2 % m)==w)=XS n (· % m) w:=rfl;rw[hgm];refine Ok.seq (.sset (.eq (a:=Zz n (XS n (· % m) w)) (V3 rfl (Ym (Zh rfl rfl) rfl)) ?_));refine Ok.seq (.sset (.fn (Zh rfl (Zh rfl rfl)) ((ZaU (n:=n) (jD:=XS n (· % m) w) hn ok3).mono λd s4 q=>?_)));obtain⟨ok4,W,rfl,hW,hb⟩:=q;have eW:W=(qk n).map λx=>W.getD x 0:=by rw[<-hW];exact(TS.range_getD W 0).symm
 have hgw:∀k<m,dStp (Za 1) (By (Za 0)) (Za 2) [some (nD k),some (Zl W),some (nD m)] s4=some (Zl ((Yh n (· % m) k).map λx=>W.getD x 0),s4):=λk hk=>by
  show(if 0<=(k:Int)/\(((k:Int)=0/\(m:Int)=1)∨1<(m:Int))then Zy (D.tup (HT.stL (W.map nD) (k:Int).toNat (m:Int).toNat))else ZG) s4=_;rw[if_pos (by omega),qaL,qaL];have:W.map nD=(qk n).map λx=>nD (W.getD x 0):=by
   conv=>lhs;rw[eW]
   rw[qC];rfl
  rw[this,ZnX hk (by omega)];show some (D.tup _,s4)=some (D.tup _,s4);rw[qC];rfl
 have hc:=Xm (src:=[none,some 8,some 2]) (fi:=YH (Za 2)) (τ:=Zv 0) (ft:=Z1) (fe:=dStp (Za 1) (By (Za 0)) (Za 2)) (ρ:=[some .pen,some (nD n),some (nD m),some (nD w.toNat),some (.lst ((XS n (· % m) w).map Zr)),j.1,j.2,some (Zz n (XS n (· % m) w)),some (Zl W),none]) (s:=s4) (ds:=ZY 0 m) (λd=>[some d,some (Zl W),some (nD m)]) (λ_=>true) (λd=>Zl ((Yh n (· % m) (ZS d)).map λx=>W.getD x 0)) (X4 rfl (by omega)) (by rw[XH,Yv];omega) (λd hd=>by
  obtain⟨x,hx,rfl⟩:=B7 hd;exact⟨rfl,rfl,λ_=>hgw x hx⟩)
 rw[We,VE,qC]at hc;refine Ok.seq (.sset (.eq hc ?_));have hWb:∀x,W.getD x 0<=1000:=λx=>by
  rw[qz]
  cases e:W[x]? with
  | none=>simp
  | some v=>exact hb v (zt e)
 have hdue:=Zmm (g:=(· % m)) (w:=w) hn (λx _=>qaS x hm0) (λj hj=>⟨j,by omega,qb9 hj⟩) hm0 W;have hne:∀k<m,(Yh n (· % m) k).map (λx=>W.getD x 0)≠[]:=λk hk z=>by
  have:k∈Yh n (· % m) k:=VI.mpr ⟨by omega,qb9 hk⟩;rw[qcQ.mp z]at this
  cases this
 have fin:∀d:Nat,d=hv n (XS n (· % m) w) W->YO s4/\∃n_1 jD W_1,n_1<=24/\Z8 n_1 jD/\W_1.length=n_1/\(∀x∈W_1,x<=1000)/\D.tup [Zz n (XS n (· % m) w),Zl W,nD d]=.tup [Zz n_1 jD,Zl W_1,nD (hv n_1 jD W_1)]:=λd e=>⟨ok4,n,_,W,hn,hw,hW,hb,by rw[e]⟩
 cases w with
 | true=>
  refine Ok.seq (.sif (.eq (a:=true) (Yw (Zw (d:=.int 1) (e:=.int 1) rfl rfl (Vi _ _))) ?_));have hc2:=Xm (src:=[none]) (fi:=Yy (Za 9)) (τ:=Zv 0) (ft:=Z1) (fe:=ZM BD (Zc (Za 0) Zf)) (ρ:=[some .pen,some (nD n),some (nD m),some (nD true.toNat),some (.lst ((XS n (· % m) true).map Zr)),j.1,j.2,some (Zz n (XS n (· % m) true)),some (Zl W),some (.lst ((qk m).map ((λd=>Zl ((Yh n (· % m) (ZS d)).map λx=>W.getD x 0))∘λ(i:Nat)=>D.int (i:Int))))]) (s:=s4) (ds:=(qk m).map ((λd=>Zl ((Yh n (· % m) (ZS d)).map λx=>W.getD x 0))∘λ(i:Nat)=>D.int (i:Int))) (λd=>[some d]) (λ_=>true) (λd=>match d with | .tup ds=>nD (ds.map ZS).sum | _=>.non) (WM rfl) (by rw[qd,qQ,Yv];omega) (λd hd=>by
   obtain⟨k,_,rfl⟩:=qp.mp hd;refine⟨rfl,rfl,λ_=>Ym (Zh rfl rfl) ?_⟩;show BD [Zl ((Yh n (· % m) k).map λx=>W.getD x 0)]=some (nD ((((Yh n (· % m) k).map λx=>W.getD x 0).map nD).map ZS).sum);rw[Zmk,ZhX])
  have e2:((qk m).map ((λd=>Zl ((Yh n (· % m) (ZS d)).map λx=>W.getD x 0))∘λ(i:Nat)=>D.int (i:Int))).map (λd=>match d with | .tup ds=>nD (ds.map ZS).sum | _=>.non)=((qk m).map λk=>((Yh n (· % m) k).map λx=>W.getD x 0).sum).map nD:=by
   rw[qC,qC];refine zl λk _=>?_;show nD ((((Yh n (· % m) k).map λx=>W.getD x 0).map nD).map ZS).sum=nD ((Yh n (· % m) k).map λx=>W.getD x 0).sum;rw[ZhX]
  rw[We,e2]at hc2;refine Ok.seq (.sret (.eq (XY (ds:=[Zz n (XS n (· % m) true),Zl W,nD (Y1 ((qk m).map λk=>((Yh n (· % m) k).map λx=>W.getD x 0).sum))]) (Zh rfl (Zh rfl (Zh (Ym (Zh hc2 rfl) (Zde λz=>?_)) rfl))) (by show 3<=xg;decide)) (fin _ hdue.symm)));have:=congrArg qbk z;rw[qd,qQ]at this;simp at this;omega
 | false=>
  refine Ok.seq (.sif (.eq (a:=false) (Yw (Zw (d:=.int 0) (e:=.int 1) rfl rfl (Vi _ _))) (.next ?_)));have hc2:=Xm (src:=[none]) (fi:=Yy (Za 9)) (τ:=Zv 0) (ft:=Z1) (fe:=ZM BE (Zc (Za 0) Zf)) (ρ:=[some .pen,some (nD n),some (nD m),some (nD false.toNat),some (.lst ((XS n (· % m) false).map Zr)),j.1,j.2,some (Zz n (XS n (· % m) false)),some (Zl W),some (.lst ((qk m).map ((λd=>Zl ((Yh n (· % m) (ZS d)).map λx=>W.getD x 0))∘λ(i:Nat)=>D.int (i:Int))))]) (s:=s4) (ds:=(qk m).map ((λd=>Zl ((Yh n (· % m) (ZS d)).map λx=>W.getD x 0))∘λ(i:Nat)=>D.int (i:Int))) (λd=>[some d]) (λ_=>true) (λd=>match d with | .tup ds=>nD (Y1 (ds.map ZS)) | _=>.non) (WM rfl) (by rw[qd,qQ,Yv];omega) (λd hd=>by
   obtain⟨k,hk,rfl⟩:=qp.mp hd;refine⟨rfl,rfl,λ_=>Ym (Zh rfl rfl) ?_⟩;show BE [Zl ((Yh n (· % m) k).map λx=>W.getD x 0)]=some (nD (Y1 ((((Yh n (· % m) k).map λx=>W.getD x 0).map nD).map ZS)));rw[Zk6 (hne k (qG.mp hk)),ZhX])
  have e2:((qk m).map ((λd=>Zl ((Yh n (· % m) (ZS d)).map λx=>W.getD x 0))∘λ(i:Nat)=>D.int (i:Int))).map (λd=>match d with | .tup ds=>nD (Y1 (ds.map ZS)) | _=>.non)=((qk m).map λk=>Y1 ((Yh n (· % m) k).map λx=>W.getD x 0)).map nD:=by
   rw[qC,qC];refine zl λk _=>?_;show nD (Y1 ((((Yh n (· % m) k).map λx=>W.getD x 0).map nD).map ZS))=nD (Y1 ((Yh n (· % m) k).map λx=>W.getD x 0));rw[ZhX]
  rw[We,e2]at hc2;refine Ok.seq (.sret (.eq (XY (ds:=[Zz n (XS n (· % m) false),Zl W,nD ((qk m).map λk=>Y1 ((Yh n (· % m) k).map λx=>W.getD x 0)).sum]) (Zh rfl (Zh rfl (Zh (Ym (Zh hc2 rfl) (ZcB _ λx hx=>?_)) rfl))) (by show 3<=xg;decide)) (fin _ hdue.symm)));obtain⟨k,hk,rfl⟩:=qp.mp hx;obtain⟨y,_,e⟩:=qp.mp (Jl (hne k (qG.mp hk)));rw[<-e];have:=hWb y;omega
theorem Zk7 (ns:List Int)(h:ns.length<=63):∃s',ZkY (none::some .pen::zT 4 none) ([0,0],ns)=some (.rt (.bl true),s'):=by
 have ok0:YO ([0,0],ns):=⟨0,0,rfl,by omega,by omega⟩;suffices hh:Ok (ZkY (none::some .pen::zT 4 none)) ([0,0],ns) λo s'=>o=.rt (.bl true) by
  obtain⟨o,s',e,rfl⟩:=hh;exact⟨s',e⟩
 have big:∀{W:List Nat},(∀x∈W,x<=1000)->∀x∈W,x<=4294967296:=λh x hx=>zb (h x hx) (by omega);refine Ok.seq (.sfor (λi ρ s'=>YO s'/\∃o2 o3 o4,ρ=[none,some .pen,o2,o3,o4,none]) (.eq (X4 (n:=2) rfl (by omega)) ⟨⟨ok0,none,none,none,rfl⟩,λi d ρ s' hd hI=>?_,fun ρ' s' hI=>?_⟩))
 ·obtain⟨ok1,o2,o3,o4,rfl⟩:=hI
  refine⟨_,rfl,?_⟩;refine Ok.seq (.sset (.fn (Zh rfl (Zh rfl rfl)) ((ZjX ok1 9 (by omega)).mono λd s2 q=>?_)));obtain⟨ok2,n,jD,rfl,hn,hw⟩:=q;refine Ok.seq (.sset (.fn (Zh rfl (Zh rfl rfl)) ((ZaU (n:=n) (jD:=jD) (by omega) ok2).mono λd s3 q=>?_)));obtain⟨ok3,W,rfl,hW,hb⟩:=q;have hks:=ZfT (jD:=jD) (show n<=10 by omega);exact Ok.seq (.sif (.eq (a:=false) (VD (b:=true) (Yw (YA (Zh rfl (Zh rfl (Zh (YA (Zh rfl (Zh rfl rfl)) (Zk3 hw (by omega) (by omega) hW (big hb) s3)) rfl))) (ZbC hw (by omega) hW (big hb) s3)))) (.next (.next ⟨_,rfl,ok3,_,_,_,rfl⟩))))
 ·obtain⟨ok1,o2,o3,o4,rfl⟩:=hI
  refine Ok.seq (.sset (.fn (Zh rfl rfl) ((ZoA ok1).mono λd s2 q=>?_)));obtain⟨ok2,n,jD,rfl,hn,hw,hks⟩:=q;refine Ok.seq (.sset (.fn (Zh rfl (Zh rfl rfl)) ((ZaU (n:=n) (jD:=jD) (by omega) ok2).mono λd s3 q=>?_)));obtain⟨ok3,W,rfl,hW,hb⟩:=q;refine Ok.seq (.sif (.eq (a:=false) (VD (b:=true) (Yw (YA (Zh rfl (Zh rfl (Zh (YA (Zh rfl (Zh rfl rfl)) (Zk3 hw (by omega) (by omega) hW (big hb) s3)) rfl))) (ZbC hw (by omega) hW (big hb) s3)))) (.next ?_)));refine Ok.seq (.sunp (.fn (Zh rfl rfl) ((Zk5 ok3).mono λd s4 q=>?_)));obtain⟨ok4,n,jD,W,hn,hw,hW,hb,rfl⟩:=q;refine⟨_,rfl,?_⟩;refine Ok.seq (.sif (.eq (a:=false) (VD (b:=true) (Yw (YA (Zh rfl (Zh rfl (Zh rfl rfl))) (ZbC hw hn hW (big hb) s4)))) (.next ?_)));refine Ok.seq (.sunp (.fn (Zh rfl rfl) ((Zhh ok4).mono λd s5 q=>?_)));obtain⟨ok5,n,jD,W,hn,hw,hW,hb,rfl⟩:=q;exact⟨_,rfl,Ok.seq (.sret (.eq (YA (Zh rfl (Zh rfl (Zh rfl rfl))) (ZbC hw hn hW (big hb) s5)) rfl))⟩
end K40
namespace K40
open L2 TF TQ
open TP
open TP2
open TP3
theorem ZnY {P:xB}{w:World}{K:qm}{mg:Str->Option Value}{base:Heap}{ka:Addr}{jL:xA}{L:List (Addr×Str)}(lo:Wc L)(F:Fun K "law" "law" s_law ka jL)(T:Txt mg)(jY:ZP P w K mg base 4 "_law_grouped" 1 true (YG (YM K) L) JK)(jK:ZP P w K mg base 2 "_law_heaviest" 2 false Yc Vx)(kb:ZP P w K mg base 3 "_law_loose" 1 true (YG (YM K) L) JL)(jR:ZP P w K mg base 56 "_law_right" 3 true (Xo L) VY)(jS:ZP P w K mg base 4 "_law_tied_parts" 1 true (YG (YM K) L) JH)(jX:ZP P w K mg base 3 "_law_web" 2 true (YG (YM K) L) Ut)(jJ:ZP P w K mg base 3 "_law_weighed" 2 true (YG (YM K) L) Vl) :
  FnOk P w K mg base ZW 57 ka jL ["script"] (ZgH K L):=by
 have nd:=Zha.nd;refine F.ok Zha (λvs H Q E h=>?_) λcdv A outer s0 H vs Q E hr h=>?_
 ·obtain⟨a,ns,rfl,_⟩:=h
  rfl
 ·obtain⟨a,ns,rfl,sq,hl,hTb,hQ⟩:=h
  obtain⟨s',hs'⟩:=Zk7 ns hl;refine⟨_,VA (UA (i:=1) nd rfl (qP rfl) (ZlH (Xb (pv 0) (Xb Xh (Xb Xh Xy))))) (Zj7 (GG:=YG (YM K) L) λG hG=>Zmj lo T hr jY jK kb jR jS jX jJ G hG),?_⟩;refine⟨_,rfl,(by show 3<=xg;decide),λp hp hk=>?_⟩;exact Zkk (n:=4) (N:=["script","_law_pen","_law_turn","_law_told","_law_weights","_law_due"]) sq hTb hp hk hQ hs'
noncomputable def ZmJ:List DRow:=[dR "pairs_of" 1 189 2 1 15 196 true "tiefold.things" 187,
 dR "near" 3 201 9 2 22 204 false "tiefold.webs" 199,
 dR "all_near" 4 207 11 1 27 210 false "tiefold.webs" 199,
 dR "are_tied" 5 213 14 3 32 219 true "tiefold.webs" 199,
 dR "marked_ties" 6 222 16 1 39 225 false "tiefold.webs" 199,
 dR "turned" 7 228 18 1 44 233 true "tiefold.webs" 199,
 dR "web_where" 8 236 21 2 51 239 false "tiefold.webs" 199,
 dR "heaviest_knot" 10 244 25 2 56 247 false "tiefold.most" 242,
 dR "heaviest_among" 11 250 28 3 61 253 false "tiefold.most" 242,
 dR "apart_among" 12 256 40 3 66 259 false "tiefold.most" 242,
 dR "heaviest_with" 13 262 42 4 71 265 false "tiefold.most" 242,
 dR "weighed" 14 268 45 2 76 271 false "tiefold.most" 242,
 dR "heaviest" 16 276 48 2 81 282 true "tiefold.weights" 274,
 dR "_law_fill" 18 287 52 2 88 293 true "law_tiefold_k40_the_heaviest" 285,
 dR "_law_next" 19 296 58 2 95 304 true "law_tiefold_k40_the_heaviest" 285,
 dR "_law_web" 20 307 71 2 102 310 false "law_tiefold_k40_the_heaviest" 285,
 dR "_law_tied" 21 313 86 3 107 319 true "law_tiefold_k40_the_heaviest" 285,
 dR "_law_is_knot" 22 322 88 2 114 329 true "law_tiefold_k40_the_heaviest" 285,
 dR "_law_knots" 23 332 94 1 121 335 false "law_tiefold_k40_the_heaviest" 285,
 dR "_law_most" 24 338 106 1 126 341 false "law_tiefold_k40_the_heaviest" 285,
 dR "_law_places_right" 25 344 108 2 131 350 true "law_tiefold_k40_the_heaviest" 285,
 dR "_law_weighed" 26 353 115 2 138 361 true "law_tiefold_k40_the_heaviest" 285,
 dR "_law_heaviest" 27 364 121 2 145 367 false "law_tiefold_k40_the_heaviest" 285,
 dR "_law_right" 28 370 126 3 150 373 false "law_tiefold_k40_the_heaviest" 285,
 dR "_law_loose" 29 376 136 1 155 384 true "law_tiefold_k40_the_heaviest" 285,
 dR "_law_tied_parts" 30 387 143 1 162 390 false "law_tiefold_k40_the_heaviest" 285,
 dR "_law_grouped" 31 393 154 1 167 396 false "law_tiefold_k40_the_heaviest" 285,
 dR "law" 32 399 168 1 172 408 true "law_tiefold_k40_the_heaviest" 285]
noncomputable def KF (P:Params):qm:=Zov ZU 181 ([dE P "__name__" 165 (.str "law_tiefold_k40_the_heaviest" 285)] ++ [dE P "__doc__" 166 (.none)] ++ [dE P "__package__" 167 (.none)] ++ [dE P "__loader__" 168 (.builtin "__main__.__loader__#opaque")] ++ [dE P "__spec__" 169 (.none)]++dRs P [nE "__annotations__" 170 6,nE "__builtins__" 171 4] ++ [dE P "__file__" 173 (.str "/claim/cut.py" 172)] ++ [dE P "__cached__" 174 (.none)]++dRs P [nE "pairs_of" 198 21,nE "near" 206 26,nE "all_near" 212 31,nE "are_tied" 221 38,nE "marked_ties" 227 43,nE "turned" 235 50,nE "web_where" 241 55,nE "heaviest_knot" 249 60,nE "heaviest_among" 255 65,nE "apart_among" 261 70,nE "heaviest_with" 267 75,nE "weighed" 273 80,nE "heaviest" 284 87,nE "_law_fill" 295 94,nE "_law_next" 306 101,nE "_law_web" 312 106,nE "_law_tied" 321 113,nE "_law_is_knot" 331 120,nE "_law_knots" 337 125,nE "_law_most" 343 130,nE "_law_places_right" 352 137,nE "_law_weighed" 363 144,nE "_law_heaviest" 369 149,nE "_law_right" 375 154,nE "_law_loose" 386 161,nE "_law_tied_parts" 392 166,nE "_law_grouped" 398 171,nE "law" 410 178]) 37 ZmJ
noncomputable def asF:List Addr:=[3,20,21,25,26,30,31,37,38,42,43,49,50,54,55,59,60,64,65,69,70,74,75,79,80,86,87,93,94,100,101,105,106,112,113,119,120,124,125,129,130,136,137,143,144,148,149,153,154,160,161,165,166,170,171,177,178]
theorem eF:∀P,asF=(KF P).map (·.1):=λ_=>by kernel_rfl
theorem okF (P:Params):Ze0 (KF P) ZU ZmJ:=by
 repeat refine⟨⟨by kernel_rfl,by kernel_rfl,by kernel_rfl⟩,?_⟩
 exact trivial
noncomputable abbrev LF:List (Addr×Str):=[(45,(qav "turned.<locals>.<lambda>"))]
theorem ZnZ {P:xB}{w:World}{h:Heap}{mg:Str->Option Value}{fa:Addr}(X:(KF w.params).In h)(G:h.Ns mainGlobals mg)(hfa:mg "law" = some (.ref fa)) :
  ∃fd:xA,(∀(s:Shared) (v:Value),BindsTo s fd ⟨[v],[]⟩ [("script",v)])/\∀base:Heap,(KF w.params).In base->base.Ns mainGlobals mg->yZ base 49 45->JF mg base->FnOk P w (KF w.params) mg base ZW 57 fa fd ["script"] (ZgH (KF w.params) LF):=by
 have lo:Wc LF:=TF.lok_nd (by decide);have zn:∀x,qb7 (KF w.params) mainGlobals x=some none->mg x=none:=λ_ z=>PySem.W.mg_none_of X G z;have T:Txt mg:=⟨zn _ (by kernel_rfl),zn _ (by kernel_rfl),zn _ (by kernel_rfl),zn _ (by kernel_rfl),zn _ (by kernel_rfl),zn _ (by kernel_rfl),zn _ (by kernel_rfl),zn _ (by kernel_rfl),zn _ (by kernel_rfl),zn _ (by kernel_rfl),zn _ (by kernel_rfl),zn _ (by kernel_rfl),zn _ (by kernel_rfl)⟩;have mk:=@mkc P w (KF w.params) mg;have at_:=λj {r} e=>@ZnU _ h mg _ _ (okF w.params) X G j r e;obtain⟨f1,_,F1,m1,_⟩:=at_ 13 rfl;obtain⟨f2,_,F2,m2,_⟩:=at_ 14 rfl;obtain⟨f3,_,F3,m3,_⟩:=at_ 21 rfl;obtain⟨f4,_,F4,m4,_⟩:=at_ 26 rfl;obtain⟨f5,_,F5,m5,_⟩:=at_ 18 rfl;obtain⟨f6,_,F6,m6,_⟩:=at_ 22 rfl;obtain⟨f7,_,F7,m7,_⟩:=at_ 24 rfl;obtain⟨f8,_,F8,m8,_⟩:=at_ 16 rfl;obtain⟨f9,_,F9,m9,_⟩:=at_ 17 rfl;obtain⟨f10,_,F10,m10,_⟩:=at_ 20 rfl;obtain⟨f11,_,F11,m11,_⟩:=at_ 4 rfl;obtain⟨f12,_,F12,m12,_⟩:=at_ 3 rfl;obtain⟨f13,_,F13,m13,_⟩:=at_ 1 rfl;obtain⟨f14,_,F14,m14,_⟩:=at_ 2 rfl;obtain⟨f15,_,F15,m15,_⟩:=at_ 9 rfl;obtain⟨f16,_,F16,m16,_⟩:=at_ 11 rfl;obtain⟨f17,_,F17,m17,_⟩:=at_ 10 rfl;obtain⟨f18,_,F18,m18,_⟩:=at_ 8 rfl;obtain⟨f19,_,F19,m19,_⟩:=at_ 0 rfl;obtain⟨f20,_,F20,m20,_⟩:=at_ 6 rfl;obtain⟨f21,_,F21,m21,e21⟩:=at_ 5 rfl;obtain⟨f22,_,F22,m22,_⟩:=at_ 7 rfl;obtain⟨f23,_,F23,m23,_⟩:=at_ 12 rfl;obtain⟨f24,_,F24,m24,_⟩:=at_ 23 rfl;obtain⟨f25,_,F25,m25,_⟩:=at_ 15 rfl;obtain⟨f26,_,F26,m26,_⟩:=at_ 25 rfl;obtain⟨f27,_,F27,m27,_⟩:=at_ 27 rfl
 cases hfa.symm.trans m27
 have kf:=λb=>mk b F12 m12 (Zf3 F12 T );have kx:=λb=>mk b F19 m19 (Zf2 F19 T );have kA:JA P w (KF w.params) mg 5 "web_where" 2 false (Jz P w (KF w.params) mg 4 2 Tl) JO:=⟨f20,_,_,λb=>ZeU F20 T (kx b),m20,F20.kp,bdc ["row","tied"] F20⟩;obtain⟨oc,od,kV,doc,pm,an,cdv,ct,osl,rfl,lk,hcd⟩:=F27.ex;refine⟨yR "law" "law" (WL s_law) (Wg s_law) (ZH s_law) .none kV doc pm an cdv ct,λs v=>.of_eq rfl,λbase _ _ hC21 hBm=>?_⟩;have km:=mk base F1 m1 (ZeV F1 T );have kB:=mk base F2 m2 (ZeZ F2 T km Zk0);have jE:ZP P w (KF w.params) mg base 2 "_law_next" 2 true (YG (YM (KF w.params)) LF) YJ:=Zj8 kB Zkl;have jJ:=mk base F3 m3 (Zck F3 T lo jE);have jY:=mk base F4 m4 (Zcm F4 T lo jE jJ);have kh:=mk base F5 m5 (ZdD F5 T );have jK:=mk base F6 m6 (ZbW F6 T kh);have kb:=mk base F7 m7 (ZdE F7 T lo jE);have kj:=mk base F8 m8 (ZeW F8 T );have ke:=mk base F9 m9 (Zcl F9 T kj);have j6:=mk base F10 m10 (ZaO F10 T ke);have jW:=mk base F11 m11 (Zdn F11 T );have ko:=kf base;have kC:=mk base F13 m13 (Zmi F13 T ko);have kq:=mk base F14 m14 (Zf4 F14 T jW kC);have kg:=mk base F15 m15 (Zdo F15 T );have j9:=mk base F16 m16 (Zg8 F16 T );have rr:∀j:Nat,ZP P w (KF w.params) mg base (1+2*j) "heaviest_among" 3 false Yc (Ul j):=by
  intro j
  induction j with
  | zero=>exact ZP.none m18 F18.kp (bdc ["aparts","weights","places"] F18)
  | succ j ih=>
   have j7:=mk base F17 m17 (ZbU F17 T (by omega) ih);have z:ZP P w (KF w.params) mg base (1+2*j+2) "heaviest_among" 3 false Yc (Ul (j+1)):=mk base F18 m18 (Zbv F18 T (by omega) kg ih j7 j9);exact z.mono (h:=by omega)
 have jM:=(rr 26).mono (k:=53);have ky:=kx base;have ki:=kA;have kz:=mk base F21 m21 (Zi6 F21 T lo jW ki kf (tP:=45) e21 hC21 hBm (by simp));have kc:=mk base F22 m22 (ZbV F22 T lo kq jM kz);have kr:=mk base F23 m23 (Zf5 F23 T lo kc j9);have jR:=mk base F24 m24 (ZdF F24 T lo j6 kr);have jX:=mk base F25 m25 (Zf6 F25 T lo jE);have jS:=mk base F26 m26 (Zbd F26 T lo jK jE jX jJ);exact ZnY lo F27 T jY jK kb jR jS jX jJ
noncomputable def tb:List (Str×Addr×Addr):=[("turned",49,45)]
theorem Zn0:∀P q,(P,q)∈LF->∃x c,(x,c,P)∈tb:=by
 intro P q h;simp only[qu,Prod.mk.injEq,yg,or_false]at h;rcases h with⟨rfl,_⟩
 ·exact⟨"turned",49,by simp[tb]⟩
noncomputable def qF:xB:=PySem.W.view PySem.Challenge.pw_tiefold_k40_the_heaviest [1,3,4,5,6,7,8,10,11,12,13,14,16,18,19,20,21,22,23,24,25,26,27,28,29,30,31,32]
theorem walk {loose:List Str}{XP:(Str->Option Value)->Heap->Prop}{YP:World->Heap->Prop}(hY:∀(w:World) (h:Heap),YP w h->(KF w.params).In h) :
  qcE qF loose XP YP PySem.Challenge.rw_tiefold_k40_the_heaviest.row.toRowW (Zhc s_law) [] (λf vs=>qcA f vs):=
 Zka (K:=KF) (tb:=tb) (n:=63) (k:=57) (x:="script") (CX:=λ_=>ZW) (sp:=λw=>ZgH (KF w.params) LF) rfl (by decide) rfl ⟨rfl,by decide,by decide,rfl⟩ hY
  (qcD.mpr ⟨qau.mp (by kernel_rfl),(λ_ h=>nomatch h)⟩)
  (λw=>qcD.mpr ⟨by kernel_rfl,(λ_ h=>nomatch h)⟩) (λw=>by kernel_rfl)
  (λw mg fa h h1 h2 h3=>let ⟨fd,hb,hF⟩:=ZnZ h1 h2 h3;⟨fd,hb,λbase g1 g2 g3 g4=>hF base g1 g2 (g3 ("turned",49,45) (by simp[tb])) g4⟩)
  (λ_ _ a ns hl hS hTb=>⟨a,ns,rfl,hS,hl,ZgI (tb:=tb) Zn0 hTb,λ_=>rfl⟩) λ_ _ _ _ _ z=>z
theorem left:PySem.W.LeftO PySem.Challenge.rw_tiefold_k40_the_heaviest.prog qF [] (λs=>PySem.W.xlAt qF [] s&&PySem.W.recOk PySem.Challenge.rw_tiefold_k40_the_heaviest.row.records s) (qaC KF asF eF).obs (qaC KF asF eF).val 1812:=λw=>by kernel_rfl
theorem said:PySem.Challenge.rw_tiefold_k40_the_heaviest.wellSaid=true:=by kernel_rfl
end K40
open PySem.W
set_option maxRecDepth 100000 in
set_option maxHeartbeats 0 in
theorem PySem.Challenge.cw_tiefold_k40_the_heaviest_holds : PySem.Challenge.rw_tiefold_k40_the_heaviest.Holds := by
 refine TF.head_of (q:=K40.qF) (K:=K40.KF) (st:=K40.s_law) K40.said K40.left (by kernel_rfl) (by kernel_rfl) (by kernel_rfl) (by decide +kernel) ⟨rfl,rfl,rfl,rfl,rfl,by decide +kernel⟩ ?hw rfl (K40.walk λw h Y=>kIn_of Y)
 case hw=>w_witness2
